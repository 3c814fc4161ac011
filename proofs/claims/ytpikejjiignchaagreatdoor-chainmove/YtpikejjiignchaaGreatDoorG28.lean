import Derived.Test.YtpikejjiignchaaGreatDoorH
import Derived.Test.YtpikejjiignchaaGreatDoorG27
open Go.Proofs.Tryz
open Bool renaming not_eq_true->cS,and_eq_true->bL
open Go renaming heap_alloc_new->aK,lt_of_block->aA,maxLen->cD
open Go.Ending renaming returned->dX
open Go.IntKind renaming i64->J
open Go.Obj renaming cells->dW
open Go.Proofs.Tryz renaming prog->aB
open Go.Sort renaming swp->bM,PermIn->dS
open Go.Value renaming int->E,slice->F,tuple->dY,pointer->dZ,bool->eA
open Go.World renaming block_lt_of_cell?->aC,cell?->dI
open List renaming length_map->dF,getElem_mem->bK,length_eq_zero_iff->aJ,take_of_length_le->aY,drop_eq_getElem_cons->aN
open Nat renaming lt_of_lt_of_le->aI,zero_le->aP,le_refl->aE
open Prod.mk renaming injEq->cJ
set_option maxHeartbeats 12800000
set_option maxRecDepth 10000
namespace Go.Proofs.YtpikejjiignchaaGreatDoor
open Go.RowKit Go.Lib
theorem Zcy(O blk off n c i j:Nat)(p q:PtD)(o:Bool)(w:World)(hc:w.cell? ⟨O,0,none⟩=some (F (some ⟨blk,off,none⟩) n c))(hi:i<n)(hj:j<n)
  (p0:w.cell? ⟨blk,off+i*6,none⟩=some (E J p.1)) (p1:w.cell? ⟨blk,off+i*6+1,none⟩=some (E J p.2))
  (q0:w.cell? ⟨blk,off+j*6,none⟩=some (E J q.1)) (q1:w.cell? ⟨blk,off+j*6+1,none⟩=some (E J q.2)) (ho:lt p q=o) :
  ZH 154 #[E J i,E J j,dZ (some ⟨O,0,none⟩)] w (eA o):=by
 have C:=Zb (λw=>H9 p q o w ho);have ai:(i:Int)<(n:Int):=by omega
 have ak:(j:Int)<(n:Int):=by omega
 clear ho;go_enter func154,ntmps154;go_wp2_with fail
 go_region_held3 (λw'=>ZD w w'/\w'.cell? ⟨O,0,none⟩=some (F (some ⟨blk,off,none⟩) n c)/\w'.cell? ⟨blk,off+i*6,none⟩=some (E J p.1)/\w'.cell? ⟨blk,off+i*6+1,none⟩=some (E J p.2)/\w'.cell? ⟨blk,off+j*6,none⟩=some (E J q.1)/\w'.cell? ⟨blk,off+j*6+1,none⟩=some (E J q.2))
  (first
  | exact⟨Zh _,hc,p0,p1,q0,q1⟩
  | (go_split_ands;refine⟨Ze (by assumption) z,Zc z (by assumption),Zc z (by assumption),Zc z (by assumption),Zc z (by assumption),Zc z (by assumption)⟩))
  (first|(go_at_call 70;refine (C _).mono ?_;rintro e w' ⟨rfl,z⟩))
 rename_i hH;have HH:=Zb hH.1;clear hH;go_wp2;go_ret;exact⟨rfl,Za HH⟩
def U3(x:CV):List Value:=Zk [x]
def ltC(x y:CV):Bool:=lt (pt x.1) (pt y.1)
theorem Zns:Sort.SWO ltC where
 irrefl x:=lt_irrefl _
 trans x y z h1 h2:=lt_trans h1 h2
 ntrans x y z h1 h2:=by
  unfold ltC at *;rw[<-cS,Qu] at *;omega
structure CSt(w0:World)(blk off n:Nat)(w:World)(d:Array CV):Prop where
 holds:Sort.HoldsK U3 6 w blk off d
 len:d.size=n
 gr:Gr w0 w (λb=>b=blk)
theorem CSt.later{w0 w w':World}{blk off n:Nat}{d:Array CV}(h:CSt w0 blk off n w d)(z:ZD w w'):CSt w0 blk off n w' d:=
 ⟨λj O=>by
  have q:=h.holds j O;refine⟨Zc z q.1,?_⟩;have e:=z.block blk (aC _ _ q.1);have f:=q.2;simp only[World.frozen?] at f ⊢;rw[e];exact f,h.len,h.gr.on z⟩
theorem Zbi{B:Nat}{w w':World}(z:ZD w w'):Kp B w w':=⟨z.size,λb _ O=>z.block b O⟩
theorem Zhr(w:World)(blk off:Nat)(d:Array CV)(b:Nat)(h:b≠blk):(Sort.putRowK U3 6 w blk off d).heap[b]? = w.heap[b]?:=by
 unfold Sort.putRowK Sort.putRow Sort.mapBlock;simp only;rw[Array.getElem?_modify,if_neg (Ne.symm h)]
theorem Zqx(w)(n blk off:Nat)(d:Array CV)(os:Array Obj):Gr w (Sort.grow (Sort.putRowK U3 6 (Sort.ahead w n) blk off d) os) (λb=>b=blk):=by
 have hs:(Sort.putRowK U3 6 (Sort.ahead w n) blk off d).heap.size=w.heap.size:=by rw[Sort.size_putRowK];rfl
 refine⟨rfl,rfl,rfl,?_,λk O z=>?_⟩
 ·simp only[Sort.grow,Array.size_append];omega
 ·rw[Sort.heap_grow_old _ _ (by omega),Zhr _ _ _ _ _ z];rfl
theorem CSt.put{w0 w:World}{blk off n:Nat}{d d':Array CV}(h:CSt w0 blk off n w d)(O:blk<w0.heap.size)(z:d'.size=d.size)(m:Nat)(os:Array Obj) :
  CSt w0 blk off n (Sort.grow (Sort.putRowK U3 6 (Sort.ahead w m) blk off d') os) d'/\Kp w0.heap.size w (Sort.grow (Sort.putRowK U3 6 (Sort.ahead w m) blk off d') os):=by
 have g:=Zqx w m blk off d' os;have aa:blk<w.heap.size:=aI O h.gr.size;refine⟨⟨Sort.holdsK_grow U3 6 _ os blk off d' (by rw[Sort.size_putRowK];exact aa) (Sort.holdsK_putRowK U3 6 _ blk off d d' (Sort.holdsK_ahead U3 6 _ _ _ _ _ h.holds) z),z.trans h.len,h.gr.trans g⟩,g.size,λb hB hl=>g.block b hl (by omega)⟩
theorem Zke(w0:World)(blk off n c z:Nat)(sf:Nat)(sb)(hn:n<=4096)(hb:blk<w0.heap.size)(hc:w0.cell? ⟨z,0,none⟩=some (F (some ⟨blk,off,none⟩) n c))(ag:z≠blk)
  (hs:SwapSwapsK aB sf sb U3 6 blk off n):Sr aB 154 #[dZ (some ⟨z,0,none⟩)] sf sb ltC n w0.heap.size (CSt w0 blk off n) where
 order:=Zns
 small:=hn
 enters:=enters_of func154 (by kernel_rfl) rfl
 less w d i j h hi O:=by
  have ae:w.cell? ⟨z,0,none⟩=some (F (some ⟨blk,off,none⟩) n c):=by
   have e:=h.gr.block z (aC _ _ hc) ag;simp only[dI] at hc ⊢;rw[e];exact hc
  have hl:=h.len;have cell:=λt ht u hu=>(Sort.HoldsK.cell (i:=t) (c:=u) h.holds ht hu).1;refine (Zcy z blk off n c i j (pt d[i]!.1) (pt d[j]!.1) _ w ae hi O (cell i (by omega) 0 (by decide)) (cell i (by omega) 1 (by decide)) (cell j (by omega) 0 (by decide)) (cell j (by omega) 1 (by decide)) rfl).mono ?_;rintro e w' ⟨rfl,ab⟩;exact⟨rfl,h.later ab,Zbi ab⟩
 swap w d i j h hi O:=by
  have hl:=h.len;have q:=hs w d h.holds hl i j hi O;have e:=Sort.putRowK_swp U3 6 (λ_=>rfl) w blk off d i j (by omega) (by omega);rw[Sort.putRowK_self U3 6 w blk off d h.holds] at e;rw[e] at q;have r:=h.put hb (d':=bM d i j) (by rw[Sort.size_swp]) 0 #[]
  have f:Sort.grow (Sort.putRowK U3 6 (Sort.ahead w 0) blk off (bM d i j)) #[]=Sort.putRowK U3 6 w blk off (bM d i j):=by
   simp[Sort.grow,Sort.ahead]
  rw[f] at r;exact⟨_,q,r.1,r.2⟩
 size w d h:=h.len
 low w d h:=h.gr.size
 alloc w d o h:=h.later (Zg w o)
 store w d b o v h hB:=⟨λj O=>by
   have q:=h.holds j O;rw[World.cell?_setCell_other _ _ _ _ (by intro e;have:=congrArg Addr.block e;simp at this;omega),World.frozen?_setCell];exact q,h.len,h.gr.set (.inr hB) v⟩
open Go.RowKit Go.Lib
theorem Tryz.infoCoins:(Tryz.prog.info? 29).map (λi=>i.desc)=some (.slice 103):=by kernel_rfl
theorem Tryz.infoCoinS:(Tryz.prog.info? 103).map (λi=>(i.size,i.bytes,i.hasPointers))=some (6,64,true):=by kernel_rfl
theorem Dl:∃ i z,Tryz.prog.info? 29=some i/\i.desc = .slice 103/\Tryz.prog.info? 103=some z/\z.size=6/\z.bytes=64/\z.hasPointers=true:=by
 have h1:=Tryz.infoCoins;have h2:=Tryz.infoCoinS;cases q1:Tryz.prog.info? 29 with
 | none=>rw[q1] at h1;cases h1
 | some i=>
  cases q2:Tryz.prog.info? 103 with
  | none=>rw[q2] at h2;cases h2
  | some z=>
   rw[q1] at h1;rw[q2] at h2;simp only[Option.map_some,Option.some.injEq,cJ] at h1 h2;exact⟨i,z,rfl,h1,rfl,h2.1,h2.2.1,h2.2.2⟩
theorem swap9(n:Nat)(z:TypeInfo)(hb:z.bytes=64)(hp:z.hasPointers=true)(h2:2<=n):swapperK n z 25=9:=by
 have O:(n == 0)=false:=by simp;omega
 have e1:(n == 1)=false:=by simp;omega
 simp[swapperK,O,e1,hb,hp]
theorem Zmm(x:CV)(v:Value)(h:v∈U3 x):v.oneCell'=true:=Xs [x] v h
theorem Zcz(w0:World)(blk off n:Nat)(g:Nat)(lb)(sf:Nat)(sb)(hn:n<=4096)(O:blk<w0.heap.size)(hs:SwapSwapsK aB sf sb U3 6 blk off n) :
  G9 aB 216 g lb sf sb n w0.heap.size (CSt w0 blk off n):=by
 intro a b d w h z ad;have hl:=h.len;refine (Any.breakPatterns_func_cells_w Tryz.laysGg28 U3 6 (λ_=>rfl) (.func g) #[] lb sf sb blk off a b d w (by rw[hl];exact hs) h.holds (aI O h.gr.size) z (by omega) (by omega)).mono ?_;rintro e w' ⟨rfl,m,os,rfl⟩;have hp:=Sort.breakPatterns_holds d a b z (by omega);have r:=h.put O (d':=Sort.breakPatterns d a b) hp.1 m os;exact⟨rfl,_,hp,r.1,r.2⟩
theorem Zkj(w0:World)(blk off n:Nat)(g:Nat)(lb)(sf:Nat)(sb)(hn:n<=4096)(O:blk<w0.heap.size)(hs:SwapSwapsK aB sf sb U3 6 blk off n) :
  G9 aB 218 g lb sf sb n w0.heap.size (CSt w0 blk off n):=by
 intro a b d w h z ad;have hl:=h.len;refine (Any.reverseRange_func_cells_w Tryz.laysGg30 U3 6 (λ_=>rfl) (.func g) #[] lb sf sb blk off a b d w (by rw[hl];exact hs) h.holds (aI O h.gr.size) z (by omega) (by omega)).mono ?_;rintro e w' ⟨rfl,m,os,rfl⟩;have hp:=Sort.reverseRange_holds d a b z (by omega);have r:=h.put O (d':=Sort.reverseRange d a b) hp.1 m os;exact⟨rfl,_,hp,r.1,r.2⟩
theorem Mp(w:World)(p)(n c:Nat)(h1:n<=1)(lf:Fn)(O lb) :
  ZH 153 #[.iface 29 (F p n c),.func lf O lb] w (dY #[]):=by
 obtain⟨i,z,hi,hd,ae,hs,ag,hp⟩:=Dl
 have ab:∀ f,Tryz.prog.funcs.findIdx? (·.name == "internal/reflectlite" ++ ".Swapper$" ++ toString (swapperK n z 25))=some f->ZH 153 #[.iface 29 (F p n c),.func lf O lb] w (dY #[]):=λf hf=>by
  refine (Any.sort_Slice_tiny Tryz.laysGg6 29 103 i z hi hd (by kernel_rfl) ae 25 (λ_=>by kernel_rfl) p n c h1 f hf lf O lb w).mono ?_;rintro e w' ⟨rfl,os,rfl⟩;exact⟨rfl,rfl,rfl,rfl,by simp[Sort.grow],λk hk=>Sort.heap_grow_old w os hk⟩
 by_cases h0:n=0
 ·subst h0;exact ab 203 (by rw[show swapperK 0 z 25=1 from rfl];kernel_rfl)
 ·obtain rfl:n=1:=by omega
  exact ab 204 (by rw[show swapperK 1 z 25=2 from rfl];kernel_rfl)
theorem Mo(w:World)(blk off n c z:Nat)(d:Array CV)(hn:n<=4096)(h2:2<=n)(h:CSt w blk off n w d)(hb:blk<w.heap.size)(hc:w.cell? ⟨z,0,none⟩=some (F (some ⟨blk,off,none⟩) n c))(ak:z≠blk) :
  Calls aB 153 #[.iface 29 (F (some ⟨blk,off,none⟩) n c),.func (.func 154) #[] #[dZ (some ⟨z,0,none⟩)]] w λe w'=>e = dX (dY #[])/\∃ d',(dS 0 n d d'/\Sort.SortedIn ltC 0 n d')/\CSt w blk off n w' d':=by
 obtain⟨i,O,hi,hd,ad,hs,ah,hp⟩:=Dl;have hk:=swap9 n O ah hp h2
 have hx:∀ args W,(callFunc 211 args).run aB W=((Extern.ReflectliteSwapper.swap false args).run aB W).andThen λv w'=>.ok (.value v) w':=
  λargs W=>run_callFunc_extern func211 (by kernel_rfl) (by kernel_rfl) (by kernel_rfl) (e:=Extern.ReflectliteSwapper.swap false) (by kernel_rfl) args W
 have ac:=swapSwapsK_of_literal (P:=aB) false 211 hx 103 O ad U3 6 (λ_=>rfl) hs (λ_=>by kernel_rfl) Zmm blk off n c;have H:=Zke w blk off n c z 211 _ hn hb hc ak ac;refine Any.sort_Slice_of_pdq Tryz.laysGg6 29 103 i O hi hd (by kernel_rfl) ad 25 (λ_=>by kernel_rfl) (some ⟨blk,off,none⟩) n c (by omega) 211 (by rw[hk];kernel_rfl) (.func 154) #[] #[dZ (some ⟨z,0,none⟩)] w (λw'=>∃ d',(dS 0 n d d'/\Sort.SortedIn ltC 0 n d')/\CSt w blk off n w' d') ?_
 have hB:sliceBound aB 103 O 25 (some ⟨blk,off,none⟩) n c=#[F (some ⟨blk,off,none⟩) n c,typeHandle aB 103]:=by
  unfold sliceBound;rw[if_neg (by rw[hk];decide)]
 rw[hB]
 have ao:CSt w blk off n (sliceWorld aB Tryz.laysGg6_ren 29 (some ⟨blk,off,none⟩) n c w) d:=by
  unfold sliceWorld;exact (h.later (Zg _ _)).later (Zg _ _)
 have aq:Lib.bitLen n<=62:=Lib.bitLen_le n 62 (by omega) (by omega);refine (Zqe H (Zcz w blk off n _ _ _ _ hn hb ac) (Zkj w blk off n _ _ _ _ hn hb ac) n 0 n (Lib.bitLen n) d _ ao (aP _) (aE _) (by omega) (by omega) (Or.inl rfl)).mono ?_;rintro e w' ⟨rfl,d',hq,hS,_⟩;exact⟨rfl,d',hq,hS⟩
open Go.RowKit Go.Lib
def Wk(L:List Zf):Prop:=L.Pairwise λx y=>lt (pt y) (pt x)=false
theorem Ef:∀ (L:List Zf),L.length<=1->Wk L
 | [],_=>List.Pairwise.nil
 | [_],_=>List.pairwise_singleton _ _
 | _ :: _ :: _,h=>absurd h (by simp)
theorem Zrg(K:List CV)(i:Nat)(h:i<K.length):K.toArray[i]! = K[i]:=by
 rw[getElem!_pos K.toArray i (by simpa using h)];simp
theorem Gp{w:World}{base g cap:Nat}{K:List CV}(h:w.ownsRow base 103 6 (F (some ⟨g,0,none⟩) K.length cap) K.length (Zk K)):Sort.HoldsK U3 6 w g 0 K.toArray:=by
 intro j z;rw[Sort.size_flatK,List.size_toArray] at z
 have hf:w.frozen? ⟨g,0+j,none⟩=false:=by
  rcases h.2 with ⟨e,_⟩|⟨g',ah,ai,e,_,hh,_⟩
  ·cases e
  ·cases e;exact Zi hh _
 refine⟨?_,hf⟩;have hi:j / 6<K.length:=by omega
 rw[Nat.zero_add,World.ownsRow.cellAt h j z,id,Sort.get_flatK U3 6 K.toArray j (by simpa using z),Zrg K (j / 6) hi];obtain⟨O,f1,f2,f3,f4,f5⟩:=Qy K (j / 6) hi;have hr:j % 6<6:=Nat.mod_lt _ (by decide);have e:j=j / 6*6+j % 6:=by omega
 generalize j / 6=i at *;generalize j % 6=r at *;subst e
 match r,hr with
 | 0,_=>exact O
 | 1,_=>exact f1
 | 2,_=>exact f2
 | 3,_=>exact f3
 | 4,_=>exact f4
 | 5,_=>exact f5
theorem coins_of_holds{w:World}{g:Nat}{d:Array CV}(h:Sort.HoldsK U3 6 w g 0 d)(hg:g<w.heap.size)(z:∀ x∈d.toList,LkAt w x):CoinsAt w (some ⟨g,0,none⟩) d.size (d.toList.map (·.1)):=by
 refine⟨by simp,λ_=>⟨g,0,rfl,hg,λi hi=>?_⟩⟩;rw[dF,Array.length_toList] at hi
 have e:d[i]! = d.toList[i]'(by simpa using hi):=by
  rw[getElem!_pos d i hi];simp
 have cell:=λu hu=>(Sort.HoldsK.cell (i:=i) (c:=u) h hi hu).1;rw[e] at cell;rw[List.getElem_map];generalize hx:d.toList[i]'(by simpa using hi)=x at *;have O:x∈d.toList:=hx ▸ bK _;exact⟨cell 0 (by decide),cell 1 (by decide),cell 2 (by decide),⟨_,_,_,cell 3 (by decide),(z x O).1,(z x O).2⟩,cell 4 (by decide),cell 5 (by decide)⟩
theorem Zfp{n:Nat}{d d':Array CV}(h:dS 0 n d d')(z:d.size=n):d'.toList.Perm d.toList:=by
 have h1:=h.2.2;have O:d'.size=n:=h.1.trans z;rw[show d.extract 0 n=d by rw[<-z];simp,show d'.extract 0 n=d' by rw[<-O];simp] at h1;exact h1
theorem Zpr{n:Nat}{d:Array CV}(h:Sort.SortedIn ltC 0 n d)(hn:d.size=n):Wk (d.toList.map (·.1)):=by
 unfold Wk;rw[List.pairwise_map,List.pairwise_iff_getElem];intro i j hi z O;rw[Array.length_toList] at hi z;have q:=h i j (aP _) O (by omega);rw[getElem!_pos d i hi,getElem!_pos d j z] at q;simpa[ltC] using q
theorem Zha(w w3:World)(z B:Nat)(p)(n cap:Nat)(K:List CV)(hn:n<=4096)(hk:K.length=n)(ho:w3.ownsRow B 103 6 (F p n cap) n (Zk K))(hl:∀ x∈K,LkAt w x)(hb:ZD w w3)(hB:w.heap.size<=B)
  (hc:w3.cell? ⟨z,0,none⟩=some (F p n cap)) (bc:z<B) :
  Calls aB 153 #[.iface 29 (F p n cap),.func (.func 154) #[] #[dZ (some ⟨z,0,none⟩)]] w3 λe w'=>e = dX (dY #[])/\∃ L',CoinsAt w' p n L'/\SlOk p n cap/\L'.Perm (K.map (·.1))/\Wk L'/\w'.cell? ⟨z,0,none⟩=some (F p n cap)/\ZD w w':=by
 subst hk;have ar:∀ x∈K,LkAt w3 x:=λx hx=>(hl x hx).later hb;obtain⟨a',c',e,ap,al⟩:=Zx ho ar;obtain⟨rfl,rfl⟩:p=a'/\cap=c':=by injection e with e1 e2 e3;exact⟨e1,e3⟩
 by_cases h2:K.length<=1
 ·refine (Mp w3 p K.length cap h2 _ _ _).mono ?_;rintro e w' ⟨rfl,ae⟩;exact⟨rfl,K.map (·.1),ap.later ae,al,List.Perm.refl _,Ef _ (by rw[dF];exact h2),Zc ae hc,Ze hb ae⟩
 ·obtain⟨g,rfl,hg⟩:∃ g,p=some ⟨g,0,none⟩/\B<=g:=by
   rcases ho.2 with ⟨e,q⟩|⟨g,ay,az,e,q,_⟩
   ·omega
   ·exact⟨g,by injection e,q⟩
  have ai:g<w3.heap.size:=(ho.lt g rfl).2;have ax:CSt w3 g 0 K.length w3 K.toArray:=⟨Gp ho,by simp,Gr.refl _ _⟩;refine (Mo w3 g 0 K.length cap z K.toArray hn (by omega) ax ai hc (by omega)).mono ?_;rintro e w' ⟨rfl,d',⟨hp,hs⟩,O⟩;have ag:ZD w w':=O.gr.below hb hb.size (λk e=>by omega);have ak:=Zfp hp (by simp);have hd:d'.size=K.length:=O.len;refine⟨rfl,d'.toList.map (·.1),?_,al,(ak.map (·.1)),Zpr hs hd,?_,ag⟩
  ·rw[<-hd];exact coins_of_holds O.holds (aI ai O.gr.size) (λx hx=>(hl x (by simpa using (ak.mem_iff.1 hx))).later ag)
  ·have e:=O.gr.block z (aC _ _ hc) (by omega);simp only[dI] at hc ⊢;rw[e];exact hc
theorem Qd(a)(n c:Nat)(L)(w X:World)(hb:ZD w X)(hn:n<=4096)(h:CoinsAt w a n L)(hs:SlOk a n c) :
  Calls aB 88 #[F a n c] X λe w'=>∃ v,∃ K:List CV,e = dX v/\K.map (·.1)=L/\(∀ x∈K,LkAt w x)/\w'.ownsRow X.heap.size 103 6 v K.length (Zk K)/\ZD X w':=by
 obtain⟨O,hc⟩:=h;cases a with
 | none=>
  obtain⟨rfl,rfl⟩:=hs.2.2 rfl;have e:L=[]:=aJ.1 O;subst e;exact (Jo X).mono λe w' ⟨x,y⟩=>⟨_,[],x,rfl,λ_ hx=>(by cases hx),y ▸ ⟨rfl,.inl ⟨rfl,rfl⟩⟩,y ▸ Below.refl _ _⟩
 | some ad=>
  by_cases h0:n=0
  ·subst h0;have e:L=[]:=aJ.1 O;subst e;exact (Q5 ad 0 c [] X hn rfl (λj u z=>by simp[Zk] at z)).mono λe w' ⟨v,x,y,aj⟩=>⟨v,[],x,rfl,λ_ hx=>(by cases hx),y,aj⟩
  ·obtain⟨b,off,e,_,ah⟩:=hc (by omega);obtain⟨rfl⟩:=e;obtain⟨K,h1,h2,h3⟩:=Qx ah;have hk:K.length=n:=(by rw[<-O,<-h1,dF]);exact (Q5 ⟨b,off,none⟩ n c K X hn hk (λj u z=>by rw[Addr.add_lit];exact Zc hb (h3 j u z))).mono λe w' ⟨v,x,y,aj⟩=>⟨v,K,x,h1,h2,by rw[hk];exact y,aj⟩
theorem Zcx(a)(n c:Nat)(L)(w:World)(hn:n<=4096)(h:CoinsAt w a n L)(hs:SlOk a n c) :
  Calls aB 113 #[F a n c] w λe w'=>∃ a' c' z,e = dX (F a' n c')/\CoinsAt w' a' n z/\SlOk a' n c'/\z.Perm L/\Wk z/\ZD w w':=by
 have ad:=Zg w (dW #[F a n c] 29);have hX:=aK w (dW #[F a n c] 29);have C:=Zb (Qd a n c L w _ ad hn h hs);have ai:L.length=n:=h.1;have ag:=Zb ad;have HX:=Zb hX;have HL:=Zb ai;clear h hs ad hX ai;go_enter func113,ntmps113;go_wp2_with fail;refine C.mono ?_;rintro e w2 ⟨v,K,rfl,ac,ap,O,aa⟩
 obtain⟨p,cap,rfl,bn⟩:∃ p cap,v = F p K.length cap/\True:=by
  rcases O.2 with ⟨rfl,q⟩|⟨g,cap,bj,rfl,_⟩
  ·exact⟨none,0,by rw[q],trivial⟩
  ·exact⟨_,cap,rfl,trivial⟩
 have ao:K.length=n:=by rw[<-Za HL,<-ac,dF]
 rw[ao] at O ⊢;have ab:=ZE aa HX;have xl:=aA ab;have xf:=Zi ab 0;have xc:=Zd ab 0 _ rfl;obtain⟨w3,af⟩:=ZG (w2.setCell ⟨w.heap.size,0,none⟩ (F p n cap));have am:w3.cell? ⟨w.heap.size,0,none⟩=some (F p n cap):=by rw[af];exact World.cell?_setCell_same _ _ _ xc
 have ae:Gr w2 w3 (λk=>k=w.heap.size):=by rw[af];exact (Gr.refl w2 (λk=>k=w.heap.size)).set (p:=⟨w.heap.size,0,none⟩) (.inl rfl) _
 have bg:(w.alloc (dW #[F a n c] 29)).heap.size=w.heap.size+1:=by simp
 have ar:=ae.own O (λk hk=>by have:=Y6 O k hk;omega);have ak:ZD w w3:=ae.below (Ze ag aa) (Ze ag aa).size (λk e=>by omega);have CS:=Zb (Zha w w3 w.heap.size (w.heap.size+1) p n cap K hn ao (by rw[<-bg];exact ar) ap ak (by omega) am (by omega));have be:=Zb ac;have l3:w.heap.size<w3.heap.size:=aC _ _ am;clear O ap aa ab ae ar ak ac;go_wp2_with fail;rw[<-af];go_wp2_with fail;refine CS.mono ?_;rintro e w4 ⟨rfl,z,an,bh,au,aw,bk,al⟩;have R1:=Zb an;have R2:=Zb au;have R3:=Zb aw;have R4:=Zb al;clear an au aw al;go_wp2;go_ret;exact⟨p,cap,z,rfl,Za R1,bh,by rw[<-Za be];exact Za R2,Za R3,Za R4⟩
theorem Hb:∀ {L:List Zf} {p:PtD} (_:Srt L) (i:Nat) (hi:i<L.length),pt L[i]=p->Ww p L=some (L[i],L.take i++L.drop (i+1))
 | c :: L,p,h,0,_,e=>by
  have O:pt c=p:=e
  have hf:L.filter (λd=>decide (pt d≠p))=L:=by
   rw[List.filter_eq_self];intro x hx;rw[decide_eq_true_eq,<-O];exact λq=>R7 (h.head x hx) q.symm
  unfold Ww;rw[List.find?_cons_of_pos (by simpa using O)];simp only[List.filter_cons,O,ne_eq,not_true,decide_false,Bool.false_eq_true,if_false];simp only[ne_eq] at hf;rw[hf];rfl
 | c :: L,p,h,i+1,hi,e=>by
  have ab:i<L.length:=by simpa using hi
  have O:pt L[i]=p:=by simpa using e
  have ac:pt c≠p:=λq=>by
   have:=R7 (h.head L[i] (bK ab));rw[O,q] at this;exact this rfl
  have z:=Hb h.tail i ab O;unfold Ww at z ⊢;rw[List.find?_cons_of_neg (by simpa using ac)];cases hq:L.find? (λc=>decide (pt c=p)) with
  | none=>rw[hq] at z;cases z
  | some d=>
   rw[hq] at z;simp only[Option.some.injEq,cJ] at z ⊢;rw[List.filter_cons_of_pos (by simpa using ac),z.2];exact⟨by rw[z.1];simp,by simp⟩
theorem Eo{L}{p:PtD}(h:Xp p L=false):Ww p L=none:=by
 unfold Ww
 have:L.find? (λc=>decide (pt c=p))=none:=by
  rw[List.find?_eq_none];intro x z q;rw[<-cS,Ud] at h;exact h ⟨x,z,by simpa using q⟩
 rw[this]
theorem J0(p:PtD):∀ (L:List Zf) (k:Nat),(plc p L k = -1/\Xp p L=false)\/∃ i,∃ h:i<L.length,plc p L k=((k+i:Nat):Int)/\pt L[i]=p/\Xp p L=true
 | [],_=>.inl ⟨rfl,rfl⟩
 | c :: L,k=>by
  by_cases h:pt c=p
  ·exact .inr ⟨0,by simp,by unfold plc;rw[if_pos h];rfl,h,by simp[Xp,h]⟩
  ·rcases J0 p L (k+1) with ⟨h1,h2⟩|⟨i,hi,h1,h2,h3⟩
   ·refine .inl ⟨by unfold plc;rw[if_neg h];exact h1,?_⟩;unfold Xp at h2 ⊢;rw[List.any_cons,h2];simp[h]
   ·refine .inr ⟨i+1,by simp;omega,?_,by simpa using h2,?_⟩
    ·unfold plc;rw[if_neg h,h1]
     congr 1
     omega
    ·unfold Xp at h3 ⊢;rw[List.any_cons,h3];simp
theorem Srt.nodup{L:List Zf}(h:Srt L):L.Nodup:=by
 unfold List.Nodup;refine List.Pairwise.imp (fun {x y} q=>?_) h;intro e;exact R7 q (by rw[e])
theorem Ha{L G:List Zf}(hw:Wk L)(hp:L.Perm G)(O:Srt G):L=G:=by
 have hn:L.Nodup:=hp.nodup_iff.2 O.nodup;have z:∀ x,x∈L↔x∈G:=λx=>hp.mem_iff;refine Srt.ext ?_ O z;unfold Srt;have hb:L.Pairwise λx y=>lt (pt y) (pt x)=false/\x≠y:=List.pairwise_and_iff.2 ⟨hw,hn⟩;refine List.Pairwise.imp_of_mem (fun {x y} hx hy q=>?_) hb
 rcases B9 (pt x) (pt y) with r|r|r
 ·exact r
 ·exact absurd (O.inj ((z x).1 hx) ((z y).1 hy) r) q.2
 ·rw[q.1] at r;exact Bool.noConfusion r
theorem Qh{L M:List Zf}(h:L.Perm M)(p:PtD):Xp p L=Xp p M:=by
 rw[Bool.eq_iff_iff,Ud,Ud];exact⟨λ⟨c,z,e⟩=>⟨c,h.mem_iff.1 z,e⟩,λ⟨c,z,e⟩=>⟨c,h.mem_iff.2 z,e⟩⟩
theorem Hh{R L:List Zf}{c:Zf}(h:R.Perm L)(O:Xp (pt c) L=false):(R++[c]).Perm (Uj c L):=by
 have z:L.filter (λx=>lt (pt c) (pt x))=L.filter (λx=>!lt (pt x) (pt c)):=by
  apply List.filter_congr
  intro x hx
  rcases B9 (pt x) (pt c) with q|q|q
  ·rw[q,Tk q];rfl
  ·exact absurd ((Ud _ _).2 ⟨x,hx,q⟩) (by rw[O];decide)
  ·rw[q,Tk q];rfl
 unfold Uj;rw[z];refine ((List.perm_append_comm).trans ?_).trans (List.perm_middle.symm);exact (h.trans (List.filter_append_perm _ L).symm).cons c
open Go.RowKit Go.Lib
theorem Vh{base:Nat}(v)(K:List CV)(X:World)(hn:K.length<=4096)(O:X.ownsRow base 103 6 v K.length (Zk K)) :
  Calls aB 88 #[v] X λe w'=>∃ v',e = dX v'/\w'.ownsRow X.heap.size 103 6 v' K.length (Zk K)/\ZD X w':=by
 have ad:=O
 rcases O.2 with ⟨rfl,hk⟩|⟨g,cap,af,rfl,hg,hh,r⟩
 ·have e:K=[]:=aJ.1 hk;subst e;exact (Jo X).mono λe w' ⟨x,y⟩=>⟨_,x,y ▸ ⟨rfl,.inl ⟨rfl,rfl⟩⟩,y ▸ Below.refl _ _⟩
 ·refine (Q5 ⟨g,0,none⟩ K.length cap K X hn rfl (λj u z=>?_)).mono λe w' ⟨v,x,y,ai⟩=>⟨v,x,y,ai⟩
  have hi:j<K.length*6:=by
   have:=(List.getElem?_eq_some_iff.1 z).1;rwa [Z9] at this
  rw[Addr.add_lit,Nat.zero_add,World.ownsRow.cellAt ad j (by omega)];exact z
theorem Zmc{w w2:World}{g:Nat}{d:Array CV}(h:Sort.HoldsK U3 6 w g 0 d)(e:w2.heap[g]? = w.heap[g]?):Sort.HoldsK U3 6 w2 g 0 d:=by
 intro j z;obtain⟨h1,h2⟩:=h j z;refine⟨?_,?_⟩
 ·simp only[dI] at h1 ⊢;rw[e];exact h1
 ·simp only[World.frozen?] at h2 ⊢;rw[e];exact h2
def Zri(w0:World)(B:Nat)(w':World)(p:Option Addr)(n:Nat)(L:List Zf):Prop:=∀ w2,Gr w' w2 (λk=>w0.heap.size<=k/\k<B)->CoinsAt w2 p n L
theorem Zhb(w0 w3:World)(z B:Nat)(p)(n cap:Nat)(K:List CV)(hn:n<=4096)(hk:K.length=n)(ho:w3.ownsRow B 103 6 (F p n cap) n (Zk K))(hl:∀ x∈K,LkAt w0 x)(hb:ZD w0 w3)(hB:w0.heap.size<=B)
  (hc:w3.cell? ⟨z,0,none⟩=some (F p n cap)) (bj:z<B) :
  Calls aB 153 #[.iface 29 (F p n cap),.func (.func 154) #[] #[dZ (some ⟨z,0,none⟩)]] w3 λe w'=>e = dX (dY #[])/\∃ L',Zri w0 B w' p n L'/\SlOk p n cap/\L'.Perm (K.map (·.1))/\Wk L'/\w'.cell? ⟨z,0,none⟩=some (F p n cap)/\Gr w3 w' (λk=>B<=k):=by
 subst hk;have ba:∀ x∈K,LkAt w3 x:=λx hx=>(hl x hx).later hb;obtain⟨a',c',e,bk,ar⟩:=Zx ho ba;obtain⟨rfl,rfl⟩:p=a'/\cap=c':=by injection e with e1 e2 e3;exact⟨e1,e3⟩
 by_cases h2:K.length<=1
 ·refine (Mp w3 p K.length cap h2 _ _ _).mono ?_;rintro e w' ⟨rfl,ac⟩;refine⟨rfl,K.map (·.1),λw2 hg=>?_,ar,List.Perm.refl _,Ef _ (by rw[dF];exact h2),Zc ac hc,Gr.of ac⟩;have ai:ZD w0 w2:=hg.below (Ze hb ac) (Ze hb ac).size (λk e=>e.1);have bc:=hg.own ((Gr.of (S:=λ_=>False) ac).own ho (λ_ _ q=>q)) (λk e q=>by have:=Y6 ho k e;omega);obtain⟨a2,c2,e,ay,_⟩:=Zx bc (λx hx=>(hl x hx).later ai);obtain⟨rfl,rfl⟩:p=a2/\cap=c2:=by injection e with e1 e2 e3;exact⟨e1,e3⟩
  exact ay
 ·obtain⟨g,rfl,hg⟩:∃ g,p=some ⟨g,0,none⟩/\B<=g:=by
   rcases ho.2 with ⟨e,q⟩|⟨g,bg,bh,e,q,_⟩
   ·omega
   ·exact⟨g,by injection e,q⟩
  have ao:g<w3.heap.size:=(ho.lt g rfl).2;have bf:CSt w3 g 0 K.length w3 K.toArray:=⟨Gp ho,by simp,Gr.refl _ _⟩;refine (Mo w3 g 0 K.length cap z K.toArray hn (by omega) bf ao hc (by omega)).mono ?_;rintro e w' ⟨rfl,d',⟨hp,hs⟩,O⟩;have am:ZD w0 w':=O.gr.below hb hb.size (λk e=>by omega);have aq:=Zfp hp (by simp);have hd:d'.size=K.length:=O.len;refine⟨rfl,d'.toList.map (·.1),λw2 ak=>?_,ar,(aq.map (·.1)),Zpr hs hd,?_,O.gr.mono (λk _ e=>by omega)⟩
  ·have ai:ZD w0 w2:=ak.below am am.size (λk e=>e.1);have ap:g<w'.heap.size:=aI ao O.gr.size;rw[<-hd];exact coins_of_holds (Zmc O.holds (ak.block g ap (λq=>by omega))) (aI ap ak.size) (λx hx=>(hl x (by simpa using (aq.mem_iff.1 hx))).later ai)
  ·have e:=O.gr.block z (aC _ _ hc) (by omega);simp only[dI] at hc ⊢;rw[e];exact hc
theorem Mn{base:Nat}(a)(n c:Nat)(K:List CV)(w0 w:World)(hn:n<=4096)(hk:K.length=n)(z:w.ownsRow base 103 6 (F a n c) n (Zk K))(hl:∀ x∈K,LkAt w0 x)(hb:ZD w0 w) :
  Calls aB 113 #[F a n c] w λe w'=>∃ a' c' O,e = dX (F a' n c')/\Zri w0 w.heap.size w' a' n O/\SlOk a' n c'/\O.Perm (K.map (·.1))/\Wk O/\ZD w w':=by
 subst hk;have ab:=Zg w (dW #[F a K.length c] 29);have hX:=aK w (dW #[F a K.length c] 29);have C:=Zb (Vh (F a K.length c) K (w.alloc (dW #[F a K.length c] 29)) hn ((Gr.of (S:=λ_=>False) ab).own z (λ_ _ q=>q)));obtain⟨n,ah⟩:=ZF (K.length);rw[ah] at C hX ab hn ⊢;have am:=Zb ab;have HX:=Zb hX;have HK:=Zb ah;have HL:=Zb hl;have HB:=Zb hb;clear z ab hX ah hl hb;go_enter func113,ntmps113;go_wp2_with fail;refine C.mono ?_;rintro e w2 ⟨v,rfl,z,aa⟩
 obtain⟨p,cap,rfl,bq⟩:∃ p cap,v = F p n cap/\True:=by
  rcases z.2 with ⟨rfl,q⟩|⟨g,cap,bn,rfl,_⟩
  ·exact⟨none,0,by rw[q],trivial⟩
  ·exact⟨_,cap,rfl,trivial⟩
 have ac:=ZE aa HX;have xl:=aA ac;have xf:=Zi ac 0;have xc:=Zd ac 0 _ rfl;obtain⟨w3,aj⟩:=ZG (w2.setCell ⟨w.heap.size,0,none⟩ (F p n cap));have aq:w3.cell? ⟨w.heap.size,0,none⟩=some (F p n cap):=by rw[aj];exact World.cell?_setCell_same _ _ _ xc
 have af:Gr w2 w3 (λk=>k=w.heap.size):=by rw[aj];exact (Gr.refl w2 (λk=>k=w.heap.size)).set (p:=⟨w.heap.size,0,none⟩) (.inl rfl) _
 have bi:(w.alloc (dW #[F a n c] 29)).heap.size=w.heap.size+1:=by simp
 have aw:=af.own z (λk hk=>by have:=Y6 z k hk;omega);have ae:ZD w w3:=af.below (Ze am aa) (Ze am aa).size (λk e=>by omega);have ap:ZD w0 w3:=Ze HB ae;have CS:=Zb (Zhb w0 w3 w.heap.size (w.heap.size+1) p n cap K hn HK (by rw[<-bi];exact aw) HL ap (Nat.le_succ_of_le HB.size) aq (by omega));have al:=Zb ae;have l3:w.heap.size<w3.heap.size:=aC _ _ aq;clear z aa ac af aw ap ae;go_wp2_with fail;rw[<-aj];go_wp2_with fail;refine CS.mono ?_;rintro e w4 ⟨rfl,O,ar,bj,ax,ay,bo,au⟩;have R1:Hid (Zri w0 w.heap.size w4 p n O):=λw5 h5=>ar w5 (h5.mono (λk _ q=>⟨q.1,by omega⟩));have R2:=Zb ax;have R3:=Zb ay;have R4:Hid (ZD w w4):=au.below al al.size (λk q=>by omega);clear ar ax ay au;go_wp2;go_ret;exact⟨p,cap,O,rfl,Za R1,bj,Za R2,Za R3,Za R4⟩
def Jw:List Zf->List Zf->Bool
 | [],[]=>true
 | x :: r,y :: q=>decide (x=y) && Jw r q
 | _,_=>false
theorem Jv:∀ (l k:List Zf),Jw l k=true↔l=k
 | [],[]=>by simp[Jw]
 | [],y :: q=>by simp[Jw]
 | x :: r,[]=>by simp[Jw]
 | x :: r,y :: q=>by rw[Jw,bL,decide_eq_true_eq,Jv r q,List.cons.injEq]
theorem E9{l k}(h:l≠k):Jw l k=false:=by
 rw[<-cS,Jv];exact h
theorem F4{l k}(h:l=k):Jw l k=true:=(Jv l k).2 h
theorem Zbu(a b)(n m c d:Nat)(v w)(h:n≠m) :
  Calls aB 42 #[F a n c,F b m d,v] w λe w'=>e = dX (eA false)/\w=w':=by
 have g:((n:Int) != (m:Int))=true:=by simp;omega
 clear h;go_enter func42,ntmps42;go_wp2;go_ret;exact⟨rfl,rfl⟩
theorem Zbt(a b c d v)(w) :
  Calls aB 42 #[F a 0 c,F b 0 d,v] w λe w'=>e = dX (eA true)/\w=w':=by
 go_enter func42,ntmps42;go_wp2;refine wp_loop_rounds 1 ?_;rw[rounds_succ];go_wp2;go_ret;exact⟨rfl,rfl⟩
theorem Bo(x y:Zf)(a b)(n c m d:Nat)(o:Bool)(w:World)(hn:n<=cD)(hA:OpsAt w a n (ck x))(hB:OpsAt w b m (ck y))(ho:decide (x=y)=o) :
  ZH 43 #[cnV x a n c,cnV y b m d] w (eA o):=by
 obtain⟨x1,x2,x3,k,x4,x5⟩:=x;obtain⟨y1,y2,y3,l,y4,y5⟩:=y;unfold cnV;simp only[cv,ck,ch,cr] at hA hB ⊢;obtain⟨X,O⟩:=ZG ((w.alloc (dW #[E J x1,E J x2,E J x3,F a n c,E J x4,eA x5] 103)).alloc (dW #[E J y1,E J y2,E J y3,F b m d,E J y4,eA y5] 103));have hb:ZD w X:=by rw[O];exact Ze (Zg _ _) (Zg _ _)
 obtain⟨n0,n1,n2,n3,n4,n5⟩:=T8 w (E J x1) (E J x2) (E J x3) (F a n c) (E J x4) (eA x5) 103;obtain⟨m0,m1,m2,m3,m4,m5⟩:=T8 (w.alloc (dW #[E J x1,E J x2,E J x3,F a n c,E J x4,eA x5] 103)) (E J y1) (E J y2) (E J y3) (F b m d) (E J y4) (eA y5) 103;rw[show (w.alloc (dW #[E J x1,E J x2,E J x3,F a n c,E J x4,eA x5] 103)).heap.size=w.heap.size+1 by simp,<-O] at m0 m1 m2 m3 m4 m5;have p4:X.cell? ⟨w.heap.size,4,none⟩=some (E J x4):=by rw[O];exact Zc (Zg _ _) n4
 have p5:X.cell? ⟨w.heap.size,5,none⟩=some (eA x5):=by rw[O];exact Zc (Zg _ _) n5
 have HB:=Zb hb;obtain⟨q,hq⟩:=ZF (decide ((x3,k)=(y3,l)));have C:=Zb (Kh (x3,k) (y3,l) a b n c m d q X hn (hA.later hb) (hB.later hb) hq);simp only at C
 have HO:Hid (o=(decide (x1=y1/\x2=y2) && (q && (decide (x4=y4) && decide (x5=y5))))):=by
  show _=_;rw[<-ho,<-hq,Bool.eq_iff_iff];simp only[cJ,bL,decide_eq_true_eq];constructor
  ·rintro ⟨h1,h2,h3,h4,h5,h6⟩;exact⟨⟨h1,h2⟩,⟨h3,h4⟩,h5,h6⟩
  ·rintro ⟨⟨h1,h2⟩,⟨h3,h4⟩,h5,h6⟩;exact⟨h1,h2,h3,h4,h5,h6⟩
 clear hA hB hb ho hq m0 m1 m2 m3 n0 n1 n2 n3 n4 n5;by_cases e1:x1=y1/\x2=y2
 ·obtain⟨rfl,rfl⟩:=e1;cases q with
  | false=>
   have R:Hid (o=false):=(by show _=_;rw[Za HO];simp);go_enter func43,ntmps43;go_wp2_with fail;rw[<-O];clear O;refine C.mono ?_;rintro e w2 ⟨rfl,z⟩;have ab:=Zb (Ze HB z);clear z;go_wp2;go_ret;exact⟨by rw[Za R];rfl,Za ab⟩
  | true=>
   by_cases e4:x4=y4
   ·subst e4;by_cases e5:x5=y5
    ·subst e5;have R:Hid (o=true):=(by show _=_;rw[Za HO];simp);go_enter func43,ntmps43;go_wp2_with fail;rw[<-O];clear O;refine C.mono ?_;rintro e w2 ⟨rfl,z⟩;have r4:=Zc z p4;have r5:=Zc z p5;have s4:=Zc z m4;have s5:=Zc z m5;have ab:=Zb (Ze HB z);clear z;go_wp2;go_ret;exact⟨by rw[Za R];first|rfl|(cases x5 <;> rfl)|(simp;rfl),Za ab⟩
    ·have R:Hid (o=false):=(by show _=_;rw[Za HO];simp[e5]);have g5:(x5 == y5)=false:=(by simp[e5]);go_enter func43,ntmps43;go_wp2_with fail;rw[<-O];clear O;refine C.mono ?_;rintro e w2 ⟨rfl,z⟩;have r4:=Zc z p4;have r5:=Zc z p5;have s4:=Zc z m4;have s5:=Zc z m5;have ab:=Zb (Ze HB z);clear z;go_wp2;go_ret;exact⟨by rw[Za R];rfl,Za ab⟩
   ·have R:Hid (o=false):=(by show _=_;rw[Za HO];simp[e4]);have g4:(x4 == y4)=false:=(by simp[e4]);go_enter func43,ntmps43;go_wp2_with fail;rw[<-O];clear O;refine C.mono ?_;rintro e w2 ⟨rfl,z⟩;have r4:=Zc z p4;have s4:=Zc z m4;have ab:=Zb (Ze HB z);clear z;go_wp2;go_ret;exact⟨by rw[Za R];rfl,Za ab⟩
 ·have R:Hid (o=false):=by show _=_;rw[Za HO,decide_eq_false e1,Bool.false_and]
  have ao:Hid (ZD w X):=HB;rw[O] at ao;by_cases e2:x1=y1
  ·have e3:¬x2=y2:=λq=>e1 ⟨e2,q⟩;subst e2;clear e1;go_enter func43,ntmps43;go_wp2;go_ret;exact⟨by rw[Za R];rfl,Za ao⟩
  ·clear e1;go_enter func43,ntmps43;go_wp2;go_ret;exact⟨by rw[Za R];rfl,Za ao⟩
theorem Gu(b1 o1 b2 o2 n c d:Nat)(l k:List Zf)(o:Bool)(w:World)(hn:n<=cD)(z1:l.length=n)(z2:k.length=n)
  (h1:∀ i (h:i<l.length),CoinAt w b1 (o1+i*6) l[i]) (h2:∀ i (h:i<k.length),CoinAt w b2 (o2+i*6) k[i]) (ho:Jw l k=o) :
  ZH 42 #[F (some ⟨b1,o1,none⟩) n c,F (some ⟨b2,o2,none⟩) n d,.func (.func 43) #[] #[]] w (eA o):=by
 subst ho;unfold cD at hn;have H1:=Zb h1;have H2:=Zb h2;have Z1:=Zb z1;have Z2:=Zb z2;clear h1 h2 z1 z2;go_enter func42,ntmps42;go_wp2
 go_loopw [17] (λi wr=>∃ j:Nat,j<=n/\i = E J j/\ZD w wr/\Hid (l.take j=k.take j)) (λi _=>n - (intOf i).toNat)
 case atStart=>exact⟨0,aP _,rfl,Below.refl _ _,rfl⟩
 case round=>
  obtain⟨j,hk,rfl,z,A⟩:=hrel;have HB:=Zb z;by_cases av:j<n
  ·have ae:j<l.length:=(by rw[Za Z1];exact av);have af:j<k.length:=(by rw[Za Z2];exact av);have g:=CoinAt.kept _ _ _ _ _ z (H1 j ae);have f:=CoinAt.kept _ _ _ _ _ z (H2 j af);have TS:=Zb (Fy ae af A);have TU:=Zb (Kd ae af);obtain⟨q,hq⟩:=ZF (l[j]);obtain⟨r,hr⟩:=ZF (k[j]);rw[hq] at g;rw[hr] at f;rw[hq,hr] at TS TU;obtain⟨qa,qn,qc,g0,g1,g2,g3,g4,g5,gO,gS⟩:=g.val;obtain⟨ra,rn,rc,f0,f1,f2,f3,f4,f5,fO,fS⟩:=f.val;have ab:=Ze (Zg wr (dW #[E J q.1,E J q.2.1,E J (cv q),F qa qn qc,E J (ch q),eA (cr q)] 103)) (Zg _ (dW #[E J r.1,E J r.2.1,E J (cv r),F ra rn rc,E J (ch r),eA (cr r)] 103));obtain⟨o',aa⟩:=ZF (decide (q=r));have C:=Bo q r qa ra qn qc rn rc o' _ gS.len (gO.later ab) (fO.later ab) aa;unfold cnV at C;have HC:=Zb C;have aj:=Zb (Ze HB ab);have bz:b2<wr.heap.size:=aC _ _ f0;have bx:(j:Int)<(n:Int):=(by omega);clear z g f ab C gO fO gS fS hq hr A;cases o' with
   | true=>
    have T:=Zb (TS (of_decide_eq_true aa));clear aa;go_wp2_with fail;refine HC.mono ?_;rintro e w2 ⟨rfl,O⟩;have ac:=Zb (Ze aj O);clear O;go_wp2;go_roundw
    case rel=>exact⟨j+1,by omega,by go_num,Za ac,T⟩
    case measure=>simp[intOf];omega
   | false=>
    have U:Hid (Jw l k=false):=E9 (TU (of_decide_eq_false aa));clear aa;go_wp2_with fail;refine HC.mono ?_;rintro e w2 ⟨rfl,O⟩;have ac:=Zb (Ze aj O);clear O;go_wp2;go_ret;exact⟨by rw[Za U];rfl,Za ac⟩
  ·have U:Hid (Jw l k=true):=by
    have h:=Za A;rw[aY (by rw[Za Z1];omega),aY (by rw[Za Z2];omega)] at h;exact F4 h
   clear A z;go_wp2;go_ret;exact⟨by rw[Za U];rfl,Za HB⟩
theorem Hx(a b)(n m c d:Nat)(l k)(o:Bool)(w:World)(hn:n<=cD)(O:CoinsAt w a n l)(hB:CoinsAt w b m k)(z:Jw l k=o) :
  ZH 42 #[F a n c,F b m d,.func (.func 43) #[] #[]] w (eA o):=by
 by_cases h:n=m
 ·subst h;by_cases h0:n=0
  ·subst h0;have e1:l=[]:=aJ.1 O.1;have e2:k=[]:=aJ.1 hB.1;subst e1 e2;rw[F4 rfl] at z;subst z;exact (Zbt a b c d _ w).mono λe w' ⟨h1,h2⟩=>⟨h1,h2 ▸ Below.refl _ _⟩
  ·obtain⟨b1,o1,rfl,_,h1⟩:=O.2 (by omega);obtain⟨b2,o2,rfl,_,h2⟩:=hB.2 (by omega);exact Gu b1 o1 b2 o2 n c d l k o w hn O.1 hB.1 h1 h2 z
 ·have e:l≠k:=λe=>h (by rw[<-O.1,<-hB.1,e]);rw[E9 e] at z;subst z;exact (Zbu a b n m c d _ w h).mono λe w' ⟨h1,h2⟩=>⟨h1,h2 ▸ Below.refl _ _⟩
theorem Sk(a b)(n m c d:Nat)(l k)(o:Bool)(w:World)(hn:n<=cD)(z:CoinsAt w a n l)(O:CoinsAt w b m k)(ho:Jw l k=o) :
  ZH 16 #[F a n c,F b m d] w (eA o):=by
 have C:=Zb (Hx a b n m c d l k o w hn z O ho);clear z O ho;go_enter func16,ntmps16;go_wp2_with fail;refine C.mono ?_;rintro e w2 ⟨rfl,aa⟩;have ac:=Zb aa;clear aa;go_wp2;go_ret;exact⟨rfl,Za ac⟩
theorem Ln{name:Int}{ab:List Ya}{k:Nat}(O:k<ab.length){L}(ht:Ww (name,(k:Int)) L=none):Yq name k (ab.drop k) L=(7,[]):=by
 rw[aN O,Yq,ht]
theorem S8{name:Int}{ac:List Ya}{k:Nat}(O:k<ac.length){L M}{c:Zf}(ht:Ww (name,(k:Int)) L=some (c,M))(hu:(cv c,ck c)≠ac[k]):Yq name k (ac.drop k) L=(7,[]):=by
 rw[aN O,Yq,ht];simp only;rw[if_neg hu]
theorem Bd{name:Int}{ac:List Ya}{k:Nat}(O:k<ac.length){L M}{c:Zf}(ht:Ww (name,(k:Int)) L=some (c,M))(hu:(cv c,ck c)=ac[k]):Yq name k (ac.drop k) L=Yq name (k+1) (ac.drop (k+1)) M:=by
 rw[aN O,Yq,ht];simp only;rw[if_pos hu]
theorem D8{name:Int}{aa:List Ya}{k:Nat}(O:aa.length<=k)(L):Yq name k (aa.drop k) L=(0,L):=by
 rw[List.drop_of_length_le O,Yq]
theorem Ep(w0 w:World)(p:Nat)(v)(K:List CV)(du no co dt)(name x:Int)(M)(hP:Pu w0 w p v K)(hs:Srt (K.map (·.1)))(hn:K.length<=4096)(hO:OutsAt w0 du no dt)(dl:no<=6)(hx:Yq name 0 dt (K.map (·.1))=(x,M)) :
  Calls aB 162 #[dZ (some ⟨p,0,none⟩),F du no co,E J name] w λe w'=>e = dX (E J x)/\ZD w0 w'/\(x=0->Znl w0 w w' p v K.length M):=by
 have dn:p<w.heap.size:=hP.lt;have HP:=Zb hP;have HS:=Zb hs;have HO:=Zb hO;have HZ:=Zb hO.1;have HX:=Zb hx;clear hP hs hO hx;go_enter func162,ntmps162;go_wp2
 go_loopw [13] (λi wr=>∃ (k:Nat) (O:List CV) (v':Value),k<=no/\i = E J k/\Hid (Yq name 0 dt (K.map (·.1))=Yq name k (dt.drop k) (O.map (·.1)))/\Hid (Srt (O.map (·.1)))/\O.length<=K.length/\Hid (Pu w0 wr p v' O)/\Hid (Gr w wr (PuS p v))/\Hid (v'.ownBlock=v.ownBlock)) (λi _=>no - (intOf i).toNat)
 case atStart=>exact⟨0,K,v,aP _,rfl,rfl,HS,aE _,HP,Gr.refl _ _,rfl⟩
 case round=>
  obtain⟨k,O,v',hk,rfl,A,al,dc,ab,HG,HV⟩:=hrel;by_cases df:k<no
  ·have ar:k<dt.length:=(by rw[Za HZ];exact df);obtain⟨b,off,rfl,dh,de⟩:=HO.2 (by omega);have bz:=de k ar;have E1:=Zb (λht=>Ln (name:=name) ar (L:=O.map (·.1)) ht);have E2:=Zb (λM c ht hu=>S8 (name:=name) ar (L:=O.map (·.1)) (M:=M) (c:=c) ht hu);have E3:=Zb (λM c ht hu=>Bd (name:=name) ar (L:=O.map (·.1)) (M:=M) (c:=c) ht hu);obtain⟨y,hy⟩:=ZF (dt[k]);rw[hy] at bz E2 E3;obtain⟨y1,lk⟩:=y;obtain⟨az,la,ln,lc,ba,g4,g5⟩:=bz;have g1:=Zc ab.bel az;have g2:=Zc ab.bel ba;simp only at g1 g2 g4;obtain⟨X,hX⟩:=ZG (wr.alloc (dW #[E J y1,F la ln lc] 101));have ap:ZD wr X:=(by rw[hX];exact Zg _ _);have be:X.heap[wr.heap.size]? = some (dW [E J y1,F la ln lc].toArray 101 (0,0)):=(by rw[hX];exact aK wr _);have ag:=ab.kept ap;have cy:=Zb be;have ct:=Zb ag;have cj:=Zb ap;have dm:p<wr.heap.size:=ab.lt;have cm:Hid (OpsAt w0 la ln lk):=g4;cases hf:Xp (name,(k:Int)) (O.map (·.1)) with
   | false=>
    have C:=Zb (Na w0 X p v' O (name,(k:Int)) ag al (by omega) hf)
    have R:Hid (x=7):=by
     have e:=Za A;rw[(Za E1) (Ml hf),Za HX] at e;injection e
    clear ap be ag hf hy A az ba g4;go_wp2_with fail;rw[<-hX];clear hX;refine C.mono ?_;rintro e w3 ⟨rfl,bx⟩;have cg:=Zb ((ct.kept bx).bel);unfold zeroC;clear bx;go_wp2;go_ret;exact⟨by rw[Za R];rfl,Ze cg (Zg _ _),λe=>absurd e (by rw[Za R];decide)⟩
   | true=>
    have C:=Zb (M9 w0 X p v' O (name,(k:Int)) ag al (by omega) hf);clear ap be ag hf hy az ba g4;go_wp2_with fail;rw[<-hX];clear hX;refine C.mono ?_;rintro e w3 ⟨z,v3,K3,rfl,ht,bk,cc,ca,bd,ao,bi⟩;have au:=ab.lk z bk;have bg:=Jt ht al
    have bf:¬PuS p v' wr.heap.size:=by
     rintro (e|e)
     ·omega
     ·have:=(ab.own.lt _ e).2;omega
    have aj:=ao.heap cy bf;obtain⟨Y,hY⟩:=ZG (w3.alloc (dW #[E J z.1.1,E J z.1.2.1,E J (cv z.1),.slice z.2.1 z.2.2.1 z.2.2.2,E J (ch z.1),eA (cr z.1)] 103));have aq:ZD w3 Y:=(by rw[hY];exact Zg _ _);have ah:=bd.kept aq;have q0:=Zd aj 0 _ rfl;have q1:=Zd aj 1 _ rfl;have dq:wr.heap.size<w3.heap.size:=aA aj;obtain⟨o,ho⟩:=ZF (decide ((cv z.1,ck z.1)=(y1,lk)));have OS:=Zda (cv z.1,ck z.1) (y1,lk) z.2.1 la z.2.2.1 z.2.2.2 ln lc o Y au.2.len (au.1.later ah.bel) (cm.later ah.bel) ho;simp only at OS;have bs:=Zb OS;have bt:=Zb ah
    have GY:Hid (Gr w Y (PuS p v)):=by
     refine (HG.on cj).trans2 (ao.on aq) (λq hq hT=>?_)
     rcases hT with e|e
     ·exact .inl e
     ·exact .inr (by rw[<-Za HV];exact e)
    have cx:Hid (v3.ownBlock=v.ownBlock):=(by show _=_;rw[bi];exact Za HV);have cw:=Zb bg;have cn:Hid (K3.length<=K.length):=(by show _<=_;omega);unfold cnV;cases o with
    | false=>
     have R:Hid (x=7):=by
      have e:=Za A;rw[(Za E2) _ _ ht (of_decide_eq_false ho),Za HX] at e;injection e
     clear A ht bk cc ca bd ao bi au bg bf aj aq ah OS ho g1 g2;go_wp2_with fail;rw[<-hY];clear hY;refine bs.mono ?_;rintro e w5 ⟨rfl,af⟩;have ci:=Zb (bt.kept af).bel;clear af;go_wp2;go_ret;exact⟨by rw[Za R];rfl,Za ci,λe=>absurd e (by rw[Za R];decide)⟩
    | true=>
     have A2:Hid (Yq name 0 dt (K.map (·.1))=Yq name (k+1) (dt.drop (k+1)) (K3.map (·.1))):=by
      show _=_;rw[Za A,(Za E3) _ _ ht (of_decide_eq_true ho)]
     clear A ht bk cc ca bd ao bi au bg bf aj aq ah OS ho g1 g2;go_wp2_with fail;rw[<-hY];clear hY;refine bs.mono ?_;rintro e w5 ⟨rfl,af⟩;have cq:=Zb (bt.kept af);have cl:=Zb (GY.on af);clear af;go_wp2;go_roundw
     case rel=>exact⟨k+1,K3,v3,by omega,by go_num,A2,cw,Za cn,cq,cl,cx⟩
     case measure=>simp[intOf];omega
  ·have e:k=no:=(by omega);subst e;have R:=Za A;rw[D8 (by rw[Za HZ];exact aE _),Za HX] at R;have R1:Hid (x=0):=(by show _=_;injection R);have R2:M=O.map (·.1):=(by injection R);subst R2;clear R A;go_wp2;go_ret;exact⟨by rw[Za R1];rfl,ab.bel,λ_=>⟨v',O,rfl,Za al,dc,Za ab,Za HG⟩⟩
