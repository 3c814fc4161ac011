import Derived.Test.YtbddijbmepdliaaGreatDoorH
import Derived.Test.YtbddijbmepdliaaGreatDoorG11
open Option renaming none->aD,some->dG
open Go.Proofs.Tryz
open Bool renaming not_eq_true->cI,and_eq_true->aX
open Go renaming wp_loop_rounds->bB,rounds_succ->aS,bodyPost_ret->aL,heap_alloc_new->aG,info_parts->bX,maxLen->aT,TypeId->aY,DataW->cQ,lt_of_block->aA
open Go.Ending renaming returned->dB
open Go.Exit renaming inBlock->bQ
open Go.IntKind renaming wrap_i64->aP,i64->J
open Go.Obj renaming cells->dA
open Go.Proofs.Tryz renaming prog->aB,underlying64->cH,underlying3->aN,underlying25->cR
open Go.Value renaming int->aU,int->E,slice->F,tuple->dC,pointer->dE,bool->dF
open Go.World renaming block_lt_of_cell?->aC,cell?->bF,cell?_alloc_at->bG
open List renaming length_eq_zero_iff->aJ,length_map->cO,getElem_mem->aQ,getElem?_eq_some_iff->cD,take_of_length_le->aM,length_append->bL
open Nat renaming le_refl->aE,zero_le->aI,lt_of_lt_of_le->aF,zero_add->bO
open Option.some renaming injEq->aZ
set_option maxHeartbeats 25600000
namespace Go.Proofs.YtbddijbmepdliaaGreatDoor
open Go.RowKit
open Go.RowKit Go.Lib
theorem Zca(w:World)(p)(n c:Nat)(h1:n<=1)(lf:Fn)(la lb) :
  ZH 137 #[.iface 64 (F p n c),.func lf la lb] w (dC #[]):=by
 obtain⟨i,ie,hi,hd,ag,hs,aj,hp⟩:=M7
 have ad:∀ f,Tryz.prog.funcs.findIdx? (·.name == "internal/reflectlite" ++ ".Swapper$" ++ toString (swapperK n ie 25))=dG f->ZH 137 #[.iface 64 (F p n c),.func lf la lb] w (dC #[]):=λf hf=>by
  refine (Any.sort_Slice_tiny Tryz.laysGg6 64 162 i ie hi hd (by kernel_rfl) ag 25 (λ_=>by kernel_rfl) p n c h1 f hf lf la lb w).mono ?_;rintro e w' ⟨rfl,os,rfl⟩;exact⟨rfl,rfl,rfl,rfl,by simp[Sort.grow],λk hk=>Sort.heap_grow_old w os hk⟩
 by_cases h0:n=0
 ·subst h0;exact ad 220 (by rw[show swapperK 0 ie 25=1 from rfl];kernel_rfl)
 ·obtain rfl:n=1:=by omega
  exact ad 221 (by rw[show swapperK 1 ie 25=2 from rfl];kernel_rfl)
set_option maxRecDepth 10000 in
theorem Zbz(w:World)(blk off n c bx:Nat)(d:Array CV)(hn:n<=4096)(h2:2<=n)(h:CSt w blk off n w d)(hb:blk<w.heap.size)(hc:w.cell? ⟨bx,0,aD⟩=dG (F (dG ⟨blk,off,aD⟩) n c))(am:bx≠blk) :
  Calls aB 137 #[.iface 64 (F (dG ⟨blk,off,aD⟩) n c),.func (.func 138) #[] #[dE (dG ⟨bx,0,aD⟩)]] w λe w'=>e = dB (dC #[])/\∃ d',(Sort.PermIn 0 n d d'/\Sort.SortedIn ltC 0 n d')/\CSt w blk off n w' d':=by
 obtain⟨i,ie,hi,hd,ae,hs,aj,hp⟩:=M7;have hk:=swap9 n ie aj hp h2
 have hx:∀ args W,(callFunc 228 args).run aB W=((Extern.ReflectliteSwapper.swap false args).run aB W).andThen λv w'=>.ok (.value v) w':=
  λargs W=>run_callFunc_extern func228 (by kernel_rfl) (by kernel_rfl) (by kernel_rfl) (e:=Extern.ReflectliteSwapper.swap false) (by kernel_rfl) args W
 have ad:=swapSwapsK_of_literal (P:=aB) false 228 hx 162 ie ae Ut 6 (λ_=>rfl) hs (λ_=>by kernel_rfl) Zmx blk off n c;have H:=Zkh w blk off n c bx 228 _ hn hb hc am ad;refine Any.sort_Slice_of_pdq Tryz.laysGg6 64 162 i ie hi hd (by kernel_rfl) ae 25 (λ_=>by kernel_rfl) (dG ⟨blk,off,aD⟩) n c (by omega) 228 (by rw[hk];kernel_rfl) (.func 138) #[] #[dE (dG ⟨bx,0,aD⟩)] w (λw'=>∃ d',(Sort.PermIn 0 n d d'/\Sort.SortedIn ltC 0 n d')/\CSt w blk off n w' d') ?_
 have hB:sliceBound aB 162 ie 25 (dG ⟨blk,off,aD⟩) n c=#[F (dG ⟨blk,off,aD⟩) n c,typeHandle aB 162]:=by
  unfold sliceBound;rw[if_neg (by rw[hk];decide)]
 rw[hB]
 have ar:CSt w blk off n (sliceWorld aB Tryz.laysGg6_ren 64 (dG ⟨blk,off,aD⟩) n c w) d:=by
  unfold sliceWorld;exact (h.later (Zh _ _)).later (Zh _ _)
 have av:Lib.bitLen n<=62:=Lib.bitLen_le n 62 (by omega) (by omega);refine (Zrz H (Zcb w blk off n _ _ _ _ hn hb ad) (Zkm w blk off n _ _ _ _ hn hb ad) n 0 n (Lib.bitLen n) d _ ar (aI _) (aE _) (by omega) (by omega) (Or.inl rfl)).mono ?_;rintro e w' ⟨rfl,d',hq,hS,_⟩;exact⟨rfl,d',hq,hS⟩
open Go.RowKit Go.Lib
def Wk(L:List Zi):Prop:=L.Pairwise λx y=>lt (pt y) (pt x)=false
theorem Zje:∀ (L:List Zi),L.length<=1->Wk L
 | [],_=>List.Pairwise.nil
 | [_],_=>List.pairwise_singleton _ _
 | _ :: _ :: _,h=>absurd h (by simp)
theorem Zth(K:List CV)(i:Nat)(h:i<K.length):K.toArray[i]! = K[i]:=by
 rw[getElem!_pos K.toArray i (by simpa using h)];simp
theorem Aw{w:World}{base g cap:Nat}{K:List CV}(h:w.ownsRow base 162 6 (F (dG ⟨g,0,aD⟩) K.length cap) K.length (Zl K)):Sort.HoldsK Ut 6 w g 0 K.toArray:=by
 intro j hj;rw[Sort.size_flatK,List.size_toArray] at hj
 have hf:w.frozen? ⟨g,0+j,aD⟩=false:=by
  rcases h.2 with ⟨e,_⟩|⟨g',ak,al,e,_,hh,_⟩
  ·cases e
  ·cases e;exact Zg hh _
 refine⟨?_,hf⟩;have hi:j / 6<K.length:=by omega
 rw[bO,World.ownsRow.cellAt h j hj,id,Sort.get_flatK Ut 6 K.toArray j (by simpa using hj),Zth K (j / 6) hi];obtain⟨f0,f1,f2,f3,f4,f5⟩:=Q7 K (j / 6) hi;have hr:j % 6<6:=Nat.mod_lt _ (by decide);have e:j=j / 6*6+j % 6:=by omega
 generalize j / 6=i at *;generalize j % 6=r at *;subst e
 match r,hr with
 | 0,_=>exact f0
 | 1,_=>exact f1
 | 2,_=>exact f2
 | 3,_=>exact f3
 | 4,_=>exact f4
 | 5,_=>exact f5
theorem coins_of_holds{w:World}{g:Nat}{d:Array CV}(h:Sort.HoldsK Ut 6 w g 0 d)(hg:g<w.heap.size)(hl:∀ x∈d.toList,LkAt w x):CoinsAt w (dG ⟨g,0,aD⟩) d.size (d.toList.map (·.1)):=by
 refine⟨by simp,λ_=>⟨g,0,rfl,hg,λi hi=>?_⟩⟩;rw[cO,Array.length_toList] at hi
 have e:d[i]! = d.toList[i]'(by simpa using hi):=by
  rw[getElem!_pos d i hi];simp
 have cell:=λu hu=>(Sort.HoldsK.cell (i:=i) (c:=u) h hi hu).1;rw[e] at cell;rw[List.getElem_map];generalize hx:d.toList[i]'(by simpa using hi)=x at *;have hm:x∈d.toList:=hx ▸ aQ _;exact⟨cell 0 (by decide),cell 1 (by decide),cell 2 (by decide),⟨_,_,_,cell 3 (by decide),(hl x hm).1,(hl x hm).2⟩,cell 4 (by decide),cell 5 (by decide)⟩
theorem Zpm{n:Nat}{d d':Array CV}(h:Sort.PermIn 0 n d d')(hn:d.size=n):d'.toList.Perm d.toList:=by
 have h1:=h.2.2;have aa:d'.size=n:=h.1.trans hn;rw[show d.extract 0 n=d by rw[<-hn];simp,show d'.extract 0 n=d' by rw[<-aa];simp] at h1;exact h1
theorem wk_of{n:Nat}{d:Array CV}(h:Sort.SortedIn ltC 0 n d)(hn:d.size=n):Wk (d.toList.map (·.1)):=by
 unfold Wk;rw[List.pairwise_map,List.pairwise_iff_getElem];intro i j hi hj ab;rw[Array.length_toList] at hi hj;have q:=h i j (aI _) ab (by omega);rw[getElem!_pos d i hi,getElem!_pos d j hj] at q;simpa[ltC] using q
theorem Ba(a)(n c:Nat)(L)(w X:World)(hb:ZD w X)(hn:n<=4096)(h:CoinsAt w a n L)(hs:SlOk a n c) :
  Calls aB 98 #[F a n c] X λe w'=>∃ v,∃ K:List CV,e = dB v/\K.map (·.1)=L/\(∀ x∈K,LkAt w x)/\w'.ownsRow X.heap.size 162 6 v K.length (Zl K)/\ZD X w':=by
 obtain⟨hl,hc⟩:=h;cases a with
 | none=>
  obtain⟨rfl,rfl⟩:=hs.2.2 rfl;have e:L=[]:=aJ.1 hl;subst e;exact (Qx X).mono λe w' ⟨x,y⟩=>⟨_,[],x,rfl,λ_ hx=>(by cases hx),y ▸ ⟨rfl,.inl ⟨rfl,rfl⟩⟩,y ▸ Below.refl _ _⟩
 | some ad=>
  by_cases h0:n=0
  ·subst h0;have e:L=[]:=aJ.1 hl;subst e;exact (Wl ad 0 c [] X hn rfl (λj u hj=>by simp[Zl] at hj)).mono λe w' ⟨v,x,y,z⟩=>⟨v,[],x,rfl,λ_ hx=>(by cases hx),y,z⟩
  ·obtain⟨b,off,e,_,ah⟩:=hc (by omega);obtain⟨rfl⟩:=e;obtain⟨K,h1,h2,h3⟩:=Qi ah;have hk:K.length=n:=(by rw[<-hl,<-h1,cO]);exact (Wl ⟨b,off,aD⟩ n c K X hn hk (λj u hj=>by rw[Addr.add_lit];exact Ze hb (h3 j u hj))).mono λe w' ⟨v,x,y,z⟩=>⟨v,K,x,h1,h2,by rw[hk];exact y,z⟩
theorem Dl:∀ {L:List Zi} {p:PtD} (_:Srt L) (i:Nat) (hi:i<L.length),pt L[i]=p->Ve p L=dG (L[i],L.take i++L.drop (i+1))
 | c :: L,p,h,0,_,e=>by
  have e':pt c=p:=e
  have hf:L.filter (λd=>decide (pt d≠p))=L:=by
   rw[List.filter_eq_self];intro x hx;rw[decide_eq_true_eq,<-e'];exact λq=>J0 (h.head x hx) q.symm
  unfold Ve;rw[List.find?_cons_of_pos (by simpa using e')];simp only[List.filter_cons,e',ne_eq,not_true,decide_false,Bool.false_eq_true,if_false];simp only[ne_eq] at hf;rw[hf];rfl
 | c :: L,p,h,i+1,hi,e=>by
  have ad:i<L.length:=by simpa using hi
  have e':pt L[i]=p:=by simpa using e
  have ae:pt c≠p:=λq=>by
   have:=J0 (h.head L[i] (aQ ad));rw[e',q] at this;exact this rfl
  have ih:=Dl h.tail i ad e';unfold Ve at ih ⊢;rw[List.find?_cons_of_neg (by simpa using ae)];cases hq:L.find? (λc=>decide (pt c=p)) with
  | none=>rw[hq] at ih;cases ih
  | some d=>
   rw[hq] at ih;simp only[aZ,Prod.mk.injEq] at ih ⊢;rw[List.filter_cons_of_pos (by simpa using ae),ih.2];exact⟨by rw[ih.1];simp,by simp⟩
theorem Zjs{L}{p:PtD}(h:We p L=false):Ve p L=aD:=by
 unfold Ve
 have:L.find? (λc=>decide (pt c=p))=aD:=by
  rw[List.find?_eq_none];intro x hx q;rw[<-cI,Vo] at h;exact h ⟨x,hx,by simpa using q⟩
 rw[this]
theorem Lv(p:PtD):∀ (L:List Zi) (k:Nat),(plc p L k = -1/\We p L=false)\/∃ i,∃ h:i<L.length,plc p L k=((k+i:Nat):Int)/\pt L[i]=p/\We p L=true
 | [],_=>.inl ⟨rfl,rfl⟩
 | c :: L,k=>by
  by_cases h:pt c=p
  ·exact .inr ⟨0,by simp,by unfold plc;rw[if_pos h];rfl,h,by simp[We,h]⟩
  ·rcases Lv p L (k+1) with ⟨h1,h2⟩|⟨i,hi,h1,h2,h3⟩
   ·refine .inl ⟨by unfold plc;rw[if_neg h];exact h1,?_⟩;unfold We at h2 ⊢;rw[List.any_cons,h2];simp[h]
   ·refine .inr ⟨i+1,by simp;omega,?_,by simpa using h2,?_⟩
    ·unfold plc;rw[if_neg h,h1]
     congr 1
     omega
    ·unfold We at h3 ⊢;rw[List.any_cons,h3];simp
theorem Srt.nodup{L:List Zi}(h:Srt L):L.Nodup:=by
 unfold List.Nodup;refine List.Pairwise.imp (fun {x y} q=>?_) h;intro e;exact J0 q (by rw[e])
theorem Zfv{L G:List Zi}(hw:Wk L)(hp:L.Perm G)(hs:Srt G):L=G:=by
 have hn:L.Nodup:=hp.nodup_iff.2 hs.nodup;have hm:∀ x,x∈L↔x∈G:=λx=>hp.mem_iff;refine Srt.ext ?_ hs hm;unfold Srt;have hb:L.Pairwise λx y=>lt (pt y) (pt x)=false/\x≠y:=List.pairwise_and_iff.2 ⟨hw,hn⟩;refine List.Pairwise.imp_of_mem (fun {x y} hx hy q=>?_) hb
 rcases An (pt x) (pt y) with r|r|r
 ·exact r
 ·exact absurd (hs.inj ((hm x).1 hx) ((hm y).1 hy) r) q.2
 ·rw[q.1] at r;exact Bool.noConfusion r
theorem Fk{L M:List Zi}(h:L.Perm M)(p:PtD):We p L=We p M:=by
 rw[Bool.eq_iff_iff,Vo,Vo];exact⟨λ⟨c,hc,e⟩=>⟨c,h.mem_iff.1 hc,e⟩,λ⟨c,hc,e⟩=>⟨c,h.mem_iff.2 hc,e⟩⟩
theorem Zhb{R L:List Zi}{c:Zi}(h:R.Perm L)(hn:We (pt c) L=false):(R++[c]).Perm (J2 c L):=by
 have hf:L.filter (λx=>lt (pt c) (pt x))=L.filter (λx=>!lt (pt x) (pt c)):=by
  apply List.filter_congr
  intro x hx
  rcases An (pt x) (pt c) with q|q|q
  ·rw[q,Re q];rfl
  ·exact absurd ((Vo _ _).2 ⟨x,hx,q⟩) (by rw[hn];decide)
  ·rw[q,Re q];rfl
 unfold J2;rw[hf];refine ((List.perm_append_comm).trans ?_).trans (List.perm_middle.symm);exact (h.trans (List.filter_append_perm _ L).symm).cons c
open Go.RowKit Go.Lib
theorem Qw{base:Nat}(v)(K:List CV)(X:World)(hn:K.length<=4096)(ho:X.ownsRow base 162 6 v K.length (Zl K)) :
  Calls aB 98 #[v] X λe w'=>∃ v',e = dB v'/\w'.ownsRow X.heap.size 162 6 v' K.length (Zl K)/\ZD X w':=by
 have ad:=ho
 rcases ho.2 with ⟨rfl,hk⟩|⟨g,cap,ae,rfl,hg,hh,r⟩
 ·have e:K=[]:=aJ.1 hk;subst e;exact (Qx X).mono λe w' ⟨x,y⟩=>⟨_,x,y ▸ ⟨rfl,.inl ⟨rfl,rfl⟩⟩,y ▸ Below.refl _ _⟩
 ·refine (Wl ⟨g,0,aD⟩ K.length cap K X hn rfl (λj u hj=>?_)).mono λe w' ⟨v,x,y,z⟩=>⟨v,x,y,z⟩
  have hi:j<K.length*6:=by
   have:=(cD.1 hj).1;rwa [Z7] at this
  rw[Addr.add_lit,bO,World.ownsRow.cellAt ad j (by omega)];exact hj
theorem Zmk{w w2:World}{g:Nat}{d:Array CV}(h:Sort.HoldsK Ut 6 w g 0 d)(e:w2.heap[g]? = w.heap[g]?):Sort.HoldsK Ut 6 w2 g 0 d:=by
 intro j hj;obtain⟨h1,h2⟩:=h j hj;refine⟨?_,?_⟩
 ·simp only[bF] at h1 ⊢;rw[e];exact h1
 ·simp only[World.frozen?] at h2 ⊢;rw[e];exact h2
def Ztj(w0:World)(B:Nat)(w':World)(p:Option Addr)(n:Nat)(L:List Zi):Prop:=∀ w2,Gr w' w2 (λk=>w0.heap.size<=k/\k<B)->CoinsAt w2 p n L
theorem Zgn(w0 w3:World)(bx B:Nat)(p)(n cap:Nat)(K:List CV)(hn:n<=4096)(hk:K.length=n)(ho:w3.ownsRow B 162 6 (F p n cap) n (Zl K))(hl:∀ x∈K,LkAt w0 x)(hb:ZD w0 w3)(hB:w0.heap.size<=B)
  (hc:w3.cell? ⟨bx,0,aD⟩=dG (F p n cap)) (bv:bx<B) :
  Calls aB 137 #[.iface 64 (F p n cap),.func (.func 138) #[] #[dE (dG ⟨bx,0,aD⟩)]] w3 λe w'=>e = dB (dC #[])/\∃ L',Ztj w0 B w' p n L'/\SlOk p n cap/\L'.Perm (K.map (·.1))/\Wk L'/\w'.cell? ⟨bx,0,aD⟩=dG (F p n cap)/\Gr w3 w' (λk=>B<=k):=by
 subst hk;have bh:∀ x∈K,LkAt w3 x:=λx hx=>(hl x hx).later hb;obtain⟨a',c',e,bw,ax⟩:=Yr ho bh;obtain⟨rfl,rfl⟩:p=a'/\cap=c':=by injection e with e1 e2 e3;exact⟨e1,e3⟩
 by_cases h2:K.length<=1
 ·refine (Zca w3 p K.length cap h2 _ _ _).mono ?_;rintro e w' ⟨rfl,ae⟩;refine⟨rfl,K.map (·.1),λw2 hg=>?_,ax,List.Perm.refl _,Zje _ (by rw[cO];exact h2),Ze ae hc,Gr.of ae⟩;have al:ZD w0 w2:=hg.below (Zf hb ae) (Zf hb ae).size (λk e=>e.1);have bi:=hg.own ((Gr.of (S:=λ_=>False) ae).own ho (λ_ _ q=>q)) (λk e q=>by have:=Xz ho k e;omega);obtain⟨a2,c2,e,bf,_⟩:=Yr bi (λx hx=>(hl x hx).later al);obtain⟨rfl,rfl⟩:p=a2/\cap=c2:=by injection e with e1 e2 e3;exact⟨e1,e3⟩
  exact bf
 ·obtain⟨g,rfl,hg⟩:∃ g,p=dG ⟨g,0,aD⟩/\B<=g:=by
   rcases ho.2 with ⟨e,q⟩|⟨g,br,bs,e,q,_⟩
   ·omega
   ·exact⟨g,by injection e,q⟩
  have au:g<w3.heap.size:=(ho.lt g rfl).2;have bq:CSt w3 g 0 K.length w3 K.toArray:=⟨Aw ho,by simp,Gr.refl _ _⟩;refine (Zbz w3 g 0 K.length cap bx K.toArray hn (by omega) bq au hc (by omega)).mono ?_;rintro e w' ⟨rfl,d',⟨hp,hs⟩,hS⟩;have aq:ZD w0 w':=hS.gr.below hb hb.size (λk e=>by omega);have aw:=Zpm hp (by simp);have hd:d'.size=K.length:=hS.len;refine⟨rfl,d'.toList.map (·.1),λw2 an=>?_,ax,(aw.map (·.1)),wk_of hs hd,?_,hS.gr.mono (λk _ e=>by omega)⟩
  ·have al:ZD w0 w2:=an.below aq aq.size (λk e=>e.1);have av:g<w'.heap.size:=aF au hS.gr.size;rw[<-hd];exact coins_of_holds (Zmk hS.holds (an.block g av (λq=>by omega))) (aF av an.size) (λx hx=>(hl x (by simpa using (aw.mem_iff.1 hx))).later al)
  ·have e:=hS.gr.block bx (aC _ _ hc) (by omega);simp only[bF] at hc ⊢;rw[e];exact hc
set_option maxRecDepth 10000 in
theorem Zbx{base:Nat}(a)(n c:Nat)(K:List CV)(w0 w:World)(hn:n<=4096)(hk:K.length=n)(ho:w.ownsRow base 162 6 (F a n c) n (Zl K))(hl:∀ x∈K,LkAt w0 x)(hb:ZD w0 w) :
  Calls aB 102 #[F a n c] w λe w'=>∃ a' c' L',e = dB (F a' n c')/\Ztj w0 w.heap.size w' a' n L'/\SlOk a' n c'/\L'.Perm (K.map (·.1))/\Wk L'/\ZD w w':=by
 subst hk;have ad:=Zh w (dA #[F a K.length c] 64);have hX:=aG w (dA #[F a K.length c] 64);have C:=Zb (Qw (F a K.length c) K (w.alloc (dA #[F a K.length c] 64)) hn ((Gr.of (S:=λ_=>False) ad).own ho (λ_ _ q=>q)));obtain⟨n,aq⟩:=ZF (K.length);rw[aq] at C hX ad hn ⊢;obtain⟨aj,HX,HK,HL,HB⟩:=kh5 ad hX aq hl hb;go_enter func102,ntmps102;go_wp2_with fail;refine C.mono ?_;rintro e w2 ⟨v,rfl,ho,ac⟩
 obtain⟨p,cap,rfl,ca⟩:∃ p cap,v = F p n cap/\True:=by
  rcases ho.2 with ⟨rfl,q⟩|⟨g,cap,bx,rfl,_⟩
  ·exact⟨aD,0,by rw[q],trivial⟩
  ·exact⟨_,cap,rfl,trivial⟩
 have bv:=ZE ac HX;obtain⟨xc,xf,xl⟩:=kf1 bv;obtain⟨w3,af⟩:=ZG (w2.setCell ⟨w.heap.size,0,aD⟩ (F p n cap));have an:w3.cell? ⟨w.heap.size,0,aD⟩=dG (F p n cap):=by rw[af];exact World.cell?_setCell_same _ _ _ xc
 have ap:Gr w2 w3 (λk=>k=w.heap.size):=by rw[af];exact (Gr.refl w2 (λk=>k=w.heap.size)).set (p:=⟨w.heap.size,0,aD⟩) (.inl rfl) _
 have br:(w.alloc (dA #[F a n c] 64)).heap.size=w.heap.size+1:=by simp
 have bo:=ap.own ho (λk hk=>by have:=Xz ho k hk;omega);have am:ZD w w3:=ap.below (Zf aj ac) (Zf aj ac).size (λk e=>by omega);have bg:ZD w0 w3:=Zf HB am;obtain⟨CS,ah⟩:=kh2 (Zgn w0 w3 w.heap.size (w.heap.size+1) p n cap K hn HK (by rw[<-br];exact bo) HL bg (Nat.le_succ_of_le HB.size) an (by omega)) am;have l3:w.heap.size<w3.heap.size:=aC _ _ an;go_wp2_with fail;rw[<-af];go_wp2_with fail;refine CS.mono ?_;rintro e w4 ⟨rfl,L',bh,bs,bq,bu,bz,bi⟩;have R1:Hid (Ztj w0 w.heap.size w4 p n L'):=λw5 h5=>bh w5 (h5.mono (λk _ q=>⟨q.1,by omega⟩));obtain⟨R2,R3⟩:=kh2 bq bu;have R4:Hid (ZD w w4):=bi.below ah ah.size (λk q=>by omega);go_wp2;go_ret;exact⟨p,cap,L',rfl,Za R1,bs,Za R2,Za R3,Za R4⟩
structure Rv1(w X0 wr:World)(v:Value)(K:List CV):Prop where
 own:wr.ownsRow X0.heap.size 162 6 v K.length (Zl K)
 lks:∀ x∈K,LkAt w x
 bel:ZD X0 wr
set_option maxRecDepth 10000 in
theorem Zcd(h r:Int)(w:World)(h1:1<=h)(h2:h<=1000)(hr:rwD h=(r,0)) :
  ZH 93 #[E J h] w (E J r):=by
 have e:r=(rwN ((h - 1).toNat / 8):Nat):=by
  unfold rwD at hr;rw[if_pos (by simp only[aX,decide_eq_true_eq];omega)] at hr;injection hr with e _;exact e.symm
 have HE:=Zb e;clear hr e;go_enter func93,ntmps93;go_wp2
 go_loopw [3,4] (λnv hv wr=>∃ k q:Nat,nv = E J q/\hv = E J ((8:Int)+8*k)/\(8:Int)*k<h/\Hid (q=rwN k)/\wr=w) (λ_ hv _=>(h+8 - intOf hv).toNat)
 case atStart=>exact⟨0,64,rfl,rfl,by omega,rfl,rfl⟩
 case round=>
  obtain⟨k,q,rfl,rfl,hk,HQ,rfl⟩:=hrel;have hq:q<=64:=by rw[Za HQ];exact Tp k
  have ak:(0:Int)<=(q:Int):=by omega
  have al:(q:Int)<=64:=by omega
  by_cases ah:(8:Int)+8*k<h
  ·have am:IntKind.i64.wrap ((8:Int)+8*k+8)=(8:Int)+8*k+8:=(by rw[aP];omega);have Q2:Hid (q / 2=rwN (k+1)):=(by show _=rwN k / 2;rw[Za HQ]);go_wp2;go_roundw
   case rel=>exact⟨k+1,q / 2,by go_num,by go_num,by omega,Q2,by first|rfl|trivial⟩
   case measure=>simp[intOf];omega
  ·have R:Hid (r=(q:Int)):=by
    show _=_;rw[Za HE,Za HQ]
    congr 2
    omega
   go_wp2;go_ret;exact⟨by rw[Za R];rfl,Below.refl _ _⟩
set_option maxRecDepth 10000 in
theorem Af(sa)(ns cs:Nat)(S)(ht:Int)(ai ao)(ni ci no co:Nat)(O)(x:Int)(w:World)(ct:ns<=6)(cq:no<=6)(hS:CoinsAt w sa ns S)(hO:OutsAt w ao no O)
  (hs:∀ c∈S,0<=cv c/\cv c<=1000000000) (ho:∀ c∈O,0<=c.1/\c.1<=1000000000) (hx:Zm S - Yk O=x) :
  ZH 60 #[.agg #[E J ht,F ai ni ci,F ao no co],F sa ns cs] w (E J x):=by
 obtain⟨X0,bu,al,bv⟩:=ka00 w [E J ht,F ai ni ci,F ao no co] 50;have aj:=Zb (λk=>Je S k hs);have aw:=Zb (λk=>Kd O k ho);obtain⟨HS,HO,ay,ax,HX,br,bh⟩:=kh7 (hS.later al) (hO.later al) hS.1 hO.1 hx bv al;go_enter func60,ntmps60;go_wp2;rw[<-bu]
 go_loopw [5,12] (λsv i wr=>∃ (k:Nat) (s:Int),k<=ns/\sv = E J s/\i = E J k/\Hid (s=Zm (S.take k))/\Hid (ZD X0 wr)) (λ_ i _=>ns - (intOf i).toNat)
 case atStart=>exact⟨0,0,aI _,rfl,rfl,rfl,Below.refl _ _⟩
 case round=>
  obtain⟨k,s,hk,rfl,rfl,A,HB⟩:=hrel;by_cases aq:k<ns
  ·have ad:k<S.length:=(by rw[Za ay];exact aq);obtain⟨b,off,rfl,bw,an⟩:=HS.2 (by omega);have ac:=CoinAt.kept _ _ _ _ _ HB (an k ad);have b1:=aj k;have b2:=aj (k+1);have aa:=Rq S k ad;obtain⟨c,hc⟩:=ZF (S[k]);rw[hc] at ac aa;obtain⟨la,ln,lc,g0,g1,g2,g3,g4,g5,_,_⟩:=ac.val;obtain⟨v,hv⟩:=ZF (cv c);rw[hv] at g2 aa;rw[<-Za A] at b1 aa;rw[aa] at b2;have A2:Hid (s+v=Zm (S.take (k+1))):=aa.symm;have ah:=Zb (Zf HB (Zh wr (dA #[E J c.1,E J c.2.1,E J v,F la ln lc,E J (ch c),dF (cr c)] 162)));have cc:IntKind.i64.wrap (s+v)=s+v:=(by rw[aP];omega);go_wp2;go_roundw
   case rel=>exact⟨k+1,s+v,by omega,rfl,by go_num,A2,ah⟩
   case measure=>simp[intOf];omega
  ·have e:k=ns:=(by omega);subst e
   have A2:Hid (s=Zm S):=by
    show _=_;rw[Za A,aM (by rw[Za ay];exact aE _)]
   have b1:=aj k;rw[<-Za A] at b1;have hh:=ZE HB br;obtain⟨-,-,c2,hl⟩:=kc3 hh;go_wp2
   go_loopw [5,25] (λsv i ce=>∃ (j:Nat) (d:Int),j<=no/\sv = E J d/\i = E J j/\Hid (d=s - Yk (O.take j))/\Hid (ZD X0 ce)) (λ_ i _=>no - (intOf i).toNat)
   case atStart=>exact⟨0,s,aI _,rfl,rfl,(by simp[Yk]:s=s - Yk (O.take 0)),HB⟩
   case round=>
    obtain⟨j,d,hj,rfl,rfl,D,HD⟩:=hrel;have am:=Za HD;by_cases aq:j<no
    ·have ad:j<O.length:=(by rw[Za ax];exact aq);obtain⟨b,off,rfl,bw,an⟩:=HO.2 (by omega);have ac:=OutAt.kept _ _ _ _ _ am (an j ad);have d1:=aw j;have d2:=aw (j+1);have aa:=Rp O j ad;obtain⟨o,hc⟩:=ZF (O[j]);rw[hc] at ac aa;obtain⟨q1,q2⟩:=o;obtain⟨g0,la,ln,lc,g1,_,_⟩:=ac;simp only at g0 g1 aa;have hd:d=s - Yk (O.take j):=Za D;have A3:Hid (d - q1=s - Yk (O.take (j+1))):=(by show _=_;rw[aa];omega);have ah:=Zb (Zf HD (Zh wr (dA #[E J q1,F la ln lc] 92)));have cc:IntKind.i64.wrap (d - q1)=d - q1:=(by rw[aP];omega);clear hc aa D hd d1 d2 am;go_wp2;go_roundw
     case rel=>exact⟨j+1,d - q1,by omega,rfl,by go_num,A3,ah⟩
     case measure=>simp[intOf];omega
    ·have e:j=no:=(by omega);subst e
     have hd:d=Zm S - Yk O:=by
      have:=Za D;rw[aM (by rw[Za ax];exact aE _),Za A2] at this;exact this
     have bi:=Zb (Zf bh am);have R:Hid (x=d):=(by show _=_;rw[<-Za HX,hd]);go_wp2;go_ret;exact⟨by rw[Za R];rfl,Za bi⟩
theorem Zbq(z:Array Value)(n:Nat):(Builtin.zeroCells z n).size=n*z.size:=by simp[Builtin.zeroCells]
theorem Zic(n:Nat)(w:World)(hn:n<=4096) :
  Calls aB 136 #[F aD 0 0,E J n] w λe w'=>∃ v,e = dB v/\w'.ownsRow w.heap.size 162 6 v 0 []/\ZD w w':=by
 obtain⟨i0,hi,ac,ad,ae⟩:=bX Tryz.infoCoin;by_cases h:n=0
 ·subst h;exact (Any8.slices_Grow_room Tryz.growC aD 0 0 0 w (aE _) (by omega) (by omega) (by omega)).mono λe w' ⟨h1,h2⟩=>⟨_,h1,⟨rfl,Or.inl ⟨rfl,rfl⟩⟩,h2 ▸ Below.refl _ _⟩
 ·refine (Any8.slices_Grow_grow Tryz.growC i0 zeroC hi ac (by rw[ad];decide) aD 0 0 n [] w (aE _) (by omega) (by rw[ae];omega) (by omega) (by simp) (λ_=>rfl) (λa h=>by cases h)).mono λe w' ⟨h1,h2⟩=>⟨_,h1,?_,?_⟩
  ·rw[h2];have ag:=grownCap_ge w (0+n) 0 (Tryz.growC_ren.t 25);have ab:=grownCap_le_maxLen w (0+n) 0 (Tryz.growC_ren.t 25) (by unfold aT;omega);refine⟨rfl,Or.inr ⟨w.heap.size,_,_,rfl,aE _,aG _ _,aI _,ab,?_,rfl⟩⟩;simp only[Array.size_append,Zbq,List.size_toArray,List.length_nil];show 0+(0+n - 0)*6+_*6=_*6;omega
  ·rw[h2];exact⟨rfl,rfl,rfl,by simp,λk hk=>Below.heap_alloc w.drew _ k hk⟩
theorem Zmr(K M):Zl K++Zl M=Zl (K++M):=(Yi K M).symm
set_option maxRecDepth 100000 in
theorem Zat(B:Nat)(x y:Addr)(aa ak len cap:Nat)(k l:List CV)(w:World)(bh:aa+len<=4096)(bj:k.length=aa)(bo:l.length=len)
  (hK:∀ j u,(Zl k)[j]? = dG u->w.cell? (x.add j)=dG u) (hL:∀ j u,(Zl l)[j]? = dG u->w.cell? (y.add j)=dG u)
  (c0:w.cell? ⟨B,0,aD⟩=dG (F (dG x) aa ak)) (c1:w.cell? ⟨B,1,aD⟩=dG (F (dG y) len cap)) :
  Calls aB 101 #[F (dG ⟨B,0,aD⟩) 2 2] w λe w'=>∃ v,e = dB v/\w'.ownsRow w.heap.size 162 6 v (aa+len) (Zl (k++l))/\ZD w w':=by
 obtain⟨i0,hi,al,am,an⟩:=bX Tryz.infoCoin;have ad:B<w.heap.size:=aC _ _ c0;obtain⟨HK,HL,aw,ax⟩:=kh4 hK hL bj bo;go_enter func101,ntmps101;go_wp2;refine bB 3 ?_;rw[aS];go_wp2;rw[aS];go_wp2;rw[aS];have GR:=Zb (Zic (aa+len) w bh);rw[Int.natCast_add] at GR;go_wp2_with fail;refine GR.mono ?_;rintro e w1 ⟨v,rfl,bi,ae⟩;obtain⟨ah,ac⟩:=kh2 bi ae;have bq:=(ae.cell (p:=⟨B,0,aD⟩) ad).trans c0;have bs:=(ae.cell (p:=⟨B,1,aD⟩) ad).trans c1;go_wp2;refine bB 3 ?_;rw[aS]
 go_wp2_with (at_builtin;refine wpList_append_own _ rfl _ _ 64 rfl w.heap.size 162 i0 zeroC 6 64 cH hi al am an rfl (by decide) _ _ _ rfl ah x aa ak (Zl k) rfl (by rw[Z7,Za aw]) (λj u hj=>Ze ac (HK j u hj)) (Xg k) (by unfold aT;omega) (by omega) ac.size ?_;intro v1 w2 bf bd _)
 have aj:Hid (w2.ownsRow w.heap.size 162 6 v1 (0+aa) (Zl k)):=Zb (by simpa using bf);have ab:=Zb (ac.grown bd ac.size (Xz ah));have br:=(ab.cell (p:=⟨B,0,aD⟩) ad).trans c0;have bu:=(ab.cell (p:=⟨B,1,aD⟩) ad).trans c1;go_wp2;rw[aS]
 go_wp2_with (at_builtin;refine wpList_append_own _ rfl _ _ 64 rfl w.heap.size 162 i0 zeroC 6 64 cH hi al am an rfl (by decide) _ _ _ rfl aj y len cap (Zl l) rfl (by rw[Z7,Za ax]) (λj u hj=>Ze ab (HL j u hj)) (Xg l) (by unfold aT;omega) (by omega) ab.size ?_;intro v2 w3 bg be _)
 have av:Hid (w3.ownsRow w.heap.size 162 6 v2 (aa+len) (Zl (k++l))):=by
  have q:=bg;rw[Zmr,bO] at q;exact q
 have aq:=Zb (ab.grown be ab.size (Xz aj));go_wp2;rw[aS];go_wp2;go_ret;exact⟨v2,rfl,Za av,Za aq⟩
theorem Sz(n:Int)(b:Bool)(w)(hb:b=fit n) :
  Calls aB 181 #[E J n] w λe w'=>e = dB (dF b)/\w=w':=by
 subst hb;by_cases h1 : -1000000<=n
 ·by_cases h2:n<=1000000
  ·have e:fit n=true:=(Xt n).2 ⟨h1,h2⟩;rw[e];clear e;go_enter func181,ntmps181;go_wp2;go_ret;exact⟨rfl,rfl⟩
  ·have e:fit n=false:=(Kr n).2 (by omega);have h3:decide (n<=1000000)=false:=(by simp;omega);rw[e];clear e;go_enter func181,ntmps181;go_wp2;go_ret;exact⟨rfl,rfl⟩
 ·have e:fit n=false:=(Kr n).2 (by omega);have h3:n < -1000000:=by omega
  rw[e];clear e h1;go_enter func181,ntmps181;go_wp2;go_ret;exact⟨rfl,rfl⟩
theorem Zsx(b:Bool)(w:World) :
  Calls aB 180 #[dF b] w λe w'=>e = dB (F (dG ⟨w.heap.size,0,aD⟩) 1 1)/\w'=w.alloc (dA #[E J (b01 b)] 3):=by
 cases b
 all_goals
  go_enter func180,ntmps180;go_wp2;go_ret;exact⟨rfl,rfl⟩
def Ah(h k n a b:Int):List Int:=
 if k=1 then [n] else if k=2 then [a,a] else if k=3 then [b,a] else if k=4\/k=11 then [] else if k=9\/k=13 then [g1 k a] else if k=12 then [h] else [g2 k a b]
theorem Y4(M)(a:Int):Xe (M++[a])=dG M:=by simp[Xe]
theorem Xw(M)(a:Int):Jc (M++[a])=a:=by simp[Jc]
theorem U8(M)(a b:Int):Xe (M++[a,b])=dG (M++[a]):=by
 rw[show M++[a,b]=(M++[a])++[b] by simp];exact Y4 _ _
theorem Q4(M)(a b:Int):Jc (M++[a,b])=b:=by
 rw[show M++[a,b]=(M++[a])++[b] by simp];exact Xw _ _
theorem Zgi(h n:Int)(L):Ym h 1 n L=Yf L [n]:=by simp[Ym,Yf]
theorem B9(h n:Int)(L):Ym h 12 n L=Yf L [h]:=by simp[Ym,Yf]
theorem Zkc(h n:Int)(M)(a:Int):Ym h 2 n (M++[a])=Yf M [a,a]:=by
 simp[Ym,Yf,Y4,Xw]
theorem Zgl(h n:Int)(M)(a:Int):Ym h 4 n (M++[a])=dG M:=by simp[Ym,Y4]
theorem Zjz(h n:Int)(M)(a:Int):Ym h 9 n (M++[a])=Yf M [b01 (a == 0)]:=by
 simp[Ym,Yf,Y4,Xw,g1]
theorem Zkb(h n:Int)(M)(a:Int):Ym h 13 n (M++[a])=Yf M [Ez a]:=by
 simp[Ym,Yf,Y4,Xw,g1]
theorem B8(h n:Int)(M)(a:Int):Ym h 11 n (M++[a])=if a=0 then aD else dG M:=by
 simp[Ym,Y4,Xw]
theorem Zgg(h n:Int)(M)(a b:Int):Ym h 3 n (M++[a,b])=Yf M [b,a]:=by
 simp[Ym,Yf,U8,Q4,Y4,Xw]
theorem Zkf(h n:Int)(M)(a b:Int):Ym h 5 n (M++[a,b])=Yf M [a+b]:=by
 simp[Ym,Yf,U8,Q4,Y4,Xw,g2]
theorem Zjx(h n:Int)(M)(a b:Int):Ym h 6 n (M++[a,b])=Yf M [a - b]:=by
 simp[Ym,Yf,U8,Q4,Y4,Xw,g2]
theorem Zgh(h n:Int)(M)(a b:Int):Ym h 7 n (M++[a,b])=Yf M [b01 (a == b)]:=by
 simp[Ym,Yf,U8,Q4,Y4,Xw,g2]
theorem Zgk(h n:Int)(M)(a b:Int):Ym h 8 n (M++[a,b])=Yf M [b01 (decide (a<b))]:=by
 simp[Ym,Yf,U8,Q4,Y4,Xw,g2]
theorem Zkd(h n:Int)(M)(a b:Int):Ym h 10 n (M++[a,b])=Yf M [b01 (a != 0 && b != 0)]:=by
 simp[Ym,Yf,U8,Q4,Y4,Xw,g2]
theorem Fr:Xe []=aD:=rfl
theorem Zka(h k n:Int)(hk:k≠1)(ab:k≠12):Ym h k n []=aD:=by
 simp[Ym,Fr,hk,ab]
theorem Zjy(h k n a:Int)(hk:k=3\/k=5\/k=6\/k=7\/k=8\/k=10):Ym h k n [a]=aD:=by
 have e:Xe [a]=dG []:=rfl
 rcases hk with rfl|rfl|rfl|rfl|rfl|rfl <;> simp[Ym,e,Fr]
theorem Pc{L:List Int}(h:1<=L.length):∃ M a,L=M++[a]:=by
 have hn:L≠[]:=λe=>by subst e;simp at h
 exact⟨L.dropLast,L.getLast hn,(List.dropLast_concat_getLast hn).symm⟩
theorem Zlk{L:List Int}(h:2<=L.length):∃ M a b,L=M++[a,b]:=by
 obtain⟨M,b,rfl⟩:=Pc (L:=L) (by omega);obtain⟨N,a,rfl⟩:=Pc (L:=M) (by simp at h;omega);exact⟨N,a,b,by simp⟩
theorem Dr{M:List Int}{x:Int}(h1:M.length<16)(h2:fit x=true):Yf M [x]=dG (M++[x]):=by
 have:¬M.length=16:=by omega
 simp[Yf,Qt,this,h2]
theorem Ts{M:List Int}{x:Int}{r}(h1:M.length=16):Yf M (x :: r)=aD:=by simp[Yf,Qt,h1]
theorem Cy{M}{x:Int}{r}(h2:fit x=false):Yf M (x :: r)=aD:=by simp[Yf,Qt,h2]
theorem Cx{M:List Int}{x y:Int}(h1:M.length<16)(h2:fit x=true):Yf M [x,y]=Yf (M++[x]) [y]:=by
 have:¬M.length=16:=by omega
 simp[Yf,Qt,this,h2]
theorem J5{L:List Int}(h:Ye L=true):L.length<=16/\∀ x∈L,fit x=true:=by
 simpa[Ye] using h
open Go.RowKit Go.Maps
theorem Zdb:Keyed aB 3:=int_keyed aN
theorem Dh(w):(zeroValue 3).run aB w = .ok (E J 0) w:=by kernel_rfl
theorem Si{H:Type}{P:Program}(w:World){ops rest}{o:Oper}{a:Act}{Q:Exit->Act->World->Prop}
  (hg:o.guard=aD) (m x v:Operand) (t:aY) (ag:o.op=Op.insert t m x v)
  (k e:aY) (K:Keyed P k) (ht:P.underlying t=dG (.map k e)) (R:Value->Option (cQ H×List MemPlace)) (b n:Nat) (D:cQ H)
  (hm:a.eval m = .map (dG b)) (ah:w.ownsMap P k R b n D) (hn:n<aT) (aa val) (kl:Lit) (hx:a.eval x=aa) (hv:a.eval v=val) (ae:keyOf P k aa=dG kl)
  (d:cQ H) (ps) (am:R val=dG (d,ps))
  (hK:∀ w',w'.ownsMap P k R b (n+1) (D.put kl d)->w.grownBy w' (dG b)->wpList P ops Q rest (a.put o.dst undef) w') :
  wpList P ops Q (o :: rest) a w:=by
 refine wpList_plain hg λK' ac=>?_;obtain⟨w',aj,r1,r2⟩:=ah.update K ht hn ae am;unfold Oper.wp;simp[execOp,ag,hm,hx,hv,aj,Result.andThen];exact ac _ _ (hK w' r1 r2)
def putD(D:cQ Unit)(p:Int×Int):cQ Unit:=D.put (.int .i64 p.1) (.lit (.int .i64 p.2))
def TakesD:cQ Unit:=[(2,1),(3,2),(4,1),(5,2),(6,2),(7,2),(8,2),(9,1),(10,2),(11,1),(13,1)].foldl putD (.map [])
def Qs(k:Int):Int:=if k=1\/k=12 then 0 else if k=2\/k=4\/k=9\/k=11\/k=13 then 1 else 2
theorem Zjr(k:Int)(h1:1<=k)(h2:k<=13):TakesD.atKey (.int .i64 k) (.lit (.int .i64 0)) = .lit (.int .i64 (Qs k)):=by
 have h:k=1\/k=2\/k=3\/k=4\/k=5\/k=6\/k=7\/k=8\/k=9\/k=10\/k=11\/k=12\/k=13:=by omega
 rcases h with rfl|rfl|rfl|rfl|rfl|rfl|rfl|rfl|rfl|rfl|rfl|rfl|rfl
 all_goals rfl
abbrev Kv(bm n:Nat)(D:cQ Unit)(w:World):Prop:=w.ownsMap aB 3 (plainElem (H:=Unit) aB 3) bm n D
structure St(W:World)(bm:Nat)(v:Value)(L:List Int)(w:World):Prop where
 row:∃ g cap,v = F (dG ⟨g,0,aD⟩) L.length cap/\L.length<=cap/\cap<=aT
 own:w.ownsRow W.heap.size 3 1 v L.length (L.map (aU .i64))
 map:Kv bm 11 TakesD w
 bel:ZD W w
theorem Zmd{bm n:Nat}{D:cQ Unit}{w w':World}(h:Kv bm n D w)(hb:ZD w w'):Kv bm n D w':=by
 obtain⟨es,aa,h1,r⟩:=h;exact⟨es,aa,(hb.block bm (aA h1)).trans h1,r⟩
theorem Zlo{w w':World}{base:Nat}{e:aY}{size:Nat}{v}{n:Nat}{xs}(h:w.ownsRow base e size v n xs)(hb:ZD w w'):w'.ownsRow base e size v n xs:=by
 obtain⟨hl,h0|⟨g,cap,ac,hv,hg,hh,r⟩⟩:=h
 ·exact⟨hl,.inl h0⟩
 ·exact⟨hl,.inr ⟨g,cap,ac,hv,hg,(hb.block g (aA hh)).trans hh,r⟩⟩
theorem St.keep{W}{bm:Nat}{v L}{w w':World}(h:St W bm v L w)(hb:ZD w w'):St W bm v L w':=
 ⟨h.row,Zlo h.own hb,Zmd h.map hb,h.bel.trans (hb.mono h.bel.size)⟩
theorem St.apart{W}{bm:Nat}{v:Value}{L w}(h:St W bm v L w):dG bm≠v.ownBlock:=by
 obtain⟨es,ac,h1,_⟩:=h.map;obtain⟨_,h0|⟨g,cap,ad,hv,hg,hh,r⟩⟩:=h.own
 ·obtain⟨g,cap,hv,_⟩:=h.row;rw[hv] at h0;simp at h0
 ·rw[hv];intro e;simp only[Value.ownBlock,aZ] at e;rw[e,hh] at h1;cases h1
theorem St.ge{W:World}{bm:Nat}{v:Value}{L w}(h:St W bm v L w):∀ k,v.ownBlock=dG k->W.heap.size<=k:=by
 obtain⟨_,h0|⟨g,cap,ac,hv,hg,hh,r⟩⟩:=h.own
 ·intro k hk;rw[h0.1] at hk;cases hk
 ·intro k hk;rw[hv] at hk;simp only[Value.ownBlock,aZ] at hk;omega
theorem St.app{W:World}{bm:Nat}{v v':Value}{L:List Int}{x:Int}{w w':World}(h:St W bm v L w)
  (ho:w'.ownsRow W.heap.size 3 1 v' (L.length+1) (L.map (aU .i64)++[E J x])) (hg:w.grownBy w' v.ownBlock) (hn:v' = F aD 0 0↔v = F aD 0 0/\1=0):St W bm v' (L++[x]) w' where
 row:=by
  obtain⟨_,h0|⟨g,cap,ad,hv,hg,hh,h1,h2,r⟩⟩:=ho
  ·exact absurd (hn.1 h0.1).2 (by decide)
  ·exact⟨g,cap,by rw[hv];simp,by simpa using h1,h2⟩
 own:=by simpa using ho
 map:=h.map.kept hg h.apart
 bel:=h.bel.grown hg h.bel.size h.ge
theorem St.cut{W}{bm:Nat}{a n cap}{M T:List Int}{w}(h:St W bm (F a n cap) (M++T) w):St W bm (F a M.length cap) M w where
 row:=by
  obtain⟨g,c,hv,h1,h2⟩:=h.row;simp only[Value.slice.injEq] at hv;obtain⟨rfl,_,rfl⟩:=hv;rw[bL] at h1;exact⟨g,cap,rfl,by omega,h2⟩
 own:=by
  obtain⟨hl,h0|⟨g,c,ab,hv,hg,hh,h1,h2,h3,h4⟩⟩:=h.own
  ·obtain⟨g,c,hv,_⟩:=h.row;rw[hv] at h0;simp at h0
  ·simp only[Value.slice.injEq] at hv;obtain⟨rfl,_,rfl⟩:=hv;rw[bL] at h1;refine⟨by simp,.inr ⟨g,cap,ab,rfl,hg,hh,by omega,h2,h3,?_⟩⟩;have e:=congrArg (List.take (M.length*1)) h4;rw[List.take_take,bL] at e;rw[show min (M.length*1) ((M.length+T.length)*1)=M.length*1 by omega] at e;rw[e,List.map_append,List.take_left' (by simp)]
 map:=h.map
 bel:=h.bel
theorem St.cell{W}{bm:Nat}{g n cap:Nat}{L:List Int}{w:World}(h:St W bm (F (dG ⟨g,0,aD⟩) n cap) L w)(i:Nat)(hi:i<L.length):w.cell? ⟨g,i,aD⟩=dG (E J (L.getD i 0)):=by
 obtain⟨hl,h0|⟨g',c,ac,hv,hg,hh,h1,h2,h3,h4⟩⟩:=h.own
 ·obtain⟨h5,_⟩:=h0;simp at h5
 ·simp only[Value.slice.injEq,aZ,Addr.mk.injEq] at hv;obtain⟨⟨rfl,_⟩,_,rfl⟩:=hv;have e:=congrArg (λl:List Value=>l[i]?) h4;simp only[List.getElem?_take_of_lt (show i<L.length*1 by omega)] at e;simp only[bF,hh];rw[Array.getElem?_toList] at e;simpa[hi] using e
theorem St.rowAt{W}{bm:Nat}{v}{L:List Int}{w}(h:St W bm v L w):∃ a cap,v = F a L.length cap/\RowAt w a L.length L/\(a=aD->cap=0):=by
 obtain⟨g,cap,rfl,h1,h2⟩:=h.row;refine⟨_,cap,rfl,⟨rfl,Nat.le_trans h1 h2,λ_=>⟨g,0,rfl,λi hi=>?_⟩⟩,λh=>by cases h⟩;rw[bO];exact h.cell i hi
open Go.RowKit Go.Maps
theorem Tryz.info3:(Tryz.prog.info? 3).map (λi=>(i.zero,i.size,i.bytes))=dG (dG (E J 0),1,8):=by kernel_rfl
theorem Ql{w:World}{ops rest}{o:Oper}{a:Act}{Q:Exit->Act->World->Prop}(af:o.guard=aD)(s x:Operand)
  (ho:o.op = .call { callee:=.builtin .append,args:=#[s,x],argTypes:=#[25,25] }) (base:Nat) (v:Value) (n:Nat) (xs) (hs:a.eval s=v) (ac:w.ownsRow base 3 1 v n xs)
  (be len cap) (Z:List Int) (hx:a.eval x = F be len cap) (aw:be=aD->cap=0) (hR:RowAt w be len Z) (bd:n+len<=1000000) (av:base<=w.heap.size)
  (h:∀ v' w',w'.ownsRow base 3 1 v' (n+len) (xs++Z.map (aU .i64))->w.grownBy w' v.ownBlock->(v = F aD 0 0\/v' ≠ F aD 0 0)->wpList aB ops Q rest (a.put o.dst v') w') :
  wpList aB ops Q (o :: rest) a w:=by
 obtain⟨i0,hi,ax,ay,az⟩:=bX Tryz.info3;cases be with
 | none=>
  have h0:len=0:=by
   by_cases e:len=0
   ·exact e
   ·obtain⟨b,off,e',_⟩:=hR.2.2 (by omega);cases e'
  subst h0;have hc:=aw rfl;subst hc;have hZ:Z=[]:=aJ.1 hR.1;subst hZ;refine wpList_append_own_none af s x 25 ho base 3 i0 1 cR hi v n xs hs ac hx ?_;by_cases hv:v = F aD 0 0
  ·exact h v w (by simpa using ac) (World.grownBy.refl _ _) (.inl hv)
  ·exact h v w (by simpa using ac) (World.grownBy.refl _ _) (.inr hv)
 | some ad=>
  refine wpList_append_own w af s x 25 ho base 3 i0 (E J 0) 1 8 cR hi ax ay az rfl (by decide) v n xs hs ac ad len cap (Z.map (aU .i64)) hx (by simp[hR.1]) (λj u hj=>?_) (λu hu=>?_) (by unfold aT;omega) (by omega) av λv' w' h1 h2 h3=>h v' w' h1 h2 ?_
  ·have ah:j<Z.length:=by
    have:=(cD.1 hj).1;simpa using this
   obtain⟨b,off,e,hc⟩:=hR.2.2 (by rw[<-hR.1];omega);cases e;have au:(⟨b,off,aD⟩:Addr).add j=⟨b,off+j,aD⟩:=(by unfold Addr.add;split <;> simp_all);rw[au,hc j (by rw[<-hR.1];exact ah)];simpa[ah] using hj
  ·simp only[List.mem_map] at hu;obtain⟨y,_,rfl⟩:=hu;rfl
  ·by_cases e:v' = F aD 0 0
   ·exact .inl (h3.1 e).1
   ·exact .inr e
structure Pro(W:World)(bm:Nat)(v:Value)(L:List Int)(n:Nat)(D:cQ Unit)(w:World):Prop where
 row:∃ g cap,v = F (dG ⟨g,0,aD⟩) L.length cap/\L.length<=cap/\cap<=aT
 own:w.ownsRow W.heap.size 3 1 v L.length (L.map (aU .i64))
 apart:v.ownBlock≠dG bm
 new:W.heap.size<=bm
 map:Kv bm n D w
 bel:ZD W w
theorem Pro.start{W w0 w:World}{v0 v:Value}{L:List Int}(hb:ZD W w0)(ae:∀ k,v0.ownBlock=dG k->W.heap.size<=k)(ho:w.ownsRow W.heap.size 3 1 v L.length (L.map (aU .i64)))(hg:w0.grownBy w v0.ownBlock)(hn:v ≠ F aD 0 0) :
  Pro W w.heap.size v L 0 (.map []) (w.alloc (.map #[] 0)) where
 row:=by
  obtain⟨_,h0|⟨g,cap,ag,hv,_,hh,h1,h2,r⟩⟩:=ho
  ·exact absurd h0.1 hn
  ·exact⟨g,cap,hv,h1,h2⟩
 own:=ho.alloc _
 apart:=by
  obtain⟨_,h0|⟨g,cap,ag,hv,_,hh,_⟩⟩:=ho
  ·exact absurd h0.1 hn
  ·have:=aA hh;rw[hv];intro e;simp only[Value.ownBlock,aZ] at e;omega
 new:=(hb.grown hg hb.size ae).size
 map:=World.ownsMap_made _ _ _ _
 bel:=(hb.grown hg hb.size ae).alloc (hb.grown hg hb.size ae).size _
theorem Dt{w w1:World}{v1}{lens:Nat}{Z:List Int}(hb:ZD w (w.alloc (dA #[] 3)))(hz:Z.length=lens)(ho:w1.ownsRow w.heap.size 3 1 v1 (0+lens) ([]++Z.map (aU .i64)))
  (hg:(w.alloc (dA #[] 3)).grownBy w1 (Value.ownBlock (F (dG ⟨w.heap.size,0,aD⟩) 0 0))) (hn:(Value.slice (dG ⟨w.heap.size,0,aD⟩) 0 0) = F aD 0 0\/v1 ≠ F aD 0 0):Pro w w1.heap.size v1 Z 0 (.map []) (w1.alloc (.map #[] 0)):=by
 rw[List.nil_append,bO,<-hz] at ho;exact Pro.start hb (λk hk=>by cases hk;exact aE _) ho hg (hn.resolve_left (by simp))
theorem Pro.st{W}{bm:Nat}{v L w}(h:Pro W bm v L 11 TakesD w):St W bm v L w:=⟨h.row,h.own,h.map,h.bel⟩
theorem Qk(w){ops rest}{o:Oper}{a:Act}{Q:Exit->Act->World->Prop}
  (hg:o.guard=aD) (m x v:Operand) (ag:o.op=Op.insert 103 m x v) (W) (bm:Nat) (u L) (n:Nat) (D:cQ Unit)
  (hp:Pro W bm u L n D w) (hm:a.eval m = .map (dG bm)) (hn:n<100) (k t:Int) (hx:a.eval x = .int .i64 k) (hv:a.eval v = .int .i64 t) (hk:(Lit.int .i64 k).wf=true) (ht:(Lit.int .i64 t).wf=true)
  (hK:∀ w',Pro W bm u L (n+1) (putD D (k,t)) w'->wpList aB ops Q rest (a.put o.dst undef) w') :
  wpList aB ops Q (o :: rest) a w:=by
 refine Si w hg m x v 103 ag 3 3 Zdb underlying103 _ bm n D hm hp.map (by unfold aT;omega) _ _ _ hx hv (keyOf_int_mk aN hk) _ [] (plainElem_int aN ht) λw' h1 h2=>hK w' ?_;exact⟨hp.row,hp.own.kept h2 (.inr hp.apart),hp.apart,hp.new,h1,hp.bel.grown h2 hp.bel.size (λj hj=>by cases hj;exact hp.new)⟩
set_option maxRecDepth 100000 in
theorem Ch(be)(lens caps cap:Nat)(a)(Z:List Int)(h:Int)(w:World)(hR:RowAt w be lens Z)(hc:be=aD->caps=0)(hZ:Ye Z=true) :
  Calls aB 135 #[F a 0 cap,F be lens caps,E J h] w λe w'=>∃ a' ab,e = dB (dC #[F a' Z.length ab,dF true])/\RowAt w' a' Z.length Z/\ZD w w'/\(a'=aD->ab=0):=by
 have ay:lens<=16:=by rw[<-hR.1];exact (J5 hZ).1
 obtain⟨HR,HC,ac⟩:=kh3 hR hc ((Below.refl w.heap.size w).alloc (aE _) (dA #[] 3));have al:=Zb (HR.later ac);have ak:Hid ((w.alloc (dA #[] 3)).ownsRow w.heap.size 3 1 (F (dG ⟨w.heap.size,0,aD⟩) 0 0) 0 []):=⟨rfl,.inr ⟨w.heap.size,0,#[],rfl,aE _,aG _ _,aE _,by decide,rfl,rfl⟩⟩;have az:=@run_makeMap aB;go_enter func135,ntmps135
 go_wp2_with (first
  | (at_builtin;refine Ql rfl _ _ rfl w.heap.size _ _ _ rfl ak be lens caps Z rfl HC al (by omega) ac.size ?_;intro v1 w1 av ar au;have ad:=Dt ac HR.1 av ar au)
  | (refine Qk _ rfl _ _ _ rfl _ _ _ _ _ _ ad rfl (by omega) _ _ rfl rfl (by decide) (by decide) ?_;intro w2 ax;have ad:=ax))
 have af:=Zb (Pro.st ad);obtain⟨a',ab,rfl,aw,aq⟩:=af.rowAt;obtain⟨aj,am⟩:=kh2 aq aw;refine bB 1 ?_;rw[aS];go_wp2;go_ret2;exact⟨a',ab,rfl,Za am,af.bel,Za aj⟩
open Go.RowKit Go.Maps
theorem Fb{k c:Int}(h1:1<=k)(h2:k<=13)(aa:TakesD.atKey (.int .i64 k) (.lit (.int .i64 0)) = .lit (.int .i64 c)):c=Qs k:=by
 rw[Zjr k h1 h2] at aa;cases aa;rfl
theorem Zhl{k n:Int}(h:Xd (k,n)=0):(k=1\/k=2\/k=3\/k=4\/k=5\/k=6\/k=7\/k=8\/k=9\/k=10\/k=11\/k=12\/k=13)/\-1000000<=n/\n<=1000000:=by
 simp only[Xd] at h;split at h
 ·cases h
 ·split at h
  ·cases h
  ·rename_i h1 h2;simp only[not_or,Bool.not_eq_false] at h2;have:=(Xt n).1 h2.2;omega
theorem Rr{h:Int}{l:List (Int×Int)}{Z L}{k:Nat}{q:Int×Int}(hk:k<l.length)(hq:q=l[k])(hr:Y9 h (l.take k) Z=dG L):Y9 h (l.take (k+1)) Z=Ym h q.1 q.2 L:=by
 rw[List.take_succ_eq_append_getElem hk,Uj,hr,<-hq];simp only[Option.bind,Y9];cases Ym h q.1 q.2 L <;> rfl
theorem U6{h:Int}{l:List (Int×Int)}{Z L}{k:Nat}{q:Int×Int}(hk:k<l.length)(hq:q=l[k])(hr:Y9 h (l.take k) Z=dG L)(hs:Ym h q.1 q.2 L=aD):Y9 h l Z=aD:=by
 rw[<-List.take_append_drop (k+1) l,Uj,Rr hk hq hr,hs];rfl
theorem Zso(a d:Int):(a*d != 0)=(a != 0 && d != 0):=by
 by_cases h1:a=0
 ·simp[h1]
 ·by_cases h2:d=0
  ·simp[h2]
  ·have h3:a*d≠0:=Int.mul_ne_zero h1 h2;rw[bne_iff_ne.2 h3,bne_iff_ne.2 h1,bne_iff_ne.2 h2];rfl
theorem Zsp{a d:Int}(ha : -1000000<=a/\a<=1000000)(hd : -1000000<=d/\d<=1000000) : -1000000000000<=a*d/\a*d<=1000000000000:=by
 have h1:=Int.mul_nonneg (show 0<=1000000 - a by omega) (show 0<=1000000+d by omega);have h2:=Int.mul_nonneg (show 0<=1000000+a by omega) (show 0<=1000000 - d by omega);have h3:=Int.mul_nonneg (show 0<=1000000 - a by omega) (show 0<=1000000 - d by omega);have h4:=Int.mul_nonneg (show 0<=1000000+a by omega) (show 0<=1000000+d by omega);simp only[Int.sub_mul,Int.add_mul,Int.mul_sub,Int.mul_add] at h1 h2 h3 h4;omega
theorem Ku(w:World)(o:Obj):ZD w (w.alloc o):=(Below.refl _ _).alloc (aE _) _
theorem Znn(w:World)(x)(t:aY)(j:Nat)(u)(h:[x][j]? = dG u):(w.alloc (dA #[x] t)).cell? ((⟨w.heap.size,0,aD⟩:Addr).add j)=dG u:=by
 have aa:(⟨w.heap.size,0,aD⟩:Addr).add j=⟨w.heap.size,j,aD⟩:=by unfold Addr.add;split <;> simp_all
 rw[aa,bG _ _ _ _ rfl];simpa using h
theorem St.lt{W}{bm g n cap:Nat}{L}{w:World}(h:St W bm (F (dG ⟨g,0,aD⟩) n cap) L w):g<w.heap.size:=by
 obtain⟨_,h0|⟨g',c,ac,hv,_,hh,_⟩⟩:=h.own
 ·exact absurd h0.1 (by simp)
 ·simp only[Value.slice.injEq,aZ,Addr.mk.injEq] at hv;obtain⟨⟨rfl,_⟩,_⟩:=hv;exact aA hh
theorem St.drewN{W}{bm:Nat}{v L}{w:World}(h:St W bm v L w)(n:Nat):St W bm v L (w.drewN n):=
 ⟨h.row,h.own,h.map,⟨h.bel.os,h.bel.tape,h.bel.output,h.bel.size,h.bel.block⟩⟩
theorem Vt{w0:World}{x:Int}{ops rest}{o:Oper}{a:Act}{Q:Exit->Act->World->Prop}(ae:o.guard=aD)(s y:Operand)
  (ho:o.op = .call { callee:=.builtin .append,args:=#[s,y],argTypes:=#[25,25] }) (W) (bm:Nat) (v:Value) (L:List Int) (hs:a.eval s=v) (hL:L.length<=16)
  (aj:St W bm v L w0) (ar:Nat) (ad:ar=w0.heap.size) (hx:a.eval y = F (dG ⟨ar,0,aD⟩) 1 1)
  (h:∀ v' w',St W bm v' (L++[x]) w'->(w0.alloc (dA #[E J x] 3)).grownBy w' v.ownBlock->wpList aB ops Q rest (a.put o.dst v') w') :
  wpList aB ops Q (o :: rest) a (w0.alloc (dA #[E J x] 3)):=by
 obtain⟨i0,hi,al,am,an⟩:=bX Tryz.info3;subst ad;have aa:=aj.keep (Ku w0 (dA #[E J x] 3));refine wpList_append_own _ ae s y 25 ho W.heap.size 3 i0 (E J 0) 1 8 cR hi al am an rfl (by decide) v L.length (L.map (aU .i64)) hs aa.own ⟨w0.heap.size,0,aD⟩ 1 1 [E J x] hx rfl (λj u hj=>Znn w0 _ 3 j u hj) (λu hu=>?_) (by unfold aT;omega) (by omega) aa.bel.size λv' w' h1 h2 h3=>h v' w' (aa.app h1 h2 h3) h2;simp only[List.mem_singleton] at hu;subst hu;rfl
def Zoj(gb:Nat)(W:World)(v:Value)(P:List Int):Prop:=
 (P=[]/\v = F aD 0 0)\/(∃ x p,P=[x]/\v = F (dG ⟨p,0,aD⟩) 1 1/\W.cell? ⟨p,0,aD⟩=dG (E J x)/\gb<p/\p<W.heap.size) \/
  ∃ x y p,P=[x,y]/\(fit x=true/\fit y=true)/\v = F (dG ⟨p,0,aD⟩) 2 2/\W.cell? ⟨p,0,aD⟩=dG (E J x)/\W.cell? ⟨p,1,aD⟩=dG (E J y)/\gb<p/\p<W.heap.size
theorem Ai{gb:Nat}{W:World}(h:gb<W.heap.size)(x:Int):Zoj gb (W.alloc (dA #[E J x] 3)) (F (dG ⟨W.heap.size,0,aD⟩) 1 1) [x]:=
 .inr (.inl ⟨x,_,rfl,rfl,by rw[bG _ _ _ _ rfl];rfl,h,by simp⟩)
theorem Zew{gb:Nat}{W:World}(h:gb<W.heap.size){x y:Int}(hx:fit x=true)(hy:fit y=true):Zoj gb (W.alloc (dA #[E J x,E J y] 3)) (F (dG ⟨W.heap.size,0,aD⟩) 2 2) [x,y]:=
 .inr (.inr ⟨x,y,_,rfl,⟨hx,hy⟩,rfl,by rw[bG _ _ _ _ rfl];rfl,by rw[bG _ _ _ _ rfl];rfl,h,by simp⟩)
theorem Zke(h n:Int){k:Int}(hk:1<=k/\k<=13)(M)(a d:Int) :
  Ym h k n (M++if Qs k=0 then [] else if Qs k=1 then [a] else [a,d])=if k=11/\a=0 then aD else Yf M (Ah h k n a d):=by
 have h:k=1\/k=2\/k=3\/k=4\/k=5\/k=6\/k=7\/k=8\/k=9\/k=10\/k=11\/k=12\/k=13:=by omega
 rcases h with rfl|rfl|rfl|rfl|rfl|rfl|rfl|rfl|rfl|rfl|rfl|rfl|rfl
 all_goals simp[Qs,Ah,g1,g2,Zgi,B9,Zkc,Zgl,Zjz,Zkb,B8,Zgg,Zkf,Zjx,Zgh,Zgk,Zkd,Yf]
theorem Ziw(w:World)(n:Nat):ZD w (w.drewN n):=have b:=Below.refl w.heap.size w;⟨b.os,b.tape,b.output,b.size,b.block⟩
set_option maxRecDepth 100000 in
theorem Cg(b off len cap:Nat)(l:List (Int×Int))(az)(lens caps:Nat)(Z)(h:Int)(w:World)(h16:len<=16)(dg:V8 l=0)(hz:l.length=len)
  (hc:∀ i,i<len->w.cell? ⟨b,off+i*2,aD⟩=dG (.int .i64 (l.getD i (0,0)).1)/\w.cell? ⟨b,off+i*2+1,aD⟩=dG (.int .i64 (l.getD i (0,0)).2)) (hl:b<w.heap.size)
  (hR:RowAt w az lens Z) (dh:az=aD->caps=0) (hZ:Ye Z=true) (hh:hOk h=true) :
  Calls aB 135 #[F (dG ⟨b,off,aD⟩) len cap,F az lens caps,.int .i64 h] w λe w'=>∃ a' cc,e = dB (.tuple #[.slice a' ((Y9 h l Z).getD []).length cc,.bool (Y9 h l Z).isSome])/\RowAt w' a' ((Y9 h l Z).getD []).length ((Y9 h l Z).getD [])/\ZD w w'/\(a'=aD->cc=0):=by
 have bs:lens<=16:=by rw[<-hR.1];exact (J5 hZ).1
 obtain⟨HH,HC,HZ,HK,ee,HR,dw⟩:=kh7 hh hc hz (Rj dg) hZ hR dh;clear hR hc hZ hh hz dg dh;have bv:=Zb ((Below.refl w.heap.size w).alloc (aE _) (dA #[] 3));have ed:=Zb (HR.later bv);have eb:Hid ((w.alloc (dA #[] 3)).ownsRow w.heap.size 3 1 (F (dG ⟨w.heap.size,0,aD⟩) 0 0) 0 []):=⟨rfl,.inr ⟨w.heap.size,0,#[],rfl,aE _,aG _ _,aE _,by decide,rfl,rfl⟩⟩;have fe:=@run_makeMap aB;go_enter func135,ntmps135
 go_wp2_with (first
  | (at_builtin;refine Ql rfl _ _ rfl w.heap.size _ _ _ rfl eb az lens caps Z rfl dw ed (by omega) bv.size ?_;intro v1 w1 fh ey cn;have ag:=Dt bv HR.1 fh ey cn)
  | (refine Qk _ rfl _ _ _ rfl _ _ _ _ _ _ ag rfl (by omega) _ _ rfl rfl (by decide) (by decide) ?_;intro w2 fj;clear ag;have ag:=fj))
 have cx:=Zb (Pro.st ag);obtain⟨bm,de⟩:=ZG (w1.heap.size);rw[<-de] at cx ⊢;clear ag fe de
 go_loopw [1,26] (λv i wr=>∃ (k:Nat) (L:List Int),k<=len/\i = .int .i64 k/\Y9 h (l.take k) Z=dG L/\St w bm v L wr) (λ_ i _=>len - (intOf i).toNat)
 case atStart=>exact⟨0,Z,aI _,rfl,rfl,Za cx⟩
 case round=>
  obtain⟨k,L,hk,rfl,cp,ag⟩:=hrel;obtain⟨gd,dc⟩:=J5 (Ki ee cp);obtain⟨ct,ae,bi⟩:=kh3 dc cp ag;obtain⟨g,gy,rfl,gh,eu⟩:=ag.row;unfold aT at eu;clear dc cp;by_cases cl:k<len
  ·obtain⟨c1,c2⟩:=HC k cl;rw[<-ag.bel.cell (p:=⟨b,off+k*2,aD⟩) hl] at c1;rw[<-ag.bel.cell (p:=⟨b,off+k*2+1,aD⟩) hl] at c2;obtain⟨q,hq⟩:=ZG (l.getD k (0,0));rw[<-hq] at c1 c2;have ac:k<l.length:=(by rw[Za HZ];exact cl);have dq:q=l[k]:=(by rw[hq];simp[ac]);obtain⟨cj,cn,fg⟩:=Zhl (k:=q.1) (n:=q.2) (by rw[dq];exact HK k ac);have HQ:=Zb dq;obtain⟨q1,q2⟩:=q;simp only at c1 c2 cj cn fg;have am:=Zb (bi.keep (Ku wr (dA #[.int .i64 q1,.int .i64 q2] 139)));have dr:(Lit.int .i64 q1).wf=true:=(by simp[Lit.wf,IntKind.min,IntKind.max,IntKind.signed,IntKind.bits];omega);have bg:1<=q1/\q1<=13:=(by omega);obtain⟨n,hn⟩:=ZG (Qs q1);have dn:n=0\/n=1\/n=2:=(by rw[hn];unfold Qs;split;exact .inl rfl;split;exact .inr (.inl rfl);exact .inr (.inr rfl));have HN:=Zb hn;clear hn;by_cases hs:(L.length:Int)<n
   ·have ea:Hid (Ym h q1 q2 L=aD):=by
     have e:=Za HN;unfold Qs at e;show _=_;by_cases h0:L.length=0
     ·rw[aJ.1 h0];exact Zka h q1 q2 (λe=>by subst e;simp at e;omega) (λe=>by subst e;simp at e;omega)
     ·obtain⟨M,a,rfl⟩:=Pc (L:=L) (by omega);rw[bL] at hs;have e2:n=2:=(by simp at hs;omega);have e3:M=[]:=aJ.1 (by simp at hs;omega);subst e3;exact Zjy h q1 q2 a (by rw[e2] at e;split at e;cases e;split at e;cases e;omega)
    go_wp2_with (at_lookup;refine wpList_lookup_own_int _ rfl _ _ 103 rfl 3 3 .i64 Zdb underlying103 aN (Dh _) bm 11 _ rfl am.map _ _ rfl (keyOf_int_mk aN dr) ?_;intro c bf _;obtain rfl:n=c:=HN.trans (Fb bg.1 bg.2 bf).symm;clear bf)
    go_ret2;rw[U6 ac HQ ae ea];exact⟨aD,0,rfl,RowAt.nil _ _,am.bel,λ_=>rfl⟩
   go_upto_if 39 with (at_lookup;refine wpList_lookup_own_int _ rfl _ _ 103 rfl 3 3 .i64 Zdb underlying103 aN (Dh _) bm 11 _ rfl am.map _ _ rfl (keyOf_int_mk aN dr) ?_;intro c bf _;obtain rfl:n=c:=HN.trans (Fb bg.1 bg.2 bf).symm;clear bf)
   go_cut [13] from 39 to 45 (λav W=>∃ a:Int,av = .int .i64 a/\(wr.alloc (dA #[.int .i64 q1,.int .i64 q2] 139))=W/\Hid (n=1->∃ M,L=M++[a]))
   case first=>
    by_cases h1:n=1
    ·subst h1;obtain⟨M,a,af⟩:=Pc (L:=L) (by omega);have bs:L.length=M.length+1:=(by rw[af];simp);have ca:(wr.alloc (dA #[.int .i64 q1,.int .i64 q2] 139)).cell? ⟨g,M.length,aD⟩=dG (.int .i64 a):=(by have:=am.cell M.length (by omega);simpa[af] using this);have fk:IntKind.i64.wrap ((L.length:Int) - 1)=(M.length:Int):=(by rw[aP];omega);have fd:(M.length:Int)<(L.length:Int):=(by omega);have bw:=Zb af;clear bs af;go_wp2_with fail;go_meet
     case rel=>exact⟨a,rfl,rfl,λ_=>⟨M,Za bw⟩⟩
    ·have gb:(n == 1)=false:=(by simp[h1]);go_wp2_with fail;go_meet
     case rel=>exact⟨0,rfl,rfl,λq=>absurd q h1⟩
   obtain⟨a1,rfl,rfl,du⟩:=hcut
   go_upto_if 47 with fail
   go_cut [13,14] from 47 to 59 (λav ia W=>∃ (M:List Int) (a d:Int),av = .int .i64 a/\ia = .int .i64 d/\Hid (L=M++if n=0 then [] else if n=1 then [a] else [a,d])/\Hid (Below (wr.alloc (dA #[.int .i64 q1,.int .i64 q2] 139)).heap.size (wr.alloc (dA #[.int .i64 q1,.int .i64 q2] 139)) W))
   case first=>
    by_cases h2:n=2
    ·subst h2;obtain⟨M,a,d,af⟩:=Zlk (L:=L) (by omega);have bs:L.length=M.length+2:=(by rw[af];simp);obtain⟨m1,cm⟩:=ZG (M.length+1);have ca:(wr.alloc (dA #[.int .i64 q1,.int .i64 q2] 139)).cell? ⟨g,M.length,aD⟩=dG (.int .i64 a):=(by have:=am.cell M.length (by omega);simpa[af] using this);have cd:(wr.alloc (dA #[.int .i64 q1,.int .i64 q2] 139)).cell? ⟨g,m1,aD⟩=dG (.int .i64 d):=(by have:=am.cell m1 (by omega);simpa[af,cm] using this);have fk:IntKind.i64.wrap ((L.length:Int) - 1)=(m1:Int):=(by rw[aP];omega);have gq:IntKind.i64.wrap ((L.length:Int) - 2)=(M.length:Int):=(by rw[aP];omega);have fd:(M.length:Int)<(L.length:Int):=(by omega);have gn:(m1:Int)<(L.length:Int):=(by omega);have bw:=Zb af;clear bs af cm;go_wp2
     go_quiet (fail)
     go_wp2;go_meet
     case rel=>exact⟨M,a,d,rfl,rfl,Za bw,Ziw _ _⟩
    ·have gc:(n == 2)=false:=(by simp[h2]);go_wp2_with fail;go_meet
     case rel=>
      by_cases h1:n=1
      ·obtain⟨M,e⟩:=du h1;exact⟨M,a1,0,rfl,rfl,by show _=_;rw[e,if_neg (by omega),if_pos h1],Below.refl _ _⟩
      ·exact⟨L,a1,0,rfl,rfl,by show _=_;rw[if_pos (by omega),List.append_nil],Below.refl _ _⟩
   obtain⟨M,a,d,rfl,rfl,dy,bh⟩:=hcut;obtain⟨W2,rfl⟩:=ZG (wc);have aw:=Za dy
   have fc:(L.length:Int) - n=(M.length:Int):=by
    have:=congrArg List.length aw;rw[bL] at this
    rcases dn with e|e|e <;> rw[e] at this ⊢ <;> simp at this <;> omega
   have SP:Hid (Ym h q1 q2 L=if q1=11/\a=0 then aD else Yf M (Ah h q1 q2 a d)):=by
    show _=_;rw[aw,Za HN];exact Zke h q2 bg M a d
   have gv:1<=n->fit a=true:=λq=>ct a (by rw[aw,if_neg (by omega)];split <;> simp);have gw:n=2->fit d=true:=λq=>ct d (by rw[aw,if_neg (by omega),if_neg (by omega)];simp);have eg:=Zb (Za am |>.keep bh)
   have bo:Hid (St w bm (F (dG ⟨g,0,aD⟩) M.length gy) M W2):=by
    have e:=Za eg;rw[aw] at e;exact e.cut
   have gx:wr.heap.size<W2.heap.size:=aF (by simp) bh.size;have o0:W2.cell? ⟨wr.heap.size,0,aD⟩=dG (.int .i64 q1):=(bh.cell (p:=⟨wr.heap.size,0,aD⟩) (by simp)).trans (by rw[bG _ _ _ _ rfl];rfl);have o1:W2.cell? ⟨wr.heap.size,1,aD⟩=dG (.int .i64 q2):=(bh.cell (p:=⟨wr.heap.size,1,aD⟩) (by simp)).trans (by rw[bG _ _ _ _ rfl];rfl);have fl:IntKind.i64.wrap ((L.length:Int) - n)=(M.length:Int):=(by rw[aP];omega);have gg:M.length<=gy:=(by omega);have gf:M.length<=16:=(by omega);have gi:g<wr.heap.size:=bi.lt;obtain⟨FA,FD⟩:=kh2 gv gw;clear aw gv gw
   go_upto_block 2 with fail
   go_cut [15,16] from 68 to 144 (λpv xv W=>∃ P:List Int,Hid (Zoj wr.heap.size W pv P)/\Hid (Ym h q1 q2 L=Yf M P)/\Hid (St w bm (F (dG ⟨g,0,aD⟩) M.length gy) M W))
   case first=>
    have ay:=λ(o:Obj)=>Zb (bo.keep (Ku W2 o));by_cases hv:q1=11
    ·subst hv;by_cases h0:a=0
     ·subst h0;go_wp2;go_ret2;rw[U6 ac HQ ae (SP.trans (if_pos (by simp)))];exact⟨aD,0,rfl,RowAt.nil _ _,bo.bel,λ_=>rfl⟩
     ·have ga:(a == 0)=false:=(by simp[h0]);go_wp2;go_meet
      case rel=>exact⟨[],.inl ⟨rfl,rfl⟩,SP.trans (if_neg λq=>h0 q.2),Za bo⟩
    have SQ:Hid (Ym h q1 q2 L=Yf M (Ah h q1 q2 a d)):=SP.trans (if_neg λq=>hv q.1);by_cases hx:q1=13
    ·subst hx;have ha:=FA (by rw[Za HN];decide);have gv:=(Xt a).1 ha;have et:=Zb (Zfe a ha);go_wp2
     go_loop [16,135] (λr i=>∃ j:Nat,j<=3/\i = .int .i64 j/\r = .int .i64 (Hz a j)) (λ_ i=>3 - (intOf i).toNat)
     case atStart=>exact⟨0,aI _,rfl,rfl⟩
     obtain⟨j,hj,rfl,rfl⟩:=hrel;obtain⟨b1,b2⟩:=et j;obtain⟨m,hm⟩:=ZG (Hz a j);rw[<-hm] at b1 b2 ⊢;have HM:=Zb hm;clear hm;by_cases gl:j<3
     ·go_wp2
      go_round
      case rel=>
       refine⟨j+1,by omega,by go_num,?_⟩;have:=Za HM;simp only[Hz,<-this,Int.mul_comm m 7919]
      case measure=>simp[intOf];omega
     have fa:j=3:=(by omega);have ff:Ez a=m % 1000001:=(by unfold Ez;rw[Za HM,fa]);have dz:=Zb ff;go_wp2;go_meet
     case rel=>exact⟨_,Ai gx _,SQ.trans (by rw[<-Za dz];rfl),Za (ay _)⟩
    have hk:q1=1\/q1=2\/q1=3\/q1=4\/q1=5\/q1=6\/q1=7\/q1=8\/q1=9\/q1=10\/q1=12:=(by omega);have gp:=Zso a d;clear cj hv hx
    rcases hk with rfl|rfl|rfl|rfl|rfl|rfl|rfl|rfl|rfl|rfl|rfl
    ·go_wp2;go_meet
     case rel=>exact⟨_,Ai gx _,Za SQ,Za (ay _)⟩
    ·go_wp2;go_meet
     case rel=>exact⟨_,Zew gx (FA (by rw[Za HN];decide)) (FA (by rw[Za HN];decide)),Za SQ,Za (ay _)⟩
    ·go_wp2;go_meet
     case rel=>exact⟨_,Zew gx (FD (by rw[Za HN];decide)) (FA (by rw[Za HN];decide)),Za SQ,Za (ay _)⟩
    ·go_wp2;go_meet
     case rel=>exact⟨[],.inl ⟨rfl,rfl⟩,Za SQ,Za bo⟩
    all_goals
     have gv:=FA;have gw:=FD;rw[Za HN] at gv gw;have eo:=λq=>(Xt a).1 (gv q);have eq:=λq=>(Xt d).1 (gw q)
     try have ep:=eo (by decide)
     try have er:=eq (by decide)
     try have cm:=Zsp ep er
     go_wp2_with (go_at_call 180;refine (Zsx _ _).mono ?_;rintro e w' ⟨rfl,rfl⟩)
     go_meet
     case rel=>exact⟨_,Ai gx _,Za SQ,Za (ay _)⟩
   obtain⟨P,ec,al,ar⟩:=hcut;obtain⟨W3,rfl⟩:=ZG (wc);clear FA FD o0 o1 fl fc dn cj
   rcases Za ec with ⟨rfl,rfl⟩|⟨x,p,rfl,rfl,p0,ez,pl⟩|⟨x,y,p,rfl,⟨hx,hy⟩,rfl,p0,p1,ez,pl⟩
   ·go_wp2;refine bB 1 ?_;rw[aS];go_wp2;go_roundw
    case rel=>exact⟨k+1,M,by omega,by go_num,(Rr ac HQ ae).trans al,Za ar⟩
    case measure=>simp[intOf];omega
   ·go_wp2;by_cases hm:M.length=16
    ·have gz:(16:Int)<=(M.length:Int):=(by omega);refine bB 1 ?_;rw[aS];go_wp2;go_ret2;rw[U6 ac HQ ae (al.trans (Ts hm))];exact⟨aD,0,rfl,RowAt.nil _ _,ar.bel,λ_=>rfl⟩
    have gz:¬(16:Int)<=(M.length:Int):=(by omega);have br:M.length<16:=(by omega);cases hx:fit x with
    | false=>
     have HX:=Zb hx;clear hx;refine bB 1 ?_;rw[aS]
     go_wp2_with (go_at_call 181;refine (Sz x false _ HX.symm).mono ?_;rintro e w' ⟨rfl,rfl⟩)
     go_ret2;rw[U6 ac HQ ae (al.trans (Cy HX))];exact⟨aD,0,rfl,RowAt.nil _ _,ar.bel,λ_=>rfl⟩
    | true=>
     have HX:=Zb hx;refine bB 2 ?_;rw[aS]
     go_wp2_with (first|(go_at_call 181;refine (Sz x true _ HX.symm).mono ?_;rintro e w' ⟨rfl,rfl⟩)|(at_builtin;refine Vt rfl _ _ rfl w bm _ M rfl (by omega) ar _ rfl rfl ?_;intro v3 w3 ap _;have bj:=Zb ap;clear ap))
     rw[aS];go_wp2;go_roundw
     case rel=>exact⟨k+1,M++[x],by omega,by go_num,(Rr ac HQ ae).trans (al.trans (Dr br HX)),Za bj⟩
     case measure=>simp[intOf];omega
   ·obtain⟨HX,HY⟩:=kh2 hx hy;have CY:=Zb (λ(z:Int) (w3:World) (hg:(W3.alloc (dA #[.int .i64 z] 3)).grownBy w3 (dG g))=>hg.cell (a:=⟨p,1,aD⟩) (((Ku W3 (dA #[.int .i64 z] 3)).cell (p:=⟨p,1,aD⟩) pl).trans p1) (by simp;omega));by_cases hm:M.length=16
    ·have gz:(16:Int)<=(M.length:Int):=(by omega);go_wp2;refine bB 1 ?_;rw[aS];go_wp2;go_ret2;rw[U6 ac HQ ae (al.trans (Ts hm))];exact⟨aD,0,rfl,RowAt.nil _ _,ar.bel,λ_=>rfl⟩
    have gz:¬(16:Int)<=(M.length:Int):=(by omega);have br:M.length<16:=(by omega);have fb:(M++[x]).length=M.length+1:=(by simp);go_wp2;refine bB 3 ?_;rw[aS]
    go_wp2_with (first|(go_at_call 181;refine (Sz x true _ HX.symm).mono ?_;rintro e w' ⟨rfl,rfl⟩)|(at_builtin;refine Vt rfl _ _ rfl w bm _ M rfl (by omega) ar _ rfl rfl ?_;intro v3 w3 ap di;have cy:=CY _ _ di;obtain⟨g3,fx,rfl,_,_⟩:=ap.row;rw[fb] at ap;have bj:=Zb ap;clear ap di))
    by_cases gm:M.length=15
    ·have es:(16:Int)<=(M.length:Int)+1:=(by omega);rw[aS];go_wp2;go_ret2;rw[U6 ac HQ ae (al.trans ((Cx br HX).trans (Ts (by simp;omega))))];exact⟨aD,0,rfl,RowAt.nil _ _,bj.bel,λ_=>rfl⟩
    ·have es:¬(16:Int)<=(M.length:Int)+1:=(by omega);rw[aS]
     go_wp2_with (first|(go_at_call 181;refine (Sz y true _ HY.symm).mono ?_;rintro e w' ⟨rfl,rfl⟩)|(at_builtin;refine Vt rfl _ _ rfl w bm _ _ rfl (by simp;omega) bj _ rfl rfl ?_;intro v5 w5 fs _;have ef:=Zb fs))
     rw[aS];go_wp2;go_roundw
     case rel=>exact⟨k+1,_,by omega,by go_num,(Rr ac HQ ae).trans (al.trans ((Cx br HX).trans (Dr (by simp;omega) HY))),Za ef⟩
     case measure=>simp[intOf];omega
  ·have e:k=len:=(by omega);subst e;clear cl;go_wp2;go_ret2;have h1:=Za ae;rw[<-Za HZ,List.take_length] at h1;rw[h1];obtain⟨a',cc,hv,fi,ev⟩:=bi.rowAt;simp only[Option.getD_some,Option.isSome_some];exact⟨_,_,rfl,(by cases hv;exact fi),bi.bel,(by cases hv;exact ev)⟩
open Go.RowKit Go.Maps
theorem Le(a len cap l az)(lens caps:Nat)(Z)(h:Int)(w:World)(hO:OpsAt w a len l)(ab:chk l=0)
  (hR:RowAt w az lens Z) (ag:az=aD->caps=0) (hZ:Ye Z=true) (hh:hOk h=true) :
  Calls aB 135 #[F a len cap,F az lens caps,E J h] w λe w'=>∃ a' ac,e = dB (dC #[.slice a' ((Y9 h l Z).getD []).length ac,dF (Y9 h l Z).isSome])/\RowAt w' a' ((Y9 h l Z).getD []).length ((Y9 h l Z).getD [])/\ZD w w'/\(a'=aD->ac=0):=by
 obtain⟨hz,hc⟩:=hO
 have h16:len<=16/\V8 l=0:=by
  unfold chk at ab;split at ab
  ·cases ab
  ·exact⟨by omega,ab⟩
 by_cases h0:len=0
 ·subst h0;have e:l=[]:=aJ.1 hz;subst e;exact Ch az lens caps cap a Z h w hR ag hZ
 ·obtain⟨b,off,rfl,af⟩:=hc (by omega);exact Cg b off len cap l az lens caps Z h w h16.1 h16.2 hz af (aC _ _ (af 0 (by omega)).1) hR ag hZ hh
open Go.RowKit Go.Maps
def Ue(l k:List (Int×Int))(h:Int):Bool:=match (Y9 h k []).bind (Y9 h l) with|some L=>Ph L|none=>false
set_option maxRecDepth 10000 in
theorem Zcp(a b ap au aq av l k)(h:Int)(w:World)(hO:OpsAt w a ap l)(hK:OpsAt w b aq k)(bg:chk l=0)(bf:chk k=0)(hh:hOk h=true) :
  ZH 100 #[F a ap au,F b aq av,E J h] w (dF (Ue l k h)):=by
 have r1:=Le b aq av k aD 0 0 [] h w hK bf (RowAt.nil _ _) (λ_=>rfl) rfl hh;cases h1:Y9 h k [] with
 | none=>
  rw[h1] at r1;simp only[Option.getD_none,Option.isSome_none,List.length_nil] at r1;have R1:=Zb r1;have e:Ue l k h=false:=by unfold Ue;rw[h1];rfl
  rw[e];go_enter func100,ntmps100;go_wp2_with fail;refine R1.mono ?_;rintro e w1 ⟨a',ad,rfl,_,hb,_⟩;have HB:=Zb hb;go_wp2;go_ret;exact⟨rfl,Za HB⟩
 | some S=>
  rw[h1] at r1;simp only[Option.getD_some,Option.isSome_some] at r1;have R1:=Zb r1;have r2:∀ (a':Option Addr) (ad:Nat) (w1:World),RowAt w1 a' S.length S->ZD w w1->(a'=aD->ad=0)->_:=λa' ad w1 hr hb hc=>Le a ap au l a' S.length ad S h w1 (hO.later hb) bg hr hc (Ki (L:=[]) rfl h1) hh;cases h2:Y9 h l S with
  | none=>
   rw[h2] at r2;simp only[Option.getD_none,Option.isSome_none,List.length_nil] at r2;have R2:=Zb r2;have e:Ue l k h=false:=(by unfold Ue;rw[h1];simp only[Option.bind_some];rw[h2]);rw[e];go_enter func100,ntmps100;go_wp2_with fail;refine R1.mono ?_;rintro e w1 ⟨a',ad,rfl,hr,hb,hc⟩;obtain⟨C2,HB⟩:=kh2 (R2 a' ad w1 hr hb hc) hb;go_wp2_with fail;refine C2.mono ?_;rintro e w2 ⟨a2,cap2,rfl,_,an,_⟩;have ak:=Zb (HB.trans (an.mono HB.size));go_wp2;go_ret;exact⟨rfl,Za ak⟩
  | some L=>
   rw[h2] at r2;simp only[Option.getD_some,Option.isSome_some] at r2;have R2:=Zb r2;have e:Ue l k h=Ph L:=(by unfold Ue;rw[h1];simp only[Option.bind_some];rw[h2]);rw[e];by_cases h3:L.length=1
   ·obtain⟨x,rfl⟩:=List.length_eq_one_iff.1 h3;have e:Ph [x]=(x != 0):=(by simp[Ph,Jc]);rw[e];go_enter func100,ntmps100;go_wp2_with fail;refine R1.mono ?_;rintro e w1 ⟨a',ad,rfl,hr,hb,hc⟩;obtain⟨C2,HB⟩:=kh2 (R2 a' ad w1 hr hb hc) hb;go_wp2_with fail;refine C2.mono ?_;rintro e w2 ⟨a2,cap2,rfl,bh,an,_⟩;obtain⟨b2,bi,rfl,be⟩:=bh.2.2 (Nat.zero_lt_one);have c2:=be 0 (Nat.zero_lt_one);have c3:w2.cell? ⟨b2,bi,aD⟩=dG (E J x):=c2;have ak:=Zb (HB.trans (an.mono HB.size));simp only[List.length_cons,List.length_nil];go_wp2;go_ret;exact⟨rfl,Za ak⟩
   ·have e:Ph L=false:=(by simp[Ph,h3]);rw[e];obtain⟨n,hn⟩:=ZF (L.length);rw[hn] at R2 h3;have h4:((n:Int) == 1)=false:=(by simp;omega);go_enter func100,ntmps100;go_wp2_with fail;refine R1.mono ?_;rintro e w1 ⟨a',ad,rfl,hr,hb,hc⟩;obtain⟨C2,HB⟩:=kh2 (R2 a' ad w1 hr hb hc) hb;go_wp2_with fail;refine C2.mono ?_;rintro e w2 ⟨a2,cap2,rfl,_,an,_⟩;have ak:=Zb (HB.trans (an.mono HB.size));go_wp2;go_ret;exact⟨rfl,Za ak⟩
theorem Zef(e:Int)(w:World):Calls aB 97 #[E J e] w λr w'=>r = dB (dC #[F aD 0 0,.agg #[F aD 0 0],E J e])/\ZD w w':=by
 go_enter func97,ntmps97;go_wp2;(try simp only[bQ,Exit.then]);refine aL (v:=dC #[F aD 0 0,.agg #[F aD 0 0],E J e]) ?_ rfl ?_
 ·rw[Yc rfl];go_simp
 ·exact⟨rfl,Zh _ _⟩
theorem Gk{L t}(aa:Zy L)(ab:Zp t=0):Vq L t=0:=by
 unfold Vq;rw[(Z6 L).2 aa,if_neg (by decide)];exact ab
theorem Zix{L t}{name ht x:Int}{M S}(ab:Zy L)(ac:Zp t=0)(hb:(okN name && okH ht)=false)(hx:apD L t name ht=(x,M,S)):(x,M,S)=((3:Int),([]:List Zi),([]:List Zi)):=by
 have e:Xu L t name ht=3:=by
  unfold Xu;rw[Gk ab ac,if_neg (by decide),if_pos hb]
 rw[<-hx];unfold apD;rw[e,if_pos (by decide)]
theorem Zoc{L}{t:TxD}{name ht x:Int}{M S}(ab:Zy L)(ac:Zp t=0)(hb:(okN name && okH ht)=true)(hr:isR t=true/\t.1≠ht)(hx:apD L t name ht=(x,M,S)):(x,M,S)=((4:Int),([]:List Zi),([]:List Zi)):=by
 have e:Xu L t name ht=4:=by
  unfold Xu;rw[Gk ab ac,if_neg (by decide),if_neg (by rw[hb];decide),if_pos hr]
 rw[<-hx];unfold apD;rw[e,if_pos (by decide)]
theorem Zea{L}{t:TxD}{name ht:Int}(ab:Zy L)(ac:Zp t=0)(hb:(okN name && okH ht)=true)(hr:¬(isR t=true/\t.1≠ht)):Xu L t name ht=0:=by
 unfold Xu;rw[Gk ab ac,if_neg (by decide),if_neg (by rw[hb];decide),if_neg hr]
