import Derived.Test.YtmomfkikogbdeaaGreatDoorH
import Derived.Test.YtmomfkikogbdeaaGreatDoorG18
import Derived.Test.YtmomfkikogbdeaaGreatDoorG17
open Go.Proofs.Tryz
open Go renaming heap_alloc_new->aG,lt_of_block->aA,bodyPost_ret->bB
open Go.Ending renaming returned->dF
open Go.IntKind renaming wrap_i64->bR,i64->J
open Go.Obj renaming cells->dE
open Go.Proofs.Tryz renaming prog->aB,underlying48->cV
open Go.Value renaming int->E,slice->F,bool->dI
open Go.World renaming block_lt_of_cell?->aE,cell?_of_block->cA
open Go.World.ownsRow renaming cellAt->bG
open List renaming mem_cons->aO,getElem?_eq_some_iff->aX,getElem_mem->bE,take_succ_eq_append_getElem->bA,take_of_length_le->aS,mem_cons_of_mem->cH
open Nat renaming le_refl->aF,zero_le->aI
set_option maxHeartbeats 12800000
set_option maxRecDepth 10000
namespace Go.Proofs.YtmomfkikogbdeaaGreatDoor
open Go.RowKit
def Xe:List (Int×Int)->List Value
 | []=>[]
 | o :: r=>E J o.1 :: E J o.2 :: Xe r
theorem Xh:∀ l:List (Int×Int),(Xe l).length=l.length*2
 | []=>rfl
 | _ :: r=>by simp only[Xe,List.length_cons,Xh r];omega
theorem Si:∀ (l:List (Int×Int)) (i:Nat),i<l.length->(Xe l)[i*2]? = some (E J (l.getD i (0,0)).1)/\(Xe l)[i*2+1]? = some (E J (l.getD i (0,0)).2)
 | [],_,h=>absurd h (by simp)
 | o :: r,0,_=>⟨rfl,rfl⟩
 | o :: r,i+1,h=>by
  have:=Si r i (by simpa using h);rw[show (i+1)*2=i*2+2 by omega];simpa[Xe] using this
theorem Rh:∀ (l:List (Int×Int)) (u:Value),u∈Xe l->u.oneCell'=true
 | [],u,h=>by cases h
 | o :: r,u,h=>by
  simp only[Xe,aO] at h
  rcases h with rfl|rfl|h
  ·rfl
  ·rfl
  ·exact Rh r u h
theorem Jx{w:World}{b off n:Nat}{l:List (Int×Int)}(hz:l.length=n)(hc:∀ i,i<n->w.cell? ⟨b,off+i*2,none⟩=some (E J (l.getD i (0,0)).1)/\w.cell? ⟨b,off+i*2+1,none⟩=some (E J (l.getD i (0,0)).2))(j:Nat)(u)(hj:(Xe l)[j]? = some u):w.cell? ⟨b,off+j,none⟩=some u:=by
 have ae:j<l.length*2:=by rw[<-Xh];exact (aX.1 hj).1
 obtain⟨f0,f1⟩:=Si l (j / 2) (by omega);obtain⟨c0,c1⟩:=hc (j / 2) (by omega)
 rcases (show j % 2=0\/j % 2=1 by omega) with q|q
 ·have e:j=j / 2*2:=by omega
  rw[<-e] at f0 c0;rw[f0] at hj;rw[c0,<-hj]
 ·have e:j=j / 2*2+1:=by omega
  rw[<-e] at f1;rw[show off+j / 2*2+1=off+j by omega] at c1;rw[f1] at hj;rw[c1,<-hj]
theorem Rb{w:World}{base:Nat}{v}{n:Nat}{l}(h:w.ownsRow base 164 2 v n (Xe l)):∃ a c,v = F a n c/\OpsAt w a n l/\SlOk a n c/\(∀ ad,a=some ad->base<=ad.block):=by
 have hl:l.length=n:=by have:=h.1;rw[Xh] at this;omega
 rcases h.2 with ⟨rfl,rfl⟩|⟨g,cap,af,rfl,hg,hh,h1,h2,h3,h4⟩
 ·exact⟨none,0,rfl,⟨hl,λh=>absurd h (by omega)⟩,⟨aF _,aI _,λ_=>⟨rfl,rfl⟩⟩,λad e=>by cases e⟩
 ·refine⟨_,cap,rfl,⟨hl,λ_=>⟨g,0,rfl,λi hi=>?_⟩⟩,⟨h1,h2,λe=>by cases e⟩,λad e=>by cases e;exact hg⟩;obtain⟨f0,f1⟩:=Si l i (by omega);rw[Nat.zero_add,bG h _ (by omega),bG h _ (by omega)];exact⟨f0,f1⟩
theorem Tryz.infoOpC:(Tryz.prog.info? 164).map (λi=>(i.zero,i.size,i.bytes))=some (some (.agg #[E J 0,E J 0]),2,16):=by kernel_rfl
theorem Jz(w):Calls aB 150 #[F none 0 0] w λe w'=>e = dF (F none 0 0)/\w=w':=by
 have he:=λw=>Lib.run_eql_slice_nil (P:=aB) w 48 164 none 0 0 0 0 cV;go_enter func150,ntmps150;go_wp2;go_ret;exact⟨rfl,rfl⟩
theorem Jc(ad:Addr)(n c:Nat)(l:List (Int×Int))(w:World)(hn:n<=4096)(hz:l.length=n)(hc:∀ j u,(Xe l)[j]? = some u->w.cell? (ad.add j)=some u) :
  Calls aB 150 #[F (some ad) n c] w λe w'=>∃ v,e = dF v/\w'.ownsRow w.heap.size 164 2 v n (Xe l)/\ZD w w':=by
 obtain⟨i0,hi,aq,ar,au⟩:=info_parts Tryz.infoOpC;have hb:=Zh w (dE #[] 164);have HC:Hid (∀ j u,(Xe l)[j]? = some u->(w.alloc (dE #[] 164)).cell? (ad.add j)=some u):=λj u hj=>Ze hb (hc j u hj);obtain⟨HB,HZ,HO⟩:=kh3 hb hz (We w 164 2);have he:=λw=>Lib.run_eql_slice_nil (P:=aB) w 48 164 (some ad) n c 0 0 cV;clear hc hb hz;go_enter func150,ntmps150
 go_wp2_with (at_builtin;refine wpList_append_own _ rfl _ _ 48 rfl w.heap.size 164 i0 (.agg #[E J 0,E J 0]) 2 16 cV hi aq ar au rfl (by decide) _ _ _ rfl HO ad n c (Xe l) rfl (by rw[Xh,Za HZ]) HC (Rh l) (by unfold maxLen;omega) (by omega) HB.size ?_;intro v2 w3 ag af _)
 have HW:Hid (w3.ownsRow w.heap.size 164 2 v2 n (Xe l)):=by show World.ownsRow _ _ _ _ _ _ _;simpa using ag
 have aj:=Zd (HB.grown af HB.size (Xn HO));clear ag af;go_wp2;go_ret;exact⟨v2,rfl,Za HW,Za aj⟩
theorem Ux(a)(n c:Nat)(l)(w:World)(hn:n<=4096)(h:OpsAt w a n l)(hs:SlOk a n c) :
  Calls aB 150 #[F a n c] w λe w'=>∃ a' c',e = dF (F a' n c')/\OpsAt w' a' n l/\SlOk a' n c'/\(∀ ad,a'=some ad->w.heap.size<=ad.block)/\ZD w w':=by
 obtain⟨hl,hc⟩:=h;cases a with
 | none=>
  obtain⟨rfl,rfl⟩:=hs.2.2 rfl;exact (Jz w).mono λe w' ⟨x,y⟩=>⟨none,0,x,⟨hl,λh=>absurd h (by omega)⟩,hs,λad e=>(by cases e),y ▸ Below.refl _ _⟩
 | some ad=>
  have ah:∀ j u,(Xe l)[j]? = some u->w.cell? (ad.add j)=some u:=λj u hj=>by
   have am:j<l.length*2:=(by rw[<-Xh];exact (aX.1 hj).1);obtain⟨b,off,e,aj⟩:=hc (by omega);cases e;rw[Addr.add_lit];exact Jx hl aj j u hj
  refine (Jc ad n c l w hn hl ah).mono ?_;rintro e w' ⟨v,rfl,x,y⟩;obtain⟨a',c',rfl,h1,h2,h3⟩:=Rb x;exact⟨a',c',rfl,h1,h2,h3,y⟩
theorem Ro{fn:Func}{p:Tmp}{ty:TypeId}(h:fn.results=#[.cell p ty])(tmps:Array Value)(P:Program)(w) :
  (results fn tmps).run P w=((asAddr (tmps.getD p undef)).run P w).andThen λa w₁=>(loadVar ty a).run P w₁:=by
 simp only[results,h];simp[Sem.run_bind,Result.andThen]
theorem OpsAt.gr{w w'}{S:Nat->Prop}{a n l}(h:OpsAt w a n l)(g:Gr w w' S)(hn:∀ ad,a=some ad->¬S ad.block):OpsAt w' a n l:=by
 refine⟨h.1,λh0=>?_⟩;obtain⟨b,off,rfl,hc⟩:=h.2 h0;refine⟨b,off,rfl,λi hi=>?_⟩;obtain⟨c0,c1⟩:=hc i hi;have hb:=g.block b (aE _ _ c0) (hn _ rfl);exact⟨(cA (a:=⟨b,off+i*2,none⟩) hb).trans c0,(cA (a:=⟨b,off+i*2+1,none⟩) hb).trans c1⟩
theorem Te(x:Int)(a)(n c:Nat)(l)(w:World)(hn:n<=4096)(h:OpsAt w a n l)(hs:SlOk a n c) :
  Calls aB 161 #[.agg #[E J x,F a n c]] w λe w'=>∃ a' c',e = dF (.agg #[E J x,F a' n c'])/\OpsAt w' a' n l/\SlOk a' n c'/\(∀ bg,a'=some bg->w.heap.size<=bg.block)/\ZD w w':=by
 obtain⟨X,hX⟩:=ZG ((w.alloc (dE #[E J x,F a n c] 122)).alloc (dE #[E J 0,F none 0 0] 122));have ak:ZD w X:=by rw[hX];exact Zf (Zh _ _) (Zh _ _)
 have x0:X.cell? ⟨w.heap.size,0,none⟩=some (E J x):=by rw[hX];exact Ze (Zh _ _) (Z4 w _ _ _).1
 have x1:X.cell? ⟨w.heap.size,1,none⟩=some (F a n c):=by rw[hX];exact Ze (Zh _ _) (Z4 w _ _ _).2
 have ap:X.heap[w.heap.size+1]? = some (dE [E J 0,F none 0 0].toArray 122 (0,0)):=by
  rw[hX];have:=aG (w.alloc (dE #[E J x,F a n c] 122)) (dE #[E J 0,F none 0 0] 122);rw[show (w.alloc (dE #[E J x,F a n c] 122)).heap.size=w.heap.size+1 by simp] at this;exact this
 obtain⟨C,am,au⟩:=kh3 (Ux a n c l X.drew hn (h.later (Zf ak (Zi X))) hs) ap ak;clear h hs ak ap;go_enter func161,ntmps161;go_wp2_with fail;rw[<-hX];clear hX
 go_region_with (go_at_call 150;refine C.mono ?_;rintro e w3 ⟨a',c',rfl,ah,aj,af,ad⟩;have o2:w3.cell? ⟨w.heap.size,0,none⟩=some (E J x):=Ze ad (Ze (Zi _) x0);have ag:=ZE ad am;have c0:=Zb ag 0 _ rfl;have c1:=Zb ag 1 _ rfl;have f0:=Zg ag 0;have f1:=Zg ag 1;have H3:Hid (OpsAt w3 a' n l/\SlOk a' n c'/\(∀ bg,a'=some bg->X.heap.size<=bg.block)/\Below X.drew.heap.size X.drew w3):=⟨ah,aj,af,ad⟩;clear ah aj af ad ag)
 all_goals
  go_wp2;(try simp only[Exit.inBlock,Exit.then]);obtain⟨ah,aj,af,ad⟩:=Za H3;have hG:=((Gr.refl w3 (λq=>q=w.heap.size+1)).one (w.heap.size+1) 0 (.inl rfl) (E J x)).one (w.heap.size+1) 1 (.inl rfl) (F a' n c');have bb:=aA am;refine bB (v:=.agg #[E J x,F a' n c']) ?_ rfl ⟨a',c',rfl,ah.gr hG (λbg e q=>?_),aj,λbg e=>?_,?_⟩
  ·rw[Ro rfl];go_simp
  ·have:=af bg e;omega
  ·have:=af bg e;omega
  ·have bd:X.heap.size<=w3.heap.size:=ad.size;exact hG.below (Zf (Zf au (Zi _)) ad) (by omega) (λk hk=>by omega)
theorem Ei(x:Zj)(a)(n c:Nat)(w:World)(hn:n<=4096)(h:OpsAt w a n (ck x))(hs:SlOk a n c) :
  Calls aB 139 #[cnV x a n c] w λe w'=>∃ a' c',e = dF (cnV x a' n c')/\OpsAt w' a' n (ck x)/\SlOk a' n c'/\(∀ cc,a'=some cc->w.heap.size<=cc.block)/\ZD w w':=by
 unfold cnV;obtain⟨X,hX⟩:=ZG ((w.alloc (dE #[E J x.1,E J x.2.1,E J (cv x),F a n c,E J (ch x),dI (cr x)] 124)).alloc (dE #[E J 0,E J 0,E J 0,F none 0 0,E J 0,dI false] 124));have ak:ZD w X:=by rw[hX];exact Zf (Zh _ _) (Zh _ _)
 have aj:X.heap[w.heap.size]? = some (dE [E J x.1,E J x.2.1,E J (cv x),F a n c,E J (ch x),dI (cr x)].toArray 124 (0,0)):=by
  rw[hX,Below.heap_alloc _ _ _ (by simp)];exact Uf _ _ _ _ _ _ _ _
 have ap:X.heap[w.heap.size+1]? = some (dE zeroCs.toArray 124 (0,0)):=by
  rw[hX];have:=aG (w.alloc (dE #[E J x.1,E J x.2.1,E J (cv x),F a n c,E J (ch x),dI (cr x)] 124)) (dE zeroCs.toArray 124);rw[show (w.alloc (dE #[E J x.1,E J x.2.1,E J (cv x),F a n c,E J (ch x),dI (cr x)] 124)).heap.size=w.heap.size+1 by simp] at this;exact this
 obtain⟨C,av,am,au⟩:=kh4 (Te (cv x) a n c (ck x) X hn (h.later ak) hs) aj ap ak;obtain⟨-,-,x2,x3,-⟩:=kc4 aj;clear h hs ak ap aj;go_enter func139,ntmps139;go_wp2_with fail;rw[<-hX];clear hX x2 x3;refine C.mono ?_;rintro e w3 ⟨a',c',rfl,ag,ah,af,ad⟩;have h0:=ZE ad av;have h1:=ZE ad am;obtain⟨c0,c1,c2,c3,c4,c5,-,-,f2,f3,-,-,-⟩:=kf6 h0;obtain⟨z0,z1,z2,z3,z4,z5,y0,y1,y2,y3,y4,y5,-⟩:=kf6 h1;have aw:Hid (w.heap.size+1<X.heap.size):=aA am;have H3:Hid (OpsAt w3 a' n (ck x)/\SlOk a' n c'/\(∀ cc,a'=some cc->X.heap.size<=cc.block)/\ZD X w3):=⟨ag,ah,af,ad⟩;clear ag ah af ad h0 h1;go_wp2;(try simp only[Exit.inBlock,Exit.then]);obtain⟨ag,ah,af,ad⟩:=Za H3;have bj:=Za aw;have hG:=(((Gr.refl w3 (λq=>q=w.heap.size\/q=w.heap.size+1)).one w.heap.size 2 (.inl (.inl rfl)) (E J (cv x))).one w.heap.size 3 (.inl (.inl rfl)) (F a' n c')).six (w.heap.size+1) (.inl (.inr rfl)) (E J x.1) (E J x.2.1) (E J (cv x)) (F a' n c') (E J (ch x)) (dI (cr x));refine bB (v:=.agg #[E J x.1,E J x.2.1,E J (cv x),F a' n c',E J (ch x),dI (cr x)]) ?_ rfl ⟨a',c',rfl,ag.gr hG (λcc e q=>?_),ah,λcc e=>?_,?_⟩
 ·rw[Ro rfl];go_simp
 ·have:=af cc e;rcases q with q|q <;> omega
 ·have:=af cc e;omega
 ·exact hG.below (Zf au ad) (Nat.le_of_lt (Nat.lt_of_lt_of_le (by omega) ad.size)) (λk hk=>by rcases hk with q|q <;> omega)
def LkIn(w:World)(s:Nat)(x:CV):Prop:=LkAt w x/\∀ ad,x.2.1=some ad->s<=ad.block
theorem LkIn.later{w w':World}{s:Nat}{x:CV}(h:LkIn w s x)(hb:ZD w w'):LkIn w' s x:=⟨h.1.later hb,h.2⟩
def Fresh(B:Nat)(w:World)(Q:World->Prop):Prop:=∀ w2,Gr w w2 (λk=>k<B)->Q w2
theorem Zjn{w:World}{base:Nat}{e:TypeId}{size:Nat}{v}{n:Nat}{xs}(h:w.ownsRow base e size v n xs):∃ a c,v = F a n c/\SlOk a n c/\(0<n->∃ g,a=some ⟨g,0,none⟩/\base<=g/\g<w.heap.size):=by
 rcases h.2 with ⟨rfl,rfl⟩|⟨g,cap,ac,rfl,hg,hh,h1,h2,h3,h4⟩
 ·exact⟨none,0,rfl,⟨aF _,aI _,λ_=>⟨rfl,rfl⟩⟩,λh=>absurd h (by omega)⟩
 ·exact⟨_,cap,rfl,⟨h1,h2,λe=>by cases e⟩,λ_=>⟨g,rfl,hg,aA hh⟩⟩
theorem Ja(a)(n c:Nat)(L)(w:World)(hn:n<=4096)(h:CoinsAt w a n L)(cy:SlOk a n c)(hk:∀ x∈L,(ck x).length<=4096) :
  Calls aB 66 #[F a n c] w λe w'=>∃ a' c',e = dF (F a' n c')/\Fresh w.heap.size w' (λw2=>CoinsAt w2 a' n L)/\SlOk a' n c'/\ZD w w':=by
 obtain⟨C1,HZ,HK⟩:=kh3 (R6 a n c L w hn h cy) h.1 hk;clear h hk cy;go_enter func66,ntmps66;go_wp2_with fail;refine C1.mono ?_;rintro e w2 ⟨v,K,rfl,hK,aq,az,bo⟩;have bi:K.length=n:=by rw[<-Za HZ,<-hK,List.length_map]
 rw[bi] at az;obtain⟨a1,c1,rfl,cw,br⟩:=Zjn az;obtain⟨G,hG⟩:=ZF (w2.heap.size);rw[hG] at br;obtain⟨cb,de,db,cd,dc⟩:=kh5 br cw hK bi aq;have ST:Hid (w2.ownsRow w.heap.size 124 6 (F a1 n c1) n (Zn ([]++K.drop 0))):=az;have bx:=Zd bo;have cc:Hid (G<=w2.heap.size):=Nat.le_of_eq hG.symm;have cg:Hid (w.heap.size<=G):=by rw[<-hG];exact bo.size
 clear az bo hK aq cw br C1 hG bi;go_wp2_with fail
 go_loopw [9] (λi wr=>∃ (k:Nat) (T:List CV),k<=n/\i = E J k/\Hid (T.map (·.1)=L.take k)/\Hid (T.length=k)/\Hid (wr.ownsRow w.heap.size 124 6 (F a1 n c1) n (Zn (T++K.drop k)))/\Hid (∀ z∈T,LkIn wr G z)/\Hid (ZD w wr)/\Hid (G<=wr.heap.size)) (λi _=>n - (intOf i).toNat)
 case atStart=>exact⟨0,[],aI _,rfl,rfl,rfl,ST,(λz hz=>(by cases hz):∀ z∈([]:List CV),LkIn w2 G z),bx,cc⟩
 case round=>
  obtain⟨k,T,hk,rfl,HT,ar,HO,am,HB,cz⟩:=hrel;clear ST bx cc;by_cases ct:k<n
  ·have aq:k<L.length:=(by rw[Za HZ];exact ct);have cq:k<K.length:=(by rw[Za cd];exact ct);obtain⟨g,rfl,dx,dw⟩:=cb (by omega)
   have bj:(K[k]).1=L[k]:=by
    have:=Za db;subst this;rw[List.getElem_map]
   have ay:=HK _ (bE aq);have cl:=(dc _ (bE cq)).later HB;have bf:Hid (L.take (k+1)=L.take k++[L[k]]):=bA aq
   have cf:Hid (T++K.drop k=T++K[k] :: K.drop (k+1)):=by
    show _=_;rw[List.drop_eq_getElem_cons cq]
   obtain⟨z,hz⟩:=ZF (K[k]);rw[hz] at bj cf cl;rw[<-bj] at bf ay;obtain⟨x,la,ln,lc⟩:=z;simp only at bf ay;obtain⟨av,bu⟩:=cl;simp only at av bu;have dr:ln<=4096:=(by rw[<-av.1];exact ay);have ax:=Za ar;have aw:=Za HO;rw[Za cf] at aw
   have ag:∀ j,j<6->wr.cell? ⟨g,k*6+j,none⟩=(Ba (x,la,ln,lc))[j]?:=λj hj=>by
    rw[bG aw _ (by omega),<-ax,Qz _ _ _ j hj]
   have g0:wr.cell? ⟨g,k*6,none⟩=some (E J x.1):=(ag 0 (by decide)).trans rfl;have g1:wr.cell? ⟨g,k*6+1,none⟩=some (E J x.2.1):=(ag 1 (by decide)).trans rfl;have g2:wr.cell? ⟨g,k*6+2,none⟩=some (E J (cv x)):=(ag 2 (by decide)).trans rfl;have g3:wr.cell? ⟨g,k*6+3,none⟩=some (F la ln lc):=(ag 3 (by decide)).trans rfl;have g4:wr.cell? ⟨g,k*6+4,none⟩=some (E J (ch x)):=(ag 4 (by decide)).trans rfl;have g5:wr.cell? ⟨g,k*6+5,none⟩=some (dI (cr x)):=(ag 5 (by decide)).trans rfl;obtain⟨X,hX⟩:=ZG (wr.alloc (dE #[E J x.1,E J x.2.1,E J (cv x),F la ln lc,E J (ch x),dI (cr x)] 124));have bq:ZD wr X:=(by rw[hX];exact Zh _ _);have C:=Ei x la ln lc X dr (av.later bq) bu;unfold cnV at C;obtain⟨HC,bz⟩:=kh2 C bq;have dy:(k:Int)<(n:Int):=(by omega);have ce:=Zd aw;clear C bq av bu ay aw ag bj hz;go_wp2_with fail;rw[<-hX];clear hX g0 g1 g2 g3 g4 g5;refine HC.mono ?_;rintro e w5 ⟨a5,c5,rfl,cu,cx,cp,cn⟩;have ap:=Zf bz cn;have ad:=(Gr.of (S:=λ_=>False) ap).own ce (λ_ _ q=>q)
   have ah:∀ j,j<6->w5.cell? ⟨g,k*6+j,none⟩=(Ba (x,la,ln,lc))[j]?:=λj hj=>by
    rw[bG ad _ (by omega),<-ax,Qz _ _ _ j hj]
   have t0:w5.cell? ⟨g,k*6,none⟩=some (E J x.1):=(ah 0 (by decide)).trans rfl;have t1:w5.cell? ⟨g,k*6+1,none⟩=some (E J x.2.1):=(ah 1 (by decide)).trans rfl;have t2:w5.cell? ⟨g,k*6+2,none⟩=some (E J (cv x)):=(ah 2 (by decide)).trans rfl;have t3:w5.cell? ⟨g,k*6+3,none⟩=some (F la ln lc):=(ah 3 (by decide)).trans rfl;have t4:w5.cell? ⟨g,k*6+4,none⟩=some (E J (ch x)):=(ah 4 (by decide)).trans rfl;have t5:w5.cell? ⟨g,k*6+5,none⟩=some (dI (cr x)):=(ah 5 (by decide)).trans rfl;have z0:=ad.frozenAt (k*6);have z1:=ad.frozenAt (k*6+1);have z2:=ad.frozenAt (k*6+2);have z3:=ad.frozenAt (k*6+3);have z4:=ad.frozenAt (k*6+4);have z5:=ad.frozenAt (k*6+5);have eb:g<w5.heap.size:=(ad.lt _ rfl).2
   have df:Hid (∃ T':List CV,Hid (T'.map (·.1)=L.take (k+1))/\Hid (T'.length=k+1)/\Hid (((((((w5.setCell ⟨g,k*6,none⟩ (E J x.1)).setCell ⟨g,k*6+1,none⟩ (E J x.2.1)).setCell ⟨g,k*6+2,none⟩ (E J (cv x))).setCell ⟨g,k*6+3,none⟩ (F a5 ln c5)).setCell ⟨g,k*6+4,none⟩ (E J (ch x))).setCell ⟨g,k*6+5,none⟩ (dI (cr x))).ownsRow w.heap.size 124 6 (F (some ⟨g,0,none⟩) n c1) n (Zn (T'++K.drop (k+1)))) /\
     Hid (∀ z∈T',LkIn ((((((w5.setCell ⟨g,k*6,none⟩ (E J x.1)).setCell ⟨g,k*6+1,none⟩ (E J x.2.1)).setCell ⟨g,k*6+2,none⟩ (E J (cv x))).setCell ⟨g,k*6+3,none⟩ (F a5 ln c5)).setCell ⟨g,k*6+4,none⟩ (E J (ch x))).setCell ⟨g,k*6+5,none⟩ (dI (cr x))) G z) /\
     Hid (ZD w ((((((w5.setCell ⟨g,k*6,none⟩ (E J x.1)).setCell ⟨g,k*6+1,none⟩ (E J x.2.1)).setCell ⟨g,k*6+2,none⟩ (E J (cv x))).setCell ⟨g,k*6+3,none⟩ (F a5 ln c5)).setCell ⟨g,k*6+4,none⟩ (E J (ch x))).setCell ⟨g,k*6+5,none⟩ (dI (cr x)))) /\
     Hid (G<=((((((w5.setCell ⟨g,k*6,none⟩ (E J x.1)).setCell ⟨g,k*6+1,none⟩ (E J x.2.1)).setCell ⟨g,k*6+2,none⟩ (E J (cv x))).setCell ⟨g,k*6+3,none⟩ (F a5 ln c5)).setCell ⟨g,k*6+4,none⟩ (E J (ch x))).setCell ⟨g,k*6+5,none⟩ (dI (cr x))).heap.size)):=by
    have hG:=(Gr.refl w5 (λq=>q=g)).sixAt g (k*6) (.inl rfl) (E J x.1) (E J x.2.1) (E J (cv x)) (F a5 ln c5) (E J (ch x)) (dI (cr x));have cm:=Zdi ad (k*6) (E J x.1) (E J x.2.1) (E J (cv x)) (F a5 ln c5) (E J (ch x)) (dI (cr x));have bv:=Rx T (K.drop (k+1)) (x,la,ln,lc) (x,a5,ln,c5);rw[ax] at bv;simp only at bv;rw[bv] at cm;have dv:wr.heap.size<=X.heap.size:=bz.size;have dt:=Za cz;have dz:=ap.size;have ea:=hG.size;refine⟨T++[(x,a5,ln,c5)],?_,?_,?_,?_,?_,?_⟩
    ·show _=_;rw[List.map_append,Za HT,Za bf];rfl
    ·show _=_;rw[List.length_append,ax];rfl
    ·show World.ownsRow _ _ _ _ _ _ _;rw[List.append_assoc];exact cm
    ·intro z hz
     rcases List.mem_append.1 hz with hz|hz
     ·have h1:=(am z hz).later ap;exact⟨⟨h1.1.1.gr hG (λep e q=>by have:=h1.2 ep e;omega),h1.1.2⟩,h1.2⟩
     ·rw[List.mem_singleton.1 hz];have h3:∀ ep,a5=some ep->G<=ep.block:=λep e=>by have:=cp ep e;omega
      exact⟨⟨cu.gr hG (λep e q=>by have:=h3 ep e;omega),cx⟩,h3⟩
    ·exact hG.below (Zf HB ap) (by have:=Za cg;omega) (λq hq=>by omega)
    ·show _<=_;omega
   clear cu cx cp cn ap ad ah HC ce;go_wp2;go_roundw
   case rel=>
    obtain⟨T',f1,f2,f3,f4,f5,f6⟩:=Za df;exact⟨k+1,T',by omega,by go_num,f1,f2,f3,f4,f5,f6⟩
   case measure=>simp[intOf];omega
  ·have e:k=n:=(by omega);subst e
   have HR:Hid (Fresh w.heap.size wr (λw2=>CoinsAt w2 a1 k L)/\SlOk a1 k c1):=by
    have h1:=Za HO;have du:=Za cd;rw[List.drop_of_length_le (by omega),List.append_nil,<-Za ar] at h1
    have hF:Fresh w.heap.size wr (λw2=>CoinsAt w2 a1 k L):=λw2 hG=>by
     have h2:=hG.own h1 (λq hq=>by have:=(h1.lt q hq).1;omega);obtain⟨a',c',e,h3,_⟩:=Wy h2 (λz hz=>⟨(am z hz).1.1.gr hG (λep e q=>by have:=(am z hz).2 ep e;have:=Za cg;omega),(am z hz).1.2⟩);cases e;rw[Za HT,aS (by rw[Za HZ];exact aF _)] at h3;rw[Za ar] at h3;exact h3
    exact⟨hF,Za de⟩
   clear HO HT ar am cb;go_wp2;go_ret;obtain⟨h1,h2⟩:=Za HR;exact⟨_,_,rfl,h1,h2,Za HB⟩
theorem Gy:∀ (L:List Zj) (k:Nat),(∀ c∈L,0<=cv c/\cv c<=1000000000)->0<=Zp (L.take k)/\Zp (L.take k)<=1000000000*(k:Int)
 | [],k,_=>by simp[Zp];omega
 | c :: r,0,_=>by simp[Zp]
 | c :: r,k+1,h=>by
  have h1:=h c (List.mem_cons_self ..);have h2:=Gy r k (λx hx=>h x (cH _ hx));rw[List.take_succ_cons,Xt];omega
theorem Dw:∀ (L:List Z3) (k:Nat),(∀ c∈L,0<=c.1/\c.1<=1000000000)->0<=Yz (L.take k)/\Yz (L.take k)<=1000000000*(k:Int)
 | [],k,_=>by simp[Yz];omega
 | c :: r,0,_=>by simp[Yz]
 | c :: r,k+1,h=>by
  have h1:=h c (List.mem_cons_self ..);have h2:=Dw r k (λx hx=>h x (cH _ hx));rw[List.take_succ_cons];have e:Yz (c :: r.take k)=c.1+Yz (r.take k):=by simp[Yz]
  rw[e];omega
theorem Zhd(sa)(ns cs:Nat)(S)(ht:Int)(ai ao)(ni ci no co:Nat)(O)(x:Int)(w:World)(de:ns<=6)(dd:no<=6)(hS:CoinsAt w sa ns S)(hO:OutsAt w ao no O)
  (hs:∀ c∈S,0<=cv c/\cv c<=1000000000) (ho:∀ c∈O,0<=c.1/\c.1<=1000000000) (hx:(if Zp S - Yz O<0/\decide (ni=0)=false then 9 else 0)=x) :
  ZH 147 #[F sa ns cs,.agg #[E J ht,F ai ni ci,F ao no co]] w (E J x):=by
 obtain⟨X0,bs,an,bt⟩:=ka00 w [E J ht,F ai ni ci,F ao no co] 59;have ax:=Zd (λk=>Gy S k hs);have bi:=Zd (λk=>Dw O k ho);obtain⟨HS,HO,bo,bk,HX,bj,cb⟩:=kh7 (hS.later an) (hO.later an) hS.1 hO.1 hx bt an;clear hS hO hs ho hx bt an;go_enter func147,ntmps147;go_wp2;rw[<-bs];clear bs
 go_loopw [5,12] (λsv i wr=>∃ (k:Nat) (s:Int),k<=ns/\sv = E J s/\i = E J k/\Hid (s=Zp (S.take k))/\Hid (ZD X0 wr)) (λ_ i _=>ns - (intOf i).toNat)
 case atStart=>exact⟨0,0,aI _,rfl,rfl,rfl,Below.refl _ _⟩
 case round=>
  obtain⟨k,s,hk,rfl,rfl,A,HB⟩:=hrel;by_cases bd:k<ns
  ·have aj:k<S.length:=(by rw[Za bo];exact bd);obtain⟨b,off,rfl,cj,bb⟩:=HS.2 (by omega);have ad:=CoinAt.kept _ _ _ _ _ HB (bb k aj);have b1:=ax k;have b2:=ax (k+1);have aa:=Sz S k aj;obtain⟨c,hc⟩:=ZF (S[k]);rw[hc] at ad aa;obtain⟨la,ln,lc,g0,g1,g2,g3,g4,g5,_,_⟩:=ad.val;obtain⟨v,hv⟩:=ZF (cv c);rw[hv] at g2 aa;rw[<-Za A] at b1 aa;rw[aa] at b2;have A2:Hid (s+v=Zp (S.take (k+1))):=aa.symm;have ar:=Zd (Zf HB (Zh wr (dE #[E J c.1,E J c.2.1,E J v,F la ln lc,E J (ch c),dI (cr c)] 124)));have cm:IntKind.i64.wrap (s+v)=s+v:=(by rw[bR];omega);clear ad hc aa A HB;go_wp2;go_roundw
   case rel=>exact⟨k+1,s+v,by omega,rfl,by go_num,A2,ar⟩
   case measure=>simp[intOf];omega
  ·have e:k=ns:=(by omega);subst e
   have A2:Hid (s=Zp S):=by
    show _=_;rw[Za A,aS (by rw[Za bo];exact aF _)]
   have b1:=ax k;rw[<-Za A] at b1;have hh:=ZE HB bj;obtain⟨-,-,c2,hl⟩:=kc3 hh;clear A hh;go_wp2
   go_loopw [5,25] (λsv i cn=>∃ (j:Nat) (d:Int),j<=no/\sv = E J d/\i = E J j/\Hid (d=s - Yz (O.take j))/\Hid (ZD X0 cn)) (λ_ i _=>no - (intOf i).toNat)
   case atStart=>exact⟨0,s,aI _,rfl,rfl,(by simp[Yz]:s=s - Yz (O.take 0)),HB⟩
   case round=>
    obtain⟨j,d,hj,rfl,rfl,D,HD⟩:=hrel;clear HB;have af:=Za HD;by_cases bd:j<no
    ·have aj:j<O.length:=(by rw[Za bk];exact bd);obtain⟨b,off,rfl,cj,bb⟩:=HO.2 (by omega);have ad:=OutAt.kept _ _ _ _ _ af (bb j aj);have d1:=bi j;have d2:=bi (j+1);have aa:=Nf O j aj;obtain⟨o,hc⟩:=ZF (O[j]);rw[hc] at ad aa;obtain⟨q1,q2⟩:=o;obtain⟨g0,la,ln,lc,g1,_,_⟩:=ad;simp only at g0 g1 aa;have hd:d=s - Yz (O.take j):=Za D;have A3:Hid (d - q1=s - Yz (O.take (j+1))):=(by show _=_;rw[aa];omega);have ar:=Zd (Zf HD (Zh wr (dE #[E J q1,F la ln lc] 122)));have cm:IntKind.i64.wrap (d - q1)=d - q1:=(by rw[bR];omega);clear hc aa D HD hd d1 d2 af;go_wp2;go_roundw
     case rel=>exact⟨j+1,d - q1,by omega,rfl,by go_num,A3,ar⟩
     case measure=>simp[intOf];omega
    ·have e:j=no:=(by omega);subst e
     have hd:d=Zp S - Yz O:=by
      have:=Za D;rw[aS (by rw[Za bk];exact aF _),Za A2] at this;exact this
     have hx:=Za HX;rw[<-hd] at hx;have hh:=ZE af bj;obtain⟨e0,e1,e2,dc⟩:=kc3 hh;have av:=Zd (Zf cb af);have IR:=Zd (λw=>Ju ht ai ao ni ci j co (decide (ni=0)) w rfl);clear hh af D hd;by_cases bu:d<0
     ·cases hr:decide (ni=0) with
      | true=>
       have R:Hid (x=0):=(by show _=_;rw[<-hx,if_neg (by rw[hr];simp)]);rw[hr] at IR;clear hx hr;go_wp2_with fail;refine (IR _).mono ?_;rintro e w3 ⟨rfl,ae⟩;have au:=Zd (Zf av ae);clear ae;go_wp2;go_ret;exact⟨by rw[Za R];rfl,Za au⟩
      | false=>
       have R:Hid (x=9):=(by show _=_;rw[<-hx,if_pos ⟨bu,hr⟩]);rw[hr] at IR;clear hx hr;go_wp2_with fail;refine (IR _).mono ?_;rintro e w3 ⟨rfl,ae⟩;have au:=Zd (Zf av ae);clear ae;go_wp2;go_ret;exact⟨by rw[Za R];rfl,Za au⟩
     ·have R:Hid (x=0):=(by show _=_;rw[<-hx,if_neg (λq=>bu q.1)]);clear hx;go_wp2;go_ret;exact⟨by rw[Za R];rfl,Za av⟩
def UndoAt(w:World)(b o:Nat)(s:List Zj):Prop:=∃ a n c,w.cell? ⟨b,o,none⟩=some (F a n c)/\CoinsAt w a n s/\SlOk a n c
theorem UndoAt.kept{w w':World}{b o s}(hb:ZD w w')(h:UndoAt w b o s):UndoAt w' b o s:=by
 obtain⟨a,n,c,h1,h2,h3⟩:=h;exact⟨a,n,c,Ze hb h1,h2.later hb,h3⟩
def Xy(r:Int)(T:List TxD)(S:List (List Zj))(k:Nat):Int:=r+Zp (S.take k).flatten - Yz ((T.take k).map (·.2.2)).flatten
theorem Ut(L M):Yz (L++M)=Yz L+Yz M:=by simp[Yz]
theorem Zbq(r:Int)(T S):Xy r T S 0=r:=by simp[Xy,Zp,Yz]
theorem Zbr(r:Int)(T:List TxD)(S:List (List Zj))(k:Nat)(hT:k<T.length)(hS:k<S.length):Xy r T S (k+1)=Xy r T S k+Zp S[k] - Yz T[k].2.2:=by
 unfold Xy;rw[bA hT,bA hS,List.map_append,List.flatten_append,List.flatten_append,Wq,Ut];simp;omega
theorem Zci(p h k n:Int)(b off m c:Nat)(T:List TxD)(ub uo um uc:Nat)(S:List (List Zj))(r:Int)(o:Bool)(w:World)(hz:T.length=m)(hm:m<=4)(cu:∀ i (h:i<T.length),TxAt w b (off+i*3) T[i])(df:S.length=m)(ee:um=m)
  (ct:∀ i (h:i<S.length),UndoAt w ub (uo+i) S[i]) (hT:∀ t∈T,t.2.2.length<=6/\∀ x∈t.2.2,0<=x.1/\x.1<=1000000000) (hS:∀ s∈S,s.length<=6/\∀ x∈s,0<=cv x/\cv x<=1000000000) (hr:rwD h=(r,0)) (ho:decide (0<=Xy r T S m)=o) :
  ZH 75 #[.agg #[E J p,E J h,E J k,E J n,F (some ⟨b,off,none⟩) m c],F (some ⟨ub,uo,none⟩) um uc] w (dI o):=by
 subst ee
 have ey:0<=r/\r<=64:=by
  unfold rwD at hr;split at hr
  ·injection hr with e _;have:=H8 ((h - 1).toNat / 8);omega
  ·injection hr with _ e;cases e
 obtain⟨X,hX,bd,cn⟩:=ka00 w [E J p,E J h,E J k,E J n,F (some ⟨b,off,none⟩) um c] 39;have RW:=Zd (λW=>Nk h r 0 W hr);obtain⟨dq,di⟩:=kh2 cn bd;have dl:Hid (∀ i (h:i<T.length),TxAt X b (off+i*3) T[i]):=λi hi=>TxAt.kept _ _ _ _ _ bd (cu i hi);have dk:Hid (∀ i (h:i<S.length),UndoAt X ub (uo+i) S[i]):=λi hi=>(ct i hi).kept bd;obtain⟨HT,HS,HZ,dt,HO⟩:=kh5 hT hS hz df ho;clear cn bd cu ct hT hS hz df ho hr;go_enter func75,ntmps75;go_wp2_with fail;rw[<-hX];clear hX;refine (RW _).mono ?_;rintro e w1 ⟨rfl,bs⟩;have dd:=ZE bs dq;obtain⟨-,-,-,-,c4,cl⟩:=kc5 dd;have cb:=Zd bs;clear bs dd;go_wp2
 go_loopw [5,22] (λsv i wr=>∃ (j:Nat) (d:Int),j<=um/\sv = E J d/\i = E J j/\Hid (d=Xy r T S j)/\-(6000000000*(j:Int))<=d/\d<=64+6000000000*(j:Int)/\Hid (ZD X wr)) (λ_ i _=>um - (intOf i).toNat)
 case atStart=>exact⟨0,r,aI _,rfl,rfl,(Zbq r T S).symm,by omega,by omega,cb⟩
 case round=>
  obtain⟨j,d,hj,rfl,rfl,A,d1,d2,ax⟩:=hrel;clear c4 cl cb;by_cases cz:j<um
  ·have cy:j<T.length:=(by rw[Za HZ];exact cz);have cx:j<S.length:=(by rw[Za dt];exact cz);have aa:=TxAt.kept _ _ _ _ _ ax (dl j cy);have dc:=(dk j cx).kept ax;have bT:=HT T[j] (bE _);have bS:=HS S[j] (bE _);have ST:=Zd (Zbr r T S j cy cx);obtain⟨t,ht⟩:=ZF (T[j]);obtain⟨s,hs⟩:=ZF (S[j]);rw[ht] at aa bT ST;rw[hs] at dc bS ST;obtain⟨t1,I,O⟩:=t;obtain⟨g0,⟨ai,ni,ci,g1,hI,_⟩,ao,no,co,g2,hO,_⟩:=aa;obtain⟨sa,sn,sc,gs,hC,_⟩:=dc;simp only at g0 g1 g2 hI hO bT ST;obtain⟨Y,hY,am,cq⟩:=ka00 wr [E J t1,F ai ni ci,F ao no co] 59;obtain⟨dr,dj,bg,ay⟩:=kh4 cq (Zf ax am) (hC.later am) (hO.later am);have cg:=Ze am gs;have gl:=aE _ _ gs;have ea:=aE _ _ cg;have bi:=Zd (λk=>Gy s k bS.2);have bh:=Zd (λk=>Dw O k bT.2);have ez:sn<=6:=(by rw[<-hC.1];exact bS.1);have ew:no<=6:=(by rw[<-hO.1];exact bT.1);have eu:(j:Int)<(um:Int):=(by omega);clear am cq hI hO hC ht hs bT bS;go_wp2_with fail;rw[<-hY];clear hY;go_wp2
   go_loopw [5,33] (λsv i w2=>∃ (k2:Nat) (d2:Int),k2<=sn/\sv = E J d2/\i = E J k2/\Hid (d2=d+Zp (s.take k2))/\Hid (ZD Y w2)) (λ_ i _=>sn - (intOf i).toNat)
   case atStart=>exact⟨0,d,aI _,rfl,rfl,(by simp[Zp]:d=d+Zp (s.take 0)),(Below.refl _ _:ZD Y Y)⟩
   case round=>
    obtain⟨q,e,hq,rfl,rfl,D,HD⟩:=hrel;clear g0 g1 g2 gs cg gl ea;by_cases ec:q<sn
    ·have ap:q<s.length:=(by rw[(Za bg).1];exact ec);obtain⟨b2,o2,rfl,_,an⟩:=bg.2 (by omega);have aa:=CoinAt.kept _ _ _ _ _ HD (an q ap);have b1:=bi q;have dv:=bi (q+1);have ab:=Sz s q ap;obtain⟨y,hy⟩:=ZF (s[q]);rw[hy] at aa ab;obtain⟨la,ln,lc,f0,f1,f2,f3,f4,f5,_,_⟩:=aa.val;obtain⟨v,hv⟩:=ZF (cv y);rw[hv] at f2 ab;have hd:e=d+Zp (s.take q):=Za D;have A2:Hid (e+v=d+Zp (s.take (q+1))):=(by show _=_;rw[ab];omega);have bf:=Zd (Zf HD (Zh wr (dE #[E J y.1,E J y.2.1,E J v,F la ln lc,E J (ch y),dI (cr y)] 124)));have eg:IntKind.i64.wrap (e+v)=e+v:=(by rw[bR];omega);clear aa hy ab D HD hd b1 dv an;go_wp2;go_roundw
     case rel=>exact⟨q+1,e+v,by omega,rfl,by go_num,A2,bf⟩
     case measure=>simp[intOf];omega
    ·have e0:q=sn:=(by omega);subst e0
     have A2:Hid (e=d+Zp s):=by
      show _=_;rw[Za D,aS (by rw[(Za bg).1];exact aF _)]
     have b1:=bi q
     have eb:0<=e - d/\e - d<=6000000000:=by
      have:=Za D;omega
     have hh:=ZE HD dr;obtain⟨-,-,f2,hl⟩:=kc3 hh;clear D hh b1;go_wp2
     go_loopw [5,46] (λsv i w3=>∃ (k3:Nat) (d3:Int),k3<=no/\sv = E J d3/\i = E J k3/\Hid (d3=e - Yz (O.take k3))/\Hid (ZD Y w3)) (λ_ i _=>no - (intOf i).toNat)
     case atStart=>exact⟨0,e,aI _,rfl,rfl,(by simp[Yz]:e=e - Yz (O.take 0)),HD⟩
     case round=>
      obtain⟨u,g,hu,rfl,rfl,G,HG⟩:=hrel;clear f2 hl HD;by_cases ed:u<no
      ·have ap:u<O.length:=(by rw[(Za ay).1];exact ed);obtain⟨b3,o3,rfl,_,an⟩:=ay.2 (by omega);have aa:=OutAt.kept _ _ _ _ _ HG (an u ap);have x1:=bh u;have x2:=bh (u+1);have ab:=Nf O u ap;obtain⟨y,hy⟩:=ZF (O[u]);rw[hy] at aa ab;obtain⟨q1,q2⟩:=y;obtain⟨f0,la,ln,lc,f1,_,_⟩:=aa;simp only at f0 f1 ab;have hd:g=e - Yz (O.take u):=Za G;have A3:Hid (g - q1=e - Yz (O.take (u+1))):=(by show _=_;rw[ab];omega);have bf:=Zd (Zf HG (Zh wr (dE #[E J q1,F la ln lc] 122)));have eg:IntKind.i64.wrap (g - q1)=g - q1:=(by rw[bR];omega);clear hy ab G HG hd x1 x2 an;go_wp2;go_roundw
       case rel=>exact⟨u+1,g - q1,by omega,rfl,by go_num,A3,bf⟩
       case measure=>simp[intOf];omega
      ·have e1:u=no:=(by omega);subst e1
       have hd:g=e - Yz O:=by
        have:=Za G;rw[aS (by rw[(Za ay).1];exact aF _)] at this;exact this
       have x1:=bh u;rw[aS (by rw[(Za ay).1];exact aF _)] at x1
       have A4:Hid (g=Xy r T S (j+1)):=by
        show _=_;rw[Za ST,<-Za A,hd,Za A2]
       have aw:=Zd (Zf dj HG);have y1 : -(6000000000*((j+1:Nat):Int))<=g:=(by omega);have y2:g<=64+6000000000*((j+1:Nat):Int):=(by omega);clear hd x1 G HG A A2 ST;go_wp2;go_roundw
       case rel=>exact⟨j+1,g,by omega,rfl,by go_num,A4,y1,y2,aw⟩
       case measure=>simp[intOf];omega
  ·have e0:j=um:=(by omega);subst e0;have aw:=Zd (Zf di ax);have ho:=Za HO;rw[<-Za A] at ho;clear A;by_cases hp:0<=d
   ·obtain rfl:true=o:=(by rw[<-ho,decide_eq_true hp]);clear ho;go_wp2;go_ret;exact⟨rfl,Za aw⟩
   ·obtain rfl:false=o:=(by rw[<-ho,decide_eq_false hp]);clear ho;go_wp2;go_ret;exact⟨rfl,Za aw⟩
theorem Af(a n c L)(h:Int)(ai ao ni ci no co I O)(x:Int)(w:World)(hL:CoinsAt w a n L)(hI:InsAt w ai ni I)(hO:OutsAt w ao no O)(sI:SlOk ai ni ci)(hx:Vx L (h,I,O)=x) :
  ZH 202 #[F a n c,.agg #[E J h,F ai ni ci,F ao no co]] w (E J x):=by
 obtain⟨X0,ac,ab,an⟩:=ka00 w [E J h,F ai ni ci,F ao no co] 59;obtain⟨y,hy⟩:=ZF (Z8 L);have C1:=Zd (Ub a n c L y X0 (hL.later ab) hy);have TX:=Zd (λw' (hb:ZD X0 w')=>Vn h ai ao ni ci no co I O w' ((hI.later ab).later hb) ((hO.later ab).later hb) sI);obtain⟨ax,af⟩:=kh2 an ab;unfold Vx at hx;rw[hy] at hx;clear hL hI hO sI an ab hy;by_cases h0:y=0
 ·subst h0;rw[if_neg (by decide)] at hx;rw[hx] at TX;clear hx;go_enter func202,ntmps202;go_wp2_with fail;rw[<-ac];clear ac;refine C1.mono ?_;rintro e w2 ⟨rfl,aa⟩;have hh:=ZE aa ax;obtain⟨c0,c1,c2,hl⟩:=kc3 hh;obtain⟨C2,ad⟩:=kh2 (TX w2 aa) (Zf af aa);clear hh aa;go_wp2_with fail;refine C2.mono ?_;rintro e w3 ⟨rfl,aq⟩;have aw:=Zd (Zf ad aq);clear aq;go_wp2;go_ret;exact⟨rfl,Za aw⟩
 ·rw[if_pos h0] at hx;subst hx;have g:(y != 0)=true:=by simp[h0]
  clear h0;go_enter func202,ntmps202;go_wp2_with fail;rw[<-ac];clear ac;refine C1.mono ?_;rintro e w2 ⟨rfl,aa⟩;have ad:=Zd (Zf af aa);clear aa;go_wp2;go_ret;exact⟨rfl,Za ad⟩
theorem Mx(a n c L)(h:Int)(ai ao ni ci no co I O)(name ht:Int)(x:Int)(w:World)(hL:CoinsAt w a n L)(hI:InsAt w ai ni I)(hO:OutsAt w ao no O)(sI:SlOk ai ni ci)(hx:Vj L (h,I,O) name ht=x) :
  ZH 144 #[F a n c,.agg #[E J h,F ai ni ci,F ao no co],E J name,E J ht] w (E J x):=by
 obtain⟨X0,ab,am,ax⟩:=ka00 w [E J h,F ai ni ci,F ao no co] 59;obtain⟨y,hy⟩:=ZF (Vx L (h,I,O));have C1:=Zd (Af a n c L h ai ao ni ci no co I O y X0 (hL.later am) (hI.later am) (hO.later am) sI hy);have az:=hI.1;obtain⟨x0,x1,x2,-⟩:=kc3 ax;obtain⟨ar,ah⟩:=kh2 ax am;unfold Vj at hx;rw[hy] at hx;have hR:isR (h,I,O)=decide (ni=0):=by unfold isR;rw[<-az]
 rw[hR] at hx;clear hL hI hO sI ax am hy hR az;by_cases h0:y=0
 ·subst h0;rw[if_neg (by decide)] at hx;cases hN:okN name with
  | false=>
   rw[hN,Bool.false_and,if_pos rfl] at hx;subst hx;have W1:=Zd (λw=>Yr name 1 120 false w (by rw[<-hN];rfl));clear hN;go_enter func144,ntmps144;go_wp2_with fail;rw[<-ab];clear ab;refine C1.mono ?_;rintro e w2 ⟨rfl,aa⟩;have ac:=Zd (Zf ah aa);clear aa;go_wp2_with fail;refine (W1 _).mono ?_;rintro e w3 ⟨rfl,rfl⟩;go_wp2;go_ret;exact⟨rfl,Za ac⟩
  | true=>
   rw[hN,Bool.true_and] at hx;have W1:=Zd (λw=>Yr name 1 120 true w (by rw[<-hN];rfl));cases hH:okH ht with
   | false=>
    rw[hH,if_pos rfl] at hx;subst hx;have W2:=Zd (λw=>V4 ht false w hH);clear hN hH;go_enter func144,ntmps144;go_wp2_with fail;rw[<-ab];clear ab;refine C1.mono ?_;rintro e w2 ⟨rfl,aa⟩;have ac:=Zd (Zf ah aa);clear aa;go_wp2_with fail;refine (W1 _).mono ?_;rintro e w3 ⟨rfl,rfl⟩;go_wp2_with fail;refine (W2 _).mono ?_;rintro e w3 ⟨rfl,rfl⟩;go_wp2;go_ret;exact⟨rfl,Za ac⟩
   | true=>
    rw[hH,if_neg (by decide)] at hx;have W2:=Zd (λw=>V4 ht true w hH);clear hN hH
    have bo:∀ (r:Bool) (q:Bool) (hr:decide (ni=0)=r) (hq:(h != ht)=q) (hz:(if r=true/\q=true then (4:Int) else 0)=x),ZH 144 #[F a n c,.agg #[E J h,F ai ni ci,F ao no co],E J name,E J ht] w (E J x):=by
     intro r q hr hq hz;have IR:=Zd (λw=>Ju h ai ao ni ci no co r w hr);cases r with
     | false=>
      rw[if_neg (by simp)] at hz;subst hz;clear hx hr;go_enter func144,ntmps144;go_wp2_with fail;rw[<-ab];clear ab;refine C1.mono ?_;rintro e w2 ⟨rfl,aa⟩;have hh:=ZE aa ar;obtain⟨c0,c1,c2,hl⟩:=kc3 hh;have ac:=Zd (Zf ah aa);clear aa hh;go_wp2_with fail;refine (W1 _).mono ?_;rintro e w3 ⟨rfl,rfl⟩;go_wp2_with fail;refine (W2 _).mono ?_;rintro e w3 ⟨rfl,rfl⟩;go_wp2_with fail;refine (IR _).mono ?_;rintro e w3 ⟨rfl,bf⟩;have bi:=Zd (Zf ac bf);clear bf;go_wp2;go_ret;exact⟨rfl,Za bi⟩
     | true=>
      cases q with
      | false=>
       rw[if_neg (by simp)] at hz;subst hz;clear hx hr;go_enter func144,ntmps144;go_wp2_with fail;rw[<-ab];clear ab;refine C1.mono ?_;rintro e w2 ⟨rfl,aa⟩;have hh:=ZE aa ar;obtain⟨c0,c1,c2,hl⟩:=kc3 hh;obtain⟨HH,ac⟩:=kh2 hh (Zf ah aa);clear aa hh;go_wp2_with fail;refine (W1 _).mono ?_;rintro e w3 ⟨rfl,rfl⟩;go_wp2_with fail;refine (W2 _).mono ?_;rintro e w3 ⟨rfl,rfl⟩;go_wp2_with fail;refine (IR _).mono ?_;rintro e w4 ⟨rfl,af⟩;have d0:=Ze af c0;have bs:=aE _ _ d0;have aq:=Zd (Zf ac af);clear af c0 c1 c2;go_wp2;go_ret;exact⟨rfl,Za aq⟩
      | true=>
       rw[if_pos ⟨rfl,rfl⟩] at hz;subst hz;clear hx hr;go_enter func144,ntmps144;go_wp2_with fail;rw[<-ab];clear ab;refine C1.mono ?_;rintro e w2 ⟨rfl,aa⟩;have hh:=ZE aa ar;obtain⟨c0,c1,c2,hl⟩:=kc3 hh;obtain⟨HH,ac⟩:=kh2 hh (Zf ah aa);clear aa hh;go_wp2_with fail;refine (W1 _).mono ?_;rintro e w3 ⟨rfl,rfl⟩;go_wp2_with fail;refine (W2 _).mono ?_;rintro e w3 ⟨rfl,rfl⟩;go_wp2_with fail;refine (IR _).mono ?_;rintro e w4 ⟨rfl,af⟩;have d0:=Ze af c0;have bs:=aE _ _ d0;have aq:=Zd (Zf ac af);clear af c0 c1 c2;go_wp2;go_ret;exact⟨rfl,Za aq⟩
    refine bo (decide (ni=0)) (h != ht) rfl rfl ?_;rw[<-hx];by_cases e1:ni=0 <;> by_cases e2:h=ht <;> simp[e1,e2]
 ·rw[if_pos h0] at hx;subst hx;have g:(y != 0)=true:=by simp[h0]
  clear h0;go_enter func144,ntmps144;go_wp2_with fail;rw[<-ab];clear ab;refine C1.mono ?_;rintro e w2 ⟨rfl,aa⟩;have ac:=Zd (Zf ah aa);clear aa;go_wp2;go_ret;exact⟨rfl,Za ac⟩
theorem Zdk:∀ (l:List Int) (s:Int),(sm s l).2=0->∀ x∈l,0<=x/\x<=1000000000
 | [],_,_=>by simp
 | y :: r,s,h=>by
  intro x hx;unfold sm at h;split at h
  ·rename_i hy;split at h
   ·rcases aO.1 hx with rfl|hx
    ·exact hy
    ·exact Zdk r _ h x hx
   ·cases h
  ·cases h
theorem Un{t:TxD}(h:Zq t=0):t.2.1.length<=6/\t.2.2.length<=6/\0<t.2.2.length/\Fs t=true/\Yj [] t.2.1=0/\Yk t.2.2=0/\(sm 0 (t.2.2.map (·.1))).2=0:=by
 unfold Zq at h;split at h
 ·cases h
 rename_i h1;split at h
 ·cases h
 rename_i h2;split at h
 ·cases h
 rename_i h3;split at h
 ·rename_i h4;exact absurd h h4
 rename_i h4;unfold Ym at h;split at h
 ·rename_i h5;exact⟨by omega,by omega,by omega,by simpa using h3,by simpa using h4,h5,h⟩
 ·rename_i h5;exact absurd h h5
theorem Zdt{t:TxD}(h:Zq t=0):∀ o∈t.2.2,0<=o.1/\o.1<=1000000000:=λo ho=>
 Zdk _ 0 (Un h).2.2.2.2.2.2 o.1 (List.mem_map_of_mem ho)
theorem Et{L t}(h:Vx L t=0):Yd L/\Zq t=0:=by
 unfold Vx at h;split at h
 ·rename_i h1;exact absurd h h1
 ·rename_i h1;exact⟨(Z7 L).1 (by simpa using h1),h⟩
theorem Xx{L}{t:TxD}{name h:Int}(q:Vj L t name h=0):Yd L/\Zq t=0/\okN name=true/\okH h=true/\(t.2.1.length=0->t.1=h):=by
 unfold Vj at q;split at q
 ·rename_i h1;exact absurd q h1
 rename_i h1;split at q
 ·cases q
 rename_i h2;split at q
 ·cases q
 rename_i h3;obtain⟨r1,r2⟩:=Et (by simpa using h1);rw[Bool.not_eq_false,Bool.and_eq_true] at h2;refine⟨r1,r2,h2.1,h2.2,λe=>?_⟩;refine Decidable.byContradiction λn=>h3 ⟨by unfold isR;exact decide_eq_true e,n⟩
theorem Zlw{L}{t:TxD}{name h x1 x2 x3 x4 x5:Int}{S2 M2 M4}(h1:Vj L t name h=x1)(h2:Zr h t.2.1 [] L=(x2,S2,M2))(h3:Eh S2 t=x3)(h4:Yc name h (isR t) 0 t.2.2 M2=(x4,M4))(h5:Z8 M4=x5) :
  apD L t name h=if x1≠0 then (x1,[],[]) else if x2≠0 then (x2,[],[]) else if x3≠0 then (x3,[],[]) else if x4≠0 then (x4,[],[]) else if x5≠0 then (x5,[],[]) else (0,M4,S2):=by
 unfold apD;simp only[h1,h2,h3,h4,h5]
theorem Zqf{L S:List Zj}{t:TxD}{name x1 x2 x3 x4:Int}{M2 M3}(h1:Vx L t=x1)(h2:Vh name 0 t.2.2 L=(x2,M2))(h3:Uh t.2.1 S M2=(x3,M3))(h4:Z8 M3=x4) :
  rvD L t name S=if x1≠0 then (x1,[]) else if S.length≠t.2.1.length then (4,[]) else if x2≠0 then (x2,[]) else if x3≠0 then (x3,[]) else if x4≠0 then (x4,[]) else (0,M3):=by
 unfold rvD;simp only[h1,h2,h3,h4]
theorem Sp{l:List (Int×Int)}(h:chk l=0):l.length<=16:=by
 unfold chk at h;split at h
 ·cases h
 ·omega
