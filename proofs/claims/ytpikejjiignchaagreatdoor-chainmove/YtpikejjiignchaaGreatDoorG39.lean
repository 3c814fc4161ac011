import Derived.Test.YtpikejjiignchaaGreatDoorH
import Derived.Test.YtpikejjiignchaaGreatDoorG38
open Go.Proofs.Tryz
open Classical renaming not_not->cN
open Go renaming maxLen->cD,lt_of_block->aA,wpList_append_own->dV,bodyPost_ret->aR
open Go.Addr renaming add_lit->cO
open Go.Ending renaming returned->dX
open Go.IntKind renaming i64->J
open Go.Lib renaming run_eql_slice_nil->bQ
open Go.Obj renaming cells->dW
open Go.Proofs.Tryz renaming prog->aB,underlying66->dR
open Go.Value renaming int->E,slice->F,tuple->dY
open Go.World renaming frozen?_of_block->bX
open Go.World.ownsRow renaming cellAt->bD
open List renaming getElem_mem->bK,length_eq_zero_iff->aJ,getElem?_eq_some_iff->cU,length_set->dB,getElem_set_self->dH
open Nat renaming lt_of_lt_of_le->aI,le_refl->aE,zero_le->aP,le_trans->aT
set_option maxHeartbeats 12800000
set_option maxRecDepth 10000
namespace Go.Proofs.YtpikejjiignchaaGreatDoor.Tr
open Go.RowKit
theorem Lj:∀ (M:List Int) (U:List Zj) (N:List Int) (T:List Zj),M.length=U.length->Wa N T M U=0->Wv U
 | [],[],_,_,_,_=>λb O=>by cases O
 | [],_ :: _,_,_,h,_=>by cases h
 | _ :: _,[],_,_,h,_=>by cases h
 | x :: M,b :: U,N,T,h,hc=>by
  rw[Wa] at hc;split at hc
  ·next q=>exact absurd hc q
  ·next q=>
   have h1:=Sf (Ti (cN.1 q));have h2:=Lj M U _ _ (by simpa using h) hc;intro y z
   rcases List.mem_cons.1 z with rfl|z
   ·exact h1
   ·exact h2 y z
theorem J9{N:List Int}{T:List Zj}(h:chkTr N T=0):N.length=T.length/\N.length<=24/\Wv T/\Wa [] [] N T=0:=by
 unfold chkTr at h;split at h
 ·cases h
 ·next q=>
  split at h
  ·cases h
  ·next q2=>exact⟨cN.1 q,by omega,Lj N T [] [] (cN.1 q) h,h⟩
theorem pth_len{N T}(h:Wv T)(s:Int):(Zm N T s).length<=1000:=by
 unfold Zm;rw[Rb];have:=(Jn h s N);omega
theorem Zhx(a b)(n c d:Nat)(N T)(s:Int)(P:List Int)(z:Nat)(w:World)(hn:n<=cD)(hN:IntsAt w a n N)(hT:BlksAt w b n T)(O:Wv T)(hP:Zm N T s=P)(ae:P.length=z) :
  Calls aB 77 #[.agg #[F a n c,F b n d],E J s] w λe w'=>∃ v,e = dX v/\w'.ownsRow w.heap.size 3 1 v z (P.map (Value.int .i64))/\ZD w w':=by
 subst hP ae;exact Zhw a b n c d N T s w hn hN hT O
theorem path_is(a b n c m d N T)(s:Int)(P:List Int)(pn:Nat)(x:Int)(w:World)(hN:IntsAt w a n N)(hT:BlksAt w b m T)(sN:SlOk a n c)(sT:SlOk b m d)(hx:pathE N T s=(P,x))(aq:P.length=pn) :
  Calls aB 35 #[.agg #[F a n c,F b m d],E J s] w λe w'=>∃ v,e = dX (dY #[v,E J x])/\w'.ownsRow w.heap.size 3 1 v pn (P.map (Value.int .i64))/\ZD w w':=by
 obtain⟨X,hX⟩:=ZG (w.alloc (dW #[F a n c,F b m d] 28));have ad:ZD w X:=by rw[hX];exact Zg _ _
 have ai:X.heap[w.heap.size]? = some (dW [F a n c,F b m d].toArray 28 (0,0)):=by rw[hX];exact two_heap _ _ _ _
 have HB:=Zb ad;have ba:=Zb ai;obtain⟨y,hy⟩:=ZF (chkTr N T);have C1:=Zb (Ta a b n c m d N T y X (hN.later ad) (hT.later ad) sN sT hy);have x0:=Zd ai 0 _ rfl;have x1:=Zd ai 1 _ rfl;have xl:=aA ai;unfold pathE at hx;rw[hy] at hx;by_cases q:y=0
 ·subst q;rw[if_neg (by simp)] at hx;obtain⟨hl,h24,hH,_⟩:=J9 hy;obtain rfl:n=m:=by rw[<-hN.1,<-hT.1,hl]
  have bd:n<=cD:=sN.len;obtain⟨o,ho⟩:=ZF (decide (s∈N));rw[ho] at hx;have C2:=Zb (λW (hb:ZD X W)=>Ci a b n c n d N s o W bd (hN.later (Ze ad hb)) ho);have C3:=Zb (λW (hb:ZD X W) (hP:Zm N T s=P)=>Zhx a b n c d N T s P pn W bd (hN.later (Ze ad hb)) (hT.later (Ze ad hb)) hH hP aq);have bb:=Zb hx;have bt:=Zb aq;clear ad ai hN hT sN sT hy hx hl h24 hH ho aq bd;by_cases q1:s=0
  ·subst q1
   have R:Hid (Zm N T 0=P/\0=x):=by
    have h:=Za bb;rw[if_neg (by simp)] at h;exact⟨congrArg Prod.fst h,congrArg Prod.snd h⟩
   obtain rfl:0=x:=R.2;go_enter func35,ntmps35;go_wp2_with fail;rw[<-hX];clear hX;refine C1.mono ?_;rintro e w1 ⟨rfl,z⟩;have CC:=Zb (C3 _ z R.1);have O:=ZE z ba;have t0:=Zd O 0 _ rfl;have t1:=Zd O 1 _ rfl;have tl:=aA O;have af:=Zb (Ze HB z);clear z x0 x1 xl O;go_wp2_with fail;refine CC.mono ?_;rintro e w2 ⟨v,rfl,bq,aa⟩;have R2:=Zb (Wh bq af.size);have ag:=Zb (Ze af aa);clear bq aa;go_wp2;go_ret2;exact⟨v,rfl,Za R2,Za ag⟩
  ·have g1:(s != 0)=true:=(by simp[q1]);cases o with
   | false=>
    have R:Hid (([]:List Int)=P/\5=x):=by
     have h:=Za bb;rw[if_pos ⟨q1,rfl⟩] at h;exact⟨congrArg Prod.fst h,congrArg Prod.snd h⟩
    obtain⟨rfl,rfl⟩:=Za R;obtain rfl:0=pn:=Za bt;clear q1;go_enter func35,ntmps35;go_wp2_with fail;rw[<-hX];clear hX;refine C1.mono ?_;rintro e w1 ⟨rfl,z⟩;have CC:=Zb (C2 _ z);have O:=ZE z ba;have t0:=Zd O 0 _ rfl;have t1:=Zd O 1 _ rfl;have tl:=aA O;have af:=Zb (Ze HB z);clear z x0 x1 xl O;go_wp2_with fail;refine CC.mono ?_;rintro e w2 ⟨rfl,aa⟩;have ag:=Zb (Ze af aa);clear aa;go_wp2;go_ret2;exact⟨_,rfl,World.ownsRow_nil _ _ _ _,Za ag⟩
   | true=>
    have R:Hid (Zm N T s=P/\0=x):=by
     have h:=Za bb;rw[if_neg (by simp)] at h;exact⟨congrArg Prod.fst h,congrArg Prod.snd h⟩
    obtain rfl:0=x:=R.2;clear q1;go_enter func35,ntmps35;go_wp2_with fail;rw[<-hX];clear hX;refine C1.mono ?_;rintro e w1 ⟨rfl,z⟩;have CC:=Zb (C2 _ z);have bj:=Zb z;have O:=ZE z ba;have t0:=Zd O 0 _ rfl;have t1:=Zd O 1 _ rfl;have tl:=aA O;clear z x0 x1 xl O;go_wp2_with fail;refine CC.mono ?_;rintro e w2 ⟨rfl,aa⟩;have ag:=Zb (Ze HB (Ze bj aa));have CC:=Zb (C3 _ (Ze bj aa) R.1);have k0:=Zc aa t0;have k1:=Zc aa t1;have kl:=aI tl aa.size;clear aa t0 t1 tl;go_wp2_with fail;refine CC.mono ?_;rintro e w3 ⟨v,rfl,br,bn⟩;have R2:=Zb (Wh br ag.size);have bs:=Zb (Ze ag bn);clear br bn;go_wp2;go_ret2;exact⟨v,rfl,Za R2,Za bs⟩
 ·rw[if_pos q] at hx;obtain⟨rfl,rfl⟩:([]:List Int)=P/\y=x:=⟨congrArg Prod.fst hx,congrArg Prod.snd hx⟩;obtain rfl:0=pn:=aq;have g:(y != 0)=true:=by simp[q]
  clear ad ai hN hT sN sT hy hx q;go_enter func35,ntmps35;go_wp2_with fail;rw[<-hX];clear hX;refine C1.mono ?_;rintro e w1 ⟨rfl,z⟩;have af:=Zb (Ze HB z);clear z x0 x1 xl;go_wp2;go_ret2;exact⟨_,rfl,World.ownsRow_nil _ _ _ _,Za af⟩
theorem pathE_ok{N T}{s:Int}(h:(pathE N T s).2=0):chkTr N T=0/\(s=0\/s∈N)/\(pathE N T s).1=Zm N T s:=by
 unfold pathE at h ⊢;by_cases q:chkTr N T=0
 ·rw[if_neg (by simp[q])] at h ⊢;by_cases z:s≠0/\decide (s∈N)=false
  ·rw[if_pos z] at h;cases h
  ·rw[if_neg z];refine⟨q,?_,rfl⟩;by_cases e:s=0
   ·exact .inl e
   ·right
    by_cases O:s∈N
    ·exact O
    ·exact absurd ⟨e,by simp[O]⟩ z
 ·rw[if_pos q] at h;exact absurd h q
theorem upD_take(N)(T):∀ (d:Nat) (x:Int) (i:Nat),i<d->(upD N T d x).take (i+1)=upD N T (i+1) ((upD N T d x).getD i 0)
 | 0,_,_,h=>by omega
 | d+1,x,i,h=>by
  have z:=Rb N T d (fnd x N T).1;by_cases e:i<d
  ·rw[upD,List.take_append_of_le_length (by omega),upD_take N T d _ i e]
   congr 1
   simp[List.getD,List.getElem?_append_left (show i<(upD N T d (fnd x N T).1).length by omega)]
  ·have:i=d:=(by omega);subst this;rw[List.take_of_length_le (by rw[Rb];omega)]
   congr 1
   simp[upD,List.getD,z]
def Coh(P Q:List Int):Prop:=∀ i,i<P.length->i<Q.length->P.getD i 0=Q.getD i 0->P.take (i+1)=Q.take (i+1)
theorem upD_coh(N T)(d e:Nat)(x y:Int):Coh (upD N T d x) (upD N T e y):=by
 intro i h1 h2 h;rw[Rb] at h1 h2;rw[upD_take N T d x i h1,upD_take N T e y i h2,h]
theorem Zqy{N:List Int}{T:List Zj}{x:Int}(z:N.length=T.length)(h:x∈N):fnd x N T∈T:=by
 rcases idxI_fnd x N T 0 z with ⟨_,h1,_⟩|⟨i,hi,_,_,h3⟩
 ·exact absurd h h1
 ·rw[h3];exact bK hi
theorem Jg{N:List Int}{T:List Zj}{x:Int}(z:N.length=T.length)(h:x∉N):fnd x N T=U6:=by
 rcases idxI_fnd x N T 0 z with ⟨_,_,h3⟩|⟨i,hi,_,h2,_⟩
 ·exact h3
 ·exact absurd h2 h
theorem Tryz.infoIntC:(Tryz.prog.info? 3).map (λi=>(i.zero,i.size,i.bytes))=some (some (E J 0),1,8):=by kernel_rfl
theorem Ct(w):Calls aB 129 #[F none 0 0] w λe w'=>e = dX (F none 0 0)/\w=w':=by
 have z:=λw=>bQ (P:=aB) w 25 3 none 0 0 0 0 underlying25;go_enter func129,ntmps129;go_wp2;go_ret;exact⟨rfl,rfl⟩
theorem Fl(O:Addr)(n c:Nat)(z:List Value)(w:World)(hn:n<=4096)(hz:z.length=n*1)(h1:∀ u∈z,u.oneCell'=true)(hc:∀ j u,z[j]? = some u->w.cell? (O.add j)=some u) :
  Calls aB 129 #[F (some O) n c] w λe w'=>∃ v,e = dX v/\w'.ownsRow w.heap.size 3 1 v n z/\ZD w w':=by
 obtain⟨i0,hi,an,ao,ap⟩:=info_parts Tryz.infoIntC;have hb:=Zg w (dW #[] 3);have HC:Hid (∀ j u,z[j]? = some u->(w.alloc (dW #[] 3)).cell? (O.add j)=some u):=λj u hj=>Zc hb (hc j u hj);have HB:=Zb hb;have HZ:=Zb hz;have H1:=Zb h1;have HO:=Zb (Jf w 3 1);have he:=λw=>bQ (P:=aB) w 25 3 (some O) n c 0 0 underlying25;clear hc hb hz h1;go_enter func129,ntmps129
 go_wp2_with (at_builtin;refine dV _ rfl _ _ 25 rfl w.heap.size 3 i0 (E J 0) 1 8 underlying25 hi an ao ap rfl (by decide) _ _ _ rfl HO O n c z rfl HZ HC H1 (by unfold cD;omega) (by omega) HB.size ?_;intro v2 w3 af ae _)
 have HW:Hid (w3.ownsRow w.heap.size 3 1 v2 n z):=by show World.ownsRow _ _ _ _ _ _ _;simpa using af
 have ai:=Zb (HB.grown ae HB.size (Y6 HO));clear af ae;go_wp2;go_ret;exact⟨v2,rfl,Za HW,Za ai⟩
theorem Cu(a)(n c:Nat)(L:List Int)(w:World)(hn:n<=4096)(h:IntsAt w a n L)(hs:SlOk a n c) :
  Calls aB 129 #[F a n c] w λe w'=>∃ v,e = dX v/\w'.ownsRow w.heap.size 3 1 v n (L.map (Value.int .i64))/\ZD w w':=by
 obtain⟨hl,hc⟩:=h;cases a with
 | none=>
  obtain⟨rfl,rfl⟩:=hs.2.2 rfl;have e:L=[]:=aJ.1 hl;subst e;exact (Ct w).mono λe w' ⟨x,y⟩=>⟨_,x,y ▸ World.ownsRow_nil _ _ _ _,y ▸ Below.refl _ _⟩
 | some ad=>
  refine (Fl ad n c (L.map (Value.int .i64)) w hn (by simp[hl]) (ints_oneCell _ _) (λj u z=>?_));have O:j<L.length:=by have:=(cU.1 z).1;simpa using this
  obtain⟨b,off,e,_,ac⟩:=hc (by omega);cases e;rw[cO,ac j O];simpa[O] using z
theorem Gy(O:Addr)(n c:Nat)(z:List Value)(w:World)(hn:n<=8796093022208)(hz:z.length=n*2)(h1:∀ u∈z,u.oneCell'=true)(hc:∀ j u,z[j]? = some u->w.cell? (O.add j)=some u) :
  Calls aB 102 #[F (some O) n c] w λe w'=>∃ v,e = dX v/\w'.ownsRow w.heap.size 122 2 v n z/\ZD w w':=by
 obtain⟨i0,hi,an,ao,ap⟩:=info_parts Tryz.infoOpC;have hb:=Zg w (dW #[] 122);have HC:Hid (∀ j u,z[j]? = some u->(w.alloc (dW #[] 122)).cell? (O.add j)=some u):=λj u hj=>Zc hb (hc j u hj);have HB:=Zb hb;have HZ:=Zb hz;have H1:=Zb h1;have HO:=Zb (Jf w 122 2);have he:=λw=>bQ (P:=aB) w 66 122 (some O) n c 0 0 dR;clear hc hb hz h1;go_enter func102,ntmps102
 go_wp2_with (at_builtin;refine dV _ rfl _ _ 66 rfl w.heap.size 122 i0 (.agg #[E J 0,E J 0]) 2 16 dR hi an ao ap rfl (by decide) _ _ _ rfl HO O n c z rfl HZ HC H1 (by unfold cD;omega) (by omega) HB.size ?_;intro v2 w3 af ae _)
 have HW:Hid (w3.ownsRow w.heap.size 122 2 v2 n z):=by show World.ownsRow _ _ _ _ _ _ _;simpa using af
 have ai:=Zb (HB.grown ae HB.size (Y6 HO));clear af ae;go_wp2;go_ret;exact⟨v2,rfl,Za HW,Za ai⟩
theorem L8{w:World}{base:Nat}{v}{n:Nat}{l}(h:w.ownsRow base 122 2 v n (Vg l)):∃ a c,v = F a n c/\OpsAt w a n l/\SlOk a n c:=by
 have z:l.length=n:=by have:=h.1;rw[Vv] at this;omega
 rcases h.2 with ⟨rfl,rfl⟩|⟨g,cap,ab,rfl,hg,hh,h1,h2,h3,h4⟩
 ·exact⟨none,0,rfl,⟨z,λh=>absurd h (by omega)⟩,⟨aE _,aP _,λ_=>⟨rfl,rfl⟩⟩⟩
 ·refine⟨_,cap,rfl,⟨z,λ_=>⟨g,0,rfl,λi hi=>?_⟩⟩,⟨h1,h2,λe=>by cases e⟩⟩;obtain⟨O,f1⟩:=Gq l i (by omega);rw[Nat.zero_add,bD h _ (by omega),bD h _ (by omega)];exact⟨O,f1⟩
theorem Tq(a)(n c:Nat)(l)(w:World)(hn:n<=8796093022208)(h:OpsAt w a n l)(hs:SlOk a n c) :
  Calls aB 102 #[F a n c] w λe w'=>∃ a' z,e = dX (F a' n z)/\Fresh w.heap.size w' (λw2=>OpsAt w2 a' n l/\SlOk a' n z)/\ZD w w':=by
 obtain⟨O,hc⟩:=h;cases a with
 | none=>
  obtain⟨rfl,rfl⟩:=hs.2.2 rfl;exact (Ld w).mono λe w' ⟨x,y⟩=>⟨none,0,x,λ_ _=>⟨⟨O,λh=>absurd h (by omega)⟩,hs⟩,y ▸ Below.refl _ _⟩
 | some ad=>
  have ae:∀ j u,(Vg l)[j]? = some u->w.cell? (ad.add j)=some u:=λj u hj=>by
   have al:j<l.length*2:=(by rw[<-Vv];exact (cU.1 hj).1);obtain⟨b,off,e,af⟩:=hc (by omega);cases e;rw[cO];exact K7 O af j u hj
  refine (Gy ad n c (Vg l) w hn (by rw[Vv,O]) (Hv l) ae).mono ?_;rintro e w' ⟨v,rfl,x,y⟩;obtain⟨a',z,rfl,h1,h2⟩:=L8 x;refine⟨a',z,rfl,λw2 g2=>?_,y⟩;have x2:=g2.own x (λk hk=>by have:=(x.lt k hk).1;omega);obtain⟨a2,c2,e,h3,h4⟩:=L8 x2;cases e;exact⟨h3,h4⟩
theorem Tryz.infoInC:(Tryz.prog.info? 124).map (λi=>(i.zero,i.size,i.bytes))=some (some (.agg #[E J 0,E J 0,F none 0 0]),3,40):=by kernel_rfl
theorem Zce(w):Calls aB 100 #[F none 0 0] w λe w'=>e = dX (F none 0 0)/\w=w':=by
 have z:=λw=>bQ (P:=aB) w 49 124 none 0 0 0 0 underlying49;go_enter func100,ntmps100;go_wp2;go_ret;exact⟨rfl,rfl⟩
theorem G0(O:Addr)(n c:Nat)(z:List Value)(w:World)(hn:n<=3518437208883)(hz:z.length=n*3)(h1:∀ u∈z,u.oneCell'=true)(hc:∀ j u,z[j]? = some u->w.cell? (O.add j)=some u) :
  Calls aB 100 #[F (some O) n c] w λe w'=>∃ v,e = dX v/\w'.ownsRow w.heap.size 124 3 v n z/\ZD w w':=by
 obtain⟨i0,hi,an,ao,ap⟩:=info_parts Tryz.infoInC;have hb:=Zg w (dW #[] 124);have HC:Hid (∀ j u,z[j]? = some u->(w.alloc (dW #[] 124)).cell? (O.add j)=some u):=λj u hj=>Zc hb (hc j u hj);have HB:=Zb hb;have HZ:=Zb hz;have H1:=Zb h1;have HO:=Zb (Jf w 124 3);have he:=λw=>bQ (P:=aB) w 49 124 (some O) n c 0 0 underlying49;clear hc hb hz h1;go_enter func100,ntmps100
 go_wp2_with (at_builtin;refine dV _ rfl _ _ 49 rfl w.heap.size 124 i0 (.agg #[E J 0,E J 0,F none 0 0]) 3 40 underlying49 hi an ao ap rfl (by decide) _ _ _ rfl HO O n c z rfl HZ HC H1 (by unfold cD;omega) (by omega) HB.size ?_;intro v2 w3 af ae _)
 have HW:Hid (w3.ownsRow w.heap.size 124 3 v2 n z):=by show World.ownsRow _ _ _ _ _ _ _;simpa using af
 have ai:=Zb (HB.grown ae HB.size (Y6 HO));clear af ae;go_wp2;go_ret;exact⟨v2,rfl,Za HW,Za ai⟩
theorem Zcf(a)(n c:Nat)(L)(w0 w:World)(hn:n<=3518437208883)(h:RowsAt inR.R 3 w0 a n L)(hb:ZD w0 w)(hs:SlOk a n c) :
  Calls aB 100 #[F a n c] w λe w'=>∃ v,∃ K:List (List Value),e = dX v/\AllC inR w0 K L/\w'.ownsRow w.heap.size 124 3 v n K.flatten/\ZD w w':=by
 obtain⟨O,hc⟩:=h;cases a with
 | none=>
  obtain⟨rfl,rfl⟩:=hs.2.2 rfl;have e:L=[]:=aJ.1 O;subst e;exact (Zce w).mono λe w' ⟨x,y⟩=>⟨_,[],x,⟨rfl,λi h=>absurd h (by simp)⟩,y ▸ World.ownsRow_nil _ _ _ _,y ▸ Below.refl _ _⟩
 | some ad=>
  by_cases h0:n=0
  ·subst h0;have e:L=[]:=aJ.1 O;subst e;exact (G0 ad 0 c [] w hn rfl (λu hu=>by cases hu) (λj u z=>by simp at z)).mono λe w' ⟨v,x,y,aj⟩=>⟨v,[],x,⟨rfl,λi h=>absurd h (by simp)⟩,y,aj⟩
  ·obtain⟨b,off,e,_,af⟩:=hc (by omega);obtain⟨rfl⟩:=e;obtain⟨K,h1,h3⟩:=Qx inR af;have hk:K.flatten.length=n*3:=(by rw[Vf h1,O];rfl);exact (G0 ⟨b,off,none⟩ n c K.flatten w hn hk (J4 h1) (λj u z=>by rw[cO];exact Zc hb (h3 j u z))).mono λe w' ⟨v,x,y,aj⟩=>⟨v,K,x,h1,y,aj⟩
theorem Tryz.infoOutC:(Tryz.prog.info? 101).map (λi=>(i.zero,i.size,i.bytes))=some (some (.agg #[E J 0,F none 0 0]),2,32):=by kernel_rfl
theorem Cr(w):Calls aB 101 #[F none 0 0] w λe w'=>e = dX (F none 0 0)/\w=w':=by
 have z:=λw=>bQ (P:=aB) w 50 101 none 0 0 0 0 underlying50;go_enter func101,ntmps101;go_wp2;go_ret;exact⟨rfl,rfl⟩
theorem Sw(O:Addr)(n c:Nat)(z:List Value)(w:World)(hn:n<=4398046511104)(hz:z.length=n*2)(h1:∀ u∈z,u.oneCell'=true)(hc:∀ j u,z[j]? = some u->w.cell? (O.add j)=some u) :
  Calls aB 101 #[F (some O) n c] w λe w'=>∃ v,e = dX v/\w'.ownsRow w.heap.size 101 2 v n z/\ZD w w':=by
 obtain⟨i0,hi,an,ao,ap⟩:=info_parts Tryz.infoOutC;have hb:=Zg w (dW #[] 101);have HC:Hid (∀ j u,z[j]? = some u->(w.alloc (dW #[] 101)).cell? (O.add j)=some u):=λj u hj=>Zc hb (hc j u hj);have HB:=Zb hb;have HZ:=Zb hz;have H1:=Zb h1;have HO:=Zb (Jf w 101 2);have he:=λw=>bQ (P:=aB) w 50 101 (some O) n c 0 0 underlying50;clear hc hb hz h1;go_enter func101,ntmps101
 go_wp2_with (at_builtin;refine dV _ rfl _ _ 50 rfl w.heap.size 101 i0 (.agg #[E J 0,F none 0 0]) 2 32 underlying50 hi an ao ap rfl (by decide) _ _ _ rfl HO O n c z rfl HZ HC H1 (by unfold cD;omega) (by omega) HB.size ?_;intro v2 w3 af ae _)
 have HW:Hid (w3.ownsRow w.heap.size 101 2 v2 n z):=by show World.ownsRow _ _ _ _ _ _ _;simpa using af
 have ai:=Zb (HB.grown ae HB.size (Y6 HO));clear af ae;go_wp2;go_ret;exact⟨v2,rfl,Za HW,Za ai⟩
theorem Cs(a)(n c:Nat)(L)(w0 w:World)(hn:n<=4398046511104)(h:RowsAt outR.R 2 w0 a n L)(hb:ZD w0 w)(hs:SlOk a n c) :
  Calls aB 101 #[F a n c] w λe w'=>∃ v,∃ K:List (List Value),e = dX v/\AllC outR w0 K L/\w'.ownsRow w.heap.size 101 2 v n K.flatten/\ZD w w':=by
 obtain⟨O,hc⟩:=h;cases a with
 | none=>
  obtain⟨rfl,rfl⟩:=hs.2.2 rfl;have e:L=[]:=aJ.1 O;subst e;exact (Cr w).mono λe w' ⟨x,y⟩=>⟨_,[],x,⟨rfl,λi h=>absurd h (by simp)⟩,y ▸ World.ownsRow_nil _ _ _ _,y ▸ Below.refl _ _⟩
 | some ad=>
  by_cases h0:n=0
  ·subst h0;have e:L=[]:=aJ.1 O;subst e;exact (Sw ad 0 c [] w hn rfl (λu hu=>by cases hu) (λj u z=>by simp at z)).mono λe w' ⟨v,x,y,aj⟩=>⟨v,[],x,⟨rfl,λi h=>absurd h (by simp)⟩,y,aj⟩
  ·obtain⟨b,off,e,_,af⟩:=hc (by omega);obtain⟨rfl⟩:=e;obtain⟨K,h1,h3⟩:=Qx outR af;have hk:K.flatten.length=n*2:=(by rw[Vf h1,O];rfl);exact (Sw ⟨b,off,none⟩ n c K.flatten w hn hk (J4 h1) (λj u z=>by rw[cO];exact Zc hb (h3 j u z))).mono λe w' ⟨v,x,y,aj⟩=>⟨v,K,x,h1,y,aj⟩
theorem Tryz.infoTxC:(Tryz.prog.info? 52).map (λi=>(i.zero,i.size,i.bytes))=some (some (.agg #[E J 0,F none 0 0,F none 0 0]),3,56):=by kernel_rfl
theorem Zcc(w):Calls aB 64 #[F none 0 0] w λe w'=>e = dX (F none 0 0)/\w=w':=by
 have z:=λw=>bQ (P:=aB) w 48 52 none 0 0 0 0 underlying48;go_enter func64,ntmps64;go_wp2;go_ret;exact⟨rfl,rfl⟩
theorem Gx(O:Addr)(n c:Nat)(z:List Value)(w:World)(hn:n<=2513169434916)(hz:z.length=n*3)(h1:∀ u∈z,u.oneCell'=true)(hc:∀ j u,z[j]? = some u->w.cell? (O.add j)=some u) :
  Calls aB 64 #[F (some O) n c] w λe w'=>∃ v,e = dX v/\w'.ownsRow w.heap.size 52 3 v n z/\ZD w w':=by
 obtain⟨i0,hi,an,ao,ap⟩:=info_parts Tryz.infoTxC;have hb:=Zg w (dW #[] 52);have HC:Hid (∀ j u,z[j]? = some u->(w.alloc (dW #[] 52)).cell? (O.add j)=some u):=λj u hj=>Zc hb (hc j u hj);have HB:=Zb hb;have HZ:=Zb hz;have H1:=Zb h1;have HO:=Zb (Jf w 52 3);have he:=λw=>bQ (P:=aB) w 48 52 (some O) n c 0 0 underlying48;clear hc hb hz h1;go_enter func64,ntmps64
 go_wp2_with (at_builtin;refine dV _ rfl _ _ 48 rfl w.heap.size 52 i0 (.agg #[E J 0,F none 0 0,F none 0 0]) 3 56 underlying48 hi an ao ap rfl (by decide) _ _ _ rfl HO O n c z rfl HZ HC H1 (by unfold cD;omega) (by omega) HB.size ?_;intro v2 w3 af ae _)
 have HW:Hid (w3.ownsRow w.heap.size 52 3 v2 n z):=by show World.ownsRow _ _ _ _ _ _ _;simpa using af
 have ai:=Zb (HB.grown ae HB.size (Y6 HO));clear af ae;go_wp2;go_ret;exact⟨v2,rfl,Za HW,Za ai⟩
theorem Zcd(a)(n c:Nat)(L)(w0 w:World)(hn:n<=2513169434916)(h:RowsAt txR.R 3 w0 a n L)(hb:ZD w0 w)(hs:SlOk a n c) :
  Calls aB 64 #[F a n c] w λe w'=>∃ v,∃ K:List (List Value),e = dX v/\AllC txR w0 K L/\w'.ownsRow w.heap.size 52 3 v n K.flatten/\ZD w w':=by
 obtain⟨O,hc⟩:=h;cases a with
 | none=>
  obtain⟨rfl,rfl⟩:=hs.2.2 rfl;have e:L=[]:=aJ.1 O;subst e;exact (Zcc w).mono λe w' ⟨x,y⟩=>⟨_,[],x,⟨rfl,λi h=>absurd h (by simp)⟩,y ▸ World.ownsRow_nil _ _ _ _,y ▸ Below.refl _ _⟩
 | some ad=>
  by_cases h0:n=0
  ·subst h0;have e:L=[]:=aJ.1 O;subst e;exact (Gx ad 0 c [] w hn rfl (λu hu=>by cases hu) (λj u z=>by simp at z)).mono λe w' ⟨v,x,y,aj⟩=>⟨v,[],x,⟨rfl,λi h=>absurd h (by simp)⟩,y,aj⟩
  ·obtain⟨b,off,e,_,af⟩:=hc (by omega);obtain⟨rfl⟩:=e;obtain⟨K,h1,h3⟩:=Qx txR af;have hk:K.flatten.length=n*3:=(by rw[Vf h1,O];rfl);exact (Gx ⟨b,off,none⟩ n c K.flatten w hn hk (J4 h1) (λj u z=>by rw[cO];exact Zc hb (h3 j u z))).mono λe w' ⟨v,x,y,aj⟩=>⟨v,K,x,h1,y,aj⟩
theorem Tryz.infoBlkC:(Tryz.prog.info? 68).map (λi=>(i.zero,i.size,i.bytes))=some (some (.agg #[E J 0,E J 0,E J 0,E J 0,F none 0 0]),5,56):=by kernel_rfl
theorem Cv(w):Calls aB 130 #[F none 0 0] w λe w'=>e = dX (F none 0 0)/\w=w':=by
 have z:=λw=>bQ (P:=aB) w 26 68 none 0 0 0 0 underlying26;go_enter func130,ntmps130;go_wp2;go_ret;exact⟨rfl,rfl⟩
theorem Sz(O:Addr)(n c:Nat)(z:List Value)(w:World)(hn:n<=2513169434916)(hz:z.length=n*5)(h1:∀ u∈z,u.oneCell'=true)(hc:∀ j u,z[j]? = some u->w.cell? (O.add j)=some u) :
  Calls aB 130 #[F (some O) n c] w λe w'=>∃ v,e = dX v/\w'.ownsRow w.heap.size 68 5 v n z/\ZD w w':=by
 obtain⟨i0,hi,an,ao,ap⟩:=info_parts Tryz.infoBlkC;have hb:=Zg w (dW #[] 68);have HC:Hid (∀ j u,z[j]? = some u->(w.alloc (dW #[] 68)).cell? (O.add j)=some u):=λj u hj=>Zc hb (hc j u hj);have HB:=Zb hb;have HZ:=Zb hz;have H1:=Zb h1;have HO:=Zb (Jf w 68 5);have he:=λw=>bQ (P:=aB) w 26 68 (some O) n c 0 0 underlying26;clear hc hb hz h1;go_enter func130,ntmps130
 go_wp2_with (at_builtin;refine dV _ rfl _ _ 26 rfl w.heap.size 68 i0 (.agg #[E J 0,E J 0,E J 0,E J 0,F none 0 0]) 5 56 underlying26 hi an ao ap rfl (by decide) _ _ _ rfl HO O n c z rfl HZ HC H1 (by unfold cD;omega) (by omega) HB.size ?_;intro v2 w3 af ae _)
 have HW:Hid (w3.ownsRow w.heap.size 68 5 v2 n z):=by show World.ownsRow _ _ _ _ _ _ _;simpa using af
 have ai:=Zb (HB.grown ae HB.size (Y6 HO));clear af ae;go_wp2;go_ret;exact⟨v2,rfl,Za HW,Za ai⟩
theorem Cw(a)(n c:Nat)(L)(w0 w:World)(hn:n<=2513169434916)(h:RowsAt blkR.R 5 w0 a n L)(hb:ZD w0 w)(hs:SlOk a n c) :
  Calls aB 130 #[F a n c] w λe w'=>∃ v,∃ K:List (List Value),e = dX v/\AllC blkR w0 K L/\w'.ownsRow w.heap.size 68 5 v n K.flatten/\ZD w w':=by
 obtain⟨O,hc⟩:=h;cases a with
 | none=>
  obtain⟨rfl,rfl⟩:=hs.2.2 rfl;have e:L=[]:=aJ.1 O;subst e;exact (Cv w).mono λe w' ⟨x,y⟩=>⟨_,[],x,⟨rfl,λi h=>absurd h (by simp)⟩,y ▸ World.ownsRow_nil _ _ _ _,y ▸ Below.refl _ _⟩
 | some ad=>
  by_cases h0:n=0
  ·subst h0;have e:L=[]:=aJ.1 O;subst e;exact (Sz ad 0 c [] w hn rfl (λu hu=>by cases hu) (λj u z=>by simp at z)).mono λe w' ⟨v,x,y,aj⟩=>⟨v,[],x,⟨rfl,λi h=>absurd h (by simp)⟩,y,aj⟩
  ·obtain⟨b,off,e,_,af⟩:=hc (by omega);obtain⟨rfl⟩:=e;obtain⟨K,h1,h3⟩:=Qx blkR af;have hk:K.flatten.length=n*5:=(by rw[Vf h1,O];rfl);exact (Sz ⟨b,off,none⟩ n c K.flatten w hn hk (J4 h1) (λj u z=>by rw[cO];exact Zc hb (h3 j u z))).mono λe w' ⟨v,x,y,aj⟩=>⟨v,K,x,h1,y,aj⟩
def Wid(sz:Nat)(K:List (List Value)):Prop:=∀ c∈K,c.length=sz
theorem AllC.wid{α : Type}{Z:Rec α}{w K}{L:List α}(h:AllC Z w K L):Wid Z.sz K:=by
 intro c z;obtain⟨i,hi,rfl⟩:=List.getElem_of_mem z;exact Z.wide _ _ _ (h.2 i (by rw[<-h.1];exact hi) hi)
theorem Zjk{sz:Nat}:∀ {K:List (List Value)} (_:Wid sz K) (k:Nat) (h:k<K.length) (j:Nat) (_:j<sz),K.flatten[k*sz+j]? = (K[k])[j]?
 | [],_,_,h,_,_=>absurd h (by simp)
 | c :: K,hw,0,_,j,hj=>by
  have h2:=hw c (by simp);rw[List.flatten_cons,List.getElem?_append_left (by omega)];simp
 | c :: K,hw,k+1,h,j,hj=>by
  have h2:=hw c (by simp);rw[List.flatten_cons,List.getElem?_append_right (by rw[h2,Nat.succ_mul];omega),h2];rw[show (k+1)*sz+j - sz=k*sz+j by rw[Nat.succ_mul];omega];rw[Zjk (λc z=>hw c (by simp[z])) k (by simpa using h) j hj];simp
theorem Wo{sz:Nat}:∀ {K:List (List Value)} (_:Wid sz K) (k:Nat) (h:k<K.length) (j:Nat) (_:j<sz) (u:Value),K.flatten.set (k*sz+j) u=(K.set k ((K[k]).set j u)).flatten
 | [],_,_,h,_,_,_=>absurd h (by simp)
 | c :: K,hw,0,_,j,hj,u=>by
  have h2:=hw c (by simp);rw[List.flatten_cons,Nat.zero_mul,Nat.zero_add,List.set_append_left _ _ (by omega)];simp
 | c :: K,hw,k+1,h,j,hj,u=>by
  have h2:=hw c (by simp);rw[List.flatten_cons,List.set_append_right _ _ (by rw[h2,Nat.succ_mul];omega),h2];rw[show (k+1)*sz+j - sz=k*sz+j by rw[Nat.succ_mul];omega];rw[Wo (λc z=>hw c (by simp[z])) k (by simpa using h) j hj u];simp
theorem Jb{sz:Nat}{K:List (List Value)}(O:Wid sz K)(k:Nat){c:List Value}(z:c.length=sz):Wid sz (K.set k c):=by
 intro x hx
 rcases List.mem_or_eq_of_mem_set hx with q|rfl
 ·exact O x q
 ·exact z
structure Cl{α : Type}(Z:Rec α)(e:TypeId)(B G:Nat)(w0 wr:World)(v:Value)(n:Nat)(K:List (List Value))(L:List α)(k:Nat):Prop where
 own:wr.ownsRow B e Z.sz v n K.flatten
 wid:Wid Z.sz K
 len:K.length=L.length
 ln:L.length=n
 gt:∀ q,v.ownBlock=some q->q<G
 new:∀ i (h:i<L.length) (h':i<K.length),i<k->Fresh G wr (λw2=>Z.C w2 K[i] L[i])
 old:∀ i (h:i<L.length) (h':i<K.length),k<=i->Z.C w0 K[i] L[i]
section
variable {α : Type} {Z : Rec α} {e : TypeId} {B G : Nat} {w0 wr w' : World} {v : Value} {n : Nat} {K : List (List Value)} {L : List α} {k : Nat}
theorem Cl.start(h:wr.ownsRow B e Z.sz v n K.flatten)(z:AllC Z w0 K L)(hn:L.length=n)(O:wr.heap.size<=G):Cl Z e B G w0 wr v n K L 0:=
 ⟨h,z.wid,z.1,hn,λq hq=>aI (h.lt q hq).2 O,λ_ _ _ h=>absurd h (by omega),λi h h' _=>z.2 i h h'⟩
theorem Cl.gr{S:Nat->Prop}(h:Cl Z e B G w0 wr v n K L k)(g:Gr wr w' S)(O:∀ q,S q->q<G)(hv:∀ q,v.ownBlock=some q->¬S q):Cl Z e B G w0 w' v n K L k:=
 ⟨g.own h.own hv,h.wid,h.len,h.ln,h.gt,λi a b c=>(h.new i a b c).on (g.mono λq _ z=>O q z),h.old⟩
theorem Cl.keep(h:Cl Z e B G w0 wr v n K L k)(z:ZD wr w'):Cl Z e B G w0 w' v n K L k:=
 h.gr (S:=λ_=>False) (Gr.of z) (λ_ q=>q.elim) (λ_ _ q=>q)
theorem Cl.form(h:Cl Z e B G w0 wr v n K L k)(hn:0<n):∃ g cap,v = F (some ⟨g,0,none⟩) n cap/\B<=g/\g<G/\g<wr.heap.size:=by
 rcases h.own.2 with ⟨_,h0⟩|⟨g,cap,aa,rfl,z,O,_⟩
 ·omega
 ·exact⟨g,cap,rfl,z,h.gt g rfl,aA O⟩
theorem Cl.cell{g cap:Nat}(h:Cl Z e B G w0 wr (F (some ⟨g,0,none⟩) n cap) n K L k)(i:Nat)(hi:i<K.length)(j:Nat)(z:j<Z.sz):wr.cell? ⟨g,i*Z.sz+j,none⟩=(K[i])[j]?:=by
 have O:i<n:=by rw[<-h.ln,<-h.len];exact hi
 have:(i+1)*Z.sz<=n*Z.sz:=Nat.mul_le_mul_right _ (by omega);rw[Nat.succ_mul] at this;rw[bD h.own _ (by omega),Zjk h.wid i hi j z]
theorem Cl.free{g cap:Nat}(h:Cl Z e B G w0 wr (F (some ⟨g,0,none⟩) n cap) n K L k)(j:Nat):wr.frozen? ⟨g,j,none⟩=false:=h.own.frozenAt j
theorem Cl.step{g cap:Nat}(h:Cl Z e B G w0 wr (F (some ⟨g,0,none⟩) n cap) n K L k)(hk:k<L.length){cs}(z:Fresh G wr (λw2=>Z.C w2 cs L[k]))(hg:Gr wr w' (λq=>q=g))(ho:w'.ownsRow B e Z.sz (F (some ⟨g,0,none⟩) n cap) n (K.set k cs).flatten):Cl Z e B G w0 w' (F (some ⟨g,0,none⟩) n cap) n (K.set k cs) L (k+1):=by
 have ad:=h.gt g rfl;have hw:=Z.wide _ _ _ z.now;have O:Gr wr w' (λq=>q<G):=hg.mono λq _ e=>by omega
 refine⟨ho,Jb h.wid k hw,by rw[dB];exact h.len,h.ln,h.gt,λi a b c=>?_,λi a b c=>?_⟩
 ·by_cases e:i=k
  ·subst e;rw[dH];exact z.on O
  ·rw[List.getElem_set_ne (by omega)];exact (h.new i a (by simpa using b) (by omega)).on O
 ·rw[List.getElem_set_ne (by omega)];exact h.old i a (by simpa using b) (by omega)
theorem Cl.done(h:Cl Z e B G w0 wr v n K L n):Fresh G wr (λw2=>AllC Z w2 K L):=λw2 g2=>
 ⟨h.len,λi a b=>h.new i a b (by rw[<-h.ln];exact a) w2 g2⟩
theorem Cl.rows(h:Cl Z e B G w0 wr v n K L n)(hB:B<=G):∃ a c,v = F a n c/\Fresh B wr (λw2=>RowsAt Z.R Z.sz w2 a n L/\SlOk a n c):=by
 obtain⟨a,c,rfl,_,_⟩:=rows_of_own Z h.own h.done.now h.ln;refine⟨a,c,rfl,λw2 g2=>?_⟩;have O:=g2.own h.own (λq z=>by have:=(h.own.lt q z).1;omega);obtain⟨a',c',e,h1,h2⟩:=rows_of_own Z O (h.done w2 (g2.mono λq _ z=>by omega)) h.ln;cases e;exact⟨h1,h2⟩
end
theorem set_cells{w:World}{b:Nat}{X:List Value}{t:TypeId}(h:w.heap[b]? = some (dW X.toArray t (0,0)))(j:Nat)(u):(w.setCell ⟨b,j,none⟩ u).heap[b]? = some (dW (X.set j u).toArray t (0,0)):=by
 rw[setCell_eq_setRow w b j X.toArray t (0,0) u h];have:=setRow_heap w b _ (X.toArray.setIfInBounds j u) t _ h;simpa using this
theorem len1{c:List Value}(h:c.length=2):∃ x y,c=[x,y]:=by
 match c,h with
 | [x,y],_=>exact⟨x,y,rfl⟩
theorem len3{c:List Value}(h:c.length=3):∃ x y z,c=[x,y,z]:=by
 match c,h with
 | [x,y,z],_=>exact⟨x,y,z,rfl⟩
theorem len5{c:List Value}(h:c.length=5):∃ x y z r s,c=[x,y,z,r,s]:=by
 match c,h with
 | [x,y,z,r,s],_=>exact⟨x,y,z,r,s,rfl⟩
theorem put2{K:List (List Value)}(z:Wid 2 K)(k:Nat)(h:k<K.length)(a b):((K.flatten.set (k*2) a).set (k*2+1) b)=(K.set k [a,b]).flatten:=by
 obtain⟨x,y,e⟩:=len1 (z _ (bK h));have h1:=Wo z k h 0 (by decide) a;rw[Nat.add_zero] at h1;rw[h1,Wo (Jb z k (by rw[dB,e];rfl)) k (by rw[dB];exact h) 1 (by decide) b,dH,List.set_set,e];rfl
theorem put3{K:List (List Value)}(z:Wid 3 K)(k:Nat)(h:k<K.length)(a b c):(((K.flatten.set (k*3) a).set (k*3+1) b).set (k*3+2) c)=(K.set k [a,b,c]).flatten:=by
 obtain⟨x,y,aa,e⟩:=len3 (z _ (bK h));have h1:=Wo z k h 0 (by decide) a;rw[Nat.add_zero] at h1;rw[h1,Wo (Jb z k (by rw[dB,e];rfl)) k (by rw[dB];exact h) 1 (by decide) b,dH,List.set_set,e];rw[Wo (Jb z k rfl) k (by rw[dB];exact h) 2 (by decide) c,dH,List.set_set];rfl
theorem put5{K:List (List Value)}(z:Wid 5 K)(k:Nat)(h:k<K.length)(a b c d f):(((((K.flatten.set (k*5) a).set (k*5+1) b).set (k*5+2) c).set (k*5+3) d).set (k*5+4) f)=(K.set k [a,b,c,d,f]).flatten:=by
 obtain⟨x,y,aa,r,s,e⟩:=len5 (z _ (bK h));have h1:=Wo z k h 0 (by decide) a;rw[Nat.add_zero] at h1;rw[h1,Wo (Jb z k (by rw[dB,e];rfl)) k (by rw[dB];exact h) 1 (by decide) b,dH,List.set_set,e];rw[Wo (Jb z k rfl) k (by rw[dB];exact h) 2 (by decide) c,dH,List.set_set];rw[Wo (Jb z k rfl) k (by rw[dB];exact h) 3 (by decide) d,dH,List.set_set];rw[Wo (Jb z k rfl) k (by rw[dB];exact h) 4 (by decide) f,dH,List.set_set];rfl
theorem Nh(x:Int)(a)(n c:Nat)(l)(w:World)(hn:n<=8796093022208)(h:OpsAt w a n l)(hs:SlOk a n c) :
  Calls aB 103 #[.agg #[E J x,F a n c]] w λe w'=>∃ a' z,e = dX (.agg #[E J x,F a' n z])/\Fresh w.heap.size w' (λw2=>OpsAt w2 a' n l/\SlOk a' n z)/\ZD w w':=by
 obtain⟨X,hX⟩:=ZG ((w.alloc (dW #[E J x,F a n c] 101)).alloc (dW #[E J 0,F none 0 0] 101));have ad:ZD w X:=by rw[hX];exact Ze (Zg _ _) (Zg _ _)
 have x0:X.cell? ⟨w.heap.size,0,none⟩=some (E J x):=by rw[hX];exact Zc (Zg _ _) (Yo w _ _ _).1
 have x1:X.cell? ⟨w.heap.size,1,none⟩=some (F a n c):=by rw[hX];exact Zc (Zg _ _) (Yo w _ _ _).2
 have ag:X.heap[w.heap.size+1]? = some (dW [E J 0,F none 0 0].toArray 101 (0,0)):=by
  rw[hX];have:=two_heap (w.alloc (dW #[E J x,F a n c] 101)) (E J 0) (F none 0 0) 101;rw[show (w.alloc (dW #[E J x,F a n c] 101)).heap.size=w.heap.size+1 by simp] at this;exact this
 have C:=Zb (Tq a n c l X.drew hn (h.later (Ze ad (Zh X))) hs);have ae:=Zb ag;have aj:=Zb ad;clear h hs ad ag;go_enter func103,ntmps103;go_wp2_with fail;rw[<-hX];clear hX
 go_region_with (go_at_call 102;refine C.mono ?_;rintro e w3 ⟨a',z,rfl,ac,O⟩;have o2:w3.cell? ⟨w.heap.size,0,none⟩=some (E J x):=Zc O (Zc (Zh _) x0);have ab:=ZE O ae;have c0:=Zd ab 0 _ rfl;have c1:=Zd ab 1 _ rfl;have f0:=Zi ab 0;have f1:=Zi ab 1;have H3:Hid (Fresh X.drew.heap.size w3 (λw2=>OpsAt w2 a' n l/\SlOk a' n z)/\Below X.drew.heap.size X.drew w3):=⟨ac,O⟩;clear ac O ab)
 all_goals
  go_wp2;(try simp only[Exit.inBlock,Exit.then]);obtain⟨ac,O⟩:=Za H3;have hG:=((Gr.refl w3 (λq=>q=w.heap.size+1)).one (w.heap.size+1) 0 (.inl rfl) (E J x)).one (w.heap.size+1) 1 (.inl rfl) (F a' n z);have ap:w.heap.size+1<X.drew.heap.size:=aA ae;refine aR (v:=.agg #[E J x,F a' n z]) ?_ rfl ⟨a',z,rfl,(ac.on (hG.mono λq _ e=>by omega)).less (by omega),?_⟩
  ·rw[Xb rfl];go_simp
  ·have aq:=O.size;exact hG.below (Ze (Ze aj (Zh _)) O) (by omega) (λk hk=>by omega)
theorem Xl{w:World}{B B':Nat}{e z:TypeId}{sz af n n':Nat}{v O:Value}{xs ag}(h:w.ownsRow B e sz v n xs)(h':w.ownsRow B' z af O n' ag)(hn:e≠z)(q:Nat)(hq:v.ownBlock=some q):O.ownBlock≠some q:=by
 intro ad;obtain⟨c,f,h1⟩:=Lib.ownsRow_kind h q hq;obtain⟨c',f',h2⟩:=Lib.ownsRow_kind h' q ad;rw[h1] at h2;injection h2 with h2;injection h2 with _ h2;exact hn h2
theorem Zou{G B aa:Nat}{w0 wr w5:World}{g cap n k:Nat}{K:List (List Value)}{I:List InD}{x:InD}{a z m c O}(h:Cl inR 124 B G w0 wr (F (some ⟨g,0,none⟩) n cap) n K I k)(hk:k<I.length)(af:k<K.length)(hx:I[k]=x)(e:K[k]=[E J x.1,E J x.2.1,F a m c])(hb:ZD wr w5)(hf:Fresh aa w5 (λw2=>OpsAt w2 z m x.2.2/\SlOk z m O))(hG:G<=aa) :
  Cl inR 124 B G w0 (w5.setCell ⟨g,k*3+2,none⟩ (F z m O)) (F (some ⟨g,0,none⟩) n cap) n (K.set k [E J x.1,E J x.2.1,F z m O]) I (k+1):=by
 have h5:=h.keep hb;refine h5.step hk ?_ ((Gr.refl w5 (λq=>q=g)).one g (k*3+2) (.inl rfl) _) ?_
 ·rw[hx];exact (hf.less hG).imp λw2 q=>⟨z,m,O,rfl,q.1,q.2⟩
 ·have h1:=(h5.own.stored (k*3+2) (F z m O)).1;have h2:=Wo (sz:=3) h5.wid k af 2 (by decide) (F z m O);rw[e] at h2;rw[h2] at h1;exact h1
theorem Zlf{G B ab:Nat}{w0 wr w5:World}{g cap n k:Nat}{K:List (List Value)}{ai:List Ya}{x:Ya}{z m O}(h:Cl outR 101 B G w0 wr (F (some ⟨g,0,none⟩) n cap) n K ai k)(hk:k<ai.length)(ag:k<K.length)(hx:ai[k]=x)(hb:ZD wr w5)(hf:Fresh ab w5 (λw2=>OpsAt w2 z m x.2/\SlOk z m O))(hG:G<=ab) :
  Cl outR 101 B G w0 ((w5.setCell ⟨g,k*2,none⟩ (E J x.1)).setCell ⟨g,k*2+1,none⟩ (F z m O)) (F (some ⟨g,0,none⟩) n cap) n (K.set k [E J x.1,F z m O]) ai (k+1):=by
 have h5:=h.keep hb;refine h5.step hk ?_ (((Gr.refl w5 (λq=>q=g)).one g (k*2) (.inl rfl) _).one g (k*2+1) (.inl rfl) _) ?_
 ·rw[hx];exact (hf.less hG).imp λw2 q=>⟨z,m,O,rfl,q.1,q.2⟩
 ·have h1:=((h5.own.stored (k*2) (E J x.1)).1.stored (k*2+1) (F z m O)).1;rw[put2 h5.wid k ag] at h1;exact h1
def Zpv(w:World)(h:Int)(I:List InD)(ad:List Ya)(ni no:Nat)(v1 v2:Value)(z:World):Prop:=
 ∃ O K2,AllC inR w O I/\AllC outR w K2 ad/\z.ownsRow (w.heap.size+2) 124 3 v1 ni O.flatten/\z.ownsRow (w.heap.size+2) 101 2 v2 no K2.flatten /\
  z.heap[w.heap.size]? = some (dW [E J h,v1,v2].toArray 52 (0,0))/\z.heap[w.heap.size+1]? = some (dW [E J 0,F none 0 0,F none 0 0].toArray 52 (0,0))/\ZD w z
theorem Zby{w W wx:World}{h:Int}{I ak}{ni no:Nat}{v1 v2}{K1 K2:List (List Value)}(h1:AllC inR w K1 I)(h2:AllC outR w K2 ak)(o1:W.ownsRow (w.heap.size+2) 124 3 v1 ni K1.flatten)(o2:W.ownsRow (w.heap.size+2) 101 2 v2 no K2.flatten)(hb:ZD w W)
  (hz:W.heap[w.heap.size+1]? = some (dW [E J 0,F none 0 0,F none 0 0].toArray 52 (0,0))) (z:Gr W wx (λq=>q=w.heap.size)) (hx:wx.heap[w.heap.size]? = some (dW [E J h,v1,v2].toArray 52 (0,0))):Zpv w h I ak ni no v1 v2 wx:=
 ⟨K1,K2,h1,h2,z.own o1 (λk O=>by have:=(o1.lt k O).1;omega),z.own o2 (λk O=>by have:=(o2.lt k O).1;omega),hx,z.heap hz (by omega),z.below hb (by have:=aA hz;omega) (λk O=>by omega)⟩
theorem Zpk(h:Int)(gu ao O ci no co I gs)(w:World)(hI:InsAt w gu O I)(hO:OutsAt w ao no gs)(sI:SlOk gu O ci)(sO:SlOk ao no co)(ez:O<=3518437208883)(fa:no<=4398046511104)(hk:∀ x∈I,x.2.2.length<=8796093022208)(hl:∀ x∈gs,x.2.length<=8796093022208) :
  Calls aB 56 #[.agg #[E J h,F gu O ci,F ao no co]] w λe w'=>∃ a1 c1 a2 c2,e = dX (.agg #[E J h,F a1 O c1,F a2 no c2])/\Fresh w.heap.size w' (λw2=>txR.C w2 [E J h,F a1 O c1,F a2 no c2] (h,I,gs))/\ZD w w':=by
 obtain⟨X,hX⟩:=ZG ((w.alloc (dW #[E J h,F gu O ci,F ao no co] 52)).alloc (dW #[E J 0,F none 0 0,F none 0 0] 52));have cy:ZD w X:=by rw[hX];exact Ze (Zg _ _) (Zg _ _)
 have bq:X.heap[w.heap.size]? = some (dW [E J h,F gu O ci,F ao no co].toArray 52 (0,0)):=by
  rw[hX,Below.heap_alloc _ _ _ (by simp)];exact Zs _ _ _ _ _
 have dz:X.heap.size=w.heap.size+2:=by rw[hX];simp
 have ai:X.heap[w.heap.size+1]? = some (dW [E J 0,F none 0 0,F none 0 0].toArray 52 (0,0)):=by
  rw[hX];have:=Zs (w.alloc (dW #[E J h,F gu O ci,F ao no co] 52)) (E J 0) (F none 0 0) (F none 0 0) 52;rw[show (w.alloc (dW #[E J h,F gu O ci,F ao no co] 52)).heap.size=w.heap.size+1 by simp] at this;exact this
 have ei:=Zb cy;have ds:=Zb bq;have eo:=Zb ai;have dt:=Zb dz;have el:=Zb hk;have en:=Zb hl;have du:=Zb hI.1;have dv:=Zb hO.1;have C1:=Zb (Zcf gu O ci I w X.drew ez hI (Ze cy (Zh X)) sI);have C2:=Zb (λW (hb:ZD w W)=>Cs ao no co gs w W fa hO hb sO);have x1:=Zd bq 1 _ rfl;have x2:=Zd bq 2 _ rfl;have xl:=aA bq;clear cy bq ai hI hO sI sO hk hl dz;go_enter func56,ntmps56
 go_upto_region 1 with fail
 rw[<-hX];clear hX
 go_cut [9,12] from 7 to 14 (λs9 fg wx=>Hid (Zpv w h I gs O no s9 fg wx))
 case first=>
  go_region_with (first
   | (go_at_call 100;refine C1.mono ?_;rintro e w3 ⟨v1,K1,rfl,hA1,bk,bx⟩;have h30:=ZE bx ds;have d1:=Zd h30 1 _ rfl;have d2:=Zd h30 2 _ rfl;have gw:=aA h30;have dh:=Zb hA1;have dq:Hid (w3.ownsRow (w.heap.size+2) 124 3 v1 O K1.flatten):=Wh bk (Nat.le_of_eq dt.symm);have dl:=Zb (Ze (Ze ei (Zh _)) bx);have dm:=Zb (Ze (Zh X) bx);clear hA1 bk bx h30)
   | (go_at_call 101;refine (C2 _ dl).mono ?_;rintro e w4 ⟨v2,K2,rfl,hA2,bn,bz⟩;have cz:=Ze dm bz;have h40:=ZE cz ds;have h41:=ZE cz eo;have e0:=Zd h40 0 _ rfl;have e1:=Zd h40 1 _ rfl;have e2:=Zd h40 2 _ rfl;have z1:=Zi h40 1;have z2:=Zi h40 2;have gx:=aA h40;have di:=Zb hA2;have cj:Hid (w4.ownsRow (w.heap.size+2) 101 2 v2 no K2.flatten):=Wh bn (by have:=dm.size;have:=Za dt;omega);have dr:=Zb ((Gr.of (S:=λ_=>False) bz).own dq (λ_ _ q=>q));have dn:=Zb (Ze dl bz);have df:=Zb h40;have dg:=Zb h41;obtain⟨a2,c2,rfl,_,_⟩:=Y8 cj;obtain⟨a1,c1,rfl,_,_⟩:=Y8 dq;clear hA2 bn bz cz h40 h41))
  all_goals
   go_wp2_with fail;go_meet
   case rel=>
    first
    | exact Zby (W:=w4) dh di dr cj dn dg (((Gr.refl w4 (λq=>q=w.heap.size)).one w.heap.size 1 (.inl rfl) _).one w.heap.size 2 (.inl rfl) _) (set_cells (set_cells df 1 _) 2 _)
    | exact Zby (W:=w4) dh di dr cj dn dg (((Gr.refl w4 (λq=>q=w.heap.size)).one w.heap.size 2 (.inl rfl) _).one w.heap.size 1 (.inl rfl) _) (set_cells (set_cells df 2 _) 1 _)
 case rest=>
  obtain⟨K1,K2,hA1,hA2,bk,bn,h0,h1,hb⟩:=Za hcut;obtain⟨a1,c1,rfl,_,_⟩:=Y8 bk;obtain⟨a2,c2,rfl,_,_⟩:=Y8 bn;obtain⟨G,hG⟩:=ZF (wc.heap.size);have dy:w.heap.size+2<=G:=by rw[<-hG];exact aA h1
  have ep:Hid (Cl inR 124 (w.heap.size+2) G w wc (F a1 O c1) O K1 I 0):=Cl.start bk hA1 du (Nat.le_of_eq hG);have eq:Hid (Cl outR 101 (w.heap.size+2) G w wc (F a2 no c2) no K2 gs 0):=Cl.start bn hA2 dv (Nat.le_of_eq hG);have H0:=Zb h0;have H1:=Zb h1;have HB:=Zb hb;have ek:Hid (G<=wc.heap.size):=Nat.le_of_eq hG.symm;have er:=Zd h0 1 _ rfl;have cm:=aA h0;clear hcut hA1 hA2 bk bn h0 h1 hb x1 x2 xl hG;go_wp2
  go_loopw [18] (λi wr=>∃ (k:Nat) (K:List (List Value)),k<=O/\i = E J k/\Hid (Cl inR 124 (w.heap.size+2) G w wr (F a1 O c1) O K I k)/\Hid (Cl outR 101 (w.heap.size+2) G w wr (F a2 no c2) no K2 gs 0)/\Hid (wr.heap[w.heap.size]? = some (dW [E J h,F a1 O c1,F a2 no c2].toArray 52 (0,0)))/\Hid (wr.heap[w.heap.size+1]? = some (dW [E J 0,F none 0 0,F none 0 0].toArray 52 (0,0)))/\Hid (ZD w wr)/\Hid (G<=wr.heap.size)) (λi _=>O - (intOf i).toNat)
  case atStart=>exact⟨0,K1,aP _,rfl,ep,eq,H0,H1,HB,ek⟩
  case round=>
   obtain⟨k,K,hk,rfl,ak,ce,au,dj,cd,dp⟩:=hrel;clear er cm;by_cases ew:k<O
   ·have aq:k<I.length:=(by rw[Za du];exact ew);have al:k<K.length:=(by rw[(Za ak).len];exact aq);obtain⟨g,cap,gv,et,eu,bj⟩:=ak.form (by omega);cases gv;obtain⟨a,m,c,eK,ar,br⟩:=ak.old k aq al (aE _);have bf:=el _ (bK aq);obtain⟨x,hx⟩:=ZF (I[k]);rw[hx] at eK ar bf;have r0:=ak.cell k al 0 (by decide);have r1:=ak.cell k al 1 (by decide);have r2:=ak.cell k al 2 (by decide);rw[eK] at r0 r1 r2;have r0:wr.cell? ⟨g,k*3,none⟩=some (E J x.1):=r0;have r1:wr.cell? ⟨g,k*3+1,none⟩=some (E J x.2.1):=r1;have r2:wr.cell? ⟨g,k*3+2,none⟩=some (F a m c):=r2;have hm:m<=8796093022208:=(by rw[<-ar.1];exact bf);obtain⟨X1,ai⟩:=ZG (wr.alloc (dW #[E J x.1,E J x.2.1,F a m c] 124));have ah:ZD wr X1:=(by rw[ai];exact Zg _ _);have ba:X1.heap[wr.heap.size]? = some (dW [E J x.1,E J x.2.1,F a m c].toArray 124 (0,0)):=(by rw[ai];exact Zs _ _ _ _ _);have b2:=Zd ba 2 _ rfl;have bl:=aA ba;have t1:=Zc ah (Zd au 1 _ rfl);have tl:=aI (aA au) ah.size;have cc:=Zb ah;have CO:=Zb (Tq a m c x.2.2 X1.drew hm (ar.later (Ze (Ze cd ah) (Zh _))) br)
    have NX:Hid (∀ w5 z c5,ZD wr w5->Fresh X1.drew.heap.size w5 (λw2=>OpsAt w2 z m x.2.2/\SlOk z m c5) ->
      Hid (Cl inR 124 (w.heap.size+2) G w (w5.setCell ⟨g,k*3+2,none⟩ (F z m c5)) (F (some ⟨g,0,none⟩) O c1) O (K.set k [E J x.1,E J x.2.1,F z m c5]) I (k+1))/\Hid (Cl outR 101 (w.heap.size+2) G w (w5.setCell ⟨g,k*3+2,none⟩ (F z m c5)) (F a2 no c2) no K2 gs 0)/\Hid ((w5.setCell ⟨g,k*3+2,none⟩ (F z m c5)).heap[w.heap.size]? = some (dW [E J h,F (some ⟨g,0,none⟩) O c1,F a2 no c2].toArray 52 (0,0)))/\Hid ((w5.setCell ⟨g,k*3+2,none⟩ (F z m c5)).heap[w.heap.size+1]? = some (dW [E J 0,F none 0 0,F none 0 0].toArray 52 (0,0)))/\Hid (ZD w (w5.setCell ⟨g,k*3+2,none⟩ (F z m c5)))/\Hid (G<=(w5.setCell ⟨g,k*3+2,none⟩ (F z m c5)).heap.size)):=by
     intro w5 z c5 ab ap;have bo:=Za dp;have aj:=(Gr.refl w5 (λq=>q=g)).one g (k*3+2) (.inl rfl) (F z m c5);have dd:=ab.size;refine⟨Zou ak aq al hx eK ab ap (aT bo ah.size),?_,?_,?_,?_,?_⟩
     ·exact (ce.keep ab).gr aj (λq e=>by omega) (λq hq e=>Xl ak.own ce.own (by decide) q (by rw[e];rfl) hq)
     ·exact aj.heap (ZE ab au) (by omega)
     ·exact aj.heap (ZE ab dj) (by omega)
     ·exact aj.below (Ze cd ab) (by have:=aA au;omega) (λq e=>by omega)
     ·exact aT bo (aT dd aj.size)
    have FR:=Zb (λj=>ak.free j);have ev:(k:Int)<(O:Int):=(by omega);clear ar br bf hx eK ah ba;go_wp2_with fail;rw[<-ai];clear ai
    go_region_with (go_at_call 102;refine CO.mono ?_;rintro e w5 ⟨z,c5,rfl,ap,ab⟩;have af:=Ze (Ze cc (Zh _)) ab;have HN:=Zb (NX w5 z c5 af ap);have q1:=Zc ab (Zc (Zh _) t1);have q2:=Zc af r2;have q3:w5.frozen? ⟨g,k*3+2,none⟩=false:=(bX (a:=⟨g,k*3+2,none⟩) (af.block g bj)).trans (FR _);have q4:=aI bj af.size;have q5:=aI (aA au) af.size;clear ap ab af)
    all_goals
     go_wp2;go_roundw
     case rel=>
      obtain⟨f1,f2,f3,f4,f5,f6⟩:=Za HN;exact⟨k+1,_,by omega,by go_num,f1,f2,f3,f4,f5,f6⟩
     case measure=>simp[intOf];omega
   ·have e:k=O:=(by omega);subst e;have es:=Zd au 2 _ rfl;have cm:=aA au;have DN:=ak;go_wp2
    go_loopw [35] (λi w2=>∃ (j:Nat) (Ko:List (List Value)),j<=no/\i = E J j/\Hid (Cl inR 124 (w.heap.size+2) G w w2 (F a1 k c1) k K I k)/\Hid (Cl outR 101 (w.heap.size+2) G w w2 (F a2 no c2) no Ko gs j)/\Hid (w2.heap[w.heap.size]? = some (dW [E J h,F a1 k c1,F a2 no c2].toArray 52 (0,0)))/\Hid (w2.heap[w.heap.size+1]? = some (dW [E J 0,F none 0 0,F none 0 0].toArray 52 (0,0)))/\Hid (ZD w w2)/\Hid (G<=w2.heap.size)) (λi _=>no - (intOf i).toNat)
    case atStart=>exact⟨0,K2,aP _,rfl,DN,ce,au,dj,cd,dp⟩
    case round=>
     obtain⟨j,Ko,hj,rfl,cf,am,an,av,cg,ej⟩:=hrel;clear DN es cm;by_cases ey:j<no
     ·have aq:j<gs.length:=(by rw[Za dv];exact ey);have al:j<Ko.length:=(by rw[(Za am).len];exact aq);obtain⟨g,cap,gv,et,eu,bj⟩:=am.form (by omega);cases gv;obtain⟨a,m,c,eK,ar,br⟩:=am.old j aq al (aE _);have bf:=en _ (bK aq);obtain⟨x,hx⟩:=ZF (gs[j]);rw[hx] at eK ar bf;have r0:=am.cell j al 0 (by decide);have r1:=am.cell j al 1 (by decide);rw[eK] at r0 r1;have r0:wr.cell? ⟨g,j*2,none⟩=some (E J x.1):=r0;have r1:wr.cell? ⟨g,j*2+1,none⟩=some (F a m c):=r1;have hm:m<=8796093022208:=(by rw[<-ar.1];exact bf);obtain⟨X1,ai⟩:=ZG (wr.alloc (dW #[E J x.1,F a m c] 101));have ah:ZD wr X1:=(by rw[ai];exact Zg _ _);have ba:X1.heap[wr.heap.size]? = some (dW [E J x.1,F a m c].toArray 101 (0,0)):=(by rw[ai];exact two_heap _ _ _ _);have b0:=Zd ba 0 _ rfl;have b1:=Zd ba 1 _ rfl;have bl:=aA ba;have t2:=Zc ah (Zd an 2 _ rfl);have tl:=aI (aA an) ah.size;have cc:=Zb ah;have CO:=Zb (Nh x.1 a m c x.2 X1.drew hm (ar.later (Ze (Ze cg ah) (Zh _))) br)
      have NX:Hid (∀ w5 z c5,ZD wr w5->Fresh X1.drew.heap.size w5 (λw2=>OpsAt w2 z m x.2/\SlOk z m c5) ->
        Hid (Cl inR 124 (w.heap.size+2) G w ((w5.setCell ⟨g,j*2,none⟩ (E J x.1)).setCell ⟨g,j*2+1,none⟩ (F z m c5)) (F a1 k c1) k K I k)/\Hid (Cl outR 101 (w.heap.size+2) G w ((w5.setCell ⟨g,j*2,none⟩ (E J x.1)).setCell ⟨g,j*2+1,none⟩ (F z m c5)) (F (some ⟨g,0,none⟩) no c2) no (Ko.set j [E J x.1,F z m c5]) gs (j+1))/\Hid (((w5.setCell ⟨g,j*2,none⟩ (E J x.1)).setCell ⟨g,j*2+1,none⟩ (F z m c5)).heap[w.heap.size]? = some (dW [E J h,F a1 k c1,F (some ⟨g,0,none⟩) no c2].toArray 52 (0,0)))/\Hid (((w5.setCell ⟨g,j*2,none⟩ (E J x.1)).setCell ⟨g,j*2+1,none⟩ (F z m c5)).heap[w.heap.size+1]? = some (dW [E J 0,F none 0 0,F none 0 0].toArray 52 (0,0)))/\Hid (ZD w ((w5.setCell ⟨g,j*2,none⟩ (E J x.1)).setCell ⟨g,j*2+1,none⟩ (F z m c5)))/\Hid (G<=((w5.setCell ⟨g,j*2,none⟩ (E J x.1)).setCell ⟨g,j*2+1,none⟩ (F z m c5)).heap.size)):=by
       intro w5 z c5 ab ap;have bo:=Za ej;have aj:=((Gr.refl w5 (λq=>q=g)).one g (j*2) (.inl rfl) (E J x.1)).one g (j*2+1) (.inl rfl) (F z m c5);have dd:=ab.size;refine⟨?_,Zlf am aq al hx ab ap (aT bo ah.size),?_,?_,?_,?_⟩
       ·exact (cf.keep ab).gr aj (λq e=>by omega) (λq hq e=>Xl am.own cf.own (by decide) q (by rw[e];rfl) hq)
       ·exact aj.heap (ZE ab an) (by omega)
       ·exact aj.heap (ZE ab av) (by omega)
       ·exact aj.below (Ze cg ab) (by have:=aA an;omega) (λq e=>by omega)
       ·exact aT bo (aT dd aj.size)
      have FR:=Zb (λj=>am.free j);have ev:(j:Int)<(no:Int):=(by omega);clear ar br bf hx eK ah ba;go_wp2_with fail;rw[<-ai];clear ai
      go_region_with (go_at_call 103;refine CO.mono ?_;rintro e w5 ⟨z,c5,rfl,ap,ab⟩;have af:=Ze (Ze cc (Zh _)) ab;have HN:=Zb (NX w5 z c5 af ap);have q1:=Zc ab (Zc (Zh _) t2);have q2:=Zc af r0;have gd:=Zc af r1;have q3:w5.frozen? ⟨g,j*2,none⟩=false:=(bX (a:=⟨g,j*2,none⟩) (af.block g bj)).trans (FR _);have gg:w5.frozen? ⟨g,j*2+1,none⟩=false:=(bX (a:=⟨g,j*2+1,none⟩) (af.block g bj)).trans (FR _);have q4:=aI bj af.size;have q5:=aI (aA an) af.size;clear ap ab af)
      all_goals
       go_wp2;go_roundw
       case rel=>
        obtain⟨f1,f2,f3,f4,f5,f6⟩:=Za HN;exact⟨j+1,_,by omega,by go_num,f1,f2,f3,f4,f5,f6⟩
       case measure=>simp[intOf];omega
     ·have e:j=no:=(by omega);subst e;have s0:=Zd an 0 _ rfl;have s1:=Zd an 1 _ rfl;have s2:=Zd an 2 _ rfl;have sl:=aA an;have y0:=Zd av 0 _ rfl;have y1:=Zd av 1 _ rfl;have y2:=Zd av 2 _ rfl;have z0:=Zi av 0;have z1:=Zi av 1;have z2:=Zi av 2;have yl:=aA av
      have R:Hid (Fresh (w.heap.size+2) wr (λw2=>txR.C w2 [E J h,F a1 k c1,F a2 j c2] (h,I,gs))):=by
       obtain⟨a',c',e1,h1⟩:=cf.rows dy;obtain⟨ft,fy,e2,h2⟩:=am.rows dy;cases e1;cases e2;exact λw2 g2=>⟨_,_,_,_,_,_,rfl,(h1 w2 g2).1,(h1 w2 g2).2,(h2 w2 g2).1,(h2 w2 g2).2⟩
      go_wp2;(try simp only[Exit.inBlock,Exit.then]);have hG:=((Gr.refl wr (λq=>q=w.heap.size+1)).one (w.heap.size+1) 0 (.inl rfl) (E J h)).one (w.heap.size+1) 1 (.inl rfl) (F a1 k c1) |>.one (w.heap.size+1) 2 (.inl rfl) (F a2 j c2);refine aR (v:=.agg #[E J h,F a1 k c1,F a2 j c2]) ?_ rfl ⟨a1,c1,a2,c2,rfl,(R.on (hG.mono λq _ e=>by omega)).less (by omega),?_⟩
      ·rw[Xb rfl];go_simp
      ·exact hG.below cg (by omega) (λq e=>by omega)
