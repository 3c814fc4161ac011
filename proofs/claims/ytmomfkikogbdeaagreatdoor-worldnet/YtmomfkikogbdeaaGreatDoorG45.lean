import Derived.Test.YtmomfkikogbdeaaGreatDoorH
import Derived.Test.YtmomfkikogbdeaaGreatDoorG42
import Derived.Test.YtmomfkikogbdeaaGreatDoorG44
open Go.Proofs.Tryz
open Decidable renaming not_not->aZ
open Go renaming heap_alloc_new->aR,lt_of_block->aA,bodyPost_ret->bA
open Go.Ending renaming returned->cY
open Go.IntKind renaming i64->J
open Go.Obj renaming cells->cW
open Go.Proofs.Tryz renaming prog->aB
open Go.RowKit renaming Below->aD
open Go.Value renaming int->E,slice->F,tuple->cZ,pointer->dA
open List renaming getElem_mem->bB,mem_append->cH,length_set->bZ
open Nat renaming le_trans->aS,le_refl->aH,le_of_eq->cN
set_option maxHeartbeats 12800000
set_option maxRecDepth 10000
namespace Go.Proofs.YtmomfkikogbdeaaGreatDoor
open Go.RowKit
theorem Zbh(Z:Nat->Prop)(s:Nat)(W:WD)(xk xn xt:Int)(xi:Nat)(xw xN th:Int)(ai ao:Option Addr)(ni ci no co:Nat)(w:World)(hS:Sc Z s W w)(hl:xi<W.m.length)(hz:V8 W.m[xi])(W':WD)(hx:W.sent W.m[xi]=W') :
  Calls aB 241 #[dA (some ⟨s,0,none⟩),.agg #[E J xk,E J xn,E J xt,E J xi,E J xw,E J xN,E J th,F ai ni ci,F ao no co]] w λe w'=>e = cY (E J 0)/\Sn Z s W' w w':=by
 obtain⟨ka,kn,kc,vn,vm,Kn,Km,hA⟩:=hS;have Q:=hA.on;obtain⟨na,nc,ma,mc,rfl,rfl,_,_,_,sm⟩:=Q.read;have hb:=hA.box
 obtain⟨g,rfl⟩:∃ g,ma=some ⟨g,0,none⟩:=by
  rcases Q.rm.2 with ⟨_,e⟩|⟨g,cap,cd,e,_⟩
  ·omega
  ·injection e with e;exact⟨g,e⟩
 have cf:=(Q.rm.lt g rfl).2;have hk:xi<Km.length:=by rw[Q.now.2.2.1];exact hl
 obtain⟨y,hy⟩:=ZF (W.m[xi])
 have hC:∀ V,Gr w V (λq=>(Z q\/q=s)\/(Value.slice na W.n.length nc).ownBlock=some q\/(Value.slice (some ⟨g,0,none⟩) W.m.length mc).ownBlock=some q)->Tr.msgR.C V Km[xi] y:=λV gV=>by
  have:=(Q.dat V gV).2.2.2 xi hl hk;rw[hy] at this;exact this
 rw[hy] at hz hx;obtain⟨x0,x1,x2,x3,⟨y0,y1,y2,y3,y4⟩,z0,z1,z2⟩:=y;obtain⟨pa,pn,pc,ia,im,ic,oa,om,oc,eK,hT,sT,hI,sI,hO,sO⟩:=hC w (Gr.refl _ _);simp only at eK hT hI hO;obtain⟨X,hX⟩:=ZG (w.alloc (cW #[E J xk,E J xn,E J xt,E J xi,E J xw,E J xN,E J th,F ai ni ci,F ao no co] 103));have z:aD w.heap.size w X:=by rw[hX];exact Zh _ _
 have bu:X.heap.size=w.heap.size+1:=by rw[hX];simp
 have ah:X.heap[w.heap.size]? = some (cW [E J xk,E J xn,E J xt,E J xi,E J xw,E J xN,E J th,F ai ni ci,F ao no co].toArray 103 (0,0)):=by rw[hX];exact aR _ _
 have aj:=ZE z hb;have rc:=λj (hj:j<12)=>(World.ownsRow.cellAt (Q.later z).rm (xi*12+j) (by have:(xi+1)*12<=W.m.length*12:=Nat.mul_le_mul_right _ hl;omega)).trans (Tr.wid_at Q.now.2.2.wid xi hk j hj);rw[eK] at rc;have r0:X.cell? ⟨g,xi*12,none⟩=some (E J x0):=rc 0 (by decide);have r1:X.cell? ⟨g,xi*12+1,none⟩=some (E J x1):=rc 1 (by decide);have r2:X.cell? ⟨g,xi*12+2,none⟩=some (E J x2):=rc 2 (by decide);have r3:X.cell? ⟨g,xi*12+3,none⟩=some (E J x3):=rc 3 (by decide);have r4:X.cell? ⟨g,xi*12+4,none⟩=some (E J y0):=rc 4 (by decide);have r5:X.cell? ⟨g,xi*12+5,none⟩=some (E J y1):=rc 5 (by decide);have r6:X.cell? ⟨g,xi*12+6,none⟩=some (E J y2):=rc 6 (by decide);have r7:X.cell? ⟨g,xi*12+7,none⟩=some (E J y3):=rc 7 (by decide);have r8:X.cell? ⟨g,xi*12+8,none⟩=some (F pa pn pc):=rc 8 (by decide);have r9:X.cell? ⟨g,xi*12+9,none⟩=some (E J z0):=rc 9 (by decide);have cn:X.cell? ⟨g,xi*12+10,none⟩=some (F ia im ic):=rc 10 (by decide);have cp:X.cell? ⟨g,xi*12+11,none⟩=some (F oa om oc):=rc 11 (by decide);have cg:(xi:Int)<(W.m.length:Int):=by omega
 have C1:=Zd (Lz Z s W x0 x1 x2 x3 y0 y1 y2 y3 pa pn pc y4 z0 ia oa im ic om oc z1 z2 X.drew ⟨_,_,_,_,_,_,_,hA.later (Zf z (Zi X))⟩ (hT.later (Zf z (Zi X))) sT (hI.later (Zf z (Zi X))) (hO.later (Zf z (Zi X))) sI sO hz);rw[hx] at C1;have NB:Hid (∀ q,Xw X.drew s q->Xw w s q):=λq hq=>(hA.nb q).1 (((hA.later (Zf z (Zi X))).nb q).2 hq);have ac:=Zd (Zf z (Zi X));have c2:=Zb aj 2 _ rfl;have cl:=aA aj;have m3:=Zb ah 3 _ rfl;have ml:=aA ah;have ce:g<X.heap.size:=by omega
 clear hA Q hb hC eK hT sT hI sI hO sO z bu ah aj rc hz hx hy;go_enter func241,ntmps241
 go_upto_region 1 with fail
 rw[<-hX];clear hX
 go_region_law (first
  | (refine Zy (by rfl) 275 #[dA (some ⟨s,0,none⟩),.agg #[E J x0,E J x1,E J x2,E J x3,E J y0,E J y1,E J y2,E J y3,F pa pn pc,E J z0,F ia im ic,F oa om oc]] (by kernel_rfl) C1 ?_;rintro e w4 ⟨rfl,h1,h2,h3⟩;refine⟨_,rfl,?_⟩;have br:Hid (Sn Z s W' w w4):=⟨h1,(Gr.of ac).trans (h2.mono (λq _ e=>e.imp id (NB q))),λq e=>(h3 q e).imp (NB q) (aS ac.size)⟩;clear h1 h2 h3))
 all_goals
  clear C1 NB ac;go_wp2;go_ret;exact⟨rfl,Za br⟩
theorem Pz{K:List ByteArray}{N:List Int}{T:List Zl}{P:List TxD}{tip:Int}(h:opE K N T P tip=0):P.length<=8/\∀ t∈P,Tr.TxSmall t:=by
 have z:=(Wx h).2.2.2;unfold poE at z;split at z
 ·rename_i q;have e:P=[]:=List.eq_nil_of_length_eq_zero q;subst e;exact⟨by simp,λt Q=>by cases Q⟩
 split at z
 ·cases z
 rename_i q1;split at z
 ·rename_i q;exact absurd z q
 rename_i q2;refine⟨(Rj (aZ.1 q2)).2,λt Q=>?_⟩;have hk:P.all (knT K)=true:=by simpa using q1
 have:=List.all_eq_true.1 hk t Q;unfold knT at this;simp only[Bool.and_eq_true,decide_eq_true_eq] at this;exact Tr.tx_small this.1
theorem Wy{K:List ByteArray}{y:Vu}(h:opN K y=0):Qb y:=⟨aS (Pz h).1 (by decide),(Pz h).2⟩
theorem Rt{i n:Nat}(h:i<n):Ru (i:Int) (n:Int)=true:=by
 unfold Ru;simp;omega
section
variable {W : WD} {xt xw xN th : Int} {ai ao : Option Addr} {ni ci no co : Nat}
theorem Le{xi:Int}{i:Nat}{y:Int}{W':WD}(hc:Vv W.k W.n W.m=0)(hi:i<W.n.length)(ac:Tr.BlkSmall (nmR W.k W.n[i].1 W.n[i].2.1 W.n[i].2.2.1 W.n[i].2.2.2 xw xi [(1,xN),(7,0)]).2.1)(hx:W.mine i xw xi xN=(y,W')):Hp (.agg #[E J 1,E J i,E J xt,E J xi,E J xw,E J xN,E J th,F ai ni ci,F ao no co]) W y W':=λZ V s hE hS=>by
 obtain⟨_,q2,_,_,_,q6,_⟩:=Yc hc;refine Bh Z s i xt xi xw xN th ai ao ni ci no co y W' V (λU p q z hb=>?_);exact Cg Z s W 1 i xt xi xw xN th ai ao ni ci no co p q 235 #[dA (some ⟨s,0,none⟩)] #[] y W' true U hb.1 hb.2 (hS.later z) (Rt hi) (λ_=>⟨enters_of (fn:=Tryz.f235) (by kernel_rfl) (by kernel_rfl) rfl,λQ h2=>Zgz Z s W 1 i xt xi xw xN th ai ao ni ci no co y W' Q (hE Q (Gr.of (Zf z h2))) (hS.later (Zf z h2)) hi q2 (Wy (q6 _ (bB hi))) ac hx⟩) y (if_pos rfl)
theorem Zaw{xn xi:Int}{W':WD}(h:Ru xi W.m.length=false):Hp (.agg #[E J 3,E J xn,E J xt,E J xi,E J xw,E J xN,E J th,F ai ni ci,F ao no co]) W 5 W':=λZ V s hE Q=>by
 refine Gp Z s xn xt xi xw xN th ai ao ni ci no co 5 W' V (λU p q hU z=>?_);exact Jc Z s W 3 xn xt xi xw xN th ai ao ni ci no co p q 238 #[dA (some ⟨s,0,none⟩)] #[] 0 W' false U z.1 z.2 (Q.later hU) h (λe=>by cases e) 5 (if_neg (by decide))
theorem Qq{xn:Int}{k:Nat}{ti:Nat}{W':WD}(hc:Vv W.k W.n W.m=0)(hk:k<W.m.length)(hz:W.m[k].1=1/\W.m[k].2.2.1=ti)(ac:ti<W.n.length)(hx:(W.lost k).told ti W.m[k].2.1 W.m[k].2.2.2.2.1=W'):Hp (.agg #[E J 3,E J xn,E J xt,E J k,E J xw,E J xN,E J th,F ai ni ci,F ao no co]) W 0 W':=λZ V s hE Q=>by
 obtain⟨_,q2,_,_,q5,q6,_⟩:=Yc hc;refine Gp Z s xn xt k xw xN th ai ao ni ci no co 0 W' V (λU p q z hb=>?_);refine Jc Z s W 3 xn xt k xw xN th ai ao ni ci no co p q 238 #[dA (some ⟨s,0,none⟩)] #[] 0 W' true U hb.1 hb.2 (Q.later z) (Rt hk) (λ_=>⟨enters_of (fn:=Tryz.f238) (by kernel_rfl) (by kernel_rfl) rfl,λV2 h2=>?_⟩) 0 (if_pos rfl);refine (Zcb Z s W 3 xn xt k xw xN th ai ao ni ci no co V2 (λU2 g=>hE U2 ((Gr.of (Zf z h2)).trans g)) (Q.later (Zf z h2)) hk q5 ti hz ac (Wy (q6 _ (bB ac))) W' hx).mono ?_;rintro e V3 ⟨rfl,h3,h4⟩;exact⟨rfl,λ_=>h3,h4⟩
theorem Pn{Z:Nat->Prop}{s:Nat}{W W':WD}{w w':World}(z:Sc Z s W w)(h:Sn Z s W' w w'):Sc Z s W' w'/\Gr w w' (λq=>¬Z q):=
 ⟨h.1,h.2.1.mono (λq _ e=>by
  rcases e with e|e
  ·rw[e];exact z.nz
  ·exact (z.net_lt e).1)⟩
theorem Zax{xn:Int}{k:Nat}(hc:Vv W.k W.n W.m=0)(hk:k<W.m.length):Hp (.agg #[E J 4,E J xn,E J xt,E J k,E J xw,E J xN,E J th,F ai ni ci,F ao no co]) W 0 (W.lost k):=λZ V s hE z=>by
 obtain⟨_,q2,_,_,q5,q6,_⟩:=Yc hc;refine Bg Z s xn xt k xw xN th ai ao ni ci no co 0 (W.lost k) V (λU p q Q hb=>?_);refine Jc Z s W 4 xn xt k xw xN th ai ao ni ci no co p q 239 #[dA (some ⟨s,0,none⟩)] #[] 0 (W.lost k) true U hb.1 hb.2 (z.later Q) (Rt hk) (λ_=>⟨enters_of (fn:=Tryz.f239) (by kernel_rfl) (by kernel_rfl) rfl,λV2 h2=>?_⟩) 0 (if_pos rfl);refine (Cz Z s W 4 xn xt k xw xN th ai ao ni ci no co V2 (z.later (Zf Q h2)) hk q5).mono ?_;rintro e V3 ⟨rfl,h3⟩;have h4:=Pn (z.later (Zf Q h2)) h3;exact⟨rfl,λ_=>h4.1,h4.2⟩
theorem Sd{xn:Int}{k:Nat}{y:Int}(hk:k<W.m.length)(hz:V8 W.m[k])(hy:(if W.m.length=20 then 12 else 0)=y):Hp (.agg #[E J 5,E J xn,E J xt,E J k,E J xw,E J xN,E J th,F ai ni ci,F ao no co]) W y (W.sent W.m[k]):=λZ V s hE hS=>by
 refine Bf Z s xn xt k xw xN th ai ao ni ci no co y (W.sent W.m[k]) V (λU p q p' q' hU z ac=>?_);refine Jc Z s W 5 xn xt k xw xN th ai ao ni ci no co p' q' 274 #[] #[dA (some ⟨p,0,none⟩),dA (some ⟨q,0,none⟩)] y (W.sent W.m[k]) true U ac.1 ac.2 (hS.later hU) (Rt hk) (λ_=>⟨enters_of (fn:=Tryz.f274) (by kernel_rfl) (by kernel_rfl) rfl,λV2 h2=>?_⟩) y (if_pos rfl);have Q:=hS.later (Zf hU h2);refine Lp Z s W 5 xn xt k xw xN th ai ao ni ci no co p q 241 #[dA (some ⟨s,0,none⟩)] #[] 0 (W.sent W.m[k]) V2 ((h2.block _ (aA z.1)).trans z.1) ((h2.block _ (aA z.2)).trans z.2) Q (λ_=>⟨enters_of (fn:=Tryz.f241) (by kernel_rfl) (by kernel_rfl) rfl,λV3 h3=>?_⟩) y hy;refine (Zbh Z s W 5 xn xt k xw xN th ai ao ni ci no co V3 (Q.later h3) hk hz _ rfl).mono ?_;rintro e V4 ⟨rfl,h4⟩;have h5:=Pn (Q.later h3) h4;exact⟨rfl,λ_=>h5.1,h5.2⟩
end
theorem Ad{K:List ByteArray}{N:List Int}{T:List Zl}{P:List TxD}{tip s:Int}{b:Zl}(h:opE K N T P tip=0)(Q:kbD K s b=true)(hs:s∈N):ntR K N T P tip b=(6,0,Dsk.none):=by
 obtain⟨o1,o2,_,_⟩:=Wx h;have z:=(Xr o2).1;have ok:=Tr.TrOk.of z;have ad:=ok.nm s hs;have hn:=Tk ((Bk.right_iff K).1 o1) (by omega) Q
 have ha:Tr.addE N T s b=([],[],6):=by
  have hx:Tr.nextD N T s b=6:=by
   unfold Tr.nextD;rw[if_neg (by simp[ad]),if_neg (by simp[(V5 Q).1]),if_pos (by simpa using hs)]
  unfold Tr.addE;rw[if_neg (λq=>q z),hx,if_pos (by decide)]
 have e:tkR ⟨K,N,T,P,tip,(Ye K N T noB).2⟩ b=(6,0,⟨K,N,T,P,tip,(Ye K N T noB).2⟩):=by
  unfold tkR;simp only[hn,ha];rw[if_neg (λq=>q rfl),if_pos (by decide)]
 unfold ntR;rw[if_neg (by rw[h];decide),e,if_pos (by simp)]
theorem nt_tk{K:List ByteArray}{N:List Int}{T:List Zl}{P:List TxD}{tip:Int}{b:Zl}{s:Int}{D:Dsk}(h:ntR K N T P tip b=(0,s,D)):opE K N T P tip=0/\tkR ⟨K,N,T,P,tip,(Ye K N T noB).2⟩ b=(0,s,D):=by
 unfold ntR at h;split at h
 ·rename_i q;exact absurd (congrArg Prod.fst h) q
 rename_i z;have z:=aZ.1 z;split at h
 ·rename_i q;exact absurd (congrArg Prod.fst h) q
 rename_i Q;have Q:=aZ.1 Q;simp only[Prod.mk.injEq,true_and] at h;exact⟨z,Prod.ext Q (Prod.ext h.1 h.2)⟩
open Bk (Right nm nameR)
theorem A0{K:List ByteArray}{s:ByteArray}(hK:Right K)(z:Bk.place s K≠0):(nameR K s).1=K:=by
 rw[Dn hK,Bk.nm_there (Pv hK (by omega)) (by omega)]
theorem Pi{h:Int}{K:List ByteArray}(hK:Right K):∀ (l:List TxD) (C:List Zj),l.all (knT K)=true->(Z0 h l (K,C)).2.1=K
 | [],_,_=>rfl
 | t :: l,C,ha=>by
  rw[List.all_cons,Bool.and_eq_true] at ha
  have ht:Bk.place (txT t) K≠0:=by
   have:=ha.1;unfold knT at this;simp at this;exact this.2
  rw[Z0];by_cases q:(doD h (K,C) t).1=0
  ·rw[if_pos q]
   have e:(doD h (K,C) t).2.1=K:=by
    unfold doD at *;split at q
    ·rename_i q1;exact absurd q q1
    rename_i q1;rw[if_neg q1] at *;split at q
    ·exact absurd (show (4:Int)=0 from q) (by decide)
    rename_i q2;rw[if_neg q2] at *;split at q
    ·rename_i q3;exact absurd q q3
    rename_i q3;rw[if_neg q3] at *;split at q
    ·rename_i q4;exact absurd q q4
    rename_i q4;rw[if_neg q4];exact A0 hK ht
   obtain⟨Q,z,h2⟩:∃ Q z,(doD h (K,C) t).2=(Q,z):=⟨_,_,rfl⟩;rw[h2] at e ⊢;have e:Q=K:=e;subst e;exact Pi hK l z ha.2
  ·rw[if_neg q];exact Pi hK l C ha.2
theorem Af{h:Int}:∀ (l:List TxD) (s:List ByteArray×List Zj),(Z0 h l s).1.length<=l.length/\(¬(Z0 h l s).1.length<l.length->(Z0 h l s).1=l)
 | [],_=>⟨aH _,λ_=>rfl⟩
 | t :: l,s=>by
  rw[Z0];by_cases q:(doD h s t).1=0
  ·rw[if_pos q];obtain⟨h1,h2⟩:=Af (h:=h) l (doD h s t).2;exact⟨by simp;exact h1,λe=>by simp at e;simp[h2 (by omega)]⟩
  ·rw[if_neg q];obtain⟨h1,h2⟩:=Af (h:=h) l s;exact⟨by simp;omega,λe=>by simp at e;omega⟩
theorem Zat{K M:List ByteArray}{t:TxD}(h:knT K t=true):knT (K++M) t=true:=by
 unfold knT at *;simp at h ⊢;exact⟨h.1,by rw[Bk.place_stays M (Nat.pos_of_ne_zero h.2)];exact h.2⟩
theorem As{K M:List ByteArray}{y:Vu}(h:opN K y=0)(Q:Right (K++M)):opN (K++M) y=0:=by
 obtain⟨N,T,P,tip⟩:=y;have h:opE K N T P tip=0:=h;show opE (K++M) N T P tip=0;obtain⟨o1,o2,o3,z⟩:=Wx h;have hK:=(Bk.right_iff K).1 o1;have ok:=Tr.TrOk.of (Xr o2).1;have cb:=Tb hK Q N T noB (λx hx=>by have:=(ok.nm x hx).1;omega) o3
 have ak:poE (K++M) N T P tip (Ye K N T noB).2=0:=by
  unfold poE at z ⊢;split at z
  ·rename_i q;rw[if_pos q]
  rename_i q1;rw[if_neg q1];split at z
  ·exact absurd z (by decide)
  rename_i q2;have ka:P.all (knT K)=true:=by simpa using q2
  have ka':P.all (knT (K++M))=true:=List.all_eq_true.2 (λt ht=>Zat (List.all_eq_true.1 ka t ht));rw[if_neg (by rw[ka'];decide)];split at z
  ·rename_i q;exact absurd z q
  rename_i q3;have q3:=aZ.1 q3;split at z
  ·exact absurd z (by decide)
  rename_i q4;obtain⟨oo,hl⟩:=Rj q3;obtain⟨_,ah,h1,h2⟩:=Uu oo
  have al:swE (K++M) ((Ye K N T noB).2 tip) P (Y8 N T tip+1)=0:=by
   unfold swE;rw[Df Q ah h1 h2];simp;exact hl
  rw[if_neg (by rw[al];decide)];have e1:=(Af (h:=Y8 N T tip+1) P (K,(Ye K N T noB).2 tip)).2 q4;have e2:=Pi hK (h:=Y8 N T tip+1) P ((Ye K N T noB).2 tip) ka;have ag:=Ri P K ((Ye K N T noB).2 tip) M hK (h:=Y8 N T tip+1) (by rw[e2];exact Q);rw[e1,e2] at ag;rw[ag];simp
 unfold opE;rw[if_neg (by rw[(Bk.right_iff _).2 Q];decide),o2];simp only[ne_eq,not_true_eq_false,if_false,cb,o3];exact ak
theorem Mo{W:WD}(h1:1<=W.n.length)(h2:W.n.length<=4)(h3:Bk.bkChk W.k=0)(h4:W.m.length<=20)(h5:∀ y∈W.n,opN W.k y=0)(h6:∀ m∈W.m,Ta m W.n.length=0):Vv W.k W.n W.m=0:=by
 have n0:∀ L,(∀ y∈L,opN W.k y=0)->We W.k L=0:=by
  intro L
  induction L with
  | nil=>intro _;rfl
  | cons x L ih=>
   intro h;rw[We,if_neg (λq=>q (h x (by simp)))];exact ih (λy z=>h y (by simp[z]))
 have m0:∀ L,(∀ m∈L,Ta m W.n.length=0)->Uk W.n.length L=0:=by
  intro L
  induction L with
  | nil=>intro _;rfl
  | cons x L ih=>
   intro h;rw[Uk,if_neg (λq=>q (h x (by simp)))];exact ih (λy z=>h y (by simp[z]))
 unfold Vv;rw[if_neg (λq=>q ⟨h1,h2⟩),if_neg (λq=>q h3),if_neg (by omega),if_neg (λq=>q (n0 _ h5))];exact m0 _ h6
theorem Zee{W:WD}{k:Nat}{m:U8}(h:m∈(W.lost k).m):m∈W.m:=by
 rcases cH.1 h with h|h
 ·exact List.mem_of_mem_take h
 ·exact List.mem_of_mem_drop h
theorem Zfb{W:WD}(h:Vv W.k W.n W.m=0)(k:Nat):Vv (W.lost k).k (W.lost k).n (W.lost k).m=0:=by
 obtain⟨Q,q2,q3,_,q5,q6,q7⟩:=Yc h;refine Mo (W:=W.lost k) Q q2 q3 ?_ q6 (λm z=>q7 m (Zee z));show (W.m.take k++W.m.drop (k+1)).length<=20;simp;omega
theorem Zfa{W:WD}(h:Vv W.k W.n W.m=0){m:U8}(Q:m∈W.m)(hl:W.m.length≠20):Vv (W.sent m).k (W.sent m).n (W.sent m).m=0/\(W.sent m)=⟨W.k,W.n,W.m++[m]⟩:=by
 obtain⟨q1,q2,q3,_,q5,q6,z⟩:=Yc h;have e:W.sent m=⟨W.k,W.n,W.m++[m]⟩:=if_pos (by omega);rw[e];refine⟨Mo (W:=⟨W.k,W.n,W.m++[m]⟩) q1 q2 q3 (by simp;omega) q6 (λx hx=>?_),rfl⟩
 rcases cH.1 hx with hx|hx
 ·exact z x hx
 ·rw[List.mem_singleton.1 hx];exact z m Q
theorem Zhx{W:WD}(h:Vv W.k W.n W.m=0){i:Nat}(hi:i<W.n.length){b:Zl}{nm:Int}{D:Dsk}(ht:ntR W.k W.n[i].1 W.n[i].2.1 W.n[i].2.2.1 W.n[i].2.2.2 b=(0,nm,D)):Vv (W.put i D).k (W.put i D).n (W.put i D).m=0/\∃ s,s∈D.n/\kbD D.k s b=true:=by
 obtain⟨q1,q2,q3,_,q5,q6,q7⟩:=Yc h;obtain⟨o,tk⟩:=nt_tk ht;obtain⟨Q,_,t3,_,t5,⟨M,t6⟩,_⟩:=Ep o tk
 have hR:Right (W.k++M):=by
  have:=(Wx Q).1;rw[t6] at this;exact (Bk.right_iff _).1 this
 refine⟨Mo (W:=W.put i D) ?_ ?_ (Wx Q).1 q5 (λy z=>?_) (λm hm=>?_),nm,by rw[t3];simp,t5⟩
 ·show 1<=(W.n.set i _).length;rw[bZ];exact q1
 ·show (W.n.set i _).length<=4;rw[bZ];exact q2
 ·rcases List.mem_or_eq_of_mem_set z with z|rfl
  ·show opN D.k y=0;rw[t6];exact As (q6 y z) hR
  ·exact Q
 ·show Ta m ((W.n.set i _).length:Int)=0;rw[bZ];exact q7 m hm
def n0:Vu:=([],[],[],0)
theorem Zjk{w:World}{g:Nat}(h:w.heap[g]? = some (cW [F none 0 0,F none 0 0,F none 0 0,E J 0,F none 0 0,F none 0 0,F none 0 0,E J 0].toArray 67 (0,0))):NodsAt w (some ⟨g,0,none⟩) 2 [n0,n0]:=by
 refine⟨rfl,λ_=>⟨g,0,rfl,aA h,λj z=>?_⟩⟩;have nil:Tr.IntsAt w none 0 []/\Tr.BlksAt w none 0 []/\TxsAt w none 0 []:=⟨⟨rfl,λh=>absurd h (by decide)⟩,RowsAt.nil _ _,RowsAt.nil _ _⟩
 match j,z with
 | 0,_=>exact⟨none,0,0,none,0,0,none,0,0,Zb h 0 _ rfl,Zb h 1 _ rfl,Zb h 2 _ rfl,Zb h 3 _ rfl,nil.1,nil.2.1,nil.2.2,Zr,Zr,Zr⟩
 | 1,_=>exact⟨none,0,0,none,0,0,none,0,0,Zb h 4 _ rfl,Zb h 5 _ rfl,Zb h 6 _ rfl,Zb h 7 _ rfl,nil.1,nil.2.1,nil.2.2,Zr,Zr,Zr⟩
 | j+2,h=>exact absurd h (by simp)
theorem Zjo(w:World):(Instr.makeSlice 87 (E J 2) (E J 2)).run aB w = .ok (F (some ⟨w.heap.size,0,none⟩) 2 2) (w.alloc (cW #[F none 0 0,F none 0 0,F none 0 0,E J 0,F none 0 0,F none 0 0,F none 0 0,E J 0] 67)):=by
 obtain⟨i0,hi,Q,z,aa⟩:=info_parts Tr.Tryz.infoNodeC;have h:=run_makeSlice (P:=aB) (w:=w) 87 67 i0 _ underlying87 hi Q .i64 .i64 2 2 (by decide) (by decide) (by rw[z];decide) (by rw[aa];decide) (by decide);rw[z] at h;have e:madeCells (Value.agg #[F none 0 0,F none 0 0,F none 0 0,E J 0]).cells (Int.toNat 2*4)=#[F none 0 0,F none 0 0,F none 0 0,E J 0,F none 0 0,F none 0 0,F none 0 0,E J 0]:=by kernel_rfl
 rw[e] at h;exact h
theorem Tryz.infoErr:(Tryz.prog.info? 30).map (λi=>(i.zero,i.size,i.bytes))=some (some (E J 0),1,8):=by kernel_rfl
theorem Zjn(w:World):(Instr.makeSlice 110 (E J 4) (E J 4)).run aB w = .ok (F (some ⟨w.heap.size,0,none⟩) 4 4) (w.alloc (cW #[E J 0,E J 0,E J 0,E J 0] 30)):=by
 obtain⟨i0,hi,Q,z,aa⟩:=info_parts Tryz.infoErr;have h:=run_makeSlice (P:=aB) (w:=w) 110 30 i0 _ underlying110 hi Q .i64 .i64 4 4 (by decide) (by decide) (by rw[z];decide) (by rw[aa];decide) (by decide);rw[z] at h;have e:madeCells (Value.int .i64 0).cells (Int.toNat 4*1)=#[E J 0,E J 0,E J 0,E J 0]:=by kernel_rfl
 rw[e] at h;exact h
theorem Zcg(w:World):Calls aB 130 #[E J 2] w λe w'=>∃ g,e = cY (cZ #[.agg #[F none 0 0,F (some ⟨g,0,none⟩) 2 2,F none 0 0],E J 0])/\w'.heap[g]? = some (cW [F none 0 0,F none 0 0,F none 0 0,E J 0,F none 0 0,F none 0 0,F none 0 0,E J 0].toArray 67 (0,0))/\w.heap.size<=g/\aD w.heap.size w w':=by
 obtain⟨X,hX⟩:=ZG (w.alloc (cW #[F none 0 0,F none 0 0,F none 0 0] 90));have aj:Hid (aD w.heap.size w X):=by rw[hX];exact Zh _ _
 have ak:Hid (X.heap[w.heap.size]? = some (cW [F none 0 0,F none 0 0,F none 0 0].toArray 90 (0,0))):=by rw[hX];exact aR _ _
 have C1:=Zd (Gk 2 true X (by decide));go_enter func130,ntmps130
 go_upto_region 1 with fail
 rw[<-hX];clear hX;go_wp2_with fail;refine C1.mono ?_;rintro e z ⟨rfl,ad⟩;have af:=onb aj ad;have Q:=mvd ad ak;obtain⟨Y,hY⟩:=ZG (z.alloc (cW #[F none 0 0,F none 0 0,F none 0 0,E J 0,F none 0 0,F none 0 0,F none 0 0,E J 0] 67));have ae:aD z.heap.size z Y:=by rw[hY];exact Zh _ _
 have HY:Hid (Y.heap[z.heap.size]? = some (cW [F none 0 0,F none 0 0,F none 0 0,E J 0,F none 0 0,F none 0 0,F none 0 0,E J 0].toArray 67 (0,0))):=by rw[hY];exact aR _ _
 have ag:=onb af ae;have aa:=mvd ae Q;have hs:=af.size;obtain⟨r0,r1,r2,rl⟩:=cl3 Q;have f0:=Zg Q 0;have f1:=Zg Q 1;have f2:=Zg Q 2;obtain⟨y0,y1,y2,yl⟩:=cl3 aa;have g0:=Zg aa 0;have g1:=Zg aa 1;have g2:=Zg aa 2;have av:=aA Q;have ah:Hid (∀ V,Gr Y V (λq=>q=w.heap.size)->∃ g,Ending.returned (cZ #[.agg #[F none 0 0,F (some ⟨z.heap.size,0,none⟩) 2 2,F none 0 0],E J 0]) = cY (cZ #[.agg #[F none 0 0,F (some ⟨g,0,none⟩) 2 2,F none 0 0],E J 0])/\V.heap[g]? = some (cW [F none 0 0,F none 0 0,F none 0 0,E J 0,F none 0 0,F none 0 0,F none 0 0,E J 0].toArray 67 (0,0))/\w.heap.size<=g/\aD w.heap.size w V):=λV g=>⟨z.heap.size,rfl,g.heap HY (by show ¬z.heap.size=w.heap.size;omega),hs,g.below ag ag.size (λq e=>cN (Eq.symm e))⟩;have am:=Zjo z;rw[<-hY] at am;clear ad ae C1 hY;go_wp2;(try simp only[Exit.inBlock,Exit.then]);refine bA (v:=cZ #[.agg #[F none 0 0,F (some ⟨z.heap.size,0,none⟩) 2 2,F none 0 0],E J 0]) ?_ rfl ?_
 ·rw[Zo rfl];go_simp
 ·refine ah _ ?_
  repeat' first|refine Gr.one ?_ _ _ ?_ _|exact Gr.refl _ _
  all_goals exact Or.inl rfl
structure RunI(w:World)(bw sd:Nat)(S:Nat->WD)(X:Nat->Int)(k:Nat)(wr:World):Prop where
 bel:aD w.heap.size w wr
 box:∃ ka kn kc na nn nc ma mn mc,wr.heap[bw]? = some (cW [F ka kn kc,F na nn nc,F ma mn mc].toArray 90 (0,0))/\(∀ V,Gr wr V (λq=>q=bw\/q=sd\/q=w.heap.size)->WorldAt V (S k) ka kn na nn ma mn)/\SlOk ka kn kc/\SlOk na nn nc/\SlOk ma mn mc
 said:wr.heap[sd]? = some (cW [E J (if 0<k then X 0 else 0),E J (if 1<k then X 1 else 0),E J (if 2<k then X 2 else 0),E J (if 3<k then X 3 else 0)].toArray 30 (0,0))
 res:wr.heap[w.heap.size]? = some (cW [F none 0 0,F none 0 0,F none 0 0].toArray 90 (0,0))
theorem Zcw(X:Nat->Int){k:Nat}(z:k<4):([E J (if 0<k then X 0 else 0),E J (if 1<k then X 1 else 0),E J (if 2<k then X 2 else 0),E J (if 3<k then X 3 else 0)]:List Value).set k (E J (X k))=[E J (if 0<k+1 then X 0 else 0),E J (if 1<k+1 then X 1 else 0),E J (if 2<k+1 then X 2 else 0),E J (if 3<k+1 then X 3 else 0)]:=by
 match k,z with
 | 0,_=>rfl
 | 1,_=>rfl
 | 2,_=>rfl
 | 3,_=>rfl
 | k+4,h=>exact absurd h (by omega)
section
variable {w wr wx : World} {bw sd : Nat} {S : Nat -> WD} {X : Nat -> Int} {k : Nat}
theorem RunI.step{U:World}(h:RunI w bw sd S X k wr)(Q:bw≠sd/\bw≠w.heap.size/\sd≠w.heap.size/\w.heap.size<bw/\w.heap.size<sd)(hU:aD wr.heap.size wr U)(hg:Gr U wx (λq=>q=sd))(ad:wx.heap[sd]? = some (cW [E J (if 0<k+1 then X 0 else 0),E J (if 1<k+1 then X 1 else 0),E J (if 2<k+1 then X 2 else 0),E J (if 3<k+1 then X 3 else 0)].toArray 30 (0,0)))(hS:S (k+1)=S k):RunI w bw sd S X (k+1) wx:=by
 obtain⟨ka,kn,kc,na,nn,nc,ma,mn,mc,h1,h2,h3⟩:=h.box;have z:Gr wr wx (λq=>q=sd):=(Gr.of hU).trans hg;refine⟨z.below h.bel h.bel.size (λq e=>by have e:q=sd:=e;omega),⟨ka,kn,kc,na,nn,nc,ma,mn,mc,z.heap h1 (λe=>Q.1 e),λV g=>?_,h3⟩,ad,z.heap h.res (λe=>Q.2.2.1 (Eq.symm e))⟩;rw[hS];exact h2 V ((z.mono (λq _ e=>.inr (.inl e))).trans g)
theorem RunI.took{W':WD}{U Y:World}{H0:Nat}{ka na ma:Option Addr}{kn kc nn nc mn mc:Nat}(h:RunI w bw sd S X k wr)(aa:bw≠sd/\bw≠w.heap.size/\sd≠w.heap.size/\w.heap.size<bw/\w.heap.size<sd)(h0:wr.heap.size<=H0)(hU:aD wr.heap.size wr U)(Q:aD U.heap.size U Y)(hg:Gr Y wx (λq=>q=bw\/q=sd))(ae:wx.heap[bw]? = some (cW [F ka kn kc,F na nn nc,F ma mn mc].toArray 90 (0,0)))(af:wx.heap[sd]? = some (cW [E J (if 0<k+1 then X 0 else 0),E J (if 1<k+1 then X 1 else 0),E J (if 2<k+1 then X 2 else 0),E J (if 3<k+1 then X 3 else 0)].toArray 30 (0,0)))
  (hF:Fresh H0 U (λw2=>WorldAt w2 W' ka kn na nn ma mn)) (s1:SlOk ka kn kc) (s2:SlOk na nn nc) (s3:SlOk ma mn mc) (hS:S (k+1)=W'):RunI w bw sd S X (k+1) wx:=by
 obtain⟨_,_,_,_,_,_,_,_,_,h1,_⟩:=h.box;have l1:=aA h1;have l2:=aA h.said;have l3:=aA h.res;have z:Gr wr wx (λq=>q=bw\/q=sd):=(Gr.of (Zf hU Q)).trans hg;refine⟨z.below h.bel h.bel.size (λq e=>by rcases e with e|e <;> omega),⟨ka,kn,kc,na,nn,nc,ma,mn,mc,ae,λV g=>?_,s1,s2,s3⟩,af,z.heap h.res (λe=>by rcases e with e|e;exact aa.2.1 (Eq.symm e);exact aa.2.2.1 (Eq.symm e))⟩;rw[hS];exact hF V ((((Gr.of Q).trans (hg.mono (λq _ e=>by rcases e with e|e <;> omega)))).trans (g.mono (λq _ e=>by rcases e with e|e|e <;> omega)))
end
def RunR(w w':World)(S:Nat->WD)(X:Nat->Int)(e:Ending):Prop:=∃ ka kn kc na nn nc ma mn mc sd,e = cY (cZ #[.agg #[F ka kn kc,F na nn nc,F ma mn mc],F (some ⟨sd,0,none⟩) 4 4,E J 0])/\WorldAt w' (S 4) ka kn na nn ma mn/\SlOk ka kn kc/\SlOk na nn nc/\SlOk ma mn mc/\w'.heap[sd]? = some (cW [E J (X 0),E J (X 1),E J (X 2),E J (X 3)].toArray 30 (0,0))/\aD w.heap.size w w'
theorem Zfx(g:Nat)(H:Nat->Int×Int×Int×Int×Int×Int)(S W':Nat->WD)(X:Nat->Int)(w:World)(hE:Env w)(hg:g<w.heap.size)(hr:∀ k,k<4->∀ j v,([E J (H k).1,E J (H k).2.1,E J (H k).2.2.1,E J (H k).2.2.2.1,E J (H k).2.2.2.2.1,E J (H k).2.2.2.2.2,E J 0,F none 0 0,F none 0 0]:List Value)[j]? = some v->w.cell? ⟨g,k*9+j,none⟩=some v)(h0:S 0=⟨[],[n0,n0],[]⟩)(hc:∀ k,k<4->Vv (S k).k (S k).n (S k).m=0)(hm:∀ k,k<4->∀ m∈(S k).m,V8 m)(hH:∀ k,k<4->Hp (.agg #[E J (H k).1,E J (H k).2.1,E J (H k).2.2.1,E J (H k).2.2.2.1,E J (H k).2.2.2.2.1,E J (H k).2.2.2.2.2,E J 0,F none 0 0,F none 0 0]) (S k) (X k) (W' k))(hS:∀ k,k<4->S (k+1)=if X k=0 then W' k else S k) :
  Calls aB 55 #[E J 2,F (some ⟨g,0,none⟩) 4 4] w λe w'=>RunR w w' S X e:=by
 obtain⟨A,hA⟩:=ZG (w.alloc (cW #[F none 0 0,F none 0 0,F none 0 0] 90));have cb:Hid (aD w.heap.size w A):=by rw[hA];exact Zh _ _
 have bs:Hid (A.heap[w.heap.size]? = some (cW [F none 0 0,F none 0 0,F none 0 0].toArray 90 (0,0))):=by rw[hA];exact aR _ _
 have C1:=Zd (Zcg A);have HE:=Zd hE;have HR:=Zd hr;have de:=Zd h0;have HC:=Zd hc;have HM:=Zd hm;have HH:=Zd hH;have HS:=Zd hS;clear hE hr h0 hc hm hH hS;go_enter func55,ntmps55
 go_upto_region 1 with fail
 rw[<-hA];clear hA;go_wp2_with fail;refine C1.mono ?_;rintro e z ⟨ng,rfl,bx,eh,ay⟩;have ee:=aA bs;obtain⟨Y,hY⟩:=ZG ((z.alloc (cW #[F none 0 0,F (some ⟨ng,0,none⟩) 2 2,F none 0 0] 90)).alloc (cW #[E J 0,E J 0,E J 0,E J 0] 30));have ab:aD z.heap.size z Y:=by rw[hY];exact Zf (Zh _ _) (Zh _ _)
 have y0:Y.heap[z.heap.size]? = some (cW [F none 0 0,F (some ⟨ng,0,none⟩) 2 2,F none 0 0].toArray 90 (0,0)):=by rw[hY];exact Zk [cW #[F none 0 0,F (some ⟨ng,0,none⟩) 2 2,F none 0 0] 90,cW #[E J 0,E J 0,E J 0,E J 0] 30] z 0 _ rfl
 have y1:Y.heap[z.heap.size+1]? = some (cW [E J 0,E J 0,E J 0,E J 0].toArray 30 (0,0)):=by rw[hY];exact Zk [cW #[F none 0 0,F (some ⟨ng,0,none⟩) 2 2,F none 0 0] 90,cW #[E J 0,E J 0,E J 0,E J 0] 30] z 1 _ rfl
 have eg:=aA bx;have et:=ay.size;have ce:Hid (aD w.heap.size w Y):=Zf (Zf cb ay) ab
 have ST:Hid (RunI w z.heap.size (z.heap.size+1) S X 0 Y):=by
  refine⟨Za ce,⟨none,0,0,some ⟨ng,0,none⟩,2,2,none,0,0,y0,λV gV=>?_,Zr,⟨aH _,by unfold maxLen;omega,λe=>by cases e⟩,Zr⟩,y1,(ab.block _ (by omega)).trans ((ay.block _ ee).trans bs)⟩;rw[Za de];refine⟨Bk.TextsAt.nil _ _,Zjk (gV.heap ((ab.block _ eg).trans bx) (λe=>?_)),RowsAt.nil _ _⟩
  rcases e with e|e|e
  ·omega
  ·omega
  ·omega
 have cz:=Zjn (z.alloc (cW #[F none 0 0,F (some ⟨ng,0,none⟩) 2 2,F none 0 0] 90));rw[<-hY] at cz;have bv:z.heap.size≠z.heap.size+1/\z.heap.size≠w.heap.size/\z.heap.size+1≠w.heap.size/\w.heap.size<z.heap.size/\w.heap.size<z.heap.size+1:=by omega
 have aq:=Zd bv;clear bx eh ay ab y0 y1 C1 cb bs hY bv;go_wp2_with fail
 go_loopw [32] (λi wr=>∃ k:Nat,k<=4/\i = E J k/\Hid (RunI w z.heap.size (z.heap.size+1) S X k wr)) (λi _=>4 - (intOf i).toNat)
 case atStart=>exact⟨0,Nat.zero_le _,rfl,ST⟩
 case round=>
  obtain⟨k,hk,rfl,Q⟩:=hrel;clear ST cz ce;by_cases am:k<4
  ·have ew:(k:Int)<4:=(by omega);have ad:=HR k am;have c0:wr.cell? ⟨g,k*9,none⟩=some (E J (H k).1):=Ze Q.bel (ad 0 _ rfl);have c1:=Ze Q.bel (ad 1 _ rfl);have c2:=Ze Q.bel (ad 2 _ rfl);have c3:=Ze Q.bel (ad 3 _ rfl);have c4:=Ze Q.bel (ad 4 _ rfl);have c5:=Ze Q.bel (ad 5 _ rfl);have c6:=Ze Q.bel (ad 6 _ rfl);have c7:=Ze Q.bel (ad 7 _ rfl);have c8:=Ze Q.bel (ad 8 _ rfl);have eu:g<wr.heap.size:=Nat.lt_of_lt_of_le hg Q.bel.size;obtain⟨ka,kn,kc,na,nn,nc,ma,mn,mc,h1,h2,s1,s2,s3⟩:=Q.box;obtain⟨X1,ax⟩:∃ V,V=wr.alloc (cW #[E J (H k).1,E J (H k).2.1,E J (H k).2.2.1,E J (H k).2.2.2.1,E J (H k).2.2.2.2.1,E J (H k).2.2.2.2.2,E J 0,F none 0 0,F none 0 0] 103):=⟨_,rfl⟩;have al:aD wr.heap.size wr X1:=(by rw[ax];exact Zh _ _);have x1:X1.heap[wr.heap.size]? = some (cW [E J (H k).1,E J (H k).2.1,E J (H k).2.2.1,E J (H k).2.2.2.1,E J (H k).2.2.2.2.1,E J (H k).2.2.2.2.2,E J 0,F none 0 0,F none 0 0].toArray 103 (0,0)):=(by rw[ax];exact aR _ _);have b0:=Zb x1 0 _ rfl;have b1:=Zb x1 1 _ rfl;have b2:=Zb x1 2 _ rfl;have b3:=Zb x1 3 _ rfl;have b4:=Zb x1 4 _ rfl;have b5:=Zb x1 5 _ rfl;have b6:=Zb x1 6 _ rfl;have b7:=Zb x1 7 _ rfl;have b8:=Zb x1 8 _ rfl;have bl:=aA x1;have H1:Hid (X1.heap[z.heap.size]? = some (cW [F ka kn kc,F na nn nc,F ma mn mc].toArray 90 (0,0))):=ZE al h1
   have cg:Hid (X1.heap[z.heap.size+1]? = some (cW [E J (if 0<k then X 0 else 0),E J (if 1<k then X 1 else 0),E J (if 2<k then X 2 else 0),E J (if 3<k then X 3 else 0)].toArray 30 (0,0))):=ZE al Q.said;obtain⟨t0,t1,t2,tl⟩:=cl3 H1;obtain⟨d1,d2,d3⟩:=h2 X1 (Gr.of al);have ck:=HC k am;have CO:=Zd (Te ka kn kc na nn nc ma mn mc (H k).1 (H k).2.1 (H k).2.2.1 (H k).2.2.2.1 (H k).2.2.2.2.1 (H k).2.2.2.2.2 0 none none 0 0 0 0 (S k) 0 (X k) (X k) (W' k) X1 (HE.later (Zf Q.bel al)) d1 d2 d3 s1 s2 s3 (λy hy=>Wy ((Yc ck).2.2.2.2.2.1 y hy)) (HM k am) ck (λ_=>HH k am) (if_pos rfl));have cw:=Zd (HS k am);have cd:=Zd al;have ei:=al.size;clear h1 h2 s1 s2 s3 d1 d2 d3 ck x1 al ad
   go_upto_region 10 with fail
   rw[<-ax];clear ax c0 c1 c2 c3 c4 c5 c6 c7 c8;go_wp2_with fail;refine CO.mono ?_;rintro e U ⟨az,hr⟩;have cc:=onb cd az;have bt:=mvd az H1;have ar:=mvd az cg;clear CO az H1 cg cd t0 t1 t2 tl b0 b1 b2 b3 b4 b5 b6 b7 b8 bl;obtain⟨v,hv⟩:∃ v,([E J (if 0<k then X 0 else 0),E J (if 1<k then X 1 else 0),E J (if 2<k then X 2 else 0),E J (if 3<k then X 3 else 0)]:List Value)[k]? = some v:=⟨_,List.getElem?_eq_getElem (by simp;omega)⟩
   rcases hr with ⟨hx,rfl⟩|⟨hx,k1,bf,be,n1,bj,bi,m1,bh,bg,rfl,hF,s1,s2,s3⟩
   ·have gx:(X k == 0)=false:=(by simp[hx]);obtain⟨Y,hY⟩:=ZG (U.alloc (cW #[F none 0 0,F none 0 0,F none 0 0] 90));have ab:aD U.heap.size U Y:=(by rw[hY];exact Zh _ _);have ae:=mvd ab ar;have vc:=Zb ae k _ hv;have vf:=Zg ae k;have vl:=aA ae
    have NX:Hid (RunI w z.heap.size (z.heap.size+1) S X (k+1) (Y.setCell ⟨z.heap.size+1,k,none⟩ (E J (X k)))):=by
     refine Q.step aq (Zf cc ab) ((Gr.refl Y (λq=>q=z.heap.size+1)).one _ k (.inl rfl) _) ?_ ?_
     ·have:=Tr.set_cells ae k (E J (X k));rw[Zcw X am] at this;exact this
     ·rw[Za cw,if_neg hx]
    clear ab ar bt ae hx
    go_upto_region 11 with fail
    rw[<-hY];clear hY;go_wp2;go_roundw
    case rel=>exact⟨k+1,by omega,by go_num,NX⟩
    case measure=>simp[intOf];omega
   ·obtain⟨Y,hY⟩:=ZG (U.alloc (cW #[F k1 bf be,F n1 bj bi,F m1 bh bg] 90));have ab:aD U.heap.size U Y:=(by rw[hY];exact Zh _ _);have cj:Hid (Y.heap[U.heap.size]? = some (cW [F k1 bf be,F n1 bj bi,F m1 bh bg].toArray 90 (0,0))):=(by rw[hY];exact aR _ _);have ae:=mvd ab ar;have an:=mvd ab bt;obtain⟨u0,u1,u2,ul⟩:=cl3 cj;obtain⟨t0,t1,t2,tl⟩:=cl3 an;have e0:=Zg an 0;have e1:=Zg an 1;have e2:=Zg an 2;obtain⟨fd,hQ⟩:=ZG (((Y.setCell ⟨z.heap.size,0,none⟩ (F k1 bf be)).setCell ⟨z.heap.size,1,none⟩ (F n1 bj bi)).setCell ⟨z.heap.size,2,none⟩ (F m1 bh bg));have gQ:Gr Y fd (λq=>q=z.heap.size):=(by rw[hQ];exact (((Gr.refl Y (λq=>q=z.heap.size)).one _ 0 (.inl rfl) _).one _ 1 (.inl rfl) _).one _ 2 (.inl rfl) _);have cf:Hid (fd.heap[z.heap.size]? = some (cW [F k1 bf be,F n1 bj bi,F m1 bh bg].toArray 90 (0,0))):=(by rw[hQ];exact Tr.set_cells (Tr.set_cells (Tr.set_cells an 0 _) 1 _) 2 _);have ap:Hid (fd.heap[z.heap.size+1]? = some (cW [E J (if 0<k then X 0 else 0),E J (if 1<k then X 1 else 0),E J (if 2<k then X 2 else 0),E J (if 3<k then X 3 else 0)].toArray 30 (0,0))):=gQ.heap ae (by show ¬z.heap.size+1=z.heap.size;omega);have vc:=Zb ap k _ hv;have vf:=Zg ap k;have vl:=aA ap
    have NX:Hid (RunI w z.heap.size (z.heap.size+1) S X (k+1) (fd.setCell ⟨z.heap.size+1,k,none⟩ (E J (X k)))):=by
     have gS:Gr fd (fd.setCell ⟨z.heap.size+1,k,none⟩ (E J (X k))) (λq=>q=z.heap.size+1):=(Gr.refl fd (λq=>q=z.heap.size+1)).one _ k (.inl rfl) _;refine Q.took aq (H0:=X1.heap.size) ei cc ab ((gQ.mono (λq _ e=>.inl e)).trans (gS.mono (λq _ e=>.inr e))) (gS.heap cf (by show ¬z.heap.size=z.heap.size+1;omega)) ?_ hF s1 s2 s3 ?_
     ·have:=Tr.set_cells ap k (E J (X k));rw[Zcw X am] at this;exact this
     ·rw[Za cw,if_pos hx]
    have eo:=Zd hx;rw[hx] at NX;clear ab ar bt ae an hF s1 s2 s3 gQ cf ap cj
    go_upto_region 11 with fail
    rw[<-hY];clear hY
    go_upto_region 13 with fail
    rw[<-hQ];clear hQ t0 t1 t2 e0 e1 e2 u0 u1 u2;go_wp2;go_roundw
    case rel=>exact⟨k+1,by omega,by go_num,NX⟩
    case measure=>simp[intOf];omega
  ·have e:k=4:=(by omega);subst e;obtain⟨ka,kn,kc,na,nn,nc,ma,mn,mc,h1,h2,s1,s2,s3⟩:=Q.box;obtain⟨t0,t1,t2,tl⟩:=cl3 (Zd h1);obtain⟨r0,r1,r2,rl⟩:=cl3 (Zd Q.res);have f0:=Zg Q.res 0;have f1:=Zg Q.res 1;have f2:=Zg Q.res 2
   have dd:Hid (∀ V,Gr wr V (λq=>q=w.heap.size)->RunR w V S X (cY (cZ #[.agg #[F ka kn kc,F na nn nc,F ma mn mc],F (some ⟨z.heap.size+1,0,none⟩) 4 4,E J 0]))):=λV g=>by
    have bv:=Za aq;exact⟨ka,kn,kc,na,nn,nc,ma,mn,mc,z.heap.size+1,rfl,h2 V (g.mono (λq _ e=>.inr (.inr e))),s1,s2,s3,g.heap Q.said (λe=>by have e:z.heap.size+1=w.heap.size:=e;omega),g.below Q.bel Q.bel.size (λq e=>cN (Eq.symm e))⟩
   have nd:z.heap.size≠w.heap.size:=aq.2.1;clear h1 h2 s1 s2 s3;go_wp2;(try simp only[Exit.inBlock,Exit.then]);refine bA (v:=cZ #[.agg #[F ka kn kc,F na nn nc,F ma mn mc],F (some ⟨z.heap.size+1,0,none⟩) 4 4,E J 0]) ?_ rfl ?_
   ·rw[Bk.results_cell_tmp2 rfl];go_simp
   ·refine dd _ ?_
    repeat' first|refine Gr.one ?_ _ _ ?_ _|exact Gr.refl _ _
    all_goals exact Or.inl rfl
