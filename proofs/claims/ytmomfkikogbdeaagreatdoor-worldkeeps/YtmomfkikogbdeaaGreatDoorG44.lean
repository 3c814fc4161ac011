import Derived.Test.YtmomfkikogbdeaaGreatDoorH
import Derived.Test.YtmomfkikogbdeaaGreatDoorG43
open Go.Proofs.Tryz
open Decidable renaming not_not->aQ
open Go renaming heap_alloc_new->aJ
open Go.Ending renaming returned->cS
open Go.IntKind renaming i64->J
open Go.Obj renaming cells->cR
open Go.Proofs.Tryz renaming prog->aA
open Go.Value renaming int->E,slice->F,tuple->cT,pointer->cU
open List renaming length_append->bH,length_set->bY
open Nat renaming le_refl->aF,zero_le->aM
open Prod renaming fst->bK
open Prod.mk renaming injEq->aP
set_option maxHeartbeats 12800000
set_option maxRecDepth 10000
namespace Go.Proofs.YtmomfkikogbdeaaGreatDoor
open Go.RowKit
theorem Zfy{K C C'}{ah:List TxD}{h:Int}(hK:Bk.Right K)(hC:Y8 C)(h1:1<=h)(h2:h<=1000)(hl:ah.length<=8)(e:Zu h ah (K,C)=(ah,K,C')){N T}{t:Int}{β : Int->List Zj}(hB : β t=C)(hh:Yt N T t+1=h):poE K N T ah t β = 0:=by
 have ck:=Mv (Gx hK ah C C' e);have ac:=(Jd ah K C hK hC (h:=h)).2.2;rw[e] at ac;unfold poE;split
 ·rfl
 have ae:ah.all (knT K)=true:=List.all_eq_true.2 (λx hx=>by
  have c1:=(ac x hx).1;have Q:=ck x hx;have c3:=Bk.nm_place Q.2;rw[Q.1] at c3;unfold knT;rw[Uz c1];have:=c3.2.1;simp[c1];omega)
 have af:swE K C ah h=0:=by
  unfold swE;rw[Tq hK hC h1 h2];simp;omega
 rw[if_neg (by rw[ae];decide),hB,hh,e,if_neg (by rw[af];decide)];simp
theorem Zis{K C P t}{h:Int}{z Q}(e:acE K C P t h=(0,z,Q)):swE K C P h=0/\(∃ C2,doD h (Zu h P (K,C)).2 t=(0,z,C2))/\(Zu h P (K,C)).1.length≠8/\Q=(Zu h P (K,C)).1++[t]:=by
 unfold acE at e;split at e
 ·rename_i q;exact absurd (congrArg bK e) q
 rename_i q1;split at e
 ·exact absurd (congrArg bK e) (by simp)
 split at e
 ·rename_i q;exact absurd (congrArg bK e) q
 rename_i q3;split at e
 ·exact absurd (congrArg bK e) (by simp)
 rename_i q4;simp only[aP,true_and] at e;exact⟨aQ.1 q1,⟨_,Prod.ext (aQ.1 q3) (Prod.ext e.1 rfl)⟩,q4,e.2.symm⟩
theorem Cm{K N T P}{tip:Int}{t}{D:Dsk}(h:noR K N T P tip t=(0,D)) :
  opE K N T P tip=0/\opE D.k D.n D.t D.p D.tip=0/\D.p.length≠0/\noR D.k D.n D.t D.p D.tip t=(6,Dsk.none)/\D.n=N/\D.t=T/\D.tip=tip/\(∃ M,D.k=K++M)/\Zw t=0:=by
 unfold noR at h;split at h
 ·rename_i q;exact absurd (congrArg bK h) q
 rename_i q1;have q1:=aQ.1 q1;split at h
 ·rename_i q;exact absurd (congrArg bK h) q
 rename_i q2;have q2:=aQ.1 q2;obtain⟨⟨x,Q,P1⟩,hr⟩:=ZF (acE K ((Z3 K N T noB).2 tip) P t (Yt N T tip+1));rw[hr] at h q2;have q2:x=0:=q2;subst q2;simp only[aP,true_and] at h;subst h;simp only;obtain⟨C,ae⟩:=ZF ((Z3 K N T noB).2 tip);rw[ae] at hr;obtain⟨z,hz⟩:=ZF (Yt N T tip+1);rw[hz] at hr;obtain⟨a1,⟨C2,a2⟩,a3,rfl⟩:=Zis hr;obtain⟨o,hl⟩:=Ua a1;obtain⟨hK,hC,h1,h2⟩:=W7 o;have ac:=Zlg hK a2;obtain⟨s1,M1,s2⟩:=Wm P K C hK (h:=z);have av:doD z ((Zu z P (K,C)).2.1,(Zu z P (K,C)).2.2) t=(0,Q,C2):=a2;obtain⟨d1,⟨M2,d2⟩,_,_,d5⟩:=T7 s1 av;have hM:Q=K++(M1++M2):=by rw[d2,s2,List.append_assoc]
 obtain⟨o1,o2,o3,_⟩:=Yp q1;have ok:=Tr.TrOk.of (Yn o2).1;have bb:∀ x∈N,x≠0:=λx hx=>by have:=(ok.nm x hx).1;omega
 have cb:Z3 Q N T noB=Z3 K N T noB:=by
  rw[hM];exact Jv hK (hM ▸ d1) N T noB bb o3
 have bk:(Zu z P (K,C)).1.length<=P.length:=by
  have e2:=congrArg List.length (Un z P (K,C));have:=J1 z P (K,C);rw[List.length_map] at e2;omega
 have az:((Zu z P (K,C)).1++[t]).length<=8:=by rw[bH,List.length_singleton];omega
 have po:=Zfy d1 hC h1 h2 az ac (N:=N) (T:=T) (t:=tip) (β:=(Z3 K N T noB).2) ae hz
 have op:opE Q N T ((Zu z P (K,C)).1++[t]) tip=0:=by
  unfold opE;rw[if_neg (by rw[(Bk.right_iff _).2 d1];decide),o2];simp only[ne_eq,not_true_eq_false,if_false,cb,o3];exact po
 refine⟨q1,op,by rw[bH,List.length_singleton];omega,?_,trivial,trivial,trivial,⟨_,hM⟩,d5⟩
 have bd:swE Q C ((Zu z P (K,C)).1++[t]) z=0:=by
  unfold swE;rw[Tq d1 hC h1 h2];simp only[ne_eq,not_true_eq_false,if_false];rw[if_neg (by omega)]
 have h6:acE Q C ((Zu z P (K,C)).1++[t]) t z=(6,[],[]):=by
  unfold acE;rw[if_neg (by rw[bd];decide),ac,if_pos (by rw[List.any_append];simp[Bz])]
 unfold noR;rw[if_neg (by rw[op];decide),cb,ae,hz,h6,if_pos (by simp)]
theorem Bs{K N T P}{tip s:Int}{b:Zl}(h:opE K N T P tip=0)(Q:kbD K s b=true)(hs:s∈N):ntR K N T P tip b=(6,0,Dsk.none):=by
 obtain⟨o1,o2,_,_⟩:=Yp h;have z:=(Yn o2).1;have ok:=Tr.TrOk.of z;have ad:=ok.nm s hs;have hn:=Sn ((Bk.right_iff K).1 o1) (by omega) Q
 have ha:Tr.addE N T s b=([],[],6):=by
  have hx:Tr.nextD N T s b=6:=by
   unfold Tr.nextD;rw[if_neg (by simp[ad]),if_neg (by simp[(Wj Q).1]),if_pos (by simpa using hs)]
  unfold Tr.addE;rw[if_neg (λq=>q z),hx,if_pos (by decide)]
 have e:tkR ⟨K,N,T,P,tip,(Z3 K N T noB).2⟩ b=(6,0,⟨K,N,T,P,tip,(Z3 K N T noB).2⟩):=by
  unfold tkR;simp only[hn,ha];rw[if_neg (λq=>q rfl),if_pos (by decide)]
 unfold ntR;rw[if_neg (by rw[h];decide),e,if_pos (by simp)]
theorem Hs{K N T P}{tip wk no:Int}{l}{b:Zl}{D:Dsk}(h:nmR K N T P tip wk no l=(0,b,D)) :
  opE K N T P tip=0/\opE D.k D.n D.t D.p D.tip=0/\ntR D.k D.n D.t D.p D.tip b=(6,0,Dsk.none)/\Tr.blockE D.n D.t D.tip=(b,0)/\b.1=tip/\∃ nm,tkR ⟨K,N,T,P,tip,(Z3 K N T noB).2⟩ b=(0,nm,D):=by
 unfold nmR at h;split at h
 ·rename_i q;exact absurd (congrArg bK h) q
 rename_i q1;have q1:=aQ.1 q1;split at h
 ·rename_i q;exact absurd (congrArg bK h) q
 rename_i q2;have q2:=aQ.1 q2;simp only[aP,true_and] at h;have z:mnR ⟨K,N,T,P,tip,(Z3 K N T noB).2⟩ wk no l=(0,b,D):=Prod.ext q2 (Prod.ext h.1 h.2);unfold mnR at z;simp only at z;obtain⟨⟨y,b2⟩,Q⟩:=ZF (mkE K ((Z3 K N T noB).2 tip) P tip (Yt N T tip+1) wk no l);rw[Q] at z;simp only at z;split at z
 ·rename_i q;exact absurd (congrArg bK z) q
 rename_i q3;have q3:=aQ.1 q3;subst q3;split at z
 ·rename_i q;exact absurd (congrArg bK z) q
 rename_i q4;have q4:=aQ.1 q4;simp only[aP,true_and] at z;obtain⟨rfl,hD⟩:=z
 have ap:b2.1=tip:=by
  unfold mkE at Q;split at Q
  ·rename_i q;exact absurd (congrArg bK Q) q
  split at Q
  ·exact absurd (congrArg bK Q) (by simp)
  split at Q
  ·rename_i q;exact absurd (congrArg bK Q) q
  rw[<-(Prod.mk.inj Q).2]
 obtain⟨nm,bb⟩:=ZF ((tkR ⟨K,N,T,P,tip,(Z3 K N T noB).2⟩ b2).2.1);have e:tkR ⟨K,N,T,P,tip,(Z3 K N T noB).2⟩ b2=(0,nm,D):=Prod.ext q4 (Prod.ext bb hD);obtain⟨t1,_,t3,t4,t5,_,t7⟩:=Jz q1 e;have aq:nm∈D.n:=by rw[t3];simp
 obtain⟨_,o2,_,_⟩:=Yp q1;obtain⟨_,p2,_,_⟩:=Yp t1;obtain⟨a1,a2,a3,_,_⟩:=Tr.addE_ok t7;have okN:=Tr.TrOk.of a1;have af:=(Yn p2).1;have bh:=Tr.TrOk.of af
 have ay:Tr.bstGo N T 0 0 N=tip:=by
  unfold Tr.bstD at o2;rw[if_neg (λq=>q a1)] at o2;exact congrArg bK o2
 have az:Tr.bstGo (N++[nm]) (T++[b2]) 0 0 (N++[nm])=D.tip:=by
  unfold Tr.bstD at p2;rw[if_neg (λq=>q af),t3,t4] at p2;exact congrArg bK p2
 obtain⟨f1,f2,_,_,f5⟩:=Tr.best_more okN a2 _ _ ay az;obtain⟨g1,g2,g3,_,_⟩:=Tr.nextD_ok a2
 have hD:D.tip=nm:=by
  rcases f2 with q|q
  ·have w1:=okN.wrk_same (b:=b2) g1.1 f1;have w2:=okN.wrk_new a2;have w3:=Tr.chkB_head g2;rw[q,w1,w2,ap] at f5;omega
  ·exact q
 refine⟨q1,t1,Bs t1 t5 aq,?_,ap,nm,e⟩;unfold Tr.blockE;rw[hD,if_neg (λq=>q af),if_pos (by simpa using aq),t3,t4,Tr.fnd_app_r okN.len g3];simp[Tr.fnd]
theorem nt_tk{K N T P}{tip:Int}{b:Zl}{s:Int}{D:Dsk}(h:ntR K N T P tip b=(0,s,D)):opE K N T P tip=0/\tkR ⟨K,N,T,P,tip,(Z3 K N T noB).2⟩ b=(0,s,D):=by
 unfold ntR at h;split at h
 ·rename_i q;exact absurd (congrArg bK h) q
 rename_i z;have z:=aQ.1 z;split at h
 ·rename_i q;exact absurd (congrArg bK h) q
 rename_i Q;have Q:=aQ.1 Q;simp only[aP,true_and] at h;exact⟨z,Prod.ext Q (Prod.ext h.1 h.2)⟩
open Bk (Right nm nameR)
theorem Cv{K}{s:ByteArray}(hK:Right K)(z:Bk.place s K≠0):(nameR K s).1=K:=by
 rw[F3 hK,Bk.nm_there (Hd hK (by omega)) (by omega)]
theorem Gw{h:Int}{K}(hK:Right K):∀ (l:List TxD) (C:List Zj),l.all (knT K)=true->(Zu h l (K,C)).2.1=K
 | [],_,_=>rfl
 | t :: l,C,ha=>by
  rw[List.all_cons,Bool.and_eq_true] at ha
  have ht:Bk.place (txT t) K≠0:=by
   have:=ha.1;unfold knT at this;simp at this;exact this.2
  rw[Zu];by_cases q:(doD h (K,C) t).1=0
  ·rw[if_pos q]
   have e:(doD h (K,C) t).2.1=K:=by
    unfold doD at *;split at q
    ·rename_i q1;exact absurd q q1
    rename_i q1;rw[if_neg q1] at *;split at q
    ·exact absurd (show (4:Int)=0 from q) (by decide)
    rename_i q2;rw[if_neg q2] at *;split at q
    ·rename_i q3;exact absurd q q3
    rename_i q3;rw[if_neg q3] at *;split at q
    ·rename_i q4;exact absurd q q4
    rename_i q4;rw[if_neg q4];exact Cv hK ht
   obtain⟨Q,z,h2⟩:∃ Q z,(doD h (K,C) t).2=(Q,z):=⟨_,_,rfl⟩;rw[h2] at e ⊢;have e:Q=K:=e;subst e;exact Gw hK l z ha.2
  ·rw[if_neg q];exact Gw hK l C ha.2
theorem Bv{h:Int}:∀ (l:List TxD) (s:List ByteArray×List Zj),(Zu h l s).1.length<=l.length/\(¬(Zu h l s).1.length<l.length->(Zu h l s).1=l)
 | [],_=>⟨aF _,λ_=>rfl⟩
 | t :: l,s=>by
  rw[Zu];by_cases q:(doD h s t).1=0
  ·rw[if_pos q];obtain⟨h1,h2⟩:=Bv (h:=h) l (doD h s t).2;exact⟨by simp;exact h1,λe=>by simp at e;simp[h2 (by omega)]⟩
  ·rw[if_neg q];obtain⟨h1,h2⟩:=Bv (h:=h) l s;exact⟨by simp;omega,λe=>by simp at e;omega⟩
theorem Zcz{K M t}(h:knT K t=true):knT (K++M) t=true:=by
 unfold knT at *;simp at h ⊢;exact⟨h.1,by rw[Bk.place_stays M (Nat.pos_of_ne_zero h.2)];exact h.2⟩
theorem Cn{K M}{y:Vo}(h:opN K y=0)(Q:Right (K++M)):opN (K++M) y=0:=by
 obtain⟨N,T,P,tip⟩:=y;have h:opE K N T P tip=0:=h;show opE (K++M) N T P tip=0;obtain⟨o1,o2,o3,z⟩:=Yp h;have hK:=(Bk.right_iff K).1 o1;have ok:=Tr.TrOk.of (Yn o2).1;have cb:=Jv hK Q N T noB (λx hx=>by have:=(ok.nm x hx).1;omega) o3
 have ak:poE (K++M) N T P tip (Z3 K N T noB).2=0:=by
  unfold poE at z ⊢;split at z
  ·rename_i q;rw[if_pos q]
  rename_i q1;rw[if_neg q1];split at z
  ·exact absurd z (by decide)
  rename_i q2;have ka:P.all (knT K)=true:=by simpa using q2
  have ka':P.all (knT (K++M))=true:=List.all_eq_true.2 (λt ht=>Zcz (List.all_eq_true.1 ka t ht));rw[if_neg (by rw[ka'];decide)];split at z
  ·rename_i q;exact absurd z q
  rename_i q3;have q3:=aQ.1 q3;split at z
  ·exact absurd z (by decide)
  rename_i q4;obtain⟨oo,hl⟩:=Ua q3;obtain⟨_,ah,h1,h2⟩:=W7 oo
  have al:swE (K++M) ((Z3 K N T noB).2 tip) P (Yt N T tip+1)=0:=by
   unfold swE;rw[Tq Q ah h1 h2];simp;exact hl
  rw[if_neg (by rw[al];decide)];have e1:=(Bv (h:=Yt N T tip+1) P (K,(Z3 K N T noB).2 tip)).2 q4;have e2:=Gw hK (h:=Yt N T tip+1) P ((Z3 K N T noB).2 tip) ka;have ag:=Je P K ((Z3 K N T noB).2 tip) M hK (h:=Yt N T tip+1) (by rw[e2];exact Q);rw[e1,e2] at ag;rw[ag];simp
 unfold opE;rw[if_neg (by rw[(Bk.right_iff _).2 Q];decide),o2];simp only[ne_eq,not_true_eq_false,if_false,cb,o3];exact ak
theorem N8{W:WD}(h1:1<=W.n.length)(h2:W.n.length<=4)(h3:Bk.bkChk W.k=0)(h4:W.m.length<=20)(h5:∀ y∈W.n,opN W.k y=0)(h6:∀ m∈W.m,Re m W.n.length=0):Xl W.k W.n W.m=0:=by
 have n0:∀ L,(∀ y∈L,opN W.k y=0)->Wx W.k L=0:=by
  intro L
  induction L with
  | nil=>intro _;rfl
  | cons x L ih=>
   intro h;rw[Wx,if_neg (λq=>q (h x (by simp)))];exact ih (λy z=>h y (by simp[z]))
 have m0:∀ L,(∀ m∈L,Re m W.n.length=0)->Qd W.n.length L=0:=by
  intro L
  induction L with
  | nil=>intro _;rfl
  | cons x L ih=>
   intro h;rw[Qd,if_neg (λq=>q (h x (by simp)))];exact ih (λy z=>h y (by simp[z]))
 unfold Xl;rw[if_neg (λq=>q ⟨h1,h2⟩),if_neg (λq=>q h3),if_neg (by omega),if_neg (λq=>q (n0 _ h5))];exact m0 _ h6
theorem Zhd{W:WD}{k:Nat}{m:Jb}(h:m∈(W.lost k).m):m∈W.m:=by
 rcases List.mem_append.1 h with h|h
 ·exact List.mem_of_mem_take h
 ·exact List.mem_of_mem_drop h
theorem Ba{W:WD}(h:Xl W.k W.n W.m=0)(k:Nat):Xl (W.lost k).k (W.lost k).n (W.lost k).m=0:=by
 obtain⟨Q,q2,q3,_,q5,q6,q7⟩:=Yc h;refine N8 (W:=W.lost k) Q q2 q3 ?_ q6 (λm z=>q7 m (Zhd z));show (W.m.take k++W.m.drop (k+1)).length<=20;simp;omega
theorem Zcj(ka kn kc na ba pa nn nc bn bc pn pc K N T)(P:List TxD)(tip:Int)(th:Int)(ai ao ni ci no co I O)(mb:Nat)(x:Int)(D:Dsk)(w:World)(hE:Env w)(hK:Bk.TextsAt w ka kn K)(hN:Tr.IntsAt w na nn N)(hT:Tr.BlksAt w ba bn T)(hP:TxsAt w pa pn P)(sN:SlOk na nn nc)(sT:SlOk ba bn bc)(sP:SlOk pa pn pc)(hp:P.length<=2513169434916)(hq:∀ t∈P,Tr.TxSmall t)
  (hm:w.heap[mb]? = some (cR [E J th,F ai ni ci,F ao no co].toArray 59 (0,0))) (hI:InsAt w ai ni I) (hO:OutsAt w ao no O) (sI:SlOk ai ni ci) (sO:SlOk ao no co) (hx:noR K N T P tip (th,I,O)=(x,D)) :
  Calls aA 300 #[.agg #[F ka kn kc],.agg #[F na nn nc,F ba bn bc,F pa pn pc,E J tip],cU (some ⟨mb,0,none⟩)] w λe w'=>Sh w w' x D e/\ZD w w':=by
 obtain⟨X,Q⟩:=ZG (Yr w [cR #[F ka kn kc] 24,cR #[F na nn nc,F ba bn bc,F pa pn pc,E J tip] 67,cR #[F none 0 0] 24,cR #[F none 0 0,F none 0 0,F none 0 0,E J 0] 67]);have aw:X=(((w.alloc (cR #[F ka kn kc] 24)).alloc (cR #[F na nn nc,F ba bn bc,F pa pn pc,E J tip] 67)).alloc (cR #[F none 0 0] 24)).alloc (cR #[F none 0 0,F none 0 0,F none 0 0,E J 0] 67):=Q;have z:ZD w X:=by rw[Q];exact Zs _ _
 have ax:X.heap.size=w.heap.size+4:=by rw[Q];exact Zy _ _
 have bk:X.heap[w.heap.size]? = some (cR [F ka kn kc].toArray 24 (0,0)):=by rw[Q];exact Zk _ w 0 _ rfl
 have bo:X.heap[w.heap.size+1]? = some (cR [F na nn nc,F ba bn bc,F pa pn pc,E J tip].toArray 67 (0,0)):=by rw[Q];exact Zk _ w 1 _ rfl
 have bq:X.heap[w.heap.size+1+1]? = some (cR [F none 0 0].toArray 24 (0,0)):=by rw[Q];exact Zk _ w 2 _ rfl
 have br:X.heap[w.heap.size+1+1+1]? = some (cR [F none 0 0,F none 0 0,F none 0 0,E J 0].toArray 67 (0,0)):=by rw[Q];exact Zk _ w 3 _ rfl
 have C1:=Zd (Zcp ka kn kc K na ba pa nn nc bn bc pn pc N T P tip X (hE.later z) (hK.later z) (hN.later z) (hT.later z) (hP.later z) sN sT sP (by rw[<-hP.1];exact hp) hq th ai ao ni ci no co I O (hI.later z) (hO.later z) sI sO x D hx);have aa:=ZE z hm;have an:=Zd z;have ar:=Zd ax;have ap:=Zd bq;have aq:=Zd br;obtain⟨t0,tl⟩:=cl1 (Zd bk);obtain⟨t1,t2,t3,t4,cd⟩:=cl4 (Zd bo);have m0:=Zb aa 0 _ rfl;have m1:=Zb aa 1 _ rfl;have m2:=Zb aa 2 _ rfl;have ml:=lt_of_block aa;clear hE hK hN hT hP sN sT sP hp hq hm hI hO sI sO hx z ax bk bo bq br Q aa;go_enter func300,ntmps300
 go_upto_region 1 with fail
 rw[<-aw];clear aw;(try go_wp2_with fail);refine C1.mono ?_;rintro e w1 ⟨⟨k1,ag,af,n1,aj,ah,b1,ad,ac,p1,am,al,rfl,hF,s1,s2,s3,s4⟩,ab⟩;have h2:=ZE ab ap;have h3:=ZE ab aq
 have bs:Hid (∀ W,Gr w1 W (λq=>q=w.heap.size+1+1\/q=w.heap.size+1+1+1)->Sh w W x D (cS (cT #[.agg #[F k1 ag af],.agg #[F n1 aj ah,F b1 ad ac,F p1 am al,E J D.tip],E J x]))/\ZD w W):=λW g=>by
  have cl:=Za ar;have ay:=Zf an ab;exact⟨⟨k1,ag,af,n1,aj,ah,b1,ad,ac,p1,am,al,rfl,λW2 g2=>hF W2 ((g.mono (λq _ e=>by omega)).trans (g2.mono (λq _ e=>by omega))),s1,s2,s3,s4⟩,g.below ay ay.size (λq e=>by omega)⟩
 obtain⟨cm,cp⟩:=cl1 (Zd h2);have cn:=Zg h2 0;obtain⟨cq,ct,cu,cw,cx⟩:=cl4 (Zd h3);have ce:=Zg h3 0;have cf:=Zg h3 1;have cg:=Zg h3 2;have cj:=Zg h3 3;clear h2 h3 hF s1 s2 s3 s4 ab C1 t0 t1 t2 t3 t4 tl cd m0 m1 m2 ml ap aq ar an;go_wp2;(try simp only[Exit.inBlock,Exit.then]);refine bodyPost_ret (v:=cT #[.agg #[F k1 ag af],.agg #[F n1 aj ah,F b1 ad ac,F p1 am al,E J D.tip],E J x]) ?_ rfl ?_
 ·rw[Xi rfl];go_simp
 ·exact bs _ (((Gr.refl w1 (λq=>q=w.heap.size+1+1\/q=w.heap.size+1+1+1)).one (w.heap.size+1+1) 0 (.inl (.inl rfl)) _).four (w.heap.size+1+1+1) (.inl (.inr rfl)) _ _ _ _)
def WD.offer(W:WD)(i:Nat)(t:TxD):Int×WD:=
 if h:i<W.n.length then
  let y:=W.n[i]
  let r:=noR W.k y.1 y.2.1 y.2.2.1 y.2.2.2 t
  (r.1,if r.1=0 then W.put i r.2 else W)
 else (0,W)
theorem Fu(Z:Nat->Prop)(s:Nat)(W:WD)(i:Nat)(th:Int)(ai ao ni ci no co I O)(x:Int)(W':WD)(w)(hE:Env w)(hS:Sc Z s W w)(hi:i<W.n.length)(ab:Vr W.n[i])(hI:InsAt w ai ni I)(hO:OutsAt w ao no O)(sI:SlOk ai ni ci)(sO:SlOk ao no co)(hx:W.offer i (th,I,O)=(x,W')) :
  Calls aA 269 #[cU (some ⟨s,0,none⟩),E J i,.agg #[E J th,F ai ni ci,F ao no co]] w λe w'=>e = cS (E J x)/\Sc Z s W' w'/\Gr w w' (λq=>¬Z q):=by
 obtain⟨X,z⟩:=ZG (w.alloc (cR #[E J th,F ai ni ci,F ao no co] 59));have Q:ZD w X:=by rw[z];exact Zh _ _
 have al:X.heap[w.heap.size]? = some (cR [E J th,F ai ni ci,F ao no co].toArray 59 (0,0)):=by rw[z];exact aJ _ _
 obtain⟨y,hy⟩:=ZF (W.n[i]);obtain⟨⟨x1,D⟩,hr⟩:=ZF (noR W.k y.1 y.2.1 y.2.2.1 y.2.2.2 (th,I,O))
 have eT:(x,W')=(x1,if x1=0 then W.put i D else W):=by
  rw[<-hx];unfold WD.offer;rw[dif_pos hi];simp only[hy,hr]
 injection eT with e1 e2;subst e1;have HW:=Zd e2
 have DO:DoN w X 300 #[cU (some ⟨w.heap.size,0,none⟩)] W.k W.n[i] x D (λ_ _ _=>True):=by
  refine⟨enters_of (fn:=Tryz.f300) (by kernel_rfl) (by kernel_rfl) rfl,λlo bf V V' h g=>trivial,λV hv ka kn kc na nn nc ba bn bc pa pn pc h1 h2 h3 h4 h5 h6 h7 h8=>?_⟩;have hw:=Zf Q hv;have bd:=ZE hv al;refine (Zcj ka kn kc na ba pa nn nc bn bc pn pc W.k _ _ _ _ th ai ao ni ci no co I O w.heap.size x D V (hE.later hw) h1 h3 h4 h5 h6 h7 h8 ab.1 ab.2 bd (hI.later hw) (hO.later hw) sI sO (by rw[hy];exact hr)).mono ?_;rintro e V' ⟨hc,hb⟩;exact⟨hc,Gr.of hb,trivial⟩
 have C1:=Zd (Ry Z s W i 300 #[cU (some ⟨w.heap.size,0,none⟩)] x D _ w X hS Q hi DO);clear hE hS ab hI hO sI sO Q al hr hy DO hx e2;go_enter func269,ntmps269
 go_upto_region 1 with fail
 rw[<-z];clear z;(try go_wp2_with fail);refine C1.mono ?_;rintro e w1 ⟨rfl,ak,am,_,_⟩;have au:Hid (Sc Z s W' w1):=by rw[Za HW];exact ak
 have av:=Zd am;clear am C1 ak;go_wp2;go_ret;exact⟨rfl,Za au,Za av⟩
def WD.submit(W:WD)(i:Nat)(t:TxD):Int×WD:=
 ((W.offer i t).1,(W.offer i t).2.sendAll 3 i 0 Yf t (W.offer i t).2.n.length)
theorem Zci(W:WD)(i:Nat)(t):(W.offer i t).2.n.length=W.n.length:=by
 unfold WD.offer;split
 ·dsimp only;split
  ·show (W.n.set i _).length=_;rw[bY]
  ·rfl
 ·rfl
theorem Zbo(Z:Nat->Prop)(s:Nat)(W:WD)(xk:Int)(xn:Nat)(xt xi xw xN:Int)(th:Int)(ai ao ni ci no co I O)(x:Int)(W':WD)(w)(hE:Env w)(hS:Sc Z s W w)(hi:xn<W.n.length)(ax:W.n.length<=4)(ay:Vr W.n[xn])(hT:∀ V,Gr w V (λq=>¬Z q)->InsAt V ai ni I/\OutsAt V ao no O)(sI:SlOk ai ni ci)(sO:SlOk ao no co)(hz:Tr.TxSmall (th,I,O))(hx:W.submit xn (th,I,O)=(x,W')) :
  Calls aA 236 #[cU (some ⟨s,0,none⟩),.agg #[E J xk,E J xn,E J xt,E J xi,E J xw,E J xN,E J th,F ai ni ci,F ao no co]] w λe w'=>e = cS (E J x)/\(x=0->Sc Z s W' w')/\Gr w w' (λq=>¬Z q):=by
 obtain⟨X,hX⟩:=ZG (w.alloc (cR #[E J xk,E J xn,E J xt,E J xi,E J xw,E J xN,E J th,F ai ni ci,F ao no co] 103));have af:ZD w X:=by rw[hX];exact Zh _ _
 have z:X.heap[w.heap.size]? = some (cR [E J xk,E J xn,E J xt,E J xi,E J xw,E J xN,E J th,F ai ni ci,F ao no co].toArray 103 (0,0)):=by rw[hX];exact aJ _ _
 have hl:=Zci W xn (th,I,O);obtain⟨⟨x1,Q⟩,hr⟩:=ZF (W.offer xn (th,I,O));unfold WD.submit at hx;rw[hr] at hx hl;injection hx with e1 e2;have e1:x1=x:=e1;have e2:Q.sendAll 3 xn 0 Yf (th,I,O) Q.n.length=W':=e2;have hl:Q.n.length=W.n.length:=hl;subst e1 e2;have ag:Gr w X (λq=>¬Z q):=Gr.of af;have C1:=Zd (Fu (λq=>Z q\/q=w.heap.size) s W xn th ai ao ni ci no co I O x1 Q X (hE.later af) (hS.widen af w.heap.size (aF _) (lt_of_block z)) hi ay (hT X ag).1 (hT X ag).2 sI sO hr);have HT:=Zd hT;have HZ:=Zd hz;have bh:=Zd hl;have bg:Hid (Q.n.length<=4):=by rw[hl];exact ax
 have bf:=Zd ag;have bo:=Zd z;have m1:=Zb z 1 _ rfl;have m6:=Zb z 6 _ rfl;have m7:=Zb z 7 _ rfl;have m8:=Zb z 8 _ rfl;have ml:=lt_of_block z;clear hE hS ay hT hz af z hr hl ag ax;go_enter func236,ntmps236
 go_upto_region 1 with fail
 rw[<-hX];clear hX;(try go_wp2_with fail);refine C1.mono ?_;rintro e w1 ⟨rfl,ab,ak⟩;have aq:Hid (Gr w w1 (λq=>¬Z q)):=bf.trans (ak.mono (λq _ e h=>e (.inl h)));have h1:=ak.heap bo (λe=>e (.inr rfl));clear ak C1 m1 m6 m7 m8 ml;by_cases h0:x1=0;rotate_left
 ·have gx:(x1 == 0)=false:=by simp[h0]
  have gy:(x1 != 0)=true:=by simp[h0]
  clear ab h1;go_wp2;go_ret;exact⟨rfl,λe=>absurd e h0,Za aq⟩
 subst h0;have HN:=Zd (λq (hq:Xe w1 s q) (h:Z q)=>(ab.net_lt hq).1 (.inl h));have bj:=Zd (λh:Z s=>ab.nz (.inl h))
 have ar:Hid (∀ V,Gr w1 V (λq=>q=s\/Xe w1 s q)->Gr w V (λq=>¬Z q)):=λV g=>aq.trans (g.mono (λq _ e=>by
  rcases e with e|e
  ·rw[e];exact Za bj
  ·exact HN q e))
 have C2:=Zd (Rg (λq=>Z q\/q=w.heap.size) s Q 3 xn 0 0 0 0 0 0 none 0 0 [] th ai ao ni ci no co I O w1 ab bg (λV g=>⟨RowsAt.nil _ _,HT V (ar V g)⟩) Zp sI sO ⟨⟨aM _,by simp⟩,Za HZ⟩);have m1:=Zb h1 1 _ rfl;have m6:=Zb h1 6 _ rfl;have m7:=Zb h1 7 _ rfl;have m8:=Zb h1 8 _ rfl;have ml:=lt_of_block h1;clear ab h1;go_wp2_with fail;refine C2.mono ?_;rintro e w2 ⟨rfl,av,aw⟩;have ap:Hid (Sc Z s (Q.sendAll 3 xn 0 Yf (th,I,O) W.n.length) w2):=by rw[<-Za bh];exact av.less (λq e=>.inl e)
 have be:=Zd (ar w2 aw);clear av aw C2 m1 m6 m7 m8 ml;go_wp2;go_ret;exact⟨rfl,by first|exact λ_=>Za ap|exact Za ap,Za be⟩
def WD.forget(W:WD)(i:Nat):WD:=if h:i<W.n.length then ⟨W.k,W.n.set i (W.n[i].1,W.n[i].2.1,[],W.n[i].2.2.2),W.m⟩ else W
theorem Zbt{Z:Nat->Prop}{s}{W:WD}{wx:World}{ka}{kn kc g cap i:Nat}{vm}{Kn Km:List (List Value)}{N T P}{tip:Int}{na ba pa nn nc bn bc pn pc}(h:ScAt Z s W wx ka kn kc (F (some ⟨g,0,none⟩) W.n.length cap) vm Kn Km)(hi:i<W.n.length)(hk:i<Kn.length)(hy:W.n[i]=(N,T,P,tip))(eK:Kn[i]=[F na nn nc,F ba bn bc,F pa pn pc,E J tip]) :
  Sc Z s (W.forget i) (wx.setCell ⟨g,i*4+2,none⟩ (F none 0 0))/\Gr wx (wx.setCell ⟨g,i*4+2,none⟩ (F none 0 0)) (λq=>q=g):=by
 have hb:=h.box;have ak:g≠s:=Xh h.on.rn hb (by decide) g rfl;have z:Gr wx (wx.setCell ⟨g,i*4+2,none⟩ (F none 0 0)) (λq=>q=g):=(Gr.refl wx (λq=>q=g)).one g (i*4+2) (.inl rfl) _
 have eW:W.forget i=⟨W.k,W.n.set i (N,T,[],tip),W.m⟩:=by
  unfold WD.forget;rw[dif_pos hi];simp only[hy]
 rw[eW];refine⟨⟨ka,kn,kc,F (some ⟨g,0,none⟩) W.n.length cap,vm,Kn.set i [F na nn nc,F ba bn bc,F none 0 0,E J tip],Km,z.heap hb (λe=>ak (Eq.symm e)),λq e=>⟨Nat.lt_of_lt_of_le (h.zs q e).1 z.size,(h.zs q e).2⟩,?_,?_,λV gV=>?_,h.on.sk⟩,z⟩
 ·show World.ownsRow _ _ _ _ _ (W.n.set i _).length _;rw[bY];have q:=Tr.setsW_own [F none 0 0] wx (i*4+2) _ h.on.rn;rw[Tr.setsL_rec [F none 0 0] Kn (sz:=4) h.on.now.2.1.wid i hk 2 (by decide),eK] at q;exact q
 ·exact z.own h.on.rm (λq hq e=>Tr.own_apart h.on.rn h.on.rm (by decide) q (by have e:q=g:=e;rw[e];rfl) hq)
 ·obtain⟨d1,Q,d3⟩:=h.on.dat V ((z.mono (λq _ e=>.inr (.inl (by have e:q=g:=e;rw[e];rfl)))).trans gV);have c:=Q.2 i hi hk;rw[hy,eK] at c;obtain⟨na',nn',nc',ba',bn',bc',pa',pn',pc',ab,hN,hT,_,sN,sT,_⟩:=c;simp only[List.cons.injEq,Value.slice.injEq,and_true] at ab;obtain⟨⟨rfl,rfl,rfl⟩,⟨rfl,rfl,rfl⟩,_⟩:=ab;exact⟨d1,Bl Q ⟨_,_,_,_,_,_,none,0,0,rfl,hN,hT,RowsAt.nil _ _,sN,sT,Zp⟩,d3⟩
theorem Zdr(Z:Nat->Prop)(s:Nat)(W:WD)(xk:Int)(xn:Nat)(xt xi xw xN th:Int)(ai ao ni ci no co w)(hS:Sc Z s W w)(hi:xn<W.n.length) :
  Calls aA 244 #[cU (some ⟨s,0,none⟩),.agg #[E J xk,E J xn,E J xt,E J xi,E J xw,E J xN,E J th,F ai ni ci,F ao no co]] w λe w'=>e = cS (E J 0)/\Sc Z s (W.forget xn) w'/\Gr w w' (λq=>¬Z q):=by
 obtain⟨ka,kn,kc,vn,vm,Kn,Km,Q⟩:=hS;have z:=Q.on;obtain⟨ga,gc,ma,mc,rfl,rfl,_⟩:=z.read;have hb:=Q.box
 obtain⟨g,rfl⟩:∃ g,ga=some ⟨g,0,none⟩:=by
  rcases z.rn.2 with ⟨_,e⟩|⟨g,cap,aw,e,_⟩
  ·omega
  ·injection e with e;exact⟨g,e⟩
 have hk:xn<Kn.length:=by rw[z.now.2.1.1];exact hi
 obtain⟨⟨N,T,P,tip⟩,hy⟩:=ZF (W.n[xn])
 have hC:Tr.nodR.C w Kn[xn] (N,T,P,tip):=by
  have:=z.now.2.1.2 xn hi hk;rw[hy] at this;exact this
 obtain⟨na,nn,nc,ba,bn,bc,pa,pn,pc,eK,_⟩:=hC;simp only at eK;obtain⟨X,hX⟩:=ZG (w.alloc (cR #[E J xk,E J xn,E J xt,E J xi,E J xw,E J xN,E J th,F ai ni ci,F ao no co] 103));have ad:ZD w X:=by rw[hX];exact Zh _ _
 have ae:X.heap[w.heap.size]? = some (cR [E J xk,E J xn,E J xt,E J xi,E J xw,E J xN,E J th,F ai ni ci,F ao no co].toArray 103 (0,0)):=by rw[hX];exact aJ _ _
 have af:=ZE ad hb;have aa:=Q.later ad
 have r2:X.cell? ⟨g,xn*4+2,none⟩=some (F pa pn pc):=by
  have:=(World.ownsRow.cellAt aa.on.rn (xn*4+2) (by have:(xn+1)*4<=W.n.length*4:=Nat.mul_le_mul_right _ hi;omega)).trans (Tr.wid_at z.now.2.1.wid xn hk 2 (by decide));rw[eK] at this;exact this
 have az:g<X.heap.size:=(aa.on.rn.lt g rfl).2;have ak:¬Z g:=λe=>(Q.zs g e).2.2.1 rfl
 have am:Hid (∀ U,Below (X.setCell ⟨g,xn*4+2,none⟩ (F none 0 0)).heap.size (X.setCell ⟨g,xn*4+2,none⟩ (F none 0 0)) U->Sc Z s (W.forget xn) U/\Gr w U (λq=>¬Z q)):=λU hu=>by
  obtain⟨q1,q2⟩:=Zbt aa hi hk hy eK;exact⟨q1.later hu,((Gr.of ad).trans (q2.mono (λq _ e=>by have e:q=g:=e;rw[e];exact ak))).trans (Gr.of hu)⟩
 have f2:=aa.on.rn.frozenAt (xn*4+2);have bb:(xn:Int)<(W.n.length:Int):=by omega
 have c1:=Zb af 1 _ rfl;have cl:=lt_of_block af;have m1:=Zb ae 1 _ rfl;have ml:=lt_of_block ae;clear Q z hb eK ad ae af hy aa ak;go_enter func244,ntmps244
 go_upto_region 1 with fail
 rw[<-hX];clear hX
 go_region
 all_goals
  go_wp2;go_ret;exact⟨rfl,am _ (by first|exact Zi _|exact Below.refl _ _)⟩
def WD.fetch(W:WD)(i z nm:Int):Int×WD:=if nmE nm=0 then (0,W.sent (2,i,z,nm,Yf,Xt)) else (nmE nm,W)
theorem Zhq(Z:Nat->Prop)(s:Nat)(W:WD)(xk xn xt xi xw xN th:Int)(ai ao ni ci no co)(x:Int)(W':WD)(w)(hS:Sc Z s W w)(hx:W.fetch xn xt xi=(x,W')) :
  Calls aA 245 #[cU (some ⟨s,0,none⟩),.agg #[E J xk,E J xn,E J xt,E J xi,E J xw,E J xN,E J th,F ai ni ci,F ao no co]] w λe w'=>e = cS (E J x)/\(x=0->Sc Z s W' w')/\Gr w w' (λq=>¬Z q):=by
 obtain⟨X,Q⟩:=ZG (w.alloc (cR #[E J xk,E J xn,E J xt,E J xi,E J xw,E J xN,E J th,F ai ni ci,F ao no co] 103));have ae:ZD w X:=by rw[Q];exact Zh _ _
 have aa:X.heap[w.heap.size]? = some (cR [E J xk,E J xn,E J xt,E J xi,E J xw,E J xN,E J th,F ai ni ci,F ao no co].toArray 103 (0,0)):=by rw[Q];exact aJ _ _
 obtain⟨x1,h1⟩:∃ x,nmE xi=x:=⟨_,rfl⟩;unfold WD.fetch at hx;rw[h1] at hx;have C1:=Zd (Sd xi x1 X h1);have HX:=Zd hx;have HS:=Zd (hS.later ae);have ar:=Zd ae;have ay:=Zd aa;have m3:=Zb aa 3 _ rfl;have ml:=lt_of_block aa;clear hS ae aa hx h1;go_enter func245,ntmps245
 go_upto_region 1 with fail
 rw[<-Q];clear Q;(try go_wp2_with fail);refine C1.mono ?_;rintro e w1 ⟨rfl,ab⟩;have ak:Hid (Gr w w1 (λq=>¬Z q)):=Gr.of (Zf ar ab);have h1:=ZE ab ay;have z:=HS.later ab;clear ab C1 m3 ml;by_cases h0:x1=0;rotate_left
 ·have e:=Za HX;rw[if_neg h0] at e;injection e with e1 e2;subst e1;have gx:(x1 == 0)=false:=by simp[h0]
  have gy:(x1 != 0)=true:=by simp[h0]
  clear z h1;go_wp2;go_ret;exact⟨rfl,λe=>absurd e h0,Za ak⟩
 subst h0;have e:=Za HX;rw[if_pos rfl] at e;injection e with e1 e2;subst e1 e2;have HN:=Zd (λq (hq:Xe w1 s q)=>(z.net_lt hq).1);have aw:=Zd z.nz;have C2:=Zd (J3 Z s W 2 xn xt xi 0 0 0 0 none 0 0 [] 0 none none 0 0 0 0 [] [] w1 z (RowsAt.nil _ _) Zp (RowsAt.nil _ _) (RowsAt.nil _ _) Zp Zp ⟨⟨aM _,by simp⟩,aM _,aM _,by simp,by simp⟩);have m1:=Zb h1 1 _ rfl;have m2:=Zb h1 2 _ rfl;have m3:=Zb h1 3 _ rfl;have ml:=lt_of_block h1;clear z h1;go_wp2_with fail;refine C2.mono ?_;rintro e w2 ⟨rfl,ap,aq,_⟩;have aj:Hid (Sc Z s (W.sent (2,xn,xt,xi,Yf,Xt)) w2):=ap
 have au:Hid (Gr w w2 (λq=>¬Z q)):=ak.trans (aq.mono (λq _ e=>by
  rcases e with e|e
  ·rw[e];exact Za aw
  ·exact HN q e))
 clear ap aq C2 m1 m2 m3 ml;go_wp2;go_ret;exact⟨rfl,by first|exact λ_=>Za aj|exact Za aj,Za au⟩
def WD.share(W:WD)(i:Nat)(q:Int):Int×WD:=
 if h:i<W.n.length then
  let r:=Tr.blockE W.n[i].1 W.n[i].2.1 W.n[i].2.2.2
  if r.2=0 then (0,W.sent (1,i,q,0,r.1,Xt)) else (r.2,W)
 else (0,W)
theorem Zfn(Z:Nat->Prop)(s:Nat)(W:WD)(xk:Int)(xn:Nat)(xt xi xw xN th:Int)(ai ao ni ci no co)(x:Int)(W':WD)(w)(hS:Sc Z s W w)(hi:xn<W.n.length)(aa:Tr.BlkSmall (Tr.blockE W.n[xn].1 W.n[xn].2.1 W.n[xn].2.2.2).1)(hx:W.share xn xt=(x,W')) :
  Calls aA 243 #[cU (some ⟨s,0,none⟩),.agg #[E J xk,E J xn,E J xt,E J xi,E J xw,E J xN,E J th,F ai ni ci,F ao no co]] w λe w'=>e = cS (E J x)/\(x=0->Sc Z s W' w')/\Gr w w' (λq=>¬Z q):=by
 obtain⟨ka,kn,kc,vn,vm,Kn,Km,hA⟩:=hS;have z:=hA.on;obtain⟨ga,gc,ma,mc,rfl,rfl,_,_,sg,_⟩:=z.read;have hb:=hA.box
 obtain⟨g,rfl⟩:∃ g,ga=some ⟨g,0,none⟩:=by
  rcases z.rn.2 with ⟨_,e⟩|⟨g,cap,dt,e,_⟩
  ·omega
  ·injection e with e;exact⟨g,e⟩
 have dx:=(z.rn.lt g rfl).2;have hk:xn<Kn.length:=by rw[z.now.2.1.1];exact hi
 obtain⟨y,hy⟩:=ZF (W.n[xn])
 have hC:Tr.nodR.C w Kn[xn] y:=by
  have:=z.now.2.1.2 xn hi hk;rw[hy] at this;exact this
 unfold WD.share at hx;rw[dif_pos hi] at hx;rw[hy] at aa;simp only[hy] at hx;obtain⟨z0,z1,z2,Q⟩:=y;obtain⟨na,nn,nc,ba,bn,bc,pa,pn,pc,eK,hN,hT,hP,sN,sT,sP⟩:=hC;simp only at eK hN hT hP hx aa;obtain⟨⟨b,x1⟩,hr⟩:=ZF (Tr.blockE z0 z1 Q);rw[hr] at hx aa;simp only at hx aa;obtain⟨X,hX⟩:=ZG (w.alloc (cR #[E J xk,E J xn,E J xt,E J xi,E J xw,E J xN,E J th,F ai ni ci,F ao no co] 103));have ah:ZD w X:=by rw[hX];exact Zh _ _
 have cc:X.heap.size=w.heap.size+1:=by rw[hX];simp
 have ae:X.heap[w.heap.size]? = some (cR [E J xk,E J xn,E J xt,E J xi,E J xw,E J xN,E J th,F ai ni ci,F ao no co].toArray 103 (0,0)):=by rw[hX];exact aJ _ _
 have aw:=ZE ah hb;have rc:=λj (hj:j<4)=>(World.ownsRow.cellAt (z.later ah).rn (xn*4+j) (by have:(xn+1)*4<=W.n.length*4:=Nat.mul_le_mul_right _ hi;omega)).trans (Tr.wid_at z.now.2.1.wid xn hk j hj);rw[eK] at rc;have r0:X.cell? ⟨g,xn*4,none⟩=some (F na nn nc):=rc 0 (by decide);have r1:X.cell? ⟨g,xn*4+1,none⟩=some (F ba bn bc):=rc 1 (by decide);have r2:X.cell? ⟨g,xn*4+2,none⟩=some (F pa pn pc):=rc 2 (by decide);have r3:X.cell? ⟨g,xn*4+3,none⟩=some (E J Q):=rc 3 (by decide);have dy:(xn:Int)<(W.n.length:Int):=by omega
 have dz:=lt_of_block hb;have CB:=Zd (λV (hv:ZD w V)=>Tr.block_is na ba nn nc bn bc z0 z1 Q b x1 V (hN.later hv) (hT.later hv) sN sT hr);have HS:=Zd (λV (hv:ZD w V)=>(⟨_,_,_,_,_,_,_,hA.later hv⟩:Sc Z s W V));have cn:=Zd aa;have HX:=Zd hx;have bk:=Zd ah;have bu:=Zd ae;have bx:=Zd cc;have c1:=Zb aw 1 _ rfl;have cl:=lt_of_block aw;have m1:=Zb ae 1 _ rfl;have ml:=lt_of_block ae;have df:g<X.heap.size:=by omega
 clear hA z hb eK hN hT hP sN sT sP ah cc ae aw rc hx hy hr aa;go_enter func243,ntmps243
 go_upto_region 1 with fail
 rw[<-hX];clear hX
 go_cut [5] from 8 to 16 (λs5 wx=>s5 = cU (some ⟨w.heap.size+1,0,none⟩)/\Hid (wx.heap[w.heap.size+1]? = some (cR [F na nn nc,F ba bn bc,F pa pn pc,E J Q].toArray 67 (0,0))/\ZD X wx))
 case first=>
  have dh:=Za bx
  have ZB:Hid ((X.alloc (cR #[F na nn nc,F ba bn bc,F pa pn pc,E J Q] 67)).heap[w.heap.size+1]? = some (cR [F na nn nc,F ba bn bc,F pa pn pc,E J Q].toArray 67 (0,0))/\ZD X (X.alloc (cR #[F na nn nc,F ba bn bc,F pa pn pc,E J Q] 67))):=by
   show _/\_;rw[<-dh];exact⟨aJ _ _,Zh _ _⟩
  go_region
  all_goals
   go_wp2_with fail;go_meet
   case rel=>exact⟨rfl,ZB.1,Zf ZB.2 (Zi _)⟩
 case rest=>
  obtain⟨rfl,HC⟩:=hcut;obtain⟨cg,av⟩:=Za HC;have aj:=Zf bk av;have bv:=Zd (ZE av bu);have C1:=Zd (CB wc aj);have bs:Hid (Sc Z s W wc):=HS wc aj;have bj:=Zd aj;obtain⟨t0,t1,t2,t3,tl⟩:=cl4 (Zd cg);clear HC cg av aj CB HS c1 cl m1 ml df bu bk r0 r1 r2 r3 bx;go_wp2_with fail;refine C1.mono ?_;rintro e w1 ⟨ta,tn,tc,rfl,hL,sL,cd⟩;obtain⟨Y,hY⟩:=ZG (w1.alloc (cR #[E J b.1,E J b.2.1,E J b.2.2.1,E J b.2.2.2.1,F ta tn tc] 39));have au:ZD w1 Y:=by rw[hY];exact Zh _ _
  have y0:Y.heap[w1.heap.size]? = some (cR [E J b.1,E J b.2.1,E J b.2.2.1,E J b.2.2.2.1,F ta tn tc].toArray 39 (0,0)):=by rw[hY];exact aJ _ _
  have ag:=Zf cd au;have bq:Hid (Gr w Y (λq=>¬Z q)):=Gr.of (Zf bj ag);have h1:=ZE ag bv;have ab:=Sc.later bs ag;have aq:=hL.later au;clear hL cd ag au C1 bs bv bj t0 t1 t2 t3 tl
  go_upto_region 3 with fail
  rw[<-hY];clear hY;by_cases h0:x1=0;rotate_left
  ·have e:=Za HX;rw[if_neg h0] at e;injection e with e1 e2;subst e1;have gx:(x1 == 0)=false:=(by simp[h0]);have gy:(x1 != 0)=true:=(by simp[h0]);clear ab h1 aq y0;go_wp2;go_ret;exact⟨rfl,λe=>absurd e h0,Za bq⟩
  subst h0;have e:=Za HX;rw[if_pos rfl] at e;injection e with e1 e2;subst e1 e2;have HN:=Zd (λq (hq:Xe Y s q)=>(ab.net_lt hq).1);have ct:=Zd ab.nz;have C2:=Zd (J3 Z s W 1 xn xt 0 b.1 b.2.1 b.2.2.1 b.2.2.2.1 ta tn tc b.2.2.2.2 0 none none 0 0 0 0 [] [] Y ab aq sL (RowsAt.nil _ _) (RowsAt.nil _ _) Zp Zp ⟨Za cn,aM _,aM _,by simp,by simp⟩);have m1:=Zb h1 1 _ rfl;have m2:=Zb h1 2 _ rfl;have ml:=lt_of_block h1;obtain⟨d0,d1,d2,d3,d4,dl⟩:=cl5 (Zd y0);clear ab h1 aq y0 sL;go_wp2_with fail;refine C2.mono ?_;rintro e w2 ⟨rfl,cb,ce,_⟩;have bi:Hid (Sc Z s (W.sent (1,xn,xt,0,b,Xt)) w2):=cb
  have cp:Hid (Gr w w2 (λq=>¬Z q)):=bq.trans (ce.mono (λq _ e=>by
   rcases e with e|e
   ·rw[e];exact Za ct
   ·exact HN q e))
  clear cb ce C2 m1 m2 ml d0 d1 d2 d3 d4 dl;go_wp2;go_ret;exact⟨rfl,by first|exact λ_=>Za bi|exact Za bi,Za cp⟩
