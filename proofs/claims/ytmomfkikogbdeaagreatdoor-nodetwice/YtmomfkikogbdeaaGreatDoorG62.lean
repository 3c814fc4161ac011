import Derived.Test.YtmomfkikogbdeaaGreatDoorG53
import Derived.Test.YtmomfkikogbdeaaGreatDoorG61
import Derived.Test.YtmomfkikogbdeaaGreatDoorG42
import Derived.Test.YtmomfkikogbdeaaGreatDoorG55
namespace Go.Proofs.YtmomfkikogbdeaaGreatDoor
open Go.RowKit
theorem Zcp{K:List ByteArray}{C C':List Zh}{Q:List TxD}{h:Int}(hK:Bk.Right K)(hC:Z6 C)(h1:1≤h)(h2:h≤1000)(hl:Q.length≤8)(e:Zs h Q (K,C)=(Q,K,C')){N:List Int}{T:List Zk}{t:Int}{β : Int→List Zh}(hB : β t=C)(hh:Ya N T t+1=h):poE K N T Q t β = 0:=by
 have ck:=Lw (P7 hK Q C C' e)
 have hall:=(Q0 Q K C hK hC (h:=h)).2.2
 rw[e] at hall
 unfold poE
 split
 ·rfl
 have hkn:Q.all (knT K)=true:=List.all_eq_true.2 (fun x hx=>by
  have c1:=(hall x hx).1
  have c2:=ck x hx
  have c3:=Bk.nm_place c2.2
  rw[c2.1] at c3
  unfold knT
  rw[Ur c1]
  have:=c3.2.1
  simp[c1]
  omega)
 have hsw:swE K C Q h=0:=by
  unfold swE
  rw[Tf hK hC h1 h2]
  simp
  omega
 rw[if_neg (by rw[hkn];decide),hB,hh,e,if_neg (by rw[hsw];decide)]
 simp
theorem Zes{K:List ByteArray}{C:List Zh}{P:List TxD}{t:TxD}{h:Int}{K1:List ByteArray}{P1:List TxD}(e:acE K C P t h=(0,K1,P1)):swE K C P h=0∧(∃ C2,doD h (Zs h P (K,C)).2 t=(0,K1,C2))∧(Zs h P (K,C)).1.length≠8∧P1=(Zs h P (K,C)).1++[t]:=by
 unfold acE at e
 split at e
 ·rename_i q;exact absurd (congrArg Prod.fst e) q
 rename_i q1
 split at e
 ·exact absurd (congrArg Prod.fst e) (by simp)
 split at e
 ·rename_i q;exact absurd (congrArg Prod.fst e) q
 rename_i q3
 split at e
 ·exact absurd (congrArg Prod.fst e) (by simp)
 rename_i q4
 simp only[Prod.mk.injEq,true_and] at e
 exact⟨Decidable.not_not.1 q1,⟨_,Prod.ext (Decidable.not_not.1 q3) (Prod.ext e.1 rfl)⟩,q4,e.2.symm⟩
theorem Ak{K:List ByteArray}{N:List Int}{T:List Zk}{P:List TxD}{tip:Int}{t:TxD}{D:Dsk}(h:noR K N T P tip t=(0,D)) :
  opE K N T P tip=0∧opE D.k D.n D.t D.p D.tip=0∧D.p.length≠0∧noR D.k D.n D.t D.p D.tip t=(6,Dsk.none)∧D.n=N∧D.t=T∧D.tip=tip∧(∃ M,D.k=K++M)∧Zx t=0:=by
 unfold noR at h
 split at h
 ·rename_i q;exact absurd (congrArg Prod.fst h) q
 rename_i q1;have q1:=Decidable.not_not.1 q1
 split at h
 ·rename_i q;exact absurd (congrArg Prod.fst h) q
 rename_i q2;have q2:=Decidable.not_not.1 q2
 obtain⟨⟨x,K1,P1⟩,hr⟩:∃ r,acE K ((Zq K N T noB).2 tip) P t (Ya N T tip+1)=r:=⟨_,rfl⟩
 rw[hr] at h q2
 have q2:x=0:=q2
 subst q2
 simp only[Prod.mk.injEq,true_and] at h
 subst h
 simp only
 obtain⟨C,hCe⟩:∃ C,(Zq K N T noB).2 tip=C:=⟨_,rfl⟩
 rw[hCe] at hr
 obtain⟨z,hz⟩:∃ z,Ya N T tip+1=z:=⟨_,rfl⟩
 rw[hz] at hr
 obtain⟨a1,⟨C2,a2⟩,a3,rfl⟩:=Zes hr
 obtain⟨o,hl⟩:=Uw a1
 obtain⟨hK,hC,h1,h2⟩:=Vx o
 have ac:=Zha hK a2
 obtain⟨s1,M1,s2⟩:=Wh P K C hK (h:=z)
 have a2':doD z ((Zs z P (K,C)).2.1,(Zs z P (K,C)).2.2) t=(0,K1,C2):=a2
 obtain⟨d1,⟨M2,d2⟩,_,_,d5⟩:=Tn s1 a2'
 have hM:K1=K++(M1++M2):=by rw[d2,s2,List.append_assoc]
 obtain⟨o1,o2,o3,_⟩:=Yf q1
 have ok:=Tr.TrOk.of (Yh o2).1
 have hn0:∀ x∈N,x≠0:=fun x hx=>by have:=(ok.nm x hx).1;omega
 have cb:Zq K1 N T noB=Zq K N T noB:=by
  rw[hM];exact Jk hK (hM ▸ d1) N T noB hn0 o3
 have hlS:(Zs z P (K,C)).1.length≤P.length:=by
  have e2:=congrArg List.length (Ud z P (K,C))
  have:=Jn z P (K,C)
  rw[List.length_map] at e2
  omega
 have hl2:((Zs z P (K,C)).1++[t]).length≤8:=by rw[List.length_append,List.length_singleton];omega
 have po:=Zcp d1 hC h1 h2 hl2 ac (N:=N) (T:=T) (t:=tip) (β:=(Zq K N T noB).2) hCe hz
 have op:opE K1 N T ((Zs z P (K,C)).1++[t]) tip=0:=by
  unfold opE
  rw[if_neg (by rw[(Bk.right_iff _).2 d1];decide),o2]
  simp only[ne_eq,not_true_eq_false,if_false,cb,o3]
  exact po
 refine⟨q1,op,by rw[List.length_append,List.length_singleton];omega,?_,trivial,trivial,trivial,⟨_,hM⟩,d5⟩
 have hsw:swE K1 C ((Zs z P (K,C)).1++[t]) z=0:=by
  unfold swE
  rw[Tf d1 hC h1 h2]
  simp only[ne_eq,not_true_eq_false,if_false]
  rw[if_neg (by omega)]
 have h6:acE K1 C ((Zs z P (K,C)).1++[t]) t z=(6,[],[]):=by
  unfold acE
  rw[if_neg (by rw[hsw];decide),ac,if_pos (by rw[List.any_append];simp[F7])]
 unfold noR
 rw[if_neg (by rw[op];decide),cb,hCe,hz,h6,if_pos (by simp)]
theorem F3{K:List ByteArray}{N:List Int}{T:List Zk}{P:List TxD}{tip s:Int}{b:Zk}(h:opE K N T P tip=0)(hk:kbD K s b=true)(hs:s∈N):ntR K N T P tip b=(6,0,Dsk.none):=by
 obtain⟨o1,o2,_,_⟩:=Yf h
 have hc:=(Yh o2).1
 have ok:=Tr.TrOk.of hc
 have hs1:=ok.nm s hs
 have hn:=U7 ((Bk.right_iff K).1 o1) (by omega) hk
 have ha:Tr.addE N T s b=([],[],6):=by
  have hx:Tr.nextD N T s b=6:=by
   unfold Tr.nextD
   rw[if_neg (by simp[hs1]),if_neg (by simp[(Wb hk).1]),if_pos (by simpa using hs)]
  unfold Tr.addE
  rw[if_neg (fun q=>q hc),hx,if_pos (by decide)]
 have e:tkR ⟨K,N,T,P,tip,(Zq K N T noB).2⟩ b=(6,0,⟨K,N,T,P,tip,(Zq K N T noB).2⟩):=by
  unfold tkR
  simp only[hn,ha]
  rw[if_neg (fun q=>q rfl),if_pos (by decide)]
 unfold ntR
 rw[if_neg (by rw[h];decide),e,if_pos (by simp)]
theorem At{K:List ByteArray}{N:List Int}{T:List Zk}{P:List TxD}{tip wk no:Int}{l:List (Int×Int)}{b:Zk}{D:Dsk}(h:nmR K N T P tip wk no l=(0,b,D)) :
  opE K N T P tip=0∧opE D.k D.n D.t D.p D.tip=0∧ntR D.k D.n D.t D.p D.tip b=(6,0,Dsk.none)∧Tr.blockE D.n D.t D.tip=(b,0)∧b.1=tip∧∃ nm,tkR ⟨K,N,T,P,tip,(Zq K N T noB).2⟩ b=(0,nm,D):=by
 unfold nmR at h
 split at h
 ·rename_i q;exact absurd (congrArg Prod.fst h) q
 rename_i q1;have q1:=Decidable.not_not.1 q1
 split at h
 ·rename_i q;exact absurd (congrArg Prod.fst h) q
 rename_i q2;have q2:=Decidable.not_not.1 q2
 simp only[Prod.mk.injEq,true_and] at h
 have hm:mnR ⟨K,N,T,P,tip,(Zq K N T noB).2⟩ wk no l=(0,b,D):=Prod.ext q2 (Prod.ext h.1 h.2)
 unfold mnR at hm
 simp only at hm
 obtain⟨⟨y,b2⟩,hy⟩:∃ r,mkE K ((Zq K N T noB).2 tip) P tip (Ya N T tip+1) wk no l=r:=⟨_,rfl⟩
 rw[hy] at hm
 simp only at hm
 split at hm
 ·rename_i q;exact absurd (congrArg Prod.fst hm) q
 rename_i q3;have q3:=Decidable.not_not.1 q3
 subst q3
 split at hm
 ·rename_i q;exact absurd (congrArg Prod.fst hm) q
 rename_i q4;have q4:=Decidable.not_not.1 q4
 simp only[Prod.mk.injEq,true_and] at hm
 obtain⟨rfl,hD⟩:=hm
 have hb1:b2.1=tip:=by
  unfold mkE at hy
  split at hy
  ·rename_i q;exact absurd (congrArg Prod.fst hy) q
  split at hy
  ·exact absurd (congrArg Prod.fst hy) (by simp)
  split at hy
  ·rename_i q;exact absurd (congrArg Prod.fst hy) q
  rw[←(Prod.mk.inj hy).2]
 obtain⟨nm,hnm⟩:∃ nm,(tkR ⟨K,N,T,P,tip,(Zq K N T noB).2⟩ b2).2.1=nm:=⟨_,rfl⟩
 have e:tkR ⟨K,N,T,P,tip,(Zq K N T noB).2⟩ b2=(0,nm,D):=Prod.ext q4 (Prod.ext hnm hD)
 obtain⟨t1,_,t3,t4,t5,_,t7⟩:=Uv q1 e
 have hmem:nm∈D.n:=by rw[t3];simp
 obtain⟨_,o2,_,_⟩:=Yf q1
 obtain⟨_,p2,_,_⟩:=Yf t1
 obtain⟨a1,a2,a3,_,_⟩:=Tr.addE_ok t7
 have okN:=Tr.TrOk.of a1
 have hcD:=(Yh p2).1
 have okD:=Tr.TrOk.of hcD
 have hm1:Tr.bstGo N T 0 0 N=tip:=by
  unfold Tr.bstD at o2;rw[if_neg (fun q=>q a1)] at o2;exact congrArg Prod.fst o2
 have hm2:Tr.bstGo (N++[nm]) (T++[b2]) 0 0 (N++[nm])=D.tip:=by
  unfold Tr.bstD at p2;rw[if_neg (fun q=>q hcD),t3,t4] at p2;exact congrArg Prod.fst p2
 obtain⟨f1,f2,_,_,f5⟩:=Tr.best_more okN a2 _ _ hm1 hm2
 obtain⟨g1,g2,g3,_,_⟩:=Tr.nextD_ok a2
 have hD:D.tip=nm:=by
  rcases f2 with q|q
  ·have w1:=okN.wrk_same (b:=b2) g1.1 f1
   have w2:=okN.wrk_new a2
   have w3:=Tr.chkB_head g2
   rw[q,w1,w2,hb1] at f5
   omega
  ·exact q
 refine⟨q1,t1,F3 t1 t5 hmem,?_,hb1,nm,e⟩
 unfold Tr.blockE
 rw[hD,if_neg (fun q=>q hcD),if_pos (by simpa using hmem),t3,t4,Tr.fnd_app_r okN.len g3]
 simp[Tr.fnd]
set_option maxRecDepth 10000 in
set_option maxHeartbeats 12800000 in
theorem Kh(ka:Option Addr)(kn kc:Nat)(K:List ByteArray)(na ba pa:Option Addr)(nn nc bn bc pn pc:Nat)(N:List Int)(T:List Zk)(P:List TxD)(tip:Int)(th:Int)(ai ao:Option Addr)(ni ci no co:Nat)(I:List InD)(O:List Z0)(wk:Int)(la:Option Addr)(ln lc:Nat)(l:List (Int×Int))(w:World)(hE:Env w)(hK:Bk.TextsAt w ka kn K)(hN:Tr.IntsAt w na nn N)(hT:Tr.BlksAt w ba bn T)(hP:TxsAt w pa pn P)(sN:SlOk na nn nc)(sT:SlOk ba bn bc)(sP:SlOk pa pn pc)(hp:pn≤2513169434916)(hq:∀ t∈P,Tr.TxSmall t)(hI:InsAt w ai ni I)(hO:OutsAt w ao no O)(sI:SlOk ai ni ci)(sO:SlOk ao no co)(hl:OpsAt w la ln l)(sl:SlOk la ln lc)(hn:ln≤8796093022208) :
  Calls Tryz.prog 11 #[.agg #[.slice ka kn kc],.agg #[.slice na nn nc,.slice ba bn bc,.slice pa pn pc,.int .i64 tip],.agg #[.int .i64 th,.slice ai ni ci,.slice ao no co],.int .i64 wk,.slice la ln lc] w fun e w'=>e = .returned (.bool true)∧Below w.heap.size w w':=by
 obtain⟨X,hX⟩:∃ X,X=Z9 w [.cells #[.slice ka kn kc] 24,.cells #[.slice na nn nc,.slice ba bn bc,.slice pa pn pc,.int .i64 tip] 67,.cells #[.int .i64 th,.slice ai ni ci,.slice ao no co] 59]:=⟨_,rfl⟩
 have hX':X=(((w.alloc (.cells #[.slice ka kn kc] 24)).alloc (.cells #[.slice na nn nc,.slice ba bn bc,.slice pa pn pc,.int .i64 tip] 67)).alloc (.cells #[.int .i64 th,.slice ai ni ci,.slice ao no co] 59)):=hX
 have hbX:Below w.heap.size w X:=by rw[hX];exact Zp _ _
 have Fk_X:Hid (X.heap[w.heap.size]? = some (.cells [.slice ka kn kc].toArray 24 (0,0))):=by show X.heap[w.heap.size]? = _;rw[hX];exact Zm _ w 0 _ rfl
 have Fn_X:Hid (X.heap[w.heap.size+1]? = some (.cells [.slice na nn nc,.slice ba bn bc,.slice pa pn pc,.int .i64 tip].toArray 67 (0,0))):=by show X.heap[w.heap.size+1]? = _;rw[hX];exact Zm _ w 1 _ rfl
 have Ft_X:Hid (X.heap[w.heap.size+2]? = some (.cells [.int .i64 th,.slice ai ni ci,.slice ao no co].toArray 59 (0,0))):=by show X.heap[w.heap.size+2]? = _;rw[hX];exact Zm _ w 2 _ rfl
 obtain⟨⟨x,D⟩,hx⟩:∃ r,noR K N T P tip (th,I,O)=r:=⟨_,rfl⟩
 have HD:Hid (∀ V,Below w.heap.size w V→Env V∧Bk.TextsAt V ka kn K∧Tr.IntsAt V na nn N∧Tr.BlksAt V ba bn T∧TxsAt V pa pn P∧InsAt V ai ni I∧OutsAt V ao no O∧OpsAt V la ln l):=fun V hv=>⟨hE.later hv,hK.later hv,hN.later hv,hT.later hv,hP.later hv,hI.later hv,hO.later hv,hl.later hv⟩
 have C1:=Zb (Ll ka kn kc K na ba pa nn nc bn bc pn pc N T P tip X (hE.later hbX) (hK.later hbX) (hN.later hbX) (hT.later hbX) (hP.later hbX) sN sT sP hp hq th ai ao ni ci no co I O (hI.later hbX) (hO.later hbX) sI sO x D hx)
 have HS:=Zb (⟨sN,sT,sP,hp,hq,sI,sO,sl,hn⟩:SlOk na nn nc∧SlOk ba bn bc∧SlOk pa pn pc∧pn≤2513169434916∧(∀ t∈P,Tr.TxSmall t)∧SlOk ai ni ci∧SlOk ao no co∧SlOk la ln lc∧ln≤8796093022208)
 have HX1:=Zb hx
 have Bw_X:Hid (Below w.heap.size w X):=hbX
 have BX_X:Hid (Below X.heap.size X X):=Below.refl _ _
 clear hE hK hN hT hP sN sT sP hp hq hI hO sI sO hl sl hn hx hbX hX
 obtain⟨mk0,mlk⟩:=cl1 Fk_X
 obtain⟨mn0,mn1,mn2,mn3,mln⟩:=cl4 Fn_X
 obtain⟨mt0,mt1,mt2,mlt⟩:=cl3 Ft_X
 go_enter Tryz.func11,Tryz.ntmps11
 go_wp2_with fail
 rw[←hX']
 clear hX'
 (try go_wp2_with fail)
 refine (Za C1).mono ?_
 rintro e w1 ⟨⟨k5,k5n,k5c,n5,n5n,n5c,b5,b5n,b5c,p5,p5n,p5c,rfl,hF,s1,s2,s3,s4⟩,hb1⟩
 clear mk0 mlk mn0 mn1 mn2 mn3 mln mt0 mt1 mt2 mlt
 clear C1
 obtain⟨Y,hY⟩:∃ Y,Y=Z9 w1 [.cells #[.slice k5 k5n k5c] 24,.cells #[.slice n5 n5n n5c,.slice b5 b5n b5c,.slice p5 p5n p5c,.int .i64 D.tip] 67]:=⟨_,rfl⟩
 have hY':Y=((w1.alloc (.cells #[.slice k5 k5n k5c] 24)).alloc (.cells #[.slice n5 n5n n5c,.slice b5 b5n b5c,.slice p5 p5n p5c,.int .i64 D.tip] 67)):=hY
 have hbY:Below w1.heap.size w1 Y:=by rw[hY];exact Zp _ _
 have Fk5_Y:Hid (Y.heap[w1.heap.size]? = some (.cells [.slice k5 k5n k5c].toArray 24 (0,0))):=by show Y.heap[w1.heap.size]? = _;rw[hY];exact Zm _ w1 0 _ rfl
 have Fn5_Y:Hid (Y.heap[w1.heap.size+1]? = some (.cells [.slice n5 n5n n5c,.slice b5 b5n b5c,.slice p5 p5n p5c,.int .i64 D.tip].toArray 67 (0,0))):=by show Y.heap[w1.heap.size+1]? = _;rw[hY];exact Zm _ w1 1 _ rfl
 have hbXY:=Zf hb1 hbY
 have HDD:=Zb (hF Y (Gr.of hbY))
 have HS5:=Zb (⟨s1,s2,s3,s4⟩:SlOk k5 k5n k5c∧SlOk n5 n5n n5c∧SlOk b5 b5n b5c∧SlOk p5 p5n p5c)
 have Fk_Y:=mvd hbXY Fk_X
 have Fn_Y:=mvd hbXY Fn_X
 have Ft_Y:=mvd hbXY Ft_X
 have Bw_Y:=onb Bw_X hbXY
 have BX_Y:=onb BX_X hbXY
 clear Fk_X Fn_X Ft_X Bw_X BX_X
 have BY_Y:Hid (Below Y.heap.size Y Y):=Below.refl _ _
 clear hY hbY hb1 hF s1 s2 s3 s4 hbXY
 have hx01:(x == 0)=decide (x=0):=rfl
 go_upto_if 32 with fail
 rw[←hY']
 clear hY' hx01
 go_cut [] from 11 (fun wc=>Hid (Below Y.heap.size Y wc))
 case first=>
  by_cases h0:x=0
  ·subst h0
   obtain⟨o1,o2,o3,o4,o5,o6,o7,_,_⟩:=Ak (Za HX1)
   have nd:=Za HDD
   have psm:=Vw o2
   have pl:D.p.length=p5n:=nd.p.1
   obtain⟨z1,z2,z3,z4⟩:=Za HS5
   have C2:=Zb (Ll k5 k5n k5c D.k n5 b5 p5 n5n n5c b5n b5c p5n p5c D.n D.t D.p D.tip Y ((Za HD) Y (Za Bw_Y)).1 nd.k nd.n nd.b nd.p z2 z3 z4 (by omega) psm.2 th ai ao ni ci no co I O ((Za HD) Y (Za Bw_Y)).2.2.2.2.2.1 ((Za HD) Y (Za Bw_Y)).2.2.2.2.2.2.1 (Za HS).2.2.2.2.2.1 (Za HS).2.2.2.2.2.2.1 6 Dsk.none o4)
   have C3:=Zb (fun V (hv:Below Y.heap.size Y V)=>Jt k5 k5n k5c D.k n5 b5 p5 n5n n5c b5n b5c p5n p5c D.n D.t D.p D.tip 0 V ((Za HD) V (Zf (Za Bw_Y) hv)).1 (nd.k.later hv) (nd.n.later hv) (nd.b.later hv) (nd.p.later hv) z2 z3 z4 (by omega) psm.2 o2)
   have hpz:¬((p5n:Int)=0):=by omega
   have hpb:((p5n:Int) == 0)=false:=by simp;omega
   clear o1 o2 o3 o4 o5 o6 o7 nd psm pl z1 z2 z3 z4
   obtain⟨mk0,mlk⟩:=cl1 Fk_Y
   obtain⟨mn0,mn1,mn2,mn3,mln⟩:=cl4 Fn_Y
   obtain⟨mt0,mt1,mt2,mlt⟩:=cl3 Ft_Y
   obtain⟨mk50,mlk5⟩:=cl1 Fk5_Y
   obtain⟨mn50,mn51,mn52,mn53,mln5⟩:=cl4 Fn5_Y
   go_wp2_with fail
   refine (Za C2).mono ?_
   rintro e w2 ⟨⟨k6,k6n,k6c,n6,n6n,n6c,b6,b6n,b6c,p6,p6n,p6c,rfl,-,-,-,-,-⟩,hb2⟩
   clear mk0 mlk mn0 mn1 mn2 mn3 mln mt0 mt1 mt2 mlt mk50 mlk5 mn50 mn51 mn52 mn53 mln5
   clear C2
   obtain⟨Z,hZ⟩:∃ Z,Z=Z9 w2 [.cells #[.slice k6 k6n k6c] 24,.cells #[.slice n6 n6n n6c,.slice b6 b6n b6c,.slice p6 p6n p6c,.int .i64 Dsk.none.tip] 67]:=⟨_,rfl⟩
   have hZ':Z=((w2.alloc (.cells #[.slice k6 k6n k6c] 24)).alloc (.cells #[.slice n6 n6n n6c,.slice b6 b6n b6c,.slice p6 p6n p6c,.int .i64 Dsk.none.tip] 67)):=hZ
   have hbZ:Below w2.heap.size w2 Z:=by rw[hZ];exact Zp _ _
   have Fk6_Z:Hid (Z.heap[w2.heap.size]? = some (.cells [.slice k6 k6n k6c].toArray 24 (0,0))):=by show Z.heap[w2.heap.size]? = _;rw[hZ];exact Zm _ w2 0 _ rfl
   have Fn6_Z:Hid (Z.heap[w2.heap.size+1]? = some (.cells [.slice n6 n6n n6c,.slice b6 b6n b6c,.slice p6 p6n p6c,.int .i64 Dsk.none.tip].toArray 67 (0,0))):=by show Z.heap[w2.heap.size+1]? = _;rw[hZ];exact Zm _ w2 1 _ rfl
   have hbYZ:=Zf hb2 hbZ
   have Fk_Z:=mvd hbYZ Fk_Y
   have Fn_Z:=mvd hbYZ Fn_Y
   have Ft_Z:=mvd hbYZ Ft_Y
   have Fk5_Z:=mvd hbYZ Fk5_Y
   have Fn5_Z:=mvd hbYZ Fn5_Y
   have Bw_Z:=onb Bw_Y hbYZ
   have BX_Z:=onb BX_Y hbYZ
   have BY_Z:=onb BY_Y hbYZ
   clear Fk_Y Fn_Y Ft_Y Fk5_Y Fn5_Y Bw_Y BX_Y BY_Y
   have E3:=Zb ((Za C3) Z (Za BY_Z))
   clear hZ hbZ hb2 hbYZ C3
   go_upto_region 4 with fail
   rw[←hZ']
   clear hZ'
   obtain⟨mk0,mlk⟩:=cl1 Fk_Z
   obtain⟨mn0,mn1,mn2,mn3,mln⟩:=cl4 Fn_Z
   obtain⟨mt0,mt1,mt2,mlt⟩:=cl3 Ft_Z
   obtain⟨mk50,mlk5⟩:=cl1 Fk5_Z
   obtain⟨mn50,mn51,mn52,mn53,mln5⟩:=cl4 Fn5_Z
   obtain⟨mk60,mlk6⟩:=cl1 Fk6_Z
   obtain⟨mn60,mn61,mn62,mn63,mln6⟩:=cl4 Fn6_Z
   go_wp2_with fail
   refine (Za E3).mono ?_
   rintro e w3 ⟨rfl,hb3⟩
   clear mk0 mlk mn0 mn1 mn2 mn3 mln mt0 mt1 mt2 mlt mk50 mlk5 mn50 mn51 mn52 mn53 mln5 mk60 mlk6 mn60 mn61 mn62 mn63 mln6
   have Fk_w3:=mvd hb3 Fk_Z
   have Fn_w3:=mvd hb3 Fn_Z
   have Ft_w3:=mvd hb3 Ft_Z
   have Fk5_w3:=mvd hb3 Fk5_Z
   have Fn5_w3:=mvd hb3 Fn5_Z
   have Fk6_w3:=mvd hb3 Fk6_Z
   have Fn6_w3:=mvd hb3 Fn6_Z
   have Bw_w3:=onb Bw_Z hb3
   have BX_w3:=onb BX_Z hb3
   have BY_w3:=onb BY_Z hb3
   clear Fk_Z Fn_Z Ft_Z Fk5_Z Fn5_Z Fk6_Z Fn6_Z Bw_Z BX_Z BY_Z
   clear E3 hb3
   obtain⟨mk0,mlk⟩:=cl1 Fk_w3
   obtain⟨mn0,mn1,mn2,mn3,mln⟩:=cl4 Fn_w3
   obtain⟨mt0,mt1,mt2,mlt⟩:=cl3 Ft_w3
   obtain⟨mk50,mlk5⟩:=cl1 Fk5_w3
   obtain⟨mn50,mn51,mn52,mn53,mln5⟩:=cl4 Fn5_w3
   obtain⟨mk60,mlk6⟩:=cl1 Fk6_w3
   obtain⟨mn60,mn61,mn62,mn63,mln6⟩:=cl4 Fn6_w3
   go_wp2
   go_meet
   case rel=>exact BY_w3
  ·go_wp2_with fail
   go_meet
   case rel=>exact Below.refl _ _
 case rest=>
  have hbc:=Za hcut
  clear hcut HDD HS5
  clear Fk5_Y
  clear Fn5_Y
  clear Ft_Y
  have Fk_wc:=mvd hbc Fk_Y
  have Fn_wc:=mvd hbc Fn_Y
  have Bw_wc:=onb Bw_Y hbc
  have BX_wc:=onb BX_Y hbc
  have BY_wc:=onb BY_Y hbc
  clear Fk_Y Fn_Y Bw_Y BX_Y BY_Y
  clear hbc
  obtain⟨⟨x2,⟨bp,bh,bw,bo,bL⟩,E⟩,hx2⟩:∃ r,nmR K N T P tip wk 0 l=r:=⟨_,rfl⟩
  obtain⟨d1,d2,d3,d4,d5,d6,d7,d8⟩:=(Za HD) wc (Za Bw_wc)
  obtain⟨z1,z2,z3,z4,z5,z6,z7,z8,z9⟩:=Za HS
  have C1:=Zb (G0 ka kn kc K na ba pa nn nc bn bc pn pc N T P tip wc d1 d2 d3 d4 d5 z1 z2 z3 z4 z5 wk 0 la ln lc l d8 z8 z9 x2 (bp,bh,bw,bo,bL) E hx2)
  have HX2:=Zb hx2
  clear d1 d2 d3 d4 d5 d6 d7 d8 z1 z2 z3 z4 z5 z6 z7 z8 z9 hx2 HX1
  obtain⟨mk0,mlk⟩:=cl1 Fk_wc
  obtain⟨mn0,mn1,mn2,mn3,mln⟩:=cl4 Fn_wc
  go_wp2_with fail
  refine (Za C1).mono ?_
  rintro e w4 ⟨k7,k7n,k7c,n7,n7n,n7c,b7,b7n,b7c,p7,p7n,p7c,l7,l7n,l7c,rfl,hF,s1,s2,s3,s4,s5,hb4⟩
  simp only[Qy]
  clear mk0 mlk mn0 mn1 mn2 mn3 mln
  clear C1
  obtain⟨U,hU⟩:∃ U,U=Z9 w4 [.cells #[.slice k7 k7n k7c] 24,.cells #[.slice n7 n7n n7c,.slice b7 b7n b7c,.slice p7 p7n p7c,.int .i64 E.tip] 67,.cells #[.int .i64 bp,.int .i64 bh,.int .i64 bw,.int .i64 bo,.slice l7 l7n l7c] 39]:=⟨_,rfl⟩
  have hU':U=(((w4.alloc (.cells #[.slice k7 k7n k7c] 24)).alloc (.cells #[.slice n7 n7n n7c,.slice b7 b7n b7c,.slice p7 p7n p7c,.int .i64 E.tip] 67)).alloc (.cells #[.int .i64 bp,.int .i64 bh,.int .i64 bw,.int .i64 bo,.slice l7 l7n l7c] 39)):=hU
  have hbU:Below w4.heap.size w4 U:=by rw[hU];exact Zp _ _
  have Fk7_U:Hid (U.heap[w4.heap.size]? = some (.cells [.slice k7 k7n k7c].toArray 24 (0,0))):=by show U.heap[w4.heap.size]? = _;rw[hU];exact Zm _ w4 0 _ rfl
  have Fn7_U:Hid (U.heap[w4.heap.size+1]? = some (.cells [.slice n7 n7n n7c,.slice b7 b7n b7c,.slice p7 p7n p7c,.int .i64 E.tip].toArray 67 (0,0))):=by show U.heap[w4.heap.size+1]? = _;rw[hU];exact Zm _ w4 1 _ rfl
  have Fb7_U:Hid (U.heap[w4.heap.size+2]? = some (.cells [.int .i64 bp,.int .i64 bh,.int .i64 bw,.int .i64 bo,.slice l7 l7n l7c].toArray 39 (0,0))):=by show U.heap[w4.heap.size+2]? = _;rw[hU];exact Zm _ w4 2 _ rfl
  have hbcU:=Zf hb4 hbU
  have HDD:=Zb (hF U (Gr.of hbU))
  have HS7:=Zb (⟨s2,s3,s4,s5⟩:SlOk n7 n7n n7c∧SlOk b7 b7n b7c∧SlOk p7 p7n p7c∧SlOk l7 l7n l7c)
  have Fk_U:=mvd hbcU Fk_wc
  have Fn_U:=mvd hbcU Fn_wc
  have Bw_U:=onb Bw_wc hbcU
  have BX_U:=onb BX_wc hbcU
  have BY_U:=onb BY_wc hbcU
  clear Fk_wc Fn_wc Bw_wc BX_wc BY_wc
  have BU_U:Hid (Below U.heap.size U U):=Below.refl _ _
  have D1:=Zb (W9 U ((Za HD) U (Za Bw_U)).1)
  clear hU hbU hb4 hF s1 s2 s3 s4 s5 hbcU
  by_cases h0:x2=0
  ·subst h0
   obtain⟨o1,o2,o3,o4,o5,_⟩:=At (Za HX2)
   have nd:=(Za HDD).1
   have ntx:=(Za HDD).2
   have psm:=Vw o2
   have pl:E.p.length=p7n:=nd.p.1
   obtain⟨z2,z3,z4,z5⟩:=Za HS7
   have C2:=Zb (fun V (hv:Below U.heap.size U V)=>U8 k7 k7n k7c E.k n7 b7 p7 n7n n7c b7n b7c p7n p7c E.n E.t E.p E.tip V ((Za HD) V (Zf (Za Bw_U) hv)).1 (nd.k.later hv) (nd.n.later hv) (nd.b.later hv) (nd.p.later hv) z2 z3 z4 (by omega) psm.2 bp bh bw bo l7 l7n l7c bL (ntx.later hv) z5 6 0 Dsk.none o3)
   have C3:=Zb (fun V (hv:Below U.heap.size U V)=>Tr.block_is n7 b7 n7n n7c b7n b7c E.n E.t E.tip (bp,bh,bw,bo,bL) 0 V (nd.n.later hv) (nd.b.later hv) z2 z3 o4)
   have C4:=Zb (fun V (hv:Below U.heap.size U V) (a2:Option Addr) (m2 c2:Nat) (h2:TxsAt V a2 m2 bL)=>Hz bp bh bw bo bp bh bw bo l7 a2 l7n l7c m2 c2 bL bL true V (Nat.le_trans z5.1 z5.2.1) (ntx.later hv) h2 ((Lc _ _).2 rfl))
   have C5:=Zb (fun V (hv:Below U.heap.size U V)=>Jt k7 k7n k7c E.k n7 b7 p7 n7n n7c b7n b7c p7n p7c E.n E.t E.p E.tip 0 V ((Za HD) V (Zf (Za Bw_U) hv)).1 (nd.k.later hv) (nd.n.later hv) (nd.b.later hv) (nd.p.later hv) z2 z3 z4 (by omega) psm.2 o2)
   have hbt:bp=tip:=o5
   clear o1 o2 o3 o4 o5 nd ntx psm pl z2 z3 z4 z5 HDD HS7 HX2 HD HS
   subst hbt
   go_upto_region 7 with fail
   rw[←hU']
   clear hU'
   go_wp2_with fail
   refine (Za D1).mono ?_
   rintro e w5 ⟨rfl,hb5⟩
   have Fk_w5:=mvd hb5 Fk_U
   have Fn_w5:=mvd hb5 Fn_U
   have Fk7_w5:=mvd hb5 Fk7_U
   have Fn7_w5:=mvd hb5 Fn7_U
   have Fb7_w5:=mvd hb5 Fb7_U
   have Bw_w5:=onb Bw_U hb5
   have BX_w5:=onb BX_U hb5
   have BY_w5:=onb BY_U hb5
   have BU_w5:=onb BU_U hb5
   clear Fk_U Fn_U Fk7_U Fn7_U Fb7_U Bw_U BX_U BY_U BU_U
   have E2:=Zb ((Za C2) w5 (Za BU_w5))
   clear hb5 D1 C2
   obtain⟨mk0,mlk⟩:=cl1 Fk_w5
   obtain⟨mn0,mn1,mn2,mn3,mln⟩:=cl4 Fn_w5
   obtain⟨mk70,mlk7⟩:=cl1 Fk7_w5
   obtain⟨mn70,mn71,mn72,mn73,mln7⟩:=cl4 Fn7_w5
   obtain⟨mb70,mb71,mb72,mb73,mb74,mlb7⟩:=cl5 Fb7_w5
   go_wp2_with fail
   refine (Za E2).mono ?_
   rintro e w6 ⟨k8,k8n,k8c,n8,n8n,n8c,b8,b8n,b8c,p8,p8n,p8c,rfl,-,-,-,-,-,hb6⟩
   clear mk0 mlk mn0 mn1 mn2 mn3 mln mk70 mlk7 mn70 mn71 mn72 mn73 mln7 mb70 mb71 mb72 mb73 mb74 mlb7
   have Fk_w6:=mvd hb6 Fk_w5
   have Fn_w6:=mvd hb6 Fn_w5
   have Fk7_w6:=mvd hb6 Fk7_w5
   have Fn7_w6:=mvd hb6 Fn7_w5
   have Fb7_w6:=mvd hb6 Fb7_w5
   have Bw_w6:=onb Bw_w5 hb6
   have BX_w6:=onb BX_w5 hb6
   have BY_w6:=onb BY_w5 hb6
   have BU_w6:=onb BU_w5 hb6
   clear Fk_w5 Fn_w5 Fk7_w5 Fn7_w5 Fb7_w5 Bw_w5 BX_w5 BY_w5 BU_w5
   have E3:=Zb ((Za C3) w6 (Za BU_w6))
   clear hb6 E2 C3
   obtain⟨mk0,mlk⟩:=cl1 Fk_w6
   obtain⟨mn0,mn1,mn2,mn3,mln⟩:=cl4 Fn_w6
   obtain⟨mk70,mlk7⟩:=cl1 Fk7_w6
   obtain⟨mn70,mn71,mn72,mn73,mln7⟩:=cl4 Fn7_w6
   obtain⟨mb70,mb71,mb72,mb73,mb74,mlb7⟩:=cl5 Fb7_w6
   go_wp2_with fail
   refine (Za E3).mono ?_
   rintro e w7 ⟨ta,tn,tc,rfl,htx,-,hb7⟩
   clear mk0 mlk mn0 mn1 mn2 mn3 mln mk70 mlk7 mn70 mn71 mn72 mn73 mln7 mb70 mb71 mb72 mb73 mb74 mlb7
   obtain⟨V,hV⟩:∃ V,V=Z9 w7 [.cells #[.int .i64 bp,.int .i64 bh,.int .i64 bw,.int .i64 bo,.slice ta tn tc] 39]:=⟨_,rfl⟩
   have hV':V=(w7.alloc (.cells #[.int .i64 bp,.int .i64 bh,.int .i64 bw,.int .i64 bo,.slice ta tn tc] 39)):=hV
   have hbV:Below w7.heap.size w7 V:=by rw[hV];exact Zp _ _
   have Fc_V:Hid (V.heap[w7.heap.size]? = some (.cells [.int .i64 bp,.int .i64 bh,.int .i64 bw,.int .i64 bo,.slice ta tn tc].toArray 39 (0,0))):=by show V.heap[w7.heap.size]? = _;rw[hV];exact Zm _ w7 0 _ rfl
   have hbV2:=Zf hb7 hbV
   have Fk_V:=mvd hbV2 Fk_w6
   have Fn_V:=mvd hbV2 Fn_w6
   have Fk7_V:=mvd hbV2 Fk7_w6
   have Fn7_V:=mvd hbV2 Fn7_w6
   have Fb7_V:=mvd hbV2 Fb7_w6
   have Bw_V:=onb Bw_w6 hbV2
   have BX_V:=onb BX_w6 hbV2
   have BY_V:=onb BY_w6 hbV2
   have BU_V:=onb BU_w6 hbV2
   clear Fk_w6 Fn_w6 Fk7_w6 Fn7_w6 Fb7_w6 Bw_w6 BX_w6 BY_w6 BU_w6
   have E4:=Zb ((Za C4) V (Za BU_V) ta tn tc (htx.later hbV))
   clear hbV2 hbV hV hb7 htx E3 C4
   go_upto_region 11 with fail
   rw[←hV']
   clear hV'
   obtain⟨mk0,mlk⟩:=cl1 Fk_V
   obtain⟨mn0,mn1,mn2,mn3,mln⟩:=cl4 Fn_V
   obtain⟨mk70,mlk7⟩:=cl1 Fk7_V
   obtain⟨mn70,mn71,mn72,mn73,mln7⟩:=cl4 Fn7_V
   obtain⟨mb70,mb71,mb72,mb73,mb74,mlb7⟩:=cl5 Fb7_V
   obtain⟨mc0,mc1,mc2,mc3,mc4,mlc⟩:=cl5 Fc_V
   go_wp2_with fail
   refine (Za E4).mono ?_
   rintro e w8 ⟨rfl,hb8⟩
   clear mk0 mlk mn0 mn1 mn2 mn3 mln mk70 mlk7 mn70 mn71 mn72 mn73 mln7 mb70 mb71 mb72 mb73 mb74 mlb7 mc0 mc1 mc2 mc3 mc4 mlc
   have Fk_w8:=mvd hb8 Fk_V
   have Fn_w8:=mvd hb8 Fn_V
   have Fk7_w8:=mvd hb8 Fk7_V
   have Fn7_w8:=mvd hb8 Fn7_V
   have Fb7_w8:=mvd hb8 Fb7_V
   have Fc_w8:=mvd hb8 Fc_V
   have Bw_w8:=onb Bw_V hb8
   have BX_w8:=onb BX_V hb8
   have BY_w8:=onb BY_V hb8
   have BU_w8:=onb BU_V hb8
   clear Fk_V Fn_V Fk7_V Fn7_V Fb7_V Fc_V Bw_V BX_V BY_V BU_V
   have E5:=Zb ((Za C5) w8 (Za BU_w8))
   clear hb8 E4 C5
   obtain⟨mk0,mlk⟩:=cl1 Fk_w8
   obtain⟨mn0,mn1,mn2,mn3,mln⟩:=cl4 Fn_w8
   obtain⟨mk70,mlk7⟩:=cl1 Fk7_w8
   obtain⟨mn70,mn71,mn72,mn73,mln7⟩:=cl4 Fn7_w8
   obtain⟨mb70,mb71,mb72,mb73,mb74,mlb7⟩:=cl5 Fb7_w8
   obtain⟨mc0,mc1,mc2,mc3,mc4,mlc⟩:=cl5 Fc_w8
   go_wp2_with fail
   refine (Za E5).mono ?_
   rintro e w9 ⟨rfl,hb9⟩
   clear mk0 mlk mn0 mn1 mn2 mn3 mln mk70 mlk7 mn70 mn71 mn72 mn73 mln7 mb70 mb71 mb72 mb73 mb74 mlb7 mc0 mc1 mc2 mc3 mc4 mlc
   have Fk_w9:=mvd hb9 Fk_w8
   have Fn_w9:=mvd hb9 Fn_w8
   have Fk7_w9:=mvd hb9 Fk7_w8
   have Fn7_w9:=mvd hb9 Fn7_w8
   have Fb7_w9:=mvd hb9 Fb7_w8
   have Fc_w9:=mvd hb9 Fc_w8
   have Bw_w9:=onb Bw_w8 hb9
   have BX_w9:=onb BX_w8 hb9
   have BY_w9:=onb BY_w8 hb9
   have BU_w9:=onb BU_w8 hb9
   clear Fk_w8 Fn_w8 Fk7_w8 Fn7_w8 Fb7_w8 Fc_w8 Bw_w8 BX_w8 BY_w8 BU_w8
   clear hb9 E5
   go_wp2
   go_ret
   exact⟨rfl,Za Bw_w9⟩
  ·have gx:(x2 != 0)=true:=by simp[h0]
   go_upto_region 7 with fail
   rw[←hU']
   clear hU'
   go_wp2_with fail
   refine (Za D1).mono ?_
   rintro e w5 ⟨rfl,hb5⟩
   have Fk_w5:=mvd hb5 Fk_U
   have Fn_w5:=mvd hb5 Fn_U
   have Fk7_w5:=mvd hb5 Fk7_U
   have Fn7_w5:=mvd hb5 Fn7_U
   have Fb7_w5:=mvd hb5 Fb7_U
   have Bw_w5:=onb Bw_U hb5
   have BX_w5:=onb BX_U hb5
   have BY_w5:=onb BY_U hb5
   have BU_w5:=onb BU_U hb5
   clear Fk_U Fn_U Fk7_U Fn7_U Fb7_U Bw_U BX_U BY_U BU_U
   have D2:=Zb (W9 w5 ((Za HD) w5 (Za Bw_w5)).1)
   clear hb5 D1
   go_wp2_with fail
   refine (Za D2).mono ?_
   rintro e w6 ⟨rfl,hb6⟩
   have Fk_w6:=mvd hb6 Fk_w5
   have Fn_w6:=mvd hb6 Fn_w5
   have Fk7_w6:=mvd hb6 Fk7_w5
   have Fn7_w6:=mvd hb6 Fn7_w5
   have Fb7_w6:=mvd hb6 Fb7_w5
   have Bw_w6:=onb Bw_w5 hb6
   have BX_w6:=onb BX_w5 hb6
   have BY_w6:=onb BY_w5 hb6
   have BU_w6:=onb BU_w5 hb6
   clear Fk_w5 Fn_w5 Fk7_w5 Fn7_w5 Fb7_w5 Bw_w5 BX_w5 BY_w5 BU_w5
   clear hb6 D2
   go_wp2
   go_ret
   exact⟨rfl,Za Bw_w6⟩
end Go.Proofs.YtmomfkikogbdeaaGreatDoor
