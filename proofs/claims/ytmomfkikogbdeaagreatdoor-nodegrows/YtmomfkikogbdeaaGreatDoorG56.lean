import Derived.Test.YtmomfkikogbdeaaGreatDoorG42
import Derived.Test.YtmomfkikogbdeaaGreatDoorG54
import Derived.Test.YtmomfkikogbdeaaGreatDoorG55
namespace Go.Proofs.YtmomfkikogbdeaaGreatDoor
open Go.RowKit
set_option maxRecDepth 10000 in
set_option maxHeartbeats 12800000 in
theorem Kj(ka:Option Addr)(kn kc:Nat)(K:List ByteArray)(na ba pa:Option Addr)(nn nc bn bc pn pc:Nat)(N:List Int)(T:List Zk)(P:List TxD)(tip:Int)(p hh k o:Int)(a:Option Addr)(n c:Nat)(L:List TxD)(w:World)(hE:Env w)(hK:Bk.TextsAt w ka kn K)(hN:Tr.IntsAt w na nn N)(hT:Tr.BlksAt w ba bn T)(hP:TxsAt w pa pn P)(sN:SlOk na nn nc)(sT:SlOk ba bn bc)(sP:SlOk pa pn pc)(hp:pn≤2513169434916)(hq:∀ t∈P,Tr.TxSmall t)(hL:TxsAt w a n L)(sL:SlOk a n c) :
  Calls Tryz.prog 8 #[.agg #[.slice ka kn kc],.agg #[.slice na nn nc,.slice ba bn bc,.slice pa pn pc,.int .i64 tip],.agg #[.int .i64 p,.int .i64 hh,.int .i64 k,.int .i64 o,.slice a n c]] w fun e w'=>e = .returned (.bool true)∧Below w.heap.size w w':=by
 obtain⟨X,hX⟩:∃ X,X=Z9 w [.cells #[.slice ka kn kc] 24,.cells #[.slice na nn nc,.slice ba bn bc,.slice pa pn pc,.int .i64 tip] 67,.cells #[.int .i64 p,.int .i64 hh,.int .i64 k,.int .i64 o,.slice a n c] 39]:=⟨_,rfl⟩
 have hX':X=(((w.alloc (.cells #[.slice ka kn kc] 24)).alloc (.cells #[.slice na nn nc,.slice ba bn bc,.slice pa pn pc,.int .i64 tip] 67)).alloc (.cells #[.int .i64 p,.int .i64 hh,.int .i64 k,.int .i64 o,.slice a n c] 39)):=hX
 have hbX:Below w.heap.size w X:=by rw[hX];exact Zp _ _
 have Fk_X:Hid (X.heap[w.heap.size]? = some (.cells [.slice ka kn kc].toArray 24 (0,0))):=by show X.heap[w.heap.size]? = _;rw[hX];exact Zm _ w 0 _ rfl
 have Fn_X:Hid (X.heap[w.heap.size+1]? = some (.cells [.slice na nn nc,.slice ba bn bc,.slice pa pn pc,.int .i64 tip].toArray 67 (0,0))):=by show X.heap[w.heap.size+1]? = _;rw[hX];exact Zm _ w 1 _ rfl
 have Fb_X:Hid (X.heap[w.heap.size+2]? = some (.cells [.int .i64 p,.int .i64 hh,.int .i64 k,.int .i64 o,.slice a n c].toArray 39 (0,0))):=by show X.heap[w.heap.size+2]? = _;rw[hX];exact Zm _ w 2 _ rfl
 obtain⟨⟨x,s,D⟩,hx⟩:∃ r,ntR K N T P tip (p,hh,k,o,L)=r:=⟨_,rfl⟩
 have HD:Hid (∀ V,Below w.heap.size w V→Env V∧Tr.IntsAt V na nn N∧Tr.BlksAt V ba bn T∧TxsAt V a n L):=fun V hv=>⟨hE.later hv,hN.later hv,hT.later hv,hL.later hv⟩
 have HS:=Zb (⟨sN,sT,sL⟩:SlOk na nn nc∧SlOk ba bn bc∧SlOk a n c)
 have C1:=Zb (U8 ka kn kc K na ba pa nn nc bn bc pn pc N T P tip X (hE.later hbX) (hK.later hbX) (hN.later hbX) (hT.later hbX) (hP.later hbX) sN sT sP hp hq p hh k o a n c L (hL.later hbX) sL x s D hx)
 have HX1:=Zb hx
 have Bw_X:Hid (Below w.heap.size w X):=hbX
 clear hE hK hN hT hP sN sT sP hp hq hL sL hx hbX hX
 obtain⟨mk0,mlk⟩:=cl1 Fk_X
 obtain⟨mn0,mn1,mn2,mn3,mln⟩:=cl4 Fn_X
 obtain⟨mb0,mb1,mb2,mb3,mb4,mlb⟩:=cl5 Fb_X
 go_enter Tryz.func8,Tryz.ntmps8
 go_wp2_with fail
 rw[←hX']
 clear hX'
 (try go_wp2_with fail)
 refine (Za C1).mono ?_
 rintro e w1 ⟨k5,k5n,k5c,n5,n5n,n5c,b5,b5n,b5c,p5,p5n,p5c,rfl,hF,s1,s2,s3,s4,hb1⟩
 clear mk0 mlk mn0 mn1 mn2 mn3 mln mb0 mb1 mb2 mb3 mb4 mlb
 clear C1
 obtain⟨Y,hY⟩:∃ Y,Y=Z9 w1 [.cells #[.slice k5 k5n k5c] 24,.cells #[.slice n5 n5n n5c,.slice b5 b5n b5c,.slice p5 p5n p5c,.int .i64 D.tip] 67]:=⟨_,rfl⟩
 have hY':Y=((w1.alloc (.cells #[.slice k5 k5n k5c] 24)).alloc (.cells #[.slice n5 n5n n5c,.slice b5 b5n b5c,.slice p5 p5n p5c,.int .i64 D.tip] 67)):=hY
 have hbY:Below w1.heap.size w1 Y:=by rw[hY];exact Zp _ _
 have Fk5_Y:Hid (Y.heap[w1.heap.size]? = some (.cells [.slice k5 k5n k5c].toArray 24 (0,0))):=by show Y.heap[w1.heap.size]? = _;rw[hY];exact Zm _ w1 0 _ rfl
 have Fn5_Y:Hid (Y.heap[w1.heap.size+1]? = some (.cells [.slice n5 n5n n5c,.slice b5 b5n b5c,.slice p5 p5n p5c,.int .i64 D.tip].toArray 67 (0,0))):=by show Y.heap[w1.heap.size+1]? = _;rw[hY];exact Zm _ w1 1 _ rfl
 have hbXY:=Zf hb1 hbY
 have HDD:=Zb (hF Y (Gr.of hbY))
 have HS5:=Zb (⟨s2,s3,s4⟩:SlOk n5 n5n n5c∧SlOk b5 b5n b5c∧SlOk p5 p5n p5c)
 have Fk_Y:=mvd hbXY Fk_X
 have Fn_Y:=mvd hbXY Fn_X
 have Fb_Y:=mvd hbXY Fb_X
 have Bw_Y:=onb Bw_X hbXY
 clear Fk_X Fn_X Fb_X Bw_X
 have BY_Y:Hid (Below Y.heap.size Y Y):=Below.refl _ _
 have D1:=Zb (W9 Y ((Za HD) Y (Za Bw_Y)).1)
 clear hY hbY hb1 hF s1 s2 s3 s4 hbXY
 by_cases h0:x=0
 ·subst h0
  obtain⟨g1,g2,g3,⟨v,u,g4,g5,g6⟩,g7,g8,g9,g10⟩:=Du (Za HX1)
  have hlk:=Av g8 g7
  have nd:=Za HDD
  obtain⟨z1,z2,z3⟩:=Za HS
  obtain⟨z4,z5,z6⟩:=Za HS5
  have hnn:N.length=nn:=((Za HD) Y (Za Bw_Y)).2.1.1
  have hn5:D.n.length=n5n:=nd.n.1
  obtain⟨tt,htt⟩:∃ tt,Pr (p,hh,k,o,L)=tt:=⟨_,rfl⟩
  rw[htt] at hlk
  have CB:=Zb (fun V (hv:Below Y.heap.size Y V)=>Tr.block_is n5 b5 n5n n5c b5n b5c D.n D.t s (p,hh,k,o,L) 0 V (nd.n.later hv) (nd.b.later hv) z4 z5 g3)
  have CV:=Zb (fun V (hv:Below Y.heap.size Y V)=>Tr.work_is na ba nn nc bn bc N T tip v 0 V ((Za HD) V (Zf (Za Bw_Y) hv)).2.1 ((Za HD) V (Zf (Za Bw_Y) hv)).2.2.1 z1 z2 g4)
  have CU:=Zb (fun V (hv:Below Y.heap.size Y V)=>Tr.work_is n5 b5 n5n n5c b5n b5c D.n D.t D.tip u 0 V (nd.n.later hv) (nd.b.later hv) z4 z5 g5)
  have CL:=Zb (fun V (hv:Below Y.heap.size Y V)=>Bk.look_is k5 k5n k5c D.k s V (nd.k.later hv) (Yf g2).1)
  rw[hlk.1,hlk.2] at CL
  have CP:=Zb (fun V (hv:Below Y.heap.size Y V)=>Ph p hh k o a n c L tt 0 V ((Za HD) V (Zf (Za Bw_Y) hv)).1 ((Za HD) V (Zf (Za Bw_Y) hv)).2.2.2 (Wb g7).1 htt)
  have CS:=Zb (fun V (hv:Below Y.heap.size Y V) (a2:Option Addr) (m2 c2:Nat) (h2:TxsAt V a2 m2 L)=>Hz p hh k o p hh k o a a2 n c m2 c2 L L true V (Nat.le_trans z3.1 z3.2.1) ((Za HD) V (Zf (Za Bw_Y) hv)).2.2.2 h2 ((Lc _ _).2 rfl))
  have CE:=Zb (fun V (hv:Below Y.heap.size Y V) (c':Nat)=>Tr.eqInt_is n5 na nn nn c' nc N N true V (Nat.le_trans z1.1 z1.2.1) (by
   have q:=nd.n.later hv
   refine⟨hnn,fun hpos=>?_⟩
   obtain⟨b,off,e,hlt,hc⟩:=q.2 (by omega)
   refine⟨b,off,e,hlt,fun i hi=>?_⟩
   have:=hc i (by omega)
   rw[this]
   have e3:D.n[i]'(by omega)=(D.n.take N.length)[i]'(by rw[g10];exact hi):=by rw[List.getElem_take]
   rw[e3]
   congr 2
   simp only[g10]) ((Za HD) V (Zf (Za Bw_Y) hv)).2.1 (by simp))
  have hpl:D.p.length=p5n:=nd.p.1
  have psm:=Vw g2
  have CC:=Zb (fun V (hv:Below Y.heap.size Y V)=>Jt k5 k5n k5c D.k n5 b5 p5 n5n n5c b5n b5c p5n p5c D.n D.t D.p D.tip 0 V ((Za HD) V (Zf (Za Bw_Y) hv)).1 (nd.k.later hv) (nd.n.later hv) (nd.b.later hv) (nd.p.later hv) z4 z5 z6 (by omega) psm.2 g2)
  have HNUM:Hid (n5n=nn+1∧n5n≤n5c∧v≤u∧n5n≤24):=⟨by omega,z4.1,g6,by rw[←hn5];exact (Wp (Yh (Yf g2).2.1).1).2.1⟩
  clear g1 g2 g3 g4 g5 g6 g7 g8 g9 g10 hlk nd hnn hn5 htt hpl psm z1 z2 z3 z4 z5 z6 HDD HS HS5 HX1
  go_upto_region 2 with fail
  rw[←hY']
  clear hY'
  go_wp2_with fail
  refine (Za D1).mono ?_
  rintro e w2 ⟨rfl,hb2⟩
  have Fk_w2:=mvd hb2 Fk_Y
  have Fn_w2:=mvd hb2 Fn_Y
  have Fb_w2:=mvd hb2 Fb_Y
  have Fk5_w2:=mvd hb2 Fk5_Y
  have Fn5_w2:=mvd hb2 Fn5_Y
  have Bw_w2:=onb Bw_Y hb2
  have BY_w2:=onb BY_Y hb2
  clear Fk_Y Fn_Y Fb_Y Fk5_Y Fn5_Y Bw_Y BY_Y
  clear hb2 D1
  have E:=Zb ((Za CB) w2 (Za BY_w2))
  clear CB
  obtain⟨mk0,mlk⟩:=cl1 Fk_w2
  obtain⟨mn0,mn1,mn2,mn3,mln⟩:=cl4 Fn_w2
  obtain⟨mb0,mb1,mb2,mb3,mb4,mlb⟩:=cl5 Fb_w2
  obtain⟨mk50,mlk5⟩:=cl1 Fk5_w2
  obtain⟨mn50,mn51,mn52,mn53,mln5⟩:=cl4 Fn5_w2
  go_wp2_with fail
  refine (Za E).mono ?_
  rintro e w3 ⟨ta,tn,tc,rfl,htx,-,hb3⟩
  clear mk0 mlk mn0 mn1 mn2 mn3 mln mb0 mb1 mb2 mb3 mb4 mlb mk50 mlk5 mn50 mn51 mn52 mn53 mln5
  clear E
  obtain⟨V,hV⟩:∃ V,V=Z9 w3 [.cells #[.int .i64 p,.int .i64 hh,.int .i64 k,.int .i64 o,.slice ta tn tc] 39]:=⟨_,rfl⟩
  have hV':V=(w3.alloc (.cells #[.int .i64 p,.int .i64 hh,.int .i64 k,.int .i64 o,.slice ta tn tc] 39)):=hV
  have hbV:Below w3.heap.size w3 V:=by rw[hV];exact Zp _ _
  have Fc_V:Hid (V.heap[w3.heap.size]? = some (.cells [.int .i64 p,.int .i64 hh,.int .i64 k,.int .i64 o,.slice ta tn tc].toArray 39 (0,0))):=by show V.heap[w3.heap.size]? = _;rw[hV];exact Zm _ w3 0 _ rfl
  have hbV2:=Zf hb3 hbV
  have Fk_V:=mvd hbV2 Fk_w2
  have Fn_V:=mvd hbV2 Fn_w2
  have Fb_V:=mvd hbV2 Fb_w2
  have Fk5_V:=mvd hbV2 Fk5_w2
  have Fn5_V:=mvd hbV2 Fn5_w2
  have Bw_V:=onb Bw_w2 hbV2
  have BY_V:=onb BY_w2 hbV2
  clear Fk_w2 Fn_w2 Fb_w2 Fk5_w2 Fn5_w2 Bw_w2 BY_w2
  have BV_V:Hid (Below V.heap.size V V):=Below.refl _ _
  have HTX:=Zb (htx.later hbV)
  clear hbV2 hbV hV hb3 htx
  go_upto_region 5 with fail
  rw[←hV']
  clear hV'
  have E:=Zb ((Za CV) V (Za BY_V))
  clear CV
  obtain⟨mk0,mlk⟩:=cl1 Fk_V
  obtain⟨mn0,mn1,mn2,mn3,mln⟩:=cl4 Fn_V
  obtain⟨mb0,mb1,mb2,mb3,mb4,mlb⟩:=cl5 Fb_V
  obtain⟨mk50,mlk5⟩:=cl1 Fk5_V
  obtain⟨mn50,mn51,mn52,mn53,mln5⟩:=cl4 Fn5_V
  obtain⟨mc0,mc1,mc2,mc3,mc4,mlc⟩:=cl5 Fc_V
  go_wp2_with fail
  refine (Za E).mono ?_
  rintro e w4 ⟨rfl,hb⟩
  clear mk0 mlk mn0 mn1 mn2 mn3 mln mb0 mb1 mb2 mb3 mb4 mlb mk50 mlk5 mn50 mn51 mn52 mn53 mln5 mc0 mc1 mc2 mc3 mc4 mlc
  clear E
  have Fk_w4:=mvd hb Fk_V
  have Fn_w4:=mvd hb Fn_V
  have Fb_w4:=mvd hb Fb_V
  have Fk5_w4:=mvd hb Fk5_V
  have Fn5_w4:=mvd hb Fn5_V
  have Fc_w4:=mvd hb Fc_V
  have Bw_w4:=onb Bw_V hb
  have BY_w4:=onb BY_V hb
  have BV_w4:=onb BV_V hb
  clear Fk_V Fn_V Fb_V Fk5_V Fn5_V Fc_V Bw_V BY_V BV_V
  clear hb
  have E:=Zb ((Za CU) w4 (Za BY_w4))
  clear CU
  obtain⟨mk0,mlk⟩:=cl1 Fk_w4
  obtain⟨mn0,mn1,mn2,mn3,mln⟩:=cl4 Fn_w4
  obtain⟨mb0,mb1,mb2,mb3,mb4,mlb⟩:=cl5 Fb_w4
  obtain⟨mk50,mlk5⟩:=cl1 Fk5_w4
  obtain⟨mn50,mn51,mn52,mn53,mln5⟩:=cl4 Fn5_w4
  obtain⟨mc0,mc1,mc2,mc3,mc4,mlc⟩:=cl5 Fc_w4
  go_wp2_with fail
  refine (Za E).mono ?_
  rintro e w5 ⟨rfl,hb⟩
  clear mk0 mlk mn0 mn1 mn2 mn3 mln mb0 mb1 mb2 mb3 mb4 mlb mk50 mlk5 mn50 mn51 mn52 mn53 mln5 mc0 mc1 mc2 mc3 mc4 mlc
  clear E
  have Fk_w5:=mvd hb Fk_w4
  have Fn_w5:=mvd hb Fn_w4
  have Fb_w5:=mvd hb Fb_w4
  have Fk5_w5:=mvd hb Fk5_w4
  have Fn5_w5:=mvd hb Fn5_w4
  have Fc_w5:=mvd hb Fc_w4
  have Bw_w5:=onb Bw_w4 hb
  have BY_w5:=onb BY_w4 hb
  have BV_w5:=onb BV_w4 hb
  clear Fk_w4 Fn_w4 Fb_w4 Fk5_w4 Fn5_w4 Fc_w4 Bw_w4 BY_w4 BV_w4
  clear hb
  have E:=Zb ((Za CL) w5 (Za BY_w5))
  clear CL
  obtain⟨mk0,mlk⟩:=cl1 Fk_w5
  obtain⟨mn0,mn1,mn2,mn3,mln⟩:=cl4 Fn_w5
  obtain⟨mb0,mb1,mb2,mb3,mb4,mlb⟩:=cl5 Fb_w5
  obtain⟨mk50,mlk5⟩:=cl1 Fk5_w5
  obtain⟨mn50,mn51,mn52,mn53,mln5⟩:=cl4 Fn5_w5
  obtain⟨mc0,mc1,mc2,mc3,mc4,mlc⟩:=cl5 Fc_w5
  go_wp2_with fail
  refine (Za E).mono ?_
  rintro e w6 ⟨rfl,hb⟩
  clear mk0 mlk mn0 mn1 mn2 mn3 mln mb0 mb1 mb2 mb3 mb4 mlb mk50 mlk5 mn50 mn51 mn52 mn53 mln5 mc0 mc1 mc2 mc3 mc4 mlc
  clear E
  have Fk_w6:=mvd hb Fk_w5
  have Fn_w6:=mvd hb Fn_w5
  have Fb_w6:=mvd hb Fb_w5
  have Fk5_w6:=mvd hb Fk5_w5
  have Fn5_w6:=mvd hb Fn5_w5
  have Fc_w6:=mvd hb Fc_w5
  have Bw_w6:=onb Bw_w5 hb
  have BY_w6:=onb BY_w5 hb
  have BV_w6:=onb BV_w5 hb
  clear Fk_w5 Fn_w5 Fb_w5 Fk5_w5 Fn5_w5 Fc_w5 Bw_w5 BY_w5 BV_w5
  clear hb
  have E:=Zb ((Za CP) w6 (Za BY_w6))
  clear CP
  obtain⟨mk0,mlk⟩:=cl1 Fk_w6
  obtain⟨mn0,mn1,mn2,mn3,mln⟩:=cl4 Fn_w6
  obtain⟨mb0,mb1,mb2,mb3,mb4,mlb⟩:=cl5 Fb_w6
  obtain⟨mk50,mlk5⟩:=cl1 Fk5_w6
  obtain⟨mn50,mn51,mn52,mn53,mln5⟩:=cl4 Fn5_w6
  obtain⟨mc0,mc1,mc2,mc3,mc4,mlc⟩:=cl5 Fc_w6
  go_wp2_with fail
  refine (Za E).mono ?_
  rintro e w7 ⟨rfl,hb⟩
  clear mk0 mlk mn0 mn1 mn2 mn3 mln mb0 mb1 mb2 mb3 mb4 mlb mk50 mlk5 mn50 mn51 mn52 mn53 mln5 mc0 mc1 mc2 mc3 mc4 mlc
  clear E
  have Fk_w7:=mvd hb Fk_w6
  have Fn_w7:=mvd hb Fn_w6
  have Fb_w7:=mvd hb Fb_w6
  have Fk5_w7:=mvd hb Fk5_w6
  have Fn5_w7:=mvd hb Fn5_w6
  have Fc_w7:=mvd hb Fc_w6
  have Bw_w7:=onb Bw_w6 hb
  have BY_w7:=onb BY_w6 hb
  have BV_w7:=onb BV_w6 hb
  clear Fk_w6 Fn_w6 Fb_w6 Fk5_w6 Fn5_w6 Fc_w6 Bw_w6 BY_w6 BV_w6
  clear hb
  go_upto_region 9 with fail
  simp only[List.append_eq,List.cons_append,List.nil_append]
  have E6:=Zb ((Za CS) w7.drew (Zf (Za BY_w7) (Zj _)) ta tn tc ((Za HTX).later (Zf (Za BV_w7) (Zj _))))
  obtain⟨q1,q2,q3,q4⟩:=Za HNUM
  have hw1:IntKind.i64.wrap ((nn:Int)+1)=(nn:Int)+1:=by rw[IntKind.wrap_i64];omega
  have he1:(n5n:Int)=(nn:Int)+1:=by omega
  have hs1:(nn:Int)≤(n5c:Int):=by omega
  clear q1 CS
  have KS:Hid (∀ U:World,Below w7.heap.size w7 U→(U.cell? ⟨w.heap.size+1,0,none⟩=some (.slice na nn nc)∧U.cell? ⟨w.heap.size+1,1,none⟩=some (.slice ba bn bc)∧U.cell? ⟨w.heap.size+1,2,none⟩=some (.slice pa pn pc)∧U.cell? ⟨w.heap.size+1,3,none⟩=some (.int .i64 tip)∧w.heap.size+1<U.heap.size∧U.cell? ⟨w.heap.size+2,0,none⟩=some (.int .i64 p)∧U.cell? ⟨w.heap.size+2,1,none⟩=some (.int .i64 hh)∧U.cell? ⟨w.heap.size+2,2,none⟩=some (.int .i64 k)∧U.cell? ⟨w.heap.size+2,3,none⟩=some (.int .i64 o)∧U.cell? ⟨w.heap.size+2,4,none⟩=some (.slice a n c)∧w.heap.size+2<U.heap.size∧U.cell? ⟨w1.heap.size,0,none⟩=some (.slice k5 k5n k5c)∧w1.heap.size<U.heap.size∧U.cell? ⟨w1.heap.size+1,0,none⟩=some (.slice n5 n5n n5c)∧U.cell? ⟨w1.heap.size+1,1,none⟩=some (.slice b5 b5n b5c)∧U.cell? ⟨w1.heap.size+1,2,none⟩=some (.slice p5 p5n p5c)∧U.cell? ⟨w1.heap.size+1,3,none⟩=some (.int .i64 D.tip)∧w1.heap.size+1<U.heap.size∧U.cell? ⟨w3.heap.size,0,none⟩=some (.int .i64 p)∧U.cell? ⟨w3.heap.size,1,none⟩=some (.int .i64 hh)∧U.cell? ⟨w3.heap.size,2,none⟩=some (.int .i64 k)∧U.cell? ⟨w3.heap.size,3,none⟩=some (.int .i64 o)∧U.cell? ⟨w3.heap.size,4,none⟩=some (.slice ta tn tc)∧w3.heap.size<U.heap.size)):=fun U hu=>⟨Ze hu (Zd (Za Fn_w7) 0 _ rfl),Ze hu (Zd (Za Fn_w7) 1 _ rfl),Ze hu (Zd (Za Fn_w7) 2 _ rfl),Ze hu (Zd (Za Fn_w7) 3 _ rfl),Nat.lt_of_lt_of_le (lt_of_block (Za Fn_w7)) hu.size,Ze hu (Zd (Za Fb_w7) 0 _ rfl),Ze hu (Zd (Za Fb_w7) 1 _ rfl),Ze hu (Zd (Za Fb_w7) 2 _ rfl),Ze hu (Zd (Za Fb_w7) 3 _ rfl),Ze hu (Zd (Za Fb_w7) 4 _ rfl),Nat.lt_of_lt_of_le (lt_of_block (Za Fb_w7)) hu.size,Ze hu (Zd (Za Fk5_w7) 0 _ rfl),Nat.lt_of_lt_of_le (lt_of_block (Za Fk5_w7)) hu.size,Ze hu (Zd (Za Fn5_w7) 0 _ rfl),Ze hu (Zd (Za Fn5_w7) 1 _ rfl),Ze hu (Zd (Za Fn5_w7) 2 _ rfl),Ze hu (Zd (Za Fn5_w7) 3 _ rfl),Nat.lt_of_lt_of_le (lt_of_block (Za Fn5_w7)) hu.size,Ze hu (Zd (Za Fc_w7) 0 _ rfl),Ze hu (Zd (Za Fc_w7) 1 _ rfl),Ze hu (Zd (Za Fc_w7) 2 _ rfl),Ze hu (Zd (Za Fc_w7) 3 _ rfl),Ze hu (Zd (Za Fc_w7) 4 _ rfl),Nat.lt_of_lt_of_le (lt_of_block (Za Fc_w7)) hu.size⟩
  have hb7:=Zj w7
  refine wp_region_held_drew (S:=fun U=>(U.cell? ⟨w.heap.size+1,0,none⟩=some (.slice na nn nc)∧U.cell? ⟨w.heap.size+1,1,none⟩=some (.slice ba bn bc)∧U.cell? ⟨w.heap.size+1,2,none⟩=some (.slice pa pn pc)∧U.cell? ⟨w.heap.size+1,3,none⟩=some (.int .i64 tip)∧w.heap.size+1<U.heap.size∧U.cell? ⟨w.heap.size+2,0,none⟩=some (.int .i64 p)∧U.cell? ⟨w.heap.size+2,1,none⟩=some (.int .i64 hh)∧U.cell? ⟨w.heap.size+2,2,none⟩=some (.int .i64 k)∧U.cell? ⟨w.heap.size+2,3,none⟩=some (.int .i64 o)∧U.cell? ⟨w.heap.size+2,4,none⟩=some (.slice a n c)∧w.heap.size+2<U.heap.size∧U.cell? ⟨w1.heap.size,0,none⟩=some (.slice k5 k5n k5c)∧w1.heap.size<U.heap.size∧U.cell? ⟨w1.heap.size+1,0,none⟩=some (.slice n5 n5n n5c)∧U.cell? ⟨w1.heap.size+1,1,none⟩=some (.slice b5 b5n b5c)∧U.cell? ⟨w1.heap.size+1,2,none⟩=some (.slice p5 p5n p5c)∧U.cell? ⟨w1.heap.size+1,3,none⟩=some (.int .i64 D.tip)∧w1.heap.size+1<U.heap.size∧U.cell? ⟨w3.heap.size,0,none⟩=some (.int .i64 p)∧U.cell? ⟨w3.heap.size,1,none⟩=some (.int .i64 hh)∧U.cell? ⟨w3.heap.size,2,none⟩=some (.int .i64 k)∧U.cell? ⟨w3.heap.size,3,none⟩=some (.int .i64 o)∧U.cell? ⟨w3.heap.size,4,none⟩=some (.slice ta tn tc)∧w3.heap.size<U.heap.size)) (by kernel_rfl) ((Za KS) _ hb7) (fun Zjc=>?_)
  refine tk 0 ⟨some 70,.move (.tmp 10),30, "law7.go:346",#[],none⟩ ?_ rfl ?_ Zjc ?_
  rotate_left
  ·(intro U hSw;clear hSw;go_simp;first|done|with_reducible rfl)
  (try simp only[Act.put,ZA,ZB,ZC])
  refine tk 1 ⟨some 71,.binOp BinOp.eql 30 (.tmp 70) (.const (Value.int IntKind.i64 0)) 30,4, "law7.go:346",#[⟨0,.data⟩],none⟩ ?_ rfl ?_ Zjc ?_
  rotate_left
  ·(intro U hSw;clear hSw;go_simp;first|done|with_reducible rfl)
  (try simp only[Act.put,ZA,ZB,ZC])
  refine tk 2 ⟨some 72,.move (.tmp 71),4, "law7.go:346",#[⟨1,.data⟩],none⟩ ?_ rfl ?_ Zjc ?_
  rotate_left
  ·(intro U hSw;clear hSw;go_simp;first|done|with_reducible rfl)
  (try simp only[Act.put,ZA,ZB,ZC])
  refine tk 3 ⟨some 73,.move (.tmp 13),30, "law7.go:346",#[⟨2,.guard⟩],some (2,true)⟩ ?_ rfl ?_ Zjc ?_
  rotate_left
  ·(intro U hSw;clear hSw;go_simp;first|done|with_reducible rfl)
  (try simp only[Act.put,ZA,ZB,ZC])
  refine tk 4 ⟨some 74,.binOp BinOp.eql 30 (.tmp 73) (.const (Value.int IntKind.i64 0)) 30,4, "law7.go:346",#[⟨3,.data⟩,⟨2,.guard⟩],some (2,true)⟩ ?_ rfl ?_ Zjc ?_
  rotate_left
  ·(intro U hSw;clear hSw;go_simp;first|done|with_reducible rfl)
  (try simp only[Act.put,ZA,ZB,ZC])
  refine tk 5 ⟨some 75,.pick (.tmp 72) (.tmp 74) (.const (Value.bool false)),4, "law7.go:346",#[⟨2,.data⟩,⟨4,.data⟩],none⟩ ?_ rfl ?_ Zjc ?_
  rotate_left
  ·(intro U hSw;clear hSw;go_simp;first|done|with_reducible rfl)
  (try simp only[Act.put,ZA,ZB,ZC])
  refine tk 6 ⟨some 76,.move (.tmp 75),4, "law7.go:346",#[⟨5,.data⟩,⟨2,.chain⟩],none⟩ ?_ rfl ?_ Zjc ?_
  rotate_left
  ·(intro U hSw;clear hSw;go_simp;first|done|with_reducible rfl)
  (try simp only[Act.put,ZA,ZB,ZC])
  refine tk 7 ⟨some 77,.move (.tmp 15),30, "law7.go:346",#[⟨6,.guard⟩],some (6,true)⟩ ?_ rfl ?_ Zjc ?_
  rotate_left
  ·(intro U hSw;clear hSw;go_simp;first|done|with_reducible rfl)
  (try simp only[Act.put,ZA,ZB,ZC])
  refine tk 8 ⟨some 78,.binOp BinOp.eql 30 (.tmp 77) (.const (Value.int IntKind.i64 0)) 30,4, "law7.go:346",#[⟨7,.data⟩,⟨6,.guard⟩],some (6,true)⟩ ?_ rfl ?_ Zjc ?_
  rotate_left
  ·(intro U hSw;clear hSw;go_simp;first|done|with_reducible rfl)
  (try simp only[Act.put,ZA,ZB,ZC])
  refine tk 9 ⟨some 79,.pick (.tmp 76) (.tmp 78) (.const (Value.bool false)),4, "law7.go:346",#[⟨6,.data⟩,⟨8,.data⟩],none⟩ ?_ rfl ?_ Zjc ?_
  rotate_left
  ·(intro U hSw;clear hSw;go_simp;first|done|with_reducible rfl)
  (try simp only[Act.put,ZA,ZB,ZC])
  refine tk 10 ⟨some 80,.move (.tmp 79),4, "law7.go:346",#[⟨9,.data⟩,⟨6,.chain⟩],none⟩ ?_ rfl ?_ Zjc ?_
  rotate_left
  ·(intro U hSw;clear hSw;go_simp;first|done|with_reducible rfl)
  (try simp only[Act.put,ZA,ZB,ZC])
  refine tk 11 ⟨some 81,.move (.tmp 17),30, "law7.go:346",#[⟨10,.guard⟩],some (10,true)⟩ ?_ rfl ?_ Zjc ?_
  rotate_left
  ·(intro U hSw;clear hSw;go_simp;first|done|with_reducible rfl)
  (try simp only[Act.put,ZA,ZB,ZC])
  refine tk 12 ⟨some 82,.binOp BinOp.eql 30 (.tmp 81) (.const (Value.int IntKind.i64 0)) 30,4, "law7.go:346",#[⟨11,.data⟩,⟨10,.guard⟩],some (10,true)⟩ ?_ rfl ?_ Zjc ?_
  rotate_left
  ·(intro U hSw;clear hSw;go_simp;first|done|with_reducible rfl)
  (try simp only[Act.put,ZA,ZB,ZC])
  refine tk 13 ⟨some 83,.pick (.tmp 80) (.tmp 82) (.const (Value.bool false)),4, "law7.go:346",#[⟨10,.data⟩,⟨12,.data⟩],none⟩ ?_ rfl ?_ Zjc ?_
  rotate_left
  ·(intro U hSw;clear hSw;go_simp;first|done|with_reducible rfl)
  (try simp only[Act.put,ZA,ZB,ZC])
  refine tk 14 ⟨some 84,.move (.tmp 83),4, "law7.go:346",#[⟨13,.data⟩,⟨10,.chain⟩],none⟩ ?_ rfl ?_ Zjc ?_
  rotate_left
  ·(intro U hSw;clear hSw;go_simp;first|done|with_reducible rfl)
  (try simp only[Act.put,ZA,ZB,ZC])
  refine tk 15 ⟨some 85,.move (.tmp 19),30, "law7.go:346",#[⟨14,.guard⟩],some (14,true)⟩ ?_ rfl ?_ Zjc ?_
  rotate_left
  ·(intro U hSw;clear hSw;go_simp;first|done|with_reducible rfl)
  (try simp only[Act.put,ZA,ZB,ZC])
  refine tk 16 ⟨some 86,.binOp BinOp.eql 30 (.tmp 85) (.const (Value.int IntKind.i64 0)) 30,4, "law7.go:346",#[⟨15,.data⟩,⟨14,.guard⟩],some (14,true)⟩ ?_ rfl ?_ Zjc ?_
  rotate_left
  ·(intro U hSw;clear hSw;go_simp;first|done|with_reducible rfl)
  (try simp only[Act.put,ZA,ZB,ZC])
  refine tk 17 ⟨some 87,.pick (.tmp 84) (.tmp 86) (.const (Value.bool false)),4, "law7.go:346",#[⟨14,.data⟩,⟨16,.data⟩],none⟩ ?_ rfl ?_ Zjc ?_
  rotate_left
  ·(intro U hSw;clear hSw;go_simp;first|done|with_reducible rfl)
  (try simp only[Act.put,ZA,ZB,ZC])
  refine tk 18 ⟨some 88,.move (.tmp 87),4, "law7.go:346",#[⟨17,.data⟩,⟨14,.chain⟩],none⟩ ?_ rfl ?_ Zjc ?_
  rotate_left
  ·(intro U hSw;clear hSw;go_simp;first|done|with_reducible rfl)
  (try simp only[Act.put,ZA,ZB,ZC])
  refine tk 19 ⟨some 89,.move (.tmp 16),9, "law7.go:346",#[⟨18,.guard⟩],some (18,true)⟩ ?_ rfl ?_ Zjc ?_
  rotate_left
  ·(intro U hSw;clear hSw;go_simp;first|done|with_reducible rfl)
  (try simp only[Act.put,ZA,ZB,ZC])
  refine tk 20 ⟨some 90,.move (.tmp 18),9, "law7.go:346",#[⟨18,.guard⟩],some (18,true)⟩ ?_ rfl ?_ Zjc ?_
  rotate_left
  ·(intro U hSw;clear hSw;go_simp;first|done|with_reducible rfl)
  (try simp only[Act.put,ZA,ZB,ZC])
  refine tk 21 ⟨some 91,.binOp BinOp.eql 9 (.tmp 89) (.tmp 90) 9,4, "law7.go:346",#[⟨19,.data⟩,⟨20,.data⟩,⟨18,.guard⟩],some (18,true)⟩ (.bool true) rfl ?_ Zjc ?_
  ·(intro U hSw;clear hSw;go_simp;first|done|with_reducible rfl)
  (try simp only[Act.put,ZA,ZB,ZC])
  refine tk 22 ⟨some 92,.pick (.tmp 88) (.tmp 91) (.const (Value.bool false)),4, "law7.go:346",#[⟨18,.data⟩,⟨21,.data⟩],none⟩ ?_ rfl ?_ Zjc ?_
  rotate_left
  ·(intro U hSw;clear hSw;go_simp;first|done|with_reducible rfl)
  (try simp only[Act.put,ZA,ZB,ZC])
  refine tk 23 ⟨some 93,.move (.tmp 92),4, "law7.go:346",#[⟨22,.data⟩,⟨18,.chain⟩],none⟩ ?_ rfl ?_ Zjc ?_
  rotate_left
  ·(intro U hSw;clear hSw;go_simp;first|done|with_reducible rfl)
  (try simp only[Act.put,ZA,ZB,ZC])
  refine tk 24 ⟨some 94,.load 39 (.tmp 5),39, "law7.go:346",#[⟨23,.guard⟩],some (23,true)⟩ ?_ rfl ?_ Zjc ?_
  rotate_left
  ·(intro U hSw;obtain⟨s0,s1,s2,s3,s4,s5,s6,s7,s8,s9,s10,s11,s12,s13,s14,s15,s16,s17,s18,s19,s20,s21,s22,s23⟩:=hSw;go_simp;first|done|with_reducible rfl)
  (try simp only[Act.put,ZA,ZB,ZC])
  refine tk 25 ⟨some 95,.load 39 (.tmp 11),39, "law7.go:346",#[⟨23,.guard⟩],some (23,true)⟩ ?_ rfl ?_ Zjc ?_
  rotate_left
  ·(intro U hSw;obtain⟨s0,s1,s2,s3,s4,s5,s6,s7,s8,s9,s10,s11,s12,s13,s14,s15,s16,s17,s18,s19,s20,s21,s22,s23⟩:=hSw;go_simp;first|done|with_reducible rfl)
  (try simp only[Act.put,ZA,ZB,ZC])
  refine wpAnyH_ready (rs:=[26]) (by kernel_rfl) (by simp) ?_
  refine AllReadyH.cons (o:=⟨some 96,.call { callee:=Callee.value (.func 37),args:=#[.tmp 94,.tmp 95],argTypes:=#[39,39] },4, "law7.go:346",#[⟨24,.data⟩,⟨25,.data⟩,⟨23,.chain⟩,⟨23,.guard⟩],some (23,true)⟩) rfl (fun KQ hK=>?_) AllReadyH.nil
  refine Zl (by kernel_rfl) 37 #[.agg #[.int .i64 p,.int .i64 hh,.int .i64 k,.int .i64 o,.slice a n c],.agg #[.int .i64 p,.int .i64 hh,.int .i64 k,.int .i64 o,.slice ta tn tc]] (by kernel_rfl) (Za E6) ?_
  rintro e w8 ⟨rfl,hbn⟩
  refine⟨_,rfl,?_⟩
  have hb7:=Zf hb7 hbn
  clear hbn
  refine hK.out _ _ ((Za KS) _ hb7) (fun Zjd=>?_)
  clear hK KQ Zjc
  have Zjc:=Zjd
  clear Zjd
  (try simp only[Act.put,ZA,ZB,ZC])
  refine tk 27 ⟨some 97,.pick (.tmp 93) (.tmp 96) (.const (Value.bool false)),4, "law7.go:346",#[⟨23,.data⟩,⟨26,.data⟩],none⟩ ?_ rfl ?_ Zjc ?_
  rotate_left
  ·(intro U hSw;clear hSw;go_simp;first|done|with_reducible rfl)
  (try simp only[Act.put,ZA,ZB,ZC])
  refine tk 28 ⟨some 98,.move (.tmp 97),4, "law7.go:346",#[⟨27,.data⟩,⟨26,.chain⟩],none⟩ ?_ rfl ?_ Zjc ?_
  rotate_left
  ·(intro U hSw;clear hSw;go_simp;first|done|with_reducible rfl)
  (try simp only[Act.put,ZA,ZB,ZC])
  refine tk 29 ⟨some 99,.move (.tmp 14),3, "law7.go:346",#[⟨28,.guard⟩],some (28,true)⟩ ?_ rfl ?_ Zjc ?_
  rotate_left
  ·(intro U hSw;clear hSw;go_simp;first|done|with_reducible rfl)
  (try simp only[Act.put,ZA,ZB,ZC])
  refine tk 30 ⟨some 100,.move (.tmp 12),3, "law7.go:346",#[⟨28,.guard⟩],some (28,true)⟩ ?_ rfl ?_ Zjc ?_
  rotate_left
  ·(intro U hSw;clear hSw;go_simp;first|done|with_reducible rfl)
  (try simp only[Act.put,ZA,ZB,ZC])
  refine tk 31 ⟨some 101,.binOp BinOp.geq 3 (.tmp 99) (.tmp 100) 3,4, "law7.go:346",#[⟨29,.data⟩,⟨30,.data⟩,⟨28,.guard⟩],some (28,true)⟩ (.bool true) rfl ?_ Zjc ?_
  ·(intro U hSw;clear hSw;go_simp;first|done|with_reducible rfl)
  (try simp only[Act.put,ZA,ZB,ZC])
  refine tk 32 ⟨some 102,.pick (.tmp 98) (.tmp 101) (.const (Value.bool false)),4, "law7.go:346",#[⟨28,.data⟩,⟨31,.data⟩],none⟩ ?_ rfl ?_ Zjc ?_
  rotate_left
  ·(intro U hSw;clear hSw;go_simp;first|done|with_reducible rfl)
  (try simp only[Act.put,ZA,ZB,ZC])
  refine tk 33 ⟨some 103,.move (.tmp 102),4, "law7.go:346",#[⟨32,.data⟩,⟨28,.chain⟩],none⟩ ?_ rfl ?_ Zjc ?_
  rotate_left
  ·(intro U hSw;clear hSw;go_simp;first|done|with_reducible rfl)
  (try simp only[Act.put,ZA,ZB,ZC])
  refine tk 34 ⟨some 104,.fieldAddr 67 (.tmp 8) 0,0, "law7.go:346",#[⟨33,.guard⟩],some (33,true)⟩ ?_ rfl ?_ Zjc ?_
  rotate_left
  ·(intro U hSw;obtain⟨s0,s1,s2,s3,s4,s5,s6,s7,s8,s9,s10,s11,s12,s13,s14,s15,s16,s17,s18,s19,s20,s21,s22,s23⟩:=hSw;go_simp;first|done|with_reducible rfl)
  (try simp only[Act.put,ZA,ZB,ZC])
  refine tk 35 ⟨some 105,.fieldAddr 28 (.tmp 104) 0,0, "law7.go:346",#[⟨34,.data⟩,⟨33,.guard⟩],some (33,true)⟩ ?_ rfl ?_ Zjc ?_
  rotate_left
  ·(intro U hSw;obtain⟨s0,s1,s2,s3,s4,s5,s6,s7,s8,s9,s10,s11,s12,s13,s14,s15,s16,s17,s18,s19,s20,s21,s22,s23⟩:=hSw;go_simp;first|done|with_reducible rfl)
  (try simp only[Act.put,ZA,ZB,ZC])
  refine tk 36 ⟨some 106,.load 25 (.tmp 105),25, "law7.go:346",#[⟨35,.data⟩,⟨33,.guard⟩],some (33,true)⟩ ?_ rfl ?_ Zjc ?_
  rotate_left
  ·(intro U hSw;obtain⟨s0,s1,s2,s3,s4,s5,s6,s7,s8,s9,s10,s11,s12,s13,s14,s15,s16,s17,s18,s19,s20,s21,s22,s23⟩:=hSw;go_simp;first|done|with_reducible rfl)
  (try simp only[Act.put,ZA,ZB,ZC])
  refine tk 37 ⟨some 107,.call { callee:=Callee.builtin Builtin.len,args:=#[.tmp 106],argTypes:=#[25] },3, "law7.go:346",#[⟨36,.data⟩,⟨33,.guard⟩],some (33,true)⟩ ?_ rfl ?_ Zjc ?_
  rotate_left
  ·(intro U hSw;clear hSw;go_simp;first|done|with_reducible rfl)
  (try simp only[Act.put,ZA,ZB,ZC])
  refine tk 38 ⟨some 108,.fieldAddr 67 (.tmp 4) 0,0, "law7.go:346",#[⟨33,.guard⟩],some (33,true)⟩ ?_ rfl ?_ Zjc ?_
  rotate_left
  ·(intro U hSw;obtain⟨s0,s1,s2,s3,s4,s5,s6,s7,s8,s9,s10,s11,s12,s13,s14,s15,s16,s17,s18,s19,s20,s21,s22,s23⟩:=hSw;go_simp;first|done|with_reducible rfl)
  (try simp only[Act.put,ZA,ZB,ZC])
  refine tk 39 ⟨some 109,.fieldAddr 28 (.tmp 108) 0,0, "law7.go:346",#[⟨38,.data⟩,⟨33,.guard⟩],some (33,true)⟩ ?_ rfl ?_ Zjc ?_
  rotate_left
  ·(intro U hSw;obtain⟨s0,s1,s2,s3,s4,s5,s6,s7,s8,s9,s10,s11,s12,s13,s14,s15,s16,s17,s18,s19,s20,s21,s22,s23⟩:=hSw;go_simp;first|done|with_reducible rfl)
  (try simp only[Act.put,ZA,ZB,ZC])
  refine tk 40 ⟨some 110,.load 25 (.tmp 109),25, "law7.go:346",#[⟨39,.data⟩,⟨33,.guard⟩],some (33,true)⟩ ?_ rfl ?_ Zjc ?_
  rotate_left
  ·(intro U hSw;obtain⟨s0,s1,s2,s3,s4,s5,s6,s7,s8,s9,s10,s11,s12,s13,s14,s15,s16,s17,s18,s19,s20,s21,s22,s23⟩:=hSw;go_simp;first|done|with_reducible rfl)
  (try simp only[Act.put,ZA,ZB,ZC])
  refine tk 41 ⟨some 111,.call { callee:=Callee.builtin Builtin.len,args:=#[.tmp 110],argTypes:=#[25] },3, "law7.go:346",#[⟨40,.data⟩,⟨33,.guard⟩],some (33,true)⟩ ?_ rfl ?_ Zjc ?_
  rotate_left
  ·(intro U hSw;clear hSw;go_simp;first|done|with_reducible rfl)
  (try simp only[Act.put,ZA,ZB,ZC])
  refine tk 42 ⟨some 112,.binOp BinOp.add 3 (.tmp 111) (.const (Value.int IntKind.i64 1)) 3,3, "law7.go:346",#[⟨41,.data⟩,⟨33,.guard⟩],some (33,true)⟩ (.int .i64 ((nn:Int)+1)) rfl ?_ Zjc ?_
  ·(intro U hSw;clear hSw;go_simp;first|done|with_reducible rfl)
  (try simp only[Act.put,ZA,ZB,ZC])
  refine tk 43 ⟨some 113,.binOp BinOp.eql 3 (.tmp 107) (.tmp 112) 3,4, "law7.go:346",#[⟨37,.data⟩,⟨42,.data⟩,⟨33,.guard⟩],some (33,true)⟩ (.bool true) rfl ?_ Zjc ?_
  ·(intro U hSw;clear hSw;go_simp;first|done|with_reducible rfl)
  (try simp only[Act.put,ZA,ZB,ZC])
  refine tk 44 ⟨some 114,.pick (.tmp 103) (.tmp 113) (.const (Value.bool false)),4, "law7.go:346",#[⟨33,.data⟩,⟨43,.data⟩],none⟩ ?_ rfl ?_ Zjc ?_
  rotate_left
  ·(intro U hSw;clear hSw;go_simp;first|done|with_reducible rfl)
  (try simp only[Act.put,ZA,ZB,ZC])
  refine tk 45 ⟨some 115,.move (.tmp 114),4, "law7.go:346",#[⟨44,.data⟩,⟨33,.chain⟩],none⟩ ?_ rfl ?_ Zjc ?_
  rotate_left
  ·(intro U hSw;clear hSw;go_simp;first|done|with_reducible rfl)
  (try simp only[Act.put,ZA,ZB,ZC])
  refine tk 46 ⟨some 116,.fieldAddr 67 (.tmp 8) 0,0, "law7.go:346",#[⟨45,.guard⟩],some (45,true)⟩ ?_ rfl ?_ Zjc ?_
  rotate_left
  ·(intro U hSw;obtain⟨s0,s1,s2,s3,s4,s5,s6,s7,s8,s9,s10,s11,s12,s13,s14,s15,s16,s17,s18,s19,s20,s21,s22,s23⟩:=hSw;go_simp;first|done|with_reducible rfl)
  (try simp only[Act.put,ZA,ZB,ZC])
  refine tk 47 ⟨some 117,.fieldAddr 28 (.tmp 116) 0,0, "law7.go:346",#[⟨46,.data⟩,⟨45,.guard⟩],some (45,true)⟩ ?_ rfl ?_ Zjc ?_
  rotate_left
  ·(intro U hSw;obtain⟨s0,s1,s2,s3,s4,s5,s6,s7,s8,s9,s10,s11,s12,s13,s14,s15,s16,s17,s18,s19,s20,s21,s22,s23⟩:=hSw;go_simp;first|done|with_reducible rfl)
  (try simp only[Act.put,ZA,ZB,ZC])
  refine tk 48 ⟨some 118,.load 25 (.tmp 117),25, "law7.go:346",#[⟨47,.data⟩,⟨45,.guard⟩],some (45,true)⟩ ?_ rfl ?_ Zjc ?_
  rotate_left
  ·(intro U hSw;obtain⟨s0,s1,s2,s3,s4,s5,s6,s7,s8,s9,s10,s11,s12,s13,s14,s15,s16,s17,s18,s19,s20,s21,s22,s23⟩:=hSw;go_simp;first|done|with_reducible rfl)
  (try simp only[Act.put,ZA,ZB,ZC])
  refine tk 49 ⟨some 119,.fieldAddr 67 (.tmp 4) 0,0, "law7.go:346",#[⟨45,.guard⟩],some (45,true)⟩ ?_ rfl ?_ Zjc ?_
  rotate_left
  ·(intro U hSw;obtain⟨s0,s1,s2,s3,s4,s5,s6,s7,s8,s9,s10,s11,s12,s13,s14,s15,s16,s17,s18,s19,s20,s21,s22,s23⟩:=hSw;go_simp;first|done|with_reducible rfl)
  (try simp only[Act.put,ZA,ZB,ZC])
  refine tk 50 ⟨some 120,.fieldAddr 28 (.tmp 119) 0,0, "law7.go:346",#[⟨49,.data⟩,⟨45,.guard⟩],some (45,true)⟩ ?_ rfl ?_ Zjc ?_
  rotate_left
  ·(intro U hSw;obtain⟨s0,s1,s2,s3,s4,s5,s6,s7,s8,s9,s10,s11,s12,s13,s14,s15,s16,s17,s18,s19,s20,s21,s22,s23⟩:=hSw;go_simp;first|done|with_reducible rfl)
  (try simp only[Act.put,ZA,ZB,ZC])
  refine tk 51 ⟨some 121,.load 25 (.tmp 120),25, "law7.go:346",#[⟨50,.data⟩,⟨45,.guard⟩],some (45,true)⟩ ?_ rfl ?_ Zjc ?_
  rotate_left
  ·(intro U hSw;obtain⟨s0,s1,s2,s3,s4,s5,s6,s7,s8,s9,s10,s11,s12,s13,s14,s15,s16,s17,s18,s19,s20,s21,s22,s23⟩:=hSw;go_simp;first|done|with_reducible rfl)
  (try simp only[Act.put,ZA,ZB,ZC])
  refine tk 52 ⟨some 122,.call { callee:=Callee.builtin Builtin.len,args:=#[.tmp 121],argTypes:=#[25] },3, "law7.go:346",#[⟨51,.data⟩,⟨45,.guard⟩],some (45,true)⟩ ?_ rfl ?_ Zjc ?_
  rotate_left
  ·(intro U hSw;clear hSw;go_simp;first|done|with_reducible rfl)
  (try simp only[Act.put,ZA,ZB,ZC])
  refine tk 53 ⟨some 123,.slice 25 (.tmp 118) none (some (.tmp 122)) none,25, "law7.go:346",#[⟨48,.data⟩,⟨52,.data⟩,⟨45,.guard⟩],some (45,true)⟩ (.slice n5 nn n5c) rfl ?_ Zjc ?_
  ·(intro U hSw;clear hSw;go_simp;first|done|with_reducible rfl)
  (try simp only[Act.put,ZA,ZB,ZC])
  refine tk 54 ⟨some 124,.fieldAddr 67 (.tmp 4) 0,0, "law7.go:346",#[⟨45,.guard⟩],some (45,true)⟩ ?_ rfl ?_ Zjc ?_
  rotate_left
  ·(intro U hSw;obtain⟨s0,s1,s2,s3,s4,s5,s6,s7,s8,s9,s10,s11,s12,s13,s14,s15,s16,s17,s18,s19,s20,s21,s22,s23⟩:=hSw;go_simp;first|done|with_reducible rfl)
  (try simp only[Act.put,ZA,ZB,ZC])
  refine tk 55 ⟨some 125,.fieldAddr 28 (.tmp 124) 0,0, "law7.go:346",#[⟨54,.data⟩,⟨45,.guard⟩],some (45,true)⟩ ?_ rfl ?_ Zjc ?_
  rotate_left
  ·(intro U hSw;obtain⟨s0,s1,s2,s3,s4,s5,s6,s7,s8,s9,s10,s11,s12,s13,s14,s15,s16,s17,s18,s19,s20,s21,s22,s23⟩:=hSw;go_simp;first|done|with_reducible rfl)
  (try simp only[Act.put,ZA,ZB,ZC])
  refine tk 56 ⟨some 126,.load 25 (.tmp 125),25, "law7.go:346",#[⟨55,.data⟩,⟨45,.guard⟩],some (45,true)⟩ ?_ rfl ?_ Zjc ?_
  rotate_left
  ·(intro U hSw;obtain⟨s0,s1,s2,s3,s4,s5,s6,s7,s8,s9,s10,s11,s12,s13,s14,s15,s16,s17,s18,s19,s20,s21,s22,s23⟩:=hSw;go_simp;first|done|with_reducible rfl)
  (try simp only[Act.put,ZA,ZB,ZC])
  refine wpAnyH_ready (rs:=[57]) (by kernel_rfl) (by simp) ?_
  refine AllReadyH.cons (o:=⟨some 127,.call { callee:=Callee.value (.func 38),args:=#[.tmp 123,.tmp 126],argTypes:=#[25,25] },4, "law7.go:346",#[⟨53,.data⟩,⟨56,.data⟩,⟨45,.chain⟩,⟨45,.guard⟩],some (45,true)⟩) rfl (fun KQ hK=>?_) AllReadyH.nil
  refine Zl (by kernel_rfl) 38 #[.slice n5 nn n5c,.slice na nn nc] (by kernel_rfl) ((Za CE) w8 (Zf (Za BY_w7) hb7) n5c) ?_
  rintro e w9 ⟨rfl,hbn⟩
  refine⟨_,rfl,?_⟩
  have hb7:=Zf hb7 hbn
  clear hbn
  refine hK.out _ _ ((Za KS) _ hb7) (fun Zjd=>?_)
  clear hK KQ Zjc
  have Zjc:=Zjd
  clear Zjd
  (try simp only[Act.put,ZA,ZB,ZC])
  refine tk 58 ⟨some 128,.pick (.tmp 115) (.tmp 127) (.const (Value.bool false)),4, "law7.go:346",#[⟨45,.data⟩,⟨57,.data⟩],none⟩ ?_ rfl ?_ Zjc ?_
  rotate_left
  ·(intro U hSw;clear hSw;go_simp;first|done|with_reducible rfl)
  (try simp only[Act.put,ZA,ZB,ZC])
  refine tk 59 ⟨some 129,.move (.tmp 128),4, "law7.go:346",#[⟨58,.data⟩,⟨57,.chain⟩],none⟩ ?_ rfl ?_ Zjc ?_
  rotate_left
  ·(intro U hSw;clear hSw;go_simp;first|done|with_reducible rfl)
  (try simp only[Act.put,ZA,ZB,ZC])
  refine tk 60 ⟨some 130,.load 24 (.tmp 7),24, "law7.go:346",#[⟨59,.guard⟩],some (59,true)⟩ ?_ rfl ?_ Zjc ?_
  rotate_left
  ·(intro U hSw;obtain⟨s0,s1,s2,s3,s4,s5,s6,s7,s8,s9,s10,s11,s12,s13,s14,s15,s16,s17,s18,s19,s20,s21,s22,s23⟩:=hSw;go_simp;first|done|with_reducible rfl)
  (try simp only[Act.put,ZA,ZB,ZC])
  refine tk 61 ⟨some 131,.load 67 (.tmp 8),67, "law7.go:346",#[⟨59,.guard⟩],some (59,true)⟩ ?_ rfl ?_ Zjc ?_
  rotate_left
  ·(intro U hSw;obtain⟨s0,s1,s2,s3,s4,s5,s6,s7,s8,s9,s10,s11,s12,s13,s14,s15,s16,s17,s18,s19,s20,s21,s22,s23⟩:=hSw;go_simp;first|done|with_reducible rfl)
  (try simp only[Act.put,ZA,ZB,ZC])
  refine wpAnyH_ready (rs:=[62]) (by kernel_rfl) (by simp) ?_
  refine AllReadyH.cons (o:=⟨some 132,.call { callee:=Callee.value (.func 39),args:=#[.tmp 130,.tmp 131],argTypes:=#[24,67] },30, "law7.go:346",#[⟨60,.data⟩,⟨61,.data⟩,⟨59,.chain⟩,⟨59,.guard⟩],some (59,true)⟩) rfl (fun KQ hK=>?_) AllReadyH.nil
  refine Zl (by kernel_rfl) 39 #[.agg #[.slice k5 k5n k5c],.agg #[.slice n5 n5n n5c,.slice b5 b5n b5c,.slice p5 p5n p5c,.int .i64 D.tip]] (by kernel_rfl) ((Za CC) w9 (Zf (Za BY_w7) hb7)) ?_
  rintro e w10 ⟨rfl,hbn⟩
  refine⟨_,rfl,?_⟩
  have hb7:=Zf hb7 hbn
  clear hbn
  refine hK.out _ _ ((Za KS) _ hb7) (fun Zjd=>?_)
  clear hK KQ Zjc
  have Zjc:=Zjd
  clear Zjd
  (try simp only[Act.put,ZA,ZB,ZC])
  refine tk 63 ⟨some 133,.binOp BinOp.eql 30 (.tmp 132) (.const (Value.int IntKind.i64 0)) 30,4, "law7.go:346",#[⟨62,.data⟩,⟨59,.guard⟩],some (59,true)⟩ ?_ rfl ?_ Zjc ?_
  rotate_left
  ·(intro U hSw;clear hSw;go_simp;first|done|with_reducible rfl)
  (try simp only[Act.put,ZA,ZB,ZC])
  refine tk 64 ⟨some 134,.pick (.tmp 129) (.tmp 133) (.const (Value.bool false)),4, "law7.go:346",#[⟨59,.data⟩,⟨63,.data⟩],none⟩ ?_ rfl ?_ Zjc ?_
  rotate_left
  ·(intro U hSw;clear hSw;go_simp;first|done|with_reducible rfl)
  (try simp only[Act.put,ZA,ZB,ZC])
  refine tk 65 ⟨some 6,.assign (.tmp 134),4, "law7.go:346",#[⟨64,.data⟩,⟨62,.chain⟩,⟨0,.phase⟩,⟨1,.phase⟩,⟨2,.phase⟩,⟨3,.phase⟩,⟨4,.phase⟩,⟨5,.phase⟩,⟨6,.phase⟩,⟨7,.phase⟩,⟨8,.phase⟩,⟨9,.phase⟩,⟨10,.phase⟩,⟨11,.phase⟩,⟨12,.phase⟩,⟨13,.phase⟩,⟨14,.phase⟩,⟨15,.phase⟩,⟨16,.phase⟩,⟨17,.phase⟩,⟨18,.phase⟩,⟨19,.phase⟩,⟨20,.phase⟩,⟨21,.phase⟩,⟨22,.phase⟩,⟨23,.phase⟩,⟨24,.phase⟩,⟨25,.phase⟩,⟨26,.phase⟩,⟨27,.phase⟩,⟨28,.phase⟩,⟨29,.phase⟩,⟨30,.phase⟩,⟨31,.phase⟩,⟨32,.phase⟩,⟨33,.phase⟩,⟨34,.phase⟩,⟨35,.phase⟩,⟨36,.phase⟩,⟨37,.phase⟩,⟨38,.phase⟩,⟨39,.phase⟩,⟨40,.phase⟩,⟨41,.phase⟩,⟨42,.phase⟩,⟨43,.phase⟩,⟨44,.phase⟩,⟨45,.phase⟩,⟨46,.phase⟩,⟨47,.phase⟩,⟨48,.phase⟩,⟨49,.phase⟩,⟨50,.phase⟩,⟨51,.phase⟩,⟨52,.phase⟩,⟨53,.phase⟩,⟨54,.phase⟩,⟨55,.phase⟩,⟨56,.phase⟩,⟨57,.phase⟩,⟨58,.phase⟩,⟨59,.phase⟩,⟨60,.phase⟩,⟨61,.phase⟩,⟨62,.phase⟩,⟨63,.phase⟩,⟨64,.phase⟩],none⟩ ?_ rfl ?_ Zjc ?_
  rotate_left
  ·(intro U hSw;clear hSw;go_simp;first|done|with_reducible rfl)
  (try simp only[Act.put,ZA,ZB,ZC])
  refine wpAnyH_done (by kernel_rfl) ?_ _
  have HBF:=Zb (Zf (Za Bw_w7) hb7)
  clear Zjc hb7
  go_wp2
  go_ret
  exact⟨rfl,Za HBF⟩
 ·have gx:(x != 0)=true:=by simp[h0]
  go_upto_region 2 with fail
  rw[←hY']
  clear hY'
  go_wp2_with fail
  refine (Za D1).mono ?_
  rintro e w5 ⟨rfl,hb5⟩
  have Fk_w5:=mvd hb5 Fk_Y
  have Fn_w5:=mvd hb5 Fn_Y
  have Fb_w5:=mvd hb5 Fb_Y
  have Fk5_w5:=mvd hb5 Fk5_Y
  have Fn5_w5:=mvd hb5 Fn5_Y
  have Bw_w5:=onb Bw_Y hb5
  have BY_w5:=onb BY_Y hb5
  clear Fk_Y Fn_Y Fb_Y Fk5_Y Fn5_Y Bw_Y BY_Y
  have D2:=Zb (W9 w5 ((Za HD) w5 (Za Bw_w5)).1)
  clear hb5 D1
  go_wp2_with fail
  refine (Za D2).mono ?_
  rintro e w6 ⟨rfl,hb6⟩
  have Fk_w6:=mvd hb6 Fk_w5
  have Fn_w6:=mvd hb6 Fn_w5
  have Fb_w6:=mvd hb6 Fb_w5
  have Fk5_w6:=mvd hb6 Fk5_w5
  have Fn5_w6:=mvd hb6 Fn5_w5
  have Bw_w6:=onb Bw_w5 hb6
  have BY_w6:=onb BY_w5 hb6
  clear Fk_w5 Fn_w5 Fb_w5 Fk5_w5 Fn5_w5 Bw_w5 BY_w5
  clear hb6 D2
  go_wp2
  go_ret
  exact⟨rfl,Za Bw_w6⟩
end Go.Proofs.YtmomfkikogbdeaaGreatDoor
