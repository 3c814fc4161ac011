import Derived.Test.YtpikejjiignchaaGreatDoorG47
import Derived.Test.YtpikejjiignchaaGreatDoorG44
import Derived.Deep.SlicePairs
set_option maxHeartbeats 12800000
set_option maxRecDepth 10000
namespace Go.Proofs.YtpikejjiignchaaGreatDoor
open Go.RowKit
def plC:List Zg:=[(1,0,9,[],1,false)]
def plT:TxD:=(0,[(1,0,[(1,1)])],[(6,[])])
def plK:List ByteArray:=(acE [] plC [] plT 4).2.1
def plB:Ye:=(5,4,1,0,[(4,[],[(67,[])]),plT])
theorem pl1:acE [] plC [] plT 4=(0,plK,[plT]):=by kernel_rfl
theorem pl2:acE plK plC [plT] plT 4=(6,[],[]):=by kernel_rfl
theorem pl3:mkE plK plC [plT] 5 4 1 0 []=(0,plB):=by kernel_rfl
theorem Gy(w:World)(hE:Env w):Calls Tryz.prog 22 #[] w fun e w'=>e = .returned (.bool true)∧Below w.heap.size w w':=by
 obtain⟨X,hX⟩:∃ X,X=Vv w [.cells #[.int .i64 1,.int .i64 0,.int .i64 9,.slice none 0 0,.int .i64 1,.bool false] 103,.cells #[.int .i64 1,.int .i64 1] 122,.cells #[.int .i64 1,.int .i64 0,.slice (some ⟨w.heap.size+1,0,none⟩) 1 1] 124,.cells #[.int .i64 6,.slice none 0 0] 101,.cells #[.int .i64 0,.slice (some ⟨w.heap.size+1+1,0,none⟩) 1 1,.slice (some ⟨w.heap.size+1+1+1,0,none⟩) 1 1] 52]:=⟨_,rfl⟩
 have hbX:Below w.heap.size w X:=by rw[hX];exact Xl _ _
 have x0:X.heap[w.heap.size]? = some (.cells [.int .i64 1,.int .i64 0,.int .i64 9,.slice none 0 0,.int .i64 1,.bool false].toArray 103 (0,0)):=by rw[hX];exact Zz _ w 0 _ rfl
 have x1:X.heap[w.heap.size+1]? = some (.cells [.int .i64 1,.int .i64 1].toArray 122 (0,0)):=by rw[hX];exact Zz _ w 1 _ rfl
 have x2:X.heap[w.heap.size+1+1]? = some (.cells [.int .i64 1,.int .i64 0,.slice (some ⟨w.heap.size+1,0,none⟩) 1 1].toArray 124 (0,0)):=by rw[hX];exact Zz _ w 2 _ rfl
 have x3:X.heap[w.heap.size+1+1+1]? = some (.cells [.int .i64 6,.slice none 0 0].toArray 101 (0,0)):=by rw[hX];exact Zz _ w 3 _ rfl
 have x4:X.heap[w.heap.size+1+1+1+1]? = some (.cells [.int .i64 0,.slice (some ⟨w.heap.size+1+1,0,none⟩) 1 1,.slice (some ⟨w.heap.size+1+1+1,0,none⟩) 1 1].toArray 52 (0,0)):=by rw[hX];exact Zz _ w 4 _ rfl
 have hX':X=((((w.alloc (.cells #[.int .i64 1,.int .i64 0,.int .i64 9,.slice none 0 0,.int .i64 1,.bool false] 103)).alloc (.cells #[.int .i64 1,.int .i64 1] 122)).alloc (.cells #[.int .i64 1,.int .i64 0,.slice (some ⟨w.heap.size+1,0,none⟩) 1 1] 124)).alloc (.cells #[.int .i64 6,.slice none 0 0] 101)).alloc (.cells #[.int .i64 0,.slice (some ⟨w.heap.size+1+1,0,none⟩) 1 1,.slice (some ⟨w.heap.size+1+1+1,0,none⟩) 1 1] 52):=hX
 have s1:∀ b:Nat,SlOk (some ⟨b,0,none⟩) 1 1:=fun b=>⟨Nat.le_refl _,by decide,fun e=>by cases e⟩
 have hC:CoinsAt X (some ⟨w.heap.size,0,none⟩) 1 plC:=⟨rfl,fun _=>⟨w.heap.size,0,rfl,lt_of_block x0,fun i hi=>by
  have ei:i=0:=by simp[plC] at hi;omega
  subst ei
  exact⟨Zd x0 0 _ rfl,Zd x0 1 _ rfl,Zd x0 2 _ rfl,⟨none,0,0,Zd x0 3 _ rfl,⟨rfl,fun h=>absurd h (by omega)⟩,Xm⟩,Zd x0 4 _ rfl,Zd x0 5 _ rfl⟩⟩⟩
 have hO1:OpsAt X (some ⟨w.heap.size+1,0,none⟩) 1 [(1,1)]:=⟨rfl,fun _=>⟨w.heap.size+1,0,rfl,fun i hi=>by
  have ei:i=0:=by simp at hi;omega
  subst ei
  exact⟨Zd x1 0 _ rfl,Zd x1 1 _ rfl⟩⟩⟩
 have hI:InsAt X (some ⟨w.heap.size+1+1,0,none⟩) 1 [(1,0,[(1,1)])]:=⟨rfl,fun _=>⟨w.heap.size+1+1,0,rfl,lt_of_block x2,fun i hi=>by
  have ei:i=0:=by simp at hi;omega
  subst ei
  exact⟨Zd x2 0 _ rfl,Zd x2 1 _ rfl,_,_,_,Zd x2 2 _ rfl,hO1,s1 _⟩⟩⟩
 have hO:OutsAt X (some ⟨w.heap.size+1+1+1,0,none⟩) 1 [(6,[])]:=⟨rfl,fun _=>⟨w.heap.size+1+1+1,0,rfl,lt_of_block x3,fun i hi=>by
  have ei:i=0:=by simp at hi;omega
  subst ei
  exact⟨Zd x3 0 _ rfl,_,_,_,Zd x3 1 _ rfl,⟨rfl,fun h=>absurd h (by omega)⟩,Xm⟩⟩⟩
 have A1:=Zb (Rg none 0 0 [] (some ⟨w.heap.size,0,none⟩) 1 1 plC none 0 0 [] 0 (some ⟨w.heap.size+1+1,0,none⟩) (some ⟨w.heap.size+1+1+1,0,none⟩) 1 1 1 1 [(1,0,[(1,1)])] [(6,[])] 4 0 plK [plT] X (hE.later hbX) ⟨rfl,fun h=>absurd h (by omega)⟩ hC (s1 _) (RowsAt.nil _ _) hI hO (s1 _) (s1 _) pl1)
 have A2:=Zb (fun W (hw:Below X.heap.size X W) ka kn kc sa sc (hk:Bk.TextsAt W ka kn plK) (hs:TxsAt W sa 1 [plT])=>Rg ka kn kc plK (some ⟨w.heap.size,0,none⟩) 1 1 plC sa 1 sc [plT] 0 (some ⟨w.heap.size+1+1,0,none⟩) (some ⟨w.heap.size+1+1+1,0,none⟩) 1 1 1 1 [(1,0,[(1,1)])] [(6,[])] 4 6 [] [] W (hE.later (Ze hbX hw)) hk (hC.later hw) (s1 _) hs (hI.later hw) (hO.later hw) (s1 _) (s1 _) pl2)
 have A3:=Zb (fun W (hw:Below X.heap.size X W) ka kn kc sa sc (hk:Bk.TextsAt W ka kn plK) (hs:TxsAt W sa 1 [plT])=>Zcs ka kn kc plK (some ⟨w.heap.size,0,none⟩) 1 1 plC sa 1 sc [plT] 5 3 1 0 none 0 0 [] 4 0 plB W (hE.later (Ze hbX hw)) hk (hC.later hw) (s1 _) hs ⟨rfl,fun h=>absurd h (by omega)⟩ Xm (by omega) (by decide) pl3)
 have HBX:=Zb hbX
 have HX4:=Zb x4
 have t0:=Zd x4 0 _ rfl
 have t1:=Zd x4 1 _ rfl
 have t2:=Zd x4 2 _ rfl
 have tl:=lt_of_block x4
 clear hE hbX x0 x1 x2 x3 x4 hX s1 hC hO1 hI hO
 go_enter Tryz.func22,Tryz.ntmps22
 go_wp2_with fail
 rw[←hX']
 clear hX'
 (try go_wp2_with fail)
 refine (Za A1).mono ?_
 rintro e w1 ⟨ka,kn,kc,sa,sn,sc,rfl,hF1,_,_,hb1⟩
 obtain⟨hK1,hS1⟩:=hF1 w1 (Gr.refl _ _)
 obtain rfl:sn=1:=hS1.1.symm
 obtain⟨Y,hY⟩:∃ Y,Y=w1.alloc (.cells #[.slice ka kn kc] 24):=⟨_,rfl⟩
 have hbY:Below w1.heap.size w1 Y:=by rw[hY];exact Zf _ _
 have y0:Y.heap[w1.heap.size]? = some (.cells [.slice ka kn kc].toArray 24 (0,0)):=by rw[hY];exact Q5 _ _ _
 have hbXY:=Ze hb1 hbY
 have h4:=(hbXY.block _ (lt_of_block (Za HX4))).trans (Za HX4)
 have C2:=Zb ((Za A2) Y hbXY ka kn kc sa sc (hK1.later hbY) (hS1.later hbY))
 have h41:=(hb1.block _ (lt_of_block (Za HX4))).trans (Za HX4)
 have t0:=Zd h41 0 _ rfl
 have t1:=Zd h41 1 _ rfl
 have t2:=Zd h41 2 _ rfl
 have tl:=lt_of_block h41
 have k0:=Zd y0 0 _ rfl
 have kl:=lt_of_block y0
 have HK:=Zb (hK1.later hbY)
 have HS:=Zb (hS1.later hbY)
 have HBY:=Zb hbXY
 have HY0:=Zb y0
 clear hF1 hb1 hK1 hS1 hbY y0 hbXY h4 h41 A1 A2
 go_wp2_with fail
 rw[←hY]
 clear hY
 (try go_wp2_with fail)
 refine (Za C2).mono ?_
 rintro e w2 ⟨ka2,kn2,kc2,sa2,sn2,sc2,rfl,_,_,_,hb2⟩
 have hbY2:=Ze (Za HBY) hb2
 obtain⟨Z,hZ⟩:∃ Z,Z=w2.alloc (.cells #[.slice ka2 kn2 kc2] 24):=⟨_,rfl⟩
 have hbZ:Below w2.heap.size w2 Z:=by rw[hZ];exact Zf _ _
 have hYZ:=Ze hb2 hbZ
 have C3:=Zb ((Za A3) Z (Ze hbY2 hbZ) ka kn kc sa sc ((Za HK).later hYZ) ((Za HS).later hYZ))
 have k1:=(hb2.block _ (lt_of_block (Za HY0))).trans (Za HY0)
 have k10:=Zd k1 0 _ rfl
 have k1l:=lt_of_block k1
 have HBZ:=Zb (Ze hbY2 hbZ)
 clear hb2 hbY2 hbZ hYZ k1 C2 A3 k0 kl t0 t1 t2 tl
 go_wp2_with fail
 rw[←hZ]
 clear hZ
 (try go_wp2_with fail)
 refine (Za C3).mono ?_
 rintro e w3 ⟨ga,gn,gc,rfl,hF3,_,hb3⟩
 have hT:=hF3 w3 (Gr.refl _ _)
 obtain rfl:gn=2:=hT.1.symm
 obtain⟨b,off,rfl,hbl,hrow⟩:=hT.2 (by omega)
 obtain⟨_,_,oa,on,oc,c2,hO3,_⟩:=hrow 0 (by decide)
 obtain rfl:on=1:=hO3.1.symm
 obtain⟨ob,ooff,rfl,obl,orow⟩:=hO3.2 (by omega)
 have c3:=(orow 0 (by decide)).1
 have hbW:=Zf w3 (.cells #[.int .i64 plB.1,.int .i64 plB.2.1,.int .i64 plB.2.2.1,.int .i64 plB.2.2.2.1,.slice (some ⟨b,off,none⟩) 2 gc] 68)
 have HB3:=Zb (Ze (Za HBX) (Ze (Za HBZ) (Ze hb3 hbW)))
 simp only[Zaw,plB,plT] at *
 simp only[Nat.zero_mul,Nat.add_zero,List.getElem_cons_zero] at c2 c3
 clear hF3 hb3 hT hrow hO3 orow hbW C3 k10 k1l
 go_wp2
 go_ret
 exact⟨rfl,Za HB3⟩
theorem mvd{V W:World}{b:Nat}{o:Obj}(hb:Below V.heap.size V W)(h:Hid (V.heap[b]? = some o)):Hid (W.heap[b]? = some o):=(hb.block _ (lt_of_block (Za h))).trans (Za h)
theorem onb{U V W:World}(h:Hid (Below U.heap.size U V))(hb:Below V.heap.size V W):Hid (Below U.heap.size U W):=Ze (Za h) hb
section
variable {V : World} {b : Nat} {t : TypeId} {v0 v1 v2 v3 v4 : Value}
theorem cl1(h:Hid (V.heap[b]? = some (.cells [v0].toArray t (0,0)))):V.cell? ⟨b,0,none⟩=some v0∧b<V.heap.size:=⟨Zd (Za h) 0 _ rfl,lt_of_block (Za h)⟩
theorem cl2(h:Hid (V.heap[b]? = some (.cells [v0,v1].toArray t (0,0)))):V.cell? ⟨b,0,none⟩=some v0∧V.cell? ⟨b,1,none⟩=some v1∧b<V.heap.size:=⟨Zd (Za h) 0 _ rfl,Zd (Za h) 1 _ rfl,lt_of_block (Za h)⟩
theorem cl3(h:Hid (V.heap[b]? = some (.cells [v0,v1,v2].toArray t (0,0)))):V.cell? ⟨b,0,none⟩=some v0∧V.cell? ⟨b,1,none⟩=some v1∧V.cell? ⟨b,2,none⟩=some v2∧b<V.heap.size:=⟨Zd (Za h) 0 _ rfl,Zd (Za h) 1 _ rfl,Zd (Za h) 2 _ rfl,lt_of_block (Za h)⟩
end
theorem Eb{K:List ByteArray}{C:List Zg}{L:List TxD}{h x:Int}(hx:swE K C L h=x)(h0:x≠0){K1:List ByteArray}{S1:List TxD}{C1:List Zg}{F1:Int}(hr:swF K C L h x=(K1,S1,C1,F1)){t:TxD}{y:Int}{K2:List ByteArray}{P2:List TxD}(ha:acE K C L t h=(y,K2,P2)):K1=[]∧S1=[]∧C1=[]∧F1=0∧y=x∧K2=[]∧P2=[]:=by
 unfold swF at hr
 rw[if_neg h0] at hr
 unfold acE at ha
 rw[if_pos (by rw[hx];exact h0),hx] at ha
 simp only[Prod.mk.injEq] at hr ha
 exact⟨hr.1.symm,hr.2.1.symm,hr.2.2.1.symm,hr.2.2.2.symm,ha.1.symm,ha.2.1.symm,ha.2.2.symm⟩
theorem F7{K:List ByteArray}{C:List Zg}{L:List TxD}{h:Int}{K1:List ByteArray}{S1:List TxD}{C1:List Zg}{F1:Int}(hr:swF K C L h 0=(K1,S1,C1,F1)):Yh h L (K,C)=(S1,K1,C1)∧F1=Zm C - Zm C1:=by
 unfold swF at hr
 rw[if_pos rfl] at hr
 simp only[Prod.mk.injEq] at hr
 obtain⟨rfl,rfl,rfl,rfl⟩:=hr
 exact⟨rfl,rfl⟩
theorem Ki(ka:Option Addr)(kn kc:Nat)(K:List ByteArray)(la:Option Addr)(ln lc:Nat)(C:List Zg)(a:Option Addr)(m c:Nat)(L:List TxD)(th:Int)(ai ao:Option Addr)(ni ci no co:Nat)(I:List InD)(O:List Zw)(h:Int)(w:World)(hE:EnvF w)(hK:Bk.TextsAt w ka kn K)(sK:Bk.SlOk ka kn kc)(hC:CoinsAt w la ln C)(sC:SlOk la ln lc)(hL:TxsAt w a m L)(hI:InsAt w ai ni I)(hO:OutsAt w ao no O)(sI:SlOk ai ni ci)(sO:SlOk ao no co) :
  Calls Tryz.prog 5 #[.agg #[.slice ka kn kc],.slice la ln lc,.slice a m c,.agg #[.int .i64 th,.slice ai ni ci,.slice ao no co],.int .i64 h] w fun e w'=>e = .returned (.bool true)∧Below w.heap.size w w':=by
 obtain⟨X,hX⟩:∃ X,X=Vv w [.cells #[.slice ka kn kc] 24,.cells #[.int .i64 th,.slice ai ni ci,.slice ao no co] 52]:=⟨_,rfl⟩
 have hX':X=((w.alloc (.cells #[.slice ka kn kc] 24)).alloc (.cells #[.int .i64 th,.slice ai ni ci,.slice ao no co] 52)):=hX
 have hbX:Below w.heap.size w X:=by rw[hX];exact Xl _ _
 have Fk_X:Hid (X.heap[w.heap.size]? = some (.cells [.slice ka kn kc].toArray 24 (0,0))):=by show X.heap[w.heap.size]? = _;rw[hX];exact Zz _ w 0 _ rfl
 have Ft_X:Hid (X.heap[w.heap.size+1]? = some (.cells [.int .i64 th,.slice ai ni ci,.slice ao no co].toArray 52 (0,0))):=by show X.heap[w.heap.size+1]? = _;rw[hX];exact Zz _ w 1 _ rfl
 obtain⟨x,hx⟩:∃ x,swE K C L h=x:=⟨_,rfl⟩
 obtain⟨⟨K1,S1,C1,F1⟩,hr⟩:∃ r,swF K C L h x=r:=⟨_,rfl⟩
 obtain⟨⟨y,K2,P2⟩,ha⟩:∃ r,acE K C L (th,I,O) h=r:=⟨_,rfl⟩
 have HD:Hid (∀ V,Below w.heap.size w V→EnvF V∧Bk.TextsAt V ka kn K∧CoinsAt V la ln C∧TxsAt V a m L∧InsAt V ai ni I∧OutsAt V ao no O):=fun V hv=>⟨hE.later hv,hK.later hv,hC.later hv,hL.later hv,hI.later hv,hO.later hv⟩
 have HS:=Zb (⟨sK,sC,sI,sO⟩:Bk.SlOk ka kn kc∧SlOk la ln lc∧SlOk ai ni ci∧SlOk ao no co)
 have HLM:Hid (L.length=m):=hL.1
 have C1:=Zb (E8 ka kn kc K la ln lc C a m c L h x K1 S1 C1 F1 X (hE.later hbX).envp.env (hK.later hbX) (hC.later hbX) sC (hL.later hbX) hx hr)
 have HXE:=Zb hx
 have HXR:=Zb hr
 have HXA:=Zb ha
 have Bw_X:Hid (Below w.heap.size w X):=hbX
 clear hE hK sK hC sC hL hI hO sI sO hx hr ha hbX hX
 obtain⟨mk0,mlk⟩:=cl1 Fk_X
 obtain⟨mt0,mt1,mt2,mlt⟩:=cl3 Ft_X
 go_enter Tryz.func5,Tryz.ntmps5
 go_wp2_with fail
 rw[←hX']
 clear hX'
 (try go_wp2_with fail)
 refine (Za C1).mono ?_
 rintro e w1 ⟨k5,k5n,k5c,s5,s5n,s5c,c5,c5n,c5c,rfl,hF,t1,t2,t3,hb1⟩
 clear mk0 mlk mt0 mt1 mt2 mlt
 clear C1
 obtain⟨Y,hY⟩:∃ Y,Y=Vv w1 [.cells #[.slice k5 k5n k5c] 24]:=⟨_,rfl⟩
 have hY':Y=(w1.alloc (.cells #[.slice k5 k5n k5c] 24)):=hY
 have hbY:Below w1.heap.size w1 Y:=by rw[hY];exact Xl _ _
 have Fk5_Y:Hid (Y.heap[w1.heap.size]? = some (.cells [.slice k5 k5n k5c].toArray 24 (0,0))):=by show Y.heap[w1.heap.size]? = _;rw[hY];exact Zz _ w1 0 _ rfl
 have hbXY:=Ze hb1 hbY
 have HDY:=Zb (hF Y (Gr.of hbY))
 have HSY:=Zb (⟨t1,t2,t3⟩:SlOk k5 k5n k5c∧SlOk s5 s5n s5c∧SlOk c5 c5n c5c)
 have Fk_Y:=mvd hbXY Fk_X
 have Ft_Y:=mvd hbXY Ft_X
 have Bw_Y:=onb Bw_X hbXY
 clear Fk_X Ft_X Bw_X
 have BY_Y:Hid (Below Y.heap.size Y Y):=Below.refl _ _
 obtain⟨d1,d2,d3,d4,d5,d6⟩:=(Za HD) Y (Za Bw_Y)
 obtain⟨z1,z2,z3,z4⟩:=Za HS
 have C2:=Zb (Rg ka kn kc K la ln lc C a m c L th ai ao ni ci no co I O h y K2 P2 Y d1.envp.env d2 d3 z2 d4 d5 d6 z3 z4 (Za HXA))
 clear hY hbY hb1 hF t1 t2 t3 hbXY d1 d2 d3 d4 d5 d6 z1 z2 z3 z4
 go_upto_region 2 with fail
 rw[←hY']
 clear hY'
 obtain⟨mk0,mlk⟩:=cl1 Fk_Y
 obtain⟨mt0,mt1,mt2,mlt⟩:=cl3 Ft_Y
 obtain⟨mk50,mlk5⟩:=cl1 Fk5_Y
 go_wp2_with fail
 refine (Za C2).mono ?_
 rintro e w2 ⟨k6,k6n,k6c,s6,s6n,s6c,rfl,hF,t1,t2,hb2⟩
 clear mk0 mlk mt0 mt1 mt2 mlt mk50 mlk5
 clear C2
 obtain⟨Z,hZ⟩:∃ Z,Z=Vv w2 [.cells #[.slice k6 k6n k6c] 24]:=⟨_,rfl⟩
 have hZ':Z=(w2.alloc (.cells #[.slice k6 k6n k6c] 24)):=hZ
 have hbZ:Below w2.heap.size w2 Z:=by rw[hZ];exact Xl _ _
 have Fk6_Z:Hid (Z.heap[w2.heap.size]? = some (.cells [.slice k6 k6n k6c].toArray 24 (0,0))):=by show Z.heap[w2.heap.size]? = _;rw[hZ];exact Zz _ w2 0 _ rfl
 have hbYZ:=Ze hb2 hbZ
 have HDZ:=Zb (hF Z (Gr.of hbZ))
 have HSZ:=Zb (⟨t1,t2⟩:SlOk k6 k6n k6c∧SlOk s6 s6n s6c)
 have Fk_Z:=mvd hbYZ Fk_Y
 have Ft_Z:=mvd hbYZ Ft_Y
 have Fk5_Z:=mvd hbYZ Fk5_Y
 have Bw_Z:=onb Bw_Y hbYZ
 have BY_Z:=onb BY_Y hbYZ
 clear Fk_Y Ft_Y Fk5_Y Bw_Y BY_Y
 have BZ_Z:Hid (Below Z.heap.size Z Z):=Below.refl _ _
 obtain⟨d1,d2,d3,d4,d5,d6⟩:=(Za HD) Z (Za Bw_Z)
 have C3:=Zb (Gu ka kn kc K la ln lc C a m c L h x Z d2 d3 (Za HLM) (Za HXE))
 clear hZ hbZ hb2 hF t1 t2 hbYZ d1 d2 d3 d4 d5 d6
 go_upto_region 3 with fail
 rw[←hZ']
 clear hZ'
 obtain⟨mk0,mlk⟩:=cl1 Fk_Z
 obtain⟨mt0,mt1,mt2,mlt⟩:=cl3 Ft_Z
 obtain⟨mk50,mlk5⟩:=cl1 Fk5_Z
 obtain⟨mk60,mlk6⟩:=cl1 Fk6_Z
 go_wp2_with fail
 refine (Za C3).mono ?_
 rintro e w3 ⟨rfl,hb3⟩
 clear mk0 mlk mt0 mt1 mt2 mlt mk50 mlk5 mk60 mlk6
 have Fk_w3:=mvd hb3 Fk_Z
 have Ft_w3:=mvd hb3 Ft_Z
 have Fk5_w3:=mvd hb3 Fk5_Z
 have Fk6_w3:=mvd hb3 Fk6_Z
 have Bw_w3:=onb Bw_Z hb3
 have BY_w3:=onb BY_Z hb3
 have BZ_w3:=onb BZ_Z hb3
 clear Fk_Z Ft_Z Fk5_Z Fk6_Z Bw_Z BY_Z BZ_Z
 have D1:=Zb (Gy w3 ((Za HD) w3 (Za Bw_w3)).1.envp.env)
 clear hb3 C3
 go_wp2_with fail
 refine (Za D1).mono ?_
 rintro e w4 ⟨rfl,hb4⟩
 have Fk_w4:=mvd hb4 Fk_w3
 have Ft_w4:=mvd hb4 Ft_w3
 have Fk5_w4:=mvd hb4 Fk5_w3
 have Fk6_w4:=mvd hb4 Fk6_w3
 have Bw_w4:=onb Bw_w3 hb4
 have BY_w4:=onb BY_w3 hb4
 have BZ_w4:=onb BZ_w3 hb4
 clear Fk_w3 Ft_w3 Fk5_w3 Fk6_w3 Bw_w3 BY_w3 BZ_w3
 clear hb4 D1
 by_cases h0:x=0
 ·subst h0
  obtain⟨sg,sf⟩:=F7 (Za HXR)
  obtain⟨d1,d2,d3,d4,d5,d6⟩:=(Za HD) w4 (Za Bw_w4)
  obtain⟨z1,z2,z3,z4⟩:=Za HS
  obtain⟨oz,hl8⟩:=Qu (Za HXE)
  obtain⟨hR,hRC,_,_⟩:=Ud oz
  have hm8:m≤8:=by rw[←Za HLM];exact hl8
  have C4:=Zb (Ld ka kn kc K la ln lc C a m c L h K1 S1 C1 w4 d1 d2 z1 hR d3 z2 hRC d4 hm8 sg)
  have C5:=Zb (fun V (hv:Below w4.heap.size w4 V)=>(fun d:EnvF V∧Bk.TextsAt V ka kn K∧CoinsAt V la ln C∧TxsAt V a m L∧InsAt V ai ni I∧OutsAt V ao no O=>Mh ka kn kc K la ln lc C a m c L th ai ao ni ci no co I O h y K2 P2 V d.1 d.2.1 z1 d.2.2.1 z2 d.2.2.2.1 d.2.2.2.2.1 d.2.2.2.2.2 z3 z4 (Za HXE) (Za HXA)) ((Za HD) V (Ze (Za Bw_w4) hv)))
  have HF1:Hid (F1=Zm C - Zm C1):=sf
  clear sg sf d1 d2 d3 d4 d5 d6 z1 z2 z3 z4 oz hl8 hR hRC hm8
  have Bw4_w4:Hid (Below w4.heap.size w4 w4):=Below.refl _ _
  obtain⟨mk0,mlk⟩:=cl1 Fk_w4
  obtain⟨mt0,mt1,mt2,mlt⟩:=cl3 Ft_w4
  obtain⟨mk50,mlk5⟩:=cl1 Fk5_w4
  obtain⟨mk60,mlk6⟩:=cl1 Fk6_w4
  go_wp2_with fail
  refine (Za C4).mono ?_
  rintro e w5 ⟨k7,k7n,k7c,s7,s7n,s7c,c7,c7n,c7c,rfl,hT7,sT7,hS7,sS7,hC7,sC7,hb5⟩
  clear mk0 mlk mt0 mt1 mt2 mlt mk50 mlk5 mk60 mlk6
  have Fk_w5:=mvd hb5 Fk_w4
  have Ft_w5:=mvd hb5 Ft_w4
  have Fk5_w5:=mvd hb5 Fk5_w4
  have Fk6_w5:=mvd hb5 Fk6_w4
  have Bw_w5:=onb Bw_w4 hb5
  have BY_w5:=onb BY_w4 hb5
  have BZ_w5:=onb BZ_w4 hb5
  have Bw4_w5:=onb Bw4_w4 hb5
  clear Fk_w4 Ft_w4 Fk5_w4 Fk6_w4 Bw_w4 BY_w4 BZ_w4 Bw4_w4
  have Bw5_w5:Hid (Below w5.heap.size w5 w5):=Below.refl _ _
  have Q1:=Zb (fun V (hv:Below w5.heap.size w5 V)=>Bk.eqStr_is k5 k7 k5n k7n k5c k7c K1 K1 true V (Za HSY).1.len ((Za HDY).1.later (Ze (Za BY_w5) hv)) (hT7.later hv) (by simp))
  have Q2:=Zb (fun V (hv:Below w5.heap.size w5 V)=>Le s5 s7 s5n s7n s5c s7c S1 S1 true V (Za HSY).2.1.len ((Za HDY).2.1.later (Ze (Za BY_w5) hv)) (hS7.later hv) (by simp))
  have Q3:=Zb (fun V (hv:Below w5.heap.size w5 V)=>Kg c5 c7 c5n c7n c5c c7c C1 C1 true V (Za HSY).2.2.len ((Za HDY).2.2.later (Ze (Za BY_w5) hv)) (hC7.later hv) (Ty rfl))
  have hFb:(F1 != Zm C - Zm C1)=false:=by rw[Za HF1];simp
  have hFn:¬(F1≠Zm C - Zm C1):=fun q=>q (Za HF1)
  have E1:=Zb ((Za Q1) w5 (Below.refl _ _))
  clear hT7 sT7 hS7 sS7 hC7 sC7 hb5 C4 Q1 HF1
  obtain⟨mk0,mlk⟩:=cl1 Fk_w5
  obtain⟨mt0,mt1,mt2,mlt⟩:=cl3 Ft_w5
  obtain⟨mk50,mlk5⟩:=cl1 Fk5_w5
  obtain⟨mk60,mlk6⟩:=cl1 Fk6_w5
  go_wp2_with fail
  refine (Za E1).mono ?_
  rintro e w6 ⟨rfl,hb6⟩
  clear mk0 mlk mt0 mt1 mt2 mlt mk50 mlk5 mk60 mlk6
  have Fk_w6:=mvd hb6 Fk_w5
  have Ft_w6:=mvd hb6 Ft_w5
  have Fk5_w6:=mvd hb6 Fk5_w5
  have Fk6_w6:=mvd hb6 Fk6_w5
  have Bw_w6:=onb Bw_w5 hb6
  have BY_w6:=onb BY_w5 hb6
  have BZ_w6:=onb BZ_w5 hb6
  have Bw4_w6:=onb Bw4_w5 hb6
  have Bw5_w6:=onb Bw5_w5 hb6
  clear Fk_w5 Ft_w5 Fk5_w5 Fk6_w5 Bw_w5 BY_w5 BZ_w5 Bw4_w5 Bw5_w5
  have E2:=Zb ((Za Q2) w6 (Za Bw5_w6))
  clear hb6 E1 Q2
  obtain⟨mk0,mlk⟩:=cl1 Fk_w6
  obtain⟨mt0,mt1,mt2,mlt⟩:=cl3 Ft_w6
  obtain⟨mk50,mlk5⟩:=cl1 Fk5_w6
  obtain⟨mk60,mlk6⟩:=cl1 Fk6_w6
  go_wp2_with fail
  refine (Za E2).mono ?_
  rintro e w7 ⟨rfl,hb7⟩
  clear mk0 mlk mt0 mt1 mt2 mlt mk50 mlk5 mk60 mlk6
  have Fk_w7:=mvd hb7 Fk_w6
  have Ft_w7:=mvd hb7 Ft_w6
  have Fk5_w7:=mvd hb7 Fk5_w6
  have Fk6_w7:=mvd hb7 Fk6_w6
  have Bw_w7:=onb Bw_w6 hb7
  have BY_w7:=onb BY_w6 hb7
  have BZ_w7:=onb BZ_w6 hb7
  have Bw4_w7:=onb Bw4_w6 hb7
  have Bw5_w7:=onb Bw5_w6 hb7
  clear Fk_w6 Ft_w6 Fk5_w6 Fk6_w6 Bw_w6 BY_w6 BZ_w6 Bw4_w6 Bw5_w6
  have E3:=Zb ((Za Q3) w7 (Za Bw5_w7))
  clear hb7 E2 Q3
  obtain⟨mk0,mlk⟩:=cl1 Fk_w7
  obtain⟨mt0,mt1,mt2,mlt⟩:=cl3 Ft_w7
  obtain⟨mk50,mlk5⟩:=cl1 Fk5_w7
  obtain⟨mk60,mlk6⟩:=cl1 Fk6_w7
  go_wp2_with fail
  refine (Za E3).mono ?_
  rintro e w8 ⟨rfl,hb8⟩
  clear mk0 mlk mt0 mt1 mt2 mlt mk50 mlk5 mk60 mlk6
  have Fk_w8:=mvd hb8 Fk_w7
  have Ft_w8:=mvd hb8 Ft_w7
  have Fk5_w8:=mvd hb8 Fk5_w7
  have Fk6_w8:=mvd hb8 Fk6_w7
  have Bw_w8:=onb Bw_w7 hb8
  have BY_w8:=onb BY_w7 hb8
  have BZ_w8:=onb BZ_w7 hb8
  have Bw4_w8:=onb Bw4_w7 hb8
  have Bw5_w8:=onb Bw5_w7 hb8
  clear Fk_w7 Ft_w7 Fk5_w7 Fk6_w7 Bw_w7 BY_w7 BZ_w7 Bw4_w7 Bw5_w7
  have E4:=Zb ((Za C5) w8 (Za Bw4_w8))
  clear hb8 E3 C5
  obtain⟨mk0,mlk⟩:=cl1 Fk_w8
  obtain⟨mt0,mt1,mt2,mlt⟩:=cl3 Ft_w8
  obtain⟨mk50,mlk5⟩:=cl1 Fk5_w8
  obtain⟨mk60,mlk6⟩:=cl1 Fk6_w8
  go_wp2_with fail
  refine (Za E4).mono ?_
  rintro e w9 ⟨k8,k8n,k8c,s8,s8n,s8c,rfl,hT8,sT8,hS8,sS8,hb9⟩
  clear mk0 mlk mt0 mt1 mt2 mlt mk50 mlk5 mk60 mlk6
  have Fk_w9:=mvd hb9 Fk_w8
  have Ft_w9:=mvd hb9 Ft_w8
  have Fk5_w9:=mvd hb9 Fk5_w8
  have Fk6_w9:=mvd hb9 Fk6_w8
  have Bw_w9:=onb Bw_w8 hb9
  have BY_w9:=onb BY_w8 hb9
  have BZ_w9:=onb BZ_w8 hb9
  have Bw4_w9:=onb Bw4_w8 hb9
  have Bw5_w9:=onb Bw5_w8 hb9
  clear Fk_w8 Ft_w8 Fk5_w8 Fk6_w8 Bw_w8 BY_w8 BZ_w8 Bw4_w8 Bw5_w8
  have Bw9_w9:Hid (Below w9.heap.size w9 w9):=Below.refl _ _
  have Q1:=Zb (Bk.eqStr_is k6 k8 k6n k8n k6c k8c K2 K2 true w9 (Za HSZ).1.len ((Za HDZ).1.later (Za BZ_w9)) hT8 (by simp))
  have Q2:=Zb (fun V (hv:Below w9.heap.size w9 V)=>Le s6 s8 s6n s8n s6c s8c P2 P2 true V (Za HSZ).2.len ((Za HDZ).2.later (Ze (Za BZ_w9) hv)) (hS8.later hv) (by simp))
  clear hT8 sT8 hS8 sS8 hb9 E4 hFb hFn
  obtain⟨mk0,mlk⟩:=cl1 Fk_w9
  obtain⟨mt0,mt1,mt2,mlt⟩:=cl3 Ft_w9
  obtain⟨mk50,mlk5⟩:=cl1 Fk5_w9
  obtain⟨mk60,mlk6⟩:=cl1 Fk6_w9
  go_wp2_with fail
  refine (Za Q1).mono ?_
  rintro e w10 ⟨rfl,hb10⟩
  clear mk0 mlk mt0 mt1 mt2 mlt mk50 mlk5 mk60 mlk6
  have Fk_w10:=mvd hb10 Fk_w9
  have Ft_w10:=mvd hb10 Ft_w9
  have Fk5_w10:=mvd hb10 Fk5_w9
  have Fk6_w10:=mvd hb10 Fk6_w9
  have Bw_w10:=onb Bw_w9 hb10
  have BY_w10:=onb BY_w9 hb10
  have BZ_w10:=onb BZ_w9 hb10
  have Bw4_w10:=onb Bw4_w9 hb10
  have Bw5_w10:=onb Bw5_w9 hb10
  have Bw9_w10:=onb Bw9_w9 hb10
  clear Fk_w9 Ft_w9 Fk5_w9 Fk6_w9 Bw_w9 BY_w9 BZ_w9 Bw4_w9 Bw5_w9 Bw9_w9
  have E5:=Zb ((Za Q2) w10 (Za Bw9_w10))
  clear hb10 Q1 Q2
  obtain⟨mk0,mlk⟩:=cl1 Fk_w10
  obtain⟨mt0,mt1,mt2,mlt⟩:=cl3 Ft_w10
  obtain⟨mk50,mlk5⟩:=cl1 Fk5_w10
  obtain⟨mk60,mlk6⟩:=cl1 Fk6_w10
  go_wp2_with fail
  refine (Za E5).mono ?_
  rintro e w11 ⟨rfl,hb11⟩
  clear mk0 mlk mt0 mt1 mt2 mlt mk50 mlk5 mk60 mlk6
  have Fk_w11:=mvd hb11 Fk_w10
  have Ft_w11:=mvd hb11 Ft_w10
  have Fk5_w11:=mvd hb11 Fk5_w10
  have Fk6_w11:=mvd hb11 Fk6_w10
  have Bw_w11:=onb Bw_w10 hb11
  have BY_w11:=onb BY_w10 hb11
  have BZ_w11:=onb BZ_w10 hb11
  have Bw4_w11:=onb Bw4_w10 hb11
  have Bw5_w11:=onb Bw5_w10 hb11
  have Bw9_w11:=onb Bw9_w10 hb11
  clear Fk_w10 Ft_w10 Fk5_w10 Fk6_w10 Bw_w10 BY_w10 BZ_w10 Bw4_w10 Bw5_w10 Bw9_w10
  clear hb11 E5
  go_wp2
  go_ret
  exact⟨rfl,Za Bw_w11⟩
 ·have gx:(x != 0)=true:=by simp[h0]
  obtain⟨rfl,rfl,rfl,rfl,e5,rfl,rfl⟩:=Eb (Za HXE) h0 (Za HXR) (Za HXA)
  subst e5
  obtain rfl:k5n=0:=(Za HDY).1.1.symm
  obtain rfl:s5n=0:=(Za HDY).2.1.1.symm
  obtain rfl:c5n=0:=(Za HDY).2.2.1.symm
  obtain rfl:k6n=0:=(Za HDZ).1.1.symm
  obtain rfl:s6n=0:=(Za HDZ).2.1.symm
  have D2:=Zb (Gy w4 ((Za HD) w4 (Za Bw_w4)).1.envp.env)
  clear HXE HXR HXA HDY HDZ HSY HSZ
  obtain⟨mk0,mlk⟩:=cl1 Fk_w4
  obtain⟨mt0,mt1,mt2,mlt⟩:=cl3 Ft_w4
  obtain⟨mk50,mlk5⟩:=cl1 Fk5_w4
  obtain⟨mk60,mlk6⟩:=cl1 Fk6_w4
  go_wp2_with fail
  refine (Za D2).mono ?_
  rintro e w5 ⟨rfl,hb5⟩
  clear mk0 mlk mt0 mt1 mt2 mlt mk50 mlk5 mk60 mlk6
  have Fk_w5:=mvd hb5 Fk_w4
  have Ft_w5:=mvd hb5 Ft_w4
  have Fk5_w5:=mvd hb5 Fk5_w4
  have Fk6_w5:=mvd hb5 Fk6_w4
  have Bw_w5:=onb Bw_w4 hb5
  have BY_w5:=onb BY_w4 hb5
  have BZ_w5:=onb BZ_w4 hb5
  clear Fk_w4 Ft_w4 Fk5_w4 Fk6_w4 Bw_w4 BY_w4 BZ_w4
  clear hb5 D2
  obtain⟨mk0,mlk⟩:=cl1 Fk_w5
  obtain⟨mt0,mt1,mt2,mlt⟩:=cl3 Ft_w5
  obtain⟨mk50,mlk5⟩:=cl1 Fk5_w5
  obtain⟨mk60,mlk6⟩:=cl1 Fk6_w5
  go_wp2
  go_ret
  exact⟨rfl,Za Bw_w5⟩
open Go.ChangeShapes Go.WideShapes Go.ChangeAt Go.RowKit
theorem own:ownKnob Tryz.prog.godebug=none:=by kernel_rfl
theorem Jp:laidOutB Tryz.prog=true:=by kernel_rfl
theorem Tryz.cellsCoin:Tryz.prog.cellsOf 103=6:=by kernel_rfl
theorem Tryz.cells4:Tryz.prog.cellsOf 4=1:=by kernel_rfl
theorem Zdh{cs:List Value}(h:cs.length=6):∃ a b c d e f,cs=[a,b,c,d,e,f]:=by
 match cs,h with
 | [a,b,c,d,e,f],_=>exact⟨a,b,c,d,e,f,rfl⟩
theorem Tryz.cellsOp:Tryz.prog.cellsOf 122=2:=by kernel_rfl
theorem Tryz.cells3:Tryz.prog.cellsOf 3=1:=by kernel_rfl
theorem Dq{H:Type}{enc:TypeId×Value→H}{W:World}{sp:Nat→Bool}{held:Bool}{fuel:Nat}{a:Option Addr}{len cap:Nat}{x:DataW H×List MemPlace}
  (h:DataW.trod enc Tryz.prog W 0 sp held fuel 66 [.slice a len cap]=some x):(∃ l,OpsAt W a len l)∧(a=none→len=0∧cap=0):=by
 rcases Deep.open_slice_pairs Tryz.underlying66 Tryz.underlying122 Tryz.cellsOp rfl rfl Tryz.cells3 Tryz.cells3 h with ⟨hcs,_⟩|⟨b,l,c,m,n,V0,V1,D0,D1,P0,P1,hcs,_,hl,_,hm,_,hel⟩
 ·simp at hcs
  obtain⟨rfl,rfl,rfl⟩:=hcs
  exact⟨⟨[],rfl,fun h=>absurd h (by omega)⟩,fun _=>⟨rfl,rfl⟩⟩
 ·simp at hcs
  obtain⟨rfl,rfl,rfl⟩:=hcs
  refine⟨?_,fun h=>by cases h⟩
  have hlm:len≤m:=by rw[hm];split <;> omega
  have each:∀ i,i<len→∃ q:Int×Int,W.cell? (b.add (i*2))=some (.int .i64 q.1)∧W.cell? (b.add (i*2+1))=some (.int .i64 q.2):=fun i hi=>by
   obtain⟨h1,h2,t1,t2⟩:=hel i (by omega)
   obtain⟨z1,e1,_,_⟩:=DataW.trod_int Tryz.underlying3 t1
   obtain⟨z2,e2,_,_⟩:=DataW.trod_int Tryz.underlying3 t2
   simp only[List.cons.injEq,and_true] at e1 e2
   exact⟨(z1,z2),by rw[h1,e1],by rw[h2,e2]⟩
  obtain⟨f,hf⟩:=Deep.choose_lt each
  refine⟨(List.range len).map f,by simp,fun hpos=>?_⟩
  obtain⟨bb,off,spot⟩:=b
  have hspot:spot=none:=by simpa[Addr.add] using World.cell?_spot (hf 0 hpos).1
  subst hspot
  refine⟨bb,off,rfl,fun i hi=>?_⟩
  have hadd:∀ j,(⟨bb,off,none⟩:Addr).add j=⟨bb,off+j,none⟩:=fun j=>by unfold Addr.add;split <;> simp_all
  have h1:=hf i hi
  rw[hadd,hadd] at h1
  rw[←Nat.add_assoc] at h1
  simpa[hi] using h1
theorem Tryz.cellsTx:Tryz.prog.cellsOf 52=3:=by kernel_rfl
theorem Tryz.cellsIn:Tryz.prog.cellsOf 124=3:=by kernel_rfl
theorem Tryz.cellsOut:Tryz.prog.cellsOf 101=2:=by kernel_rfl
theorem Tryz.cellsPoint:Tryz.prog.cellsOf 99=2:=by kernel_rfl
theorem Tryz.cellsOps:Tryz.prog.cellsOf 66=1:=by kernel_rfl
theorem Tryz.cellsIns:Tryz.prog.cellsOf 49=1:=by kernel_rfl
theorem Tryz.cellsOuts:Tryz.prog.cellsOf 50=1:=by kernel_rfl
theorem Zdg{cs:List Value}(h:cs.length=2):∃ a b,cs=[a,b]:=by
 match cs,h with
 | [a,b],_=>exact⟨a,b,rfl⟩
theorem G9{cs:List Value}(h:cs.length=3):∃ a b c,cs=[a,b,c]:=by
 match cs,h with
 | [a,b,c],_=>exact⟨a,b,c,rfl⟩
section
variable {H : Type} {enc : TypeId × Value → H} {W : World} {sp : Nat → Bool} {held : Bool} {fuel : Nat}
theorem Dr{v:Value}{x:DataW H×List MemPlace}(h:DataW.trod enc Tryz.prog W 0 sp held fuel 66 [v]=some x):∃ a n c l,v = .slice a n c∧OpsAt W a n l∧SlOk a n c:=by
 have h':=h
 rcases Deep.open_slice Tryz.underlying66 h with ⟨hcs,_⟩|⟨b,l,c,m,n,D,Pl,hcs,_,hl,hm,_⟩
 ·simp at hcs
  subst hcs
  exact⟨none,0,0,[],rfl,⟨rfl,fun h=>absurd h (by omega)⟩,Nat.le_refl _,Nat.zero_le _,fun _=>⟨rfl,rfl⟩⟩
 ·simp at hcs
  subst hcs
  obtain⟨⟨L,hO⟩,_⟩:=Dq h'
  exact⟨some b,l,c,L,rfl,hO,hl,hm,fun h=>by cases h⟩
theorem Zge{cs:List Value}{x:DataW H×List MemPlace}(h:DataW.trod enc Tryz.prog W 0 sp held fuel 124 cs=some x):∃ x1 x2 a n c l,cs=[.int .i64 x1,.int .i64 x2,.slice a n c]∧OpsAt W a n l∧SlOk a n c:=by
 obtain⟨y0,y1,k,_,hl,h0,h1⟩:=trod_struct2 Tryz.underlying124 h
 rw[Tryz.cellsIn] at hl
 obtain⟨c0,c1,c2,rfl⟩:=G9 hl
 simp[Tryz.cellsPoint,Tryz.cellsOps] at h0 h1
 obtain⟨z0,z1,k2,_,_,g0,g1⟩:=trod_struct2 Tryz.underlying99 h0
 simp[Tryz.cells3] at g0 g1
 obtain⟨x1,e1,_,_⟩:=DataW.trod_int Tryz.underlying3 g0
 obtain⟨x2,e2,_,_⟩:=DataW.trod_int Tryz.underlying3 g1
 obtain⟨a,n,c,l,rfl,hO,hS⟩:=Dr h1
 simp only[List.cons.injEq,and_true] at e1 e2
 subst e1 e2
 exact⟨x1,x2,a,n,c,l,rfl,hO,hS⟩
theorem Do{cs:List Value}{x:DataW H×List MemPlace}(h:DataW.trod enc Tryz.prog W 0 sp held fuel 101 cs=some x):∃ x1 a n c l,cs=[.int .i64 x1,.slice a n c]∧OpsAt W a n l∧SlOk a n c:=by
 obtain⟨y0,y1,k,_,hl,h0,h1⟩:=trod_struct2 Tryz.underlying101 h
 rw[Tryz.cellsOut] at hl
 obtain⟨c0,c1,rfl⟩:=Zdg hl
 simp[Tryz.cells3,Tryz.cellsOps] at h0 h1
 obtain⟨x1,e1,_,_⟩:=DataW.trod_int Tryz.underlying3 h0
 obtain⟨a,n,c,l,rfl,hO,hS⟩:=Dr h1
 simp only[List.cons.injEq,and_true] at e1
 subst e1
 exact⟨x1,a,n,c,l,rfl,hO,hS⟩
theorem Zdk{v:Value}{x:DataW H×List MemPlace}(h:DataW.trod enc Tryz.prog W 0 sp held fuel 49 [v]=some x):∃ a n c l,v = .slice a n c∧InsAt W a n l∧SlOk a n c:=by
 rcases Deep.open_slice Tryz.underlying49 h with ⟨hcs,_⟩|⟨b,l,c,m,n,D,Pl,hcs,_,hl,hm,hmm,_,hel⟩
 ·simp at hcs
  subst hcs
  exact⟨none,0,0,[],rfl,RowsAt.nil _ _,Nat.le_refl _,Nat.zero_le _,fun _=>⟨rfl,rfl⟩⟩
 ·simp at hcs
  subst hcs
  have hlm:l≤m:=by rw[hmm];split <;> omega
  have each:∀ i,i<l→∃ q:InD,∃ a n c,W.cell? (b.add (i*3))=some (.int .i64 q.1)∧W.cell? (b.add (i*3+1))=some (.int .i64 q.2.1)∧W.cell? (b.add (i*3+2))=some (.slice a n c)∧OpsAt W a n q.2.2∧SlOk a n c:=fun i hi=>by
   obtain⟨cs',h1,h2⟩:=hel i (by omega)
   rw[Tryz.cellsIn] at h1
   obtain⟨_,_,hcell⟩:=World.cells?_some h1
   obtain⟨x1,x2,a,n,c,key,rfl,hO,hS⟩:=Zge h2
   have e0:=hcell 0 (by omega)
   have e1:=hcell 1 (by omega)
   have e2:=hcell 2 (by omega)
   rw[Deep.add_add] at e0 e1 e2
   exact⟨(x1,x2,key),a,n,c,by simpa using e0,by simpa using e1,by simpa using e2,hO,hS⟩
  obtain⟨f,hf⟩:=Deep.choose_lt each
  refine⟨some b,l,c,(List.range l).map f,rfl,⟨by simp,fun hpos=>?_⟩,hl,hm,fun h=>by cases h⟩
  obtain⟨bb,off,spot⟩:=b
  obtain⟨_,_,_,z0,_⟩:=hf 0 hpos
  have hspot:spot=none:=by simpa[Addr.add] using World.cell?_spot z0
  subst hspot
  have hadd:∀ j,(⟨bb,off,none⟩:Addr).add j=⟨bb,off+j,none⟩:=fun j=>by unfold Addr.add;split <;> simp_all
  refine⟨bb,off,rfl,by rw[hadd] at z0;exact World.block_lt_of_cell? _ _ z0,fun i hi=>?_⟩
  have hi':i<l:=by simpa using hi
  obtain⟨a,n,c,q0,q1,q2,hO,hS⟩:=hf i hi'
  rw[hadd] at q0 q1 q2
  rw[←Nat.add_assoc] at q1 q2
  rw[List.getElem_map,List.getElem_range]
  exact⟨q0,q1,a,n,c,q2,hO,hS⟩
theorem E9{v:Value}{x:DataW H×List MemPlace}(h:DataW.trod enc Tryz.prog W 0 sp held fuel 50 [v]=some x):∃ a n c l,v = .slice a n c∧OutsAt W a n l∧SlOk a n c:=by
 rcases Deep.open_slice Tryz.underlying50 h with ⟨hcs,_⟩|⟨b,l,c,m,n,D,Pl,hcs,_,hl,hm,hmm,_,hel⟩
 ·simp at hcs
  subst hcs
  exact⟨none,0,0,[],rfl,RowsAt.nil _ _,Nat.le_refl _,Nat.zero_le _,fun _=>⟨rfl,rfl⟩⟩
 ·simp at hcs
  subst hcs
  have hlm:l≤m:=by rw[hmm];split <;> omega
  have each:∀ i,i<l→∃ q:Zw,∃ a n c,W.cell? (b.add (i*2))=some (.int .i64 q.1)∧W.cell? (b.add (i*2+1))=some (.slice a n c)∧OpsAt W a n q.2∧SlOk a n c:=fun i hi=>by
   obtain⟨cs',h1,h2⟩:=hel i (by omega)
   rw[Tryz.cellsOut] at h1
   obtain⟨_,_,hcell⟩:=World.cells?_some h1
   obtain⟨x1,a,n,c,key,rfl,hO,hS⟩:=Do h2
   have e0:=hcell 0 (by omega)
   have e1:=hcell 1 (by omega)
   rw[Deep.add_add] at e0 e1
   exact⟨(x1,key),a,n,c,by simpa using e0,by simpa using e1,hO,hS⟩
  obtain⟨f,hf⟩:=Deep.choose_lt each
  refine⟨some b,l,c,(List.range l).map f,rfl,⟨by simp,fun hpos=>?_⟩,hl,hm,fun h=>by cases h⟩
  obtain⟨bb,off,spot⟩:=b
  obtain⟨_,_,_,z0,_⟩:=hf 0 hpos
  have hspot:spot=none:=by simpa[Addr.add] using World.cell?_spot z0
  subst hspot
  have hadd:∀ j,(⟨bb,off,none⟩:Addr).add j=⟨bb,off+j,none⟩:=fun j=>by unfold Addr.add;split <;> simp_all
  refine⟨bb,off,rfl,by rw[hadd] at z0;exact World.block_lt_of_cell? _ _ z0,fun i hi=>?_⟩
  have hi':i<l:=by simpa using hi
  obtain⟨a,n,c,q0,q1,hO,hS⟩:=hf i hi'
  rw[hadd] at q0 q1
  rw[←Nat.add_assoc] at q1
  rw[List.getElem_map,List.getElem_range]
  exact⟨q0,a,n,c,q1,hO,hS⟩
theorem Bz{cs:List Value}{x:DataW H×List MemPlace}(h:DataW.trod enc Tryz.prog W 0 sp held fuel 52 cs=some x):∃ h ai ni ci ao no co I O,cs=[.int .i64 h,.slice ai ni ci,.slice ao no co]∧InsAt W ai ni I∧OutsAt W ao no O∧SlOk ai ni ci∧SlOk ao no co:=by
 obtain⟨y0,y1,y2,k,_,hl,h0,h1,h2⟩:=Deep.trod_struct3 Tryz.underlying52 h
 rw[Tryz.cellsTx] at hl
 obtain⟨c0,c1,c2,rfl⟩:=G9 hl
 simp[Tryz.cells3,Tryz.cellsIns,Tryz.cellsOuts] at h0 h1 h2
 obtain⟨hh,e0,_,_⟩:=DataW.trod_int Tryz.underlying3 h0
 obtain⟨ai,ni,ci,I,rfl,hI,sI⟩:=Zdk h1
 obtain⟨ao,no,co,O,rfl,hO,sO⟩:=E9 h2
 simp only[List.cons.injEq,and_true] at e0
 subst e0
 exact⟨hh,ai,ni,ci,ao,no,co,I,O,rfl,hI,hO,sI,sO⟩
theorem Zao{cs:List Value}{x:DataW H×List MemPlace}(h:DataW.trod enc Tryz.prog W 0 sp held fuel 103 cs=some x):∃ (q:Zg) (a:Option Addr) (n c:Nat),cs=[.int .i64 q.1,.int .i64 q.2.1,.int .i64 (cv q),.slice a n c,.int .i64 (ch q),.bool (cr q)]∧OpsAt W a n (ck q)∧SlOk a n c:=by
 obtain⟨y0,y1,y2,y3,k,_,hl,h0,h1,h2,h3⟩:=Joins.trod_struct4 Tryz.underlying103 h
 rw[Tryz.cellsCoin] at hl
 obtain⟨c0,c1,c2,c3,c4,c5,rfl⟩:=Zdh hl
 simp[Tryz.cellsPoint,Tryz.cellsOut,Tryz.cells3,Tryz.cells4] at h0 h1 h2 h3
 obtain⟨z0,z1,k2,_,_,g0,g1⟩:=trod_struct2 Tryz.underlying99 h0
 simp[Tryz.cells3] at g0 g1
 obtain⟨x1,e1,_,_⟩:=DataW.trod_int Tryz.underlying3 g0
 obtain⟨x2,e2,_,_⟩:=DataW.trod_int Tryz.underlying3 g1
 obtain⟨x3,a,n,c,l,e3,hO,hS⟩:=Do h1
 obtain⟨x4,e4,_,_⟩:=DataW.trod_int Tryz.underlying3 h2
 obtain⟨x5,e5,_⟩:=DataW.trod_bool Tryz.underlying4 h3
 simp only[List.cons.injEq,and_true] at e1 e2 e3 e4 e5
 obtain⟨rfl,rfl⟩:=e3
 subst e1 e2 e4 e5
 exact⟨(x1,x2,x3,l,x4,x5),a,n,c,rfl,hO,hS⟩
theorem Bh{v:Value}{x:DataW H×List MemPlace}(h:DataW.trod enc Tryz.prog W 0 sp held fuel 29 [v]=some x):∃ a n c l,v = .slice a n c∧CoinsAt W a n l∧SlOk a n c:=by
 rcases Deep.open_slice Tryz.underlying29 h with ⟨hcs,_⟩|⟨b,l,c,m,n,D,Pl,hcs,_,hl,hm,hmm,_,hel⟩
 ·simp at hcs
  subst hcs
  exact⟨none,0,0,[],rfl,RowsAt.nil _ _,Nat.le_refl _,Nat.zero_le _,fun _=>⟨rfl,rfl⟩⟩
 ·simp at hcs
  subst hcs
  have hlm:l≤m:=by rw[hmm];split <;> omega
  have each:∀ i,i<l→∃ q:Zg,∃ a n c,W.cell? (b.add (i*6))=some (.int .i64 q.1)∧W.cell? (b.add (i*6+1))=some (.int .i64 q.2.1)∧W.cell? (b.add (i*6+2))=some (.int .i64 (cv q))∧W.cell? (b.add (i*6+3))=some (.slice a n c)∧W.cell? (b.add (i*6+4))=some (.int .i64 (ch q))∧W.cell? (b.add (i*6+5))=some (.bool (cr q))∧OpsAt W a n (ck q)∧SlOk a n c:=fun i hi=>by
   obtain⟨cs',h1,h2⟩:=hel i (by omega)
   rw[Tryz.cellsCoin] at h1
   obtain⟨_,_,hcell⟩:=World.cells?_some h1
   obtain⟨q,a,n,c,rfl,hO,hS⟩:=Zao h2
   have e0:=hcell 0 (by omega)
   have e1:=hcell 1 (by omega)
   have e2:=hcell 2 (by omega)
   have e3:=hcell 3 (by omega)
   have e4:=hcell 4 (by omega)
   have e5:=hcell 5 (by omega)
   rw[Deep.add_add] at e0 e1 e2 e3 e4 e5
   exact⟨q,a,n,c,by simpa using e0,by simpa using e1,by simpa using e2,by simpa using e3,by simpa using e4,by simpa using e5,hO,hS⟩
  obtain⟨f,hf⟩:=Deep.choose_lt each
  refine⟨some b,l,c,(List.range l).map f,rfl,⟨by simp,fun hpos=>?_⟩,hl,hm,fun h=>by cases h⟩
  obtain⟨bb,off,spot⟩:=b
  obtain⟨_,_,_,z0,_⟩:=hf 0 hpos
  have hspot:spot=none:=by simpa[Addr.add] using World.cell?_spot z0
  subst hspot
  have hadd:∀ j,(⟨bb,off,none⟩:Addr).add j=⟨bb,off+j,none⟩:=fun j=>by unfold Addr.add;split <;> simp_all
  refine⟨bb,off,rfl,by rw[hadd] at z0;exact World.block_lt_of_cell? _ _ z0,fun i hi=>?_⟩
  have hi':i<l:=by simpa using hi
  obtain⟨a,n,c,q0,q1,q2,q3,q4,q5,hO,hS⟩:=hf i hi'
  rw[hadd] at q0 q1 q2 q3 q4 q5
  rw[←Nat.add_assoc] at q1 q2 q3 q4 q5
  rw[List.getElem_map,List.getElem_range]
  exact⟨q0,q1,q2,⟨a,n,c,q3,hO,hS⟩,q4,q5⟩
end
end Go.Proofs.YtpikejjiignchaaGreatDoor
