import Derived.Test.YtpikejjiignchaaGreatDoorG48
set_option maxHeartbeats 12800000
set_option maxRecDepth 10000
namespace Go.Proofs.YtpikejjiignchaaGreatDoor
open Go.RowKit
def plC:List Zg:=[(1,0,9,[],1,false)]
def plT:TxD:=(0,[(1,0,[(1,1)])],[(6,[])])
def plK:List ByteArray:=(acE [] plC [] plT 4).2.1
def plB:Z4:=(5,4,1,0,[(4,[],[(67,[])]),plT])
theorem pl1:acE [] plC [] plT 4=(0,plK,[plT]):=by kernel_rfl
theorem pl2:acE plK plC [plT] plT 4=(6,[],[]):=by kernel_rfl
theorem pl3:mkE plK plC [plT] 5 4 1 0 []=(0,plB):=by kernel_rfl
theorem Vc(w:World)(hE:Env w):Calls Tryz.prog 22 #[] w fun e w'=>e = .returned (.bool true)∧Below w.heap.size w w':=by
 obtain⟨X,hX⟩:∃ X,X=Ui w [.cells #[.int .i64 1,.int .i64 0,.int .i64 9,.slice none 0 0,.int .i64 1,.bool false] 103,.cells #[.int .i64 1,.int .i64 1] 122,.cells #[.int .i64 1,.int .i64 0,.slice (some ⟨w.heap.size+1,0,none⟩) 1 1] 124,.cells #[.int .i64 6,.slice none 0 0] 101,.cells #[.int .i64 0,.slice (some ⟨w.heap.size+1+1,0,none⟩) 1 1,.slice (some ⟨w.heap.size+1+1+1,0,none⟩) 1 1] 52]:=⟨_,rfl⟩
 have hbX:Below w.heap.size w X:=by rw[hX];exact Wa _ _
 have x0:X.heap[w.heap.size]? = some (.cells [.int .i64 1,.int .i64 0,.int .i64 9,.slice none 0 0,.int .i64 1,.bool false].toArray 103 (0,0)):=by rw[hX];exact Yg _ w 0 _ rfl
 have x1:X.heap[w.heap.size+1]? = some (.cells [.int .i64 1,.int .i64 1].toArray 122 (0,0)):=by rw[hX];exact Yg _ w 1 _ rfl
 have x2:X.heap[w.heap.size+1+1]? = some (.cells [.int .i64 1,.int .i64 0,.slice (some ⟨w.heap.size+1,0,none⟩) 1 1].toArray 124 (0,0)):=by rw[hX];exact Yg _ w 2 _ rfl
 have x3:X.heap[w.heap.size+1+1+1]? = some (.cells [.int .i64 6,.slice none 0 0].toArray 101 (0,0)):=by rw[hX];exact Yg _ w 3 _ rfl
 have x4:X.heap[w.heap.size+1+1+1+1]? = some (.cells [.int .i64 0,.slice (some ⟨w.heap.size+1+1,0,none⟩) 1 1,.slice (some ⟨w.heap.size+1+1+1,0,none⟩) 1 1].toArray 52 (0,0)):=by rw[hX];exact Yg _ w 4 _ rfl
 have hX':X=((((w.alloc (.cells #[.int .i64 1,.int .i64 0,.int .i64 9,.slice none 0 0,.int .i64 1,.bool false] 103)).alloc (.cells #[.int .i64 1,.int .i64 1] 122)).alloc (.cells #[.int .i64 1,.int .i64 0,.slice (some ⟨w.heap.size+1,0,none⟩) 1 1] 124)).alloc (.cells #[.int .i64 6,.slice none 0 0] 101)).alloc (.cells #[.int .i64 0,.slice (some ⟨w.heap.size+1+1,0,none⟩) 1 1,.slice (some ⟨w.heap.size+1+1+1,0,none⟩) 1 1] 52):=hX
 have s1:∀ b:Nat,SlOk (some ⟨b,0,none⟩) 1 1:=fun b=>⟨Nat.le_refl _,by decide,fun e=>by cases e⟩
 have hC:CoinsAt X (some ⟨w.heap.size,0,none⟩) 1 plC:=⟨rfl,fun _=>⟨w.heap.size,0,rfl,lt_of_block x0,fun i hi=>by
  have ei:i=0:=by simp[plC] at hi;omega
  subst ei
  exact⟨Zd x0 0 _ rfl,Zd x0 1 _ rfl,Zd x0 2 _ rfl,⟨none,0,0,Zd x0 3 _ rfl,⟨rfl,fun h=>absurd h (by omega)⟩,Xm⟩,Zd x0 4 _ rfl,Zd x0 5 _ rfl⟩⟩⟩
 have hO1:OpsAt X (some ⟨w.heap.size+1,0,none⟩) 1 [(1,1)]:=⟨rfl,fun _=>⟨w.heap.size+1,0,rfl,fun i hi=>by
  have ei:i=0:=by simp at hi;omega
  subst ei
  exact⟨Zd x1 0 _ rfl,Zd x1 1 _ rfl⟩⟩⟩
 have hI:InsAt X (some ⟨w.heap.size+1+1,0,none⟩) 1 [(1,0,[(1,1)])]:=⟨rfl,fun _=>⟨w.heap.size+1+1,0,rfl,lt_of_block x2,fun i hi=>by
  have ei:i=0:=by simp at hi;omega
  subst ei
  exact⟨Zd x2 0 _ rfl,Zd x2 1 _ rfl,_,_,_,Zd x2 2 _ rfl,hO1,s1 _⟩⟩⟩
 have hO:OutsAt X (some ⟨w.heap.size+1+1+1,0,none⟩) 1 [(6,[])]:=⟨rfl,fun _=>⟨w.heap.size+1+1+1,0,rfl,lt_of_block x3,fun i hi=>by
  have ei:i=0:=by simp at hi;omega
  subst ei
  exact⟨Zd x3 0 _ rfl,_,_,_,Zd x3 1 _ rfl,⟨rfl,fun h=>absurd h (by omega)⟩,Xm⟩⟩⟩
 have A1:=Zb (Gz none 0 0 [] (some ⟨w.heap.size,0,none⟩) 1 1 plC none 0 0 [] 0 (some ⟨w.heap.size+1+1,0,none⟩) (some ⟨w.heap.size+1+1+1,0,none⟩) 1 1 1 1 [(1,0,[(1,1)])] [(6,[])] 4 0 plK [plT] X (hE.later hbX) ⟨rfl,fun h=>absurd h (by omega)⟩ hC (s1 _) (RowsAt.nil _ _) hI hO (s1 _) (s1 _) pl1)
 have A2:=Zb (fun W (hw:Below X.heap.size X W) ka kn kc sa sc (hk:Bk.TextsAt W ka kn plK) (hs:TxsAt W sa 1 [plT])=>Gz ka kn kc plK (some ⟨w.heap.size,0,none⟩) 1 1 plC sa 1 sc [plT] 0 (some ⟨w.heap.size+1+1,0,none⟩) (some ⟨w.heap.size+1+1+1,0,none⟩) 1 1 1 1 [(1,0,[(1,1)])] [(6,[])] 4 6 [] [] W (hE.later (Ze hbX hw)) hk (hC.later hw) (s1 _) hs (hI.later hw) (hO.later hw) (s1 _) (s1 _) pl2)
 have A3:=Zb (fun W (hw:Below X.heap.size X W) ka kn kc sa sc (hk:Bk.TextsAt W ka kn plK) (hs:TxsAt W sa 1 [plT])=>Dk ka kn kc plK (some ⟨w.heap.size,0,none⟩) 1 1 plC sa 1 sc [plT] 5 3 1 0 none 0 0 [] 4 0 plB W (hE.later (Ze hbX hw)) hk (hC.later hw) (s1 _) hs ⟨rfl,fun h=>absurd h (by omega)⟩ Xm (by omega) (by decide) pl3)
 have HBX:=Zb hbX
 have HX4:=Zb x4
 have t0:=Zd x4 0 _ rfl
 have t1:=Zd x4 1 _ rfl
 have t2:=Zd x4 2 _ rfl
 have tl:=lt_of_block x4
 clear hE hbX x0 x1 x2 x3 x4 hX s1 hC hO1 hI hO
 go_enter Tryz.func22,Tryz.ntmps22
 go_wp2_with fail
 rw[←hX']
 clear hX'
 (try go_wp2_with fail)
 refine (Za A1).mono ?_
 rintro e w1 ⟨ka,kn,kc,sa,sn,sc,rfl,hF1,_,_,hb1⟩
 obtain⟨hK1,hS1⟩:=hF1 w1 (Gr.refl _ _)
 obtain rfl:sn=1:=hS1.1.symm
 obtain⟨Y,hY⟩:∃ Y,Y=w1.alloc (.cells #[.slice ka kn kc] 24):=⟨_,rfl⟩
 have hbY:Below w1.heap.size w1 Y:=by rw[hY];exact Zf _ _
 have y0:Y.heap[w1.heap.size]? = some (.cells [.slice ka kn kc].toArray 24 (0,0)):=by rw[hY];exact Jb _ _ _
 have hbXY:=Ze hb1 hbY
 have h4:=(hbXY.block _ (lt_of_block (Za HX4))).trans (Za HX4)
 have C2:=Zb ((Za A2) Y hbXY ka kn kc sa sc (hK1.later hbY) (hS1.later hbY))
 have h41:=(hb1.block _ (lt_of_block (Za HX4))).trans (Za HX4)
 have t0:=Zd h41 0 _ rfl
 have t1:=Zd h41 1 _ rfl
 have t2:=Zd h41 2 _ rfl
 have tl:=lt_of_block h41
 have k0:=Zd y0 0 _ rfl
 have kl:=lt_of_block y0
 have HK:=Zb (hK1.later hbY)
 have HS:=Zb (hS1.later hbY)
 have HBY:=Zb hbXY
 have HY0:=Zb y0
 clear hF1 hb1 hK1 hS1 hbY y0 hbXY h4 h41 A1 A2
 go_wp2_with fail
 rw[←hY]
 clear hY
 (try go_wp2_with fail)
 refine (Za C2).mono ?_
 rintro e w2 ⟨ka2,kn2,kc2,sa2,sn2,sc2,rfl,_,_,_,hb2⟩
 have hbY2:=Ze (Za HBY) hb2
 obtain⟨Z,hZ⟩:∃ Z,Z=w2.alloc (.cells #[.slice ka2 kn2 kc2] 24):=⟨_,rfl⟩
 have hbZ:Below w2.heap.size w2 Z:=by rw[hZ];exact Zf _ _
 have hYZ:=Ze hb2 hbZ
 have C3:=Zb ((Za A3) Z (Ze hbY2 hbZ) ka kn kc sa sc ((Za HK).later hYZ) ((Za HS).later hYZ))
 have k1:=(hb2.block _ (lt_of_block (Za HY0))).trans (Za HY0)
 have k10:=Zd k1 0 _ rfl
 have k1l:=lt_of_block k1
 have HBZ:=Zb (Ze hbY2 hbZ)
 clear hb2 hbY2 hbZ hYZ k1 C2 A3 k0 kl t0 t1 t2 tl
 go_wp2_with fail
 rw[←hZ]
 clear hZ
 (try go_wp2_with fail)
 refine (Za C3).mono ?_
 rintro e w3 ⟨ga,gn,gc,rfl,hF3,_,hb3⟩
 have hT:=hF3 w3 (Gr.refl _ _)
 obtain rfl:gn=2:=hT.1.symm
 obtain⟨b,off,rfl,hbl,hrow⟩:=hT.2 (by omega)
 obtain⟨_,_,oa,on,oc,c2,hO3,_⟩:=hrow 0 (by decide)
 obtain rfl:on=1:=hO3.1.symm
 obtain⟨ob,ooff,rfl,obl,orow⟩:=hO3.2 (by omega)
 have c3:=(orow 0 (by decide)).1
 have hbW:=Zf w3 (.cells #[.int .i64 plB.1,.int .i64 plB.2.1,.int .i64 plB.2.2.1,.int .i64 plB.2.2.2.1,.slice (some ⟨b,off,none⟩) 2 gc] 68)
 have HB3:=Zb (Ze (Za HBX) (Ze (Za HBZ) (Ze hb3 hbW)))
 simp only[Bf,plB,plT] at *
 simp only[Nat.zero_mul,Nat.add_zero,List.getElem_cons_zero] at c2 c3
 clear hF3 hb3 hT hrow hO3 orow hbW C3 k10 k1l
 go_wp2
 go_ret
 exact⟨rfl,Za HB3⟩
theorem mvd{V W:World}{b:Nat}{o:Obj}(hb:Below V.heap.size V W)(h:Hid (V.heap[b]? = some o)):Hid (W.heap[b]? = some o):=(hb.block _ (lt_of_block (Za h))).trans (Za h)
theorem onb{U V W:World}(h:Hid (Below U.heap.size U V))(hb:Below V.heap.size V W):Hid (Below U.heap.size U W):=Ze (Za h) hb
section
variable {V : World} {b : Nat} {t : TypeId} {v0 v1 v2 v3 v4 : Value}
theorem cl1(h:Hid (V.heap[b]? = some (.cells [v0].toArray t (0,0)))):V.cell? ⟨b,0,none⟩=some v0∧b<V.heap.size:=⟨Zd (Za h) 0 _ rfl,lt_of_block (Za h)⟩
theorem cl2(h:Hid (V.heap[b]? = some (.cells [v0,v1].toArray t (0,0)))):V.cell? ⟨b,0,none⟩=some v0∧V.cell? ⟨b,1,none⟩=some v1∧b<V.heap.size:=⟨Zd (Za h) 0 _ rfl,Zd (Za h) 1 _ rfl,lt_of_block (Za h)⟩
theorem cl5(h:Hid (V.heap[b]? = some (.cells [v0,v1,v2,v3,v4].toArray t (0,0)))):V.cell? ⟨b,0,none⟩=some v0∧V.cell? ⟨b,1,none⟩=some v1∧V.cell? ⟨b,2,none⟩=some v2∧V.cell? ⟨b,3,none⟩=some v3∧V.cell? ⟨b,4,none⟩=some v4∧b<V.heap.size:=⟨Zd (Za h) 0 _ rfl,Zd (Za h) 1 _ rfl,Zd (Za h) 2 _ rfl,Zd (Za h) 3 _ rfl,Zd (Za h) 4 _ rfl,lt_of_block (Za h)⟩
end
theorem Jd{K:List ByteArray}{C:List Zg}{L:List TxD}{pr h wk nc:Int}{lk:List (Int×Int)}{x y:Int}{bb:Z4}(hx:mkE K C L pr h wk nc lk=(x,bb))(e:swE K C L h=y)(h0:y≠0):x=y∧bb=Xv:=by
 unfold mkE at hx
 rw[if_pos (by rw[e];exact h0),e] at hx
 simp only[Prod.mk.injEq] at hx
 exact⟨hx.1.symm,hx.2.symm⟩
theorem Zha{K:List ByteArray}{C:List Zg}{L:List TxD}{h y z:Int}{m:Nat}(hy:Bk.bkChk K=y)(hz:Yi C=z)(hm:L.length=m):(y≠0→swE K C L h=y)∧(y=0→z≠0→swE K C L h=z)∧(y=0→z=0→¬(1≤h∧h≤1000)→swE K C L h=3)∧(y=0→z=0→1≤h→h≤1000→8<m→swE K C L h=2)∧(y=0→z=0→1≤h→h≤1000→¬8<m→swE K C L h=0):=by
 unfold swE Tf
 rw[hy,hz,hm]
 refine⟨fun q=>?_,fun q1 q2=>?_,fun q1 q2 q3=>?_,fun q1 q2 q3 q4 q5=>?_,fun q1 q2 q3 q4 q5=>?_⟩
 ·rw[if_pos q,if_pos q]
 ·simp[q1,q2]
 ·have e:(decide (1≤h) && decide (h≤1000))=false:=by
   rw[Bool.and_eq_false_iff,decide_eq_false_iff_not,decide_eq_false_iff_not]
   by_cases q:1≤h
   ·exact .inr (fun q4=>q3 ⟨q,q4⟩)
   ·exact .inl q
  simp[q1,q2,e]
 ·simp[q1,q2,q3,q4,q5]
 ·simp[q1,q2,q3,q4,q5]
theorem Md(ka:Option Addr)(kn kc:Nat)(K:List ByteArray)(la:Option Addr)(ln lc:Nat)(C:List Zg)(a:Option Addr)(m c:Nat)(L:List TxD)(pr ht wk nc:Int)(ta:Option Addr)(tn tc:Nat)(lk:List (Int×Int))(w:World)(hE:EnvF w)(hK:Bk.TextsAt w ka kn K)(sK:Bk.SlOk ka kn kc)(hC:CoinsAt w la ln C)(sC:SlOk la ln lc)(hL:TxsAt w a m L)(hO:OpsAt w ta tn lk)(sO:SlOk ta tn tc)(hn:tn≤8796093022208)(hti:(Lit.int .i64 ht).wf=true) :
  Calls Tryz.prog 6 #[.agg #[.slice ka kn kc],.slice la ln lc,.slice a m c,.int .i64 pr,.int .i64 ht,.int .i64 wk,.int .i64 nc,.slice ta tn tc] w fun e w'=>e = .returned (.bool true)∧Below w.heap.size w w':=by
 obtain⟨X,hX⟩:∃ X,X=Ui w [.cells #[.slice ka kn kc] 24]:=⟨_,rfl⟩
 have hX':X=(w.alloc (.cells #[.slice ka kn kc] 24)):=hX
 have hbX:Below w.heap.size w X:=by rw[hX];exact Wa _ _
 have Fk_X:Hid (X.heap[w.heap.size]? = some (.cells [.slice ka kn kc].toArray 24 (0,0))):=by show X.heap[w.heap.size]? = _;rw[hX];exact Yg _ w 0 _ rfl
 obtain⟨h,hh⟩:∃ h,IntKind.i64.wrap (ht+1)=h:=⟨_,rfl⟩
 have hhr:(0≤ht→ht≤999→h=ht+1)∧(¬(0≤ht∧ht≤999)→¬(1≤h∧h≤1000)):=by
  have hb : -9223372036854775808≤ht∧ht≤9223372036854775807:=by simpa[Lit.wf,IntKind.min,IntKind.max,IntKind.signed,IntKind.bits] using hti
  rw[IntKind.wrap_i64] at hh
  omega
 obtain⟨⟨x,⟨bp,bh,bw,bo,bL⟩⟩,hx⟩:∃ r,mkE K C L pr h wk nc lk=r:=⟨_,rfl⟩
 obtain⟨y,hy⟩:∃ y,Bk.bkChk K=y:=⟨_,rfl⟩
 obtain⟨z,hz⟩:∃ z,Yi C=z:=⟨_,rfl⟩
 have HD:Hid (∀ V,Below w.heap.size w V→EnvF V∧Bk.TextsAt V ka kn K∧CoinsAt V la ln C∧TxsAt V a m L∧OpsAt V ta tn lk):=fun V hv=>⟨hE.later hv,hK.later hv,hC.later hv,hL.later hv,hO.later hv⟩
 have HS:=Zb (⟨sK,sC,sO⟩:Bk.SlOk ka kn kc∧SlOk la ln lc∧SlOk ta tn tc)
 have HSW:=Zb (Zha (h:=h) hy hz hL.1)
 have HHR:=Zb hhr
 have C1:=Zb (Dk ka kn kc K la ln lc C a m c L pr ht wk nc ta tn tc lk h x (bp,bh,bw,bo,bL) X (hE.later hbX).envp.env (hK.later hbX) (hC.later hbX) sC (hL.later hbX) (hO.later hbX) sO hn hh hx)
 have CB:=Zb (fun V (hv:Below w.heap.size w V)=>Bk.rcheck_is ka kn kc K V (hK.later hv) y hy)
 have CC:=Zb (fun V (hv:Below w.heap.size w V)=>Rh la ln lc C z V (hC.later hv) hz)
 have HXE:=Zb hx
 have Bw_X:Hid (Below w.heap.size w X):=hbX
 clear hE hK sK hC sC hL hO sO hn hti hh hhr hx hy hz hbX hX
 obtain⟨mk0,mlk⟩:=cl1 Fk_X
 go_enter Tryz.func6,Tryz.ntmps6
 go_wp2_with fail
 rw[←hX']
 clear hX'
 (try go_wp2_with fail)
 refine (Za C1).mono ?_
 rintro e w1 ⟨ba,bn,bc,rfl,hF,t1,hb1⟩
 simp only[Bf]
 clear mk0 mlk
 clear C1
 obtain⟨Y,hY⟩:∃ Y,Y=Ui w1 [.cells #[.int .i64 bp,.int .i64 bh,.int .i64 bw,.int .i64 bo,.slice ba bn bc] 68]:=⟨_,rfl⟩
 have hY':Y=(w1.alloc (.cells #[.int .i64 bp,.int .i64 bh,.int .i64 bw,.int .i64 bo,.slice ba bn bc] 68)):=hY
 have hbY:Below w1.heap.size w1 Y:=by rw[hY];exact Wa _ _
 have Fb_Y:Hid (Y.heap[w1.heap.size]? = some (.cells [.int .i64 bp,.int .i64 bh,.int .i64 bw,.int .i64 bo,.slice ba bn bc].toArray 68 (0,0))):=by show Y.heap[w1.heap.size]? = _;rw[hY];exact Yg _ w1 0 _ rfl
 have hbXY:=Ze hb1 hbY
 have HDY:=Zb (hF Y (Gr.of hbY))
 have HSY:=Zb t1
 have Fk_Y:=mvd hbXY Fk_X
 have Bw_Y:=onb Bw_X hbXY
 clear Fk_X Bw_X
 have BY_Y:Hid (Below Y.heap.size Y Y):=Below.refl _ _
 have E1:=Zb ((Za CB) Y (Za Bw_Y))
 clear hY hbY hb1 hF t1 hbXY CB
 go_upto_region 2 with fail
 rw[←hY']
 clear hY'
 obtain⟨mk0,mlk⟩:=cl1 Fk_Y
 obtain⟨mb0,mb1,mb2,mb3,mb4,mlb⟩:=cl5 Fb_Y
 go_wp2_with fail
 refine (Za E1).mono ?_
 rintro e w2 ⟨rfl,hb2⟩
 clear mk0 mlk mb0 mb1 mb2 mb3 mb4 mlb
 have Fk_w2:=mvd hb2 Fk_Y
 have Fb_w2:=mvd hb2 Fb_Y
 have Bw_w2:=onb Bw_Y hb2
 have BY_w2:=onb BY_Y hb2
 clear Fk_Y Fb_Y Bw_Y BY_Y
 clear hb2 E1
 by_cases hy0:y=0
 ·subst hy0
  have E2:=Zb ((Za CC) w2 (Za Bw_w2))
  clear CC
  go_wp2_with fail
  refine (Za E2).mono ?_
  rintro e w3 ⟨rfl,hb3⟩
  have Fk_w3:=mvd hb3 Fk_w2
  have Fb_w3:=mvd hb3 Fb_w2
  have Bw_w3:=onb Bw_w2 hb3
  have BY_w3:=onb BY_w2 hb3
  clear Fk_w2 Fb_w2 Bw_w2 BY_w2
  clear hb3 E2
  by_cases hz0:z=0
  ·subst hz0
   by_cases h1:ht<0
   ·have hne:¬(0≤ht∧ht≤999):=by omega
    have hbad:=(Za HSW).2.2.1 (by first|rfl|trivial) (by first|rfl|trivial) ((Za HHR).2 hne)
    obtain⟨q1,q2⟩:=Jd (Za HXE) hbad (by decide)
    simp only[Xv,Prod.mk.injEq] at q2
    obtain⟨rfl,rfl,rfl,rfl,rfl⟩:=q2
    subst q1
    obtain rfl:bn=0:=(Za HDY).1.symm
    have D1:=fun V (hv:Below w.heap.size w V)=>Zb (Vc V ((Za HD) V hv).1.envp.env)
    clear hbad HXE HSW HHR
    obtain⟨mk0,mlk⟩:=cl1 Fk_w3
    obtain⟨mb0,mb1,mb2,mb3,mb4,mlb⟩:=cl5 Fb_w3
    go_wp2_with fail
    refine (Za (D1 _ (Za Bw_w3))).mono ?_
    rintro e w4 ⟨rfl,hb4⟩
    clear mk0 mlk mb0 mb1 mb2 mb3 mb4 mlb
    have Fk_w4:=mvd hb4 Fk_w3
    have Fb_w4:=mvd hb4 Fb_w3
    have Bw_w4:=onb Bw_w3 hb4
    have BY_w4:=onb BY_w3 hb4
    clear Fk_w3 Fb_w3 Bw_w3 BY_w3
    clear hb4
    obtain⟨mk0,mlk⟩:=cl1 Fk_w4
    obtain⟨mb0,mb1,mb2,mb3,mb4,mlb⟩:=cl5 Fb_w4
    go_wp2_with fail
    refine (Za (D1 _ (Za Bw_w4))).mono ?_
    rintro e w5 ⟨rfl,hb5⟩
    clear mk0 mlk mb0 mb1 mb2 mb3 mb4 mlb
    have Fk_w5:=mvd hb5 Fk_w4
    have Fb_w5:=mvd hb5 Fb_w4
    have Bw_w5:=onb Bw_w4 hb5
    have BY_w5:=onb BY_w4 hb5
    clear Fk_w4 Fb_w4 Bw_w4 BY_w4
    have E6:=Zb (Wg 0 0 0 0 ba 0 bc [] true w5 (Za HSY).len ((Za HDY).later (Za BY_w5)) (by simp))
    clear hb5 D1
    obtain⟨mk0,mlk⟩:=cl1 Fk_w5
    obtain⟨mb0,mb1,mb2,mb3,mb4,mlb⟩:=cl5 Fb_w5
    go_wp2_with fail
    refine (Za E6).mono ?_
    rintro e w6 ⟨rfl,hb6⟩
    clear mk0 mlk mb0 mb1 mb2 mb3 mb4 mlb
    have Fk_w6:=mvd hb6 Fk_w5
    have Fb_w6:=mvd hb6 Fb_w5
    have Bw_w6:=onb Bw_w5 hb6
    have BY_w6:=onb BY_w5 hb6
    clear Fk_w5 Fb_w5 Bw_w5 BY_w5
    clear hb6 E6
    go_wp2
    go_ret
    exact⟨rfl,Za Bw_w6⟩
   ·by_cases h2:999<ht
    ·have hne:¬(0≤ht∧ht≤999):=by omega
     have hbad:=(Za HSW).2.2.1 (by first|rfl|trivial) (by first|rfl|trivial) ((Za HHR).2 hne)
     obtain⟨q1,q2⟩:=Jd (Za HXE) hbad (by decide)
     simp only[Xv,Prod.mk.injEq] at q2
     obtain⟨rfl,rfl,rfl,rfl,rfl⟩:=q2
     subst q1
     obtain rfl:bn=0:=(Za HDY).1.symm
     have D1:=fun V (hv:Below w.heap.size w V)=>Zb (Vc V ((Za HD) V hv).1.envp.env)
     clear hbad HXE HSW HHR
     obtain⟨mk0,mlk⟩:=cl1 Fk_w3
     obtain⟨mb0,mb1,mb2,mb3,mb4,mlb⟩:=cl5 Fb_w3
     go_wp2_with fail
     refine (Za (D1 _ (Za Bw_w3))).mono ?_
     rintro e w4 ⟨rfl,hb4⟩
     clear mk0 mlk mb0 mb1 mb2 mb3 mb4 mlb
     have Fk_w4:=mvd hb4 Fk_w3
     have Fb_w4:=mvd hb4 Fb_w3
     have Bw_w4:=onb Bw_w3 hb4
     have BY_w4:=onb BY_w3 hb4
     clear Fk_w3 Fb_w3 Bw_w3 BY_w3
     clear hb4
     obtain⟨mk0,mlk⟩:=cl1 Fk_w4
     obtain⟨mb0,mb1,mb2,mb3,mb4,mlb⟩:=cl5 Fb_w4
     go_wp2_with fail
     refine (Za (D1 _ (Za Bw_w4))).mono ?_
     rintro e w5 ⟨rfl,hb5⟩
     clear mk0 mlk mb0 mb1 mb2 mb3 mb4 mlb
     have Fk_w5:=mvd hb5 Fk_w4
     have Fb_w5:=mvd hb5 Fb_w4
     have Bw_w5:=onb Bw_w4 hb5
     have BY_w5:=onb BY_w4 hb5
     clear Fk_w4 Fb_w4 Bw_w4 BY_w4
     have E6:=Zb (Wg 0 0 0 0 ba 0 bc [] true w5 (Za HSY).len ((Za HDY).later (Za BY_w5)) (by simp))
     clear hb5 D1
     obtain⟨mk0,mlk⟩:=cl1 Fk_w5
     obtain⟨mb0,mb1,mb2,mb3,mb4,mlb⟩:=cl5 Fb_w5
     go_wp2_with fail
     refine (Za E6).mono ?_
     rintro e w6 ⟨rfl,hb6⟩
     clear mk0 mlk mb0 mb1 mb2 mb3 mb4 mlb
     have Fk_w6:=mvd hb6 Fk_w5
     have Fb_w6:=mvd hb6 Fb_w5
     have Bw_w6:=onb Bw_w5 hb6
     have BY_w6:=onb BY_w5 hb6
     clear Fk_w5 Fb_w5 Bw_w5 BY_w5
     clear hb6 E6
     go_wp2
     go_ret
     exact⟨rfl,Za Bw_w6⟩
    ·have hhe:=(Za HHR).1 (by omega) (by omega)
     by_cases m8:8<m
     ·have hmi:(8:Int)<(m:Int):=by omega
      have hbad:=(Za HSW).2.2.2.1 (by first|rfl|trivial) (by first|rfl|trivial) (by omega) (by omega) m8
      obtain⟨q1,q2⟩:=Jd (Za HXE) hbad (by decide)
      simp only[Xv,Prod.mk.injEq] at q2
      obtain⟨rfl,rfl,rfl,rfl,rfl⟩:=q2
      subst q1
      obtain rfl:bn=0:=(Za HDY).1.symm
      have D1:=fun V (hv:Below w.heap.size w V)=>Zb (Vc V ((Za HD) V hv).1.envp.env)
      clear hbad HXE HSW HHR
      obtain⟨mk0,mlk⟩:=cl1 Fk_w3
      obtain⟨mb0,mb1,mb2,mb3,mb4,mlb⟩:=cl5 Fb_w3
      go_wp2_with fail
      refine (Za (D1 _ (Za Bw_w3))).mono ?_
      rintro e w4 ⟨rfl,hb4⟩
      clear mk0 mlk mb0 mb1 mb2 mb3 mb4 mlb
      have Fk_w4:=mvd hb4 Fk_w3
      have Fb_w4:=mvd hb4 Fb_w3
      have Bw_w4:=onb Bw_w3 hb4
      have BY_w4:=onb BY_w3 hb4
      clear Fk_w3 Fb_w3 Bw_w3 BY_w3
      clear hb4
      obtain⟨mk0,mlk⟩:=cl1 Fk_w4
      obtain⟨mb0,mb1,mb2,mb3,mb4,mlb⟩:=cl5 Fb_w4
      go_wp2_with fail
      refine (Za (D1 _ (Za Bw_w4))).mono ?_
      rintro e w5 ⟨rfl,hb5⟩
      clear mk0 mlk mb0 mb1 mb2 mb3 mb4 mlb
      have Fk_w5:=mvd hb5 Fk_w4
      have Fb_w5:=mvd hb5 Fb_w4
      have Bw_w5:=onb Bw_w4 hb5
      have BY_w5:=onb BY_w4 hb5
      clear Fk_w4 Fb_w4 Bw_w4 BY_w4
      have E6:=Zb (Wg 0 0 0 0 ba 0 bc [] true w5 (Za HSY).len ((Za HDY).later (Za BY_w5)) (by simp))
      clear hb5 D1
      obtain⟨mk0,mlk⟩:=cl1 Fk_w5
      obtain⟨mb0,mb1,mb2,mb3,mb4,mlb⟩:=cl5 Fb_w5
      go_wp2_with fail
      refine (Za E6).mono ?_
      rintro e w6 ⟨rfl,hb6⟩
      clear mk0 mlk mb0 mb1 mb2 mb3 mb4 mlb
      have Fk_w6:=mvd hb6 Fk_w5
      have Fb_w6:=mvd hb6 Fb_w5
      have Bw_w6:=onb Bw_w5 hb6
      have BY_w6:=onb BY_w5 hb6
      clear Fk_w5 Fb_w5 Bw_w5 BY_w5
      clear hb6 E6
      go_wp2
      go_ret
      exact⟨rfl,Za Bw_w6⟩
     ·have hmi:¬((8:Int)<(m:Int)):=by omega
      have h0:=(Za HSW).2.2.2.2 (by first|rfl|trivial) (by first|rfl|trivial) (by omega) (by omega) m8
      have D1:=Zb (Vc w3 ((Za HD) w3 (Za Bw_w3)).1.envp.env)
      have CM:=Zb (fun V (hv:Below w.heap.size w V)=>(fun d:EnvF V∧Bk.TextsAt V ka kn K∧CoinsAt V la ln C∧TxsAt V a m L∧OpsAt V ta tn lk=>Zcd ka kn kc K la ln lc C a m c L pr ht wk nc ta tn tc lk h x (bp,bh,bw,bo,bL) V d.1 d.2.1 (Za HS).1 d.2.2.1 (Za HS).2.1 d.2.2.2.1 d.2.2.2.2 (Za HS).2.2 hhe.symm h0 (Za HXE)) ((Za HD) V hv))
      clear h0 hhe HSW HHR HXE
      obtain⟨mk0,mlk⟩:=cl1 Fk_w3
      obtain⟨mb0,mb1,mb2,mb3,mb4,mlb⟩:=cl5 Fb_w3
      go_wp2_with fail
      refine (Za D1).mono ?_
      rintro e w4 ⟨rfl,hb4⟩
      clear mk0 mlk mb0 mb1 mb2 mb3 mb4 mlb
      have Fk_w4:=mvd hb4 Fk_w3
      have Fb_w4:=mvd hb4 Fb_w3
      have Bw_w4:=onb Bw_w3 hb4
      have BY_w4:=onb BY_w3 hb4
      clear Fk_w3 Fb_w3 Bw_w3 BY_w3
      have E5:=Zb ((Za CM) w4 (Za Bw_w4))
      clear hb4 D1 CM
      obtain⟨mk0,mlk⟩:=cl1 Fk_w4
      obtain⟨mb0,mb1,mb2,mb3,mb4,mlb⟩:=cl5 Fb_w4
      go_wp2_with fail
      refine (Za E5).mono ?_
      rintro e w5 ⟨ca,cn,cc,rfl,hT5,sT5,hb5⟩
      clear mk0 mlk mb0 mb1 mb2 mb3 mb4 mlb
      clear E5
      obtain⟨Z,hZ⟩:∃ Z,Z=Ui w5 [.cells #[.int .i64 bp,.int .i64 bh,.int .i64 bw,.int .i64 bo,.slice ca cn cc] 68]:=⟨_,rfl⟩
      have hZ':Z=(w5.alloc (.cells #[.int .i64 bp,.int .i64 bh,.int .i64 bw,.int .i64 bo,.slice ca cn cc] 68)):=hZ
      have hbZ:Below w5.heap.size w5 Z:=by rw[hZ];exact Wa _ _
      have Fc_Z:Hid (Z.heap[w5.heap.size]? = some (.cells [.int .i64 bp,.int .i64 bh,.int .i64 bw,.int .i64 bo,.slice ca cn cc].toArray 68 (0,0))):=by show Z.heap[w5.heap.size]? = _;rw[hZ];exact Yg _ w5 0 _ rfl
      have hb4Z:=Ze hb5 hbZ
      have Fk_Z:=mvd hb4Z Fk_w4
      have Fb_Z:=mvd hb4Z Fb_w4
      have Bw_Z:=onb Bw_w4 hb4Z
      have BY_Z:=onb BY_w4 hb4Z
      clear Fk_w4 Fb_w4 Bw_w4 BY_w4
      have E6:=Zb (Ss bp bh bw bo bp bh bw bo ba ca bn bc cn cc bL bL true Z (Za HSY).len ((Za HDY).later (Za BY_Z)) (hT5.later hbZ) (by simp))
      clear hZ hbZ hb5 hb4Z hT5 sT5
      go_upto_region 12 with fail
      rw[←hZ']
      clear hZ'
      obtain⟨mk0,mlk⟩:=cl1 Fk_Z
      obtain⟨mb0,mb1,mb2,mb3,mb4,mlb⟩:=cl5 Fb_Z
      obtain⟨mc0,mc1,mc2,mc3,mc4,mlc⟩:=cl5 Fc_Z
      go_wp2_with fail
      refine (Za E6).mono ?_
      rintro e w6 ⟨rfl,hb6⟩
      clear mk0 mlk mb0 mb1 mb2 mb3 mb4 mlb mc0 mc1 mc2 mc3 mc4 mlc
      have Fk_w6:=mvd hb6 Fk_Z
      have Fb_w6:=mvd hb6 Fb_Z
      have Fc_w6:=mvd hb6 Fc_Z
      have Bw_w6:=onb Bw_Z hb6
      have BY_w6:=onb BY_Z hb6
      clear Fk_Z Fb_Z Fc_Z Bw_Z BY_Z
      clear hb6 E6
      go_wp2
      go_ret
      exact⟨rfl,Za Bw_w6⟩
  ·have zb:(z == 0)=false:=by simp[hz0]
   have zc:(z != 0)=true:=by simp[hz0]
   have hbad:=(Za HSW).2.1 (by first|rfl|trivial) hz0
   obtain⟨q1,q2⟩:=Jd (Za HXE) hbad hz0
   simp only[Xv,Prod.mk.injEq] at q2
   obtain⟨rfl,rfl,rfl,rfl,rfl⟩:=q2
   subst q1
   obtain rfl:bn=0:=(Za HDY).1.symm
   have D1:=fun V (hv:Below w.heap.size w V)=>Zb (Vc V ((Za HD) V hv).1.envp.env)
   clear hbad HXE HSW HHR
   obtain⟨mk0,mlk⟩:=cl1 Fk_w3
   obtain⟨mb0,mb1,mb2,mb3,mb4,mlb⟩:=cl5 Fb_w3
   go_wp2_with fail
   refine (Za (D1 _ (Za Bw_w3))).mono ?_
   rintro e w4 ⟨rfl,hb4⟩
   clear mk0 mlk mb0 mb1 mb2 mb3 mb4 mlb
   have Fk_w4:=mvd hb4 Fk_w3
   have Fb_w4:=mvd hb4 Fb_w3
   have Bw_w4:=onb Bw_w3 hb4
   have BY_w4:=onb BY_w3 hb4
   clear Fk_w3 Fb_w3 Bw_w3 BY_w3
   clear hb4
   obtain⟨mk0,mlk⟩:=cl1 Fk_w4
   obtain⟨mb0,mb1,mb2,mb3,mb4,mlb⟩:=cl5 Fb_w4
   go_wp2_with fail
   refine (Za (D1 _ (Za Bw_w4))).mono ?_
   rintro e w5 ⟨rfl,hb5⟩
   clear mk0 mlk mb0 mb1 mb2 mb3 mb4 mlb
   have Fk_w5:=mvd hb5 Fk_w4
   have Fb_w5:=mvd hb5 Fb_w4
   have Bw_w5:=onb Bw_w4 hb5
   have BY_w5:=onb BY_w4 hb5
   clear Fk_w4 Fb_w4 Bw_w4 BY_w4
   have E6:=Zb (Wg 0 0 0 0 ba 0 bc [] true w5 (Za HSY).len ((Za HDY).later (Za BY_w5)) (by simp))
   clear hb5 D1
   obtain⟨mk0,mlk⟩:=cl1 Fk_w5
   obtain⟨mb0,mb1,mb2,mb3,mb4,mlb⟩:=cl5 Fb_w5
   go_wp2_with fail
   refine (Za E6).mono ?_
   rintro e w6 ⟨rfl,hb6⟩
   clear mk0 mlk mb0 mb1 mb2 mb3 mb4 mlb
   have Fk_w6:=mvd hb6 Fk_w5
   have Fb_w6:=mvd hb6 Fb_w5
   have Bw_w6:=onb Bw_w5 hb6
   have BY_w6:=onb BY_w5 hb6
   clear Fk_w5 Fb_w5 Bw_w5 BY_w5
   clear hb6 E6
   go_wp2
   go_ret
   exact⟨rfl,Za Bw_w6⟩
 ·have yb:(y == 0)=false:=by simp[hy0]
  have yc:(y != 0)=true:=by simp[hy0]
  clear CC
  have hbad:=(Za HSW).1 hy0
  obtain⟨q1,q2⟩:=Jd (Za HXE) hbad hy0
  simp only[Xv,Prod.mk.injEq] at q2
  obtain⟨rfl,rfl,rfl,rfl,rfl⟩:=q2
  subst q1
  obtain rfl:bn=0:=(Za HDY).1.symm
  have D1:=fun V (hv:Below w.heap.size w V)=>Zb (Vc V ((Za HD) V hv).1.envp.env)
  clear hbad HXE HSW HHR
  obtain⟨mk0,mlk⟩:=cl1 Fk_w2
  obtain⟨mb0,mb1,mb2,mb3,mb4,mlb⟩:=cl5 Fb_w2
  go_wp2_with fail
  refine (Za (D1 _ (Za Bw_w2))).mono ?_
  rintro e w4 ⟨rfl,hb4⟩
  clear mk0 mlk mb0 mb1 mb2 mb3 mb4 mlb
  have Fk_w4:=mvd hb4 Fk_w2
  have Fb_w4:=mvd hb4 Fb_w2
  have Bw_w4:=onb Bw_w2 hb4
  have BY_w4:=onb BY_w2 hb4
  clear Fk_w2 Fb_w2 Bw_w2 BY_w2
  clear hb4
  obtain⟨mk0,mlk⟩:=cl1 Fk_w4
  obtain⟨mb0,mb1,mb2,mb3,mb4,mlb⟩:=cl5 Fb_w4
  go_wp2_with fail
  refine (Za (D1 _ (Za Bw_w4))).mono ?_
  rintro e w5 ⟨rfl,hb5⟩
  clear mk0 mlk mb0 mb1 mb2 mb3 mb4 mlb
  have Fk_w5:=mvd hb5 Fk_w4
  have Fb_w5:=mvd hb5 Fb_w4
  have Bw_w5:=onb Bw_w4 hb5
  have BY_w5:=onb BY_w4 hb5
  clear Fk_w4 Fb_w4 Bw_w4 BY_w4
  have E6:=Zb (Wg 0 0 0 0 ba 0 bc [] true w5 (Za HSY).len ((Za HDY).later (Za BY_w5)) (by simp))
  clear hb5 D1
  obtain⟨mk0,mlk⟩:=cl1 Fk_w5
  obtain⟨mb0,mb1,mb2,mb3,mb4,mlb⟩:=cl5 Fb_w5
  go_wp2_with fail
  refine (Za E6).mono ?_
  rintro e w6 ⟨rfl,hb6⟩
  clear mk0 mlk mb0 mb1 mb2 mb3 mb4 mlb
  have Fk_w6:=mvd hb6 Fk_w5
  have Fb_w6:=mvd hb6 Fb_w5
  have Bw_w6:=onb Bw_w5 hb6
  have BY_w6:=onb BY_w5 hb6
  clear Fk_w5 Fb_w5 Bw_w5 BY_w5
  clear hb6 E6
  go_wp2
  go_ret
  exact⟨rfl,Za Bw_w6⟩
end Go.Proofs.YtpikejjiignchaaGreatDoor
