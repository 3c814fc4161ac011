import Derived.Test.YtmomfkikogbdeaaGreatDoorG29
set_option maxHeartbeats 6400000
set_option maxRecDepth 10000
namespace Go.Proofs.YtmomfkikogbdeaaGreatDoor
open Go.RowKit
theorem Mc{fn:Func}{p:Tmp}{ty:TypeId}(h:fn.results=#[.cell p ty])(tmps:Array Value)(P:Program)(w:World) :
  (results fn tmps).run P w=((asAddr (tmps.getD p undef)).run P w).andThen fun a w₁=>(loadVar ty a).run P w₁:=Ye h tmps P w
theorem Gr.four{w w1:World}{S:Nat→Prop}(h:Gr w w1 S)(b:Nat)(hb:S b∨w.heap.size≤b)(a0 a1 a2 a3:Value):Gr w ((((w1.setCell ⟨b,0,none⟩ a0).setCell ⟨b,1,none⟩ a1).setCell ⟨b,2,none⟩ a2).setCell ⟨b,3,none⟩ a3) S:=
 (((h.one b 0 hb a0).one b 1 hb a1).one b 2 hb a2).one b 3 hb a3
def ClnR(w w':World)(N:List Int)(T:List Zk)(P:List TxD)(nn pn:Nat)(tip:Int)(e:Ending):Prop:=
 ∃ na nc ba bc pa pc,e = .returned (.agg #[.slice na nn nc,.slice ba nn bc,.slice pa pn pc,.int .i64 tip])∧Fresh w.heap.size w' (fun w2=>Tr.IntsAt w2 na nn N∧Tr.BlksAt w2 ba nn T∧TxsAt w2 pa pn P)∧SlOk na nn nc∧SlOk ba nn bc∧SlOk pa pn pc∧Below w.heap.size w w'
theorem Zba(na ba pa:Option Addr)(nn nc bc pn pc:Nat)(N:List Int)(T:List Zk)(P:List TxD)(tip:Int)(w:World)(hN:Tr.IntsAt w na nn N)(hT:Tr.BlksAt w ba nn T)(hP:TxsAt w pa pn P)(sN:SlOk na nn nc)(sT:SlOk ba nn bc)(sP:SlOk pa pn pc)(hn:nn≤4096)(hs:∀ t∈T,Tr.BlkSmall t)(hp:pn≤2513169434916)(hq:∀ t∈P,Tr.TxSmall t) :
  Calls Tryz.prog 171 #[.agg #[.slice na nn nc,.slice ba nn bc,.slice pa pn pc,.int .i64 tip]] w fun e w'=>ClnR w w' N T P nn pn tip e:=by
 obtain⟨X,hX⟩:∃ X,X=Z9 w [.cells #[.slice na nn nc,.slice ba nn bc,.slice pa pn pc,.int .i64 tip] 67,.cells #[.slice none 0 0,.slice none 0 0,.slice none 0 0,.int .i64 0] 67]:=⟨_,rfl⟩
 have hX':X=(w.alloc (.cells #[.slice na nn nc,.slice ba nn bc,.slice pa pn pc,.int .i64 tip] 67)).alloc (.cells #[.slice none 0 0,.slice none 0 0,.slice none 0 0,.int .i64 0] 67):=hX
 have hbX:Below w.heap.size w X:=by rw[hX];exact Zp _ _
 have hXs:X.heap.size=w.heap.size+2:=by rw[hX];exact Yq _ _
 have x0:X.heap[w.heap.size]? = some (.cells [.slice na nn nc,.slice ba nn bc,.slice pa pn pc,.int .i64 tip].toArray 67 (0,0)):=by rw[hX];exact Zm _ w 0 _ rfl
 have x1:X.heap[w.heap.size+1]? = some (.cells [.slice none 0 0,.slice none 0 0,.slice none 0 0,.int .i64 0].toArray 67 (0,0)):=by rw[hX];exact Zm _ w 1 _ rfl
 have C1:=Zb (Tr.clTree_is na ba nn nc bc N T X.drew (hN.later (Zf hbX (Zj X))) (hT.later (Zf hbX (Zj X))) sN sT hn hs)
 have C2:=Zb (fun V (hv:Below w.heap.size w V)=>Tr.clTxs_is pa pn pc P V (hP.later hv) sP hp hq)
 have HBX:=Zb hbX
 have HXs:=Zb hXs
 have HX0:=Zb x0
 have HX1:=Zb x1
 have t0:=Zd x0 0 _ rfl
 have t1:=Zd x0 1 _ rfl
 have t2:=Zd x0 2 _ rfl
 have tl:=lt_of_block x0
 have KS:Hid (∀ U:World,X.heap.size≤U.heap.size→w.heap.size<U.heap.size):=fun U hu=>Nat.lt_of_lt_of_le tl hu
 have KC:Hid (∀ U:World,Below X.heap.size X U→(U.cell? ⟨w.heap.size,0,none⟩=some (.slice na nn nc)∧U.cell? ⟨w.heap.size,1,none⟩=some (.slice ba nn bc)∧U.cell? ⟨w.heap.size,2,none⟩=some (.slice pa pn pc)∧w.heap.size<U.heap.size)):=fun U hu=>⟨Ze hu t0,Ze hu t1,Ze hu t2,Nat.lt_of_lt_of_le tl hu.size⟩
 clear hN hT hP sN sT sP hn hs hp hq hbX hXs x0 x1 hX
 go_enter Tryz.func171,Tryz.ntmps171
 go_upto_region 1 with fail
 rw[←hX']
 clear hX'
 go_cut [] from 3 to 10 (fun wx=>Hid (∃ v1 v2 v3,wx.heap[w.heap.size]? = some (.cells [v1,v2,v3,.int .i64 tip].toArray 67 (0,0))∧∃ a1 c1 a2 c2 a3 c3,v1 = .slice a1 nn c1∧v2 = .slice a2 nn c2∧v3 = .slice a3 pn c3∧Fresh X.heap.size wx (fun w2=>Tr.IntsAt w2 a1 nn N∧Tr.BlksAt w2 a2 nn T∧TxsAt w2 a3 pn P)∧SlOk a1 nn c1∧SlOk a2 nn c2∧SlOk a3 pn c3∧Gr X wx (fun q=>q=w.heap.size)))
 case first=>
  refine wp_region_held_drew (S:=fun U=>w.heap.size<U.heap.size) (by kernel_rfl) ((Za KS) _ (Nat.le_refl _)) (fun Zjc=>?_)
  refine tk 0 ⟨some 3,.fieldAddr 67 (.tmp 1) 0,0, "clone.go:64",#[],none⟩ ?_ rfl ?_ Zjc ?_
  rotate_left
  ·(intro U hSw;(try dsimp only at hSw);go_simp;first|done|with_reducible rfl)
  (try simp only[Act.put,ZA,ZB,ZC])
  refine tk 3 ⟨some 6,.fieldAddr 67 (.tmp 1) 1,0, "clone.go:64",#[],none⟩ ?_ rfl ?_ Zjc ?_
  rotate_left
  ·(intro U hSw;(try dsimp only at hSw);go_simp;first|done|with_reducible rfl)
  (try simp only[Act.put,ZA,ZB,ZC])
  have hb:=Zj X
  refine wpAnyH_ready (rs:=[1,4]) (by kernel_rfl) (by simp) ?_
  refine AllReadyH.cons (o:=⟨some 4,.load 28 (.tmp 3),28, "clone.go:64",#[⟨0,.data⟩],none⟩) rfl (fun KQ hK=>?_) (AllReadyH.cons (o:=⟨some 7,.load 37 (.tmp 6),37, "clone.go:64",#[⟨3,.data⟩],none⟩) rfl (fun KQ hK=>?_) AllReadyH.nil)
  ·obtain⟨l0,l1,l2,ll⟩:=(Za KC) X.drew hb
   go_simp
   clear l0 l1 l2 ll
   refine hK.out _ _ ((Za KS) _ hb.size) (fun Zjd=>?_)
   clear hK KQ Zjc
   have Zjc:=Zjd
   clear Zjd
   (try simp only[Act.put,ZA,ZB,ZC])
   refine wpAnyH_ready (rs:=[2,4]) (by kernel_rfl) (by simp) ?_
   refine AllReadyH.cons (o:=⟨some 5,.call { callee:=Callee.value (.func 135),args:=#[.tmp 4],argTypes:=#[28] },28, "clone.go:64",#[⟨1,.data⟩],none⟩) rfl (fun KQ hK=>?_) (AllReadyH.cons (o:=⟨some 7,.load 37 (.tmp 6),37, "clone.go:64",#[⟨3,.data⟩],none⟩) rfl (fun KQ hK=>?_) AllReadyH.nil)
   ·refine Zl (by kernel_rfl) 135 #[.agg #[.slice na nn nc,.slice ba nn bc]] (by kernel_rfl) (Za C1) ?_
    rintro e w5 ⟨v1,v2,rfl,hO5,hb5⟩
    obtain⟨a1,c1,a2,c2,rfl,rfl,-,s1,-,s2⟩:=hO5.read
    refine⟨_,rfl,?_⟩
    have hb:=Zf (Zj X) hb5
    refine hK.out _ _ ((Za KS) _ hb.size) (fun Zjd=>?_)
    clear hK KQ Zjc
    have Zjc:=Zjd
    clear Zjd
    (try simp only[Act.put,ZA,ZB,ZC])
    refine wpAnyH_ready (rs:=[4]) (by kernel_rfl) (by simp) ?_
    refine AllReadyH.cons (o:=⟨some 7,.load 37 (.tmp 6),37, "clone.go:64",#[⟨3,.data⟩],none⟩) rfl (fun KQ hK=>?_) AllReadyH.nil
    obtain⟨l0,l1,l2,ll⟩:=(Za KC) w5 hb
    go_simp
    clear l0 l1 l2 ll
    refine hK.out _ _ ((Za KS) _ hb.size) (fun Zjd=>?_)
    clear hK KQ Zjc
    have Zjc:=Zjd
    clear Zjd
    (try simp only[Act.put,ZA,ZB,ZC])
    refine tk 6 ⟨some 9,.fieldAddr 67 (.tmp 1) 0,0, "clone.go:64",#[⟨0,.phase⟩,⟨1,.phase⟩,⟨2,.phase⟩,⟨3,.phase⟩,⟨4,.phase⟩,⟨5,.textOnly .lateStoresUnsure⟩],none⟩ ?_ rfl ?_ Zjc ?_
    rotate_left
    ·(intro U hSw;(try dsimp only at hSw);go_simp;first|done|with_reducible rfl)
    (try simp only[Act.put,ZA,ZB,ZC])
    refine wpAnyH_ready (rs:=[5]) (by kernel_rfl) (by simp) ?_
    refine AllReadyH.cons (o:=⟨some 8,.call { callee:=Callee.value (.func 142),args:=#[.tmp 7],argTypes:=#[37] },37, "clone.go:64",#[⟨4,.data⟩,⟨2,.chain⟩],none⟩) rfl (fun KQ hK=>?_) AllReadyH.nil
    refine Zl (by kernel_rfl) 142 #[.slice pa pn pc] (by kernel_rfl) ((Za C2) w5 (Zf (Za HBX) hb)) ?_
    rintro e w6 ⟨a3,c3,rfl,hF6,hb6⟩
    refine⟨_,rfl,?_⟩
    have hb6x:=Zf hb hb6
    refine hK.out _ _ ((Za KS) _ hb6x.size) (fun Zjd=>?_)
    clear hK KQ Zjc
    have Zjc:=Zjd
    clear Zjd
    (try simp only[Act.put,ZA,ZB,ZC])
    have hz:=(hb6x.block _ (lt_of_block (Za HX0))).trans (Za HX0)
    have y0:=Zd hz 0 _ rfl
    have y1:=Zd hz 1 _ rfl
    have y2:=Zd hz 2 _ rfl
    have g0:=Zg hz 0
    have g1:=Zg hz 1
    have g2:=Zg hz 2
    have yl:=lt_of_block hz
    have hsc:(w6.setCell ⟨w.heap.size,0,none⟩ (.slice a1 nn c1)).heap.size=w6.heap.size:=by simp[World.setCell]
    refine wpAnyH_ready (rs:=[7]) (by kernel_rfl) (by simp) ?_
    refine AllReadyH.cons (o:=⟨none,.store 28 (.tmp 9) (.tmp 5),0, "clone.go:64",#[⟨6,.data⟩,⟨2,.data⟩,⟨5,.chain⟩,⟨0,.phase⟩,⟨1,.phase⟩,⟨2,.phase⟩,⟨3,.phase⟩,⟨4,.phase⟩,⟨5,.textOnly .lateStoresUnsure⟩],none⟩) rfl (fun KQ hK=>?_) AllReadyH.nil
    go_simp
    refine hK.out _ _ ((Za KS) _ (by simpa[World.setCell] using hb6x.size)) (fun Zjd=>?_)
    clear hK KQ Zjc
    have Zjc:=Zjd
    clear Zjd
    (try simp only[Act.put])
    refine tk 8 ⟨some 10,.fieldAddr 67 (.tmp 1) 1,0, "clone.go:64",#[⟨0,.phase⟩,⟨1,.phase⟩,⟨2,.phase⟩,⟨3,.phase⟩,⟨4,.phase⟩,⟨5,.phase⟩,⟨6,.phase⟩,⟨7,.phase⟩],none⟩ ?_ rfl ?_ Zjc ?_
    rotate_left
    ·(intro U hSw;(try dsimp only at hSw);go_simp;first|done|with_reducible rfl)
    (try simp only[Act.put,ZA,ZB,ZC])
    refine wpAnyH_ready (rs:=[9]) (by kernel_rfl) (by simp) ?_
    refine AllReadyH.cons (o:=⟨none,.store 37 (.tmp 10) (.tmp 8),0, "clone.go:64",#[⟨8,.data⟩,⟨5,.data⟩,⟨7,.chain⟩,⟨0,.phase⟩,⟨1,.phase⟩,⟨2,.phase⟩,⟨3,.phase⟩,⟨4,.phase⟩,⟨5,.phase⟩,⟨6,.phase⟩,⟨7,.phase⟩],none⟩) rfl (fun KQ hK=>?_) AllReadyH.nil
    go_simp
    refine hK.out _ _ ((Za KS) _ (by simpa[World.setCell] using hb6x.size)) (fun Zjd=>?_)
    clear hK KQ Zjc
    have Zjc:=Zjd
    clear Zjd
    (try simp only[Act.put])
    refine wpAnyH_done (by kernel_rfl) ?_ _
    clear Zjc
    go_wp2_with fail
    go_meet
    case rel=>
     have gg:Gr w6 (((w6.setCell ⟨w.heap.size,0,none⟩ (.slice a1 nn c1)).setCell ⟨w.heap.size,1,none⟩ (.slice a2 nn c2)).setCell ⟨w.heap.size,2,none⟩ (.slice a3 pn c3)) (fun q=>q=w.heap.size):=(((Gr.refl w6 (fun q=>q=w.heap.size)).one w.heap.size 0 (.inl rfl) _).one w.heap.size 1 (.inl rfl) _).one w.heap.size 2 (.inl rfl) _
     have hxs:=Za HXs
     have h5s:=hb.size
     have hxd:X.drew.heap.size=X.heap.size:=rfl
     refine⟨_,_,_,Tr.set_cells (Tr.set_cells (Tr.set_cells hz 0 _) 1 _) 2 _,a1,c1,a2,c2,a3,c3,rfl,rfl,rfl,fun W2 g2=>?_,s1,s2,(hF6 w6 (Gr.refl _ _)).2,(Gr.of hb6x).trans gg⟩
     have k1:=(hO5.gr ((Gr.of hb6).trans ((gg.mono (fun q _ e=>by have e:q=w.heap.size:=e;omega)).trans (g2.mono (fun q _ e=>by omega))))).read
     obtain⟨b1,d1,b2,d2,q1,q2,i1,-,i2,-⟩:=k1
     injection q1 with q1 _ _
     injection q2 with q2 _ _
     subst q1 q2
     exact⟨i1,i2,(hF6 W2 ((gg.mono (fun q _ e=>by have e:q=w.heap.size:=e;omega)).trans (g2.mono (fun q _ e=>by omega)))).1⟩
   ·obtain⟨l0,l1,l2,ll⟩:=(Za KC) X.drew hb
    go_simp
    clear l0 l1 l2 ll
    refine hK.out _ _ ((Za KS) _ hb.size) (fun Zjd=>?_)
    clear hK KQ Zjc
    have Zjc:=Zjd
    clear Zjd
    (try simp only[Act.put,ZA,ZB,ZC])
    refine wpAnyH_ready (rs:=[2]) (by kernel_rfl) (by simp) ?_
    refine AllReadyH.cons (o:=⟨some 5,.call { callee:=Callee.value (.func 135),args:=#[.tmp 4],argTypes:=#[28] },28, "clone.go:64",#[⟨1,.data⟩],none⟩) rfl (fun KQ hK=>?_) AllReadyH.nil
    refine Zl (by kernel_rfl) 135 #[.agg #[.slice na nn nc,.slice ba nn bc]] (by kernel_rfl) (Za C1) ?_
    rintro e w5 ⟨v1,v2,rfl,hO5,hb5⟩
    obtain⟨a1,c1,a2,c2,rfl,rfl,-,s1,-,s2⟩:=hO5.read
    refine⟨_,rfl,?_⟩
    have hb:=Zf (Zj X) hb5
    refine hK.out _ _ ((Za KS) _ hb.size) (fun Zjd=>?_)
    clear hK KQ Zjc
    have Zjc:=Zjd
    clear Zjd
    (try simp only[Act.put,ZA,ZB,ZC])
    refine tk 6 ⟨some 9,.fieldAddr 67 (.tmp 1) 0,0, "clone.go:64",#[⟨0,.phase⟩,⟨1,.phase⟩,⟨2,.phase⟩,⟨3,.phase⟩,⟨4,.phase⟩,⟨5,.textOnly .lateStoresUnsure⟩],none⟩ ?_ rfl ?_ Zjc ?_
    rotate_left
    ·(intro U hSw;(try dsimp only at hSw);go_simp;first|done|with_reducible rfl)
    (try simp only[Act.put,ZA,ZB,ZC])
    refine wpAnyH_ready (rs:=[5]) (by kernel_rfl) (by simp) ?_
    refine AllReadyH.cons (o:=⟨some 8,.call { callee:=Callee.value (.func 142),args:=#[.tmp 7],argTypes:=#[37] },37, "clone.go:64",#[⟨4,.data⟩,⟨2,.chain⟩],none⟩) rfl (fun KQ hK=>?_) AllReadyH.nil
    refine Zl (by kernel_rfl) 142 #[.slice pa pn pc] (by kernel_rfl) ((Za C2) w5 (Zf (Za HBX) hb)) ?_
    rintro e w6 ⟨a3,c3,rfl,hF6,hb6⟩
    refine⟨_,rfl,?_⟩
    have hb6x:=Zf hb hb6
    refine hK.out _ _ ((Za KS) _ hb6x.size) (fun Zjd=>?_)
    clear hK KQ Zjc
    have Zjc:=Zjd
    clear Zjd
    (try simp only[Act.put,ZA,ZB,ZC])
    have hz:=(hb6x.block _ (lt_of_block (Za HX0))).trans (Za HX0)
    have y0:=Zd hz 0 _ rfl
    have y1:=Zd hz 1 _ rfl
    have y2:=Zd hz 2 _ rfl
    have g0:=Zg hz 0
    have g1:=Zg hz 1
    have g2:=Zg hz 2
    have yl:=lt_of_block hz
    have hsc:(w6.setCell ⟨w.heap.size,0,none⟩ (.slice a1 nn c1)).heap.size=w6.heap.size:=by simp[World.setCell]
    refine wpAnyH_ready (rs:=[7]) (by kernel_rfl) (by simp) ?_
    refine AllReadyH.cons (o:=⟨none,.store 28 (.tmp 9) (.tmp 5),0, "clone.go:64",#[⟨6,.data⟩,⟨2,.data⟩,⟨5,.chain⟩,⟨0,.phase⟩,⟨1,.phase⟩,⟨2,.phase⟩,⟨3,.phase⟩,⟨4,.phase⟩,⟨5,.textOnly .lateStoresUnsure⟩],none⟩) rfl (fun KQ hK=>?_) AllReadyH.nil
    go_simp
    refine hK.out _ _ ((Za KS) _ (by simpa[World.setCell] using hb6x.size)) (fun Zjd=>?_)
    clear hK KQ Zjc
    have Zjc:=Zjd
    clear Zjd
    (try simp only[Act.put])
    refine tk 8 ⟨some 10,.fieldAddr 67 (.tmp 1) 1,0, "clone.go:64",#[⟨0,.phase⟩,⟨1,.phase⟩,⟨2,.phase⟩,⟨3,.phase⟩,⟨4,.phase⟩,⟨5,.phase⟩,⟨6,.phase⟩,⟨7,.phase⟩],none⟩ ?_ rfl ?_ Zjc ?_
    rotate_left
    ·(intro U hSw;(try dsimp only at hSw);go_simp;first|done|with_reducible rfl)
    (try simp only[Act.put,ZA,ZB,ZC])
    refine wpAnyH_ready (rs:=[9]) (by kernel_rfl) (by simp) ?_
    refine AllReadyH.cons (o:=⟨none,.store 37 (.tmp 10) (.tmp 8),0, "clone.go:64",#[⟨8,.data⟩,⟨5,.data⟩,⟨7,.chain⟩,⟨0,.phase⟩,⟨1,.phase⟩,⟨2,.phase⟩,⟨3,.phase⟩,⟨4,.phase⟩,⟨5,.phase⟩,⟨6,.phase⟩,⟨7,.phase⟩],none⟩) rfl (fun KQ hK=>?_) AllReadyH.nil
    go_simp
    refine hK.out _ _ ((Za KS) _ (by simpa[World.setCell] using hb6x.size)) (fun Zjd=>?_)
    clear hK KQ Zjc
    have Zjc:=Zjd
    clear Zjd
    (try simp only[Act.put])
    refine wpAnyH_done (by kernel_rfl) ?_ _
    clear Zjc
    go_wp2_with fail
    go_meet
    case rel=>
     have gg:Gr w6 (((w6.setCell ⟨w.heap.size,0,none⟩ (.slice a1 nn c1)).setCell ⟨w.heap.size,1,none⟩ (.slice a2 nn c2)).setCell ⟨w.heap.size,2,none⟩ (.slice a3 pn c3)) (fun q=>q=w.heap.size):=(((Gr.refl w6 (fun q=>q=w.heap.size)).one w.heap.size 0 (.inl rfl) _).one w.heap.size 1 (.inl rfl) _).one w.heap.size 2 (.inl rfl) _
     have hxs:=Za HXs
     have h5s:=hb.size
     have hxd:X.drew.heap.size=X.heap.size:=rfl
     refine⟨_,_,_,Tr.set_cells (Tr.set_cells (Tr.set_cells hz 0 _) 1 _) 2 _,a1,c1,a2,c2,a3,c3,rfl,rfl,rfl,fun W2 g2=>?_,s1,s2,(hF6 w6 (Gr.refl _ _)).2,(Gr.of hb6x).trans gg⟩
     have k1:=(hO5.gr ((Gr.of hb6).trans ((gg.mono (fun q _ e=>by have e:q=w.heap.size:=e;omega)).trans (g2.mono (fun q _ e=>by omega))))).read
     obtain⟨b1,d1,b2,d2,q1,q2,i1,-,i2,-⟩:=k1
     injection q1 with q1 _ _
     injection q2 with q2 _ _
     subst q1 q2
     exact⟨i1,i2,(hF6 W2 ((gg.mono (fun q _ e=>by have e:q=w.heap.size:=e;omega)).trans (g2.mono (fun q _ e=>by omega)))).1⟩
  ·obtain⟨l0,l1,l2,ll⟩:=(Za KC) X.drew hb
   go_simp
   clear l0 l1 l2 ll
   refine hK.out _ _ ((Za KS) _ hb.size) (fun Zjd=>?_)
   clear hK KQ Zjc
   have Zjc:=Zjd
   clear Zjd
   (try simp only[Act.put,ZA,ZB,ZC])
   refine wpAnyH_ready (rs:=[1]) (by kernel_rfl) (by simp) ?_
   refine AllReadyH.cons (o:=⟨some 4,.load 28 (.tmp 3),28, "clone.go:64",#[⟨0,.data⟩],none⟩) rfl (fun KQ hK=>?_) AllReadyH.nil
   obtain⟨l0,l1,l2,ll⟩:=(Za KC) X.drew hb
   go_simp
   clear l0 l1 l2 ll
   refine hK.out _ _ ((Za KS) _ hb.size) (fun Zjd=>?_)
   clear hK KQ Zjc
   have Zjc:=Zjd
   clear Zjd
   (try simp only[Act.put,ZA,ZB,ZC])
   refine wpAnyH_ready (rs:=[2]) (by kernel_rfl) (by simp) ?_
   refine AllReadyH.cons (o:=⟨some 5,.call { callee:=Callee.value (.func 135),args:=#[.tmp 4],argTypes:=#[28] },28, "clone.go:64",#[⟨1,.data⟩],none⟩) rfl (fun KQ hK=>?_) AllReadyH.nil
   refine Zl (by kernel_rfl) 135 #[.agg #[.slice na nn nc,.slice ba nn bc]] (by kernel_rfl) (Za C1) ?_
   rintro e w5 ⟨v1,v2,rfl,hO5,hb5⟩
   obtain⟨a1,c1,a2,c2,rfl,rfl,-,s1,-,s2⟩:=hO5.read
   refine⟨_,rfl,?_⟩
   have hb:=Zf (Zj X) hb5
   refine hK.out _ _ ((Za KS) _ hb.size) (fun Zjd=>?_)
   clear hK KQ Zjc
   have Zjc:=Zjd
   clear Zjd
   (try simp only[Act.put,ZA,ZB,ZC])
   refine tk 6 ⟨some 9,.fieldAddr 67 (.tmp 1) 0,0, "clone.go:64",#[⟨0,.phase⟩,⟨1,.phase⟩,⟨2,.phase⟩,⟨3,.phase⟩,⟨4,.phase⟩,⟨5,.textOnly .lateStoresUnsure⟩],none⟩ ?_ rfl ?_ Zjc ?_
   rotate_left
   ·(intro U hSw;(try dsimp only at hSw);go_simp;first|done|with_reducible rfl)
   (try simp only[Act.put,ZA,ZB,ZC])
   refine wpAnyH_ready (rs:=[5]) (by kernel_rfl) (by simp) ?_
   refine AllReadyH.cons (o:=⟨some 8,.call { callee:=Callee.value (.func 142),args:=#[.tmp 7],argTypes:=#[37] },37, "clone.go:64",#[⟨4,.data⟩,⟨2,.chain⟩],none⟩) rfl (fun KQ hK=>?_) AllReadyH.nil
   refine Zl (by kernel_rfl) 142 #[.slice pa pn pc] (by kernel_rfl) ((Za C2) w5 (Zf (Za HBX) hb)) ?_
   rintro e w6 ⟨a3,c3,rfl,hF6,hb6⟩
   refine⟨_,rfl,?_⟩
   have hb6x:=Zf hb hb6
   refine hK.out _ _ ((Za KS) _ hb6x.size) (fun Zjd=>?_)
   clear hK KQ Zjc
   have Zjc:=Zjd
   clear Zjd
   (try simp only[Act.put,ZA,ZB,ZC])
   have hz:=(hb6x.block _ (lt_of_block (Za HX0))).trans (Za HX0)
   have y0:=Zd hz 0 _ rfl
   have y1:=Zd hz 1 _ rfl
   have y2:=Zd hz 2 _ rfl
   have g0:=Zg hz 0
   have g1:=Zg hz 1
   have g2:=Zg hz 2
   have yl:=lt_of_block hz
   have hsc:(w6.setCell ⟨w.heap.size,0,none⟩ (.slice a1 nn c1)).heap.size=w6.heap.size:=by simp[World.setCell]
   refine wpAnyH_ready (rs:=[7]) (by kernel_rfl) (by simp) ?_
   refine AllReadyH.cons (o:=⟨none,.store 28 (.tmp 9) (.tmp 5),0, "clone.go:64",#[⟨6,.data⟩,⟨2,.data⟩,⟨5,.chain⟩,⟨0,.phase⟩,⟨1,.phase⟩,⟨2,.phase⟩,⟨3,.phase⟩,⟨4,.phase⟩,⟨5,.textOnly .lateStoresUnsure⟩],none⟩) rfl (fun KQ hK=>?_) AllReadyH.nil
   go_simp
   refine hK.out _ _ ((Za KS) _ (by simpa[World.setCell] using hb6x.size)) (fun Zjd=>?_)
   clear hK KQ Zjc
   have Zjc:=Zjd
   clear Zjd
   (try simp only[Act.put])
   refine tk 8 ⟨some 10,.fieldAddr 67 (.tmp 1) 1,0, "clone.go:64",#[⟨0,.phase⟩,⟨1,.phase⟩,⟨2,.phase⟩,⟨3,.phase⟩,⟨4,.phase⟩,⟨5,.phase⟩,⟨6,.phase⟩,⟨7,.phase⟩],none⟩ ?_ rfl ?_ Zjc ?_
   rotate_left
   ·(intro U hSw;(try dsimp only at hSw);go_simp;first|done|with_reducible rfl)
   (try simp only[Act.put,ZA,ZB,ZC])
   refine wpAnyH_ready (rs:=[9]) (by kernel_rfl) (by simp) ?_
   refine AllReadyH.cons (o:=⟨none,.store 37 (.tmp 10) (.tmp 8),0, "clone.go:64",#[⟨8,.data⟩,⟨5,.data⟩,⟨7,.chain⟩,⟨0,.phase⟩,⟨1,.phase⟩,⟨2,.phase⟩,⟨3,.phase⟩,⟨4,.phase⟩,⟨5,.phase⟩,⟨6,.phase⟩,⟨7,.phase⟩],none⟩) rfl (fun KQ hK=>?_) AllReadyH.nil
   go_simp
   refine hK.out _ _ ((Za KS) _ (by simpa[World.setCell] using hb6x.size)) (fun Zjd=>?_)
   clear hK KQ Zjc
   have Zjc:=Zjd
   clear Zjd
   (try simp only[Act.put])
   refine wpAnyH_done (by kernel_rfl) ?_ _
   clear Zjc
   go_wp2_with fail
   go_meet
   case rel=>
    have gg:Gr w6 (((w6.setCell ⟨w.heap.size,0,none⟩ (.slice a1 nn c1)).setCell ⟨w.heap.size,1,none⟩ (.slice a2 nn c2)).setCell ⟨w.heap.size,2,none⟩ (.slice a3 pn c3)) (fun q=>q=w.heap.size):=(((Gr.refl w6 (fun q=>q=w.heap.size)).one w.heap.size 0 (.inl rfl) _).one w.heap.size 1 (.inl rfl) _).one w.heap.size 2 (.inl rfl) _
    have hxs:=Za HXs
    have h5s:=hb.size
    have hxd:X.drew.heap.size=X.heap.size:=rfl
    refine⟨_,_,_,Tr.set_cells (Tr.set_cells (Tr.set_cells hz 0 _) 1 _) 2 _,a1,c1,a2,c2,a3,c3,rfl,rfl,rfl,fun W2 g2=>?_,s1,s2,(hF6 w6 (Gr.refl _ _)).2,(Gr.of hb6x).trans gg⟩
    have k1:=(hO5.gr ((Gr.of hb6).trans ((gg.mono (fun q _ e=>by have e:q=w.heap.size:=e;omega)).trans (g2.mono (fun q _ e=>by omega))))).read
    obtain⟨b1,d1,b2,d2,q1,q2,i1,-,i2,-⟩:=k1
    injection q1 with q1 _ _
    injection q2 with q2 _ _
    subst q1 q2
    exact⟨i1,i2,(hF6 W2 ((gg.mono (fun q _ e=>by have e:q=w.heap.size:=e;omega)).trans (g2.mono (fun q _ e=>by omega)))).1⟩
 case rest=>
  obtain⟨v1,v2,v3,hb,a1,c1,a2,c2,a3,c3,rfl,rfl,rfl,hF,s1,s2,s3,hg⟩:=Za hcut
  have e0:=Zd hb 0 _ rfl
  have e1:=Zd hb 1 _ rfl
  have e2:=Zd hb 2 _ rfl
  have e3:=Zd hb 3 _ rfl
  have el:=lt_of_block hb
  have hz:=(hg.block _ (lt_of_block (Za HX1)) (fun e=>by have e:w.heap.size+1=w.heap.size:=e;omega)).trans (Za HX1)
  have z0:=Zd hz 0 _ rfl
  have z1:=Zd hz 1 _ rfl
  have z2:=Zd hz 2 _ rfl
  have z3:=Zd hz 3 _ rfl
  have f0:=Zg hz 0
  have f1:=Zg hz 1
  have f2:=Zg hz 2
  have f3:=Zg hz 3
  have zl:=lt_of_block hz
  have hbw:Below w.heap.size w wc:=hg.below (Za HBX) (Za HBX).size (fun q e=>by have e:q=w.heap.size:=e;omega)
  have FIN:Hid (∀ W,Gr wc W (fun q=>q=w.heap.size+1)→ClnR w W N T P nn pn tip (.returned (.agg #[.slice a1 nn c1,.slice a2 nn c2,.slice a3 pn c3,.int .i64 tip]))):=fun W g=>by
   have hxs:=Za HXs
   refine⟨a1,c1,a2,c2,a3,c3,rfl,fun W2 g2=>hF W2 ((g.mono (fun q _ e=>by have e:q=w.heap.size+1:=e;omega)).trans (g2.mono (fun q _ e=>by omega))),s1,s2,s3,g.below hbw hbw.size (fun q e=>by have e:q=w.heap.size+1:=e;omega)⟩
  clear hcut hb hF s1 s2 s3 hg hz hbw KS KC C1 C2
  go_wp2
  (try simp only[Exit.inBlock,Exit.then])
  refine bodyPost_ret (v:=.agg #[.slice a1 nn c1,.slice a2 nn c2,.slice a3 pn c3,.int .i64 tip]) ?_ rfl ?_
  ·rw[Mc rfl]
   go_simp
  ·exact (Za FIN) _ ((Gr.refl wc (fun q=>q=w.heap.size+1)).four (w.heap.size+1) (.inl rfl) _ _ _ _)
end Go.Proofs.YtmomfkikogbdeaaGreatDoor
namespace Go.Proofs.YtmomfkikogbdeaaGreatDoor.Tr
open Go.RowKit
theorem best_is(a b:Option Addr)(n c m d:Nat)(N:List Int)(T:List Zk)(z x:Int)(w:World)(hN:IntsAt w a n N)(hT:BlksAt w b m T)(sN:SlOk a n c)(sT:SlOk b m d)(hx:bstD N T=(z,x)) :
  Calls Tryz.prog 163 #[.agg #[.slice a n c,.slice b m d]] w fun e w'=>e = .returned (.tuple #[.int .i64 z,.int .i64 x])∧Below w.heap.size w w':=by
 obtain⟨X,hX⟩:∃ X,X=w.alloc (.cells #[.slice a n c,.slice b m d] 28):=⟨_,rfl⟩
 have hbX:Below w.heap.size w X:=by rw[hX];exact Zi _ _
 have hX0:X.heap[w.heap.size]? = some (.cells [.slice a n c,.slice b m d].toArray 28 (0,0)):=by rw[hX];exact Yv _ _ _ _
 have HB:=Zb hbX
 have HX0:=Zb hX0
 obtain⟨y,hy⟩:∃ y,chkTr N T=y:=⟨_,rfl⟩
 have C1:=Zb (Uc a b n c m d N T y X (hN.later hbX) (hT.later hbX) sN sT hy)
 have x0:=Zd hX0 0 _ rfl
 have x1:=Zd hX0 1 _ rfl
 have xl:=lt_of_block hX0
 unfold bstD at hx
 rw[hy] at hx
 by_cases q:y=0
 ·subst q
  rw[if_neg (by simp)] at hx
  obtain⟨hl,h24,hH,_⟩:=Vc hy
  obtain rfl:n=m:=by rw[←hN.1,←hT.1,hl]
  have hn24:n≤24:=by rw[←hN.1];exact h24
  have hnm:n≤maxLen:=sN.len
  obtain⟨hz,rfl⟩:bstGo N T 0 0 N=z∧0=x:=⟨congrArg Prod.fst hx,congrArg Prod.snd hx⟩
  have HN:=Zb (hN.later hbX)
  have HZN:=Zb hN.1
  have HH:=Zb hH
  have CP:=Zb (fun s P pn W (hb:Below X.heap.size X W) (h1:Xp N T s=P) (h2:P.length=pn)=>Lg a b n c d N T s P pn W hnm (hN.later (Zf hbX hb)) (hT.later (Zf hbX hb)) hH h1 h2)
  have CW:=Zb (fun pa pc pn P v W (hb:Below X.heap.size X W) (hPA:IntsAt W pa pn P) (hpl:pn≤1000) (hv:Xj N T 0 P=v)=>Kx a b pa n c d pn pc N T P v W hnm (hN.later (Zf hbX hb)) (hT.later (Zf hbX hb)) hPA hpl hH hv)
  have HZ:Hid (bstGo N T 0 0 (N.drop 0)=z):=hz
  clear hbX hX0 hN hT sN sT hx hy hl h24 hH hnm hz
  go_enter Tryz.func163,Tryz.ntmps163
  go_wp2_with fail
  rw[←hX]
  clear hX
  refine (Za C1).mono ?_
  rintro e w1 ⟨rfl,hb1⟩
  have hc:=(hb1.block _ (lt_of_block (Za HX0))).trans (Za HX0)
  have t0:=Zd hc 0 _ rfl
  have tl:=lt_of_block hc
  have HB1:=Zb hb1
  clear hb1 x0 x1 xl hc C1
  go_wp2
  go_loopw [5,6,18] (fun bv mv i wr=>∃ (k:Nat) (bb mm:Int),k≤n∧bv = .int .i64 bb∧mv = .int .i64 mm∧i = .int .i64 k∧Hid (bstGo N T bb mm (N.drop k)=z)∧Hid (Below X.heap.size X wr)) (fun _ _ i _=>n - (intOf i).toNat)
  case atStart=>exact⟨0,0,0,Nat.zero_le _,rfl,rfl,rfl,HZ,HB1⟩
  case round=>
   obtain⟨k,bb,mm,hk,rfl,rfl,rfl,A,HBr⟩:=hrel
   clear t0 tl HZ
   by_cases hlt:k<n
   ·have h1:k<N.length:=by rw[Za HZN];exact hlt
    obtain⟨b1,off1,rfl,hl1,hc1⟩:=(Za HN).2 (by omega)
    have f1:=Ze (Za HBr) (hc1 k h1)
    have AT:=Zb (Zel N T bb mm N k h1)
    obtain⟨s,hs⟩:∃ s,N[k]=s:=⟨_,rfl⟩
    rw[hs] at f1 AT
    have ll:=Nat.lt_of_lt_of_le hl1 (Za HBr).size
    have hcx:=((Za HBr).block _ (lt_of_block (Za HX0))).trans (Za HX0)
    have t0:=Zd hcx 0 _ rfl
    have t1:=Zd hcx 1 _ rfl
    have tl:=lt_of_block hcx
    obtain⟨P,hP⟩:∃ P,Xp N T s=P:=⟨_,rfl⟩
    obtain⟨pn,hpn⟩:∃ pn,P.length=pn:=⟨_,rfl⟩
    obtain⟨v,hv⟩:∃ v,Xj N T 0 P=v:=⟨_,rfl⟩
    have hwv:Ys N T s=v:=by unfold Ys;rw[hP,hv]
    rw[hwv] at AT
    have hpl:pn≤1000:=by rw[←hpn,←hP];exact Pt (Za HH) s
    have CC:=Zb ((Za CP) s P pn wr.drew (Zf (Za HBr) (Zj _)) hP hpn)
    have CV:=Zb (fun pa pc W hb hPA=>(Za CW) pa pc pn P v W hb hPA hpl hv)
    have hkI:(k:Int)<(n:Int):=by omega
    clear hc1 hcx hs hP hpn hv hwv hl1 hpl
    go_wp2_with fail
    go_region_with (first
     | (go_at_call 131;refine (Za CC).mono ?_;rintro e w5 ⟨vv,rfl,ho5,hb5⟩;obtain⟨pa,pc,rfl,_,hpa⟩:=Uj ho5;have e0:=Ze hb5 (Ze (Zj _) t0);have e1:=Ze hb5 (Ze (Zj _) t1);have el:=Nat.lt_of_lt_of_le tl hb5.size;have H5:=Zb (Zf (Za HBr) (Zf (Zj _) hb5));have C5:=Zb ((Za CV) pa pc _ (Za H5) hpa);clear ho5 hpa hb5)
     | (go_at_call 102;refine (Za C5).mono ?_;rintro e w6 ⟨rfl,hb6⟩;have H6:=Zb (Zf (Za H5) hb6);clear hb6 C5 H5))
    all_goals
     by_cases q1:mm<v
     ·have R:Hid (bstGo N T s v (N.drop (k+1))=z):=by show _=_;rw[←Za A,Za AT,if_pos (.inl q1)]
      clear A AT
      go_wp2
      go_roundw
      case rel=>exact⟨k+1,s,v,by omega,rfl,rfl,by go_num,R,H6⟩
      case measure=>simp[intOf];omega
     ·by_cases q2:v=mm
      ·subst q2
       by_cases q3:s<bb
       ·have R:Hid (bstGo N T s v (N.drop (k+1))=z):=by show _=_;rw[←Za A,Za AT,if_pos (.inr ⟨rfl,q3⟩)]
        clear A AT
        go_wp2
        go_roundw
        case rel=>exact⟨k+1,s,v,by omega,rfl,rfl,by go_num,R,H6⟩
        case measure=>simp[intOf];omega
       ·have R:Hid (bstGo N T bb v (N.drop (k+1))=z):=by
         show _=_
         rw[←Za A,Za AT,if_neg (by omega)]
        clear A AT
        go_wp2
        go_roundw
        case rel=>exact⟨k+1,bb,v,by omega,rfl,rfl,by go_num,R,H6⟩
        case measure=>simp[intOf];omega
      ·have R:Hid (bstGo N T bb mm (N.drop (k+1))=z):=by
        show _=_
        rw[←Za A,Za AT,if_neg (by omega)]
       have g2:(v == mm)=false:=by simp[q2]
       clear A AT q2
       go_wp2
       go_roundw
       case rel=>exact⟨k+1,bb,mm,by omega,rfl,rfl,by go_num,R,H6⟩
       case measure=>simp[intOf];omega
   ·have R:Hid (bb=z):=by show _=_;rw[←Za A,Zbj N T bb mm N k (by rw[Za HZN];omega)]
    have HBF:=Zb (Zf (Za HB) (Za HBr))
    clear A
    go_wp2
    go_ret2
    exact⟨by rw[←Za R];rfl,Za HBF⟩
 ·rw[if_pos q] at hx
  obtain⟨rfl,rfl⟩:0=z∧y=x:=⟨congrArg Prod.fst hx,congrArg Prod.snd hx⟩
  have g:(y != 0)=true:=by simp[q]
  clear hbX hX0 hN hT sN sT hy hx q
  go_enter Tryz.func163,Tryz.ntmps163
  go_wp2_with fail
  rw[←hX]
  clear hX
  refine (Za C1).mono ?_
  rintro e w1 ⟨rfl,hb1⟩
  have HB1:=Zb (Zf (Za HB) hb1)
  clear hb1 x0 x1 xl
  go_wp2
  go_ret2
  exact⟨rfl,Za HB1⟩
theorem Zit{N:List Int}{T:List Zk}{x:Int}(hl:N.length=T.length)(h:x∈N):fnd x N T∈T:=by
 rcases Jd x N T 0 hl with ⟨_,h1,_⟩|⟨i,hi,_,_,h3⟩
 ·exact absurd h h1
 ·rw[h3];exact List.getElem_mem hi
theorem fnd_out{N:List Int}{T:List Zk}{x:Int}(hl:N.length=T.length)(h:x∉N):fnd x N T=Yz:=by
 rcases Jd x N T 0 hl with ⟨_,_,h3⟩|⟨i,hi,_,h2,_⟩
 ·exact h3
 ·exact absurd h2 h
theorem nextD_ok{N:List Int}{T:List Zk}{x:Int}{b:Zk}(h:nextD N T x b=0):(1≤x∧x≤120)∧Yt b=0∧x∉N∧(b.1=0∨b.1∈N)∧b.2.1=(fnd b.1 N T).2.1+1:=by
 unfold nextD at h
 split at h
 ·cases h
 ·next q1=>
  split at h
  ·next q2=>exact absurd h q2
  ·next q2=>
   split at h
   ·cases h
   ·next q3=>
    split at h
    ·cases h
    ·next q4=>
     split at h
     ·cases h
     ·next q5=>
      refine⟨by simpa using q1,Classical.not_not.1 q2,by simpa using q3,?_,Classical.not_not.1 q5⟩
      by_cases e:b.1=0
      ·exact .inl e
      ·right
       by_cases e2:b.1∈N
       ·exact e2
       ·exact absurd ⟨e,by simp[e2]⟩ q4
theorem nextD_mk{N:List Int}{T:List Zk}{x:Int}{b:Zk}(h1:1≤x∧x≤120)(h2:Yt b=0)(h3:x∉N)(h4:b.1=0∨b.1∈N)(h5:b.2.1=(fnd b.1 N T).2.1+1):nextD N T x b=0:=by
 unfold nextD
 rw[if_neg (by simp[h1]),if_neg (by simp[h2]),if_neg (by simp[h3]),if_neg (by
  rintro ⟨e,e2⟩
  rcases h4 with h|h
  ·exact e h
  ·simp[h] at e2),if_neg (by simp[h5])]
theorem Zaq{N M:List Int}{T U:List Zk}{y:Int}:N.length=T.length→y∈N→fnd y (N++M) (T++U)=fnd y N T:=by
 induction N generalizing T with
 | nil=>intro _ h;cases h
 | cons a N ih=>
  intro hl h
  cases T with
  | nil=>cases hl
  | cons b T=>
   simp only[List.cons_append,fnd]
   by_cases e:y=a
   ·simp[e]
   ·rw[if_neg e,if_neg e]
    refine ih (by simpa using hl) ?_
    rcases List.mem_cons.1 h with h|h
    ·exact absurd h e
    ·exact h
theorem fnd_app_r{N M:List Int}{T U:List Zk}{y:Int}:N.length=T.length→y∉N→fnd y (N++M) (T++U)=fnd y M U:=by
 induction N generalizing T with
 | nil=>
  intro hl _
  cases T with
  | nil=>rfl
  | cons _ _=>cases hl
 | cons a N ih=>
  intro hl h
  cases T with
  | nil=>cases hl
  | cons b T=>
   simp only[List.cons_append,fnd]
   rw[if_neg (fun e=>h (by simp[e]))]
   exact ih (by simpa using hl) (fun q=>h (by simp[q]))
theorem Zgm(x:Int)(b:Zk):fnd x [x] [b]=b:=by simp[fnd]
structure TrOk(N:List Int)(T:List Zk):Prop where
 len:N.length=T.length
 nd:N.Nodup
 nm:∀ x∈N,1≤x∧x≤120
 par:∀ x∈N,(fnd x N T).1=0∨(fnd x N T).1∈N
 hgt:∀ x∈N,(fnd x N T).2.1=(fnd (fnd x N T).1 N T).2.1+1
 chk:∀ b∈T,Yt b=0
theorem TrOk.nil:TrOk [] []:=⟨rfl,List.nodup_nil,fun _ h=>(by cases h),fun _ h=>(by cases h),fun _ h=>(by cases h),fun _ h=>(by cases h)⟩
theorem TrOk.zero{N:List Int}{T:List Zk}(h:TrOk N T):(0:Int)∉N:=fun q=>by have:=(h.nm 0 q).1;omega
theorem TrOk.heads{N:List Int}{T:List Zk}(h:TrOk N T):Y7 T:=fun b hb=>chkB_head (h.chk b hb)
theorem TrOk.same{N:List Int}{T:List Zk}{x:Int}{b:Zk}(h:TrOk N T)(hx:1≤x){y:Int}(hy:y=0∨y∈N):fnd y (N++[x]) (T++[b])=fnd y N T:=by
 by_cases e:y∈N
 ·exact Zaq h.len e
 ·have hy0:y=0:=by rcases hy with q|q;exact q;exact absurd q e
  rw[fnd_app_r h.len e,fnd_out h.len e]
  unfold fnd
  rw[if_neg (by omega)]
  unfold fnd
  rfl
theorem TrOk.new{N:List Int}{T:List Zk}{x:Int}{b:Zk}(h:TrOk N T)(hx:x∉N):fnd x (N++[x]) (T++[b])=b:=by
 rw[fnd_app_r h.len hx,Zgm]
theorem TrOk.add{N:List Int}{T:List Zk}{x:Int}{b:Zk}(h:TrOk N T)(hn:nextD N T x b=0):TrOk (N++[x]) (T++[b]):=by
 obtain⟨h1,h2,h3,h4,h5⟩:=nextD_ok hn
 refine⟨by simp[h.len],?_,fun y hy=>?_,fun y hy=>?_,fun y hy=>?_,fun c hc=>?_⟩
 ·rw[List.nodup_append]
  exact⟨h.nd,by simp,fun a ha c hc=>by rw[List.mem_singleton.1 hc];exact fun e=>h3 (e ▸ ha)⟩
 ·rcases List.mem_append.1 hy with q|q
  ·exact h.nm y q
  ·rw[List.mem_singleton.1 q];exact h1
 ·rcases List.mem_append.1 hy with q|q
  ·rw[h.same h1.1 (.inr q)]
   rcases h.par y q with e|e
   ·exact .inl e
   ·exact .inr (by simp[e])
  ·rw[List.mem_singleton.1 q,h.new h3]
   rcases h4 with e|e
   ·exact .inl e
   ·exact .inr (by simp[e])
 ·rcases List.mem_append.1 hy with q|q
  ·rw[h.same h1.1 (.inr q),h.same h1.1 (h.par y q)]
   exact h.hgt y q
  ·rw[List.mem_singleton.1 q,h.new h3,h.same h1.1 h4]
   exact h5
 ·rcases List.mem_append.1 hc with q|q
  ·exact h.chk c q
  ·rw[List.mem_singleton.1 q];exact h2
theorem Hq:∀ (M:List Int) (U:List Zk) (N:List Int) (T:List Zk),M.length=U.length→TrOk N T→Xc N T M U=0→TrOk (N++M) (T++U)
 | [],[],N,T,_,h,_=>by simpa using h
 | [],_ :: _,_,_,h,_,_=>by cases h
 | _ :: _,[],_,_,h,_,_=>by cases h
 | x :: M,b :: U,N,T,hl,h,hc=>by
  rw[Xc] at hc
  split at hc
  ·next q=>exact absurd hc q
  ·next q=>
   have:=Hq M U _ _ (by simpa using hl) (h.add (Classical.not_not.1 q)) hc
   simpa using this
theorem TrOk.of{N:List Int}{T:List Zk}(h:chkTr N T=0):TrOk N T:=by
 obtain⟨h1,_,_,h4⟩:=Vc h
 simpa using Hq N T [] [] h1 TrOk.nil h4
theorem Hr:∀ (M:List Int) (U:List Zk) (N:List Int) (T:List Zk) (x:Int) (b:Zk),M.length=U.length→Xc N T M U=0→nextD (N++M) (T++U) x b=0→Xc N T (M++[x]) (U++[b])=0
 | [],[],N,T,x,b,_,_,h=>by
  rw[List.append_nil,List.append_nil] at h
  simp[Xc,h]
 | [],_ :: _,_,_,_,_,h,_,_=>by cases h
 | _ :: _,[],_,_,_,_,h,_,_=>by cases h
 | y :: M,c :: U,N,T,x,b,h,hc,hn=>by
  rw[Xc] at hc
  split at hc
  ·next q=>exact absurd hc q
  ·next q=>
   rw[List.cons_append,List.cons_append,Xc,if_neg q]
   exact Hr M U _ _ x b (by simpa using h) hc (by simpa using hn)
theorem chkTr_snoc{N:List Int}{T:List Zk}{x:Int}{b:Zk}(h:chkTr N T=0)(hn:nextD N T x b=0)(hl:N.length≠24):chkTr (N++[x]) (T++[b])=0:=by
 obtain⟨h1,h2,_,h4⟩:=Vc h
 unfold chkTr
 rw[if_neg (by simp[h1]),if_neg (by simp;omega)]
 exact Hr N T [] [] x b h1 h4 (by simpa using hn)
theorem TrOk.up{N:List Int}{T:List Zk}(h:TrOk N T)(y:Int):(fnd y N T).1=0∨(fnd y N T).1∈N:=by
 by_cases e:y∈N
 ·exact h.par y e
 ·rw[fnd_out h.len e];exact .inl rfl
theorem TrOk.upD_same{N:List Int}{T:List Zk}{x:Int}{b:Zk}(h:TrOk N T)(hx:1≤x):∀ (d:Nat) (y:Int),(y=0∨y∈N)→upD (N++[x]) (T++[b]) d y=upD N T d y
 | 0,_,_=>rfl
 | d+1,y,hy=>by
  rw[upD,upD,h.same hx hy,h.upD_same hx d _ (h.up y)]
theorem TrOk.pth_same{N:List Int}{T:List Zk}{x:Int}{b:Zk}(h:TrOk N T)(hx:1≤x){y:Int}(hy:y=0∨y∈N):Xp (N++[x]) (T++[b]) y=Xp N T y:=by
 unfold Xp
 rw[h.same hx hy,h.upD_same hx _ y hy]
theorem TrOk.pth_new{N:List Int}{T:List Zk}{x:Int}{b:Zk}(h:TrOk N T)(hn:nextD N T x b=0):Xp (N++[x]) (T++[b]) x=Xp N T b.1++[x]:=by
 obtain⟨h1,h2,h3,h4,h5⟩:=nextD_ok hn
 unfold Xp
 have h0:=(Jf h.heads b.1 N).1
 rw[h.new h3,h5,show ((fnd b.1 N T).2.1+1).toNat=(fnd b.1 N T).2.1.toNat+1 by omega,upD,h.new h3,h.upD_same h1.1 _ b.1 h4]
theorem TrOk.up_mem{N:List Int}{T:List Zk}(h:TrOk N T):∀ (d:Nat) (y:Int),(y=0∨y∈N)→∀ z∈upD N T d y,z=0∨z∈N
 | 0,_,_,z,hz=>by cases hz
 | d+1,y,hy,z,hz=>by
  rw[upD] at hz
  rcases List.mem_append.1 hz with q|q
  ·exact h.up_mem d _ (h.up y) z q
  ·rw[List.mem_singleton.1 q];exact hy
theorem TrOk.wk_same{N:List Int}{T:List Zk}{x:Int}{b:Zk}(h:TrOk N T)(hx:1≤x):∀ (P:List Int) (s:Int),(∀ z∈P,z=0∨z∈N)→Xj (N++[x]) (T++[b]) s P=Xj N T s P
 | [],_,_=>rfl
 | y :: P,s,hP=>by
  rw[Xj,Xj,h.same hx (hP y (by simp)),h.wk_same hx P _ (fun z hz=>hP z (by simp[hz]))]
theorem Fy(N:List Int)(T:List Zk):∀ (P Q:List Int) (s:Int),Xj N T s (P++Q)=Xj N T (Xj N T s P) Q
 | [],_,_=>rfl
 | y :: P,Q,s=>by rw[List.cons_append,Xj,Xj,Fy N T P Q]
theorem TrOk.wrk_same{N:List Int}{T:List Zk}{x:Int}{b:Zk}(h:TrOk N T)(hx:1≤x){y:Int}(hy:y=0∨y∈N):Ys (N++[x]) (T++[b]) y=Ys N T y:=by
 unfold Ys
 rw[h.pth_same hx hy]
 exact h.wk_same hx (Xp N T y) 0 (h.up_mem _ y hy)
theorem TrOk.wrk_new{N:List Int}{T:List Zk}{x:Int}{b:Zk}(h:TrOk N T)(hn:nextD N T x b=0):Ys (N++[x]) (T++[b]) x=Ys N T b.1+b.2.2.1:=by
 obtain⟨h1,h2,h3,h4,h5⟩:=nextD_ok hn
 unfold Ys
 rw[h.pth_new hn,Fy,h.wk_same h1.1 (Xp N T b.1) 0 (h.up_mem _ b.1 h4),Xj,Xj,h.new h3]
def Vf(N:List Int)(T:List Zk)(q:Int×Int)(P:List Int):Int×Int:=P.foldl (fun q x=>if q.2<Ys N T x∨Ys N T x=q.2∧x<q.1 then (x,Ys N T x) else q) q
theorem Px(N:List Int)(T:List Zk):∀ (P:List Int) (b m:Int),bstGo N T b m P=(Vf N T (b,m) P).1
 | [],_,_=>rfl
 | x :: P,b,m=>by
  rw[bstGo]
  unfold Vf
  rw[List.foldl_cons]
  split
  ·rw[Px N T P];rfl
  ·rw[Px N T P];rfl
theorem Tt(N:List Int)(T:List Zk):∀ (P:List Int) (q:Int×Int),q.2=Ys N T q.1→(Vf N T q P).2=Ys N T (Vf N T q P).1
 | [],_,h=>h
 | x :: P,q,h=>by
  unfold Vf
  rw[List.foldl_cons]
  split
  ·exact Tt N T P _ rfl
  ·exact Tt N T P _ h
theorem Tu(N:List Int)(T:List Zk):∀ (P:List Int) (q:Int×Int),(Vf N T q P).1=q.1∨(Vf N T q P).1∈P
 | [],_=>.inl rfl
 | x :: P,q=>by
  unfold Vf
  rw[List.foldl_cons]
  split
  ·rcases Tu N T P (x,Ys N T x) with h|h
   ·exact .inr (by unfold Vf at h;rw[h];simp)
   ·exact .inr (by unfold Vf at h;simp[h])
  ·rcases Tu N T P q with h|h
   ·exact .inl h
   ·exact .inr (by unfold Vf at h;simp[h])
theorem Ly{N:List Int}{T:List Zk}{x:Int}{b:Zk}(h:TrOk N T)(hx:1≤x):∀ (P:List Int) (q:Int×Int),(∀ z∈P,z∈N)→Vf (N++[x]) (T++[b]) q P=Vf N T q P
 | [],_,_=>rfl
 | y :: P,q,hP=>by
  have e:=h.wrk_same (b:=b) hx (.inr (hP y (by simp)))
  have r:=fun q=>Ly (b:=b) h hx P q (fun z hz=>hP z (by simp[hz]))
  unfold Vf at r ⊢
  rw[List.foldl_cons,List.foldl_cons,e]
  split
  ·exact r _
  ·exact r _
theorem TrOk.wrk_zero{N:List Int}{T:List Zk}(h:TrOk N T):Ys N T 0=0:=by
 unfold Ys Xp
 rw[fnd_out h.len h.zero]
 rfl
theorem best_more{N:List Int}{T:List Zk}{x:Int}{b:Zk}(h:TrOk N T)(hn:nextD N T x b=0)(m n:Int)(hm:bstGo N T 0 0 N=m)(hn':bstGo (N++[x]) (T++[b]) 0 0 (N++[x])=n) :
  (m=0∨m∈N)∧(n=m∨n=x)∧(n=0∨n∈N++[x])∧Ys N T m≤Ys (N++[x]) (T++[b]) n∧Ys (N++[x]) (T++[b]) x≤Ys (N++[x]) (T++[b]) n:=by
 obtain⟨h1,h2,h3,h4,h5⟩:=nextD_ok hn
 rw[Px] at hm hn'
 have e:Vf (N++[x]) (T++[b]) (0,0) (N++[x])=Vf (N++[x]) (T++[b]) (Vf N T (0,0) N) [x]:=by
  have:=Ly (b:=b) h h1.1 N (0,0) (fun z hz=>hz)
  unfold Vf at this ⊢
  rw[List.foldl_append,this]
 have hw:=Tt N T N (0,0) h.wrk_zero.symm
 have hmem:=Tu N T N (0,0)
 rw[e] at hn'
 obtain⟨mm,hq⟩:∃ mm,Vf N T (0,0) N=(m,mm):=⟨_,Prod.ext hm rfl⟩
 rw[hq] at hw hmem hn'
 simp only at hw hmem
 have hmS:m=0∨m∈N:=hmem
 have hsame:=h.wrk_same (b:=b) h1.1 hmS
 unfold Vf at hn'
 rw[List.foldl_cons,List.foldl_nil] at hn'
 simp only at hn'
 split at hn'
 ·next q=>
  have:x=n:=hn'
  subst this
  refine⟨hmS,.inr rfl,.inr (by simp),?_,Int.le_refl _⟩
  rw[hw] at q
  omega
 ·next q=>
  have:m=n:=hn'
  subst this
  refine⟨hmS,.inl rfl,?_,by rw[hsame];exact Int.le_refl _,?_⟩
  ·rcases hmS with q|q
   ·exact .inl q
   ·exact .inr (by simp[q])
  ·rw[hsame]
   rw[hw] at q
   omega
theorem addE_ok{N:List Int}{T:List Zk}{x:Int}{b:Zk}{N':List Int}{T':List Zk}(h:addE N T x b=(N',T',0)):chkTr N T=0∧nextD N T x b=0∧N.length≠24∧N'=N++[x]∧T'=T++[b]:=by
 unfold addE at h
 split at h
 ·next q=>exact absurd (congrArg (·.2.2) h) q
 ·next q=>
  split at h
  ·next q2=>exact absurd (congrArg (·.2.2) h) q2
  ·next q2=>
   split at h
   ·next q3=>have:=congrArg (·.2.2) h;simp at this
   ·next q3=>exact⟨Classical.not_not.1 q,Classical.not_not.1 q2,q3,(congrArg (·.1) h).symm,(congrArg (·.2.1) h).symm⟩
theorem Gq{N:List Int}{T:List Zk}{y:Int}(h:chkTr N T=0)(hy:y=0∨y∈N):U6 N T y=(Xp N T y,0):=by
 unfold U6
 rw[if_neg (by simp[h]),if_neg (by
  rintro ⟨e,e2⟩
  rcases hy with q|q
  ·exact e q
  ·simp[q] at e2)]
theorem Rv{N:List Int}{T:List Zk}{y:Int}(h:chkTr N T=0)(hy:y=0∨y∈N):workE N T y=(Ys N T y,0):=by
 unfold workE
 rw[Gq h hy,if_neg (by simp)]
 rfl
theorem bstD_mk{N:List Int}{T:List Zk}(h:chkTr N T=0):bstD N T=(bstGo N T 0 0 N,0):=by
 unfold bstD
 rw[if_neg (by simp[h])]
theorem Zho{N:List Int}{T:List Zk}(hH:Y7 T)(y:Int):0≤Ys N T y∧Ys N T y≤1000000:=by
 have h1:=Py hH (Xp N T y) 0 (N:=N)
 have h2:=Pt (N:=N) hH y
 unfold Ys
 omega
theorem grow_facts{N:List Int}{T:List Zk}{x:Int}{b:Zk}{N':List Int}{T':List Zk}(h:addE N T x b=(N',T',0)) :
  ∃ m n v u own up P,bstD N T=(m,0)∧bstD N' T'=(n,0)∧workE N T m=(v,0)∧workE N' T' n=(u,0)∧U6 N T b.1=(P,0)∧U6 N' T' x=(P++[x],0)∧workE N' T' x=(own,0)∧workE N T b.1=(up,0) ∧
   v≤u∧own≤u∧own=up+b.2.2.1∧(n=m∨n=x)∧0≤up∧up≤1000000∧1≤b.2.2.1∧b.2.2.1≤1000∧P.length≤1000∧N'.take N.length=N∧N'.length=N.length+1:=by
 obtain⟨h1,h2,h3,rfl,rfl⟩:=addE_ok h
 have ok:=TrOk.of h1
 obtain⟨g1,g2,g3,g4,g5⟩:=nextD_ok h2
 have h1':=chkTr_snoc h1 h2 h3
 obtain⟨f1,f2,f3,f4,f5⟩:=best_more ok h2 _ _ rfl rfl
 have hb:=chkB_head g2
 have hw:=Zho (N:=N) ok.heads b.1
 refine⟨_,_,_,_,_,_,_,bstD_mk h1,bstD_mk h1',Rv h1 f1,Rv h1' f3,Gq h1 g4,by rw[Gq h1' (.inr (by simp)),ok.pth_new h2],Rv h1' (.inr (by simp)),Rv h1 g4,f4,f5,ok.wrk_new h2,f2,hw.1,hw.2,hb.2.2.1,hb.2.2.2,Pt ok.heads b.1,by simp,by simp⟩
theorem Ao:∀ (U N:List Int),U.Nodup→(∀ x∈U,x∈N)→U.length≤N.length
 | [],_,_,_=>Nat.zero_le _
 | x :: U,N,h,hs=>by
  have hx:x∈N:=hs x (by simp)
  have hn:=List.nodup_cons.1 h
  have h1:=Ao U (N.erase x) hn.2 (fun y hy=>(List.mem_erase_of_ne (fun (e:y=x)=>hn.1 (e ▸ hy))).2 (hs y (by simp[hy])))
  rw[List.length_erase_of_mem hx] at h1
  have:0<N.length:=List.length_pos_of_mem hx
  simp only[List.length_cons]
  omega
theorem Hs:∀ (M:List Int) (U:List Zk) (N:List Int) (T:List Zk),M.length=U.length→Xc N T M U=0→∀ i (h:i<M.length) (h':i<U.length),nextD (N++M.take i) (T++U.take i) M[i] U[i]=0
 | [],_,_,_,_,_,_,h,_=>absurd h (by simp)
 | _ :: _,[],_,_,h,_,_,_,_=>by cases h
 | x :: M,b :: U,N,T,hl,hc,0,_,_=>by
  rw[Xc] at hc
  split at hc
  ·next q=>exact absurd hc q
  ·next q=>simpa using Classical.not_not.1 q
 | x :: M,b :: U,N,T,hl,hc,i+1,h,h'=>by
  rw[Xc] at hc
  split at hc
  ·next q=>exact absurd hc q
  ·next q=>
   have:=Hs M U _ _ (by simpa using hl) hc i (by simpa using h) (by simpa using h')
   simpa using this
theorem ahead{N:List Int}{T:List Zk}(hc:chkTr N T=0)(i:Nat)(h:i<N.length)(h':i<T.length):fnd N[i] N T=T[i]∧(T[i].1=0∨T[i].1∈N.take i):=by
 obtain⟨hl,_,_,hgo⟩:=Vc hc
 have h1:=Hs N T [] [] hl hgo i h h'
 simp only[List.nil_append] at h1
 obtain⟨_,_,q3,q4,_⟩:=nextD_ok h1
 refine⟨?_,q4⟩
 have e1:N=N.take i++(N[i] :: N.drop (i+1)):=by rw[←List.drop_eq_getElem_cons h,List.take_append_drop]
 have e2:T=T.take i++(T[i] :: T.drop (i+1)):=by rw[←List.drop_eq_getElem_cons h',List.take_append_drop]
 have:=fnd_app_r (N:=N.take i) (M:=N[i] :: N.drop (i+1)) (T:=T.take i) (U:=T[i] :: T.drop (i+1)) (by rw[List.length_take,List.length_take];omega) q3
 rw[←e1,←e2] at this
 rw[this]
 simp[fnd]
structure Sub(U:List Int)(V:List Zk)(N:List Int)(T:List Zk):Prop where
 chk:chkTr U V=0
 mem:∀ y∈U,y∈N
 same:∀ y∈U,fnd y U V=fnd y N T
theorem Sub.nil(N:List Int)(T:List Zk):Sub [] [] N T:=⟨rfl,fun _ h=>(by cases h),fun _ h=>(by cases h)⟩
theorem Sub.all{U:List Int}{V:List Zk}{N:List Int}{T:List Zk}(h:Sub U V N T)(hc:chkTr N T=0){y:Int}(hy:y=0∨y∈U):fnd y U V=fnd y N T:=by
 by_cases e:y∈U
 ·exact h.same y e
 ·have hy0:y=0:=by rcases hy with q|q;exact q;exact absurd q e
  subst hy0
  rw[fnd_out (TrOk.of h.chk).len e,fnd_out (TrOk.of hc).len (TrOk.of hc).zero]
theorem Sub.step{U:List Int}{V:List Zk}{N:List Int}{T:List Zk}(h:Sub U V N T)(hc:chkTr N T=0){k:Nat}(hk:k<N.length)(hk':k<T.length){U':List Int}{V':List Zk}(ha:addE U V N[k] T[k]=(U',V',0)):Sub U' V' N T∧U'=U++[N[k]]:=by
 obtain⟨h1,h2,h3,rfl,rfl⟩:=addE_ok ha
 have ok:=TrOk.of h1
 obtain⟨g1,_,g3,_,_⟩:=nextD_ok h2
 refine⟨⟨chkTr_snoc h1 h2 h3,fun y hy=>?_,fun y hy=>?_⟩,rfl⟩
 ·rcases List.mem_append.1 hy with q|q
  ·exact h.mem y q
  ·rw[List.mem_singleton.1 q];exact List.getElem_mem hk
 ·rcases List.mem_append.1 hy with q|q
  ·rw[ok.same g1.1 (.inr q)];exact h.same y q
  ·rw[List.mem_singleton.1 q,ok.new g3,(ahead hc k hk hk').1]
theorem Sub.full{U:List Int}{V:List Zk}{N:List Int}{T:List Zk}(h:Sub U V N T)(hc:chkTr N T=0)(ha:∀ j (hj:j<N.length),N[j]∈U):U.length=N.length∧∀ y∈N,y∈U:=by
 have hs:∀ y∈N,y∈U:=fun y hy=>by
  obtain⟨j,hj,rfl⟩:=List.getElem_of_mem hy
  exact ha j hj
 have h1:=Ao U N (TrOk.of h.chk).nd h.mem
 have h2:=Ao N U (TrOk.of hc).nd hs
 exact⟨by omega,hs⟩
theorem Sub.up{U:List Int}{V:List Zk}{N:List Int}{T:List Zk}(h:Sub U V N T)(hc:chkTr N T=0):∀ (d:Nat) (y:Int),(y=0∨y∈U)→upD U V d y=upD N T d y
 | 0,_,_=>rfl
 | d+1,y,hy=>by
  rw[upD,upD,←h.all hc hy,h.up hc d _ ((TrOk.of h.chk).up y)]
theorem Sub.pth{U:List Int}{V:List Zk}{N:List Int}{T:List Zk}(h:Sub U V N T)(hc:chkTr N T=0){y:Int}(hy:y=0∨y∈U):Xp U V y=Xp N T y:=by
 unfold Xp
 rw[h.all hc hy,h.up hc _ y hy]
theorem Sub.wk{U:List Int}{V:List Zk}{N:List Int}{T:List Zk}(h:Sub U V N T)(hc:chkTr N T=0):∀ (P:List Int) (s:Int),(∀ z∈P,z=0∨z∈U)→Xj U V s P=Xj N T s P
 | [],_,_=>rfl
 | y :: P,s,hP=>by
  rw[Xj,Xj,h.all hc (hP y (by simp)),h.wk hc P _ (fun z hz=>hP z (by simp[hz]))]
theorem Sub.wrk{U:List Int}{V:List Zk}{N:List Int}{T:List Zk}(h:Sub U V N T)(hc:chkTr N T=0){y:Int}(hy:y=0∨y∈U):Ys U V y=Ys N T y:=by
 unfold Ys
 rw[h.wk hc (Xp U V y) 0 ((TrOk.of h.chk).up_mem _ y hy),h.pth hc hy]
theorem TrOk.wrk_pos{N:List Int}{T:List Zk}(h:TrOk N T){y:Int}(hy:y∈N):1≤Ys N T y:=by
 have hb:=h.heads _ (Zit h.len hy)
 obtain⟨d,hd⟩:∃ d,(fnd y N T).2.1.toNat=d+1:=⟨(fnd y N T).2.1.toNat - 1,by omega⟩
 unfold Ys Xp
 rw[hd,upD,Fy,Xj,Xj]
 have:=(Py h.heads (upD N T d (fnd y N T).1) 0 (N:=N)).1
 omega
theorem Ft(N:List Int)(T:List Zk):∀ (P D:List Int) (q:Int×Int),(∀ y∈D,Ys N T y<q.2∨Ys N T y=q.2∧q.1≤y)→∀ y,y∈D∨y∈P→Ys N T y<(Vf N T q P).2∨Ys N T y=(Vf N T q P).2∧(Vf N T q P).1≤y
 | [],D,q,h,y,hy=>by
  rcases hy with hy|hy
  ·exact h y hy
  ·cases hy
 | x :: P,D,q,h,y,hy=>by
  have hstep:Vf N T q (x :: P)=Vf N T (if q.2<Ys N T x∨Ys N T x=q.2∧x<q.1 then (x,Ys N T x) else q) P:=rfl
  rw[hstep]
  refine Ft N T P (x :: D) _ (fun z hz=>?_) y (by
   rcases hy with hy|hy
   ·exact .inl (by simp[hy])
   ·rcases List.mem_cons.1 hy with rfl|hy
    ·exact .inl (by simp)
    ·exact .inr hy)
  rcases List.mem_cons.1 hz with rfl|hz
  ·split
   ·exact .inr ⟨rfl,Int.le_refl _⟩
   ·next q1=>omega
  ·have:=h z hz
   split
   ·next q1=>simp only;omega
   ·exact this
theorem best_max{N:List Int}{T:List Zk}(h:TrOk N T):(bstGo N T 0 0 N=0∨bstGo N T 0 0 N∈N)∧(∀ y∈N,Ys N T y<Ys N T (bstGo N T 0 0 N)∨Ys N T y=Ys N T (bstGo N T 0 0 N)∧bstGo N T 0 0 N≤y):=by
 rw[Px]
 have hw:=Tt N T N (0,0) h.wrk_zero.symm
 rw[←hw]
 exact⟨Tu N T N (0,0),fun y hy=>Ft N T N [] (0,0) (fun _ q=>by cases q) y (.inr hy)⟩
theorem best_same{U:List Int}{V:List Zk}{N:List Int}{T:List Zk}(h:Sub U V N T)(hc:chkTr N T=0)(hs:∀ y∈N,y∈U):bstGo U V 0 0 U=bstGo N T 0 0 N:=by
 have okN:=TrOk.of hc
 have okU:=TrOk.of h.chk
 obtain⟨a1,a2⟩:=best_max okN
 obtain⟨b1,b2⟩:=best_max okU
 obtain⟨p,hp⟩:∃ p,bstGo N T 0 0 N=p:=⟨_,rfl⟩
 obtain⟨q,hq⟩:∃ q,bstGo U V 0 0 U=q:=⟨_,rfl⟩
 rw[hp] at a1 a2 ⊢
 rw[hq] at b1 b2 ⊢
 have hwq:Ys U V q=Ys N T q:=h.wrk hc b1
 rcases a1 with a1|a1
 ·rcases b1 with b1|b1
  ·rw[a1,b1]
  ·have e:=a2 q (h.mem q b1)
   rw[a1,okN.wrk_zero] at e
   have:=okN.wrk_pos (h.mem q b1)
   omega
 ·have e1:=b2 p (hs p a1)
  rw[h.wrk hc (.inr (hs p a1)),hwq] at e1
  rcases b1 with b1|b1
  ·rw[b1,okN.wrk_zero] at e1
   have:=okN.wrk_pos a1
   omega
  ·have e2:=a2 q (h.mem q b1)
   omega
end Go.Proofs.YtmomfkikogbdeaaGreatDoor.Tr
