/- The contract of clone.Node (written by a program of ours: mkclnode.py). -/
import Derived.Test.YtmomfkikogbdeaaGreatDoorNodReadToNodM
import Derived.Test.YtmomfkikogbdeaaGreatDoorTrClTreeToTrFirst
import Derived.Test.YtmomfkikogbdeaaGreatDoorTrCheckToTrAdd
import Derived.Test.YtmomfkikogbdeaaGreatDoorTrMemToTrIdx
set_option maxHeartbeats 6400000
set_option maxRecDepth 10000
namespace Go.Proofs.YtmomfkikogbdeaaGreatDoor
open Go.RowKit
theorem Gi{fn:Func}{p:Tmp}{ty:TypeId}(h:fn.results=#[.cell p ty])(tmps:Array Value)(P:Program)(w:World) :
  (results fn tmps).run P w=((asAddr (tmps.getD p undef)).run P w).andThen fun a w₁=>(loadVar ty a).run P w₁:=Zz h tmps P w
theorem Gr.four{w w1:World}{S:Nat→Prop}(h:Gr w w1 S)(b:Nat)(hb:S b∨w.heap.size≤b)(a0 a1 a2 a3:Value):Gr w ((((w1.setCell ⟨b,0,none⟩ a0).setCell ⟨b,1,none⟩ a1).setCell ⟨b,2,none⟩ a2).setCell ⟨b,3,none⟩ a3) S:=
 (((h.one b 0 hb a0).one b 1 hb a1).one b 2 hb a2).one b 3 hb a3
def ClnR(w w':World)(N:List Int)(T:List Zg)(P:List TxD)(nn pn:Nat)(tip:Int)(e:Ending):Prop:=
 ∃ na nc ba bc pa pc,e = .returned (.agg #[.slice na nn nc,.slice ba nn bc,.slice pa pn pc,.int .i64 tip])∧Fresh w.heap.size w' (fun w2=>Tr.IntsAt w2 na nn N∧Tr.BlksAt w2 ba nn T∧TxsAt w2 pa pn P)∧SlOk na nn nc∧SlOk ba nn bc∧SlOk pa pn pc∧Below w.heap.size w w'
theorem Fr(na ba pa:Option Addr)(nn nc bc pn pc:Nat)(N:List Int)(T:List Zg)(P:List TxD)(tip:Int)(w:World)(hN:Tr.IntsAt w na nn N)(hT:Tr.BlksAt w ba nn T)(hP:TxsAt w pa pn P)(sN:SlOk na nn nc)(sT:SlOk ba nn bc)(sP:SlOk pa pn pc)(hn:nn≤4096)(hs:∀ t∈T,Tr.BlkSmall t)(hp:pn≤2513169434916)(hq:∀ t∈P,Tr.TxSmall t) :
  Calls Tryz.prog 171 #[.agg #[.slice na nn nc,.slice ba nn bc,.slice pa pn pc,.int .i64 tip]] w fun e w'=>ClnR w w' N T P nn pn tip e:=by
 obtain⟨X,hX⟩:∃ X,X=Y5 w [.cells #[.slice na nn nc,.slice ba nn bc,.slice pa pn pc,.int .i64 tip] 67,.cells #[.slice none 0 0,.slice none 0 0,.slice none 0 0,.int .i64 0] 67]:=⟨_,rfl⟩
 have hX':X=(w.alloc (.cells #[.slice na nn nc,.slice ba nn bc,.slice pa pn pc,.int .i64 tip] 67)).alloc (.cells #[.slice none 0 0,.slice none 0 0,.slice none 0 0,.int .i64 0] 67):=hX
 have hbX:Below w.heap.size w X:=by rw[hX];exact Z7 _ _
 have hXs:X.heap.size=w.heap.size+2:=by rw[hX];exact Yn _ _
 have x0:X.heap[w.heap.size]? = some (.cells [.slice na nn nc,.slice ba nn bc,.slice pa pn pc,.int .i64 tip].toArray 67 (0,0)):=by rw[hX];exact Zj _ w 0 _ rfl
 have x1:X.heap[w.heap.size+1]? = some (.cells [.slice none 0 0,.slice none 0 0,.slice none 0 0,.int .i64 0].toArray 67 (0,0)):=by rw[hX];exact Zj _ w 1 _ rfl
 have C1:=hide (Tr.clTree_is na ba nn nc bc N T X.drew (hN.later (bel_on hbX (Ze X))) (hT.later (bel_on hbX (Ze X))) sN sT hn hs)
 have C2:=hide (fun V (hv:Below w.heap.size w V)=>Tr.clTxs_is pa pn pc P V (hP.later hv) sP hp hq)
 have HBX:=hide hbX
 have HXs:=hide hXs
 have HX0:=hide x0
 have HX1:=hide x1
 have t0:=Za x0 0 _ rfl
 have t1:=Za x0 1 _ rfl
 have t2:=Za x0 2 _ rfl
 have tl:=lt_of_block x0
 have KS:Hid (∀ U:World,X.heap.size≤U.heap.size→w.heap.size<U.heap.size):=fun U hu=>Nat.lt_of_lt_of_le tl hu
 have KC:Hid (∀ U:World,Below X.heap.size X U→(U.cell? ⟨w.heap.size,0,none⟩=some (.slice na nn nc)∧U.cell? ⟨w.heap.size,1,none⟩=some (.slice ba nn bc)∧U.cell? ⟨w.heap.size,2,none⟩=some (.slice pa pn pc)∧w.heap.size<U.heap.size)):=fun U hu=>⟨cell_later hu t0,cell_later hu t1,cell_later hu t2,Nat.lt_of_lt_of_le tl hu.size⟩
 clear hN hT hP sN sT sP hn hs hp hq hbX hXs x0 x1 hX
 go_enter Tryz.func171,Tryz.ntmps171
 go_upto_region 1 with fail
 rw[←hX']
 clear hX'
 go_cut [] from 3 to 10 (fun wx=>Hid (∃ v1 v2 v3,wx.heap[w.heap.size]? = some (.cells [v1,v2,v3,.int .i64 tip].toArray 67 (0,0))∧∃ a1 c1 a2 c2 a3 c3,v1 = .slice a1 nn c1∧v2 = .slice a2 nn c2∧v3 = .slice a3 pn c3∧Fresh X.heap.size wx (fun w2=>Tr.IntsAt w2 a1 nn N∧Tr.BlksAt w2 a2 nn T∧TxsAt w2 a3 pn P)∧SlOk a1 nn c1∧SlOk a2 nn c2∧SlOk a3 pn c3∧Gr X wx (fun q=>q=w.heap.size)))
 case first=>
  refine wp_region_held_drew (S:=fun U=>w.heap.size<U.heap.size) (by kernel_rfl) ((unhide KS) _ (Nat.le_refl _)) (fun hHeld=>?_)
  refine tk 0 ⟨some 3,.fieldAddr 67 (.tmp 1) 0,0, "clone.go:64",#[],none⟩ ?_ rfl ?_ hHeld ?_
  rotate_left
  ·(intro U hSw;(try dsimp only at hSw);go_simp;first|done|with_reducible rfl)
  (try simp only[Act.put,ZA,ZB,ZC])
  refine tk 3 ⟨some 6,.fieldAddr 67 (.tmp 1) 1,0, "clone.go:64",#[],none⟩ ?_ rfl ?_ hHeld ?_
  rotate_left
  ·(intro U hSw;(try dsimp only at hSw);go_simp;first|done|with_reducible rfl)
  (try simp only[Act.put,ZA,ZB,ZC])
  have hb:=Ze X
  refine wpAnyH_ready (rs:=[1,4]) (by kernel_rfl) (by simp) ?_
  refine AllReadyH.cons (o:=⟨some 4,.load 28 (.tmp 3),28, "clone.go:64",#[⟨0,.data⟩],none⟩) rfl (fun KQ hK=>?_) (AllReadyH.cons (o:=⟨some 7,.load 37 (.tmp 6),37, "clone.go:64",#[⟨3,.data⟩],none⟩) rfl (fun KQ hK=>?_) AllReadyH.nil)
  ·obtain⟨l0,l1,l2,ll⟩:=(unhide KC) X.drew hb
   go_simp
   clear l0 l1 l2 ll
   refine hK.out _ _ ((unhide KS) _ hb.size) (fun hHeld2=>?_)
   clear hK KQ hHeld
   have hHeld:=hHeld2
   clear hHeld2
   (try simp only[Act.put,ZA,ZB,ZC])
   refine wpAnyH_ready (rs:=[2,4]) (by kernel_rfl) (by simp) ?_
   refine AllReadyH.cons (o:=⟨some 5,.call { callee:=Callee.value (.func 135),args:=#[.tmp 4],argTypes:=#[28] },28, "clone.go:64",#[⟨1,.data⟩],none⟩) rfl (fun KQ hK=>?_) (AllReadyH.cons (o:=⟨some 7,.load 37 (.tmp 6),37, "clone.go:64",#[⟨3,.data⟩],none⟩) rfl (fun KQ hK=>?_) AllReadyH.nil)
   ·refine Zf (by kernel_rfl) 135 #[.agg #[.slice na nn nc,.slice ba nn bc]] (by kernel_rfl) (unhide C1) ?_
    rintro e w5 ⟨v1,v2,rfl,hO5,hb5⟩
    obtain⟨a1,c1,a2,c2,rfl,rfl,-,s1,-,s2⟩:=hO5.read
    refine⟨_,rfl,?_⟩
    have hb:=bel_on (Ze X) hb5
    refine hK.out _ _ ((unhide KS) _ hb.size) (fun hHeld2=>?_)
    clear hK KQ hHeld
    have hHeld:=hHeld2
    clear hHeld2
    (try simp only[Act.put,ZA,ZB,ZC])
    refine wpAnyH_ready (rs:=[4]) (by kernel_rfl) (by simp) ?_
    refine AllReadyH.cons (o:=⟨some 7,.load 37 (.tmp 6),37, "clone.go:64",#[⟨3,.data⟩],none⟩) rfl (fun KQ hK=>?_) AllReadyH.nil
    obtain⟨l0,l1,l2,ll⟩:=(unhide KC) w5 hb
    go_simp
    clear l0 l1 l2 ll
    refine hK.out _ _ ((unhide KS) _ hb.size) (fun hHeld2=>?_)
    clear hK KQ hHeld
    have hHeld:=hHeld2
    clear hHeld2
    (try simp only[Act.put,ZA,ZB,ZC])
    refine tk 6 ⟨some 9,.fieldAddr 67 (.tmp 1) 0,0, "clone.go:64",#[⟨0,.phase⟩,⟨1,.phase⟩,⟨2,.phase⟩,⟨3,.phase⟩,⟨4,.phase⟩,⟨5,.textOnly .lateStoresUnsure⟩],none⟩ ?_ rfl ?_ hHeld ?_
    rotate_left
    ·(intro U hSw;(try dsimp only at hSw);go_simp;first|done|with_reducible rfl)
    (try simp only[Act.put,ZA,ZB,ZC])
    refine wpAnyH_ready (rs:=[5]) (by kernel_rfl) (by simp) ?_
    refine AllReadyH.cons (o:=⟨some 8,.call { callee:=Callee.value (.func 142),args:=#[.tmp 7],argTypes:=#[37] },37, "clone.go:64",#[⟨4,.data⟩,⟨2,.chain⟩],none⟩) rfl (fun KQ hK=>?_) AllReadyH.nil
    refine Zf (by kernel_rfl) 142 #[.slice pa pn pc] (by kernel_rfl) ((unhide C2) w5 (bel_on (unhide HBX) hb)) ?_
    rintro e w6 ⟨a3,c3,rfl,hF6,hb6⟩
    refine⟨_,rfl,?_⟩
    have hb6x:=bel_on hb hb6
    refine hK.out _ _ ((unhide KS) _ hb6x.size) (fun hHeld2=>?_)
    clear hK KQ hHeld
    have hHeld:=hHeld2
    clear hHeld2
    (try simp only[Act.put,ZA,ZB,ZC])
    have hz:=(hb6x.block _ (lt_of_block (unhide HX0))).trans (unhide HX0)
    have y0:=Za hz 0 _ rfl
    have y1:=Za hz 1 _ rfl
    have y2:=Za hz 2 _ rfl
    have g0:=Zb hz 0
    have g1:=Zb hz 1
    have g2:=Zb hz 2
    have yl:=lt_of_block hz
    have hsc:(w6.setCell ⟨w.heap.size,0,none⟩ (.slice a1 nn c1)).heap.size=w6.heap.size:=by simp[World.setCell]
    refine wpAnyH_ready (rs:=[7]) (by kernel_rfl) (by simp) ?_
    refine AllReadyH.cons (o:=⟨none,.store 28 (.tmp 9) (.tmp 5),0, "clone.go:64",#[⟨6,.data⟩,⟨2,.data⟩,⟨5,.chain⟩,⟨0,.phase⟩,⟨1,.phase⟩,⟨2,.phase⟩,⟨3,.phase⟩,⟨4,.phase⟩,⟨5,.textOnly .lateStoresUnsure⟩],none⟩) rfl (fun KQ hK=>?_) AllReadyH.nil
    go_simp
    refine hK.out _ _ ((unhide KS) _ (by simpa[World.setCell] using hb6x.size)) (fun hHeld2=>?_)
    clear hK KQ hHeld
    have hHeld:=hHeld2
    clear hHeld2
    (try simp only[Act.put])
    refine tk 8 ⟨some 10,.fieldAddr 67 (.tmp 1) 1,0, "clone.go:64",#[⟨0,.phase⟩,⟨1,.phase⟩,⟨2,.phase⟩,⟨3,.phase⟩,⟨4,.phase⟩,⟨5,.phase⟩,⟨6,.phase⟩,⟨7,.phase⟩],none⟩ ?_ rfl ?_ hHeld ?_
    rotate_left
    ·(intro U hSw;(try dsimp only at hSw);go_simp;first|done|with_reducible rfl)
    (try simp only[Act.put,ZA,ZB,ZC])
    refine wpAnyH_ready (rs:=[9]) (by kernel_rfl) (by simp) ?_
    refine AllReadyH.cons (o:=⟨none,.store 37 (.tmp 10) (.tmp 8),0, "clone.go:64",#[⟨8,.data⟩,⟨5,.data⟩,⟨7,.chain⟩,⟨0,.phase⟩,⟨1,.phase⟩,⟨2,.phase⟩,⟨3,.phase⟩,⟨4,.phase⟩,⟨5,.phase⟩,⟨6,.phase⟩,⟨7,.phase⟩],none⟩) rfl (fun KQ hK=>?_) AllReadyH.nil
    go_simp
    refine hK.out _ _ ((unhide KS) _ (by simpa[World.setCell] using hb6x.size)) (fun hHeld2=>?_)
    clear hK KQ hHeld
    have hHeld:=hHeld2
    clear hHeld2
    (try simp only[Act.put])
    refine wpAnyH_done (by kernel_rfl) ?_ _
    clear hHeld
    go_wp2_with fail
    go_meet
    case rel=>
     have gg:Gr w6 (((w6.setCell ⟨w.heap.size,0,none⟩ (.slice a1 nn c1)).setCell ⟨w.heap.size,1,none⟩ (.slice a2 nn c2)).setCell ⟨w.heap.size,2,none⟩ (.slice a3 pn c3)) (fun q=>q=w.heap.size):=(((Gr.refl w6 (fun q=>q=w.heap.size)).one w.heap.size 0 (.inl rfl) _).one w.heap.size 1 (.inl rfl) _).one w.heap.size 2 (.inl rfl) _
     have hxs:=unhide HXs
     have h5s:=hb.size
     have hxd:X.drew.heap.size=X.heap.size:=rfl
     refine⟨_,_,_,Tr.set_cells (Tr.set_cells (Tr.set_cells hz 0 _) 1 _) 2 _,a1,c1,a2,c2,a3,c3,rfl,rfl,rfl,fun W2 g2=>?_,s1,s2,(hF6 w6 (Gr.refl _ _)).2,(Gr.of hb6x).trans gg⟩
     have k1:=(hO5.gr ((Gr.of hb6).trans ((gg.mono (fun q _ e=>by have e:q=w.heap.size:=e;omega)).trans (g2.mono (fun q _ e=>by omega))))).read
     obtain⟨b1,d1,b2,d2,q1,q2,i1,-,i2,-⟩:=k1
     injection q1 with q1 _ _
     injection q2 with q2 _ _
     subst q1 q2
     exact⟨i1,i2,(hF6 W2 ((gg.mono (fun q _ e=>by have e:q=w.heap.size:=e;omega)).trans (g2.mono (fun q _ e=>by omega)))).1⟩
   ·obtain⟨l0,l1,l2,ll⟩:=(unhide KC) X.drew hb
    go_simp
    clear l0 l1 l2 ll
    refine hK.out _ _ ((unhide KS) _ hb.size) (fun hHeld2=>?_)
    clear hK KQ hHeld
    have hHeld:=hHeld2
    clear hHeld2
    (try simp only[Act.put,ZA,ZB,ZC])
    refine wpAnyH_ready (rs:=[2]) (by kernel_rfl) (by simp) ?_
    refine AllReadyH.cons (o:=⟨some 5,.call { callee:=Callee.value (.func 135),args:=#[.tmp 4],argTypes:=#[28] },28, "clone.go:64",#[⟨1,.data⟩],none⟩) rfl (fun KQ hK=>?_) AllReadyH.nil
    refine Zf (by kernel_rfl) 135 #[.agg #[.slice na nn nc,.slice ba nn bc]] (by kernel_rfl) (unhide C1) ?_
    rintro e w5 ⟨v1,v2,rfl,hO5,hb5⟩
    obtain⟨a1,c1,a2,c2,rfl,rfl,-,s1,-,s2⟩:=hO5.read
    refine⟨_,rfl,?_⟩
    have hb:=bel_on (Ze X) hb5
    refine hK.out _ _ ((unhide KS) _ hb.size) (fun hHeld2=>?_)
    clear hK KQ hHeld
    have hHeld:=hHeld2
    clear hHeld2
    (try simp only[Act.put,ZA,ZB,ZC])
    refine tk 6 ⟨some 9,.fieldAddr 67 (.tmp 1) 0,0, "clone.go:64",#[⟨0,.phase⟩,⟨1,.phase⟩,⟨2,.phase⟩,⟨3,.phase⟩,⟨4,.phase⟩,⟨5,.textOnly .lateStoresUnsure⟩],none⟩ ?_ rfl ?_ hHeld ?_
    rotate_left
    ·(intro U hSw;(try dsimp only at hSw);go_simp;first|done|with_reducible rfl)
    (try simp only[Act.put,ZA,ZB,ZC])
    refine wpAnyH_ready (rs:=[5]) (by kernel_rfl) (by simp) ?_
    refine AllReadyH.cons (o:=⟨some 8,.call { callee:=Callee.value (.func 142),args:=#[.tmp 7],argTypes:=#[37] },37, "clone.go:64",#[⟨4,.data⟩,⟨2,.chain⟩],none⟩) rfl (fun KQ hK=>?_) AllReadyH.nil
    refine Zf (by kernel_rfl) 142 #[.slice pa pn pc] (by kernel_rfl) ((unhide C2) w5 (bel_on (unhide HBX) hb)) ?_
    rintro e w6 ⟨a3,c3,rfl,hF6,hb6⟩
    refine⟨_,rfl,?_⟩
    have hb6x:=bel_on hb hb6
    refine hK.out _ _ ((unhide KS) _ hb6x.size) (fun hHeld2=>?_)
    clear hK KQ hHeld
    have hHeld:=hHeld2
    clear hHeld2
    (try simp only[Act.put,ZA,ZB,ZC])
    have hz:=(hb6x.block _ (lt_of_block (unhide HX0))).trans (unhide HX0)
    have y0:=Za hz 0 _ rfl
    have y1:=Za hz 1 _ rfl
    have y2:=Za hz 2 _ rfl
    have g0:=Zb hz 0
    have g1:=Zb hz 1
    have g2:=Zb hz 2
    have yl:=lt_of_block hz
    have hsc:(w6.setCell ⟨w.heap.size,0,none⟩ (.slice a1 nn c1)).heap.size=w6.heap.size:=by simp[World.setCell]
    refine wpAnyH_ready (rs:=[7]) (by kernel_rfl) (by simp) ?_
    refine AllReadyH.cons (o:=⟨none,.store 28 (.tmp 9) (.tmp 5),0, "clone.go:64",#[⟨6,.data⟩,⟨2,.data⟩,⟨5,.chain⟩,⟨0,.phase⟩,⟨1,.phase⟩,⟨2,.phase⟩,⟨3,.phase⟩,⟨4,.phase⟩,⟨5,.textOnly .lateStoresUnsure⟩],none⟩) rfl (fun KQ hK=>?_) AllReadyH.nil
    go_simp
    refine hK.out _ _ ((unhide KS) _ (by simpa[World.setCell] using hb6x.size)) (fun hHeld2=>?_)
    clear hK KQ hHeld
    have hHeld:=hHeld2
    clear hHeld2
    (try simp only[Act.put])
    refine tk 8 ⟨some 10,.fieldAddr 67 (.tmp 1) 1,0, "clone.go:64",#[⟨0,.phase⟩,⟨1,.phase⟩,⟨2,.phase⟩,⟨3,.phase⟩,⟨4,.phase⟩,⟨5,.phase⟩,⟨6,.phase⟩,⟨7,.phase⟩],none⟩ ?_ rfl ?_ hHeld ?_
    rotate_left
    ·(intro U hSw;(try dsimp only at hSw);go_simp;first|done|with_reducible rfl)
    (try simp only[Act.put,ZA,ZB,ZC])
    refine wpAnyH_ready (rs:=[9]) (by kernel_rfl) (by simp) ?_
    refine AllReadyH.cons (o:=⟨none,.store 37 (.tmp 10) (.tmp 8),0, "clone.go:64",#[⟨8,.data⟩,⟨5,.data⟩,⟨7,.chain⟩,⟨0,.phase⟩,⟨1,.phase⟩,⟨2,.phase⟩,⟨3,.phase⟩,⟨4,.phase⟩,⟨5,.phase⟩,⟨6,.phase⟩,⟨7,.phase⟩],none⟩) rfl (fun KQ hK=>?_) AllReadyH.nil
    go_simp
    refine hK.out _ _ ((unhide KS) _ (by simpa[World.setCell] using hb6x.size)) (fun hHeld2=>?_)
    clear hK KQ hHeld
    have hHeld:=hHeld2
    clear hHeld2
    (try simp only[Act.put])
    refine wpAnyH_done (by kernel_rfl) ?_ _
    clear hHeld
    go_wp2_with fail
    go_meet
    case rel=>
     have gg:Gr w6 (((w6.setCell ⟨w.heap.size,0,none⟩ (.slice a1 nn c1)).setCell ⟨w.heap.size,1,none⟩ (.slice a2 nn c2)).setCell ⟨w.heap.size,2,none⟩ (.slice a3 pn c3)) (fun q=>q=w.heap.size):=(((Gr.refl w6 (fun q=>q=w.heap.size)).one w.heap.size 0 (.inl rfl) _).one w.heap.size 1 (.inl rfl) _).one w.heap.size 2 (.inl rfl) _
     have hxs:=unhide HXs
     have h5s:=hb.size
     have hxd:X.drew.heap.size=X.heap.size:=rfl
     refine⟨_,_,_,Tr.set_cells (Tr.set_cells (Tr.set_cells hz 0 _) 1 _) 2 _,a1,c1,a2,c2,a3,c3,rfl,rfl,rfl,fun W2 g2=>?_,s1,s2,(hF6 w6 (Gr.refl _ _)).2,(Gr.of hb6x).trans gg⟩
     have k1:=(hO5.gr ((Gr.of hb6).trans ((gg.mono (fun q _ e=>by have e:q=w.heap.size:=e;omega)).trans (g2.mono (fun q _ e=>by omega))))).read
     obtain⟨b1,d1,b2,d2,q1,q2,i1,-,i2,-⟩:=k1
     injection q1 with q1 _ _
     injection q2 with q2 _ _
     subst q1 q2
     exact⟨i1,i2,(hF6 W2 ((gg.mono (fun q _ e=>by have e:q=w.heap.size:=e;omega)).trans (g2.mono (fun q _ e=>by omega)))).1⟩
  ·obtain⟨l0,l1,l2,ll⟩:=(unhide KC) X.drew hb
   go_simp
   clear l0 l1 l2 ll
   refine hK.out _ _ ((unhide KS) _ hb.size) (fun hHeld2=>?_)
   clear hK KQ hHeld
   have hHeld:=hHeld2
   clear hHeld2
   (try simp only[Act.put,ZA,ZB,ZC])
   refine wpAnyH_ready (rs:=[1]) (by kernel_rfl) (by simp) ?_
   refine AllReadyH.cons (o:=⟨some 4,.load 28 (.tmp 3),28, "clone.go:64",#[⟨0,.data⟩],none⟩) rfl (fun KQ hK=>?_) AllReadyH.nil
   obtain⟨l0,l1,l2,ll⟩:=(unhide KC) X.drew hb
   go_simp
   clear l0 l1 l2 ll
   refine hK.out _ _ ((unhide KS) _ hb.size) (fun hHeld2=>?_)
   clear hK KQ hHeld
   have hHeld:=hHeld2
   clear hHeld2
   (try simp only[Act.put,ZA,ZB,ZC])
   refine wpAnyH_ready (rs:=[2]) (by kernel_rfl) (by simp) ?_
   refine AllReadyH.cons (o:=⟨some 5,.call { callee:=Callee.value (.func 135),args:=#[.tmp 4],argTypes:=#[28] },28, "clone.go:64",#[⟨1,.data⟩],none⟩) rfl (fun KQ hK=>?_) AllReadyH.nil
   refine Zf (by kernel_rfl) 135 #[.agg #[.slice na nn nc,.slice ba nn bc]] (by kernel_rfl) (unhide C1) ?_
   rintro e w5 ⟨v1,v2,rfl,hO5,hb5⟩
   obtain⟨a1,c1,a2,c2,rfl,rfl,-,s1,-,s2⟩:=hO5.read
   refine⟨_,rfl,?_⟩
   have hb:=bel_on (Ze X) hb5
   refine hK.out _ _ ((unhide KS) _ hb.size) (fun hHeld2=>?_)
   clear hK KQ hHeld
   have hHeld:=hHeld2
   clear hHeld2
   (try simp only[Act.put,ZA,ZB,ZC])
   refine tk 6 ⟨some 9,.fieldAddr 67 (.tmp 1) 0,0, "clone.go:64",#[⟨0,.phase⟩,⟨1,.phase⟩,⟨2,.phase⟩,⟨3,.phase⟩,⟨4,.phase⟩,⟨5,.textOnly .lateStoresUnsure⟩],none⟩ ?_ rfl ?_ hHeld ?_
   rotate_left
   ·(intro U hSw;(try dsimp only at hSw);go_simp;first|done|with_reducible rfl)
   (try simp only[Act.put,ZA,ZB,ZC])
   refine wpAnyH_ready (rs:=[5]) (by kernel_rfl) (by simp) ?_
   refine AllReadyH.cons (o:=⟨some 8,.call { callee:=Callee.value (.func 142),args:=#[.tmp 7],argTypes:=#[37] },37, "clone.go:64",#[⟨4,.data⟩,⟨2,.chain⟩],none⟩) rfl (fun KQ hK=>?_) AllReadyH.nil
   refine Zf (by kernel_rfl) 142 #[.slice pa pn pc] (by kernel_rfl) ((unhide C2) w5 (bel_on (unhide HBX) hb)) ?_
   rintro e w6 ⟨a3,c3,rfl,hF6,hb6⟩
   refine⟨_,rfl,?_⟩
   have hb6x:=bel_on hb hb6
   refine hK.out _ _ ((unhide KS) _ hb6x.size) (fun hHeld2=>?_)
   clear hK KQ hHeld
   have hHeld:=hHeld2
   clear hHeld2
   (try simp only[Act.put,ZA,ZB,ZC])
   have hz:=(hb6x.block _ (lt_of_block (unhide HX0))).trans (unhide HX0)
   have y0:=Za hz 0 _ rfl
   have y1:=Za hz 1 _ rfl
   have y2:=Za hz 2 _ rfl
   have g0:=Zb hz 0
   have g1:=Zb hz 1
   have g2:=Zb hz 2
   have yl:=lt_of_block hz
   have hsc:(w6.setCell ⟨w.heap.size,0,none⟩ (.slice a1 nn c1)).heap.size=w6.heap.size:=by simp[World.setCell]
   refine wpAnyH_ready (rs:=[7]) (by kernel_rfl) (by simp) ?_
   refine AllReadyH.cons (o:=⟨none,.store 28 (.tmp 9) (.tmp 5),0, "clone.go:64",#[⟨6,.data⟩,⟨2,.data⟩,⟨5,.chain⟩,⟨0,.phase⟩,⟨1,.phase⟩,⟨2,.phase⟩,⟨3,.phase⟩,⟨4,.phase⟩,⟨5,.textOnly .lateStoresUnsure⟩],none⟩) rfl (fun KQ hK=>?_) AllReadyH.nil
   go_simp
   refine hK.out _ _ ((unhide KS) _ (by simpa[World.setCell] using hb6x.size)) (fun hHeld2=>?_)
   clear hK KQ hHeld
   have hHeld:=hHeld2
   clear hHeld2
   (try simp only[Act.put])
   refine tk 8 ⟨some 10,.fieldAddr 67 (.tmp 1) 1,0, "clone.go:64",#[⟨0,.phase⟩,⟨1,.phase⟩,⟨2,.phase⟩,⟨3,.phase⟩,⟨4,.phase⟩,⟨5,.phase⟩,⟨6,.phase⟩,⟨7,.phase⟩],none⟩ ?_ rfl ?_ hHeld ?_
   rotate_left
   ·(intro U hSw;(try dsimp only at hSw);go_simp;first|done|with_reducible rfl)
   (try simp only[Act.put,ZA,ZB,ZC])
   refine wpAnyH_ready (rs:=[9]) (by kernel_rfl) (by simp) ?_
   refine AllReadyH.cons (o:=⟨none,.store 37 (.tmp 10) (.tmp 8),0, "clone.go:64",#[⟨8,.data⟩,⟨5,.data⟩,⟨7,.chain⟩,⟨0,.phase⟩,⟨1,.phase⟩,⟨2,.phase⟩,⟨3,.phase⟩,⟨4,.phase⟩,⟨5,.phase⟩,⟨6,.phase⟩,⟨7,.phase⟩],none⟩) rfl (fun KQ hK=>?_) AllReadyH.nil
   go_simp
   refine hK.out _ _ ((unhide KS) _ (by simpa[World.setCell] using hb6x.size)) (fun hHeld2=>?_)
   clear hK KQ hHeld
   have hHeld:=hHeld2
   clear hHeld2
   (try simp only[Act.put])
   refine wpAnyH_done (by kernel_rfl) ?_ _
   clear hHeld
   go_wp2_with fail
   go_meet
   case rel=>
    have gg:Gr w6 (((w6.setCell ⟨w.heap.size,0,none⟩ (.slice a1 nn c1)).setCell ⟨w.heap.size,1,none⟩ (.slice a2 nn c2)).setCell ⟨w.heap.size,2,none⟩ (.slice a3 pn c3)) (fun q=>q=w.heap.size):=(((Gr.refl w6 (fun q=>q=w.heap.size)).one w.heap.size 0 (.inl rfl) _).one w.heap.size 1 (.inl rfl) _).one w.heap.size 2 (.inl rfl) _
    have hxs:=unhide HXs
    have h5s:=hb.size
    have hxd:X.drew.heap.size=X.heap.size:=rfl
    refine⟨_,_,_,Tr.set_cells (Tr.set_cells (Tr.set_cells hz 0 _) 1 _) 2 _,a1,c1,a2,c2,a3,c3,rfl,rfl,rfl,fun W2 g2=>?_,s1,s2,(hF6 w6 (Gr.refl _ _)).2,(Gr.of hb6x).trans gg⟩
    have k1:=(hO5.gr ((Gr.of hb6).trans ((gg.mono (fun q _ e=>by have e:q=w.heap.size:=e;omega)).trans (g2.mono (fun q _ e=>by omega))))).read
    obtain⟨b1,d1,b2,d2,q1,q2,i1,-,i2,-⟩:=k1
    injection q1 with q1 _ _
    injection q2 with q2 _ _
    subst q1 q2
    exact⟨i1,i2,(hF6 W2 ((gg.mono (fun q _ e=>by have e:q=w.heap.size:=e;omega)).trans (g2.mono (fun q _ e=>by omega)))).1⟩
 case rest=>
  obtain⟨v1,v2,v3,hb,a1,c1,a2,c2,a3,c3,rfl,rfl,rfl,hF,s1,s2,s3,hg⟩:=unhide hcut
  have e0:=Za hb 0 _ rfl
  have e1:=Za hb 1 _ rfl
  have e2:=Za hb 2 _ rfl
  have e3:=Za hb 3 _ rfl
  have el:=lt_of_block hb
  have hz:=(hg.block _ (lt_of_block (unhide HX1)) (fun e=>by have e:w.heap.size+1=w.heap.size:=e;omega)).trans (unhide HX1)
  have z0:=Za hz 0 _ rfl
  have z1:=Za hz 1 _ rfl
  have z2:=Za hz 2 _ rfl
  have z3:=Za hz 3 _ rfl
  have f0:=Zb hz 0
  have f1:=Zb hz 1
  have f2:=Zb hz 2
  have f3:=Zb hz 3
  have zl:=lt_of_block hz
  have hbw:Below w.heap.size w wc:=hg.below (unhide HBX) (unhide HBX).size (fun q e=>by have e:q=w.heap.size:=e;omega)
  have FIN:Hid (∀ W,Gr wc W (fun q=>q=w.heap.size+1)→ClnR w W N T P nn pn tip (.returned (.agg #[.slice a1 nn c1,.slice a2 nn c2,.slice a3 pn c3,.int .i64 tip]))):=fun W g=>by
   have hxs:=unhide HXs
   refine⟨a1,c1,a2,c2,a3,c3,rfl,fun W2 g2=>hF W2 ((g.mono (fun q _ e=>by have e:q=w.heap.size+1:=e;omega)).trans (g2.mono (fun q _ e=>by omega))),s1,s2,s3,g.below hbw hbw.size (fun q e=>by have e:q=w.heap.size+1:=e;omega)⟩
  clear hcut hb hF s1 s2 s3 hg hz hbw KS KC C1 C2
  go_wp2
  (try simp only[Exit.inBlock,Exit.then])
  refine bodyPost_ret (v:=.agg #[.slice a1 nn c1,.slice a2 nn c2,.slice a3 pn c3,.int .i64 tip]) ?_ rfl ?_
  ·rw[Gi rfl]
   go_simp
  ·exact (unhide FIN) _ ((Gr.refl wc (fun q=>q=w.heap.size+1)).four (w.heap.size+1) (.inl rfl) _ _ _ _)
end Go.Proofs.YtmomfkikogbdeaaGreatDoor
namespace Go.Proofs.YtmomfkikogbdeaaGreatDoor.Tr
open Go.RowKit
theorem best_is(a b:Option Addr)(n c m d:Nat)(N:List Int)(T:List Zg)(z x:Int)(w:World)(hN:IntsAt w a n N)(hT:BlksAt w b m T)(sN:SlOk a n c)(sT:SlOk b m d)(hx:bstD N T=(z,x)) :
  Calls Tryz.prog 163 #[.agg #[.slice a n c,.slice b m d]] w fun e w'=>e = .returned (.tuple #[.int .i64 z,.int .i64 x])∧Below w.heap.size w w':=by
 obtain⟨X,hX⟩:∃ X,X=w.alloc (.cells #[.slice a n c,.slice b m d] 28):=⟨_,rfl⟩
 have hbX:Below w.heap.size w X:=by rw[hX];exact bel_new _ _
 have hX0:X.heap[w.heap.size]? = some (.cells [.slice a n c,.slice b m d].toArray 28 (0,0)):=by rw[hX];exact Yh _ _ _ _
 have HB:=hide hbX
 have HX0:=hide hX0
 obtain⟨y,hy⟩:∃ y,chkTr N T=y:=⟨_,rfl⟩
 have C1:=hide (V3 a b n c m d N T y X (hN.later hbX) (hT.later hbX) sN sT hy)
 have x0:=Za hX0 0 _ rfl
 have x1:=Za hX0 1 _ rfl
 have xl:=lt_of_block hX0
 unfold bstD at hx
 rw[hy] at hx
 by_cases q:y=0
 ·subst q
  rw[if_neg (by simp)] at hx
  obtain⟨hl,h24,hH,_⟩:=Vm hy
  obtain rfl:n=m:=by rw[←hN.1,←hT.1,hl]
  have hn24:n≤24:=by rw[←hN.1];exact h24
  have hnm:n≤maxLen:=sN.len
  obtain⟨hz,rfl⟩:Y8 N T 0 0 N=z∧0=x:=⟨congrArg Prod.fst hx,congrArg Prod.snd hx⟩
  have HN:=hide (hN.later hbX)
  have HZN:=hide hN.1
  have HH:=hide hH
  have CP:=hide (fun s P pn W (hb:Below X.heap.size X W) (h1:Jn N T s=P) (h2:P.length=pn)=>Dy a b n c d N T s P pn W hnm (hN.later (bel_on hbX hb)) (hT.later (bel_on hbX hb)) hH h1 h2)
  have CW:=hide (fun pa pc pn P v W (hb:Below X.heap.size X W) (hPA:IntsAt W pa pn P) (hpl:pn≤1000) (hv:U6 N T 0 P=v)=>Db a b pa n c d pn pc N T P v W hnm (hN.later (bel_on hbX hb)) (hT.later (bel_on hbX hb)) hPA hpl hH hv)
  have HZ:Hid (Y8 N T 0 0 (N.drop 0)=z):=hz
  clear hbX hX0 hN hT sN sT hx hy hl h24 hH hnm hz
  go_enter Tryz.func163,Tryz.ntmps163
  go_wp2_with fail
  rw[←hX]
  clear hX
  refine (unhide C1).mono ?_
  rintro e w1 ⟨rfl,hb1⟩
  have hc:=(hb1.block _ (lt_of_block (unhide HX0))).trans (unhide HX0)
  have t0:=Za hc 0 _ rfl
  have tl:=lt_of_block hc
  have HB1:=hide hb1
  clear hb1 x0 x1 xl hc C1
  go_wp2
  go_loopw [5,6,18] (fun bv mv i wr=>∃ (k:Nat) (bb mm:Int),k≤n∧bv = .int .i64 bb∧mv = .int .i64 mm∧i = .int .i64 k∧Hid (Y8 N T bb mm (N.drop k)=z)∧Hid (Below X.heap.size X wr)) (fun _ _ i _=>n - (intOf i).toNat)
  case atStart=>exact⟨0,0,0,Nat.zero_le _,rfl,rfl,rfl,HZ,HB1⟩
  case round=>
   obtain⟨k,bb,mm,hk,rfl,rfl,rfl,A,HBr⟩:=hrel
   clear t0 tl HZ
   by_cases hlt:k<n
   ·have h1:k<N.length:=by rw[unhide HZN];exact hlt
    obtain⟨b1,off1,rfl,hl1,hc1⟩:=(unhide HN).2 (by omega)
    have f1:=cell_later (unhide HBr) (hc1 k h1)
    have AT:=hide (Cm N T bb mm N k h1)
    obtain⟨s,hs⟩:∃ s,N[k]=s:=⟨_,rfl⟩
    rw[hs] at f1 AT
    have ll:=Nat.lt_of_lt_of_le hl1 (unhide HBr).size
    have hcx:=((unhide HBr).block _ (lt_of_block (unhide HX0))).trans (unhide HX0)
    have t0:=Za hcx 0 _ rfl
    have t1:=Za hcx 1 _ rfl
    have tl:=lt_of_block hcx
    obtain⟨P,hP⟩:∃ P,Jn N T s=P:=⟨_,rfl⟩
    obtain⟨pn,hpn⟩:∃ pn,P.length=pn:=⟨_,rfl⟩
    obtain⟨v,hv⟩:∃ v,U6 N T 0 P=v:=⟨_,rfl⟩
    have hwv:Xu N T s=v:=by unfold Xu;rw[hP,hv]
    rw[hwv] at AT
    have hpl:pn≤1000:=by rw[←hpn,←hP];exact Ek (unhide HH) s
    have CC:=hide ((unhide CP) s P pn wr.drew (bel_on (unhide HBr) (Ze _)) hP hpn)
    have CV:=hide (fun pa pc W hb hPA=>(unhide CW) pa pc pn P v W hb hPA hpl hv)
    have hkI:(k:Int)<(n:Int):=by omega
    clear hc1 hcx hs hP hpn hv hwv hl1 hpl
    go_wp2_with fail
    go_region_with (first
     | (go_at_call 131;refine (unhide CC).mono ?_;rintro e w5 ⟨vv,rfl,ho5,hb5⟩;obtain⟨pa,pc,rfl,_,hpa⟩:=Ud ho5;have e0:=cell_later hb5 (cell_later (Ze _) t0);have e1:=cell_later hb5 (cell_later (Ze _) t1);have el:=Nat.lt_of_lt_of_le tl hb5.size;have H5:=hide (bel_on (unhide HBr) (bel_on (Ze _) hb5));have C5:=hide ((unhide CV) pa pc _ (unhide H5) hpa);clear ho5 hpa hb5)
     | (go_at_call 102;refine (unhide C5).mono ?_;rintro e w6 ⟨rfl,hb6⟩;have H6:=hide (bel_on (unhide H5) hb6);clear hb6 C5 H5))
    all_goals
     by_cases q1:mm<v
     ·have R:Hid (Y8 N T s v (N.drop (k+1))=z):=by show _=_;rw[←unhide A,unhide AT,if_pos (.inl q1)]
      clear A AT
      go_wp2
      go_roundw
      case rel=>exact⟨k+1,s,v,by omega,rfl,rfl,by go_num,R,H6⟩
      case measure=>simp[intOf];omega
     ·by_cases q2:v=mm
      ·subst q2
       by_cases q3:s<bb
       ·have R:Hid (Y8 N T s v (N.drop (k+1))=z):=by show _=_;rw[←unhide A,unhide AT,if_pos (.inr ⟨rfl,q3⟩)]
        clear A AT
        go_wp2
        go_roundw
        case rel=>exact⟨k+1,s,v,by omega,rfl,rfl,by go_num,R,H6⟩
        case measure=>simp[intOf];omega
       ·have R:Hid (Y8 N T bb v (N.drop (k+1))=z):=by
         show _=_
         rw[←unhide A,unhide AT,if_neg (by omega)]
        clear A AT
        go_wp2
        go_roundw
        case rel=>exact⟨k+1,bb,v,by omega,rfl,rfl,by go_num,R,H6⟩
        case measure=>simp[intOf];omega
      ·have R:Hid (Y8 N T bb mm (N.drop (k+1))=z):=by
        show _=_
        rw[←unhide A,unhide AT,if_neg (by omega)]
       have g2:(v == mm)=false:=by simp[q2]
       clear A AT q2
       go_wp2
       go_roundw
       case rel=>exact⟨k+1,bb,mm,by omega,rfl,rfl,by go_num,R,H6⟩
       case measure=>simp[intOf];omega
   ·have R:Hid (bb=z):=by show _=_;rw[←unhide A,F3 N T bb mm N k (by rw[unhide HZN];omega)]
    have HBF:=hide (bel_on (unhide HB) (unhide HBr))
    clear A
    go_wp2
    go_ret2
    exact⟨by rw[←unhide R];rfl,unhide HBF⟩
 ·rw[if_pos q] at hx
  obtain⟨rfl,rfl⟩:0=z∧y=x:=⟨congrArg Prod.fst hx,congrArg Prod.snd hx⟩
  have g:(y != 0)=true:=by simp[q]
  clear hbX hX0 hN hT sN sT hy hx q
  go_enter Tryz.func163,Tryz.ntmps163
  go_wp2_with fail
  rw[←hX]
  clear hX
  refine (unhide C1).mono ?_
  rintro e w1 ⟨rfl,hb1⟩
  have HB1:=hide (bel_on (unhide HB) hb1)
  clear hb1 x0 x1 xl
  go_wp2
  go_ret2
  exact⟨rfl,unhide HB1⟩
theorem fnd_out{N:List Int}{T:List Zg}{x:Int}(hl:N.length=T.length)(h:x∉N):fnd x N T=zeroB:=by
 rcases Q0 x N T 0 hl with ⟨_,_,h3⟩|⟨i,hi,_,h2,_⟩
 ·exact h3
 ·exact absurd h2 h
end Go.Proofs.YtmomfkikogbdeaaGreatDoor.Tr
