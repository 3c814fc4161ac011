/- Proved: the law NodeTwice returns true, no condition else. -/
import Derived.Test.YtmomfkikogbdeaaGreatDoorTie
import Derived.Test.YtmomfkikogbdeaaGreatDoorG64
import Derived.Test.YtmomfkikogbdeaaGreatDoorG65
namespace Go.Proofs.YtmomfkikogbdeaaGreatDoor.nodeTwice
open Go.ChangeShapes Go.WideShapes Go.ChangeAt Go.RowKit
theorem card:Rows.NodeTwiceCardSaid:=
 Claim7.holds_tied_plain_at .later [] [.data,.data,.data,.data] true Rows.nodeTwiceCard.stood.harness Rows.nodeTwiceCard.stood.looks
  Ge (fun _ h=>by cases h) Hb (fun _ h=>by cases h) nodeTwice_row_tie rfl ⟨rfl,rfl⟩ Qj rfl
  (fun f fn hf hfn=>by
   obtain rfl:f=11:=Option.some.inj (kd_named.symm.trans hf) |>.symm
   obtain rfl:fn=Tryz.f11:=(Option.some.inj (Tryz.func11.symm.trans hfn)).symm
   exact⟨Vz,fun j t ht=>by
    rw[Tryz.params11] at ht
    have hm:t∈[24,67,59,3,48]:=by simpa using Array.mem_of_getElem? ht
    have hall:([24,67,59,3,48].all fun u=>!Tryz.prog.wantsStandIn u)=true:=by kernel_rfl
    exact (show Tryz.prog.wantsStandIn t=false by simpa using List.all_eq_true.1 hall t hm)⟩)
  Qk
end Go.Proofs.YtmomfkikogbdeaaGreatDoor.nodeTwice
namespace Go.Proofs.YtmomfkikogbdeaaGreatDoor
theorem nodeTwice_holds:Rows.NodeTwiceCardSaid:=nodeTwice.card
end Go.Proofs.YtmomfkikogbdeaaGreatDoor
