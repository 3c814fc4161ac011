/- Proved: whatever is handed in, the law NodeGrows returns true and its arguments read behind the call as they did before: the card, its 4 listed variables tied to the program's text; no condition else.
   The frame of the row follows the guide's worked examples. -/
import Derived.Test.YtmomfkikogbdeaaGreatDoorTie
import Derived.Test.YtmomfkikogbdeaaGreatDoorG58
import Derived.Test.YtmomfkikogbdeaaGreatDoorG59
namespace Go.Proofs.YtmomfkikogbdeaaGreatDoor.nodeGrows
open Go.ChangeShapes Go.WideShapes Go.ChangeAt Go.RowKit
theorem card:Rows.NodeGrowsCardSaid:=
 Claim7.holds_tied_plain_at .later [] [.data,.data,.data,.data] true Rows.nodeGrowsCard.stood.harness Rows.nodeGrowsCard.stood.looks
  Ge (fun _ h=>by cases h) Hb (fun _ h=>by cases h) nodeGrows_row_tie rfl ⟨rfl,rfl⟩ Qj rfl
  (fun f fn hf hfn=>by
   obtain rfl:f=8:=Option.some.inj (kd_named.symm.trans hf) |>.symm
   obtain rfl:fn=Tryz.f8:=(Option.some.inj (Tryz.func8.symm.trans hfn)).symm
   exact⟨Vz,fun j t ht=>by
    rw[Tryz.params8] at ht
    have hm:t∈[24,67,39]:=by simpa using Array.mem_of_getElem? ht
    have hall:([24,67,39].all fun u=>!Tryz.prog.wantsStandIn u)=true:=by kernel_rfl
    exact (show Tryz.prog.wantsStandIn t=false by simpa using List.all_eq_true.1 hall t hm)⟩)
  Qk
#print axioms card
end Go.Proofs.YtmomfkikogbdeaaGreatDoor.nodeGrows
namespace Go.Proofs.YtmomfkikogbdeaaGreatDoor
theorem nodeGrows_holds:Rows.NodeGrowsCardSaid:=nodeGrows.card
end Go.Proofs.YtmomfkikogbdeaaGreatDoor
