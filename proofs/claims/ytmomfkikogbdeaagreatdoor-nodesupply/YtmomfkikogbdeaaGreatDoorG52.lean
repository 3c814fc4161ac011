/- Proved: whatever is handed in, the law NodeSupply returns true and its arguments read behind the call as they did before: the card, its 4 listed variables tied to the program's text; no condition else.
   The frame of the row follows the guide's worked examples. -/
import Derived.Test.YtmomfkikogbdeaaGreatDoorG50
import Derived.Test.YtmomfkikogbdeaaGreatDoorTie
import Derived.Test.YtmomfkikogbdeaaGreatDoorG51
namespace Go.Proofs.YtmomfkikogbdeaaGreatDoor.nodeSupply
open Go.ChangeShapes Go.WideShapes Go.ChangeAt Go.RowKit
theorem card:Rows.NodeSupplyCardSaid:=
 Claim7.holds_tied_plain_at .later [] [.data,.data,.data,.data] true Rows.nodeSupplyCard.stood.harness Rows.nodeSupplyCard.stood.looks
  Ge (fun _ h=>by cases h) Hb (fun _ h=>by cases h) nodeSupply_row_tie rfl ⟨rfl,rfl⟩ Qj rfl
  (fun f fn hf hfn=>by
   obtain rfl:f=9:=Option.some.inj (kd_named.symm.trans hf) |>.symm
   obtain rfl:fn=Tryz.f9:=(Option.some.inj (Tryz.func9.symm.trans hfn)).symm
   exact⟨Vz,fun j t ht=>by
    rw[Tryz.params9] at ht
    have hm:t∈[24,67]:=by simpa using Array.mem_of_getElem? ht
    have hall:([24,67].all fun u=>!Tryz.prog.wantsStandIn u)=true:=by kernel_rfl
    exact (show Tryz.prog.wantsStandIn t=false by simpa using List.all_eq_true.1 hall t hm)⟩)
  Qk
#print axioms card
end Go.Proofs.YtmomfkikogbdeaaGreatDoor.nodeSupply
namespace Go.Proofs.YtmomfkikogbdeaaGreatDoor
theorem nodeSupply_holds:Rows.NodeSupplyCardSaid:=nodeSupply.card
end Go.Proofs.YtmomfkikogbdeaaGreatDoor
