/- Proved: whatever is handed in, the law WorldKeeps returns true and its arguments read behind the call as they did before: the card, its 4 listed variables tied to the program's text; no condition else.
   The frame of the row follows the guide's worked examples. -/
import Derived.Test.YtmomfkikogbdeaaGreatDoorG50
import Derived.Test.YtmomfkikogbdeaaGreatDoorTie
import Derived.Test.YtmomfkikogbdeaaGreatDoorG53
namespace Go.Proofs.YtmomfkikogbdeaaGreatDoor.worldKeeps
open Go.ChangeShapes Go.WideShapes Go.ChangeAt Go.RowKit
theorem card:Rows.WorldKeepsCardSaid:=
 Claim7.holds_tied_plain_at .later [] [.data,.data,.data,.data] true Rows.worldKeepsCard.stood.harness Rows.worldKeepsCard.stood.looks
  said (λ_ h=>by cases h) kd_wf (λ_ h=>by cases h) worldKeeps_row_tie rfl ⟨rfl,rfl⟩ Zkk rfl
  (λf fn hf ab=>by
   obtain rfl:f=14:=Option.some.inj (kd_named.symm.trans hf) |>.symm;obtain rfl:fn=Tryz.f14:=(Option.some.inj (Tryz.func14.symm.trans ab)).symm
   exact⟨Zhg,λj t z=>by
    rw[Tryz.params14] at z;have hm:t∈[90,103]:=(by simpa using Array.mem_of_getElem? z);have Q:([90,103].all λu=>!Tryz.prog.wantsStandIn u)=true:=(by kernel_rfl);exact (show Tryz.prog.wantsStandIn t=false by simpa using List.all_eq_true.1 Q t hm)⟩)
  Zkl
#print axioms card
end worldKeeps
theorem worldKeeps_holds:Rows.WorldKeepsCardSaid:=worldKeeps.card
