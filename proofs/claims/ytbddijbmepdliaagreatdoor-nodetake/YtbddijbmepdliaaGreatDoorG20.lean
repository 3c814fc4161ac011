/- Proved: whatever is handed in, the law NodeTake returns true and its arguments read behind the call as they did before: the card, its 6 listed variables tied to the program's text; no condition else.
   The frame of the row follows the guide's worked examples. -/
import Derived.Test.YtbddijbmepdliaaGreatDoorG16
import Derived.Test.YtbddijbmepdliaaGreatDoorTie
import Derived.Test.YtbddijbmepdliaaGreatDoorG19
namespace Go.Proofs.YtbddijbmepdliaaGreatDoor.nodeTake
open Go.ChangeShapes Go.WideShapes Go.ChangeAt Go.RowKit
theorem card:Rows.NodeTakeCardSaid:=
 Claim7.holds_tied_plain_at .later [] [.data,.data,.data,.listed,.data,.data] true Rows.nodeTakeCard.stood.harness Rows.nodeTakeCard.stood.looks
  said (λ_ h=>by cases h) kd_wf (λ_ h=>by cases h) nodeTake_row_tie rfl ⟨rfl,rfl⟩ Zqh rfl
  (λf fn hf ad=>by
   obtain rfl:f=3:=Option.some.inj (kd_named.symm.trans hf) |>.symm;obtain rfl:fn=Tryz.f3:=(Option.some.inj (Tryz.func3.symm.trans ad)).symm
   exact⟨Zmh,λj t ht=>by
    rw[Tryz.params3] at ht;have hm:t∈[24,31,33]:=(by simpa using Array.mem_of_getElem? ht);have ab:([24,31,33].all λu=>!Tryz.prog.wantsStandIn u)=true:=(by kernel_rfl);exact (show Tryz.prog.wantsStandIn t=false by simpa using List.all_eq_true.1 ab t hm)⟩)
  Zqi
#print axioms card
end nodeTake
theorem nodeTake_holds:Rows.NodeTakeCardSaid:=nodeTake.card
