/- Proved: whatever is handed in, the law NodeMake returns true and its arguments read behind the call as they did before: the card, its 6 listed variables tied to the program's text; no condition else.
   The frame of the row follows the guide's worked examples. -/
import Derived.Test.YtnkcjkcbfbpckaaGreatDoorG16
import Derived.Test.YtnkcjkcbfbpckaaGreatDoorTie
import Derived.Test.YtnkcjkcbfbpckaaGreatDoorG19
namespace Go.Proofs.YtnkcjkcbfbpckaaGreatDoor.nodeMake
open Go.ChangeShapes Go.WideShapes Go.ChangeAt Go.RowKit
theorem card:Rows.NodeMakeCardSaid:=
 Claim7.holds_tied_plain_at .later [] [.data,.data,.data,.listed,.data,.data] true Rows.nodeMakeCard.stood.harness Rows.nodeMakeCard.stood.looks
  said (λ_ h=>by cases h) kd_wf (λ_ h=>by cases h) nodeMake_row_tie rfl ⟨rfl,rfl⟩ Zsq rfl
  (λf fn hf ad=>by
   obtain rfl:f=3:=Option.some.inj (kd_named.symm.trans hf) |>.symm;obtain rfl:fn=Tryz.f3:=(Option.some.inj (Tryz.func3.symm.trans ad)).symm
   exact⟨Zov,λj t ht=>by
    rw[Tryz.params3] at ht;have hm:t∈[24,31,35,3,3,36,31]:=(by simpa using Array.mem_of_getElem? ht);have ab:([24,31,35,3,3,36,31].all λu=>!Tryz.prog.wantsStandIn u)=true:=(by kernel_rfl);exact (show Tryz.prog.wantsStandIn t=false by simpa using List.all_eq_true.1 ab t hm)⟩)
  Zsr
#print axioms card
end nodeMake
theorem nodeMake_holds:Rows.NodeMakeCardSaid:=nodeMake.card
