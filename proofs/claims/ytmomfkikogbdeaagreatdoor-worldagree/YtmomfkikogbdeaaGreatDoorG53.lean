/- Proved: whatever is handed in, the law WorldAgree returns true and its arguments read behind the call as they did before: the card, its 4 listed variables tied to the program's text; no condition else.
   The frame of the row follows the guide's worked examples. -/
import Derived.Test.YtmomfkikogbdeaaGreatDoorG49
import Derived.Test.YtmomfkikogbdeaaGreatDoorTie
import Derived.Test.YtmomfkikogbdeaaGreatDoorG52
namespace Go.Proofs.YtmomfkikogbdeaaGreatDoor.worldAgree
open Go.ChangeShapes Go.WideShapes Go.ChangeAt Go.RowKit
theorem card:Rows.WorldAgreeCardSaid:=
 Claim7.holds_tied_plain_at .later [] [.data,.data,.data,.data] true Rows.worldAgreeCard.stood.harness Rows.worldAgreeCard.stood.looks
  said (λ_ h=>by cases h) kd_wf (λ_ h=>by cases h) worldAgree_row_tie rfl ⟨rfl,rfl⟩ Zob rfl
  (λf fn hf ad=>by
   obtain rfl:f=12:=Option.some.inj (kd_named.symm.trans hf) |>.symm;obtain rfl:fn=Tryz.f12:=(Option.some.inj (Tryz.func12.symm.trans ad)).symm
   exact⟨Zkq,λj t ht=>by
    rw[Tryz.params12] at ht;have hm:t∈[90]:=(by simpa using Array.mem_of_getElem? ht);have ab:([90].all λu=>!Tryz.prog.wantsStandIn u)=true:=(by kernel_rfl);exact (show Tryz.prog.wantsStandIn t=false by simpa using List.all_eq_true.1 ab t hm)⟩)
  Zoc
#print axioms card
end worldAgree
theorem worldAgree_holds:Rows.WorldAgreeCardSaid:=worldAgree.card
