/- Proved: whatever is handed in, the law WorldHonest returns true and its arguments read behind the call as they did before: the card, its 4 listed variables tied to the program's text; no condition else.
   The frame of the row follows the guide's worked examples. -/
import Derived.Test.YtmomfkikogbdeaaGreatDoorG50
import Derived.Test.YtmomfkikogbdeaaGreatDoorTie
import Derived.Test.YtmomfkikogbdeaaGreatDoorG53
namespace Go.Proofs.YtmomfkikogbdeaaGreatDoor.worldHonest
open Go.ChangeShapes Go.WideShapes Go.ChangeAt Go.RowKit
theorem card:Rows.WorldHonestCardSaid:=
 Claim7.holds_tied_plain_at .later [] [.data,.data,.data,.data] true Rows.worldHonestCard.stood.harness Rows.worldHonestCard.stood.looks
  said (λ_ h=>by cases h) kd_wf (λ_ h=>by cases h) worldHonest_row_tie rfl ⟨rfl,rfl⟩ Zom rfl
  (λf fn hf ab=>by
   obtain rfl:f=15:=Option.some.inj (kd_named.symm.trans hf) |>.symm;obtain rfl:fn=Tryz.f15:=(Option.some.inj (Tryz.func15.symm.trans ab)).symm
   exact⟨Zlb,λj t z=>by
    rw[Tryz.params15] at z;have hm:t∈[3,109]:=(by simpa using Array.mem_of_getElem? z);have Q:([3,109].all λu=>!Tryz.prog.wantsStandIn u)=true:=(by kernel_rfl);exact (show Tryz.prog.wantsStandIn t=false by simpa using List.all_eq_true.1 Q t hm)⟩)
  Zon
#print axioms card
end worldHonest
theorem worldHonest_holds:Rows.WorldHonestCardSaid:=worldHonest.card
