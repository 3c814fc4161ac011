/- Proved: whatever is handed in, the law WorldNet returns true and its arguments read behind the call as they did before: the card, its 4 listed variables tied to the program's text; no condition else.
   The frame of the row follows the guide's worked examples. -/
import Derived.Test.YtmomfkikogbdeaaGreatDoorG50
import Derived.Test.YtmomfkikogbdeaaGreatDoorTie
import Derived.Test.YtmomfkikogbdeaaGreatDoorG53
namespace Go.Proofs.YtmomfkikogbdeaaGreatDoor.worldNet
open Go.ChangeShapes Go.WideShapes Go.ChangeAt Go.RowKit
theorem card:Rows.WorldNetCardSaid:=
 Claim7.holds_tied_plain_at .later [] [.data,.data,.data,.data] true Rows.worldNetCard.stood.harness Rows.worldNetCard.stood.looks
  said (λ_ h=>by cases h) kd_wf (λ_ h=>by cases h) worldNet_row_tie rfl ⟨rfl,rfl⟩ Zhe rfl
  (λf fn hf ab=>by
   obtain rfl:f=13:=Option.some.inj (kd_named.symm.trans hf) |>.symm;obtain rfl:fn=Tryz.f13:=(Option.some.inj (Tryz.func13.symm.trans ab)).symm
   exact⟨Zeg,λj t z=>by
    rw[Tryz.params13] at z;have hm:t∈[90,3]:=(by simpa using Array.mem_of_getElem? z);have Q:([90,3].all λu=>!Tryz.prog.wantsStandIn u)=true:=(by kernel_rfl);exact (show Tryz.prog.wantsStandIn t=false by simpa using List.all_eq_true.1 Q t hm)⟩)
  Zhf
#print axioms card
end worldNet
theorem worldNet_holds:Rows.WorldNetCardSaid:=worldNet.card
