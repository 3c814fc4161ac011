/- Proved: whatever is handed in, the law ChainMove returns true and its arguments read behind the call as they did before: the card, its 6 listed variables tied to the program's text; no condition else.
   The frame of the row follows the guide's worked examples. -/
import Derived.Test.YtpikejjiignchaaGreatDoorG50
import Derived.Test.YtpikejjiignchaaGreatDoorTie
import Derived.Test.YtpikejjiignchaaGreatDoorG53
namespace Go.Proofs.YtpikejjiignchaaGreatDoor.chainMove
open Go.ChangeShapes Go.WideShapes Go.ChangeAt Go.RowKit
theorem card:Rows.ChainMoveCardSaid:=
 Claim7.holds_tied_plain_at .later [] [.data,.data,.data,.listed,.data,.data] true Rows.chainMoveCard.stood.harness Rows.chainMoveCard.stood.looks
  said (λ_ h=>by cases h) kd_wf (λ_ h=>by cases h) chainMove_row_tie rfl ⟨rfl,rfl⟩ Zop rfl
  (λf fn hf ab=>by
   obtain rfl:f=4:=Option.some.inj (kd_named.symm.trans hf) |>.symm;obtain rfl:fn=Tryz.f4:=(Option.some.inj (Tryz.func4.symm.trans ab)).symm
   exact⟨Zly,λj t z=>by
    rw[Tryz.params4] at z;have hm:t∈[24,28,29,3,3]:=(by simpa using Array.mem_of_getElem? z);have O:([24,28,29,3,3].all λu=>!Tryz.prog.wantsStandIn u)=true:=(by kernel_rfl);exact (show Tryz.prog.wantsStandIn t=false by simpa using List.all_eq_true.1 O t hm)⟩)
  Zoq
#print axioms card
end chainMove
theorem chainMove_holds:Rows.ChainMoveCardSaid:=chainMove.card
