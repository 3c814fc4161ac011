/- Proved: whatever is handed in, the law PoolConnects returns true and its arguments read behind the call as they did before: the card, its 4 listed variables tied to the program's text; no condition else.
   The frame of the row follows the guide's worked examples. -/
import Derived.Test.YtmomfkikogbdeaaGreatDoorPolConnS
import Derived.Test.YtmomfkikogbdeaaGreatDoorPolConnD
import Derived.Test.YtmomfkikogbdeaaGreatDoorCards
import Derived.Test.YtmomfkikogbdeaaGreatDoorTie
import Derived.SevenTiedAt
namespace Go.Proofs.YtmomfkikogbdeaaGreatDoor.poolConnects
open Go.ChangeShapes Go.WideShapes Go.ChangeAt Go.RowKit

theorem card : Rows.PoolConnectsCardSaid :=
  Claim7.holds_tied_plain_at .later [] [.data, .data, .data, .data] true Rows.poolConnectsCard.stood.harness Rows.poolConnectsCard.stood.looks
    said (fun _ h => by cases h) kd_wf (fun _ h => by cases h) poolConnects_row_tie rfl ⟨rfl, rfl⟩ kd_main rfl
    (fun f fn hf hfn => by
      obtain rfl : f = 6 := Option.some.inj (kd_named.symm.trans hf) |>.symm
      obtain rfl : fn = Tryz.f6 := (Option.some.inj (Tryz.func6.symm.trans hfn)).symm
      exact ⟨kd_looks, fun j t ht => by
        rw [Tryz.params6] at ht
        have hm : t ∈ [24, 29, 37, 3, 48] := by simpa using Array.mem_of_getElem? ht
        have hall : ([24, 29, 37, 3, 48].all fun u => !Tryz.prog.wantsStandIn u) = true := by kernel_rfl
        exact (show Tryz.prog.wantsStandIn t = false by simpa using List.all_eq_true.1 hall t hm)⟩)
    kd_goes
#print axioms card
end Go.Proofs.YtmomfkikogbdeaaGreatDoor.poolConnects

namespace Go.Proofs.YtmomfkikogbdeaaGreatDoor
theorem poolConnects_holds : Rows.PoolConnectsCardSaid := poolConnects.card
end Go.Proofs.YtmomfkikogbdeaaGreatDoor
