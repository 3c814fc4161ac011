/- Closed facts of the card ChainMoves, one by one. -/
import Derived.Test.YtmomfkikogbdeaaGreatDoorCards
import Derived.SevenTiedAt
namespace Go.Proofs.YtmomfkikogbdeaaGreatDoor.chainMoves

theorem kd_wf : Rows.chainMovesRow.wfByText (OpenSpec.ofChange Rows.chainMovesSpec) = true := by kernel_rfl
theorem kd_main : Tryz.pinned.checked.prog.mainIs = some (Rows.chainMovesCard.stood.harness.1, Rows.chainMovesCard.stood.harness.2.toList) := by kernel_rfl
theorem kd_named : Tryz.prog.funcNamed "cairn/cairnlaw.ChainMoves" = some 3 := by kernel_rfl
theorem kd_looks : Rows.chainMovesCard.stood.looks = Tryz.pinned.checked.prog.looks [] := by kernel_rfl
theorem kd_goes : false = Rows.chainMovesRow.goesBy Tryz.pinned.checked.prog := by kernel_rfl

end Go.Proofs.YtmomfkikogbdeaaGreatDoor.chainMoves
