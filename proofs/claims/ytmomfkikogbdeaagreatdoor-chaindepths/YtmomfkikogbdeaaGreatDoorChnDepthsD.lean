/- Closed facts of the card ChainDepths, one by one. -/
import Derived.Test.YtmomfkikogbdeaaGreatDoorCards
import Derived.SevenTiedAt
namespace Go.Proofs.YtmomfkikogbdeaaGreatDoor.chainDepths

theorem kd_wf : Rows.chainDepthsRow.wfByText (OpenSpec.ofChange Rows.chainDepthsSpec) = true := by kernel_rfl
theorem kd_main : Tryz.pinned.checked.prog.mainIs = some (Rows.chainDepthsCard.stood.harness.1, Rows.chainDepthsCard.stood.harness.2.toList) := by kernel_rfl
theorem kd_named : Tryz.prog.funcNamed "cairn/cairnlaw.ChainDepths" = some 4 := by kernel_rfl
theorem kd_looks : Rows.chainDepthsCard.stood.looks = Tryz.pinned.checked.prog.looks [] := by kernel_rfl
theorem kd_goes : false = Rows.chainDepthsRow.goesBy Tryz.pinned.checked.prog := by kernel_rfl

end Go.Proofs.YtmomfkikogbdeaaGreatDoor.chainDepths
