/- Closed facts of the card ChainWays, one by one. -/
import Derived.Test.YtmomfkikogbdeaaGreatDoorCards
import Derived.SevenTiedAt
namespace Go.Proofs.YtmomfkikogbdeaaGreatDoor.chainWays

theorem kd_wf : Rows.chainWaysRow.wfByText (OpenSpec.ofChange Rows.chainWaysSpec) = true := by kernel_rfl
theorem kd_main : Tryz.pinned.checked.prog.mainIs = some (Rows.chainWaysCard.stood.harness.1, Rows.chainWaysCard.stood.harness.2.toList) := by kernel_rfl
theorem kd_named : Tryz.prog.funcNamed "cairn/cairnlaw.ChainWays" = some 5 := by kernel_rfl
theorem kd_looks : Rows.chainWaysCard.stood.looks = Tryz.pinned.checked.prog.looks [] := by kernel_rfl
theorem kd_goes : false = Rows.chainWaysRow.goesBy Tryz.pinned.checked.prog := by kernel_rfl

end Go.Proofs.YtmomfkikogbdeaaGreatDoor.chainWays
