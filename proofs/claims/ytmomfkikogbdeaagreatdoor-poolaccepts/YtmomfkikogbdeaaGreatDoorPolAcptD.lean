/- Closed facts of the card PoolAccepts, one by one. -/
import Derived.Test.YtmomfkikogbdeaaGreatDoorCards
import Derived.SevenTiedAt
namespace Go.Proofs.YtmomfkikogbdeaaGreatDoor.poolAccepts

theorem kd_wf : Rows.poolAcceptsRow.wfByText (OpenSpec.ofChange Rows.poolAcceptsSpec) = true := by kernel_rfl
theorem kd_main : Tryz.pinned.checked.prog.mainIs = some (Rows.poolAcceptsCard.stood.harness.1, Rows.poolAcceptsCard.stood.harness.2.toList) := by kernel_rfl
theorem kd_named : Tryz.prog.funcNamed "cairn/cairnlaw.PoolAccepts" = some 7 := by kernel_rfl
theorem kd_looks : Rows.poolAcceptsCard.stood.looks = Tryz.pinned.checked.prog.looks [] := by kernel_rfl
theorem kd_goes : false = Rows.poolAcceptsRow.goesBy Tryz.pinned.checked.prog := by kernel_rfl

end Go.Proofs.YtmomfkikogbdeaaGreatDoor.poolAccepts
