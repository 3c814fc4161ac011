/- Closed facts of the card PoolConnects, one by one. -/
import Derived.Test.YtmomfkikogbdeaaGreatDoorCards
import Derived.SevenTiedAt
namespace Go.Proofs.YtmomfkikogbdeaaGreatDoor.poolConnects

theorem kd_wf : Rows.poolConnectsRow.wfByText (OpenSpec.ofChange Rows.poolConnectsSpec) = true := by kernel_rfl
theorem kd_main : Tryz.pinned.checked.prog.mainIs = some (Rows.poolConnectsCard.stood.harness.1, Rows.poolConnectsCard.stood.harness.2.toList) := by kernel_rfl
theorem kd_named : Tryz.prog.funcNamed "cairn/cairnlaw.PoolConnects" = some 6 := by kernel_rfl
theorem kd_looks : Rows.poolConnectsCard.stood.looks = Tryz.pinned.checked.prog.looks [] := by kernel_rfl
theorem kd_goes : false = Rows.poolConnectsRow.goesBy Tryz.pinned.checked.prog := by kernel_rfl

end Go.Proofs.YtmomfkikogbdeaaGreatDoor.poolConnects
