/- The closed facts of the row PoolConnects, one by one: together they are more than the memory holds. -/
import Derived.Test.YtmomfkikogbdeaaGreatDoorRows
import Derived.JoinedOf
namespace Go.Proofs.YtmomfkikogbdeaaGreatDoor.poolConnects

theorem cl_inPlace : (Rows.poolConnectsRow.inPlace == Tryz.pinned.checked.prog.inPlace 6) = true := by kernel_rfl
theorem cl_unfollowed : (Rows.poolConnectsRow.unfollowed == Tryz.pinned.checked.prog.unfollowed 6) = true := by kernel_rfl
theorem cl_recurses : (Rows.poolConnectsRow.recurses == Tryz.pinned.checked.prog.recurses 6) = true := by kernel_rfl
theorem cl_named : (Rows.poolConnectsRow.named == Tryz.pinned.checked.prog.varsNamed 6) = true := by kernel_rfl
theorem cl_a : laidOutB Tryz.pinned.checked.prog = true := by kernel_rfl
theorem cl_b : mapsRowed Tryz.pinned.checked.prog = true := by kernel_rfl
theorem cl_c : Tryz.pinned.checked.prog.stopsHeard = true := by kernel_rfl
theorem cl_d : Tryz.pinned.checked.prog.mayEnter = true := by kernel_rfl
theorem cl_e : Rows.poolConnectsRow.wf (OpenSpec.ofChange Rows.poolConnectsSpec) = true := by kernel_rfl
theorem closed : joinedFacts Tryz.pinned.checked.prog 6 Tryz.f6 Rows.poolConnectsSpec Rows.poolConnectsRow = true := by
  unfold joinedFacts
  rw [cl_e, cl_a, cl_b, cl_inPlace, cl_unfollowed, cl_recurses, cl_named, cl_c, cl_d]
  kernel_rfl

end Go.Proofs.YtmomfkikogbdeaaGreatDoor.poolConnects
