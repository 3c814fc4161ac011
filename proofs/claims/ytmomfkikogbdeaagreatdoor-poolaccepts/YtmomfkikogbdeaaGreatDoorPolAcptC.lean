/- The closed facts of the row PoolAccepts, one by one: together they are more than the memory holds. -/
import Derived.Test.YtmomfkikogbdeaaGreatDoorRows
import Derived.JoinedOf
namespace Go.Proofs.YtmomfkikogbdeaaGreatDoor.poolAccepts

theorem cl_inPlace : (Rows.poolAcceptsRow.inPlace == Tryz.pinned.checked.prog.inPlace 7) = true := by kernel_rfl
theorem cl_unfollowed : (Rows.poolAcceptsRow.unfollowed == Tryz.pinned.checked.prog.unfollowed 7) = true := by kernel_rfl
theorem cl_recurses : (Rows.poolAcceptsRow.recurses == Tryz.pinned.checked.prog.recurses 7) = true := by kernel_rfl
theorem cl_named : (Rows.poolAcceptsRow.named == Tryz.pinned.checked.prog.varsNamed 7) = true := by kernel_rfl
theorem cl_a : laidOutB Tryz.pinned.checked.prog = true := by kernel_rfl
theorem cl_b : mapsRowed Tryz.pinned.checked.prog = true := by kernel_rfl
theorem cl_c : Tryz.pinned.checked.prog.stopsHeard = true := by kernel_rfl
theorem cl_d : Tryz.pinned.checked.prog.mayEnter = true := by kernel_rfl
theorem cl_e : Rows.poolAcceptsRow.wf (OpenSpec.ofChange Rows.poolAcceptsSpec) = true := by kernel_rfl
theorem closed : joinedFacts Tryz.pinned.checked.prog 7 Tryz.f7 Rows.poolAcceptsSpec Rows.poolAcceptsRow = true := by
  unfold joinedFacts
  rw [cl_e, cl_a, cl_b, cl_inPlace, cl_unfollowed, cl_recurses, cl_named, cl_c, cl_d]
  kernel_rfl

end Go.Proofs.YtmomfkikogbdeaaGreatDoor.poolAccepts
