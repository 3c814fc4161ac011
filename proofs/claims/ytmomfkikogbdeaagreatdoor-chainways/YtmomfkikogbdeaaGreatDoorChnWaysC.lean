/- The closed facts of the row ChainWays, one by one: together they are more than the memory holds. -/
import Derived.Test.YtmomfkikogbdeaaGreatDoorRows
import Derived.JoinedOf
namespace Go.Proofs.YtmomfkikogbdeaaGreatDoor.chainWays

theorem cl_inPlace : (Rows.chainWaysRow.inPlace == Tryz.pinned.checked.prog.inPlace 5) = true := by kernel_rfl
theorem cl_unfollowed : (Rows.chainWaysRow.unfollowed == Tryz.pinned.checked.prog.unfollowed 5) = true := by kernel_rfl
theorem cl_recurses : (Rows.chainWaysRow.recurses == Tryz.pinned.checked.prog.recurses 5) = true := by kernel_rfl
theorem cl_named : (Rows.chainWaysRow.named == Tryz.pinned.checked.prog.varsNamed 5) = true := by kernel_rfl
theorem cl_a : laidOutB Tryz.pinned.checked.prog = true := by kernel_rfl
theorem cl_b : mapsRowed Tryz.pinned.checked.prog = true := by kernel_rfl
theorem cl_c : Tryz.pinned.checked.prog.stopsHeard = true := by kernel_rfl
theorem cl_d : Tryz.pinned.checked.prog.mayEnter = true := by kernel_rfl
theorem cl_e : Rows.chainWaysRow.wf (OpenSpec.ofChange Rows.chainWaysSpec) = true := by kernel_rfl
theorem closed : joinedFacts Tryz.pinned.checked.prog 5 Tryz.f5 Rows.chainWaysSpec Rows.chainWaysRow = true := by
  unfold joinedFacts
  rw [cl_e, cl_a, cl_b, cl_inPlace, cl_unfollowed, cl_recurses, cl_named, cl_c, cl_d]
  kernel_rfl

end Go.Proofs.YtmomfkikogbdeaaGreatDoor.chainWays
