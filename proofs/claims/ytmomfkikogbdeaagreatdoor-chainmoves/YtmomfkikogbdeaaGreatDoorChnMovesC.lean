/- The closed facts of the row ChainMoves, one by one: together they are more than the memory holds. -/
import Derived.Test.YtmomfkikogbdeaaGreatDoorRows
import Derived.JoinedOf
namespace Go.Proofs.YtmomfkikogbdeaaGreatDoor.chainMoves

theorem cl_inPlace : (Rows.chainMovesRow.inPlace == Tryz.pinned.checked.prog.inPlace 3) = true := by kernel_rfl
theorem cl_unfollowed : (Rows.chainMovesRow.unfollowed == Tryz.pinned.checked.prog.unfollowed 3) = true := by kernel_rfl
theorem cl_recurses : (Rows.chainMovesRow.recurses == Tryz.pinned.checked.prog.recurses 3) = true := by kernel_rfl
theorem cl_named : (Rows.chainMovesRow.named == Tryz.pinned.checked.prog.varsNamed 3) = true := by kernel_rfl
theorem cl_a : laidOutB Tryz.pinned.checked.prog = true := by kernel_rfl
theorem cl_b : mapsRowed Tryz.pinned.checked.prog = true := by kernel_rfl
theorem cl_c : Tryz.pinned.checked.prog.stopsHeard = true := by kernel_rfl
theorem cl_d : Tryz.pinned.checked.prog.mayEnter = true := by kernel_rfl
theorem cl_e : Rows.chainMovesRow.wf (OpenSpec.ofChange Rows.chainMovesSpec) = true := by kernel_rfl
theorem closed : joinedFacts Tryz.pinned.checked.prog 3 Tryz.f3 Rows.chainMovesSpec Rows.chainMovesRow = true := by
  unfold joinedFacts
  rw [cl_e, cl_a, cl_b, cl_inPlace, cl_unfollowed, cl_recurses, cl_named, cl_c, cl_d]
  kernel_rfl

end Go.Proofs.YtmomfkikogbdeaaGreatDoor.chainMoves
