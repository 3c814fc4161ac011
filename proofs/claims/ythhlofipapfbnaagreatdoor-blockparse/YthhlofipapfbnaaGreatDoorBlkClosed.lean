/- The closed facts of the row BlockParse, one by one: together they are more than the memory holds. -/
import Derived.Test.YthhlofipapfbnaaGreatDoorRows
import Derived.JoinedOf
namespace Go.Proofs.YthhlofipapfbnaaGreatDoor

theorem blkcl_inPlace : (Rows.blockParseRow.inPlace == Tryz.pinned.checked.prog.inPlace 3) = true := by kernel_rfl
theorem blkcl_unfollowed : (Rows.blockParseRow.unfollowed == Tryz.pinned.checked.prog.unfollowed 3) = true := by kernel_rfl
theorem blkcl_recurses : (Rows.blockParseRow.recurses == Tryz.pinned.checked.prog.recurses 3) = true := by kernel_rfl
theorem blkcl_named : (Rows.blockParseRow.named == Tryz.pinned.checked.prog.varsNamed 3) = true := by kernel_rfl
theorem blkcl_a : laidOutB Tryz.pinned.checked.prog = true := by kernel_rfl
theorem blkcl_b : mapsRowed Tryz.pinned.checked.prog = true := by kernel_rfl
theorem blkcl_c : Tryz.pinned.checked.prog.stopsHeard = true := by kernel_rfl
theorem blkcl_d : Tryz.pinned.checked.prog.mayEnter = true := by kernel_rfl
theorem blkcl_e : Rows.blockParseRow.wf (OpenSpec.ofChange Rows.blockParseSpec) = true := by kernel_rfl
theorem blk_closed : joinedFacts Tryz.pinned.checked.prog 3 Tryz.f3 Rows.blockParseSpec Rows.blockParseRow = true := by
  unfold joinedFacts
  rw [blkcl_e, blkcl_a, blkcl_b, blkcl_inPlace, blkcl_unfollowed, blkcl_recurses, blkcl_named, blkcl_c, blkcl_d]
  kernel_rfl

end Go.Proofs.YthhlofipapfbnaaGreatDoor
