/- The closed facts of the row BlockConnect, one by one: together they are more than the memory holds. -/
import Derived.Test.YtepmnpapdknocaaGreatDoorRows
import Derived.JoinedOf
namespace Go.Proofs.YtepmnpapdknocaaGreatDoor.blockConnect

theorem cl_inPlace : (Rows.blockConnectRow.inPlace == Tryz.pinned.checked.prog.inPlace 3) = true := by kernel_rfl
theorem cl_unfollowed : (Rows.blockConnectRow.unfollowed == Tryz.pinned.checked.prog.unfollowed 3) = true := by kernel_rfl
theorem cl_recurses : (Rows.blockConnectRow.recurses == Tryz.pinned.checked.prog.recurses 3) = true := by kernel_rfl
theorem cl_named : (Rows.blockConnectRow.named == Tryz.pinned.checked.prog.varsNamed 3) = true := by kernel_rfl
theorem cl_a : laidOutB Tryz.pinned.checked.prog = true := by kernel_rfl
theorem cl_b : mapsRowed Tryz.pinned.checked.prog = true := by kernel_rfl
theorem cl_c : Tryz.pinned.checked.prog.stopsHeard = true := by kernel_rfl
theorem cl_d : Tryz.pinned.checked.prog.mayEnter = true := by kernel_rfl
theorem cl_e : Rows.blockConnectRow.wf (OpenSpec.ofChange Rows.blockConnectSpec) = true := by kernel_rfl
theorem closed : joinedFacts Tryz.pinned.checked.prog 3 Tryz.f3 Rows.blockConnectSpec Rows.blockConnectRow = true := by
  unfold joinedFacts
  rw [cl_e, cl_a, cl_b, cl_inPlace, cl_unfollowed, cl_recurses, cl_named, cl_c, cl_d]
  kernel_rfl

end Go.Proofs.YtepmnpapdknocaaGreatDoor.blockConnect
