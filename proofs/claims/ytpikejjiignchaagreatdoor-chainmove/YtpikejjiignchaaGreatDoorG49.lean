import Derived.Test.YtpikejjiignchaaGreatDoorRows
import Derived.JoinedOf
namespace Go.Proofs.YtpikejjiignchaaGreatDoor.chainMove
theorem Zen:(Rows.chainMoveRow.inPlace == Tryz.pinned.checked.prog.inPlace 4)=true:=by kernel_rfl
theorem Fo:(Rows.chainMoveRow.unfollowed == Tryz.pinned.checked.prog.unfollowed 4)=true:=by kernel_rfl
theorem Zcg:(Rows.chainMoveRow.recurses == Tryz.pinned.checked.prog.recurses 4)=true:=by kernel_rfl
theorem Zmx:(Rows.chainMoveRow.named == Tryz.pinned.checked.prog.varsNamed 4)=true:=by kernel_rfl
theorem cl_a:laidOutB Tryz.pinned.checked.prog=true:=by kernel_rfl
theorem cl_b:mapsRowed Tryz.pinned.checked.prog=true:=by kernel_rfl
theorem cl_c:Tryz.pinned.checked.prog.stopsHeard=true:=by kernel_rfl
theorem cl_d:Tryz.pinned.checked.prog.mayEnter=true:=by kernel_rfl
theorem cl_e:Rows.chainMoveRow.wf (OpenSpec.ofChange Rows.chainMoveSpec)=true:=by kernel_rfl
theorem Zre:joinedFacts Tryz.pinned.checked.prog 4 Tryz.f4 Rows.chainMoveSpec Rows.chainMoveRow=true:=by
 unfold joinedFacts;rw[cl_e,cl_a,cl_b,Zen,Fo,Zcg,Zmx,cl_c,cl_d]
 kernel_rfl
