import Derived.Test.YtbddijbmepdliaaGreatDoorRows
import Derived.JoinedOf
namespace Go.Proofs.YtbddijbmepdliaaGreatDoor.nodeTake
theorem Zdy:(Rows.nodeTakeRow.inPlace == Tryz.pinned.checked.prog.inPlace 3)=true:=by kernel_rfl
theorem Dc:(Rows.nodeTakeRow.unfollowed == Tryz.pinned.checked.prog.unfollowed 3)=true:=by kernel_rfl
theorem Zbb:(Rows.nodeTakeRow.recurses == Tryz.pinned.checked.prog.recurses 3)=true:=by kernel_rfl
theorem Znl:(Rows.nodeTakeRow.named == Tryz.pinned.checked.prog.varsNamed 3)=true:=by kernel_rfl
theorem cl_a:laidOutB Tryz.pinned.checked.prog=true:=by kernel_rfl
theorem cl_b:mapsRowed Tryz.pinned.checked.prog=true:=by kernel_rfl
theorem cl_c:Tryz.pinned.checked.prog.stopsHeard=true:=by kernel_rfl
theorem cl_d:Tryz.pinned.checked.prog.mayEnter=true:=by kernel_rfl
theorem cl_e:Rows.nodeTakeRow.wf (OpenSpec.ofChange Rows.nodeTakeSpec)=true:=by kernel_rfl
theorem Ztf:joinedFacts Tryz.pinned.checked.prog 3 Tryz.f3 Rows.nodeTakeSpec Rows.nodeTakeRow=true:=by
 unfold joinedFacts;rw[cl_e,cl_a,cl_b,Zdy,Dc,Zbb,Znl,cl_c,cl_d]
 kernel_rfl
