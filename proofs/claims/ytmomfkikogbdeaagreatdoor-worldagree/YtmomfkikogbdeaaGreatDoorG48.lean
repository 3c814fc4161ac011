import Derived.Test.YtmomfkikogbdeaaGreatDoorRows
import Derived.JoinedOf
namespace Go.Proofs.YtmomfkikogbdeaaGreatDoor.worldAgree
theorem Zcl:(Rows.worldAgreeRow.inPlace == Tryz.pinned.checked.prog.inPlace 12)=true:=by kernel_rfl
theorem Mu:(Rows.worldAgreeRow.unfollowed == Tryz.pinned.checked.prog.unfollowed 12)=true:=by kernel_rfl
theorem Er:(Rows.worldAgreeRow.recurses == Tryz.pinned.checked.prog.recurses 12)=true:=by kernel_rfl
theorem Zlj:(Rows.worldAgreeRow.named == Tryz.pinned.checked.prog.varsNamed 12)=true:=by kernel_rfl
theorem cl_a:laidOutB Tryz.pinned.checked.prog=true:=by kernel_rfl
theorem cl_b:mapsRowed Tryz.pinned.checked.prog=true:=by kernel_rfl
theorem cl_c:Tryz.pinned.checked.prog.stopsHeard=true:=by kernel_rfl
theorem cl_d:Tryz.pinned.checked.prog.mayEnter=true:=by kernel_rfl
theorem cl_e:Rows.worldAgreeRow.wf (OpenSpec.ofChange Rows.worldAgreeSpec)=true:=by kernel_rfl
theorem Zrg:joinedFacts Tryz.pinned.checked.prog 12 Tryz.f12 Rows.worldAgreeSpec Rows.worldAgreeRow=true:=by
 unfold joinedFacts;rw[cl_e,cl_a,cl_b,Zcl,Mu,Er,Zlj,cl_c,cl_d]
 kernel_rfl
