import Derived.Test.YtmomfkikogbdeaaGreatDoorRows
import Derived.JoinedOf
namespace Go.Proofs.YtmomfkikogbdeaaGreatDoor.worldNet
theorem Bz:(Rows.worldNetRow.inPlace == Tryz.pinned.checked.prog.inPlace 13)=true:=by kernel_rfl
theorem Ka:(Rows.worldNetRow.unfollowed == Tryz.pinned.checked.prog.unfollowed 13)=true:=by kernel_rfl
theorem Fr:(Rows.worldNetRow.recurses == Tryz.pinned.checked.prog.recurses 13)=true:=by kernel_rfl
theorem Zex:(Rows.worldNetRow.named == Tryz.pinned.checked.prog.varsNamed 13)=true:=by kernel_rfl
theorem cl_a:laidOutB Tryz.pinned.checked.prog=true:=by kernel_rfl
theorem cl_b:mapsRowed Tryz.pinned.checked.prog=true:=by kernel_rfl
theorem cl_c:Tryz.pinned.checked.prog.stopsHeard=true:=by kernel_rfl
theorem cl_d:Tryz.pinned.checked.prog.mayEnter=true:=by kernel_rfl
theorem cl_e:Rows.worldNetRow.wf (OpenSpec.ofChange Rows.worldNetSpec)=true:=by kernel_rfl
theorem Zjy:joinedFacts Tryz.pinned.checked.prog 13 Tryz.f13 Rows.worldNetSpec Rows.worldNetRow=true:=by
 unfold joinedFacts;rw[cl_e,cl_a,cl_b,Bz,Ka,Fr,Zex,cl_c,cl_d]
 kernel_rfl
