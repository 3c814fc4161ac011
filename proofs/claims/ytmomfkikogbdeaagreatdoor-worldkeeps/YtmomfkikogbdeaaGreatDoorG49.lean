import Derived.Test.YtmomfkikogbdeaaGreatDoorRows
import Derived.JoinedOf
namespace Go.Proofs.YtmomfkikogbdeaaGreatDoor.worldKeeps
theorem Ex:(Rows.worldKeepsRow.inPlace == Tryz.pinned.checked.prog.inPlace 14)=true:=by kernel_rfl
theorem Lv:(Rows.worldKeepsRow.unfollowed == Tryz.pinned.checked.prog.unfollowed 14)=true:=by kernel_rfl
theorem A7:(Rows.worldKeepsRow.recurses == Tryz.pinned.checked.prog.recurses 14)=true:=by kernel_rfl
theorem Zic:(Rows.worldKeepsRow.named == Tryz.pinned.checked.prog.varsNamed 14)=true:=by kernel_rfl
theorem cl_a:laidOutB Tryz.pinned.checked.prog=true:=by kernel_rfl
theorem cl_b:mapsRowed Tryz.pinned.checked.prog=true:=by kernel_rfl
theorem cl_c:Tryz.pinned.checked.prog.stopsHeard=true:=by kernel_rfl
theorem cl_d:Tryz.pinned.checked.prog.mayEnter=true:=by kernel_rfl
theorem cl_e:Rows.worldKeepsRow.wf (OpenSpec.ofChange Rows.worldKeepsSpec)=true:=by kernel_rfl
theorem Znf:joinedFacts Tryz.pinned.checked.prog 14 Tryz.f14 Rows.worldKeepsSpec Rows.worldKeepsRow=true:=by
 unfold joinedFacts;rw[cl_e,cl_a,cl_b,Ex,Lv,A7,Zic,cl_c,cl_d]
 kernel_rfl
