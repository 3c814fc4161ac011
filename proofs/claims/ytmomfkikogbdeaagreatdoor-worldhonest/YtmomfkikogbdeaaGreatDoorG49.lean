import Derived.Test.YtmomfkikogbdeaaGreatDoorRows
import Derived.JoinedOf
namespace Go.Proofs.YtmomfkikogbdeaaGreatDoor.worldHonest
theorem Zck:(Rows.worldHonestRow.inPlace == Tryz.pinned.checked.prog.inPlace 15)=true:=by kernel_rfl
theorem M7:(Rows.worldHonestRow.unfollowed == Tryz.pinned.checked.prog.unfollowed 15)=true:=by kernel_rfl
theorem El:(Rows.worldHonestRow.recurses == Tryz.pinned.checked.prog.recurses 15)=true:=by kernel_rfl
theorem Zma:(Rows.worldHonestRow.named == Tryz.pinned.checked.prog.varsNamed 15)=true:=by kernel_rfl
theorem cl_a:laidOutB Tryz.pinned.checked.prog=true:=by kernel_rfl
theorem cl_b:mapsRowed Tryz.pinned.checked.prog=true:=by kernel_rfl
theorem cl_c:Tryz.pinned.checked.prog.stopsHeard=true:=by kernel_rfl
theorem cl_d:Tryz.pinned.checked.prog.mayEnter=true:=by kernel_rfl
theorem cl_e:Rows.worldHonestRow.wf (OpenSpec.ofChange Rows.worldHonestSpec)=true:=by kernel_rfl
theorem Zrx:joinedFacts Tryz.pinned.checked.prog 15 Tryz.f15 Rows.worldHonestSpec Rows.worldHonestRow=true:=by
 unfold joinedFacts;rw[cl_e,cl_a,cl_b,Zck,M7,El,Zma,cl_c,cl_d]
 kernel_rfl
