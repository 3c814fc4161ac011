/- The closed facts of the row NodeSupply, one by one: together they are more than the memory holds. -/
import Derived.Test.YtmomfkikogbdeaaGreatDoorRows
import Derived.JoinedOf
namespace Go.Proofs.YtmomfkikogbdeaaGreatDoor.nodeSupply
theorem M6:(Rows.nodeSupplyRow.inPlace == Tryz.pinned.checked.prog.inPlace 9)=true:=by kernel_rfl
theorem S9:(Rows.nodeSupplyRow.unfollowed == Tryz.pinned.checked.prog.unfollowed 9)=true:=by kernel_rfl
theorem Lo:(Rows.nodeSupplyRow.recurses == Tryz.pinned.checked.prog.recurses 9)=true:=by kernel_rfl
theorem Cd:(Rows.nodeSupplyRow.named == Tryz.pinned.checked.prog.varsNamed 9)=true:=by kernel_rfl
theorem cl_a:laidOutB Tryz.pinned.checked.prog=true:=by kernel_rfl
theorem cl_b:mapsRowed Tryz.pinned.checked.prog=true:=by kernel_rfl
theorem cl_c:Tryz.pinned.checked.prog.stopsHeard=true:=by kernel_rfl
theorem cl_d:Tryz.pinned.checked.prog.mayEnter=true:=by kernel_rfl
theorem cl_e:Rows.nodeSupplyRow.wf (OpenSpec.ofChange Rows.nodeSupplySpec)=true:=by kernel_rfl
theorem Zcl:joinedFacts Tryz.pinned.checked.prog 9 Tryz.f9 Rows.nodeSupplySpec Rows.nodeSupplyRow=true:=by
 unfold joinedFacts
 rw[cl_e,cl_a,cl_b,M6,S9,Lo,Cd,cl_c,cl_d]
 kernel_rfl
end Go.Proofs.YtmomfkikogbdeaaGreatDoor.nodeSupply
