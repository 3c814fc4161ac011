import Derived.Test.YtmomfkikogbdeaaGreatDoorRows
import Derived.JoinedOf
namespace Go.Proofs.YtmomfkikogbdeaaGreatDoor.nodeSupply
theorem X2:(Rows.nodeSupplyRow.inPlace == Tryz.pinned.checked.prog.inPlace 9)=true:=by kernel_rfl
theorem Yx:(Rows.nodeSupplyRow.unfollowed == Tryz.pinned.checked.prog.unfollowed 9)=true:=by kernel_rfl
theorem Xi:(Rows.nodeSupplyRow.recurses == Tryz.pinned.checked.prog.recurses 9)=true:=by kernel_rfl
theorem V8:(Rows.nodeSupplyRow.named == Tryz.pinned.checked.prog.varsNamed 9)=true:=by kernel_rfl
theorem Bq:laidOutB Tryz.pinned.checked.prog=true:=by kernel_rfl
theorem Bp:mapsRowed Tryz.pinned.checked.prog=true:=by kernel_rfl
theorem Bo:Tryz.pinned.checked.prog.stopsHeard=true:=by kernel_rfl
theorem Bn:Tryz.pinned.checked.prog.mayEnter=true:=by kernel_rfl
theorem Bm:Rows.nodeSupplyRow.wf (OpenSpec.ofChange Rows.nodeSupplySpec)=true:=by kernel_rfl
theorem Rq:joinedFacts Tryz.pinned.checked.prog 9 Tryz.f9 Rows.nodeSupplySpec Rows.nodeSupplyRow=true:=by
 unfold joinedFacts
 rw[Bm,Bq,Bp,X2,Yx,Xi,V8,Bo,Bn]
 kernel_rfl
end Go.Proofs.YtmomfkikogbdeaaGreatDoor.nodeSupply
