import Derived.Test.YtmomfkikogbdeaaGreatDoorRows
import Derived.JoinedOf
namespace Go.Proofs.YtmomfkikogbdeaaGreatDoor.nodeOrder
theorem X2:(Rows.nodeOrderRow.inPlace == Tryz.pinned.checked.prog.inPlace 10)=true:=by kernel_rfl
theorem Yx:(Rows.nodeOrderRow.unfollowed == Tryz.pinned.checked.prog.unfollowed 10)=true:=by kernel_rfl
theorem Xi:(Rows.nodeOrderRow.recurses == Tryz.pinned.checked.prog.recurses 10)=true:=by kernel_rfl
theorem V8:(Rows.nodeOrderRow.named == Tryz.pinned.checked.prog.varsNamed 10)=true:=by kernel_rfl
theorem Bq:laidOutB Tryz.pinned.checked.prog=true:=by kernel_rfl
theorem Bp:mapsRowed Tryz.pinned.checked.prog=true:=by kernel_rfl
theorem Bo:Tryz.pinned.checked.prog.stopsHeard=true:=by kernel_rfl
theorem Bn:Tryz.pinned.checked.prog.mayEnter=true:=by kernel_rfl
theorem Bm:Rows.nodeOrderRow.wf (OpenSpec.ofChange Rows.nodeOrderSpec)=true:=by kernel_rfl
theorem Rq:joinedFacts Tryz.pinned.checked.prog 10 Tryz.f10 Rows.nodeOrderSpec Rows.nodeOrderRow=true:=by
 unfold joinedFacts
 rw[Bm,Bq,Bp,X2,Yx,Xi,V8,Bo,Bn]
 kernel_rfl
end Go.Proofs.YtmomfkikogbdeaaGreatDoor.nodeOrder
