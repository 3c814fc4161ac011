import Derived.Test.YtmomfkikogbdeaaGreatDoorRows
import Derived.JoinedOf
namespace Go.Proofs.YtmomfkikogbdeaaGreatDoor.nodeGrows
theorem X2:(Rows.nodeGrowsRow.inPlace == Tryz.pinned.checked.prog.inPlace 8)=true:=by kernel_rfl
theorem Yx:(Rows.nodeGrowsRow.unfollowed == Tryz.pinned.checked.prog.unfollowed 8)=true:=by kernel_rfl
theorem Xi:(Rows.nodeGrowsRow.recurses == Tryz.pinned.checked.prog.recurses 8)=true:=by kernel_rfl
theorem V8:(Rows.nodeGrowsRow.named == Tryz.pinned.checked.prog.varsNamed 8)=true:=by kernel_rfl
theorem Bq:laidOutB Tryz.pinned.checked.prog=true:=by kernel_rfl
theorem Bp:mapsRowed Tryz.pinned.checked.prog=true:=by kernel_rfl
theorem Bo:Tryz.pinned.checked.prog.stopsHeard=true:=by kernel_rfl
theorem Bn:Tryz.pinned.checked.prog.mayEnter=true:=by kernel_rfl
theorem Bm:Rows.nodeGrowsRow.wf (OpenSpec.ofChange Rows.nodeGrowsSpec)=true:=by kernel_rfl
theorem Rq:joinedFacts Tryz.pinned.checked.prog 8 Tryz.f8 Rows.nodeGrowsSpec Rows.nodeGrowsRow=true:=by
 unfold joinedFacts
 rw[Bm,Bq,Bp,X2,Yx,Xi,V8,Bo,Bn]
 kernel_rfl
end Go.Proofs.YtmomfkikogbdeaaGreatDoor.nodeGrows
