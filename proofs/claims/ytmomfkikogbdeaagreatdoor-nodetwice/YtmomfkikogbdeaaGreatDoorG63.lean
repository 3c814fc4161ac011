import Derived.Test.YtmomfkikogbdeaaGreatDoorRows
import Derived.JoinedOf
namespace Go.Proofs.YtmomfkikogbdeaaGreatDoor.nodeTwice
theorem X2:(Rows.nodeTwiceRow.inPlace == Tryz.pinned.checked.prog.inPlace 11)=true:=by kernel_rfl
theorem Yx:(Rows.nodeTwiceRow.unfollowed == Tryz.pinned.checked.prog.unfollowed 11)=true:=by kernel_rfl
theorem Xi:(Rows.nodeTwiceRow.recurses == Tryz.pinned.checked.prog.recurses 11)=true:=by kernel_rfl
theorem V8:(Rows.nodeTwiceRow.named == Tryz.pinned.checked.prog.varsNamed 11)=true:=by kernel_rfl
theorem Bq:laidOutB Tryz.pinned.checked.prog=true:=by kernel_rfl
theorem Bp:mapsRowed Tryz.pinned.checked.prog=true:=by kernel_rfl
theorem Bo:Tryz.pinned.checked.prog.stopsHeard=true:=by kernel_rfl
theorem Bn:Tryz.pinned.checked.prog.mayEnter=true:=by kernel_rfl
theorem Bm:Rows.nodeTwiceRow.wf (OpenSpec.ofChange Rows.nodeTwiceSpec)=true:=by kernel_rfl
theorem Rq:joinedFacts Tryz.pinned.checked.prog 11 Tryz.f11 Rows.nodeTwiceSpec Rows.nodeTwiceRow=true:=by
 unfold joinedFacts
 rw[Bm,Bq,Bp,X2,Yx,Xi,V8,Bo,Bn]
 kernel_rfl
end Go.Proofs.YtmomfkikogbdeaaGreatDoor.nodeTwice
