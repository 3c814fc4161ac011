import Derived.Test.YtnkcjkcbfbpckaaGreatDoorRows
import Derived.JoinedOf
namespace Go.Proofs.YtnkcjkcbfbpckaaGreatDoor.nodeMake
theorem Zgb:(Rows.nodeMakeRow.inPlace == Tryz.pinned.checked.prog.inPlace 3)=true:=by kernel_rfl
theorem Fs:(Rows.nodeMakeRow.unfollowed == Tryz.pinned.checked.prog.unfollowed 3)=true:=by kernel_rfl
theorem Zcz:(Rows.nodeMakeRow.recurses == Tryz.pinned.checked.prog.recurses 3)=true:=by kernel_rfl
theorem Zpx:(Rows.nodeMakeRow.named == Tryz.pinned.checked.prog.varsNamed 3)=true:=by kernel_rfl
theorem cl_a:laidOutB Tryz.pinned.checked.prog=true:=by kernel_rfl
theorem cl_b:mapsRowed Tryz.pinned.checked.prog=true:=by kernel_rfl
theorem cl_c:Tryz.pinned.checked.prog.stopsHeard=true:=by kernel_rfl
theorem cl_d:Tryz.pinned.checked.prog.mayEnter=true:=by kernel_rfl
theorem cl_e:Rows.nodeMakeRow.wf (OpenSpec.ofChange Rows.nodeMakeSpec)=true:=by kernel_rfl
theorem Zvp:joinedFacts Tryz.pinned.checked.prog 3 Tryz.f3 Rows.nodeMakeSpec Rows.nodeMakeRow=true:=by unfold joinedFacts;rw[cl_e,cl_a,cl_b,Zgb,Fs,Zcz,Zpx,cl_c,cl_d];kernel_rfl
