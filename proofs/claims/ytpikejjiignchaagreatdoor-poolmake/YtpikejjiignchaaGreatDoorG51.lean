import Derived.Test.YtpikejjiignchaaGreatDoorRows
import Derived.JoinedOf
namespace Go.Proofs.YtpikejjiignchaaGreatDoor.poolMake
theorem Bb:(Rows.poolMakeRow.inPlace == Tryz.pinned.checked.prog.inPlace 6)=true:=by kernel_rfl
theorem Ku:(Rows.poolMakeRow.unfollowed == Tryz.pinned.checked.prog.unfollowed 6)=true:=by kernel_rfl
theorem Fi:(Rows.poolMakeRow.recurses == Tryz.pinned.checked.prog.recurses 6)=true:=by kernel_rfl
theorem Zea:(Rows.poolMakeRow.named == Tryz.pinned.checked.prog.varsNamed 6)=true:=by kernel_rfl
theorem cl_a:laidOutB Tryz.pinned.checked.prog=true:=by kernel_rfl
theorem cl_b:mapsRowed Tryz.pinned.checked.prog=true:=by kernel_rfl
theorem cl_c:Tryz.pinned.checked.prog.stopsHeard=true:=by kernel_rfl
theorem cl_d:Tryz.pinned.checked.prog.mayEnter=true:=by kernel_rfl
theorem cl_e:Rows.poolMakeRow.wf (OpenSpec.ofChange Rows.poolMakeSpec)=true:=by kernel_rfl
theorem Zhu:joinedFacts Tryz.pinned.checked.prog 6 Tryz.f6 Rows.poolMakeSpec Rows.poolMakeRow=true:=by
 unfold joinedFacts
 rw[cl_e,cl_a,cl_b,Bb,Ku,Fi,Zea,cl_c,cl_d]
 kernel_rfl
end Go.Proofs.YtpikejjiignchaaGreatDoor.poolMake
