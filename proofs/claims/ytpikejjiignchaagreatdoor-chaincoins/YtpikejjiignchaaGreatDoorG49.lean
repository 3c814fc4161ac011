import Derived.Test.YtpikejjiignchaaGreatDoorRows
import Derived.JoinedOf
namespace Go.Proofs.YtpikejjiignchaaGreatDoor.chainCoins
theorem Zat:(Rows.chainCoinsRow.inPlace == Tryz.pinned.checked.prog.inPlace 3)=true:=by kernel_rfl
theorem Mu:(Rows.chainCoinsRow.unfollowed == Tryz.pinned.checked.prog.unfollowed 3)=true:=by kernel_rfl
theorem Ct:(Rows.chainCoinsRow.recurses == Tryz.pinned.checked.prog.recurses 3)=true:=by kernel_rfl
theorem Zid:(Rows.chainCoinsRow.named == Tryz.pinned.checked.prog.varsNamed 3)=true:=by kernel_rfl
theorem cl_a:laidOutB Tryz.pinned.checked.prog=true:=by kernel_rfl
theorem cl_b:mapsRowed Tryz.pinned.checked.prog=true:=by kernel_rfl
theorem cl_c:Tryz.pinned.checked.prog.stopsHeard=true:=by kernel_rfl
theorem cl_d:Tryz.pinned.checked.prog.mayEnter=true:=by kernel_rfl
theorem cl_e:Rows.chainCoinsRow.wf (OpenSpec.ofChange Rows.chainCoinsSpec)=true:=by kernel_rfl
theorem Zlt:joinedFacts Tryz.pinned.checked.prog 3 Tryz.f3 Rows.chainCoinsSpec Rows.chainCoinsRow=true:=by
 unfold joinedFacts
 rw[cl_e,cl_a,cl_b,Zat,Mu,Ct,Zid,cl_c,cl_d]
 kernel_rfl
end Go.Proofs.YtpikejjiignchaaGreatDoor.chainCoins
