import Derived.Test.YtpikejjiignchaaGreatDoorRows
import Derived.JoinedOf
namespace Go.Proofs.YtpikejjiignchaaGreatDoor.poolSweep
theorem Bj:(Rows.poolSweepRow.inPlace == Tryz.pinned.checked.prog.inPlace 5)=true:=by kernel_rfl
theorem Kv:(Rows.poolSweepRow.unfollowed == Tryz.pinned.checked.prog.unfollowed 5)=true:=by kernel_rfl
theorem Ft:(Rows.poolSweepRow.recurses == Tryz.pinned.checked.prog.recurses 5)=true:=by kernel_rfl
theorem Zef:(Rows.poolSweepRow.named == Tryz.pinned.checked.prog.varsNamed 5)=true:=by kernel_rfl
theorem cl_a:laidOutB Tryz.pinned.checked.prog=true:=by kernel_rfl
theorem cl_b:mapsRowed Tryz.pinned.checked.prog=true:=by kernel_rfl
theorem cl_c:Tryz.pinned.checked.prog.stopsHeard=true:=by kernel_rfl
theorem cl_d:Tryz.pinned.checked.prog.mayEnter=true:=by kernel_rfl
theorem cl_e:Rows.poolSweepRow.wf (OpenSpec.ofChange Rows.poolSweepSpec)=true:=by kernel_rfl
theorem Zib:joinedFacts Tryz.pinned.checked.prog 5 Tryz.f5 Rows.poolSweepSpec Rows.poolSweepRow=true:=by
 unfold joinedFacts
 rw[cl_e,cl_a,cl_b,Bj,Kv,Ft,Zef,cl_c,cl_d]
 kernel_rfl
end Go.Proofs.YtpikejjiignchaaGreatDoor.poolSweep
