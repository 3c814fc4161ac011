import Derived.Test.YtpikejjiignchaaGreatDoorCards
import Derived.SevenTiedAt
namespace Go.Proofs.YtpikejjiignchaaGreatDoor.poolSweep
theorem kd_wf:Rows.poolSweepRow.wfByText (OpenSpec.ofChange Rows.poolSweepSpec)=true:=by kernel_rfl
theorem Zfy:Tryz.pinned.checked.prog.mainIs=some (Rows.poolSweepCard.stood.harness.1,Rows.poolSweepCard.stood.harness.2.toList):=by kernel_rfl
theorem kd_named:Tryz.prog.funcNamed "cairn/cairnlaw.PoolSweep" = some 5:=by kernel_rfl
theorem Zdj:Rows.poolSweepCard.stood.looks=Tryz.pinned.checked.prog.looks []:=by kernel_rfl
theorem Zfz:false=Rows.poolSweepRow.goesBy Tryz.pinned.checked.prog:=by kernel_rfl
end Go.Proofs.YtpikejjiignchaaGreatDoor.poolSweep
