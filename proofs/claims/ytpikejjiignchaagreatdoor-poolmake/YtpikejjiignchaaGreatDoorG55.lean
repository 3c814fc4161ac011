import Derived.Test.YtpikejjiignchaaGreatDoorCards
import Derived.SevenTiedAt
namespace Go.Proofs.YtpikejjiignchaaGreatDoor.poolMake
theorem kd_wf:Rows.poolMakeRow.wfByText (OpenSpec.ofChange Rows.poolMakeSpec)=true:=by kernel_rfl
theorem Zft:Tryz.pinned.checked.prog.mainIs=some (Rows.poolMakeCard.stood.harness.1,Rows.poolMakeCard.stood.harness.2.toList):=by kernel_rfl
theorem kd_named:Tryz.prog.funcNamed "cairn/cairnlaw.PoolMake" = some 6:=by kernel_rfl
theorem Zde:Rows.poolMakeCard.stood.looks=Tryz.pinned.checked.prog.looks []:=by kernel_rfl
theorem Zfu:false=Rows.poolMakeRow.goesBy Tryz.pinned.checked.prog:=by kernel_rfl
end Go.Proofs.YtpikejjiignchaaGreatDoor.poolMake
