import Derived.Test.YtpikejjiignchaaGreatDoorCards
import Derived.SevenTiedAt
namespace Go.Proofs.YtpikejjiignchaaGreatDoor.chainCoins
theorem kd_wf:Rows.chainCoinsRow.wfByText (OpenSpec.ofChange Rows.chainCoinsSpec)=true:=by kernel_rfl
theorem Zjr:Tryz.pinned.checked.prog.mainIs=some (Rows.chainCoinsCard.stood.harness.1,Rows.chainCoinsCard.stood.harness.2.toList):=by kernel_rfl
theorem kd_named:Tryz.prog.funcNamed "cairn/cairnlaw.ChainCoins" = some 3:=by kernel_rfl
theorem Zhf:Rows.chainCoinsCard.stood.looks=Tryz.pinned.checked.prog.looks []:=by kernel_rfl
theorem Zjs:false=Rows.chainCoinsRow.goesBy Tryz.pinned.checked.prog:=by kernel_rfl
end Go.Proofs.YtpikejjiignchaaGreatDoor.chainCoins
