/- Closed facts of the card NodeSupply, one by one. -/
import Derived.Test.YtmomfkikogbdeaaGreatDoorCards
import Derived.SevenTiedAt
namespace Go.Proofs.YtmomfkikogbdeaaGreatDoor.nodeSupply
theorem kd_wf:Rows.nodeSupplyRow.wfByText (OpenSpec.ofChange Rows.nodeSupplySpec)=true:=by kernel_rfl
theorem E5:Tryz.pinned.checked.prog.mainIs=some (Rows.nodeSupplyCard.stood.harness.1,Rows.nodeSupplyCard.stood.harness.2.toList):=by kernel_rfl
theorem kd_named:Tryz.prog.funcNamed "cairn/cairnlaw.NodeSupply" = some 9:=by kernel_rfl
theorem Bl:Rows.nodeSupplyCard.stood.looks=Tryz.pinned.checked.prog.looks []:=by kernel_rfl
theorem E6:false=Rows.nodeSupplyRow.goesBy Tryz.pinned.checked.prog:=by kernel_rfl
end Go.Proofs.YtmomfkikogbdeaaGreatDoor.nodeSupply
