import Derived.Test.YtmomfkikogbdeaaGreatDoorCards
import Derived.SevenTiedAt
namespace Go.Proofs.YtmomfkikogbdeaaGreatDoor.nodeSupply
theorem Hb:Rows.nodeSupplyRow.wfByText (OpenSpec.ofChange Rows.nodeSupplySpec)=true:=by kernel_rfl
theorem Qj:Tryz.pinned.checked.prog.mainIs=some (Rows.nodeSupplyCard.stood.harness.1,Rows.nodeSupplyCard.stood.harness.2.toList):=by kernel_rfl
theorem kd_named:Tryz.prog.funcNamed "cairn/cairnlaw.NodeSupply" = some 9:=by kernel_rfl
theorem Vz:Rows.nodeSupplyCard.stood.looks=Tryz.pinned.checked.prog.looks []:=by kernel_rfl
theorem Qk:false=Rows.nodeSupplyRow.goesBy Tryz.pinned.checked.prog:=by kernel_rfl
end Go.Proofs.YtmomfkikogbdeaaGreatDoor.nodeSupply
