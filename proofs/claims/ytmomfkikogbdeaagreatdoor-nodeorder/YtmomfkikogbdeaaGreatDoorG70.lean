import Derived.Test.YtmomfkikogbdeaaGreatDoorCards
import Derived.SevenTiedAt
namespace Go.Proofs.YtmomfkikogbdeaaGreatDoor.nodeOrder
theorem Hb:Rows.nodeOrderRow.wfByText (OpenSpec.ofChange Rows.nodeOrderSpec)=true:=by kernel_rfl
theorem Qj:Tryz.pinned.checked.prog.mainIs=some (Rows.nodeOrderCard.stood.harness.1,Rows.nodeOrderCard.stood.harness.2.toList):=by kernel_rfl
theorem kd_named:Tryz.prog.funcNamed "cairn/cairnlaw.NodeOrder" = some 10:=by kernel_rfl
theorem Vz:Rows.nodeOrderCard.stood.looks=Tryz.pinned.checked.prog.looks []:=by kernel_rfl
theorem Qk:false=Rows.nodeOrderRow.goesBy Tryz.pinned.checked.prog:=by kernel_rfl
end Go.Proofs.YtmomfkikogbdeaaGreatDoor.nodeOrder
