import Derived.Test.YtmomfkikogbdeaaGreatDoorCards
import Derived.SevenTiedAt
namespace Go.Proofs.YtmomfkikogbdeaaGreatDoor.nodeGrows
theorem Hb:Rows.nodeGrowsRow.wfByText (OpenSpec.ofChange Rows.nodeGrowsSpec)=true:=by kernel_rfl
theorem Qj:Tryz.pinned.checked.prog.mainIs=some (Rows.nodeGrowsCard.stood.harness.1,Rows.nodeGrowsCard.stood.harness.2.toList):=by kernel_rfl
theorem kd_named:Tryz.prog.funcNamed "cairn/cairnlaw.NodeGrows" = some 8:=by kernel_rfl
theorem Vz:Rows.nodeGrowsCard.stood.looks=Tryz.pinned.checked.prog.looks []:=by kernel_rfl
theorem Qk:false=Rows.nodeGrowsRow.goesBy Tryz.pinned.checked.prog:=by kernel_rfl
end Go.Proofs.YtmomfkikogbdeaaGreatDoor.nodeGrows
