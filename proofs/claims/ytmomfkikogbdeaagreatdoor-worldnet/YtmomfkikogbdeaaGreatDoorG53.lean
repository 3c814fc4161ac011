import Derived.Test.YtmomfkikogbdeaaGreatDoorCards
import Derived.SevenTiedAt
namespace Go.Proofs.YtmomfkikogbdeaaGreatDoor.worldNet
theorem kd_wf:Rows.worldNetRow.wfByText (OpenSpec.ofChange Rows.worldNetSpec)=true:=by kernel_rfl
theorem Zhe:Tryz.pinned.checked.prog.mainIs=some (Rows.worldNetCard.stood.harness.1,Rows.worldNetCard.stood.harness.2.toList):=by kernel_rfl
theorem kd_named:Tryz.prog.funcNamed "cairn/cairnlaw.WorldNet" = some 13:=by kernel_rfl
theorem Zeg:Rows.worldNetCard.stood.looks=Tryz.pinned.checked.prog.looks []:=by kernel_rfl
theorem Zhf:false=Rows.worldNetRow.goesBy Tryz.pinned.checked.prog:=by kernel_rfl
