import Derived.Test.YtmomfkikogbdeaaGreatDoorCards
import Derived.SevenTiedAt
namespace Go.Proofs.YtmomfkikogbdeaaGreatDoor.worldKeeps
theorem kd_wf:Rows.worldKeepsRow.wfByText (OpenSpec.ofChange Rows.worldKeepsSpec)=true:=by kernel_rfl
theorem Zkk:Tryz.pinned.checked.prog.mainIs=some (Rows.worldKeepsCard.stood.harness.1,Rows.worldKeepsCard.stood.harness.2.toList):=by kernel_rfl
theorem kd_named:Tryz.prog.funcNamed "cairn/cairnlaw.WorldKeeps" = some 14:=by kernel_rfl
theorem Zhg:Rows.worldKeepsCard.stood.looks=Tryz.pinned.checked.prog.looks []:=by kernel_rfl
theorem Zkl:false=Rows.worldKeepsRow.goesBy Tryz.pinned.checked.prog:=by kernel_rfl
