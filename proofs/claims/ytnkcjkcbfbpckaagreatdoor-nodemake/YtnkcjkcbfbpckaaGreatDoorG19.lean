import Derived.Test.YtnkcjkcbfbpckaaGreatDoorCards
import Derived.SevenTiedAt
namespace Go.Proofs.YtnkcjkcbfbpckaaGreatDoor.nodeMake
theorem kd_wf:Rows.nodeMakeRow.wfByText (OpenSpec.ofChange Rows.nodeMakeSpec)=true:=by kernel_rfl
theorem Zsq:Tryz.pinned.checked.prog.mainIs=some (Rows.nodeMakeCard.stood.harness.1,Rows.nodeMakeCard.stood.harness.2.toList):=by kernel_rfl
theorem kd_named:Tryz.prog.funcNamed "cairn/cairnlaw.NodeMake" = some 3:=by kernel_rfl
theorem Zov:Rows.nodeMakeCard.stood.looks=Tryz.pinned.checked.prog.looks []:=by kernel_rfl
theorem Zsr:false=Rows.nodeMakeRow.goesBy Tryz.pinned.checked.prog:=by kernel_rfl
