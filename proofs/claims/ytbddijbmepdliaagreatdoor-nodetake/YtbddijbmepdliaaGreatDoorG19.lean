import Derived.Test.YtbddijbmepdliaaGreatDoorCards
import Derived.SevenTiedAt
namespace Go.Proofs.YtbddijbmepdliaaGreatDoor.nodeTake
theorem kd_wf:Rows.nodeTakeRow.wfByText (OpenSpec.ofChange Rows.nodeTakeSpec)=true:=by kernel_rfl
theorem Zqh:Tryz.pinned.checked.prog.mainIs=some (Rows.nodeTakeCard.stood.harness.1,Rows.nodeTakeCard.stood.harness.2.toList):=by kernel_rfl
theorem kd_named:Tryz.prog.funcNamed "cairn/cairnlaw.NodeTake" = some 3:=by kernel_rfl
theorem Zmh:Rows.nodeTakeCard.stood.looks=Tryz.pinned.checked.prog.looks []:=by kernel_rfl
theorem Zqi:false=Rows.nodeTakeRow.goesBy Tryz.pinned.checked.prog:=by kernel_rfl
