import Derived.Test.YtmomfkikogbdeaaGreatDoorCards
import Derived.SevenTiedAt
namespace Go.Proofs.YtmomfkikogbdeaaGreatDoor.worldAgree
theorem kd_wf:Rows.worldAgreeRow.wfByText (OpenSpec.ofChange Rows.worldAgreeSpec)=true:=by kernel_rfl
theorem Zob:Tryz.pinned.checked.prog.mainIs=some (Rows.worldAgreeCard.stood.harness.1,Rows.worldAgreeCard.stood.harness.2.toList):=by kernel_rfl
theorem kd_named:Tryz.prog.funcNamed "cairn/cairnlaw.WorldAgree" = some 12:=by kernel_rfl
theorem Zkq:Rows.worldAgreeCard.stood.looks=Tryz.pinned.checked.prog.looks []:=by kernel_rfl
theorem Zoc:false=Rows.worldAgreeRow.goesBy Tryz.pinned.checked.prog:=by kernel_rfl
