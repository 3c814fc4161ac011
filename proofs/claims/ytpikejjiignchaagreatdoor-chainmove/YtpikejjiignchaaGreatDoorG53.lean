import Derived.Test.YtpikejjiignchaaGreatDoorCards
import Derived.SevenTiedAt
namespace Go.Proofs.YtpikejjiignchaaGreatDoor.chainMove
theorem kd_wf:Rows.chainMoveRow.wfByText (OpenSpec.ofChange Rows.chainMoveSpec)=true:=by kernel_rfl
theorem Zop:Tryz.pinned.checked.prog.mainIs=some (Rows.chainMoveCard.stood.harness.1,Rows.chainMoveCard.stood.harness.2.toList):=by kernel_rfl
theorem kd_named:Tryz.prog.funcNamed "cairn/cairnlaw.ChainMove" = some 4:=by kernel_rfl
theorem Zly:Rows.chainMoveCard.stood.looks=Tryz.pinned.checked.prog.looks []:=by kernel_rfl
theorem Zoq:false=Rows.chainMoveRow.goesBy Tryz.pinned.checked.prog:=by kernel_rfl
