import Derived.Test.YtmomfkikogbdeaaGreatDoorCards
import Derived.SevenTiedAt
namespace Go.Proofs.YtmomfkikogbdeaaGreatDoor.nodeTwice
theorem Hb:Rows.nodeTwiceRow.wfByText (OpenSpec.ofChange Rows.nodeTwiceSpec)=true:=by kernel_rfl
theorem Qj:Tryz.pinned.checked.prog.mainIs=some (Rows.nodeTwiceCard.stood.harness.1,Rows.nodeTwiceCard.stood.harness.2.toList):=by kernel_rfl
theorem kd_named:Tryz.prog.funcNamed "cairn/cairnlaw.NodeTwice" = some 11:=by kernel_rfl
theorem Vz:Rows.nodeTwiceCard.stood.looks=Tryz.pinned.checked.prog.looks []:=by kernel_rfl
theorem Qk:false=Rows.nodeTwiceRow.goesBy Tryz.pinned.checked.prog:=by kernel_rfl
end Go.Proofs.YtmomfkikogbdeaaGreatDoor.nodeTwice
