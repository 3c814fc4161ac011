import Derived.Test.YtmomfkikogbdeaaGreatDoorCards
import Derived.SevenTiedAt
namespace Go.Proofs.YtmomfkikogbdeaaGreatDoor.worldHonest
theorem kd_wf:Rows.worldHonestRow.wfByText (OpenSpec.ofChange Rows.worldHonestSpec)=true:=by kernel_rfl
theorem Zom:Tryz.pinned.checked.prog.mainIs=some (Rows.worldHonestCard.stood.harness.1,Rows.worldHonestCard.stood.harness.2.toList):=by kernel_rfl
theorem kd_named:Tryz.prog.funcNamed "cairn/cairnlaw.WorldHonest" = some 15:=by kernel_rfl
theorem Zlb:Rows.worldHonestCard.stood.looks=Tryz.pinned.checked.prog.looks []:=by kernel_rfl
theorem Zon:false=Rows.worldHonestRow.goesBy Tryz.pinned.checked.prog:=by kernel_rfl
