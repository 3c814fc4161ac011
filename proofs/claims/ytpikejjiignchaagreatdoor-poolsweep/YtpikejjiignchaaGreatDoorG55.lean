/- Proved: whatever is handed in, the law PoolSweep returns true and its arguments read behind the call as they did before: the card, its 6 listed variables tied to the program's text; no condition else.
   The frame of the row follows the guide's worked examples. -/
import Derived.Test.YtpikejjiignchaaGreatDoorG51
import Derived.Test.YtpikejjiignchaaGreatDoorTie
import Derived.Test.YtpikejjiignchaaGreatDoorG54
namespace Go.Proofs.YtpikejjiignchaaGreatDoor.poolSweep
open Go.ChangeShapes Go.WideShapes Go.ChangeAt Go.RowKit
theorem card:Rows.PoolSweepCardSaid:=
 Claim7.holds_tied_plain_at .later [] [.data,.data,.data,.listed,.data,.data] true Rows.poolSweepCard.stood.harness Rows.poolSweepCard.stood.looks
  said (fun _ h=>by cases h) kd_wf (fun _ h=>by cases h) poolSweep_row_tie rfl ⟨rfl,rfl⟩ Zfy rfl
  (fun f fn hf hfn=>by
   obtain rfl:f=5:=Option.some.inj (kd_named.symm.trans hf) |>.symm
   obtain rfl:fn=Tryz.f5:=(Option.some.inj (Tryz.func5.symm.trans hfn)).symm
   exact⟨Zdj,fun j t ht=>by
    rw[Tryz.params5] at ht
    have hm:t∈[24,29,48,52,3]:=by simpa using Array.mem_of_getElem? ht
    have hall:([24,29,48,52,3].all fun u=>!Tryz.prog.wantsStandIn u)=true:=by kernel_rfl
    exact (show Tryz.prog.wantsStandIn t=false by simpa using List.all_eq_true.1 hall t hm)⟩)
  Zfz
#print axioms card
end Go.Proofs.YtpikejjiignchaaGreatDoor.poolSweep
namespace Go.Proofs.YtpikejjiignchaaGreatDoor
theorem poolSweep_holds:Rows.PoolSweepCardSaid:=poolSweep.card
end Go.Proofs.YtpikejjiignchaaGreatDoor
