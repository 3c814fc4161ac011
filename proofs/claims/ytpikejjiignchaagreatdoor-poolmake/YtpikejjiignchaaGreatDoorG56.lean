/- Proved: whatever is handed in, the law PoolMake returns true and its arguments read behind the call as they did before: the card, its 6 listed variables tied to the program's text; no condition else.
   The frame of the row follows the guide's worked examples. -/
import Derived.Test.YtpikejjiignchaaGreatDoorG52
import Derived.Test.YtpikejjiignchaaGreatDoorTie
import Derived.Test.YtpikejjiignchaaGreatDoorG55
namespace Go.Proofs.YtpikejjiignchaaGreatDoor.poolMake
open Go.ChangeShapes Go.WideShapes Go.ChangeAt Go.RowKit
theorem card:Rows.PoolMakeCardSaid:=
 Claim7.holds_tied_plain_at .later [] [.data,.data,.data,.listed,.data,.data] true Rows.poolMakeCard.stood.harness Rows.poolMakeCard.stood.looks
  said (fun _ h=>by cases h) kd_wf (fun _ h=>by cases h) poolMake_row_tie rfl ⟨rfl,rfl⟩ Zft rfl
  (fun f fn hf hfn=>by
   obtain rfl:f=6:=Option.some.inj (kd_named.symm.trans hf) |>.symm
   obtain rfl:fn=Tryz.f6:=(Option.some.inj (Tryz.func6.symm.trans hfn)).symm
   exact⟨Zde,fun j t ht=>by
    rw[Tryz.params6] at ht
    have hm:t∈[24,29,48,3,3,3,3,66]:=by simpa using Array.mem_of_getElem? ht
    have hall:([24,29,48,3,3,3,3,66].all fun u=>!Tryz.prog.wantsStandIn u)=true:=by kernel_rfl
    exact (show Tryz.prog.wantsStandIn t=false by simpa using List.all_eq_true.1 hall t hm)⟩)
  Zfu
#print axioms card
end Go.Proofs.YtpikejjiignchaaGreatDoor.poolMake
namespace Go.Proofs.YtpikejjiignchaaGreatDoor
theorem poolMake_holds:Rows.PoolMakeCardSaid:=poolMake.card
end Go.Proofs.YtpikejjiignchaaGreatDoor
