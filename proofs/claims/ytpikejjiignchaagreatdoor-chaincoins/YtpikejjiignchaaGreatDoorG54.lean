/- Proved: whatever is handed in, the law ChainCoins returns true and its arguments read behind the call as they did before: the card, its 6 listed variables tied to the program's text; no condition else.
   The frame of the row follows the guide's worked examples. -/
import Derived.Test.YtpikejjiignchaaGreatDoorG50
import Derived.Test.YtpikejjiignchaaGreatDoorTie
import Derived.Test.YtpikejjiignchaaGreatDoorG53
namespace Go.Proofs.YtpikejjiignchaaGreatDoor.chainCoins
open Go.ChangeShapes Go.WideShapes Go.ChangeAt Go.RowKit
theorem card:Rows.ChainCoinsCardSaid:=
 Claim7.holds_tied_plain_at .later [] [.data,.data,.data,.listed,.data,.data] true Rows.chainCoinsCard.stood.harness Rows.chainCoinsCard.stood.looks
  said (fun _ h=>by cases h) kd_wf (fun _ h=>by cases h) chainCoins_row_tie rfl ⟨rfl,rfl⟩ Zjr rfl
  (fun f fn hf hfn=>by
   obtain rfl:f=3:=Option.some.inj (kd_named.symm.trans hf) |>.symm
   obtain rfl:fn=Tryz.f3:=(Option.some.inj (Tryz.func3.symm.trans hfn)).symm
   exact⟨Zhf,fun j t ht=>by
    rw[Tryz.params3] at ht
    have hm:t∈[24,28,3,3]:=by simpa using Array.mem_of_getElem? ht
    have hall:([24,28,3,3].all fun u=>!Tryz.prog.wantsStandIn u)=true:=by kernel_rfl
    exact (show Tryz.prog.wantsStandIn t=false by simpa using List.all_eq_true.1 hall t hm)⟩)
  Zjs
#print axioms card
end Go.Proofs.YtpikejjiignchaaGreatDoor.chainCoins
namespace Go.Proofs.YtpikejjiignchaaGreatDoor
theorem chainCoins_holds:Rows.ChainCoinsCardSaid:=chainCoins.card
end Go.Proofs.YtpikejjiignchaaGreatDoor
