/- The contract of block.Same (its steps written by a program of ours: mkblksame.py). -/
import Derived.Test.YtepmnpapdknocaaGreatDoorBlkPrint
import Derived.Test.YtepmnpapdknocaaGreatDoorTxSame
import Derived.Test.YtepmnpapdknocaaGreatDoorBlkHead
import Derived.Deep.RegionHeld3
import Derived.Deep.RegionLaw
import Derived.DeepKeys
import Derived.Laws.StructEq
namespace Go.Proofs.YtepmnpapdknocaaGreatDoor
open Go.RowKit

theorem step_callS {P : Program} {ops : Array Oper} {o : Oper} {a : Act} {w : World} {K : Act → World → Prop} {Q : Exit → Act → World → Prop} {E : Prop}
    (hw : Region.wanted o (yielded ops a.tmps) = true) (f : FuncId) (vs : Array Value) (he : (execOp a.eval o).run P w = .ok (.enter f vs) w) {R : Ending → World → Prop} (hc : Calls P f vs w R) (h : ∀ e w', R e w' → ∃ v, e = .returned v ∧ K (a.put o.dst v) w') :
    if Region.wanted o (yielded ops a.tmps) = true then Oper.wp P o a w K Q else E := by
  rw [if_pos hw]
  unfold Oper.wp
  rw [he, Oper.upon_enter]
  refine hc.mono ?_
  intro e w' hr
  obtain ⟨v, rfl, hk⟩ := h e w' hr
  exact hk

end Go.Proofs.YtepmnpapdknocaaGreatDoor
