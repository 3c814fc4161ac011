/- The condition on the listed variables, with 'no place twice' by a set of bits. -/
import Derived.Test.YtepmnpapdknocaaGreatDoorLockFrame
import Derived.Test.YtepmnpapdknocaaGreatDoorLockNum
import Derived.LaidOnce
import Derived.HandedShaped
import Derived.LaidLaws
namespace Go.Proofs.YtepmnpapdknocaaGreatDoor
open Go.ChangeShapes Go.WideShapes Go.ChangeAt Go.RowKit

theorem laidMet_of_bits {P : Program} {w : World} {l : List (String × DataW Unit)} (fuel M : Nat)
    (h : ((DataW.laidRun P w fuel (l.map (·.1))).bind fun x => if nodupBits M x.2 0 && laidRowsB P w x.2 then some x.1 else none) = some l) : laidMet P l w := by
  simp only [Option.bind_eq_some_iff] at h
  obtain ⟨x, hx, d⟩ := h
  split at d
  · rename_i hb
    simp only [Bool.and_eq_true] at hb
    cases d
    exact laidMet_of_run (ps := x.2) fuel (by rw [hx]) (decide_eq_true (nodupBits_sound hb.1).1) hb.2
  · cases d

end Go.Proofs.YtepmnpapdknocaaGreatDoor
