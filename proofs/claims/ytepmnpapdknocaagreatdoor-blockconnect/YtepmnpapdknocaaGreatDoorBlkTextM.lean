/- Blocks that are right and unlike have unlike texts. -/
import Derived.Test.YtepmnpapdknocaaGreatDoorBlkNames
import Derived.Test.YtepmnpapdknocaaGreatDoorTxState
import Derived.Test.YtepmnpapdknocaaGreatDoorLockRead
import Derived.Lib.IndexBytes
namespace Go.Proofs.YtepmnpapdknocaaGreatDoor
open Go.RowKit

def hd1 (x : List UInt8) : Option UInt8 := x.head?
theorem head_fits {p h k n : Int} (f : headOk p h k n = true) : ∀ z ∈ [p, h, k, n], -10000000000 ≤ z ∧ z ≤ 10000000000 := by
  simp only [headOk, Bool.and_eq_true, decide_eq_true_eq] at f
  intro z hz
  simp only [List.mem_cons, List.not_mem_nil, or_false] at hz
  rcases hz with rfl | rfl | rfl | rfl <;> omega
end Go.Proofs.YtepmnpapdknocaaGreatDoor
