/- Contracts of slices.Equal at equal slices of ints. -/
import Derived.Test.YtodgheppglchcaaDoorLockRunA
import Derived.Test.YtodgheppglchcaaDoorLockCheck
import Derived.Test.YtodgheppglchcaaDoorLockSameB
import Derived.Test.YtodgheppglchcaaDoorShelf
namespace Go.Proofs.YtodgheppglchcaaDoor
open Go.RowKit

theorem equal_ints (a b : Option Addr) (n c d : Nat) (Z : List Int) (w : World) (hA : RowAt w a n Z) (hB : RowAt w b n Z) :
    Calls Tryd.prog 13 #[.slice a n c, .slice b n d] w fun e w' => e = .returned (.bool true) ∧ Below w.heap.size w w' := by
  obtain ⟨hz, hm, ha⟩ := hA
  obtain ⟨_, _, hb⟩ := hB
  unfold maxLen at hm
  by_cases h : n = 0
  · subst h
    exact (Tryd.slices_Equal_int_empty a b c 0 d w (by omega)).mono fun e w' ⟨h1, h2⟩ => ⟨h1, h2 ▸ Below.refl _ _⟩
  · obtain ⟨b1, o1, rfl, h1⟩ := ha (by omega)
    obtain ⟨b2, o2, rfl, h2⟩ := hb (by omega)
    refine (Tryd.slices_Equal_int b1 o1 n c b2 o2 n d Z Z w (by omega) (by omega) (by omega) (by omega) (fun j hj => h1 j (by omega)) (fun j hj => h2 j (by omega))).mono fun e w' ⟨e1, q, e2⟩ => ⟨?_, ?_⟩
    · rw [e1]; simp
    · rw [e2]; exact below_dr w q

end Go.Proofs.YtodgheppglchcaaDoor
