/- A row of values that the call made, filled place by place. -/
import Derived.Test.YtepmnpapdknocaaGreatDoorLockRow
namespace Go.Proofs.YtepmnpapdknocaaGreatDoor
open Go.RowKit

theorem bel_tw {w w1 w2 : World} (h1 : Below w.heap.size w w1) (h2 : Below w1.heap.size w1 w2) : Below w.heap.size w w2 := h1.trans (h2.mono h1.size)

/-! A row of values that the call made, filled place by place. -/
structure FillV (B : Nat) (e : TypeId) (p : Nat) (f : Nat → Value) (w wr : World) (k : Nat) : Prop where
  ex : ∃ xs : List Value, wr.ownsRow B e 1 (.slice (some ⟨B, 0, none⟩) p p) p xs ∧ ∀ j, j < k → xs[j]? = some (f j)
  bel : Below B w wr

theorem FillV.lt {B : Nat} {e : TypeId} {p : Nat} {f : Nat → Value} {w wr : World} {k : Nat} (h : FillV B e p f w wr k) : B < wr.heap.size := by
  obtain ⟨_, ho, _⟩ := h.ex
  exact (ho.lt B rfl).2
theorem FillV.old {B : Nat} {e : TypeId} {p : Nat} {f : Nat → Value} {w wr : World} {k : Nat} (h : FillV B e p f w wr k) (hk : k < p) : ∃ v, wr.cell? ⟨B, k, none⟩ = some v := by
  obtain ⟨xs, ho, _⟩ := h.ex
  have hl : xs.length = p := by simpa using ho.1
  exact ⟨xs[k]'(by omega), by rw [ho.cellAt k (by omega)]; simp [hl, hk]⟩
theorem FillV.free {B : Nat} {e : TypeId} {p : Nat} {f : Nat → Value} {w wr : World} {k : Nat} (h : FillV B e p f w wr k) (j : Nat) : wr.frozen? ⟨B, j, none⟩ = false := by
  obtain ⟨xs, ho, _⟩ := h.ex
  exact ho.frozenAt j
theorem FillV.step {B : Nat} {e : TypeId} {p : Nat} {f : Nat → Value} {w wr : World} {k : Nat} (h : FillV B e p f w wr k) (hk : k < p) {v : Value} (hv : v = f k) : FillV B e p f w (wr.setCell ⟨B, k, none⟩ v) (k + 1) := by
  obtain ⟨xs, ho, hf⟩ := h.ex
  have hl : xs.length = p := by simpa using ho.1
  refine ⟨⟨xs.set k v, (ho.stored k _).1, fun j hj => ?_⟩, h.bel.setCell (Nat.le_refl _) _⟩
  by_cases e : j = k
  · subst e; simp [hl, hk, hv]
  · rw [List.getElem?_set_ne (by omega)]; exact hf j (by omega)
theorem FillV.keep {B : Nat} {e : TypeId} {p : Nat} {f : Nat → Value} {w wr w' : World} {k : Nat} (h : FillV B e p f w wr k) (hb : Below wr.heap.size wr w') : FillV B e p f w w' k := by
  obtain ⟨xs, ho, hf⟩ := h.ex
  refine ⟨⟨xs, ?_, hf⟩, h.bel.trans (hb.mono (Nat.le_of_lt h.lt))⟩
  obtain ⟨hl, h0 | ⟨g, cap, cur, hv, hg, hh, r⟩⟩ := ho
  · exact ⟨hl, .inl h0⟩
  · exact ⟨hl, .inr ⟨g, cap, cur, hv, hg, (hb.block g (lt_of_block hh)).trans hh, r⟩⟩
theorem FillV.cells {B : Nat} {e : TypeId} {p : Nat} {f : Nat → Value} {w wr : World} {k : Nat} (h : FillV B e p f w wr k) (hk : k ≤ p) (i : Nat) (hi : i < k) : wr.cell? ⟨B, i, none⟩ = some (f i) := by
  obtain ⟨xs, ho, hf⟩ := h.ex
  rw [ho.cellAt i (by omega)]
  exact hf i hi

end Go.Proofs.YtepmnpapdknocaaGreatDoor
