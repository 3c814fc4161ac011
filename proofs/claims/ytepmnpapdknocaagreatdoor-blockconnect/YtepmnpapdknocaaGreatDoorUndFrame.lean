/- A slice of what was spent among the arguments. -/
import Derived.Test.YtepmnpapdknocaaGreatDoorBlkFrame
import Derived.Test.YtepmnpapdknocaaGreatDoorBlkConM
namespace Go.Proofs.YtepmnpapdknocaaGreatDoor
open Go.ChangeShapes Go.WideShapes Go.ChangeAt Go.RowKit

theorem Tryz.cellsUndoF : Tryz.prog.cellsOf 68 = 1 := by kernel_rfl
theorem Tryz.cellsCoinsF : Tryz.prog.cellsOf 25 = 1 := by kernel_rfl
section
variable {H : Type} {enc : TypeId × Value → H} {W : World} {sp : Nat → Bool} {held : Bool} {fuel : Nat}
theorem undoF_full {cs : List Value} {x : DataW H × List MemPlace} (h : DataW.trod enc Tryz.prog W 0 sp held fuel 68 cs = some x) : ∃ a n c S, cs = [.slice a n c] ∧ CoinsAt W a n S ∧ SlOk a n c := by
  obtain ⟨y0, k, _, hl, h0⟩ := trod_struct1 Tryz.underlying68 h
  rw [Tryz.cellsUndoF] at hl
  obtain ⟨c0, rfl⟩ := List.length_eq_one_iff.1 hl
  simp [Tryz.cellsCoinsF] at h0
  obtain ⟨a, n, c, S, rfl, hS, sS⟩ := coins_full h0
  exact ⟨a, n, c, S, rfl, hS, sS⟩
theorem undos_full {v : Value} {x : DataW H × List MemPlace} (h : DataW.trod enc Tryz.prog W 0 sp held fuel 29 [v] = some x) : ∃ a n c l, v = .slice a n c ∧ UndosAt W a n l ∧ SlOk a n c := by
  rcases Deep.open_slice Tryz.underlying29 h with ⟨hcs, _⟩ | ⟨b, l, c, m, n, D, Pl, hcs, _, hl, hm, hmm, _, hel⟩
  · simp at hcs
    subst hcs
    exact ⟨none, 0, 0, [], rfl, ⟨rfl, fun h => absurd h (Nat.lt_irrefl _)⟩, Nat.le_refl _, Nat.zero_le _, fun _ => ⟨rfl, rfl⟩⟩
  · simp at hcs
    subst hcs
    have hlm : l ≤ m := by rw [hmm]; split <;> omega
    have each : ∀ i, i < l → ∃ q : List CoinD, ∃ a n c, W.cell? (b.add i) = some (.slice a n c) ∧ CoinsAt W a n q ∧ SlOk a n c := fun i hi => by
      obtain ⟨cs', h1, h2⟩ := hel i (by omega)
      rw [Tryz.cellsUndoF] at h1
      obtain ⟨_, _, hcell⟩ := World.cells?_some h1
      obtain ⟨a, n, c, q, rfl, hO, hS⟩ := undoF_full h2
      have e0 := hcell 0 (by omega)
      rw [Deep.add_add] at e0
      exact ⟨q, a, n, c, by simpa using e0, hO, hS⟩
    obtain ⟨f, hf⟩ := Deep.choose_lt each
    refine ⟨some b, l, c, (List.range l).map f, rfl, ⟨by simp, fun hpos => ?_⟩, hl, hm, fun h => by cases h⟩
    obtain ⟨bb, off, spot⟩ := b
    obtain ⟨_, _, _, z0, _⟩ := hf 0 hpos
    have hspot : spot = none := by simpa [Addr.add] using World.cell?_spot z0
    subst hspot
    have hadd : ∀ j, (⟨bb, off, none⟩ : Addr).add j = ⟨bb, off + j, none⟩ := fun j => by unfold Addr.add; split <;> simp_all
    refine ⟨bb, off, rfl, by rw [hadd] at z0; exact World.block_lt_of_cell? _ _ z0, fun i hi => ?_⟩
    have hi' : i < l := by simpa using hi
    obtain ⟨a, n, c, q0, hO, hS⟩ := hf i hi'
    rw [hadd] at q0
    rw [List.getElem_map, List.getElem_range]
    exact ⟨a, n, c, q0, hO, hS⟩
end

end Go.Proofs.YtepmnpapdknocaaGreatDoor
