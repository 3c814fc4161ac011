/- What the rows of the laws of books have in common: books and slices of texts among the arguments. -/
import Derived.Test.YtepmnpapdknocaaGreatDoorBookAllW
import Derived.WalkKit
import Derived.ProofKit
import Derived.OpenShut
import Derived.ShutString
import Derived.ChangeOld
import Derived.Below
import Derived.Carry
import Derived.SizedLaws
import Derived.Deep.Strs
namespace Go.Proofs.YtepmnpapdknocaaGreatDoor.Bk
open Go.ChangeShapes Go.WideShapes Go.ChangeAt Go.RowKit

theorem own : ownKnob Tryz.prog.godebug = none := by kernel_rfl
theorem laidOut : laidOutB Tryz.prog = true := by kernel_rfl
theorem Tryz.cells9 : Tryz.prog.cellsOf 9 = 1 := by kernel_rfl
theorem Tryz.cellsStrs : Tryz.prog.cellsOf 22 = 1 := by kernel_rfl
theorem Tryz.cellsBook : Tryz.prog.cellsOf 24 = 1 := by kernel_rfl
section
variable {H : Type} {enc : TypeId × Value → H} {W : World} {sp : Nat → Bool} {held : Bool} {fuel : Nat}

theorem strs_full {v : Value} {x : DataW H × List MemPlace} (h : DataW.trod enc Tryz.prog W 0 sp held fuel 22 [v] = some x) :
    ∃ a n c L, v = .slice a n c ∧ TextsAt W a n L ∧ SlOk a n c ∧ (n = 0 ∨ ∃ elems spare, x.1 = .slice elems spare ∧ elems.length = n) := by
  rcases Deep.open_strs Tryz.underlying22 Tryz.underlying9 Tryz.cells9 h with ⟨hcs, _⟩ | ⟨b, l, c, m, Sx, hcs, _, hl, hm, hmm, hx, hel⟩
  · simp at hcs
    subst hcs
    exact ⟨none, 0, 0, [], rfl, TextsAt.nil _ _, SlOk.nil, Or.inl rfl⟩
  · simp at hcs
    subst hcs
    have hlm : l ≤ m := by rw [hmm]; split <;> omega
    refine ⟨some b, l, c, (List.range l).map Sx, rfl, ⟨by simp, fun hpos => ?_⟩, ⟨hl, hm, fun h => by cases h⟩, Or.inr ⟨_, _, by rw [hx], by simp⟩⟩
    obtain ⟨bb, off, spot⟩ := b
    have z0 := (hel 0 (by omega)).1
    have hspot : spot = none := by simpa [Addr.add] using World.cell?_spot z0
    subst hspot
    have hadd : ∀ j, (⟨bb, off, none⟩ : Addr).add j = ⟨bb, off + j, none⟩ := fun j => by unfold Addr.add; split <;> simp_all
    refine ⟨bb, off, rfl, fun i hi => ?_⟩
    have hi' : i < l := by simpa using hi
    have q := (hel i (by omega)).1
    rw [hadd] at q
    rw [List.getElem_map, List.getElem_range]
    exact q

theorem book_full {cs : List Value} {x : DataW H × List MemPlace} (h : DataW.trod enc Tryz.prog W 0 sp held fuel 24 cs = some x) : ∃ a n c L, cs = [.slice a n c] ∧ TextsAt W a n L ∧ SlOk a n c := by
  obtain ⟨y0, k, _, hl, h0⟩ := trod_struct1 Tryz.underlying24 h
  rw [Tryz.cellsBook] at hl
  obtain ⟨c0, rfl⟩ := List.length_eq_one_iff.1 hl
  simp [Tryz.cellsStrs] at h0
  obtain ⟨a, n, c, L, rfl, hT, hS, _⟩ := strs_full h0
  exact ⟨a, n, c, L, rfl, hT, hS⟩
end

end Go.Proofs.YtepmnpapdknocaaGreatDoor.Bk
