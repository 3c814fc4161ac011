/- What the rows of the laws of tx have in common: transactions among the arguments. -/
import Derived.Test.YtadlakolpphgnaaGreatDoorTxMem
import Derived.Test.YtadlakolpphgnaaGreatDoorLockFrameP
import Derived.Deep.Strs
namespace Go.Proofs.YtadlakolpphgnaaGreatDoor
open Go.ChangeShapes Go.WideShapes Go.ChangeAt Go.RowKit

theorem Tryz.cellsTx : Tryz.prog.cellsOf 25 = 3 := by kernel_rfl
theorem Tryz.cellsIn : Tryz.prog.cellsOf 41 = 3 := by kernel_rfl
theorem Tryz.cellsOut : Tryz.prog.cellsOf 44 = 2 := by kernel_rfl
theorem Tryz.cellsPoint : Tryz.prog.cellsOf 38 = 2 := by kernel_rfl
theorem Tryz.cellsOps : Tryz.prog.cellsOf 39 = 1 := by kernel_rfl
theorem Tryz.cellsIns : Tryz.prog.cellsOf 22 = 1 := by kernel_rfl
theorem Tryz.cellsOuts : Tryz.prog.cellsOf 23 = 1 := by kernel_rfl

theorem list_two {cs : List Value} (h : cs.length = 2) : ∃ a b, cs = [a, b] := by
  match cs, h with
  | [a, b], _ => exact ⟨a, b, rfl⟩
theorem list_three {cs : List Value} (h : cs.length = 3) : ∃ a b c, cs = [a, b, c] := by
  match cs, h with
  | [a, b, c], _ => exact ⟨a, b, c, rfl⟩

section
variable {H : Type} {enc : TypeId × Value → H} {W : World} {sp : Nat → Bool} {held : Bool} {fuel : Nat}

theorem ops_full {v : Value} {x : DataW H × List MemPlace} (h : DataW.trod enc Tryz.prog W 0 sp held fuel 39 [v] = some x) : ∃ a n c l, v = .slice a n c ∧ OpsAt W a n l ∧ SlOk a n c := by
  have h' := h
  rcases Deep.open_slice Tryz.underlying39 h with ⟨hcs, _⟩ | ⟨b, l, c, m, n, D, Pl, hcs, _, hl, hm, _⟩
  · simp at hcs
    subst hcs
    exact ⟨none, 0, 0, [], rfl, ⟨rfl, fun h => absurd h (by omega)⟩, Nat.le_refl _, Nat.zero_le _, fun _ => ⟨rfl, rfl⟩⟩
  · simp at hcs
    subst hcs
    obtain ⟨⟨L, hO⟩, _⟩ := ops_open h'
    exact ⟨some b, l, c, L, rfl, hO, hl, hm, fun h => by cases h⟩

theorem in_full {cs : List Value} {x : DataW H × List MemPlace} (h : DataW.trod enc Tryz.prog W 0 sp held fuel 41 cs = some x) : ∃ x1 x2 a n c l, cs = [.int .i64 x1, .int .i64 x2, .slice a n c] ∧ OpsAt W a n l ∧ SlOk a n c := by
  obtain ⟨y0, y1, k, _, hl, h0, h1⟩ := trod_struct2 Tryz.underlying41 h
  rw [Tryz.cellsIn] at hl
  obtain ⟨c0, c1, c2, rfl⟩ := list_three hl
  simp [Tryz.cellsPoint, Tryz.cellsOps] at h0 h1
  obtain ⟨z0, z1, k2, _, _, g0, g1⟩ := trod_struct2 Tryz.underlying38 h0
  simp [Tryz.cells3] at g0 g1
  obtain ⟨x1, e1, _, _⟩ := DataW.trod_int Tryz.underlying3 g0
  obtain ⟨x2, e2, _, _⟩ := DataW.trod_int Tryz.underlying3 g1
  obtain ⟨a, n, c, l, rfl, hO, hS⟩ := ops_full h1
  simp only [List.cons.injEq, and_true] at e1 e2
  subst e1 e2
  exact ⟨x1, x2, a, n, c, l, rfl, hO, hS⟩
theorem out_full {cs : List Value} {x : DataW H × List MemPlace} (h : DataW.trod enc Tryz.prog W 0 sp held fuel 44 cs = some x) : ∃ x1 a n c l, cs = [.int .i64 x1, .slice a n c] ∧ OpsAt W a n l ∧ SlOk a n c := by
  obtain ⟨y0, y1, k, _, hl, h0, h1⟩ := trod_struct2 Tryz.underlying44 h
  rw [Tryz.cellsOut] at hl
  obtain ⟨c0, c1, rfl⟩ := list_two hl
  simp [Tryz.cells3, Tryz.cellsOps] at h0 h1
  obtain ⟨x1, e1, _, _⟩ := DataW.trod_int Tryz.underlying3 h0
  obtain ⟨a, n, c, l, rfl, hO, hS⟩ := ops_full h1
  simp only [List.cons.injEq, and_true] at e1
  subst e1
  exact ⟨x1, a, n, c, l, rfl, hO, hS⟩

theorem ins_full {v : Value} {x : DataW H × List MemPlace} (h : DataW.trod enc Tryz.prog W 0 sp held fuel 22 [v] = some x) : ∃ a n c l, v = .slice a n c ∧ InsAt W a n l ∧ SlOk a n c := by
  rcases Deep.open_slice Tryz.underlying22 h with ⟨hcs, _⟩ | ⟨b, l, c, m, n, D, Pl, hcs, _, hl, hm, hmm, _, hel⟩
  · simp at hcs
    subst hcs
    exact ⟨none, 0, 0, [], rfl, RowsAt.nil _ _, Nat.le_refl _, Nat.zero_le _, fun _ => ⟨rfl, rfl⟩⟩
  · simp at hcs
    subst hcs
    have hlm : l ≤ m := by rw [hmm]; split <;> omega
    have each : ∀ i, i < l → ∃ q : InD, ∃ a n c, W.cell? (b.add (i * 3)) = some (.int .i64 q.1) ∧ W.cell? (b.add (i * 3 + 1)) = some (.int .i64 q.2.1) ∧ W.cell? (b.add (i * 3 + 2)) = some (.slice a n c) ∧ OpsAt W a n q.2.2 ∧ SlOk a n c := fun i hi => by
      obtain ⟨cs', h1, h2⟩ := hel i (by omega)
      rw [Tryz.cellsIn] at h1
      obtain ⟨_, _, hcell⟩ := World.cells?_some h1
      obtain ⟨x1, x2, a, n, c, key, rfl, hO, hS⟩ := in_full h2
      have e0 := hcell 0 (by omega)
      have e1 := hcell 1 (by omega)
      have e2 := hcell 2 (by omega)
      rw [Deep.add_add] at e0 e1 e2
      exact ⟨(x1, x2, key), a, n, c, by simpa using e0, by simpa using e1, by simpa using e2, hO, hS⟩
    obtain ⟨f, hf⟩ := Deep.choose_lt each
    refine ⟨some b, l, c, (List.range l).map f, rfl, ⟨by simp, fun hpos => ?_⟩, hl, hm, fun h => by cases h⟩
    obtain ⟨bb, off, spot⟩ := b
    obtain ⟨_, _, _, z0, _⟩ := hf 0 hpos
    have hspot : spot = none := by simpa [Addr.add] using World.cell?_spot z0
    subst hspot
    have hadd : ∀ j, (⟨bb, off, none⟩ : Addr).add j = ⟨bb, off + j, none⟩ := fun j => by unfold Addr.add; split <;> simp_all
    refine ⟨bb, off, rfl, by rw [hadd] at z0; exact World.block_lt_of_cell? _ _ z0, fun i hi => ?_⟩
    have hi' : i < l := by simpa using hi
    obtain ⟨a, n, c, q0, q1, q2, hO, hS⟩ := hf i hi'
    rw [hadd] at q0 q1 q2
    rw [← Nat.add_assoc] at q1 q2
    rw [List.getElem_map, List.getElem_range]
    exact ⟨q0, q1, a, n, c, q2, hO, hS⟩
theorem outs_full {v : Value} {x : DataW H × List MemPlace} (h : DataW.trod enc Tryz.prog W 0 sp held fuel 23 [v] = some x) : ∃ a n c l, v = .slice a n c ∧ OutsAt W a n l ∧ SlOk a n c := by
  rcases Deep.open_slice Tryz.underlying23 h with ⟨hcs, _⟩ | ⟨b, l, c, m, n, D, Pl, hcs, _, hl, hm, hmm, _, hel⟩
  · simp at hcs
    subst hcs
    exact ⟨none, 0, 0, [], rfl, RowsAt.nil _ _, Nat.le_refl _, Nat.zero_le _, fun _ => ⟨rfl, rfl⟩⟩
  · simp at hcs
    subst hcs
    have hlm : l ≤ m := by rw [hmm]; split <;> omega
    have each : ∀ i, i < l → ∃ q : OutD, ∃ a n c, W.cell? (b.add (i * 2)) = some (.int .i64 q.1) ∧ W.cell? (b.add (i * 2 + 1)) = some (.slice a n c) ∧ OpsAt W a n q.2 ∧ SlOk a n c := fun i hi => by
      obtain ⟨cs', h1, h2⟩ := hel i (by omega)
      rw [Tryz.cellsOut] at h1
      obtain ⟨_, _, hcell⟩ := World.cells?_some h1
      obtain ⟨x1, a, n, c, key, rfl, hO, hS⟩ := out_full h2
      have e0 := hcell 0 (by omega)
      have e1 := hcell 1 (by omega)
      rw [Deep.add_add] at e0 e1
      exact ⟨(x1, key), a, n, c, by simpa using e0, by simpa using e1, hO, hS⟩
    obtain ⟨f, hf⟩ := Deep.choose_lt each
    refine ⟨some b, l, c, (List.range l).map f, rfl, ⟨by simp, fun hpos => ?_⟩, hl, hm, fun h => by cases h⟩
    obtain ⟨bb, off, spot⟩ := b
    obtain ⟨_, _, _, z0, _⟩ := hf 0 hpos
    have hspot : spot = none := by simpa [Addr.add] using World.cell?_spot z0
    subst hspot
    have hadd : ∀ j, (⟨bb, off, none⟩ : Addr).add j = ⟨bb, off + j, none⟩ := fun j => by unfold Addr.add; split <;> simp_all
    refine ⟨bb, off, rfl, by rw [hadd] at z0; exact World.block_lt_of_cell? _ _ z0, fun i hi => ?_⟩
    have hi' : i < l := by simpa using hi
    obtain ⟨a, n, c, q0, q1, hO, hS⟩ := hf i hi'
    rw [hadd] at q0 q1
    rw [← Nat.add_assoc] at q1
    rw [List.getElem_map, List.getElem_range]
    exact ⟨q0, a, n, c, q1, hO, hS⟩

/-- A transaction that came in. -/
theorem tx_open {cs : List Value} {x : DataW H × List MemPlace} (h : DataW.trod enc Tryz.prog W 0 sp held fuel 25 cs = some x) : ∃ h ai ni ci ao no co I O, cs = [.int .i64 h, .slice ai ni ci, .slice ao no co] ∧ InsAt W ai ni I ∧ OutsAt W ao no O ∧ SlOk ai ni ci ∧ SlOk ao no co := by
  obtain ⟨y0, y1, y2, k, _, hl, h0, h1, h2⟩ := Deep.trod_struct3 Tryz.underlying25 h
  rw [Tryz.cellsTx] at hl
  obtain ⟨c0, c1, c2, rfl⟩ := list_three hl
  simp [Tryz.cells3, Tryz.cellsIns, Tryz.cellsOuts] at h0 h1 h2
  obtain ⟨hh, e0, _, _⟩ := DataW.trod_int Tryz.underlying3 h0
  obtain ⟨ai, ni, ci, I, rfl, hI, sI⟩ := ins_full h1
  obtain ⟨ao, no, co, O, rfl, hO, sO⟩ := outs_full h2
  simp only [List.cons.injEq, and_true] at e0
  subst e0
  exact ⟨hh, ai, ni, ci, ao, no, co, I, O, rfl, hI, hO, sI, sO⟩
end

end Go.Proofs.YtadlakolpphgnaaGreatDoor
