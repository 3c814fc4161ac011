/- What the rows of the laws of coins have in common: coins and transactions among the arguments. -/
import Derived.Test.YtepmnpapdknocaaGreatDoorCoinMem
import Derived.WalkKit
import Derived.ProofKit
import Derived.OpenShut
import Derived.ShutString
import Derived.ChangeOld
import Derived.Below
import Derived.Carry
import Derived.SizedLaws
import Derived.Deep.Strs
import Derived.Deep.SlicePairs
import Derived.Lib.SmallJoins
namespace Go.Proofs.YtepmnpapdknocaaGreatDoor
open Go.ChangeShapes Go.WideShapes Go.ChangeAt Go.RowKit

theorem own : ownKnob Tryz.prog.godebug = none := by kernel_rfl
theorem laidOut : laidOutB Tryz.prog = true := by kernel_rfl
theorem Tryz.cellsCoin : Tryz.prog.cellsOf 88 = 6 := by kernel_rfl
theorem Tryz.cells4 : Tryz.prog.cellsOf 4 = 1 := by kernel_rfl
theorem list_six {cs : List Value} (h : cs.length = 6) : ∃ a b c d e f, cs = [a, b, c, d, e, f] := by
  match cs, h with
  | [a, b, c, d, e, f], _ => exact ⟨a, b, c, d, e, f, rfl⟩
theorem Tryz.cellsOp : Tryz.prog.cellsOf 148 = 2 := by kernel_rfl
theorem Tryz.cells3 : Tryz.prog.cellsOf 3 = 1 := by kernel_rfl

/-- What a slice of orders that came in is to the walks. -/
theorem ops_open {H : Type} {enc : TypeId × Value → H} {W : World} {sp : Nat → Bool} {held : Bool} {fuel : Nat} {a : Option Addr} {len cap : Nat} {x : DataW H × List MemPlace}
    (h : DataW.trod enc Tryz.prog W 0 sp held fuel 82 [.slice a len cap] = some x) : (∃ l, OpsAt W a len l) ∧ (a = none → len = 0 ∧ cap = 0) := by
  rcases Deep.open_slice_pairs Tryz.underlying82 Tryz.underlying148 Tryz.cellsOp rfl rfl Tryz.cells3 Tryz.cells3 h with ⟨hcs, _⟩ | ⟨b, l, c, m, n, V0, V1, D0, D1, P0, P1, hcs, _, hl, _, hm, _, hel⟩
  · simp at hcs
    obtain ⟨rfl, rfl, rfl⟩ := hcs
    exact ⟨⟨[], rfl, fun h => absurd h (by omega)⟩, fun _ => ⟨rfl, rfl⟩⟩
  · simp at hcs
    obtain ⟨rfl, rfl, rfl⟩ := hcs
    refine ⟨?_, fun h => by cases h⟩
    have hlm : len ≤ m := by rw [hm]; split <;> omega
    have each : ∀ i, i < len → ∃ q : Int × Int, W.cell? (b.add (i * 2)) = some (.int .i64 q.1) ∧ W.cell? (b.add (i * 2 + 1)) = some (.int .i64 q.2) := fun i hi => by
      obtain ⟨h1, h2, t1, t2⟩ := hel i (by omega)
      obtain ⟨z1, e1, _, _⟩ := DataW.trod_int Tryz.underlying3 t1
      obtain ⟨z2, e2, _, _⟩ := DataW.trod_int Tryz.underlying3 t2
      simp only [List.cons.injEq, and_true] at e1 e2
      exact ⟨(z1, z2), by rw [h1, e1], by rw [h2, e2]⟩
    obtain ⟨f, hf⟩ := Deep.choose_lt each
    refine ⟨(List.range len).map f, by simp, fun hpos => ?_⟩
    obtain ⟨bb, off, spot⟩ := b
    have hspot : spot = none := by simpa [Addr.add] using World.cell?_spot (hf 0 hpos).1
    subst hspot
    refine ⟨bb, off, rfl, fun i hi => ?_⟩
    have hadd : ∀ j, (⟨bb, off, none⟩ : Addr).add j = ⟨bb, off + j, none⟩ := fun j => by unfold Addr.add; split <;> simp_all
    have h1 := hf i hi
    rw [hadd, hadd] at h1
    rw [← Nat.add_assoc] at h1
    simpa [hi] using h1

theorem Tryz.cellsTx : Tryz.prog.cellsOf 74 = 3 := by kernel_rfl
theorem Tryz.cellsIn : Tryz.prog.cellsOf 140 = 3 := by kernel_rfl
theorem Tryz.cellsOut : Tryz.prog.cellsOf 84 = 2 := by kernel_rfl
theorem Tryz.cellsPoint : Tryz.prog.cellsOf 86 = 2 := by kernel_rfl
theorem Tryz.cellsOps : Tryz.prog.cellsOf 82 = 1 := by kernel_rfl
theorem Tryz.cellsIns : Tryz.prog.cellsOf 71 = 1 := by kernel_rfl
theorem Tryz.cellsOuts : Tryz.prog.cellsOf 72 = 1 := by kernel_rfl

theorem list_two {cs : List Value} (h : cs.length = 2) : ∃ a b, cs = [a, b] := by
  match cs, h with
  | [a, b], _ => exact ⟨a, b, rfl⟩
theorem list_three {cs : List Value} (h : cs.length = 3) : ∃ a b c, cs = [a, b, c] := by
  match cs, h with
  | [a, b, c], _ => exact ⟨a, b, c, rfl⟩

section
variable {H : Type} {enc : TypeId × Value → H} {W : World} {sp : Nat → Bool} {held : Bool} {fuel : Nat}

theorem ops_full {v : Value} {x : DataW H × List MemPlace} (h : DataW.trod enc Tryz.prog W 0 sp held fuel 82 [v] = some x) : ∃ a n c l, v = .slice a n c ∧ OpsAt W a n l ∧ SlOk a n c := by
  have h' := h
  rcases Deep.open_slice Tryz.underlying82 h with ⟨hcs, _⟩ | ⟨b, l, c, m, n, D, Pl, hcs, _, hl, hm, _⟩
  · simp at hcs
    subst hcs
    exact ⟨none, 0, 0, [], rfl, ⟨rfl, fun h => absurd h (by omega)⟩, Nat.le_refl _, Nat.zero_le _, fun _ => ⟨rfl, rfl⟩⟩
  · simp at hcs
    subst hcs
    obtain ⟨⟨L, hO⟩, _⟩ := ops_open h'
    exact ⟨some b, l, c, L, rfl, hO, hl, hm, fun h => by cases h⟩

theorem in_full {cs : List Value} {x : DataW H × List MemPlace} (h : DataW.trod enc Tryz.prog W 0 sp held fuel 140 cs = some x) : ∃ x1 x2 a n c l, cs = [.int .i64 x1, .int .i64 x2, .slice a n c] ∧ OpsAt W a n l ∧ SlOk a n c := by
  obtain ⟨y0, y1, k, _, hl, h0, h1⟩ := trod_struct2 Tryz.underlying140 h
  rw [Tryz.cellsIn] at hl
  obtain ⟨c0, c1, c2, rfl⟩ := list_three hl
  simp [Tryz.cellsPoint, Tryz.cellsOps] at h0 h1
  obtain ⟨z0, z1, k2, _, _, g0, g1⟩ := trod_struct2 Tryz.underlying86 h0
  simp [Tryz.cells3] at g0 g1
  obtain ⟨x1, e1, _, _⟩ := DataW.trod_int Tryz.underlying3 g0
  obtain ⟨x2, e2, _, _⟩ := DataW.trod_int Tryz.underlying3 g1
  obtain ⟨a, n, c, l, rfl, hO, hS⟩ := ops_full h1
  simp only [List.cons.injEq, and_true] at e1 e2
  subst e1 e2
  exact ⟨x1, x2, a, n, c, l, rfl, hO, hS⟩
theorem out_full {cs : List Value} {x : DataW H × List MemPlace} (h : DataW.trod enc Tryz.prog W 0 sp held fuel 84 cs = some x) : ∃ x1 a n c l, cs = [.int .i64 x1, .slice a n c] ∧ OpsAt W a n l ∧ SlOk a n c := by
  obtain ⟨y0, y1, k, _, hl, h0, h1⟩ := trod_struct2 Tryz.underlying84 h
  rw [Tryz.cellsOut] at hl
  obtain ⟨c0, c1, rfl⟩ := list_two hl
  simp [Tryz.cells3, Tryz.cellsOps] at h0 h1
  obtain ⟨x1, e1, _, _⟩ := DataW.trod_int Tryz.underlying3 h0
  obtain ⟨a, n, c, l, rfl, hO, hS⟩ := ops_full h1
  simp only [List.cons.injEq, and_true] at e1
  subst e1
  exact ⟨x1, a, n, c, l, rfl, hO, hS⟩

theorem ins_full {v : Value} {x : DataW H × List MemPlace} (h : DataW.trod enc Tryz.prog W 0 sp held fuel 71 [v] = some x) : ∃ a n c l, v = .slice a n c ∧ InsAt W a n l ∧ SlOk a n c := by
  rcases Deep.open_slice Tryz.underlying71 h with ⟨hcs, _⟩ | ⟨b, l, c, m, n, D, Pl, hcs, _, hl, hm, hmm, _, hel⟩
  · simp at hcs
    subst hcs
    exact ⟨none, 0, 0, [], rfl, RowsAt.nil _ _, Nat.le_refl _, Nat.zero_le _, fun _ => ⟨rfl, rfl⟩⟩
  · simp at hcs
    subst hcs
    have hlm : l ≤ m := by rw [hmm]; split <;> omega
    have each : ∀ i, i < l → ∃ q : InD, ∃ a n c, W.cell? (b.add (i * 3)) = some (.int .i64 q.1) ∧ W.cell? (b.add (i * 3 + 1)) = some (.int .i64 q.2.1) ∧ W.cell? (b.add (i * 3 + 2)) = some (.slice a n c) ∧ OpsAt W a n q.2.2 ∧ SlOk a n c := fun i hi => by
      obtain ⟨cs', h1, h2⟩ := hel i (by omega)
      rw [Tryz.cellsIn] at h1
      obtain ⟨_, _, hcell⟩ := World.cells?_some h1
      obtain ⟨x1, x2, a, n, c, key, rfl, hO, hS⟩ := in_full h2
      have e0 := hcell 0 (by omega)
      have e1 := hcell 1 (by omega)
      have e2 := hcell 2 (by omega)
      rw [Deep.add_add] at e0 e1 e2
      exact ⟨(x1, x2, key), a, n, c, by simpa using e0, by simpa using e1, by simpa using e2, hO, hS⟩
    obtain ⟨f, hf⟩ := Deep.choose_lt each
    refine ⟨some b, l, c, (List.range l).map f, rfl, ⟨by simp, fun hpos => ?_⟩, hl, hm, fun h => by cases h⟩
    obtain ⟨bb, off, spot⟩ := b
    obtain ⟨_, _, _, z0, _⟩ := hf 0 hpos
    have hspot : spot = none := by simpa [Addr.add] using World.cell?_spot z0
    subst hspot
    have hadd : ∀ j, (⟨bb, off, none⟩ : Addr).add j = ⟨bb, off + j, none⟩ := fun j => by unfold Addr.add; split <;> simp_all
    refine ⟨bb, off, rfl, by rw [hadd] at z0; exact World.block_lt_of_cell? _ _ z0, fun i hi => ?_⟩
    have hi' : i < l := by simpa using hi
    obtain ⟨a, n, c, q0, q1, q2, hO, hS⟩ := hf i hi'
    rw [hadd] at q0 q1 q2
    rw [← Nat.add_assoc] at q1 q2
    rw [List.getElem_map, List.getElem_range]
    exact ⟨q0, q1, a, n, c, q2, hO, hS⟩
theorem outs_full {v : Value} {x : DataW H × List MemPlace} (h : DataW.trod enc Tryz.prog W 0 sp held fuel 72 [v] = some x) : ∃ a n c l, v = .slice a n c ∧ OutsAt W a n l ∧ SlOk a n c := by
  rcases Deep.open_slice Tryz.underlying72 h with ⟨hcs, _⟩ | ⟨b, l, c, m, n, D, Pl, hcs, _, hl, hm, hmm, _, hel⟩
  · simp at hcs
    subst hcs
    exact ⟨none, 0, 0, [], rfl, RowsAt.nil _ _, Nat.le_refl _, Nat.zero_le _, fun _ => ⟨rfl, rfl⟩⟩
  · simp at hcs
    subst hcs
    have hlm : l ≤ m := by rw [hmm]; split <;> omega
    have each : ∀ i, i < l → ∃ q : OutD, ∃ a n c, W.cell? (b.add (i * 2)) = some (.int .i64 q.1) ∧ W.cell? (b.add (i * 2 + 1)) = some (.slice a n c) ∧ OpsAt W a n q.2 ∧ SlOk a n c := fun i hi => by
      obtain ⟨cs', h1, h2⟩ := hel i (by omega)
      rw [Tryz.cellsOut] at h1
      obtain ⟨_, _, hcell⟩ := World.cells?_some h1
      obtain ⟨x1, a, n, c, key, rfl, hO, hS⟩ := out_full h2
      have e0 := hcell 0 (by omega)
      have e1 := hcell 1 (by omega)
      rw [Deep.add_add] at e0 e1
      exact ⟨(x1, key), a, n, c, by simpa using e0, by simpa using e1, hO, hS⟩
    obtain ⟨f, hf⟩ := Deep.choose_lt each
    refine ⟨some b, l, c, (List.range l).map f, rfl, ⟨by simp, fun hpos => ?_⟩, hl, hm, fun h => by cases h⟩
    obtain ⟨bb, off, spot⟩ := b
    obtain ⟨_, _, _, z0, _⟩ := hf 0 hpos
    have hspot : spot = none := by simpa [Addr.add] using World.cell?_spot z0
    subst hspot
    have hadd : ∀ j, (⟨bb, off, none⟩ : Addr).add j = ⟨bb, off + j, none⟩ := fun j => by unfold Addr.add; split <;> simp_all
    refine ⟨bb, off, rfl, by rw [hadd] at z0; exact World.block_lt_of_cell? _ _ z0, fun i hi => ?_⟩
    have hi' : i < l := by simpa using hi
    obtain ⟨a, n, c, q0, q1, hO, hS⟩ := hf i hi'
    rw [hadd] at q0 q1
    rw [← Nat.add_assoc] at q1
    rw [List.getElem_map, List.getElem_range]
    exact ⟨q0, a, n, c, q1, hO, hS⟩

/-- A transaction that came in. -/
theorem tx_open {cs : List Value} {x : DataW H × List MemPlace} (h : DataW.trod enc Tryz.prog W 0 sp held fuel 74 cs = some x) : ∃ h ai ni ci ao no co I O, cs = [.int .i64 h, .slice ai ni ci, .slice ao no co] ∧ InsAt W ai ni I ∧ OutsAt W ao no O ∧ SlOk ai ni ci ∧ SlOk ao no co := by
  obtain ⟨y0, y1, y2, k, _, hl, h0, h1, h2⟩ := Deep.trod_struct3 Tryz.underlying74 h
  rw [Tryz.cellsTx] at hl
  obtain ⟨c0, c1, c2, rfl⟩ := list_three hl
  simp [Tryz.cells3, Tryz.cellsIns, Tryz.cellsOuts] at h0 h1 h2
  obtain ⟨hh, e0, _, _⟩ := DataW.trod_int Tryz.underlying3 h0
  obtain ⟨ai, ni, ci, I, rfl, hI, sI⟩ := ins_full h1
  obtain ⟨ao, no, co, O, rfl, hO, sO⟩ := outs_full h2
  simp only [List.cons.injEq, and_true] at e0
  subst e0
  exact ⟨hh, ai, ni, ci, ao, no, co, I, O, rfl, hI, hO, sI, sO⟩

theorem coin_full {cs : List Value} {x : DataW H × List MemPlace} (h : DataW.trod enc Tryz.prog W 0 sp held fuel 88 cs = some x) : ∃ (q : CoinD) (a : Option Addr) (n c : Nat), cs = [.int .i64 q.1, .int .i64 q.2.1, .int .i64 (cv q), .slice a n c, .int .i64 (ch q), .bool (cr q)] ∧ OpsAt W a n (ck q) ∧ SlOk a n c := by
  obtain ⟨y0, y1, y2, y3, k, _, hl, h0, h1, h2, h3⟩ := Joins.trod_struct4 Tryz.underlying88 h
  rw [Tryz.cellsCoin] at hl
  obtain ⟨c0, c1, c2, c3, c4, c5, rfl⟩ := list_six hl
  simp [Tryz.cellsPoint, Tryz.cellsOut, Tryz.cells3, Tryz.cells4] at h0 h1 h2 h3
  obtain ⟨z0, z1, k2, _, _, g0, g1⟩ := trod_struct2 Tryz.underlying86 h0
  simp [Tryz.cells3] at g0 g1
  obtain ⟨x1, e1, _, _⟩ := DataW.trod_int Tryz.underlying3 g0
  obtain ⟨x2, e2, _, _⟩ := DataW.trod_int Tryz.underlying3 g1
  obtain ⟨x3, a, n, c, l, e3, hO, hS⟩ := out_full h1
  obtain ⟨x4, e4, _, _⟩ := DataW.trod_int Tryz.underlying3 h2
  obtain ⟨x5, e5, _⟩ := DataW.trod_bool Tryz.underlying4 h3
  simp only [List.cons.injEq, and_true] at e1 e2 e3 e4 e5
  obtain ⟨rfl, rfl⟩ := e3
  subst e1 e2 e4 e5
  exact ⟨(x1, x2, x3, l, x4, x5), a, n, c, rfl, hO, hS⟩
theorem coins_full {v : Value} {x : DataW H × List MemPlace} (h : DataW.trod enc Tryz.prog W 0 sp held fuel 25 [v] = some x) : ∃ a n c l, v = .slice a n c ∧ CoinsAt W a n l ∧ SlOk a n c := by
  rcases Deep.open_slice Tryz.underlying25 h with ⟨hcs, _⟩ | ⟨b, l, c, m, n, D, Pl, hcs, _, hl, hm, hmm, _, hel⟩
  · simp at hcs
    subst hcs
    exact ⟨none, 0, 0, [], rfl, RowsAt.nil _ _, Nat.le_refl _, Nat.zero_le _, fun _ => ⟨rfl, rfl⟩⟩
  · simp at hcs
    subst hcs
    have hlm : l ≤ m := by rw [hmm]; split <;> omega
    have each : ∀ i, i < l → ∃ q : CoinD, ∃ a n c, W.cell? (b.add (i * 6)) = some (.int .i64 q.1) ∧ W.cell? (b.add (i * 6 + 1)) = some (.int .i64 q.2.1) ∧ W.cell? (b.add (i * 6 + 2)) = some (.int .i64 (cv q)) ∧ W.cell? (b.add (i * 6 + 3)) = some (.slice a n c) ∧ W.cell? (b.add (i * 6 + 4)) = some (.int .i64 (ch q)) ∧ W.cell? (b.add (i * 6 + 5)) = some (.bool (cr q)) ∧ OpsAt W a n (ck q) ∧ SlOk a n c := fun i hi => by
      obtain ⟨cs', h1, h2⟩ := hel i (by omega)
      rw [Tryz.cellsCoin] at h1
      obtain ⟨_, _, hcell⟩ := World.cells?_some h1
      obtain ⟨q, a, n, c, rfl, hO, hS⟩ := coin_full h2
      have e0 := hcell 0 (by omega)
      have e1 := hcell 1 (by omega)
      have e2 := hcell 2 (by omega)
      have e3 := hcell 3 (by omega)
      have e4 := hcell 4 (by omega)
      have e5 := hcell 5 (by omega)
      rw [Deep.add_add] at e0 e1 e2 e3 e4 e5
      exact ⟨q, a, n, c, by simpa using e0, by simpa using e1, by simpa using e2, by simpa using e3, by simpa using e4, by simpa using e5, hO, hS⟩
    obtain ⟨f, hf⟩ := Deep.choose_lt each
    refine ⟨some b, l, c, (List.range l).map f, rfl, ⟨by simp, fun hpos => ?_⟩, hl, hm, fun h => by cases h⟩
    obtain ⟨bb, off, spot⟩ := b
    obtain ⟨_, _, _, z0, _⟩ := hf 0 hpos
    have hspot : spot = none := by simpa [Addr.add] using World.cell?_spot z0
    subst hspot
    have hadd : ∀ j, (⟨bb, off, none⟩ : Addr).add j = ⟨bb, off + j, none⟩ := fun j => by unfold Addr.add; split <;> simp_all
    refine ⟨bb, off, rfl, by rw [hadd] at z0; exact World.block_lt_of_cell? _ _ z0, fun i hi => ?_⟩
    have hi' : i < l := by simpa using hi
    obtain ⟨a, n, c, q0, q1, q2, q3, q4, q5, hO, hS⟩ := hf i hi'
    rw [hadd] at q0 q1 q2 q3 q4 q5
    rw [← Nat.add_assoc] at q1 q2 q3 q4 q5
    rw [List.getElem_map, List.getElem_range]
    exact ⟨q0, q1, q2, ⟨a, n, c, q3, hO, hS⟩, q4, q5⟩
end

end Go.Proofs.YtepmnpapdknocaaGreatDoor
