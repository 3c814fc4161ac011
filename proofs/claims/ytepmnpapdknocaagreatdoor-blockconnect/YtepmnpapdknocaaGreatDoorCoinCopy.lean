/- Contracts of what copies coins: a lock in memory of its own, a coin, a row of them. -/
import Derived.Test.YtepmnpapdknocaaGreatDoorCoinSpendB
import Derived.Test.YtepmnpapdknocaaGreatDoorLockFill
namespace Go.Proofs.YtepmnpapdknocaaGreatDoor
open Go.RowKit

def flatO : List (Int × Int) → List Value
  | [] => []
  | o :: r => .int .i64 o.1 :: .int .i64 o.2 :: flatO r
theorem flatO_len : ∀ l : List (Int × Int), (flatO l).length = l.length * 2
  | [] => rfl
  | _ :: r => by simp only [flatO, List.length_cons, flatO_len r]; omega
theorem flatO_at : ∀ (l : List (Int × Int)) (i : Nat), i < l.length → (flatO l)[i * 2]? = some (.int .i64 (l.getD i (0, 0)).1) ∧ (flatO l)[i * 2 + 1]? = some (.int .i64 (l.getD i (0, 0)).2)
  | [], _, h => absurd h (by simp)
  | o :: r, 0, _ => ⟨rfl, rfl⟩
  | o :: r, i + 1, h => by
    have := flatO_at r i (by simpa using h)
    rw [show (i + 1) * 2 = i * 2 + 2 by omega]
    simpa [flatO] using this
theorem flatO_one : ∀ (l : List (Int × Int)) (u : Value), u ∈ flatO l → u.oneCell' = true
  | [], u, h => by cases h
  | o :: r, u, h => by
    simp only [flatO, List.mem_cons] at h
    rcases h with rfl | rfl | h
    · rfl
    · rfl
    · exact flatO_one r u h
theorem flatO_cells {w : World} {b off n : Nat} {l : List (Int × Int)} (hz : l.length = n) (hc : ∀ i, i < n → w.cell? ⟨b, off + i * 2, none⟩ = some (.int .i64 (l.getD i (0, 0)).1) ∧ w.cell? ⟨b, off + i * 2 + 1, none⟩ = some (.int .i64 (l.getD i (0, 0)).2)) (j : Nat) (u : Value) (hj : (flatO l)[j]? = some u) : w.cell? ⟨b, off + j, none⟩ = some u := by
  have hjl : j < l.length * 2 := by rw [← flatO_len]; exact (List.getElem?_eq_some_iff.1 hj).1
  obtain ⟨f0, f1⟩ := flatO_at l (j / 2) (by omega)
  obtain ⟨c0, c1⟩ := hc (j / 2) (by omega)
  rcases (show j % 2 = 0 ∨ j % 2 = 1 by omega) with q | q
  · have e : j = j / 2 * 2 := by omega
    rw [← e] at f0 c0
    rw [f0] at hj
    rw [c0, ← hj]
  · have e : j = j / 2 * 2 + 1 := by omega
    rw [← e] at f1
    rw [show off + j / 2 * 2 + 1 = off + j by omega] at c1
    rw [f1] at hj
    rw [c1, ← hj]
theorem ops_own {w : World} {base : Nat} {v : Value} {n : Nat} {l : List (Int × Int)} (h : w.ownsRow base 148 2 v n (flatO l)) : ∃ a c, v = .slice a n c ∧ OpsAt w a n l ∧ SlOk a n c ∧ (∀ ad, a = some ad → base ≤ ad.block) := by
  have hl : l.length = n := by have := h.1; rw [flatO_len] at this; omega
  rcases h.2 with ⟨rfl, rfl⟩ | ⟨g, cap, cur, rfl, hg, hh, h1, h2, h3, h4⟩
  · exact ⟨none, 0, rfl, ⟨hl, fun h => absurd h (by omega)⟩, ⟨Nat.le_refl _, Nat.zero_le _, fun _ => ⟨rfl, rfl⟩⟩, fun ad e => by cases e⟩
  · refine ⟨_, cap, rfl, ⟨hl, fun _ => ⟨g, 0, rfl, fun i hi => ?_⟩⟩, ⟨h1, h2, fun e => by cases e⟩, fun ad e => by cases e; exact hg⟩
    obtain ⟨f0, f1⟩ := flatO_at l i (by omega)
    rw [Nat.zero_add, World.ownsRow.cellAt h _ (by omega), World.ownsRow.cellAt h _ (by omega)]
    exact ⟨f0, f1⟩

theorem Tryz.infoOpC : (Tryz.prog.info? 148).map (fun i => (i.zero, i.size, i.bytes)) = some (some (.agg #[.int .i64 0, .int .i64 0]), 2, 16) := by kernel_rfl

set_option maxRecDepth 10000 in
set_option maxHeartbeats 800000 in
theorem cloneOp_nil (w : World) : Calls Tryz.prog 182 #[.slice none 0 0] w fun e w' => e = .returned (.slice none 0 0) ∧ w = w' := by
  have he := fun w => Lib.run_eql_slice_nil (P := Tryz.prog) w 82 148 none 0 0 0 0 Tryz.underlying82
  go_enter Tryz.func182, Tryz.ntmps182
  go_wp2
  go_ret
  exact ⟨rfl, rfl⟩

set_option maxRecDepth 10000 in
set_option maxHeartbeats 1600000 in
theorem cloneOp_some (ad : Addr) (n c : Nat) (l : List (Int × Int)) (w : World) (hn : n ≤ 4096) (hz : l.length = n) (hc : ∀ j u, (flatO l)[j]? = some u → w.cell? (ad.add j) = some u) :
    Calls Tryz.prog 182 #[.slice (some ad) n c] w fun e w' => ∃ v, e = .returned v ∧ w'.ownsRow w.heap.size 148 2 v n (flatO l) ∧ Below w.heap.size w w' := by
  obtain ⟨i0, hi, hz0, hz1, hz2⟩ := info_parts Tryz.infoOpC
  have hb := bel_new w (.cells #[] 148)
  have HC : Hid (∀ j u, (flatO l)[j]? = some u → (w.alloc (.cells #[] 148)).cell? (ad.add j) = some u) := fun j u hj => cell_later hb (hc j u hj)
  have HB := hide hb
  have HZ := hide hz
  have HO := hide (own_nil w 148 2)
  have he := fun w => Lib.run_eql_slice_nil (P := Tryz.prog) w 82 148 (some ad) n c 0 0 Tryz.underlying82
  clear hc hb hz
  go_enter Tryz.func182, Tryz.ntmps182
  go_wp2_with (at_builtin; refine wpList_append_own _ rfl _ _ 82 rfl w.heap.size 148 i0 (.agg #[.int .i64 0, .int .i64 0]) 2 16 Tryz.underlying82 hi hz0 hz1 hz2 rfl (by decide) _ _ _ rfl (unhide HO) ad n c (flatO l) rfl (by rw [flatO_len, unhide HZ]) (unhide HC) (flatO_one l) (by unfold maxLen; omega) (by omega) (unhide HB).size ?_; intro v2 w3 hown3 hgrow3 _)
  have HW : Hid (w3.ownsRow w.heap.size 148 2 v2 n (flatO l)) := by show World.ownsRow _ _ _ _ _ _ _; simpa using hown3
  have HB3 := hide ((unhide HB).grown hgrow3 (unhide HB).size (own_lo (unhide HO)))
  clear hown3 hgrow3
  go_wp2
  go_ret
  exact ⟨v2, rfl, unhide HW, unhide HB3⟩

theorem cloneOp_any (a : Option Addr) (n c : Nat) (l : List (Int × Int)) (w : World) (hn : n ≤ 4096) (h : OpsAt w a n l) (hs : SlOk a n c) :
    Calls Tryz.prog 182 #[.slice a n c] w fun e w' => ∃ a' c', e = .returned (.slice a' n c') ∧ OpsAt w' a' n l ∧ SlOk a' n c' ∧ (∀ ad, a' = some ad → w.heap.size ≤ ad.block) ∧ Below w.heap.size w w' := by
  obtain ⟨hl, hc⟩ := h
  cases a with
  | none =>
    obtain ⟨rfl, rfl⟩ := hs.2.2 rfl
    exact (cloneOp_nil w).mono fun e w' ⟨x, y⟩ => ⟨none, 0, x, ⟨hl, fun h => absurd h (by omega)⟩, hs, fun ad e => (by cases e), y ▸ Below.refl _ _⟩
  | some ad =>
    have hc2 : ∀ j u, (flatO l)[j]? = some u → w.cell? (ad.add j) = some u := fun j u hj => by
      have hjl : j < l.length * 2 := by rw [← flatO_len]; exact (List.getElem?_eq_some_iff.1 hj).1
      obtain ⟨b, off, e, hcell⟩ := hc (by omega)
      cases e
      rw [Addr.add_lit]
      exact flatO_cells hl hcell j u hj
    refine (cloneOp_some ad n c l w hn hl hc2).mono ?_
    rintro e w' ⟨v, rfl, x, y⟩
    obtain ⟨a', c', rfl, h1, h2, h3⟩ := ops_own x
    exact ⟨a', c', rfl, h1, h2, h3, y⟩

end Go.Proofs.YtepmnpapdknocaaGreatDoor
