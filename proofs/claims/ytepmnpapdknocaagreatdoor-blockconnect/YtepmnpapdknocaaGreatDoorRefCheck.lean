/- Contracts of the reference's CheckOps. -/
import Derived.Test.YtepmnpapdknocaaGreatDoorLockCheck
import Derived.Test.YtepmnpapdknocaaGreatDoorLockRow
namespace Go.Proofs.YtepmnpapdknocaaGreatDoor
open Go.RowKit

set_option maxHeartbeats 400000 in
theorem rcheck_many (a : Option Addr) (len cap : Nat) (w : World) (h : 16 < len) :
    Calls Tryz.prog 39 #[.slice a len cap] w fun e w' => e = .returned (.int .i64 2) ∧ w = w' := by
  go_enter Tryz.func39, Tryz.ntmps39
  go_wp2
  go_ret
  exact ⟨rfl, rfl⟩

set_option maxHeartbeats 400000 in
theorem rcheck_none (a : Option Addr) (cap : Nat) (w : World) :
    Calls Tryz.prog 39 #[.slice a 0 cap] w fun e w' => e = .returned (.int .i64 0) ∧ w = w' := by
  go_enter Tryz.func39, Tryz.ntmps39
  go_wp2
  refine wp_loop_rounds 1 ?_
  rw [rounds_succ]
  go_wp2
  go_ret
  exact ⟨rfl, rfl⟩

/-- The ways of one order. -/
theorem chk1_ways (k n : Int) :
    (k < 1 ∧ chk1 (k, n) = 4) ∨ (¬ k < 1 ∧ 13 < k ∧ chk1 (k, n) = 4) ∨
    (¬ k < 1 ∧ ¬ 13 < k ∧ n < -1000000 ∧ chk1 (k, n) = 3) ∨ (¬ k < 1 ∧ ¬ 13 < k ∧ ¬ n < -1000000 ∧ 1000000 < n ∧ chk1 (k, n) = 3) ∨
    (¬ k < 1 ∧ ¬ 13 < k ∧ ¬ n < -1000000 ∧ ¬ 1000000 < n ∧ (k != 1) = true ∧ (n != 0) = true ∧ chk1 (k, n) = 3) ∨
    (¬ k < 1 ∧ ¬ 13 < k ∧ ¬ n < -1000000 ∧ ¬ 1000000 < n ∧ (k != 1) = true ∧ (n != 0) = false ∧ chk1 (k, n) = 0) ∨
    (¬ k < 1 ∧ ¬ 13 < k ∧ ¬ n < -1000000 ∧ ¬ 1000000 < n ∧ (k != 1) = false ∧ chk1 (k, n) = 0) := by
  by_cases h1 : k < 1
  · exact .inl ⟨h1, by simp [chk1, h1]⟩
  by_cases h2 : 13 < k
  · exact .inr (.inl ⟨h1, h2, by simp [chk1, h2]⟩)
  by_cases h3 : n < -1000000
  · have hf : fit n = false := (fit_not n).2 (.inl h3)
    exact .inr (.inr (.inl ⟨h1, h2, h3, by simp [chk1, h1, h2, hf]⟩))
  by_cases h4 : 1000000 < n
  · have hf : fit n = false := (fit_not n).2 (.inr h4)
    exact .inr (.inr (.inr (.inl ⟨h1, h2, h3, h4, by simp [chk1, h1, h2, hf]⟩)))
  have hf : fit n = true := (fit_iff n).2 (by omega)
  by_cases h5 : k = 1
  · exact .inr (.inr (.inr (.inr (.inr (.inr ⟨h1, h2, h3, h4, by simp [h5], by simp [chk1, h5, hf]⟩)))))
  by_cases h6 : n = 0
  · exact .inr (.inr (.inr (.inr (.inr (.inl ⟨h1, h2, h3, h4, by simp [h5], by simp [h6], by simp [chk1, h1, h2, h6]; try decide⟩)))))
  · exact .inr (.inr (.inr (.inr (.inl ⟨h1, h2, h3, h4, by simp [h5], by simp [h6], by simp [chk1, h1, h2, h5, h6]⟩))))

set_option maxHeartbeats 3200000 in
theorem rcheck_some (b off len cap : Nat) (l : List (Int × Int)) (w : World) (h0 : len ≤ 16) (hz : l.length = len)
    (hc : ∀ i, i < len → w.cell? ⟨b, off + i * 2, none⟩ = some (.int .i64 (l.getD i (0, 0)).1) ∧ w.cell? ⟨b, off + i * 2 + 1, none⟩ = some (.int .i64 (l.getD i (0, 0)).2)) (hl : b < w.heap.size) :
    Calls Tryz.prog 39 #[.slice (some ⟨b, off, none⟩) len cap] w fun e w' => e = .returned (.int .i64 (chkL l)) ∧ Below w.heap.size w w' := by
  have HC := hide hc
  have HZ := hide hz
  clear hc hz
  go_enter Tryz.func39, Tryz.ntmps39
  go_wp2
  go_loopw [10] (fun i wr => ∃ k : Nat, k ≤ len ∧ i = .int .i64 k ∧ chkL (l.take k) = 0 ∧ Below w.heap.size w wr) (fun i _ => len - (intOf i).toNat)
  case atStart => exact ⟨0, Nat.zero_le _, rfl, rfl, Below.refl _ _⟩
  case round =>
    obtain ⟨k, hk, rfl, hok, hb⟩ := hrel
    have HOK := hide hok
    have HB := hide hb
    clear hok
    by_cases hlt : k < len
    · obtain ⟨c1, c2⟩ := (unhide HC) k hlt
      rw [← hb.cell (p := ⟨b, off + k * 2, none⟩) hl] at c1
      rw [← hb.cell (p := ⟨b, off + k * 2 + 1, none⟩) hl] at c2
      obtain ⟨q, hq⟩ : ∃ q, q = l.getD k (0, 0) := ⟨_, rfl⟩
      rw [← hq] at c1 c2
      have hlk : k < l.length := by rw [unhide HZ]; exact hlt
      have hq' : q = l[k] := by rw [hq]; simp [hlk]
      have HQ := hide hq'
      have HB2 := hide (hb.trans (((Below.refl wr.heap.size wr).alloc (Nat.le_refl _) (.cells #[.int .i64 q.1, .int .i64 q.2] 148)).mono hb.size))
      clear hb hq hq'
      obtain ⟨q1, q2⟩ := q
      obtain ⟨x, hx⟩ : ∃ x, x = chk1 (q1, q2) := ⟨_, rfl⟩
      have HX := hide hx
      have hways := chk1_ways q1 q2
      rw [← hx] at hways
      clear hx
      rcases hways with ⟨h1, hx0⟩ | ⟨h1, h2, hx0⟩ | ⟨h1, h2, h3, hx0⟩ | ⟨h1, h2, h3, h4, hx0⟩ | ⟨h1, h2, h3, h4, h5, h6, hx0⟩ | ⟨h1, h2, h3, h4, h5, h6, hx0⟩ | ⟨h1, h2, h3, h4, h5, hx0⟩
      all_goals
        subst hx0
        go_wp2
      iterate 5
        go_ret
        refine ⟨ret_same ?_, unhide HB2⟩
        rw [chkL_stop l k hlk (unhide HOK) (by rw [← unhide HQ, ← unhide HX]; decide), ← unhide HQ, ← unhide HX]
      all_goals
        go_roundw
        case rel =>
          refine ⟨k + 1, by omega, by go_num, ?_, unhide HB2⟩
          rw [chkL_take l k hlk (unhide HOK), ← unhide HQ, ← unhide HX]; rfl
        case measure => simp [intOf]; omega
    · clear hb
      go_wp2
      go_ret
      have e : k = len := by omega
      subst e
      refine ⟨ret_same ?_, unhide HB⟩
      have h1 := unhide HOK
      rw [← unhide HZ, List.take_length] at h1
      exact h1.symm

theorem rcheck_any (a : Option Addr) (len cap : Nat) (l : List (Int × Int)) (w : World) (h : OpsAt w a len l) :
    Calls Tryz.prog 39 #[.slice a len cap] w fun e w' => e = .returned (.int .i64 (chk l)) ∧ Below w.heap.size w w' := by
  obtain ⟨hz, hc⟩ := h
  unfold chk
  rw [hz]
  by_cases h1 : 16 < len
  · rw [if_pos h1]
    exact (rcheck_many a len cap w h1).mono fun e w' ⟨x, y⟩ => ⟨x, y ▸ Below.refl _ _⟩
  · rw [if_neg h1]
    by_cases h2 : len = 0
    · subst h2
      have e : l = [] := List.length_eq_zero_iff.1 hz
      subst e
      exact (rcheck_none a cap w).mono fun e w' ⟨x, y⟩ => ⟨x, y ▸ Below.refl _ _⟩
    · obtain ⟨b, off, rfl, hcell⟩ := hc (by omega)
      exact rcheck_some b off len cap l w (by omega) hz hcell (World.block_lt_of_cell? _ _ (hcell 0 (by omega)).1)

end Go.Proofs.YtepmnpapdknocaaGreatDoor
