/- Contracts of slices.Equal at equal slices of orders. -/
import Derived.Test.YtodgheppglchcaaGreatDoorLockRunA
import Derived.Test.YtodgheppglchcaaGreatDoorLockCheck
import Derived.Test.YtodgheppglchcaaGreatDoorLockSameB
namespace Go.Proofs.YtodgheppglchcaaGreatDoor
open Go.RowKit

set_option maxHeartbeats 800000 in
theorem equal_ops_some (b1 o1 b2 o2 n c d : Nat) (l : List (Int × Int)) (w : World) (hn : n ≤ 16)
    (h1 : ∀ i, i < n → w.cell? ⟨b1, o1 + i * 2, none⟩ = some (.int .i64 (l.getD i (0, 0)).1) ∧ w.cell? ⟨b1, o1 + i * 2 + 1, none⟩ = some (.int .i64 (l.getD i (0, 0)).2))
    (h2 : ∀ i, i < n → w.cell? ⟨b2, o2 + i * 2, none⟩ = some (.int .i64 (l.getD i (0, 0)).1) ∧ w.cell? ⟨b2, o2 + i * 2 + 1, none⟩ = some (.int .i64 (l.getD i (0, 0)).2)) :
    Calls Tryz.prog 10 #[.slice (some ⟨b1, o1, none⟩) n c, .slice (some ⟨b2, o2, none⟩) n d] w fun e w' => e = .returned (.bool true) ∧ ∃ m, w' = w.drewN m := by
  have H1 := hide h1
  have H2 := hide h2
  clear h1 h2
  go_enter Tryz.func10, Tryz.ntmps10
  go_wp2
  go_loopw [13] (fun i wr => ∃ k m : Nat, k ≤ n ∧ i = .int .i64 k ∧ wr = w.drewN m) (fun i _ => n - (intOf i).toNat)
  case atStart => exact ⟨0, 0, Nat.zero_le _, rfl, rfl⟩
  case round =>
    obtain ⟨k, m, hk, rfl, rfl⟩ := hrel
    by_cases hlt : k < n
    · obtain ⟨g1, g2⟩ := (unhide H1) k hlt
      obtain ⟨g3, g4⟩ := (unhide H2) k hlt
      obtain ⟨q, hq⟩ : ∃ q, q = l.getD k (0, 0) := ⟨_, rfl⟩
      rw [← hq] at g1 g2 g3 g4
      obtain ⟨q1, q2⟩ := q
      clear hq
      go_wp2
      go_quiet (fail)
      go_wp2
      go_roundw
      case rel => exact ⟨k + 1, m + nq, by omega, by go_num, rfl⟩
      case measure => simp [intOf]; omega
    · go_wp2
      go_ret
      exact ⟨rfl, m, rfl⟩

set_option maxHeartbeats 400000 in
theorem equal_ops_none (a b : Option Addr) (c d : Nat) (w : World) :
    Calls Tryz.prog 10 #[.slice a 0 c, .slice b 0 d] w fun e w' => e = .returned (.bool true) ∧ w = w' := by
  go_enter Tryz.func10, Tryz.ntmps10
  go_wp2
  refine wp_loop_rounds 1 ?_
  rw [rounds_succ]
  go_wp2
  go_ret
  exact ⟨rfl, rfl⟩

theorem equal_ops (a b : Option Addr) (n c d : Nat) (l : List (Int × Int)) (w : World) (hn : n ≤ 16) (hA : OpsAt w a n l) (hB : OpsAt w b n l) :
    Calls Tryz.prog 10 #[.slice a n c, .slice b n d] w fun e w' => e = .returned (.bool true) ∧ Below w.heap.size w w' := by
  by_cases h : n = 0
  · subst h
    exact (equal_ops_none a b c d w).mono fun e w' ⟨h1, h2⟩ => ⟨h1, h2 ▸ Below.refl _ _⟩
  · obtain ⟨b1, o1, rfl, h1⟩ := hA.2 (by omega)
    obtain ⟨b2, o2, rfl, h2⟩ := hB.2 (by omega)
    exact (equal_ops_some b1 o1 b2 o2 n c d l w hn h1 h2).mono fun e w' ⟨e1, q, e2⟩ => ⟨e1, by rw [e2]; exact below_dr w q⟩

end Go.Proofs.YtodgheppglchcaaGreatDoor
