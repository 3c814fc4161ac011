/- Contracts of the machine's orders: each does to the machine what its kind says. -/
import Derived.Test.YtepmnpapdknocaaGreatDoorLockLeaf
namespace Go.Proofs.YtepmnpapdknocaaGreatDoor
open Go.RowKit

set_option maxHeartbeats 400000 in
theorem truth_any (b : Bool) (w : World) :
    Calls Tryz.prog 250 #[.bool b] w fun e w' => e = .returned (.int .i64 (b01 b)) ∧ w = w' := by
  cases b
  all_goals
    go_enter Tryz.func250, Tryz.ntmps250
    go_wp2
    go_ret
    exact ⟨rfl, rfl⟩

set_option maxHeartbeats 400000 in
theorem o1_any (a b : Int) (w : World) (ha : fit a = true) (hb : fit b = true) :
    Calls Tryz.prog 247 #[.int .i64 a, .int .i64 b] w fun e w' => e = .returned (.int .i64 (g2 5 a b)) ∧ w = w' := by
  have h1 := (fit_iff a).1 ha
  have h2 := (fit_iff b).1 hb
  clear ha hb
  go_enter Tryz.func247, Tryz.ntmps247
  go_wp2
  go_ret
  exact ⟨rfl, rfl⟩

set_option maxHeartbeats 400000 in
theorem o2_any (a b : Int) (w : World) (ha : fit a = true) (hb : fit b = true) :
    Calls Tryz.prog 248 #[.int .i64 a, .int .i64 b] w fun e w' => e = .returned (.int .i64 (g2 6 a b)) ∧ w = w' := by
  have h1 := (fit_iff a).1 ha
  have h2 := (fit_iff b).1 hb
  clear ha hb
  go_enter Tryz.func248, Tryz.ntmps248
  go_wp2
  go_ret
  exact ⟨rfl, rfl⟩

set_option maxHeartbeats 400000 in
theorem o3_any (a b : Int) (w : World) :
    Calls Tryz.prog 249 #[.int .i64 a, .int .i64 b] w fun e w' => e = .returned (.int .i64 (g2 7 a b)) ∧ w = w' := by
  go_enter Tryz.func249, Tryz.ntmps249
  go_wp2_with (go_at_call 250; refine (truth_any _ _).mono ?_; rintro e w' ⟨rfl, rfl⟩)
  go_ret
  exact ⟨rfl, rfl⟩

set_option maxHeartbeats 400000 in
theorem o4_any (a b : Int) (w : World) :
    Calls Tryz.prog 251 #[.int .i64 a, .int .i64 b] w fun e w' => e = .returned (.int .i64 (g2 8 a b)) ∧ w = w' := by
  go_enter Tryz.func251, Tryz.ntmps251
  go_wp2_with (go_at_call 250; refine (truth_any _ _).mono ?_; rintro e w' ⟨rfl, rfl⟩)
  go_ret
  exact ⟨rfl, rfl⟩

set_option maxHeartbeats 400000 in
theorem o6_any (a b : Int) (w : World) :
    Calls Tryz.prog 254 #[.int .i64 a, .int .i64 b] w fun e w' => e = .returned (.int .i64 (g2 10 a b)) ∧ w = w' := by
  by_cases h : a = 0
  · have h1 : (a != 0) = false := by simp [h]
    have e : g2 10 a b = b01 false := by simp [g2, h]
    rw [e]
    clear h e
    go_enter Tryz.func254, Tryz.ntmps254
    go_wp2_with (go_at_call 250; refine (truth_any _ _).mono ?_; rintro e w' ⟨rfl, rfl⟩)
    go_ret
    exact ⟨rfl, rfl⟩
  · have h1 : (a != 0) = true := by simp [h]
    have e : g2 10 a b = b01 (b != 0) := by simp [g2, h1]
    rw [e]
    clear h e
    go_enter Tryz.func254, Tryz.ntmps254
    go_wp2_with (go_at_call 250; refine (truth_any _ _).mono ?_; rintro e w' ⟨rfl, rfl⟩)
    go_ret
    exact ⟨rfl, rfl⟩

set_option maxHeartbeats 400000 in
theorem o5_any (a : Int) (w : World) :
    Calls Tryz.prog 253 #[.int .i64 a] w fun e w' => e = .returned (.int .i64 (g1 9 a)) ∧ w = w' := by
  go_enter Tryz.func253, Tryz.ntmps253
  go_wp2_with (go_at_call 250; refine (truth_any _ _).mono ?_; rintro e w' ⟨rfl, rfl⟩)
  go_ret
  exact ⟨rfl, rfl⟩

theorem ret_int {k : IntKind} {a b : Int} (h : a = b) : Ending.returned (.int k a) = .returned (.int k b) := by rw [h]

set_option maxHeartbeats 800000 in
theorem mix_any (a : Int) (w : World) (ha : fit a = true) :
    Calls Tryz.prog 257 #[.int .i64 a] w fun e w' => e = .returned (.int .i64 (g1 13 a)) ∧ w = w' := by
  have hbd := hide (mixN_bd a ha)
  have h1 := (fit_iff a).1 ha
  clear ha
  go_enter Tryz.func257, Tryz.ntmps257
  go_wp2
  go_loop [3, 6] (fun r i => ∃ k : Nat, k ≤ 3 ∧ i = .int .i64 k ∧ r = .int .i64 (mixN a k)) (fun _ i => 3 - (intOf i).toNat)
  case atStart => exact ⟨0, Nat.zero_le _, rfl, rfl⟩
  case round =>
    obtain ⟨k, hk, rfl, rfl⟩ := hrel
    obtain ⟨b1, b2⟩ := (unhide hbd) k
    obtain ⟨m, hm⟩ : ∃ m, m = mixN a k := ⟨_, rfl⟩
    rw [← hm] at b1 b2 ⊢
    have HM := hide hm
    clear hm
    by_cases hlt : k < 3
    · go_wp2
      go_round
      case rel =>
        refine ⟨k + 1, by omega, by go_num, ?_⟩
        have := unhide HM
        simp only [mixN, ← this]
      case measure => simp [intOf]; omega
    · go_wp2
      go_ret
      have e : k = 3 := by omega
      subst e
      refine ⟨ret_int ?_, rfl⟩
      have := unhide HM
      simp only [g1, mixOf, ← this]
      simp

end Go.Proofs.YtepmnpapdknocaaGreatDoor
