/- The contracts of coin.Check and coin.Sum. -/
import Derived.Test.YtepmnpapdknocaaGreatDoorTxMath
import Derived.Test.YtepmnpapdknocaaGreatDoorLockRow
import Derived.Test.YtepmnpapdknocaaGreatDoorLockIn
namespace Go.Proofs.YtepmnpapdknocaaGreatDoor
open Go.RowKit

set_option maxHeartbeats 400000 in
theorem amount_yes (n : Int) (w : World) (h1 : 0 ≤ n) (h2 : n ≤ 1000000000) :
    Calls Tryz.prog 208 #[.int .i64 n] w fun e w' => e = .returned (.int .i64 0) ∧ w = w' := by
  go_enter Tryz.func208, Tryz.ntmps208
  go_wp2_with (go_at_call 62; refine (within_yes _ _ _ _ h1 h2).mono ?_; rintro e w' ⟨rfl, rfl⟩)
  go_ret
  exact ⟨rfl, rfl⟩
set_option maxHeartbeats 400000 in
theorem amount_no (n : Int) (w : World) (h : n < 0 ∨ 1000000000 < n) :
    Calls Tryz.prog 208 #[.int .i64 n] w fun e w' => e = .returned (.int .i64 3) ∧ w = w' := by
  go_enter Tryz.func208, Tryz.ntmps208
  go_wp2_with (go_at_call 62; refine (within_no _ _ _ _ h).mono ?_; rintro e w' ⟨rfl, rfl⟩)
  go_ret
  exact ⟨rfl, rfl⟩

set_option maxHeartbeats 800000 in
theorem sum_any (a : Option Addr) (len cap : Nat) (Z : List Int) (w : World) (h : RowAt w a len Z) :
    Calls Tryz.prog 159 #[.slice a len cap] w fun e w' => e = .returned (.tuple #[.int .i64 (sm 0 Z).1, .int .i64 (sm 0 Z).2]) ∧ w = w' := by
  obtain ⟨hz, hm, hc⟩ := h
  unfold maxLen at hm
  rcases Nat.eq_zero_or_pos len with h0 | h0
  · subst h0
    have HZ : Hid (Z = []) := List.eq_nil_of_length_eq_zero hz
    clear hz hc hm
    go_enter Tryz.func159, Tryz.ntmps159
    go_wp2
    refine wp_loop_rounds 1 ?_
    rw [rounds_succ]
    go_wp2
    go_ret2
    rw [HZ.out]
    exact ⟨rfl, rfl⟩
  · obtain ⟨b, off, rfl, hcell⟩ := hc h0
    have HC : Hid (∀ i, i < len → w.cell? ⟨b, off + i, none⟩ = some (.int .i64 (Z.getD i 0))) := hcell
    clear hc hcell
    go_enter Tryz.func159, Tryz.ntmps159
    go_wp2
    go_loop [4, 10] (fun s i => ∃ (k : Nat) (x : Int), k ≤ len ∧ i = .int .i64 k ∧ s = .int .i64 x ∧ 0 ≤ x ∧ x ≤ 1000000000 ∧ Hid (sm 0 Z = sm x (Z.drop k))) (fun _ i => len - (intOf i).toNat)
    case atStart => exact ⟨0, 0, Nat.zero_le _, rfl, rfl, by decide, by decide, by exact rfl⟩
    case round =>
      obtain ⟨k, x, hk, rfl, rfl, hx0, hx1, HS⟩ := hrel
      by_cases hlt : k < len
      · have hck := HC.out k hlt
        generalize hv : Z.getD k 0 = v at hck
        have HV : Hid (Z.getD k 0 = v) := hv
        clear hv
        by_cases hr : v < 0 ∨ 1000000000 < v
        · go_wp2_with (go_at_call 208; refine (amount_no _ _ hr).mono ?_; rintro e w' ⟨rfl, rfl⟩)
          go_ret2
          rw [HS.out, sm_range x Z k (by omega) (by rw [HV.out]; exact hr)]
          exact ⟨rfl, rfl⟩
        · have hr1 : 0 ≤ v := by omega
          have hr2 : v ≤ 1000000000 := by omega
          clear hr
          by_cases hf : 1000000000 < x + v
          · go_wp2_with fail
            refine (amount_yes _ _ hr1 hr2).mono ?_
            rintro e w' ⟨rfl, rfl⟩
            go_wp2_with fail
            refine (amount_no _ _ (.inr hf)).mono ?_
            rintro e w' ⟨rfl, rfl⟩
            go_wp2
            go_ret2
            rw [HS.out, sm_full x Z k (by omega) (by rw [HV.out]; exact hr1) (by rw [HV.out]; exact hr2) (by rw [HV.out]; exact hf)]
            exact ⟨rfl, rfl⟩
          · have hf2 : x + v ≤ 1000000000 := by omega
            have hf1 : 0 ≤ x + v := by omega
            clear hf
            go_wp2_with fail
            refine (amount_yes _ _ hr1 hr2).mono ?_
            rintro e w' ⟨rfl, rfl⟩
            go_wp2_with fail
            refine (amount_yes _ _ hf1 hf2).mono ?_
            rintro e w' ⟨rfl, rfl⟩
            go_wp2
            go_round
            case rel =>
              refine ⟨k + 1, x + v, by omega, by go_num, rfl, by omega, by omega, ?_⟩
              show sm 0 Z = _
              rw [HS.out, sm_step x Z k (by omega) (by rw [HV.out]; exact hr1) (by rw [HV.out]; exact hr2) (by rw [HV.out]; exact hf2), HV.out]
            case measure => simp [intOf]; omega
      · go_wp2
        go_ret2
        rw [HS.out, sm_end x Z k (by omega)]
        exact ⟨rfl, rfl⟩

end Go.Proofs.YtepmnpapdknocaaGreatDoor
