/- The contract of coin.Reward. -/
import Derived.Test.YtmomfkikogbdeaaGreatDoorBlkHeadToBlkCheck
namespace Go.Proofs.YtmomfkikogbdeaaGreatDoor
open Go.RowKit

/-- What is made behind so many halvings. -/
def rwN : Nat → Nat
  | 0 => 64
  | n + 1 => rwN n / 2
theorem rwN_le : ∀ n, rwN n ≤ 64
  | 0 => Nat.le_refl _
  | n + 1 => by
    have := rwN_le n
    unfold rwN
    omega
/-- What Reward answers. -/
def rwD (h : Int) : Int × Int := if (decide (1 ≤ h) && decide (h ≤ 1000)) = true then ((rwN ((h - 1).toNat / 8) : Nat), 0) else (0, 3)

set_option maxRecDepth 10000 in
set_option maxHeartbeats 3200000 in
theorem reward_is (h r x : Int) (w : World) (hx : rwD h = (r, x)) :
    Calls Tryz.prog 83 #[.int .i64 h] w fun e w' => e = .returned (.tuple #[.int .i64 r, .int .i64 x]) ∧ Below w.heap.size w w' := by
  unfold rwD at hx
  cases q : (decide ((1 : Int) ≤ h) && decide (h ≤ 1000)) with
  | false =>
    rw [q, if_neg (by decide)] at hx
    injection hx with e1 e2
    subst e1 e2
    have CC := hide (within_bel h 1 1000 false w q)
    clear q
    go_enter Tryz.func83, Tryz.ntmps83
    go_wp2_with fail
    refine (unhide CC).mono ?_
    rintro e w1 ⟨rfl, hb1⟩
    have HB := hide hb1
    clear hb1
    go_wp2
    go_ret2
    exact ⟨rfl, unhide HB⟩
  | true =>
    rw [q, if_pos rfl] at hx
    injection hx with e1 e2
    subst e2
    have CC := hide (within_bel h 1 1000 true w q)
    rw [Bool.and_eq_true, decide_eq_true_eq, decide_eq_true_eq] at q
    obtain ⟨k, rfl⟩ : ∃ k : Nat, h = (k : Int) + 1 := ⟨(h - 1).toNat, by omega⟩
    have hk : k < 1000 := by omega
    rw [show (((k : Int) + 1 - 1).toNat) = k by omega] at e1
    obtain ⟨n, hn⟩ : ∃ n, k / 8 = n := ⟨_, rfl⟩
    have hq : ((k : Int)).tdiv 8 = (n : Int) := by rw [← hn]; rfl
    have hn2 : n ≤ 125 := by omega
    rw [hn] at e1
    have HR := hide e1
    clear q e1 hn
    go_enter Tryz.func83, Tryz.ntmps83
    go_wp2_with fail
    refine (unhide CC).mono ?_
    rintro e w1 ⟨rfl, hb1⟩
    have HB := hide hb1
    clear hb1
    go_wp2
    go_loopw [4, 11] (fun v i wr => ∃ j : Nat, j ≤ n ∧ v = .int .i64 (rwN j : Nat) ∧ i = .int .i64 j ∧ Hid (Below w.heap.size w wr)) (fun _ i _ => n - (intOf i).toNat)
    case atStart => exact ⟨0, Nat.zero_le _, rfl, rfl, HB⟩
    case round =>
      obtain ⟨j, hj, rfl, rfl, HBr⟩ := hrel
      have hle := rwN_le j
      by_cases hlt : j < n
      · have hd : ((rwN j : Nat) : Int).tdiv 2 = ((rwN (j + 1) : Nat) : Int) := rfl
        have hle2 := rwN_le (j + 1)
        obtain ⟨a, ha⟩ : ∃ a, rwN j = a := ⟨_, rfl⟩
        obtain ⟨b, hb⟩ : ∃ b, rwN (j + 1) = b := ⟨_, rfl⟩
        rw [ha, hb] at hd
        rw [ha] at hle
        rw [hb] at hle2
        rw [ha]
        have HBB := hide hb
        clear ha hb
        go_wp2
        go_roundw
        case rel => exact ⟨j + 1, by omega, by rw [unhide HBB], by go_num, HBr⟩
        case measure => simp [intOf]; omega
      · have e : j = n := by omega
        subst e
        go_wp2
        go_ret2
        exact ⟨by rw [unhide HR]; rfl, unhide HBr⟩

end Go.Proofs.YtmomfkikogbdeaaGreatDoor
