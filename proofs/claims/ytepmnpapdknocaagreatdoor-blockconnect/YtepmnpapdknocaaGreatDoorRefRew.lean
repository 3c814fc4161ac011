/- The contract of the reference's RewardOf. -/
import Derived.Test.YtepmnpapdknocaaGreatDoorBlkReward
namespace Go.Proofs.YtepmnpapdknocaaGreatDoor
open Go.RowKit

set_option maxRecDepth 10000 in
set_option maxHeartbeats 1600000 in
theorem rreward_is (h r : Int) (w : World) (h1 : 1 ≤ h) (h2 : h ≤ 1000) (hr : rwD h = (r, 0)) :
    Calls Tryz.prog 41 #[.int .i64 h] w fun e w' => e = .returned (.int .i64 r) ∧ Below w.heap.size w w' := by
  have e : r = (rwN ((h - 1).toNat / 8) : Nat) := by
    unfold rwD at hr
    rw [if_pos (by simp only [Bool.and_eq_true, decide_eq_true_eq]; omega)] at hr
    injection hr with e _
    exact e.symm
  have HE := hide e
  clear hr e
  go_enter Tryz.func41, Tryz.ntmps41
  go_wp2
  go_loopw [3, 4] (fun nv hv wr => ∃ k q : Nat, nv = .int .i64 q ∧ hv = .int .i64 ((8 : Int) + 8 * k) ∧ (8 : Int) * k < h ∧ Hid (q = rwN k) ∧ wr = w) (fun _ hv _ => (h + 8 - intOf hv).toNat)
  case atStart => exact ⟨0, 64, rfl, rfl, by omega, rfl, rfl⟩
  case round =>
    obtain ⟨k, q, rfl, rfl, hk, HQ, rfl⟩ := hrel
    have hq : q ≤ 64 := by rw [unhide HQ]; exact rwN_le k
    have hqi : (0 : Int) ≤ (q : Int) := by omega
    have hqj : (q : Int) ≤ 64 := by omega
    by_cases hlt : (8 : Int) + 8 * k < h
    · have hw1 : IntKind.i64.wrap ((8 : Int) + 8 * k + 8) = (8 : Int) + 8 * k + 8 := by rw [IntKind.wrap_i64]; omega
      have Q2 : Hid (q / 2 = rwN (k + 1)) := by show _ = rwN k / 2; rw [unhide HQ]
      go_wp2
      go_roundw
      case rel => exact ⟨k + 1, q / 2, by go_num, by go_num, by omega, Q2, by first | rfl | trivial⟩
      case measure => simp [intOf]; omega
    · have R : Hid (r = (q : Int)) := by
        show _ = _
        rw [unhide HE, unhide HQ]
        congr 2
        omega
      go_wp2
      go_ret
      exact ⟨by rw [unhide R]; rfl, Below.refl _ _⟩

end Go.Proofs.YtepmnpapdknocaaGreatDoor
