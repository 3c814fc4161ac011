/- The contract of turns. -/
import Derived.Test.YtepmnpapdknocaaGreatDoorBlkNamesB
namespace Go.Proofs.YtepmnpapdknocaaGreatDoor
open Go.RowKit

def turnV (m i : Nat) : Value := .int .i64 (((i + 1) % m : Nat) : Int)

set_option maxRecDepth 10000 in
set_option maxHeartbeats 3200000 in
theorem turns_is (m : Nat) (w : World) (h0 : 0 < m) (hm : m ≤ 4) :
    Calls Tryz.prog 28 #[.int .i64 m] w fun e w' => e = .returned (.slice (some ⟨w.heap.size, 0, none⟩) m m) ∧ FillV w.heap.size 3 m (turnV m) w w' m := by
  obtain ⟨i0, hi, hz0, hz1, hz2⟩ := info_parts Tryz.infoInt
  go_enter Tryz.func28, Tryz.ntmps28
  go_wp2_with (at_make; refine wpList_make_full _ rfl _ _ 30 rfl w.heap.size 3 i0 (.int .i64 0) 1 Tryz.underlying30 hi hz0 hz1 .i64 .i64 _ _ m rfl rfl rfl rfl (by rw [hz2]; omega) (by unfold maxLen; omega) (Nat.le_refl _) ?_; intro w2 hown2 hgrow2)
  have hst : FillV w.heap.size 3 m (turnV m) w w2 0 := ⟨⟨_, hown2, fun j hj => absurd hj (by omega)⟩, (Below.refl _ _).grown hgrow2 (Nat.le_refl _) (fun k h => by cases h)⟩
  have HST := hide hst
  clear hst hown2 hgrow2
  go_loopw [8] (fun i wr => ∃ k : Nat, k ≤ m ∧ i = .int .i64 k ∧ FillV w.heap.size 3 m (turnV m) w wr k) (fun i _ => m - (intOf i).toNat)
  case atStart => exact ⟨0, Nat.zero_le _, rfl, unhide HST⟩
  case round =>
    obtain ⟨k, hk, rfl, hfl⟩ := hrel
    have HF := hide hfl
    by_cases hlt : k < m
    · obtain ⟨v, hold⟩ := hfl.old hlt
      have hfree := hfl.free k
      have hl3 := hfl.lt
      have hne : (m : Int) ≠ 0 := by omega
      have hmod : ((k : Int) + 1).tmod (m : Int) = (((k + 1) % m : Nat) : Int) := by
        rw [show ((k : Int) + 1) = ((k + 1 : Nat) : Int) by omega]
        rfl
      have hlm : (k + 1) % m < m := Nat.mod_lt _ h0
      obtain ⟨q, hq⟩ : ∃ q, (k + 1) % m = q := ⟨_, rfl⟩
      rw [hq] at hmod hlm
      have HQ := hide hq
      clear hfl hq
      go_wp2
      go_roundw
      case rel =>
        refine ⟨k + 1, by omega, by go_num, (unhide HF).step hlt ?_⟩
        unfold turnV
        rw [unhide HQ]
      case measure => simp [intOf]; omega
    · clear hfl
      have e : k = m := by omega
      subst e
      clear hk hlt
      go_wp2
      go_ret
      exact ⟨rfl, unhide HF⟩

end Go.Proofs.YtepmnpapdknocaaGreatDoor
