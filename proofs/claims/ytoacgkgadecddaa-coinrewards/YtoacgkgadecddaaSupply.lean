/- Contracts of coin.Supply and of the closed fact that the laws of coin ask for first. -/
import Derived.Test.YtoacgkgadecddaaRowy
namespace Go.Proofs.Ytoacgkgadecddaa
open Go.RowKit

set_option maxHeartbeats 400000 in
theorem supply_no (n : Int) (w : World) (h : n < 0 ∨ 1000 < n) :
    Calls Try.prog 15 #[.int .i64 n] w fun e w' => e = .returned (.tuple #[.int .i64 0, .int .i64 3]) ∧ w = w' := by
  go_enter Try.func15, Try.ntmps15
  go_wp2_with (go_at_call 17; refine (within_no _ _ _ _ h).mono ?_; rintro e w' ⟨rfl, rfl⟩)
  go_ret2
  exact ⟨rfl, rfl⟩

/-- The filled row is what Sum asks for. -/
theorem Filled.rowAt {B n : Nat} {w wr : World} (h : Filled B n (fun i => rew (i + 1)) w wr n) (hn : n ≤ 1000) : RowAt wr (some ⟨B, 0, none⟩) n (rews n) :=
  ⟨rews_len n, by unfold maxLen; omega, fun _ => ⟨B, 0, rfl, fun i hi => by rw [rews_get n i hi]; exact h.cells (Nat.le_refl _) i hi⟩⟩

theorem sum_rews (n B cap : Nat) (w wr : World) (h : Filled B n (fun i => rew (i + 1)) w wr n) (hn : n ≤ 1000) :
    Calls Try.prog 8 #[.slice (some ⟨B, 0, none⟩) n cap] wr fun e w' => e = .returned (.tuple #[.int .i64 (sup n), .int .i64 0]) ∧ wr = w' := by
  have := sum_any (some ⟨B, 0, none⟩) n cap (rews n) wr (h.rowAt hn)
  rw [sm_rews n hn] at this
  exact this

set_option maxHeartbeats 800000 in
theorem supply_yes (n : Nat) (w : World) (h2 : n ≤ 1000) :
    Calls Try.prog 15 #[.int .i64 n] w fun e w' => e = .returned (.tuple #[.int .i64 (sup n), .int .i64 0]) ∧ Below w.heap.size w w' := by
  obtain ⟨i0, hi, hz0, hz1, hz2⟩ := info_parts Try.info3
  go_enter Try.func15, Try.ntmps15
  go_wp2_with (first | (go_at_call 17; refine (within_yes _ _ _ _ (by omega) (by omega)).mono ?_; rintro e w' ⟨rfl, rfl⟩) | (at_make; refine wpList_make_full _ rfl _ _ 24 rfl w.heap.size 3 i0 (.int .i64 0) 1 Try.underlying24 hi hz0 hz1 .i64 .i64 _ _ n rfl rfl rfl rfl (by rw [hz2]; omega) (by unfold maxLen; omega) (Nat.le_refl _) ?_; intro w0 hown0 hgrow0))
  have hst : Filled w.heap.size n (fun i => rew (i + 1)) w w0 0 := Filled.start hown0 ((Below.refl _ _).grown hgrow0 (Nat.le_refl _) (fun k h => by cases h))
  clear hown0 hgrow0
  go_loopw [14] (fun i wr => ∃ k : Nat, k ≤ n ∧ i = .int .i64 k ∧ Filled w.heap.size n (fun i => rew (i + 1)) w wr k) (fun i _ => n - (intOf i).toNat)
  case atStart => exact ⟨0, Nat.zero_le _, rfl, hst⟩
  case round =>
    obtain ⟨k, hk, rfl, hfil⟩ := hrel
    clear hst
    by_cases hlt : k < n
    · obtain ⟨v, hold⟩ := hfil.old hlt
      have hfree := hfil.free k
      have hrw := reward_yes (k + 1) wr (by omega) (by omega)
      have ek : ((k + 1 : Nat) : Int) = (k : Int) + 1 := by omega
      rw [ek] at hrw
      have HR : Hid (Calls Try.prog 14 #[.int .i64 ((k : Int) + 1)] wr fun e w' => e = .returned (.tuple #[.int .i64 (rew (k + 1)), .int .i64 0]) ∧ wr = w') := hrw
      clear hrw ek
      go_wp2_with (go_at_call 14; refine HR.out.mono ?_; rintro e w' ⟨rfl, rfl⟩)
      go_roundw
      case rel => exact ⟨k + 1, by omega, by go_num, hfil.step hlt rfl⟩
      case measure => simp [intOf]; omega
    · have e : k = n := by omega
      subst e
      clear hk hlt
      go_wp2_with (go_at_call 8; refine (sum_rews k w.heap.size k w wr hfil h2).mono ?_; rintro e w' ⟨rfl, rfl⟩)
      go_ret2
      exact ⟨rfl, hfil.below⟩

theorem past3 {b n : Nat} {f : Nat → Int} {w : World} {o : Obj} (h : Hid (∀ i, i < n → w.cell? ⟨b, 0 + i, none⟩ = some (.int .i64 (f i)))) (hb : b < w.heap.size) :
    ∀ i, i < n → (w.alloc o).cell? ⟨b, 0 + i, none⟩ = some (.int .i64 (f i)) := by
  intro i hi
  rw [← h.out i hi]
  exact World.cell?_of_block (w := w) (Below.heap_alloc w o b hb)

theorem new3 (w : World) : ∀ i, i < 3 → (w.alloc (.cells #[.int .i64 3, .int .i64 2, .int .i64 2] 3)).cell? ⟨w.heap.size, 0 + i, none⟩ = some (.int .i64 (share 7 3 i)) := by
  intro i hi
  match i, hi with
  | 0, _ => simp [share]
  | 1, _ => simp [share]
  | 2, _ => simp [share]

set_option maxHeartbeats 800000 in
theorem summed_yes (w : World) :
    Calls Try.prog 11 #[] w fun e w' => e = .returned (.bool true) ∧ Below w.heap.size w w' := by
  go_enter Try.func11, Try.ntmps11
  go_wp2_with fail
  refine (reward_yes 8 _ (by decide) (by decide)).mono ?_
  rintro e w' ⟨rfl, rfl⟩
  go_wp2_with fail
  refine (reward_yes 9 _ (by decide) (by decide)).mono ?_
  rintro e w' ⟨rfl, rfl⟩
  go_wp2_with fail
  refine (supply_yes 10 _ (by decide)).mono ?_
  rintro e w1 ⟨rfl, hb1⟩
  go_wp2_with fail
  refine (split_yes 7 3 _ (by decide) (by decide) (by decide)).mono ?_
  rintro e w2 ⟨rfl, hc2, hl2, hb2⟩
  have H2 : Hid (∀ i, i < 3 → w2.cell? ⟨w1.heap.size, 0 + i, none⟩ = some (.int .i64 (share 7 3 i))) := hc2
  clear hc2
  go_wp2_with fail
  refine (equal_same w1.heap.size 0 w2.heap.size 0 3 3 3 (share 7 3) _ (by decide) (past3 H2 hl2) (new3 w2)).mono ?_
  rintro e w3 ⟨rfl, m, rfl⟩
  go_wp2
  go_ret
  exact ⟨rfl, below_drewN ((hb1.trans (hb2.mono hb1.size)).alloc (Nat.le_trans hb1.size hb2.size) _) m⟩

/-! The same, over whole numbers: so that they fit whatever stands at a call. -/
theorem reward_int (a : Int) (w : World) (h1 : 1 ≤ a) (h2 : a ≤ 1000) :
    Calls Try.prog 14 #[.int .i64 a] w fun e w' => e = .returned (.tuple #[.int .i64 (rew a.toNat), .int .i64 0]) ∧ w = w' := by
  obtain ⟨n, rfl⟩ := Int.eq_ofNat_of_zero_le (show 0 ≤ a by omega)
  exact reward_yes n w (by omega) (by omega)

theorem rewardOf_int (a : Int) (w : World) (h1 : 1 ≤ a) (h2 : a ≤ 1000) :
    Calls Try.prog 16 #[.int .i64 a] w fun e w' => e = .returned (.int .i64 (rew a.toNat)) ∧ w = w' := by
  obtain ⟨n, rfl⟩ := Int.eq_ofNat_of_zero_le (show 0 ≤ a by omega)
  exact rewardOf_any n w (by omega) (by omega)

theorem supply_int (a : Int) (w : World) (h1 : 0 ≤ a) (h2 : a ≤ 1000) :
    Calls Try.prog 15 #[.int .i64 a] w fun e w' => e = .returned (.tuple #[.int .i64 (sup a.toNat), .int .i64 0]) ∧ Below w.heap.size w w' := by
  obtain ⟨n, rfl⟩ := Int.eq_ofNat_of_zero_le h1
  exact supply_yes n w (by omega)

end Go.Proofs.Ytoacgkgadecddaa
