/- Contracts that the law LockRun alone asks: whether a slice of ints has one that no stack takes. -/
import Derived.Test.YtodgheppglchcaaDoorLockCheck
import Derived.Test.YtodgheppglchcaaDoorLockRunA
namespace Go.Proofs.YtodgheppglchcaaDoor
open Go.RowKit

set_option maxHeartbeats 400000 in
theorem off_is (n : Int) (b : Bool) (w : World) (hb : b = !fit n) :
    Calls Tryd.prog 11 #[.int .i64 n] w fun e w' => e = .returned (.bool b) ∧ w = w' := by
  subst hb
  by_cases h1 : -1000000 ≤ n
  · have h1' : ¬ n < -1000000 := by omega
    by_cases h2 : n ≤ 1000000
    · have e : fit n = true := (fit_iff n).2 ⟨h1, h2⟩
      have h3 : ¬ 1000000 < n := by omega
      rw [e]
      clear e
      go_enter Tryd.func11, Tryd.ntmps11
      go_wp2
      go_ret
      exact ⟨rfl, rfl⟩
    · have e : fit n = false := (fit_not n).2 (by omega)
      have h3 : 1000000 < n := by omega
      rw [e]
      clear e h2
      go_enter Tryd.func11, Tryd.ntmps11
      go_wp2
      go_ret
      exact ⟨rfl, rfl⟩
  · have e : fit n = false := (fit_not n).2 (by omega)
    have h3 : n < -1000000 := by omega
    rw [e]
    clear e h1
    go_enter Tryd.func11, Tryd.ntmps11
    go_wp2
    go_ret
    exact ⟨rfl, rfl⟩

/-- The first place of a list at which an int is none of a stack's, or -1. -/
def offAt : List Int → Nat → Int
  | [], _ => -1
  | x :: r, k => if fit x then offAt r (k + 1) else k

theorem offAt_ge : ∀ (Z : List Int) (k : Nat), decide (0 ≤ offAt Z k) = !Z.all fit
  | [], _ => rfl
  | x :: r, k => by
    unfold offAt
    by_cases h : fit x = true
    · rw [if_pos h, offAt_ge r (k + 1)]; simp [h]
    · rw [if_neg h]; simp [h]
theorem offAt_drop (Z : List Int) (k : Nat) (h : k < Z.length) : offAt (Z.drop k) k = if fit (Z.getD k 0) then offAt (Z.drop (k + 1)) (k + 1) else k := by
  rw [List.drop_eq_getElem_cons h]
  simp [offAt, h]

set_option maxHeartbeats 800000 in
theorem indexf_some (b off n c : Nat) (Z : List Int) (w : World) (hz : Z.length = n) (hm : n ≤ maxLen) (hc : ∀ i, i < n → w.cell? ⟨b, off + i, none⟩ = some (.int .i64 (Z.getD i 0))) :
    Calls Tryd.prog 20 #[.slice (some ⟨b, off, none⟩) n c, .func (.func 11) #[] #[]] w fun e w' => e = .returned (.int .i64 (offAt Z 0)) ∧ w = w' := by
  unfold maxLen at hm
  have HC := hide hc
  have HZ := hide hz
  clear hc hz
  go_enter Tryd.func20, Tryd.ntmps20
  go_wp2
  go_loop [5, 8] (fun _ i => ∃ k : Nat, k ≤ n ∧ i = .int .i64 k ∧ Hid (offAt Z 0 = offAt (Z.drop k) k)) (fun _ i => n - (intOf i).toNat)
  case atStart => exact ⟨0, Nat.zero_le _, rfl, rfl⟩
  case round =>
    obtain ⟨k, hk, rfl, A⟩ := hrel
    by_cases hlt : k < n
    · have g := (unhide HC) k hlt
      obtain ⟨y, hy⟩ : ∃ y, Z.getD k 0 = y := ⟨_, rfl⟩
      rw [hy] at g
      have S := hide (offAt_drop Z k (by rw [unhide HZ]; exact hlt))
      by_cases hf : fit y = true
      · have S2 : Hid (offAt Z 0 = offAt (Z.drop (k + 1)) (k + 1)) := by show _ = _; rw [unhide A, unhide S, hy, if_pos hf]
        have hb := off_is y false w (by rw [hf]; rfl)
        clear S A hy hf
        go_wp2_with (go_at_call 11; refine hb.mono ?_; rintro e w' ⟨rfl, rfl⟩)
        go_round
        case rel => exact ⟨k + 1, by omega, by go_num, S2⟩
        case measure => simp [intOf]; omega
      · have S2 : Hid (offAt Z 0 = k) := by show _ = _; rw [unhide A, unhide S, hy, if_neg hf]
        have hb := off_is y true w (by simp [hf])
        clear S A hy hf
        go_wp2_with (go_at_call 11; refine hb.mono ?_; rintro e w' ⟨rfl, rfl⟩)
        go_ret
        exact ⟨by rw [unhide S2]; rfl, rfl⟩
    · have S2 : Hid (offAt Z 0 = -1) := by
        show _ = _
        rw [unhide A, List.drop_of_length_le (by rw [unhide HZ]; omega)]; rfl
      clear A
      go_wp2
      go_ret
      exact ⟨by rw [unhide S2]; rfl, rfl⟩

set_option maxHeartbeats 400000 in
theorem indexf_none (a : Option Addr) (c : Nat) (v : Value) (w : World) :
    Calls Tryd.prog 20 #[.slice a 0 c, v] w fun e w' => e = .returned (.int .i64 (-1)) ∧ w = w' := by
  go_enter Tryd.func20, Tryd.ntmps20
  go_wp2
  refine wp_loop_rounds 1 ?_
  rw [rounds_succ]
  go_wp2
  go_ret
  exact ⟨rfl, rfl⟩

theorem indexf_any (a : Option Addr) (n c : Nat) (Z : List Int) (w : World) (h : RowAt w a n Z) :
    Calls Tryd.prog 20 #[.slice a n c, .func (.func 11) #[] #[]] w fun e w' => e = .returned (.int .i64 (offAt Z 0)) ∧ w = w' := by
  obtain ⟨hz, hm, hc⟩ := h
  by_cases h0 : n = 0
  · subst h0
    have e : Z = [] := List.length_eq_zero_iff.1 hz
    subst e
    exact indexf_none a c _ w
  · obtain ⟨b, off, rfl, hcell⟩ := hc (by omega)
    exact indexf_some b off n c Z w hz hm hcell

set_option maxHeartbeats 400000 in
theorem contf_is (a : Option Addr) (n c : Nat) (Z : List Int) (o : Bool) (w : World) (ho : Z.all fit = !o) (h : RowAt w a n Z) :
    Calls Tryd.prog 10 #[.slice a n c, .func (.func 11) #[] #[]] w fun e w' => e = .returned (.bool o) ∧ w = w' := by
  have E : Hid (decide (0 ≤ offAt Z 0) = o) := by show _ = _; rw [offAt_ge, ho]; cases o <;> rfl
  have C := indexf_any a n c Z w h
  obtain ⟨x, hx⟩ : ∃ x, offAt Z 0 = x := ⟨_, rfl⟩
  rw [hx] at C E
  have CC := hide C
  clear C hx h ho
  cases o with
  | true =>
    have h0 : 0 ≤ x := of_decide_eq_true (unhide E)
    go_enter Tryd.func10, Tryd.ntmps10
    go_wp2_with (go_at_call 20; refine (unhide CC).mono ?_; rintro e w' ⟨rfl, rfl⟩)
    go_ret
    exact ⟨rfl, rfl⟩
  | false =>
    have h0 : ¬ 0 ≤ x := of_decide_eq_false (unhide E)
    have h1 : x < 0 := by omega
    have h2 : decide (0 ≤ x) = false := unhide E
    go_enter Tryd.func10, Tryd.ntmps10
    go_wp2_with (go_at_call 20; refine (unhide CC).mono ?_; rintro e w' ⟨rfl, rfl⟩)
    go_ret
    exact ⟨rfl, rfl⟩

end Go.Proofs.YtodgheppglchcaaDoor
