/- Contracts of slices.Equal at texts and at ints, of slices.Index at texts. -/
import Derived.Test.YtepmnpapdknocaaGreatDoorBookName
namespace Go.Proofs.YtepmnpapdknocaaGreatDoor.Bk
open Go.RowKit Go.Maps

theorem take_more {α : Type} {L M : List α} {j : Nat} (h1 : j < L.length) (h2 : j < M.length) (h : L.take j = M.take j) (e : L[j] = M[j]) : L.take (j + 1) = M.take (j + 1) := by
  rw [List.take_succ_eq_append_getElem h1, List.take_succ_eq_append_getElem h2, h, e]
theorem take_not {α : Type} {L M : List α} {j : Nat} (h1 : j < L.length) (h2 : j < M.length) (e : L[j] ≠ M[j]) : L ≠ M := by
  intro h; subst h; exact e rfl
theorem str_ne' {s t : ByteArray} (h : s ≠ t) : s.toList ≠ t.toList := fun e => h (by
  rw [ByteArray.toList_eq, ByteArray.toList_eq] at e
  have h4 : s.data = t.data := by rw [← Array.toList_inj]; exact e
  cases s; cases t; simp_all)
theorem str_ne {s t : ByteArray} (h : s ≠ t) : (s.toList == t.toList) = false := by simp [str_ne' h]


set_option maxRecDepth 10000 in
set_option maxHeartbeats 1600000 in
theorem eqStr_some (b off b2 off2 n c d : Nat) (L M : List ByteArray) (o : Bool) (w : World) (hn : n ≤ maxLen) (hz : L.length = n) (hz2 : M.length = n)
    (hc : ∀ i (h : i < L.length), w.cell? ⟨b, off + i, none⟩ = some (.string L[i])) (hc2 : ∀ i (h : i < M.length), w.cell? ⟨b2, off2 + i, none⟩ = some (.string M[i])) (ho : decide (L = M) = o) :
    Calls Tryz.prog 13 #[.slice (some ⟨b, off, none⟩) n c, .slice (some ⟨b2, off2, none⟩) n d] w fun e w' => e = .returned (.bool o) ∧ Below w.heap.size w w' := by
  have HC := hide hc
  have HC2 := hide hc2
  have HZ := hide hz
  have HZ2 := hide hz2
  have HO := hide ho
  have g0 : ((n : Int) != (n : Int)) = false := by simp
  unfold maxLen at hn
  clear hc hc2 hz hz2 ho
  go_enter Tryz.func13, Tryz.ntmps13
  go_wp2
  go_loopw [13] (fun i wr => ∃ j m : Nat, j ≤ n ∧ i = .int .i64 j ∧ wr = w.drewN m ∧ Hid (L.take j = M.take j)) (fun i _ => n - (intOf i).toNat)
  case atStart => exact ⟨0, 0, Nat.zero_le _, rfl, rfl, rfl⟩
  case round =>
    obtain ⟨j, m, hk, rfl, rfl, A⟩ := hrel
    by_cases hlt : j < n
    · have h1 : j < L.length := by rw [unhide HZ]; exact hlt
      have h2 : j < M.length := by rw [unhide HZ2]; exact hlt
      have f1 := (unhide HC) j h1
      have f2 := (unhide HC2) j h2
      have TM := hide (take_more h1 h2 (unhide A))
      have TN := hide (take_not h1 h2)
      obtain ⟨s, hs⟩ : ∃ s, L[j] = s := ⟨_, rfl⟩
      obtain ⟨t, ht⟩ : ∃ t, M[j] = t := ⟨_, rfl⟩
      rw [hs] at f1
      rw [ht] at f2
      rw [hs, ht] at TM TN
      clear hs ht A
      by_cases e : s = t
      · subst e
        have R := hide ((unhide TM) rfl)
        clear TM TN
        go_wp2
        go_quiet (fail)
        go_wp2
        go_roundw
        case rel => exact ⟨j + 1, m + nq, by omega, by go_num, rfl, R⟩
        case measure => simp [intOf]; omega
      · have R : Hid (o = false) := by show _ = _; rw [← unhide HO]; exact decide_eq_false ((unhide TN) e)
        have g := str_ne e
        clear TM TN e
        go_wp2
        go_quiet (fail)
        go_wp2
        go_ret
        exact ⟨by rw [unhide R]; rfl, by simp only [World.drewN_drewN]; exact below_dw _ _⟩
    · have R : Hid (o = true) := by
        have h := unhide A
        rw [List.take_of_length_le (by rw [unhide HZ]; omega), List.take_of_length_le (by rw [unhide HZ2]; omega)] at h
        show _ = _; rw [← unhide HO]; exact decide_eq_true h
      clear A
      go_wp2
      go_ret
      exact ⟨by rw [unhide R]; rfl, below_dw _ _⟩

set_option maxHeartbeats 400000 in
theorem eqStr_zero (a a2 : Option Addr) (c d : Nat) (w : World) :
    Calls Tryz.prog 13 #[.slice a 0 c, .slice a2 0 d] w fun e w' => e = .returned (.bool true) ∧ Below w.heap.size w w' := by
  go_enter Tryz.func13, Tryz.ntmps13
  go_wp2
  refine wp_loop_rounds 1 ?_
  rw [rounds_succ]
  go_wp2
  go_ret
  exact ⟨rfl, Below.refl _ _⟩
set_option maxHeartbeats 400000 in
theorem eqStr_len (a a2 : Option Addr) (n m c d : Nat) (w : World) (h : n ≠ m) :
    Calls Tryz.prog 13 #[.slice a n c, .slice a2 m d] w fun e w' => e = .returned (.bool false) ∧ Below w.heap.size w w' := by
  have g : ((n : Int) != (m : Int)) = true := by simp; omega
  go_enter Tryz.func13, Tryz.ntmps13
  go_wp2
  go_ret
  exact ⟨rfl, Below.refl _ _⟩

theorem eqStr_is (a a2 : Option Addr) (n m c d : Nat) (L M : List ByteArray) (o : Bool) (w : World) (hn : n ≤ maxLen) (h : TextsAt w a n L) (h2 : TextsAt w a2 m M) (ho : decide (L = M) = o) :
    Calls Tryz.prog 13 #[.slice a n c, .slice a2 m d] w fun e w' => e = .returned (.bool o) ∧ Below w.heap.size w w' := by
  by_cases e : n = m
  · subst e
    by_cases h0 : n = 0
    · subst h0
      have e1 : L = [] := List.length_eq_zero_iff.1 h.1
      have e2 : M = [] := List.length_eq_zero_iff.1 h2.1
      subst e1 e2
      have : o = true := by rw [← ho]; rfl
      subst this
      exact eqStr_zero a a2 c d w
    · obtain ⟨b, off, rfl, hc⟩ := h.2 (by omega)
      obtain ⟨b2, off2, rfl, hc2⟩ := h2.2 (by omega)
      exact eqStr_some b off b2 off2 n c d L M o w hn h.1 h2.1 hc hc2 ho
  · have : o = false := by
      rw [← ho]
      exact decide_eq_false (fun e2 => e (by rw [← h.1, ← h2.1, e2]))
    subst this
    exact eqStr_len a a2 n m c d w e

set_option maxRecDepth 10000 in
set_option maxHeartbeats 1600000 in
theorem eqInt_some (b off b2 off2 n c d : Nat) (L M : List Int) (o : Bool) (w : World) (hn : n ≤ maxLen) (hz : L.length = n) (hz2 : M.length = n)
    (hc : ∀ i (h : i < L.length), w.cell? ⟨b, off + i, none⟩ = some (.int .i64 L[i])) (hc2 : ∀ i (h : i < M.length), w.cell? ⟨b2, off2 + i, none⟩ = some (.int .i64 M[i])) (ho : decide (L = M) = o) :
    Calls Tryz.prog 12 #[.slice (some ⟨b, off, none⟩) n c, .slice (some ⟨b2, off2, none⟩) n d] w fun e w' => e = .returned (.bool o) ∧ Below w.heap.size w w' := by
  have HC := hide hc
  have HC2 := hide hc2
  have HZ := hide hz
  have HZ2 := hide hz2
  have HO := hide ho
  have g0 : ((n : Int) != (n : Int)) = false := by simp
  unfold maxLen at hn
  clear hc hc2 hz hz2 ho
  go_enter Tryz.func12, Tryz.ntmps12
  go_wp2
  go_loopw [13] (fun i wr => ∃ j m : Nat, j ≤ n ∧ i = .int .i64 j ∧ wr = w.drewN m ∧ Hid (L.take j = M.take j)) (fun i _ => n - (intOf i).toNat)
  case atStart => exact ⟨0, 0, Nat.zero_le _, rfl, rfl, rfl⟩
  case round =>
    obtain ⟨j, m, hk, rfl, rfl, A⟩ := hrel
    by_cases hlt : j < n
    · have h1 : j < L.length := by rw [unhide HZ]; exact hlt
      have h2 : j < M.length := by rw [unhide HZ2]; exact hlt
      have f1 := (unhide HC) j h1
      have f2 := (unhide HC2) j h2
      have TM := hide (take_more h1 h2 (unhide A))
      have TN := hide (take_not h1 h2)
      obtain ⟨s, hs⟩ : ∃ s, L[j] = s := ⟨_, rfl⟩
      obtain ⟨t, ht⟩ : ∃ t, M[j] = t := ⟨_, rfl⟩
      rw [hs] at f1
      rw [ht] at f2
      rw [hs, ht] at TM TN
      clear hs ht A
      by_cases e : s = t
      · subst e
        have R := hide ((unhide TM) rfl)
        have g : (s != s) = false := by simp
        clear TM TN
        go_wp2
        go_quiet (fail)
        go_wp2
        go_roundw
        case rel => exact ⟨j + 1, m + nq, by omega, by go_num, rfl, R⟩
        case measure => simp [intOf]; omega
      · have R : Hid (o = false) := by show _ = _; rw [← unhide HO]; exact decide_eq_false ((unhide TN) e)
        have g : (s != t) = true := by simp [e]
        clear TM TN
        go_wp2
        go_quiet (fail)
        go_wp2
        go_ret
        exact ⟨by rw [unhide R]; rfl, by simp only [World.drewN_drewN]; exact below_dw _ _⟩
    · have R : Hid (o = true) := by
        have h := unhide A
        rw [List.take_of_length_le (by rw [unhide HZ]; omega), List.take_of_length_le (by rw [unhide HZ2]; omega)] at h
        show _ = _; rw [← unhide HO]; exact decide_eq_true h
      clear A
      go_wp2
      go_ret
      exact ⟨by rw [unhide R]; rfl, below_dw _ _⟩

set_option maxHeartbeats 400000 in
theorem eqInt_zero (a a2 : Option Addr) (c d : Nat) (w : World) :
    Calls Tryz.prog 12 #[.slice a 0 c, .slice a2 0 d] w fun e w' => e = .returned (.bool true) ∧ Below w.heap.size w w' := by
  go_enter Tryz.func12, Tryz.ntmps12
  go_wp2
  refine wp_loop_rounds 1 ?_
  rw [rounds_succ]
  go_wp2
  go_ret
  exact ⟨rfl, Below.refl _ _⟩
set_option maxHeartbeats 400000 in
theorem eqInt_len (a a2 : Option Addr) (n m c d : Nat) (w : World) (h : n ≠ m) :
    Calls Tryz.prog 12 #[.slice a n c, .slice a2 m d] w fun e w' => e = .returned (.bool false) ∧ Below w.heap.size w w' := by
  have g : ((n : Int) != (m : Int)) = true := by simp; omega
  go_enter Tryz.func12, Tryz.ntmps12
  go_wp2
  go_ret
  exact ⟨rfl, Below.refl _ _⟩

theorem eqInt_is (a a2 : Option Addr) (n m c d : Nat) (L M : List Int) (o : Bool) (w : World) (hn : n ≤ maxLen) (h : IntsAt w a n L) (h2 : IntsAt w a2 m M) (ho : decide (L = M) = o) :
    Calls Tryz.prog 12 #[.slice a n c, .slice a2 m d] w fun e w' => e = .returned (.bool o) ∧ Below w.heap.size w w' := by
  by_cases e : n = m
  · subst e
    by_cases h0 : n = 0
    · subst h0
      have e1 : L = [] := List.length_eq_zero_iff.1 h.1
      have e2 : M = [] := List.length_eq_zero_iff.1 h2.1
      subst e1 e2
      have : o = true := by rw [← ho]; rfl
      subst this
      exact eqInt_zero a a2 c d w
    · obtain ⟨b, off, rfl, hc⟩ := h.2 (by omega)
      obtain ⟨b2, off2, rfl, hc2⟩ := h2.2 (by omega)
      exact eqInt_some b off b2 off2 n c d L M o w hn h.1 h2.1 hc hc2 ho
  · have : o = false := by
      rw [← ho]
      exact decide_eq_false (fun e2 => e (by rw [← h.1, ← h2.1, e2]))
    subst this
    exact eqInt_len a a2 n m c d w e


end Go.Proofs.YtepmnpapdknocaaGreatDoor.Bk
