/- Contracts of ContainsFunc of ins, at closures that have one captured value. -/
import Derived.Test.YtklpajhgfdpboaaCoinThere
import Derived.Test.YtklpajhgfdpboaaCoinTwiceM
namespace Go.Proofs.Ytklpajhgfdpboaa
open Go.RowKit

/-- The first place of a row at which it holds, or -1. -/
def idxP (P : InD → Bool) : List InD → Nat → Int
  | [], _ => -1
  | y :: r, k => if P y then k else idxP P r (k + 1)
theorem idxP_ge (P : InD → Bool) : ∀ (l : List InD) (k : Nat), decide (0 ≤ idxP P l k) = l.any P
  | [], _ => rfl
  | y :: r, k => by
    unfold idxP
    by_cases h : P y = true
    · rw [if_pos h]; simp [h]
    · rw [if_neg h, idxP_ge P r (k + 1)]; simp [h]
theorem idxP_drop (P : InD → Bool) (l : List InD) (k : Nat) (h : k < l.length) : idxP P (l.drop k) k = if P l[k] then (k : Int) else idxP P (l.drop (k + 1)) (k + 1) := by
  rw [List.drop_eq_getElem_cons h]; rfl

set_option maxRecDepth 10000 in
set_option maxHeartbeats 1600000 in
theorem index_twice1_some (P : InD → Bool) (cap : Value) (b off n c : Nat) (l : List InD) (w : World) (hz : l.length = n) (hn : n ≤ maxLen) (hc : ∀ i (h : i < l.length), InAt w b (off + i * 3) l[i])
    (hG : ∀ wr, Below w.heap.size w wr → ∀ (y : InD) ka kn kc, Calls Try.prog 19 #[.agg #[.int .i64 y.1, .int .i64 y.2.1, .slice ka kn kc], cap] wr fun e w' => e = .returned (.bool (P y)) ∧ Below wr.heap.size wr w') :
    Calls Try.prog 46 #[.slice (some ⟨b, off, none⟩) n c, .func (.func 19) #[] #[cap]] w fun e w' => e = .returned (.int .i64 (idxP P l 0)) ∧ Below w.heap.size w w' := by
  unfold maxLen at hn
  have HC := hide hc
  have HZ := hide hz
  have HG := hide hG
  clear hc hz hG
  go_enter Try.func46, Try.ntmps46
  go_wp2
  go_loopw [5, 8] (fun _ i wr => ∃ k : Nat, k ≤ n ∧ i = .int .i64 k ∧ Hid (idxP P l 0 = idxP P (l.drop k) k) ∧ Below w.heap.size w wr) (fun _ i _ => n - (intOf i).toNat)
  case atStart => exact ⟨0, Nat.zero_le _, rfl, rfl, Below.refl _ _⟩
  case round =>
    obtain ⟨k, hk, rfl, A, hb⟩ := hrel
    have HB := hide hb
    by_cases hlt : k < n
    · have hlk : k < l.length := by rw [unhide HZ]; exact hlt
      have hin := InAt.kept _ _ _ _ _ hb ((unhide HC) k hlk)
      have S := hide (idxP_drop P l k hlk)
      obtain ⟨y, hy⟩ : ∃ y, l[k] = y := ⟨_, rfl⟩
      rw [hy] at hin S
      obtain ⟨g1, g2, ka, kn, kc, g3, _, _⟩ := hin
      have C1 := hide ((unhide HG) wr hb y ka kn kc)
      obtain ⟨q, hq⟩ : ∃ q, P y = q := ⟨_, rfl⟩
      rw [hq] at C1 S
      cases q with
      | true =>
        have S2 : Hid (idxP P l 0 = k) := by show _ = _; rw [unhide A, unhide S, if_pos rfl]
        clear S A hb hy hq
        go_wp2_with fail
        refine (unhide C1).mono ?_
        rintro e w' ⟨rfl, hb'⟩
        have HB' := hide (bel_on (unhide HB) hb')
        clear hb'
        go_wp2
        go_ret
        exact ⟨by rw [unhide S2]; rfl, unhide HB'⟩
      | false =>
        have S2 : Hid (idxP P l 0 = idxP P (l.drop (k + 1)) (k + 1)) := by show _ = _; rw [unhide A, unhide S, if_neg (by decide)]
        clear S A hb hy hq
        go_wp2_with fail
        refine (unhide C1).mono ?_
        rintro e w' ⟨rfl, hb'⟩
        have HB' := hide (bel_on (unhide HB) hb')
        clear hb'
        go_wp2
        go_roundw
        case rel => exact ⟨k + 1, by omega, by go_num, S2, unhide HB'⟩
        case measure => simp [intOf]; omega
    · have S2 : Hid (idxP P l 0 = -1) := by
        show _ = _
        rw [unhide A, List.drop_of_length_le (by rw [unhide HZ]; omega)]; rfl
      clear A hb
      go_wp2
      go_ret
      exact ⟨by rw [unhide S2]; rfl, unhide HB⟩

theorem index_twice1_any (P : InD → Bool) (cap : Value) (a : Option Addr) (n c : Nat) (l : List InD) (w : World) (hn : n ≤ maxLen) (h : InsAt w a n l)
    (hG : ∀ wr, Below w.heap.size w wr → ∀ (y : InD) ka kn kc, Calls Try.prog 19 #[.agg #[.int .i64 y.1, .int .i64 y.2.1, .slice ka kn kc], cap] wr fun e w' => e = .returned (.bool (P y)) ∧ Below wr.heap.size wr w') :
    Calls Try.prog 46 #[.slice a n c, .func (.func 19) #[] #[cap]] w fun e w' => e = .returned (.int .i64 (idxP P l 0)) ∧ Below w.heap.size w w' := by
  obtain ⟨hz, hc⟩ := h
  by_cases h0 : n = 0
  · subst h0
    have e : l = [] := List.length_eq_zero_iff.1 hz
    subst e
    exact (indexIn_none a c _ w).mono fun e w' ⟨q1, q2⟩ => ⟨q1, q2 ▸ Below.refl _ _⟩
  · obtain ⟨b, off, rfl, _, hcell⟩ := hc (by omega)
    exact index_twice1_some P cap b off n c l w hz hn hcell hG

set_option maxHeartbeats 400000 in
theorem contains_twice1 (P : InD → Bool) (cap : Value) (a : Option Addr) (n c : Nat) (l : List InD) (o : Bool) (w : World) (hn : n ≤ maxLen) (h : InsAt w a n l)
    (hG : ∀ wr, Below w.heap.size w wr → ∀ (y : InD) ka kn kc, Calls Try.prog 19 #[.agg #[.int .i64 y.1, .int .i64 y.2.1, .slice ka kn kc], cap] wr fun e w' => e = .returned (.bool (P y)) ∧ Below wr.heap.size wr w') (ho : l.any P = o) :
    Calls Try.prog 18 #[.slice a n c, .func (.func 19) #[] #[cap]] w fun e w' => e = .returned (.bool o) ∧ Below w.heap.size w w' := by
  have E : Hid (decide (0 ≤ idxP P l 0) = o) := by show _ = _; rw [idxP_ge, ho]
  have C := index_twice1_any P cap a n c l w hn h hG
  obtain ⟨z, hz⟩ : ∃ z, idxP P l 0 = z := ⟨_, rfl⟩
  rw [hz] at C E
  have CC := hide C
  clear C hz h ho hG
  cases o with
  | true =>
    have h0 : 0 ≤ z := of_decide_eq_true (unhide E)
    go_enter Try.func18, Try.ntmps18
    go_wp2_with fail
    refine (unhide CC).mono ?_
    rintro e w' ⟨rfl, hb⟩
    have HB := hide hb
    clear hb
    go_wp2
    go_ret
    exact ⟨rfl, unhide HB⟩
  | false =>
    have h2 : decide (0 ≤ z) = false := unhide E
    have h1 : z < 0 := by have := of_decide_eq_false h2; omega
    go_enter Try.func18, Try.ntmps18
    go_wp2_with fail
    refine (unhide CC).mono ?_
    rintro e w' ⟨rfl, hb⟩
    have HB := hide hb
    clear hb
    go_wp2
    go_ret
    exact ⟨rfl, unhide HB⟩

set_option maxRecDepth 10000 in
set_option maxHeartbeats 1600000 in
theorem index_twice21_some (P : InD → Bool) (cap : Value) (b off n c : Nat) (l : List InD) (w : World) (hz : l.length = n) (hn : n ≤ maxLen) (hc : ∀ i (h : i < l.length), InAt w b (off + i * 3) l[i])
    (hG : ∀ wr, Below w.heap.size w wr → ∀ (y : InD) ka kn kc, Calls Try.prog 21 #[.agg #[.int .i64 y.1, .int .i64 y.2.1, .slice ka kn kc], cap] wr fun e w' => e = .returned (.bool (P y)) ∧ Below wr.heap.size wr w') :
    Calls Try.prog 46 #[.slice (some ⟨b, off, none⟩) n c, .func (.func 21) #[] #[cap]] w fun e w' => e = .returned (.int .i64 (idxP P l 0)) ∧ Below w.heap.size w w' := by
  unfold maxLen at hn
  have HC := hide hc
  have HZ := hide hz
  have HG := hide hG
  clear hc hz hG
  go_enter Try.func46, Try.ntmps46
  go_wp2
  go_loopw [5, 8] (fun _ i wr => ∃ k : Nat, k ≤ n ∧ i = .int .i64 k ∧ Hid (idxP P l 0 = idxP P (l.drop k) k) ∧ Below w.heap.size w wr) (fun _ i _ => n - (intOf i).toNat)
  case atStart => exact ⟨0, Nat.zero_le _, rfl, rfl, Below.refl _ _⟩
  case round =>
    obtain ⟨k, hk, rfl, A, hb⟩ := hrel
    have HB := hide hb
    by_cases hlt : k < n
    · have hlk : k < l.length := by rw [unhide HZ]; exact hlt
      have hin := InAt.kept _ _ _ _ _ hb ((unhide HC) k hlk)
      have S := hide (idxP_drop P l k hlk)
      obtain ⟨y, hy⟩ : ∃ y, l[k] = y := ⟨_, rfl⟩
      rw [hy] at hin S
      obtain ⟨g1, g2, ka, kn, kc, g3, _, _⟩ := hin
      have C1 := hide ((unhide HG) wr hb y ka kn kc)
      obtain ⟨q, hq⟩ : ∃ q, P y = q := ⟨_, rfl⟩
      rw [hq] at C1 S
      cases q with
      | true =>
        have S2 : Hid (idxP P l 0 = k) := by show _ = _; rw [unhide A, unhide S, if_pos rfl]
        clear S A hb hy hq
        go_wp2_with fail
        refine (unhide C1).mono ?_
        rintro e w' ⟨rfl, hb'⟩
        have HB' := hide (bel_on (unhide HB) hb')
        clear hb'
        go_wp2
        go_ret
        exact ⟨by rw [unhide S2]; rfl, unhide HB'⟩
      | false =>
        have S2 : Hid (idxP P l 0 = idxP P (l.drop (k + 1)) (k + 1)) := by show _ = _; rw [unhide A, unhide S, if_neg (by decide)]
        clear S A hb hy hq
        go_wp2_with fail
        refine (unhide C1).mono ?_
        rintro e w' ⟨rfl, hb'⟩
        have HB' := hide (bel_on (unhide HB) hb')
        clear hb'
        go_wp2
        go_roundw
        case rel => exact ⟨k + 1, by omega, by go_num, S2, unhide HB'⟩
        case measure => simp [intOf]; omega
    · have S2 : Hid (idxP P l 0 = -1) := by
        show _ = _
        rw [unhide A, List.drop_of_length_le (by rw [unhide HZ]; omega)]; rfl
      clear A hb
      go_wp2
      go_ret
      exact ⟨by rw [unhide S2]; rfl, unhide HB⟩

theorem index_twice21_any (P : InD → Bool) (cap : Value) (a : Option Addr) (n c : Nat) (l : List InD) (w : World) (hn : n ≤ maxLen) (h : InsAt w a n l)
    (hG : ∀ wr, Below w.heap.size w wr → ∀ (y : InD) ka kn kc, Calls Try.prog 21 #[.agg #[.int .i64 y.1, .int .i64 y.2.1, .slice ka kn kc], cap] wr fun e w' => e = .returned (.bool (P y)) ∧ Below wr.heap.size wr w') :
    Calls Try.prog 46 #[.slice a n c, .func (.func 21) #[] #[cap]] w fun e w' => e = .returned (.int .i64 (idxP P l 0)) ∧ Below w.heap.size w w' := by
  obtain ⟨hz, hc⟩ := h
  by_cases h0 : n = 0
  · subst h0
    have e : l = [] := List.length_eq_zero_iff.1 hz
    subst e
    exact (indexIn_none a c _ w).mono fun e w' ⟨q1, q2⟩ => ⟨q1, q2 ▸ Below.refl _ _⟩
  · obtain ⟨b, off, rfl, _, hcell⟩ := hc (by omega)
    exact index_twice21_some P cap b off n c l w hz hn hcell hG

set_option maxHeartbeats 400000 in
theorem contains_twice21 (P : InD → Bool) (cap : Value) (a : Option Addr) (n c : Nat) (l : List InD) (o : Bool) (w : World) (hn : n ≤ maxLen) (h : InsAt w a n l)
    (hG : ∀ wr, Below w.heap.size w wr → ∀ (y : InD) ka kn kc, Calls Try.prog 21 #[.agg #[.int .i64 y.1, .int .i64 y.2.1, .slice ka kn kc], cap] wr fun e w' => e = .returned (.bool (P y)) ∧ Below wr.heap.size wr w') (ho : l.any P = o) :
    Calls Try.prog 18 #[.slice a n c, .func (.func 21) #[] #[cap]] w fun e w' => e = .returned (.bool o) ∧ Below w.heap.size w w' := by
  have E : Hid (decide (0 ≤ idxP P l 0) = o) := by show _ = _; rw [idxP_ge, ho]
  have C := index_twice21_any P cap a n c l w hn h hG
  obtain ⟨z, hz⟩ : ∃ z, idxP P l 0 = z := ⟨_, rfl⟩
  rw [hz] at C E
  have CC := hide C
  clear C hz h ho hG
  cases o with
  | true =>
    have h0 : 0 ≤ z := of_decide_eq_true (unhide E)
    go_enter Try.func18, Try.ntmps18
    go_wp2_with fail
    refine (unhide CC).mono ?_
    rintro e w' ⟨rfl, hb⟩
    have HB := hide hb
    clear hb
    go_wp2
    go_ret
    exact ⟨rfl, unhide HB⟩
  | false =>
    have h2 : decide (0 ≤ z) = false := unhide E
    have h1 : z < 0 := by have := of_decide_eq_false h2; omega
    go_enter Try.func18, Try.ntmps18
    go_wp2_with fail
    refine (unhide CC).mono ?_
    rintro e w' ⟨rfl, hb⟩
    have HB := hide hb
    clear hb
    go_wp2
    go_ret
    exact ⟨rfl, unhide HB⟩

set_option maxRecDepth 10000 in
set_option maxHeartbeats 1600000 in
theorem index_twice2_some (P : InD → Bool) (cap : Value) (b off n c : Nat) (l : List InD) (w : World) (hz : l.length = n) (hn : n ≤ maxLen) (hc : ∀ i (h : i < l.length), InAt w b (off + i * 3) l[i])
    (hG : ∀ wr, Below w.heap.size w wr → ∀ (y : InD) ka kn kc, Calls Try.prog 20 #[.agg #[.int .i64 y.1, .int .i64 y.2.1, .slice ka kn kc], cap] wr fun e w' => e = .returned (.bool (P y)) ∧ Below wr.heap.size wr w') :
    Calls Try.prog 46 #[.slice (some ⟨b, off, none⟩) n c, .func (.func 20) #[] #[cap]] w fun e w' => e = .returned (.int .i64 (idxP P l 0)) ∧ Below w.heap.size w w' := by
  unfold maxLen at hn
  have HC := hide hc
  have HZ := hide hz
  have HG := hide hG
  clear hc hz hG
  go_enter Try.func46, Try.ntmps46
  go_wp2
  go_loopw [5, 8] (fun _ i wr => ∃ k : Nat, k ≤ n ∧ i = .int .i64 k ∧ Hid (idxP P l 0 = idxP P (l.drop k) k) ∧ Below w.heap.size w wr) (fun _ i _ => n - (intOf i).toNat)
  case atStart => exact ⟨0, Nat.zero_le _, rfl, rfl, Below.refl _ _⟩
  case round =>
    obtain ⟨k, hk, rfl, A, hb⟩ := hrel
    have HB := hide hb
    by_cases hlt : k < n
    · have hlk : k < l.length := by rw [unhide HZ]; exact hlt
      have hin := InAt.kept _ _ _ _ _ hb ((unhide HC) k hlk)
      have S := hide (idxP_drop P l k hlk)
      obtain ⟨y, hy⟩ : ∃ y, l[k] = y := ⟨_, rfl⟩
      rw [hy] at hin S
      obtain ⟨g1, g2, ka, kn, kc, g3, _, _⟩ := hin
      have C1 := hide ((unhide HG) wr hb y ka kn kc)
      obtain ⟨q, hq⟩ : ∃ q, P y = q := ⟨_, rfl⟩
      rw [hq] at C1 S
      cases q with
      | true =>
        have S2 : Hid (idxP P l 0 = k) := by show _ = _; rw [unhide A, unhide S, if_pos rfl]
        clear S A hb hy hq
        go_wp2_with fail
        refine (unhide C1).mono ?_
        rintro e w' ⟨rfl, hb'⟩
        have HB' := hide (bel_on (unhide HB) hb')
        clear hb'
        go_wp2
        go_ret
        exact ⟨by rw [unhide S2]; rfl, unhide HB'⟩
      | false =>
        have S2 : Hid (idxP P l 0 = idxP P (l.drop (k + 1)) (k + 1)) := by show _ = _; rw [unhide A, unhide S, if_neg (by decide)]
        clear S A hb hy hq
        go_wp2_with fail
        refine (unhide C1).mono ?_
        rintro e w' ⟨rfl, hb'⟩
        have HB' := hide (bel_on (unhide HB) hb')
        clear hb'
        go_wp2
        go_roundw
        case rel => exact ⟨k + 1, by omega, by go_num, S2, unhide HB'⟩
        case measure => simp [intOf]; omega
    · have S2 : Hid (idxP P l 0 = -1) := by
        show _ = _
        rw [unhide A, List.drop_of_length_le (by rw [unhide HZ]; omega)]; rfl
      clear A hb
      go_wp2
      go_ret
      exact ⟨by rw [unhide S2]; rfl, unhide HB⟩

theorem index_twice2_any (P : InD → Bool) (cap : Value) (a : Option Addr) (n c : Nat) (l : List InD) (w : World) (hn : n ≤ maxLen) (h : InsAt w a n l)
    (hG : ∀ wr, Below w.heap.size w wr → ∀ (y : InD) ka kn kc, Calls Try.prog 20 #[.agg #[.int .i64 y.1, .int .i64 y.2.1, .slice ka kn kc], cap] wr fun e w' => e = .returned (.bool (P y)) ∧ Below wr.heap.size wr w') :
    Calls Try.prog 46 #[.slice a n c, .func (.func 20) #[] #[cap]] w fun e w' => e = .returned (.int .i64 (idxP P l 0)) ∧ Below w.heap.size w w' := by
  obtain ⟨hz, hc⟩ := h
  by_cases h0 : n = 0
  · subst h0
    have e : l = [] := List.length_eq_zero_iff.1 hz
    subst e
    exact (indexIn_none a c _ w).mono fun e w' ⟨q1, q2⟩ => ⟨q1, q2 ▸ Below.refl _ _⟩
  · obtain ⟨b, off, rfl, _, hcell⟩ := hc (by omega)
    exact index_twice2_some P cap b off n c l w hz hn hcell hG

set_option maxHeartbeats 400000 in
theorem contains_twice2 (P : InD → Bool) (cap : Value) (a : Option Addr) (n c : Nat) (l : List InD) (o : Bool) (w : World) (hn : n ≤ maxLen) (h : InsAt w a n l)
    (hG : ∀ wr, Below w.heap.size w wr → ∀ (y : InD) ka kn kc, Calls Try.prog 20 #[.agg #[.int .i64 y.1, .int .i64 y.2.1, .slice ka kn kc], cap] wr fun e w' => e = .returned (.bool (P y)) ∧ Below wr.heap.size wr w') (ho : l.any P = o) :
    Calls Try.prog 18 #[.slice a n c, .func (.func 20) #[] #[cap]] w fun e w' => e = .returned (.bool o) ∧ Below w.heap.size w w' := by
  have E : Hid (decide (0 ≤ idxP P l 0) = o) := by show _ = _; rw [idxP_ge, ho]
  have C := index_twice2_any P cap a n c l w hn h hG
  obtain ⟨z, hz⟩ : ∃ z, idxP P l 0 = z := ⟨_, rfl⟩
  rw [hz] at C E
  have CC := hide C
  clear C hz h ho hG
  cases o with
  | true =>
    have h0 : 0 ≤ z := of_decide_eq_true (unhide E)
    go_enter Try.func18, Try.ntmps18
    go_wp2_with fail
    refine (unhide CC).mono ?_
    rintro e w' ⟨rfl, hb⟩
    have HB := hide hb
    clear hb
    go_wp2
    go_ret
    exact ⟨rfl, unhide HB⟩
  | false =>
    have h2 : decide (0 ≤ z) = false := unhide E
    have h1 : z < 0 := by have := of_decide_eq_false h2; omega
    go_enter Try.func18, Try.ntmps18
    go_wp2_with fail
    refine (unhide CC).mono ?_
    rintro e w' ⟨rfl, hb⟩
    have HB := hide hb
    clear hb
    go_wp2
    go_ret
    exact ⟨rfl, unhide HB⟩

end Go.Proofs.Ytklpajhgfdpboaa
