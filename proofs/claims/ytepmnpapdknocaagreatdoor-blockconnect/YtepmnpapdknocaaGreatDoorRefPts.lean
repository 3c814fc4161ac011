/- The contract of slices.Contains at points. -/
import Derived.Test.YtepmnpapdknocaaGreatDoorTxSame
namespace Go.Proofs.YtepmnpapdknocaaGreatDoor
open Go.RowKit

/-- The first place of a pair in a list, or -1. -/
def pairAt (q : Int × Int) : List (Int × Int) → Nat → Int
  | [], _ => -1
  | y :: r, k => if q = y then k else pairAt q r (k + 1)
theorem pairAt_ge (q : Int × Int) : ∀ (l : List (Int × Int)) (k : Nat), decide (0 ≤ pairAt q l k) = decide (q ∈ l)
  | [], _ => by simp [pairAt]
  | y :: r, k => by
    unfold pairAt
    by_cases h : q = y
    · rw [if_pos h]; simp [h]
    · rw [if_neg h, pairAt_ge q r (k + 1)]; simp [h]
theorem pairAt_drop (q : Int × Int) (l : List (Int × Int)) (k : Nat) (h : k < l.length) : pairAt q (l.drop k) k = if q = l[k] then (k : Int) else pairAt q (l.drop (k + 1)) (k + 1) := by
  rw [List.drop_eq_getElem_cons h]; rfl

set_option maxRecDepth 10000 in
set_option maxHeartbeats 1600000 in
theorem indexPt_some (b off n c : Nat) (l : List (Int × Int)) (q1 q2 : Int) (w : World) (hn : n ≤ 6) (hz : l.length = n)
    (hc : ∀ i, i < n → w.cell? ⟨b, off + i * 2, none⟩ = some (.int .i64 (l.getD i (0, 0)).1) ∧ w.cell? ⟨b, off + i * 2 + 1, none⟩ = some (.int .i64 (l.getD i (0, 0)).2)) :
    Calls Tryz.prog 116 #[.slice (some ⟨b, off, none⟩) n c, .agg #[.int .i64 q1, .int .i64 q2]] w fun e w' => e = .returned (.int .i64 (pairAt (q1, q2) l 0)) ∧ Below w.heap.size w w' := by
  obtain ⟨X, hX⟩ : ∃ X, X = w.alloc (.cells #[.int .i64 q1, .int .i64 q2] 86) := ⟨_, rfl⟩
  have hbX : Below w.heap.size w X := by rw [hX]; exact bel_new _ _
  have cx := two_fresh w (.int .i64 q1) (.int .i64 q2) 86
  rw [← hX] at cx
  obtain ⟨x0, x1⟩ := cx
  have HC : Hid (∀ i, i < n → X.cell? ⟨b, off + i * 2, none⟩ = some (.int .i64 (l.getD i (0, 0)).1) ∧ X.cell? ⟨b, off + i * 2 + 1, none⟩ = some (.int .i64 (l.getD i (0, 0)).2)) := fun i hi => ⟨cell_later hbX (hc i hi).1, cell_later hbX (hc i hi).2⟩
  have HZ := hide hz
  have HBX := hide hbX
  clear hc hz hbX
  go_enter Tryz.func116, Tryz.ntmps116
  go_wp2
  rw [← hX]
  clear hX
  go_loopw [8] (fun i wr => ∃ k m : Nat, k ≤ n ∧ i = .int .i64 k ∧ wr = X.drewN m ∧ Hid (pairAt (q1, q2) l 0 = pairAt (q1, q2) (l.drop k) k)) (fun i _ => n - (intOf i).toNat)
  case atStart => exact ⟨0, 0, Nat.zero_le _, rfl, rfl, rfl⟩
  case round =>
    obtain ⟨k, m, hk, rfl, rfl, A⟩ := hrel
    by_cases hlt : k < n
    · have hlk : k < l.length := by rw [unhide HZ]; exact hlt
      obtain ⟨g1, g2⟩ := (unhide HC) k hlt
      have S := hide (pairAt_drop (q1, q2) l k hlk)
      have e1 : l.getD k (0, 0) = l[k] := by simp [hlk]
      rw [e1] at g1 g2
      obtain ⟨r, hr⟩ : ∃ r, l[k] = r := ⟨_, rfl⟩
      rw [hr] at g1 g2 S
      obtain ⟨r1, r2⟩ := r
      simp only at g1 g2
      clear hr e1
      by_cases he : q1 = r1
      · subst he
        by_cases hf : q2 = r2
        · subst hf
          have R : Hid (pairAt (q1, q2) l 0 = k) := by show _ = _; rw [unhide A, unhide S, if_pos rfl]
          clear S A
          go_wp2
          go_quiet (fail)
          go_wp2
          go_ret
          exact ⟨by rw [unhide R]; rfl, bel_on (unhide HBX) (by simp only [World.drewN_drewN]; exact below_dw _ _)⟩
        · have R : Hid (pairAt (q1, q2) l 0 = pairAt (q1, q2) (l.drop (k + 1)) (k + 1)) := by show _ = _; rw [unhide A, unhide S, if_neg (fun e => hf (by injection e))]
          clear S A
          go_wp2
          go_quiet (fail)
          go_wp2
          go_roundw
          case rel => exact ⟨k + 1, m + nq, by omega, by go_num, rfl, R⟩
          case measure => simp [intOf]; omega
      · have R : Hid (pairAt (q1, q2) l 0 = pairAt (q1, q2) (l.drop (k + 1)) (k + 1)) := by show _ = _; rw [unhide A, unhide S, if_neg (fun e => he (by injection e))]
        clear S A
        go_wp2
        go_quiet (fail)
        go_wp2
        go_roundw
        case rel => exact ⟨k + 1, m + nq, by omega, by go_num, rfl, R⟩
        case measure => simp [intOf]; omega
    · have R : Hid (pairAt (q1, q2) l 0 = -1) := by
        show _ = _
        rw [unhide A, List.drop_of_length_le (by rw [unhide HZ]; omega)]; rfl
      clear A
      go_wp2
      go_ret
      exact ⟨by rw [unhide R]; rfl, bel_on (unhide HBX) (below_dw _ _)⟩

set_option maxHeartbeats 400000 in
theorem indexPt_none (a : Option Addr) (c : Nat) (q1 q2 : Int) (w : World) :
    Calls Tryz.prog 116 #[.slice a 0 c, .agg #[.int .i64 q1, .int .i64 q2]] w fun e w' => e = .returned (.int .i64 (-1)) ∧ Below w.heap.size w w' := by
  have HB := hide (bel_new w (.cells #[.int .i64 q1, .int .i64 q2] 86))
  go_enter Tryz.func116, Tryz.ntmps116
  go_wp2
  refine wp_loop_rounds 1 ?_
  rw [rounds_succ]
  go_wp2
  go_ret
  exact ⟨rfl, unhide HB⟩

set_option maxHeartbeats 800000 in
theorem containsPt_is (a : Option Addr) (n c : Nat) (l : List (Int × Int)) (q1 q2 : Int) (o : Bool) (w : World) (hn : n ≤ 6) (h : OpsAt w a n l) (ho : decide ((q1, q2) ∈ l) = o) :
    Calls Tryz.prog 78 #[.slice a n c, .agg #[.int .i64 q1, .int .i64 q2]] w fun e w' => e = .returned (.bool o) ∧ Below w.heap.size w w' := by
  have hb := bel_new w (.cells #[.int .i64 q1, .int .i64 q2] 86)
  have C : Calls Tryz.prog 116 #[.slice a n c, .agg #[.int .i64 q1, .int .i64 q2]] (w.alloc (.cells #[.int .i64 q1, .int .i64 q2] 86)) fun e w' => e = .returned (.int .i64 (pairAt (q1, q2) l 0)) ∧ Below (w.alloc (.cells #[.int .i64 q1, .int .i64 q2] 86)).heap.size (w.alloc (.cells #[.int .i64 q1, .int .i64 q2] 86)) w' := by
    by_cases h0 : n = 0
    · subst h0
      have e : l = [] := List.length_eq_zero_iff.1 h.1
      subst e
      exact indexPt_none a c q1 q2 _
    · obtain ⟨b, off, rfl, hc⟩ := (h.later hb).2 (by omega)
      exact indexPt_some b off n c l q1 q2 _ hn h.1 hc
  have E : Hid (decide (0 ≤ pairAt (q1, q2) l 0) = o) := by show _ = _; rw [pairAt_ge, ho]
  obtain ⟨z, hz⟩ : ∃ z, pairAt (q1, q2) l 0 = z := ⟨_, rfl⟩
  rw [hz] at C E
  have CC := hide C
  have HB := hide hb
  clear C hz h ho hb
  cases o with
  | true =>
    have h0 : 0 ≤ z := of_decide_eq_true (unhide E)
    go_enter Tryz.func78, Tryz.ntmps78
    go_wp2_with fail
    refine (unhide CC).mono ?_
    rintro e w' ⟨rfl, hb2⟩
    have HB2 := hide (bel_on (unhide HB) hb2)
    clear hb2
    go_wp2
    go_ret
    exact ⟨rfl, unhide HB2⟩
  | false =>
    have h2 : decide (0 ≤ z) = false := unhide E
    have h1 : z < 0 := by have := of_decide_eq_false h2; omega
    go_enter Tryz.func78, Tryz.ntmps78
    go_wp2_with fail
    refine (unhide CC).mono ?_
    rintro e w' ⟨rfl, hb2⟩
    have HB2 := hide (bel_on (unhide HB) hb2)
    clear hb2
    go_wp2
    go_ret
    exact ⟨rfl, unhide HB2⟩

end Go.Proofs.YtepmnpapdknocaaGreatDoor
