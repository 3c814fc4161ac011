/- Contracts of what checks a transaction: its points, its ins, its outs. -/
import Derived.Test.YtepmnpapdknocaaGreatDoorTxMem
import Derived.Test.YtepmnpapdknocaaGreatDoorTxSum
namespace Go.Proofs.YtepmnpapdknocaaGreatDoor
open Go.RowKit

set_option maxHeartbeats 800000 in
theorem isPoint_is (x y : Int) (b : Bool) (w : World) (hb : ((decide (1 ≤ x) && decide (x ≤ 120)) && (decide (0 ≤ y) && decide (y ≤ 5))) = b) :
    Calls Tryz.prog 137 #[.agg #[.int .i64 x, .int .i64 y]] w fun e w' => e = .returned (.bool b) ∧ Below w.heap.size w w' := by
  have HB := hide (bel_new w (.cells #[.int .i64 x, .int .i64 y] 86))
  by_cases h1 : 1 ≤ x ∧ x ≤ 120
  · have e1 : (decide (1 ≤ x) && decide (x ≤ 120)) = true := by simp [h1.1, h1.2]
    obtain ⟨c, hc⟩ : ∃ c, (decide (0 ≤ y) && decide (y ≤ 5)) = c := ⟨_, rfl⟩
    rw [e1, hc, Bool.true_and] at hb
    subst hb
    have C1 : Hid (∀ w, Calls Tryz.prog 62 #[.int .i64 x, .int .i64 1, .int .i64 120] w fun e w' => e = .returned (.bool true) ∧ w = w') := fun w => within_is x 1 120 true w e1.symm
    have C2 : Hid (∀ w, Calls Tryz.prog 62 #[.int .i64 y, .int .i64 0, .int .i64 5] w fun e w' => e = .returned (.bool c) ∧ w = w') := fun w => within_is y 0 5 c w hc.symm
    clear e1 hc h1
    go_enter Tryz.func137, Tryz.ntmps137
    go_wp2_with fail
    refine ((unhide C1) _).mono ?_
    rintro e w' ⟨rfl, rfl⟩
    go_wp2_with fail
    refine ((unhide C2) _).mono ?_
    rintro e w' ⟨rfl, rfl⟩
    go_wp2
    go_ret
    exact ⟨rfl, unhide HB⟩
  · have e1 : (decide (1 ≤ x) && decide (x ≤ 120)) = false := by
      rw [Bool.and_eq_false_iff, decide_eq_false_iff_not, decide_eq_false_iff_not]; omega
    rw [e1, Bool.false_and] at hb
    subst hb
    have C1 : Hid (∀ w, Calls Tryz.prog 62 #[.int .i64 x, .int .i64 1, .int .i64 120] w fun e w' => e = .returned (.bool false) ∧ w = w') := fun w => within_is x 1 120 false w e1.symm
    clear e1 h1
    go_enter Tryz.func137, Tryz.ntmps137
    go_wp2_with fail
    refine ((unhide C1) _).mono ?_
    rintro e w' ⟨rfl, rfl⟩
    go_wp2
    go_ret
    exact ⟨rfl, unhide HB⟩

set_option maxRecDepth 10000 in
set_option maxHeartbeats 800000 in
theorem sameP_is (x y x' y' : Int) (a : Option Addr) (n c : Nat) (p : Nat) (b : Bool) (w : World) (h1 : w.cell? ⟨p, 0, none⟩ = some (.int .i64 x')) (h2 : w.cell? ⟨p, 1, none⟩ = some (.int .i64 y')) (hp : p < w.heap.size)
    (hb : (decide (x = x') && decide (y = y')) = b) :
    Calls Tryz.prog 158 #[.agg #[.int .i64 x, .int .i64 y, .slice a n c], .pointer (some ⟨p, 0, none⟩)] w fun e w' => e = .returned (.bool b) ∧ Below w.heap.size w w' := by
  subst hb
  have HB := hide (bel_new w (.cells #[.int .i64 x, .int .i64 y, .slice a n c] 140))
  by_cases hx : x = x'
  · subst hx
    by_cases hy : y = y'
    · subst hy
      rw [decide_eq_true rfl, decide_eq_true rfl]
      go_enter Tryz.func158, Tryz.ntmps158
      go_wp2
      go_ret
      exact ⟨rfl, unhide HB⟩
    · rw [decide_eq_true rfl, decide_eq_false hy]
      go_enter Tryz.func158, Tryz.ntmps158
      go_wp2
      go_ret
      exact ⟨rfl, unhide HB⟩
  · rw [decide_eq_false hx, Bool.false_and]
    go_enter Tryz.func158, Tryz.ntmps158
    go_wp2
    go_ret
    exact ⟨rfl, unhide HB⟩

/-- The first place of a row at which an in has this point, or -1. -/
def ptAt (x : InD) : List InD → Nat → Int
  | [], _ => -1
  | y :: r, k => if samePt x y then k else ptAt x r (k + 1)
theorem ptAt_ge (x : InD) : ∀ (l : List InD) (k : Nat), decide (0 ≤ ptAt x l k) = l.any (samePt x)
  | [], _ => rfl
  | y :: r, k => by
    unfold ptAt
    by_cases h : samePt x y = true
    · rw [if_pos h]; simp [h]
    · rw [if_neg h, ptAt_ge x r (k + 1)]; simp [h]
theorem ptAt_drop (x : InD) (l : List InD) (k : Nat) (h : k < l.length) : ptAt x (l.drop k) k = if samePt x l[k] then (k : Int) else ptAt x (l.drop (k + 1)) (k + 1) := by
  rw [List.drop_eq_getElem_cons h]; rfl

set_option maxRecDepth 10000 in
set_option maxHeartbeats 1600000 in
theorem indexIn_some (b off n c : Nat) (l : List InD) (x : InD) (p : Nat) (w : World) (hz : l.length = n) (hn : n ≤ 6) (hc : ∀ i (h : i < l.length), InAt w b (off + i * 3) l[i])
    (h1 : w.cell? ⟨p, 0, none⟩ = some (.int .i64 x.1)) (h2 : w.cell? ⟨p, 1, none⟩ = some (.int .i64 x.2.1)) :
    Calls Tryz.prog 207 #[.slice (some ⟨b, off, none⟩) n c, .func (.func 158) #[] #[.pointer (some ⟨p, 0, none⟩)]] w fun e w' => e = .returned (.int .i64 (ptAt x l 0)) ∧ Below w.heap.size w w' := by
  have HC := hide hc
  have HZ := hide hz
  have H1 := hide h1
  have H2 := hide h2
  clear hc hz h1 h2
  go_enter Tryz.func207, Tryz.ntmps207
  go_wp2
  go_loopw [5, 8] (fun _ i wr => ∃ k : Nat, k ≤ n ∧ i = .int .i64 k ∧ Hid (ptAt x l 0 = ptAt x (l.drop k) k) ∧ Below w.heap.size w wr) (fun _ i _ => n - (intOf i).toNat)
  case atStart => exact ⟨0, Nat.zero_le _, rfl, rfl, Below.refl _ _⟩
  case round =>
    obtain ⟨k, hk, rfl, A, hb⟩ := hrel
    have HB := hide hb
    by_cases hlt : k < n
    · have hlk : k < l.length := by rw [unhide HZ]; exact hlt
      have hin := InAt.kept _ _ _ _ _ hb ((unhide HC) k hlk)
      have S := hide (ptAt_drop x l k hlk)
      obtain ⟨y, hy⟩ : ∃ y, l[k] = y := ⟨_, rfl⟩
      rw [hy] at hin S
      obtain ⟨g1, g2, ka, kn, kc, g3, _, _⟩ := hin
      have C1 : Hid (∀ q, samePt x y = q → Calls Tryz.prog 158 #[.agg #[.int .i64 y.1, .int .i64 y.2.1, .slice ka kn kc], .pointer (some ⟨p, 0, none⟩)] wr fun e w' => e = .returned (.bool q) ∧ Below wr.heap.size wr w') :=
        fun q hq => sameP_is y.1 y.2.1 x.1 x.2.1 ka kn kc p q wr (cell_later hb (unhide H1)) (cell_later hb (unhide H2)) (World.block_lt_of_cell? _ _ (cell_later hb (unhide H1))) hq
      by_cases hs : samePt x y = true
      · have S2 : Hid (ptAt x l 0 = k) := by show _ = _; rw [unhide A, unhide S, if_pos hs]
        have C2 := hide ((unhide C1) true hs)
        clear S A hs C1 hb hy
        go_wp2_with fail
        refine (unhide C2).mono ?_
        rintro e w' ⟨rfl, hb'⟩
        have HB' := hide (bel_on (unhide HB) hb')
        clear hb'
        go_wp2
        go_ret
        exact ⟨by rw [unhide S2]; rfl, unhide HB'⟩
      · have hs' : samePt x y = false := by simpa using hs
        have S2 : Hid (ptAt x l 0 = ptAt x (l.drop (k + 1)) (k + 1)) := by show _ = _; rw [unhide A, unhide S, if_neg hs]
        have C2 := hide ((unhide C1) false hs')
        clear S A hs hs' C1 hb hy
        go_wp2_with fail
        refine (unhide C2).mono ?_
        rintro e w' ⟨rfl, hb'⟩
        have HB' := hide (bel_on (unhide HB) hb')
        clear hb'
        go_wp2
        go_roundw
        case rel => exact ⟨k + 1, by omega, by go_num, S2, unhide HB'⟩
        case measure => simp [intOf]; omega
    · have S2 : Hid (ptAt x l 0 = -1) := by
        show _ = _
        rw [unhide A, List.drop_of_length_le (by rw [unhide HZ]; omega)]; rfl
      clear A hb
      go_wp2
      go_ret
      exact ⟨by rw [unhide S2]; rfl, unhide HB⟩

set_option maxHeartbeats 400000 in
theorem indexIn_none (a : Option Addr) (c : Nat) (v : Value) (w : World) :
    Calls Tryz.prog 207 #[.slice a 0 c, v] w fun e w' => e = .returned (.int .i64 (-1)) ∧ w = w' := by
  go_enter Tryz.func207, Tryz.ntmps207
  go_wp2
  refine wp_loop_rounds 1 ?_
  rw [rounds_succ]
  go_wp2
  go_ret
  exact ⟨rfl, rfl⟩

theorem indexIn_any (a : Option Addr) (n c : Nat) (l : List InD) (x : InD) (p : Nat) (w : World) (hn : n ≤ 6) (h : InsAt w a n l)
    (h1 : w.cell? ⟨p, 0, none⟩ = some (.int .i64 x.1)) (h2 : w.cell? ⟨p, 1, none⟩ = some (.int .i64 x.2.1)) :
    Calls Tryz.prog 207 #[.slice a n c, .func (.func 158) #[] #[.pointer (some ⟨p, 0, none⟩)]] w fun e w' => e = .returned (.int .i64 (ptAt x l 0)) ∧ Below w.heap.size w w' := by
  obtain ⟨hz, hc⟩ := h
  by_cases h0 : n = 0
  · subst h0
    have e : l = [] := List.length_eq_zero_iff.1 hz
    subst e
    exact (indexIn_none a c _ w).mono fun e w' ⟨q1, q2⟩ => ⟨q1, q2 ▸ Below.refl _ _⟩
  · obtain ⟨b, off, rfl, _, hcell⟩ := hc (by omega)
    exact indexIn_some b off n c l x p w hz hn hcell h1 h2

set_option maxHeartbeats 400000 in
theorem containsIn_is (a : Option Addr) (n c : Nat) (l : List InD) (x : InD) (p : Nat) (o : Bool) (w : World) (hn : n ≤ 6) (h : InsAt w a n l)
    (h1 : w.cell? ⟨p, 0, none⟩ = some (.int .i64 x.1)) (h2 : w.cell? ⟨p, 1, none⟩ = some (.int .i64 x.2.1)) (ho : l.any (samePt x) = o) :
    Calls Tryz.prog 157 #[.slice a n c, .func (.func 158) #[] #[.pointer (some ⟨p, 0, none⟩)]] w fun e w' => e = .returned (.bool o) ∧ Below w.heap.size w w' := by
  have E : Hid (decide (0 ≤ ptAt x l 0) = o) := by show _ = _; rw [ptAt_ge, ho]
  have C := indexIn_any a n c l x p w hn h h1 h2
  obtain ⟨z, hz⟩ : ∃ z, ptAt x l 0 = z := ⟨_, rfl⟩
  rw [hz] at C E
  have CC := hide C
  clear C hz h ho h1 h2
  cases o with
  | true =>
    have h0 : 0 ≤ z := of_decide_eq_true (unhide E)
    go_enter Tryz.func157, Tryz.ntmps157
    go_wp2_with fail
    refine (unhide CC).mono ?_
    rintro e w' ⟨rfl, hb⟩
    have HB := hide hb
    clear hb
    go_wp2
    go_ret
    exact ⟨rfl, unhide HB⟩
  | false =>
    have h2 : decide (0 ≤ z) = false := unhide E
    have h1 : z < 0 := by have := of_decide_eq_false h2; omega
    go_enter Tryz.func157, Tryz.ntmps157
    go_wp2_with fail
    refine (unhide CC).mono ?_
    rintro e w' ⟨rfl, hb⟩
    have HB := hide hb
    clear hb
    go_wp2
    go_ret
    exact ⟨rfl, unhide HB⟩

end Go.Proofs.YtepmnpapdknocaaGreatDoor
