/- Contracts of a block's head: headOf, headFits, standsRight. -/
import Derived.Test.YtepmnpapdknocaaGreatDoorBlkMem
namespace Go.Proofs.YtepmnpapdknocaaGreatDoor
open Go.RowKit

set_option maxRecDepth 10000 in
set_option maxHeartbeats 1600000 in
theorem headOf_is (p h k n : Int) (a : Option Addr) (m c : Nat) (w : World) :
    Calls Tryz.prog 51 #[.agg #[.int .i64 p, .int .i64 h, .int .i64 k, .int .i64 n, .slice a m c]] w fun e w' => e = .returned (.agg #[.int .i64 p, .int .i64 h, .int .i64 k, .int .i64 n]) ∧ Below w.heap.size w w' := by
  have HB := hide (bel_on (bel_new w (.cells #[.int .i64 p, .int .i64 h, .int .i64 k, .int .i64 n, .slice a m c] 28)) (bel_new _ (.cells #[.int .i64 p, .int .i64 h, .int .i64 k, .int .i64 n] 102)))
  go_enter Tryz.func51, Tryz.ntmps51
  go_wp2
  (try simp only [Exit.inBlock, Exit.then])
  refine bodyPost_ret (v := .agg #[.int .i64 p, .int .i64 h, .int .i64 k, .int .i64 n]) ?_ rfl ⟨rfl, ?_⟩
  · rw [results_cell1 rfl]
    go_simp
  · exact unhide HB

set_option maxHeartbeats 800000 in
theorem stands_is (h : Int) (ai ao : Option Addr) (ni ci no co : Nat) (I : List InD) (O : List OutD) (i : Nat) (ht : Int) (o : Bool) (w : World) (hI : I.length = ni) (ho : standsD (h, I, O) i ht = o) :
    Calls Tryz.prog 93 #[.agg #[.int .i64 h, .slice ai ni ci, .slice ao no co], .int .i64 i, .int .i64 ht] w fun e w' => e = .returned (.bool o) ∧ Below w.heap.size w w' := by
  have HB := hide (bel_new w (.cells #[.int .i64 h, .slice ai ni ci, .slice ao no co] 74))
  unfold standsD at ho
  simp only at ho
  rw [hI] at ho
  clear hI
  by_cases h1 : i = 0
  · subst h1
    rw [if_neg (by decide)] at ho
    by_cases h2 : ni = 0
    · subst h2
      by_cases h3 : h = ht
      · subst h3
        obtain rfl : true = o := by rw [← ho]; simp
        clear ho
        go_enter Tryz.func93, Tryz.ntmps93
        go_wp2
        go_ret
        exact ⟨rfl, unhide HB⟩
      · obtain rfl : false = o := by rw [← ho]; simp [h3]
        have g : (h == ht) = false := by simp [h3]
        clear ho h3
        go_enter Tryz.func93, Tryz.ntmps93
        go_wp2
        go_ret
        exact ⟨by rw [← g]; rfl, unhide HB⟩
    · obtain rfl : false = o := by rw [← ho]; simp [h2]
      have g : ((ni : Int) == 0) = false := by simp [h2]
      clear ho
      go_enter Tryz.func93, Tryz.ntmps93
      go_wp2
      go_ret
      exact ⟨rfl, unhide HB⟩
  · have hi : 0 < (i : Int) := by omega
    rw [if_pos hi] at ho
    by_cases h2 : ni = 0
    · subst h2
      obtain rfl : false = o := by rw [← ho]; simp
      clear ho
      go_enter Tryz.func93, Tryz.ntmps93
      go_wp2
      go_ret
      exact ⟨rfl, unhide HB⟩
    · obtain rfl : true = o := by rw [← ho]; simp [h2]
      have g : ((ni : Int) == 0) = false := by simp [h2]
      clear ho
      go_enter Tryz.func93, Tryz.ntmps93
      go_wp2
      go_ret
      exact ⟨rfl, unhide HB⟩

theorem index_four (a b c d : Value) (w : World) :
    (Instr.index 102 (.agg #[a, b, c, d]) (.int .i64 0)).run Tryz.prog w = .ok a w ∧ (Instr.index 102 (.agg #[a, b, c, d]) (.int .i64 1)).run Tryz.prog w = .ok b w ∧
    (Instr.index 102 (.agg #[a, b, c, d]) (.int .i64 2)).run Tryz.prog w = .ok c w ∧ (Instr.index 102 (.agg #[a, b, c, d]) (.int .i64 3)).run Tryz.prog w = .ok d w := by
  refine ⟨?_, ?_, ?_, ?_⟩ <;> kernel_rfl
theorem within_bel (n lo hi : Int) (b : Bool) (w : World) (hb : (decide (lo ≤ n) && decide (n ≤ hi)) = b) :
    Calls Tryz.prog 62 #[.int .i64 n, .int .i64 lo, .int .i64 hi] w fun e w' => e = .returned (.bool b) ∧ Below w.heap.size w w' :=
  (within_is n lo hi b w hb.symm).mono fun _ _ ⟨h1, h2⟩ => ⟨h1, h2 ▸ Below.refl _ _⟩
theorem four_heap (w : World) (a b c d : Value) (t : TypeId) : (w.alloc (.cells #[a, b, c, d] t)).heap[w.heap.size]? = some (.cells [a, b, c, d].toArray t (0, 0)) := heap_alloc_new w _

set_option maxRecDepth 100000 in
set_option maxHeartbeats 3200000 in
theorem headFits_is (p h k n : Int) (a : Option Addr) (m c : Nat) (o : Bool) (w : World) (ho : headOk p h k n = o) :
    Calls Tryz.prog 91 #[.agg #[.int .i64 p, .int .i64 h, .int .i64 k, .int .i64 n, .slice a m c]] w fun e w' => e = .returned (.bool o) ∧ Below w.heap.size w w' := by
  obtain ⟨X, hX⟩ : ∃ X, X = ((w.alloc (.cells #[.int .i64 p, .int .i64 h, .int .i64 k, .int .i64 n, .slice a m c] 28)).alloc (.cells #[.int .i64 0, .int .i64 1, .int .i64 1, .int .i64 0] 102)).alloc (.cells #[.int .i64 120, .int .i64 1000, .int .i64 1000, .int .i64 1000000000] 102) := ⟨_, rfl⟩
  have hbX : Below w.heap.size w X := by rw [hX]; exact bel_on (bel_on (bel_new _ _) (bel_new _ _)) (bel_new _ _)
  have hL : X.heap[w.heap.size + 1]? = some (.cells [.int .i64 0, .int .i64 1, .int .i64 1, .int .i64 0].toArray 102 (0, 0)) := by
    rw [hX, Below.heap_alloc _ _ _ (by simp)]
    have := four_heap (w.alloc (.cells #[.int .i64 p, .int .i64 h, .int .i64 k, .int .i64 n, .slice a m c] 28)) (.int .i64 0) (.int .i64 1) (.int .i64 1) (.int .i64 0) 102
    rw [show (w.alloc (.cells #[.int .i64 p, .int .i64 h, .int .i64 k, .int .i64 n, .slice a m c] 28)).heap.size = w.heap.size + 1 by simp] at this
    exact this
  have hH : X.heap[w.heap.size + 2]? = some (.cells [.int .i64 120, .int .i64 1000, .int .i64 1000, .int .i64 1000000000].toArray 102 (0, 0)) := by
    rw [hX]
    have := four_heap ((w.alloc (.cells #[.int .i64 p, .int .i64 h, .int .i64 k, .int .i64 n, .slice a m c] 28)).alloc (.cells #[.int .i64 0, .int .i64 1, .int .i64 1, .int .i64 0] 102)) (.int .i64 120) (.int .i64 1000) (.int .i64 1000) (.int .i64 1000000000) 102
    rw [show ((w.alloc (.cells #[.int .i64 p, .int .i64 h, .int .i64 k, .int .i64 n, .slice a m c] 28)).alloc (.cells #[.int .i64 0, .int .i64 1, .int .i64 1, .int .i64 0] 102)).heap.size = w.heap.size + 2 by simp] at this
    exact this
  have C := hide (headOf_is p h k n a m c X)
  have HBX := hide hbX
  have HL := hide hL
  have HH := hide hH
  have hi0 := fun w => (index_four (.int .i64 p) (.int .i64 h) (.int .i64 k) (.int .i64 n) w).1
  have hi1 := fun w => (index_four (.int .i64 p) (.int .i64 h) (.int .i64 k) (.int .i64 n) w).2.1
  have hi2 := fun w => (index_four (.int .i64 p) (.int .i64 h) (.int .i64 k) (.int .i64 n) w).2.2.1
  have hi3 := fun w => (index_four (.int .i64 p) (.int .i64 h) (.int .i64 k) (.int .i64 n) w).2.2.2
  unfold headOk at ho
  clear hbX hL hH
  go_enter Tryz.func91, Tryz.ntmps91
  go_wp2_with fail
  rw [← hX]
  clear hX
  go_wp2_with fail
  refine (unhide C).mono ?_
  rintro e w1 ⟨rfl, hb1⟩
  have HB1 := hide (bel_on (unhide HBX) hb1)
  have hl1 := (hb1.block _ (lt_of_block (unhide HL))).trans (unhide HL)
  have hh1 := (hb1.block _ (lt_of_block (unhide HH))).trans (unhide HH)
  have lo0 := cell_of hl1 0 _ rfl
  have up0 := cell_of hh1 0 _ rfl
  have lo1 := cell_of hl1 1 _ rfl
  have up1 := cell_of hh1 1 _ rfl
  have lo2 := cell_of hl1 2 _ rfl
  have up2 := cell_of hh1 2 _ rfl
  have lo3 := cell_of hl1 3 _ rfl
  have up3 := cell_of hh1 3 _ rfl
  have ll0 := lt_of_block hl1
  have lh0 := lt_of_block hh1
  clear hb1 hl1 hh1 C HL HH HBX
  go_wp2
  have bq0 : Below w1.heap.size w1 w1 := Below.refl _ _
  refine wp_loop_rounds 5 ?_
  cases q0 : (decide ((0 : Int) ≤ p) && decide (p ≤ 120)) with
  | false =>
    rw [q0] at ho
    have CC := hide (fun W => within_bel p 0 120 false W q0)
    clear q0
    obtain rfl : false = o := by rw [← ho]; rfl
    clear ho
    rw [rounds_succ]
    go_wp2_with fail
    go_region_held3 (fun W' => Below w1.heap.size w1 W' ∧ W'.cell? ⟨w.heap.size + 1, 0, none⟩ = some (.int .i64 0) ∧ W'.cell? ⟨w.heap.size + 2, 0, none⟩ = some (.int .i64 120) ∧ W'.cell? ⟨w.heap.size + 1, 1, none⟩ = some (.int .i64 1) ∧ W'.cell? ⟨w.heap.size + 2, 1, none⟩ = some (.int .i64 1000) ∧ W'.cell? ⟨w.heap.size + 1, 2, none⟩ = some (.int .i64 1) ∧ W'.cell? ⟨w.heap.size + 2, 2, none⟩ = some (.int .i64 1000) ∧ W'.cell? ⟨w.heap.size + 1, 3, none⟩ = some (.int .i64 0) ∧ W'.cell? ⟨w.heap.size + 2, 3, none⟩ = some (.int .i64 1000000000))
      (first
      | exact ⟨bel_on bq0 (bel_draw1 _), lo0, up0, lo1, up1, lo2, up2, lo3, up3⟩
      | (go_split_ands
         refine ⟨bel_on (by assumption) hbc, cell_later hbc (by assumption), cell_later hbc (by assumption), cell_later hbc (by assumption), cell_later hbc (by assumption), cell_later hbc (by assumption), cell_later hbc (by assumption), cell_later hbc (by assumption), cell_later hbc (by assumption)⟩))
      (first | (go_at_call 62; refine ((unhide CC) _).mono ?_; rintro e w' ⟨rfl, hbc⟩))
    rename_i hq
    have HBF := hide (bel_on (unhide HB1) hq.1)
    clear hq
    go_wp2
    go_ret
    exact ⟨rfl, unhide HBF⟩
  | true =>
    rw [q0] at ho
    have CC := hide (fun W => within_bel p 0 120 true W q0)
    clear q0
    rw [rounds_succ]
    go_wp2_with fail
    go_region_held3 (fun W' => Below w1.heap.size w1 W' ∧ W'.cell? ⟨w.heap.size + 1, 0, none⟩ = some (.int .i64 0) ∧ W'.cell? ⟨w.heap.size + 2, 0, none⟩ = some (.int .i64 120) ∧ W'.cell? ⟨w.heap.size + 1, 1, none⟩ = some (.int .i64 1) ∧ W'.cell? ⟨w.heap.size + 2, 1, none⟩ = some (.int .i64 1000) ∧ W'.cell? ⟨w.heap.size + 1, 2, none⟩ = some (.int .i64 1) ∧ W'.cell? ⟨w.heap.size + 2, 2, none⟩ = some (.int .i64 1000) ∧ W'.cell? ⟨w.heap.size + 1, 3, none⟩ = some (.int .i64 0) ∧ W'.cell? ⟨w.heap.size + 2, 3, none⟩ = some (.int .i64 1000000000))
      (first
      | exact ⟨bel_on bq0 (bel_draw1 _), lo0, up0, lo1, up1, lo2, up2, lo3, up3⟩
      | (go_split_ands
         refine ⟨bel_on (by assumption) hbc, cell_later hbc (by assumption), cell_later hbc (by assumption), cell_later hbc (by assumption), cell_later hbc (by assumption), cell_later hbc (by assumption), cell_later hbc (by assumption), cell_later hbc (by assumption), cell_later hbc (by assumption)⟩))
      (first | (go_at_call 62; refine ((unhide CC) _).mono ?_; rintro e w' ⟨rfl, hbc⟩))
    rename_i hq
    have ll := Nat.lt_of_lt_of_le ll0 hq.1.size
    have lh := Nat.lt_of_lt_of_le lh0 hq.1.size
    obtain ⟨bq1, lo0, up0, lo1, up1, lo2, up2, lo3, up3⟩ := hq
    rw [Bool.true_and] at ho
    go_wp2
    cases q1 : (decide ((1 : Int) ≤ h) && decide (h ≤ 1000)) with
    | false =>
      rw [q1] at ho
      have CC := hide (fun W => within_bel h 1 1000 false W q1)
      clear q1
      obtain rfl : false = o := by rw [← ho]; rfl
      clear ho
      rw [rounds_succ]
      go_wp2_with fail
      go_region_held3 (fun W' => Below w1.heap.size w1 W' ∧ W'.cell? ⟨w.heap.size + 1, 0, none⟩ = some (.int .i64 0) ∧ W'.cell? ⟨w.heap.size + 2, 0, none⟩ = some (.int .i64 120) ∧ W'.cell? ⟨w.heap.size + 1, 1, none⟩ = some (.int .i64 1) ∧ W'.cell? ⟨w.heap.size + 2, 1, none⟩ = some (.int .i64 1000) ∧ W'.cell? ⟨w.heap.size + 1, 2, none⟩ = some (.int .i64 1) ∧ W'.cell? ⟨w.heap.size + 2, 2, none⟩ = some (.int .i64 1000) ∧ W'.cell? ⟨w.heap.size + 1, 3, none⟩ = some (.int .i64 0) ∧ W'.cell? ⟨w.heap.size + 2, 3, none⟩ = some (.int .i64 1000000000))
        (first
        | exact ⟨bel_on bq1 (bel_draw1 _), lo0, up0, lo1, up1, lo2, up2, lo3, up3⟩
        | (go_split_ands
           refine ⟨bel_on (by assumption) hbc, cell_later hbc (by assumption), cell_later hbc (by assumption), cell_later hbc (by assumption), cell_later hbc (by assumption), cell_later hbc (by assumption), cell_later hbc (by assumption), cell_later hbc (by assumption), cell_later hbc (by assumption)⟩))
        (first | (go_at_call 62; refine ((unhide CC) _).mono ?_; rintro e w' ⟨rfl, hbc⟩))
      rename_i hq
      have HBF := hide (bel_on (unhide HB1) hq.1)
      clear hq
      go_wp2
      go_ret
      exact ⟨rfl, unhide HBF⟩
    | true =>
      rw [q1] at ho
      have CC := hide (fun W => within_bel h 1 1000 true W q1)
      clear q1
      rw [rounds_succ]
      go_wp2_with fail
      go_region_held3 (fun W' => Below w1.heap.size w1 W' ∧ W'.cell? ⟨w.heap.size + 1, 0, none⟩ = some (.int .i64 0) ∧ W'.cell? ⟨w.heap.size + 2, 0, none⟩ = some (.int .i64 120) ∧ W'.cell? ⟨w.heap.size + 1, 1, none⟩ = some (.int .i64 1) ∧ W'.cell? ⟨w.heap.size + 2, 1, none⟩ = some (.int .i64 1000) ∧ W'.cell? ⟨w.heap.size + 1, 2, none⟩ = some (.int .i64 1) ∧ W'.cell? ⟨w.heap.size + 2, 2, none⟩ = some (.int .i64 1000) ∧ W'.cell? ⟨w.heap.size + 1, 3, none⟩ = some (.int .i64 0) ∧ W'.cell? ⟨w.heap.size + 2, 3, none⟩ = some (.int .i64 1000000000))
        (first
        | exact ⟨bel_on bq1 (bel_draw1 _), lo0, up0, lo1, up1, lo2, up2, lo3, up3⟩
        | (go_split_ands
           refine ⟨bel_on (by assumption) hbc, cell_later hbc (by assumption), cell_later hbc (by assumption), cell_later hbc (by assumption), cell_later hbc (by assumption), cell_later hbc (by assumption), cell_later hbc (by assumption), cell_later hbc (by assumption), cell_later hbc (by assumption)⟩))
        (first | (go_at_call 62; refine ((unhide CC) _).mono ?_; rintro e w' ⟨rfl, hbc⟩))
      rename_i hq
      have ll := Nat.lt_of_lt_of_le ll0 hq.1.size
      have lh := Nat.lt_of_lt_of_le lh0 hq.1.size
      obtain ⟨bq2, lo0, up0, lo1, up1, lo2, up2, lo3, up3⟩ := hq
      rw [Bool.true_and] at ho
      go_wp2
      cases q2 : (decide ((1 : Int) ≤ k) && decide (k ≤ 1000)) with
      | false =>
        rw [q2] at ho
        have CC := hide (fun W => within_bel k 1 1000 false W q2)
        clear q2
        obtain rfl : false = o := by rw [← ho]; rfl
        clear ho
        rw [rounds_succ]
        go_wp2_with fail
        go_region_held3 (fun W' => Below w1.heap.size w1 W' ∧ W'.cell? ⟨w.heap.size + 1, 0, none⟩ = some (.int .i64 0) ∧ W'.cell? ⟨w.heap.size + 2, 0, none⟩ = some (.int .i64 120) ∧ W'.cell? ⟨w.heap.size + 1, 1, none⟩ = some (.int .i64 1) ∧ W'.cell? ⟨w.heap.size + 2, 1, none⟩ = some (.int .i64 1000) ∧ W'.cell? ⟨w.heap.size + 1, 2, none⟩ = some (.int .i64 1) ∧ W'.cell? ⟨w.heap.size + 2, 2, none⟩ = some (.int .i64 1000) ∧ W'.cell? ⟨w.heap.size + 1, 3, none⟩ = some (.int .i64 0) ∧ W'.cell? ⟨w.heap.size + 2, 3, none⟩ = some (.int .i64 1000000000))
          (first
          | exact ⟨bel_on bq2 (bel_draw1 _), lo0, up0, lo1, up1, lo2, up2, lo3, up3⟩
          | (go_split_ands
             refine ⟨bel_on (by assumption) hbc, cell_later hbc (by assumption), cell_later hbc (by assumption), cell_later hbc (by assumption), cell_later hbc (by assumption), cell_later hbc (by assumption), cell_later hbc (by assumption), cell_later hbc (by assumption), cell_later hbc (by assumption)⟩))
          (first | (go_at_call 62; refine ((unhide CC) _).mono ?_; rintro e w' ⟨rfl, hbc⟩))
        rename_i hq
        have HBF := hide (bel_on (unhide HB1) hq.1)
        clear hq
        go_wp2
        go_ret
        exact ⟨rfl, unhide HBF⟩
      | true =>
        rw [q2] at ho
        have CC := hide (fun W => within_bel k 1 1000 true W q2)
        clear q2
        rw [rounds_succ]
        go_wp2_with fail
        go_region_held3 (fun W' => Below w1.heap.size w1 W' ∧ W'.cell? ⟨w.heap.size + 1, 0, none⟩ = some (.int .i64 0) ∧ W'.cell? ⟨w.heap.size + 2, 0, none⟩ = some (.int .i64 120) ∧ W'.cell? ⟨w.heap.size + 1, 1, none⟩ = some (.int .i64 1) ∧ W'.cell? ⟨w.heap.size + 2, 1, none⟩ = some (.int .i64 1000) ∧ W'.cell? ⟨w.heap.size + 1, 2, none⟩ = some (.int .i64 1) ∧ W'.cell? ⟨w.heap.size + 2, 2, none⟩ = some (.int .i64 1000) ∧ W'.cell? ⟨w.heap.size + 1, 3, none⟩ = some (.int .i64 0) ∧ W'.cell? ⟨w.heap.size + 2, 3, none⟩ = some (.int .i64 1000000000))
          (first
          | exact ⟨bel_on bq2 (bel_draw1 _), lo0, up0, lo1, up1, lo2, up2, lo3, up3⟩
          | (go_split_ands
             refine ⟨bel_on (by assumption) hbc, cell_later hbc (by assumption), cell_later hbc (by assumption), cell_later hbc (by assumption), cell_later hbc (by assumption), cell_later hbc (by assumption), cell_later hbc (by assumption), cell_later hbc (by assumption), cell_later hbc (by assumption)⟩))
          (first | (go_at_call 62; refine ((unhide CC) _).mono ?_; rintro e w' ⟨rfl, hbc⟩))
        rename_i hq
        have ll := Nat.lt_of_lt_of_le ll0 hq.1.size
        have lh := Nat.lt_of_lt_of_le lh0 hq.1.size
        obtain ⟨bq3, lo0, up0, lo1, up1, lo2, up2, lo3, up3⟩ := hq
        rw [Bool.true_and] at ho
        go_wp2
        cases q3 : (decide ((0 : Int) ≤ n) && decide (n ≤ 1000000000)) with
        | false =>
          rw [q3] at ho
          have CC := hide (fun W => within_bel n 0 1000000000 false W q3)
          clear q3
          obtain rfl : false = o := by rw [← ho]
          clear ho
          rw [rounds_succ]
          go_wp2_with fail
          go_region_held3 (fun W' => Below w1.heap.size w1 W' ∧ W'.cell? ⟨w.heap.size + 1, 0, none⟩ = some (.int .i64 0) ∧ W'.cell? ⟨w.heap.size + 2, 0, none⟩ = some (.int .i64 120) ∧ W'.cell? ⟨w.heap.size + 1, 1, none⟩ = some (.int .i64 1) ∧ W'.cell? ⟨w.heap.size + 2, 1, none⟩ = some (.int .i64 1000) ∧ W'.cell? ⟨w.heap.size + 1, 2, none⟩ = some (.int .i64 1) ∧ W'.cell? ⟨w.heap.size + 2, 2, none⟩ = some (.int .i64 1000) ∧ W'.cell? ⟨w.heap.size + 1, 3, none⟩ = some (.int .i64 0) ∧ W'.cell? ⟨w.heap.size + 2, 3, none⟩ = some (.int .i64 1000000000))
            (first
            | exact ⟨bel_on bq3 (bel_draw1 _), lo0, up0, lo1, up1, lo2, up2, lo3, up3⟩
            | (go_split_ands
               refine ⟨bel_on (by assumption) hbc, cell_later hbc (by assumption), cell_later hbc (by assumption), cell_later hbc (by assumption), cell_later hbc (by assumption), cell_later hbc (by assumption), cell_later hbc (by assumption), cell_later hbc (by assumption), cell_later hbc (by assumption)⟩))
            (first | (go_at_call 62; refine ((unhide CC) _).mono ?_; rintro e w' ⟨rfl, hbc⟩))
          rename_i hq
          have HBF := hide (bel_on (unhide HB1) hq.1)
          clear hq
          go_wp2
          go_ret
          exact ⟨rfl, unhide HBF⟩
        | true =>
          rw [q3] at ho
          have CC := hide (fun W => within_bel n 0 1000000000 true W q3)
          clear q3
          obtain rfl : true = o := by rw [← ho]
          clear ho
          rw [rounds_succ]
          go_wp2_with fail
          go_region_held3 (fun W' => Below w1.heap.size w1 W' ∧ W'.cell? ⟨w.heap.size + 1, 0, none⟩ = some (.int .i64 0) ∧ W'.cell? ⟨w.heap.size + 2, 0, none⟩ = some (.int .i64 120) ∧ W'.cell? ⟨w.heap.size + 1, 1, none⟩ = some (.int .i64 1) ∧ W'.cell? ⟨w.heap.size + 2, 1, none⟩ = some (.int .i64 1000) ∧ W'.cell? ⟨w.heap.size + 1, 2, none⟩ = some (.int .i64 1) ∧ W'.cell? ⟨w.heap.size + 2, 2, none⟩ = some (.int .i64 1000) ∧ W'.cell? ⟨w.heap.size + 1, 3, none⟩ = some (.int .i64 0) ∧ W'.cell? ⟨w.heap.size + 2, 3, none⟩ = some (.int .i64 1000000000))
            (first
            | exact ⟨bel_on bq3 (bel_draw1 _), lo0, up0, lo1, up1, lo2, up2, lo3, up3⟩
            | (go_split_ands
               refine ⟨bel_on (by assumption) hbc, cell_later hbc (by assumption), cell_later hbc (by assumption), cell_later hbc (by assumption), cell_later hbc (by assumption), cell_later hbc (by assumption), cell_later hbc (by assumption), cell_later hbc (by assumption), cell_later hbc (by assumption)⟩))
            (first | (go_at_call 62; refine ((unhide CC) _).mono ?_; rintro e w' ⟨rfl, hbc⟩))
          rename_i hq
          have ll := Nat.lt_of_lt_of_le ll0 hq.1.size
          have lh := Nat.lt_of_lt_of_le lh0 hq.1.size
          obtain ⟨bq4, lo0, up0, lo1, up1, lo2, up2, lo3, up3⟩ := hq
          go_wp2
          rw [rounds_succ]
          go_wp2
          go_ret
          exact ⟨rfl, bel_on (unhide HB1) bq4⟩

end Go.Proofs.YtepmnpapdknocaaGreatDoor
