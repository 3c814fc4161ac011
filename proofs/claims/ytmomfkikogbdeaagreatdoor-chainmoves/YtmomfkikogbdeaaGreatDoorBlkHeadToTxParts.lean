/- Contracts of a block's head: headOf, headFits, standsRight. -/
import Derived.Test.YtmomfkikogbdeaaGreatDoorTxCheckBToBlkMem
import Derived.Test.YtmomfkikogbdeaaGreatDoorCoinSpendBToCoinCopy
import Derived.Test.YtmomfkikogbdeaaGreatDoorLockMathToLockRow
namespace Go.Proofs.YtmomfkikogbdeaaGreatDoor
open Go.RowKit

set_option maxRecDepth 10000 in
set_option maxHeartbeats 1600000 in
theorem headOf_is (p h k n : Int) (a : Option Addr) (m c : Nat) (w : World) :
    Calls Tryz.prog 104 #[.agg #[.int .i64 p, .int .i64 h, .int .i64 k, .int .i64 n, .slice a m c]] w fun e w' => e = .returned (.agg #[.int .i64 p, .int .i64 h, .int .i64 k, .int .i64 n]) ∧ Below w.heap.size w w' := by
  have HB := hide (bel_on (bel_new w (.cells #[.int .i64 p, .int .i64 h, .int .i64 k, .int .i64 n, .slice a m c] 39)) (bel_new _ (.cells #[.int .i64 p, .int .i64 h, .int .i64 k, .int .i64 n] 187)))
  go_enter Tryz.func104, Tryz.ntmps104
  go_wp2
  (try simp only [Exit.inBlock, Exit.then])
  refine bodyPost_ret (v := .agg #[.int .i64 p, .int .i64 h, .int .i64 k, .int .i64 n]) ?_ rfl ⟨rfl, ?_⟩
  · rw [results_cell1 rfl]
    go_simp
  · exact unhide HB

set_option maxHeartbeats 800000 in
theorem stands_is (h : Int) (ai ao : Option Addr) (ni ci no co : Nat) (I : List InD) (O : List OutD) (i : Nat) (ht : Int) (o : Bool) (w : World) (hI : I.length = ni) (ho : standsD (h, I, O) i ht = o) :
    Calls Tryz.prog 153 #[.agg #[.int .i64 h, .slice ai ni ci, .slice ao no co], .int .i64 i, .int .i64 ht] w fun e w' => e = .returned (.bool o) ∧ Below w.heap.size w w' := by
  have HB := hide (bel_new w (.cells #[.int .i64 h, .slice ai ni ci, .slice ao no co] 59))
  unfold standsD at ho
  simp only at ho
  rw [hI] at ho
  clear hI
  by_cases h1 : i = 0
  · subst h1
    rw [if_neg (by decide)] at ho
    by_cases h2 : ni = 0
    · subst h2
      by_cases h3 : h = ht
      · subst h3
        obtain rfl : true = o := by rw [← ho]; simp
        clear ho
        go_enter Tryz.func153, Tryz.ntmps153
        go_wp2
        go_ret
        exact ⟨rfl, unhide HB⟩
      · obtain rfl : false = o := by rw [← ho]; simp [h3]
        have g : (h == ht) = false := by simp [h3]
        clear ho h3
        go_enter Tryz.func153, Tryz.ntmps153
        go_wp2
        go_ret
        exact ⟨by rw [← g]; rfl, unhide HB⟩
    · obtain rfl : false = o := by rw [← ho]; simp [h2]
      have g : ((ni : Int) == 0) = false := by simp [h2]
      clear ho
      go_enter Tryz.func153, Tryz.ntmps153
      go_wp2
      go_ret
      exact ⟨rfl, unhide HB⟩
  · have hi : 0 < (i : Int) := by omega
    rw [if_pos hi] at ho
    by_cases h2 : ni = 0
    · subst h2
      obtain rfl : false = o := by rw [← ho]; simp
      clear ho
      go_enter Tryz.func153, Tryz.ntmps153
      go_wp2
      go_ret
      exact ⟨rfl, unhide HB⟩
    · obtain rfl : true = o := by rw [← ho]; simp [h2]
      have g : ((ni : Int) == 0) = false := by simp [h2]
      clear ho
      go_enter Tryz.func153, Tryz.ntmps153
      go_wp2
      go_ret
      exact ⟨rfl, unhide HB⟩

theorem index_four (a b c d : Value) (w : World) :
    (Instr.index 187 (.agg #[a, b, c, d]) (.int .i64 0)).run Tryz.prog w = .ok a w ∧ (Instr.index 187 (.agg #[a, b, c, d]) (.int .i64 1)).run Tryz.prog w = .ok b w ∧
    (Instr.index 187 (.agg #[a, b, c, d]) (.int .i64 2)).run Tryz.prog w = .ok c w ∧ (Instr.index 187 (.agg #[a, b, c, d]) (.int .i64 3)).run Tryz.prog w = .ok d w := by
  refine ⟨?_, ?_, ?_, ?_⟩ <;> kernel_rfl
theorem within_bel (n lo hi : Int) (b : Bool) (w : World) (hb : (decide (lo ≤ n) && decide (n ≤ hi)) = b) :
    Calls Tryz.prog 103 #[.int .i64 n, .int .i64 lo, .int .i64 hi] w fun e w' => e = .returned (.bool b) ∧ Below w.heap.size w w' :=
  (within_is n lo hi b w hb.symm).mono fun _ _ ⟨h1, h2⟩ => ⟨h1, h2 ▸ Below.refl _ _⟩
theorem four_heap (w : World) (a b c d : Value) (t : TypeId) : (w.alloc (.cells #[a, b, c, d] t)).heap[w.heap.size]? = some (.cells [a, b, c, d].toArray t (0, 0)) := heap_alloc_new w _

set_option maxRecDepth 100000 in
set_option maxHeartbeats 3200000 in
theorem headFits_is (p h k n : Int) (a : Option Addr) (m c : Nat) (o : Bool) (w : World) (ho : headOk p h k n = o) :
    Calls Tryz.prog 151 #[.agg #[.int .i64 p, .int .i64 h, .int .i64 k, .int .i64 n, .slice a m c]] w fun e w' => e = .returned (.bool o) ∧ Below w.heap.size w w' := by
  obtain ⟨X, hX⟩ : ∃ X, X = ((w.alloc (.cells #[.int .i64 p, .int .i64 h, .int .i64 k, .int .i64 n, .slice a m c] 39)).alloc (.cells #[.int .i64 0, .int .i64 1, .int .i64 1, .int .i64 0] 187)).alloc (.cells #[.int .i64 120, .int .i64 1000, .int .i64 1000, .int .i64 1000000000] 187) := ⟨_, rfl⟩
  have hbX : Below w.heap.size w X := by rw [hX]; exact bel_on (bel_on (bel_new _ _) (bel_new _ _)) (bel_new _ _)
  have hL : X.heap[w.heap.size + 1]? = some (.cells [.int .i64 0, .int .i64 1, .int .i64 1, .int .i64 0].toArray 187 (0, 0)) := by
    rw [hX, Below.heap_alloc _ _ _ (by simp)]
    have := four_heap (w.alloc (.cells #[.int .i64 p, .int .i64 h, .int .i64 k, .int .i64 n, .slice a m c] 39)) (.int .i64 0) (.int .i64 1) (.int .i64 1) (.int .i64 0) 187
    rw [show (w.alloc (.cells #[.int .i64 p, .int .i64 h, .int .i64 k, .int .i64 n, .slice a m c] 39)).heap.size = w.heap.size + 1 by simp] at this
    exact this
  have hH : X.heap[w.heap.size + 2]? = some (.cells [.int .i64 120, .int .i64 1000, .int .i64 1000, .int .i64 1000000000].toArray 187 (0, 0)) := by
    rw [hX]
    have := four_heap ((w.alloc (.cells #[.int .i64 p, .int .i64 h, .int .i64 k, .int .i64 n, .slice a m c] 39)).alloc (.cells #[.int .i64 0, .int .i64 1, .int .i64 1, .int .i64 0] 187)) (.int .i64 120) (.int .i64 1000) (.int .i64 1000) (.int .i64 1000000000) 187
    rw [show ((w.alloc (.cells #[.int .i64 p, .int .i64 h, .int .i64 k, .int .i64 n, .slice a m c] 39)).alloc (.cells #[.int .i64 0, .int .i64 1, .int .i64 1, .int .i64 0] 187)).heap.size = w.heap.size + 2 by simp] at this
    exact this
  have C := hide (headOf_is p h k n a m c X)
  have HBX := hide hbX
  have HL := hide hL
  have HH := hide hH
  have hi0 := fun w => (index_four (.int .i64 p) (.int .i64 h) (.int .i64 k) (.int .i64 n) w).1
  have hi1 := fun w => (index_four (.int .i64 p) (.int .i64 h) (.int .i64 k) (.int .i64 n) w).2.1
  have hi2 := fun w => (index_four (.int .i64 p) (.int .i64 h) (.int .i64 k) (.int .i64 n) w).2.2.1
  have hi3 := fun w => (index_four (.int .i64 p) (.int .i64 h) (.int .i64 k) (.int .i64 n) w).2.2.2
  unfold headOk at ho
  clear hbX hL hH
  go_enter Tryz.func151, Tryz.ntmps151
  go_wp2_with fail
  rw [← hX]
  clear hX
  go_wp2_with fail
  refine (unhide C).mono ?_
  rintro e w1 ⟨rfl, hb1⟩
  have HB1 := hide (bel_on (unhide HBX) hb1)
  have hl1 := (hb1.block _ (lt_of_block (unhide HL))).trans (unhide HL)
  have hh1 := (hb1.block _ (lt_of_block (unhide HH))).trans (unhide HH)
  have lo0 := cell_of hl1 0 _ rfl
  have up0 := cell_of hh1 0 _ rfl
  have lo1 := cell_of hl1 1 _ rfl
  have up1 := cell_of hh1 1 _ rfl
  have lo2 := cell_of hl1 2 _ rfl
  have up2 := cell_of hh1 2 _ rfl
  have lo3 := cell_of hl1 3 _ rfl
  have up3 := cell_of hh1 3 _ rfl
  have ll0 := lt_of_block hl1
  have lh0 := lt_of_block hh1
  clear hb1 hl1 hh1 C HL HH HBX
  go_wp2
  have bq0 : Below w1.heap.size w1 w1 := Below.refl _ _
  refine wp_loop_rounds 5 ?_
  cases q0 : (decide ((0 : Int) ≤ p) && decide (p ≤ 120)) with
  | false =>
    rw [q0] at ho
    have CC := hide (fun W => within_bel p 0 120 false W q0)
    clear q0
    obtain rfl : false = o := by rw [← ho]; rfl
    clear ho
    rw [rounds_succ]
    go_wp2_with fail
    go_region_held3 (fun W' => Below w1.heap.size w1 W' ∧ W'.cell? ⟨w.heap.size + 1, 0, none⟩ = some (.int .i64 0) ∧ W'.cell? ⟨w.heap.size + 2, 0, none⟩ = some (.int .i64 120) ∧ W'.cell? ⟨w.heap.size + 1, 1, none⟩ = some (.int .i64 1) ∧ W'.cell? ⟨w.heap.size + 2, 1, none⟩ = some (.int .i64 1000) ∧ W'.cell? ⟨w.heap.size + 1, 2, none⟩ = some (.int .i64 1) ∧ W'.cell? ⟨w.heap.size + 2, 2, none⟩ = some (.int .i64 1000) ∧ W'.cell? ⟨w.heap.size + 1, 3, none⟩ = some (.int .i64 0) ∧ W'.cell? ⟨w.heap.size + 2, 3, none⟩ = some (.int .i64 1000000000))
      (first
      | exact ⟨bel_on bq0 (bel_draw1 _), lo0, up0, lo1, up1, lo2, up2, lo3, up3⟩
      | (go_split_ands
         refine ⟨bel_on (by assumption) hbc, cell_later hbc (by assumption), cell_later hbc (by assumption), cell_later hbc (by assumption), cell_later hbc (by assumption), cell_later hbc (by assumption), cell_later hbc (by assumption), cell_later hbc (by assumption), cell_later hbc (by assumption)⟩))
      (first | (go_at_call 103; refine ((unhide CC) _).mono ?_; rintro e w' ⟨rfl, hbc⟩))
    rename_i hq
    have HBF := hide (bel_on (unhide HB1) hq.1)
    clear hq
    go_wp2
    go_ret
    exact ⟨rfl, unhide HBF⟩
  | true =>
    rw [q0] at ho
    have CC := hide (fun W => within_bel p 0 120 true W q0)
    clear q0
    rw [rounds_succ]
    go_wp2_with fail
    go_region_held3 (fun W' => Below w1.heap.size w1 W' ∧ W'.cell? ⟨w.heap.size + 1, 0, none⟩ = some (.int .i64 0) ∧ W'.cell? ⟨w.heap.size + 2, 0, none⟩ = some (.int .i64 120) ∧ W'.cell? ⟨w.heap.size + 1, 1, none⟩ = some (.int .i64 1) ∧ W'.cell? ⟨w.heap.size + 2, 1, none⟩ = some (.int .i64 1000) ∧ W'.cell? ⟨w.heap.size + 1, 2, none⟩ = some (.int .i64 1) ∧ W'.cell? ⟨w.heap.size + 2, 2, none⟩ = some (.int .i64 1000) ∧ W'.cell? ⟨w.heap.size + 1, 3, none⟩ = some (.int .i64 0) ∧ W'.cell? ⟨w.heap.size + 2, 3, none⟩ = some (.int .i64 1000000000))
      (first
      | exact ⟨bel_on bq0 (bel_draw1 _), lo0, up0, lo1, up1, lo2, up2, lo3, up3⟩
      | (go_split_ands
         refine ⟨bel_on (by assumption) hbc, cell_later hbc (by assumption), cell_later hbc (by assumption), cell_later hbc (by assumption), cell_later hbc (by assumption), cell_later hbc (by assumption), cell_later hbc (by assumption), cell_later hbc (by assumption), cell_later hbc (by assumption)⟩))
      (first | (go_at_call 103; refine ((unhide CC) _).mono ?_; rintro e w' ⟨rfl, hbc⟩))
    rename_i hq
    have ll := Nat.lt_of_lt_of_le ll0 hq.1.size
    have lh := Nat.lt_of_lt_of_le lh0 hq.1.size
    obtain ⟨bq1, lo0, up0, lo1, up1, lo2, up2, lo3, up3⟩ := hq
    rw [Bool.true_and] at ho
    go_wp2
    cases q1 : (decide ((1 : Int) ≤ h) && decide (h ≤ 1000)) with
    | false =>
      rw [q1] at ho
      have CC := hide (fun W => within_bel h 1 1000 false W q1)
      clear q1
      obtain rfl : false = o := by rw [← ho]; rfl
      clear ho
      rw [rounds_succ]
      go_wp2_with fail
      go_region_held3 (fun W' => Below w1.heap.size w1 W' ∧ W'.cell? ⟨w.heap.size + 1, 0, none⟩ = some (.int .i64 0) ∧ W'.cell? ⟨w.heap.size + 2, 0, none⟩ = some (.int .i64 120) ∧ W'.cell? ⟨w.heap.size + 1, 1, none⟩ = some (.int .i64 1) ∧ W'.cell? ⟨w.heap.size + 2, 1, none⟩ = some (.int .i64 1000) ∧ W'.cell? ⟨w.heap.size + 1, 2, none⟩ = some (.int .i64 1) ∧ W'.cell? ⟨w.heap.size + 2, 2, none⟩ = some (.int .i64 1000) ∧ W'.cell? ⟨w.heap.size + 1, 3, none⟩ = some (.int .i64 0) ∧ W'.cell? ⟨w.heap.size + 2, 3, none⟩ = some (.int .i64 1000000000))
        (first
        | exact ⟨bel_on bq1 (bel_draw1 _), lo0, up0, lo1, up1, lo2, up2, lo3, up3⟩
        | (go_split_ands
           refine ⟨bel_on (by assumption) hbc, cell_later hbc (by assumption), cell_later hbc (by assumption), cell_later hbc (by assumption), cell_later hbc (by assumption), cell_later hbc (by assumption), cell_later hbc (by assumption), cell_later hbc (by assumption), cell_later hbc (by assumption)⟩))
        (first | (go_at_call 103; refine ((unhide CC) _).mono ?_; rintro e w' ⟨rfl, hbc⟩))
      rename_i hq
      have HBF := hide (bel_on (unhide HB1) hq.1)
      clear hq
      go_wp2
      go_ret
      exact ⟨rfl, unhide HBF⟩
    | true =>
      rw [q1] at ho
      have CC := hide (fun W => within_bel h 1 1000 true W q1)
      clear q1
      rw [rounds_succ]
      go_wp2_with fail
      go_region_held3 (fun W' => Below w1.heap.size w1 W' ∧ W'.cell? ⟨w.heap.size + 1, 0, none⟩ = some (.int .i64 0) ∧ W'.cell? ⟨w.heap.size + 2, 0, none⟩ = some (.int .i64 120) ∧ W'.cell? ⟨w.heap.size + 1, 1, none⟩ = some (.int .i64 1) ∧ W'.cell? ⟨w.heap.size + 2, 1, none⟩ = some (.int .i64 1000) ∧ W'.cell? ⟨w.heap.size + 1, 2, none⟩ = some (.int .i64 1) ∧ W'.cell? ⟨w.heap.size + 2, 2, none⟩ = some (.int .i64 1000) ∧ W'.cell? ⟨w.heap.size + 1, 3, none⟩ = some (.int .i64 0) ∧ W'.cell? ⟨w.heap.size + 2, 3, none⟩ = some (.int .i64 1000000000))
        (first
        | exact ⟨bel_on bq1 (bel_draw1 _), lo0, up0, lo1, up1, lo2, up2, lo3, up3⟩
        | (go_split_ands
           refine ⟨bel_on (by assumption) hbc, cell_later hbc (by assumption), cell_later hbc (by assumption), cell_later hbc (by assumption), cell_later hbc (by assumption), cell_later hbc (by assumption), cell_later hbc (by assumption), cell_later hbc (by assumption), cell_later hbc (by assumption)⟩))
        (first | (go_at_call 103; refine ((unhide CC) _).mono ?_; rintro e w' ⟨rfl, hbc⟩))
      rename_i hq
      have ll := Nat.lt_of_lt_of_le ll0 hq.1.size
      have lh := Nat.lt_of_lt_of_le lh0 hq.1.size
      obtain ⟨bq2, lo0, up0, lo1, up1, lo2, up2, lo3, up3⟩ := hq
      rw [Bool.true_and] at ho
      go_wp2
      cases q2 : (decide ((1 : Int) ≤ k) && decide (k ≤ 1000)) with
      | false =>
        rw [q2] at ho
        have CC := hide (fun W => within_bel k 1 1000 false W q2)
        clear q2
        obtain rfl : false = o := by rw [← ho]; rfl
        clear ho
        rw [rounds_succ]
        go_wp2_with fail
        go_region_held3 (fun W' => Below w1.heap.size w1 W' ∧ W'.cell? ⟨w.heap.size + 1, 0, none⟩ = some (.int .i64 0) ∧ W'.cell? ⟨w.heap.size + 2, 0, none⟩ = some (.int .i64 120) ∧ W'.cell? ⟨w.heap.size + 1, 1, none⟩ = some (.int .i64 1) ∧ W'.cell? ⟨w.heap.size + 2, 1, none⟩ = some (.int .i64 1000) ∧ W'.cell? ⟨w.heap.size + 1, 2, none⟩ = some (.int .i64 1) ∧ W'.cell? ⟨w.heap.size + 2, 2, none⟩ = some (.int .i64 1000) ∧ W'.cell? ⟨w.heap.size + 1, 3, none⟩ = some (.int .i64 0) ∧ W'.cell? ⟨w.heap.size + 2, 3, none⟩ = some (.int .i64 1000000000))
          (first
          | exact ⟨bel_on bq2 (bel_draw1 _), lo0, up0, lo1, up1, lo2, up2, lo3, up3⟩
          | (go_split_ands
             refine ⟨bel_on (by assumption) hbc, cell_later hbc (by assumption), cell_later hbc (by assumption), cell_later hbc (by assumption), cell_later hbc (by assumption), cell_later hbc (by assumption), cell_later hbc (by assumption), cell_later hbc (by assumption), cell_later hbc (by assumption)⟩))
          (first | (go_at_call 103; refine ((unhide CC) _).mono ?_; rintro e w' ⟨rfl, hbc⟩))
        rename_i hq
        have HBF := hide (bel_on (unhide HB1) hq.1)
        clear hq
        go_wp2
        go_ret
        exact ⟨rfl, unhide HBF⟩
      | true =>
        rw [q2] at ho
        have CC := hide (fun W => within_bel k 1 1000 true W q2)
        clear q2
        rw [rounds_succ]
        go_wp2_with fail
        go_region_held3 (fun W' => Below w1.heap.size w1 W' ∧ W'.cell? ⟨w.heap.size + 1, 0, none⟩ = some (.int .i64 0) ∧ W'.cell? ⟨w.heap.size + 2, 0, none⟩ = some (.int .i64 120) ∧ W'.cell? ⟨w.heap.size + 1, 1, none⟩ = some (.int .i64 1) ∧ W'.cell? ⟨w.heap.size + 2, 1, none⟩ = some (.int .i64 1000) ∧ W'.cell? ⟨w.heap.size + 1, 2, none⟩ = some (.int .i64 1) ∧ W'.cell? ⟨w.heap.size + 2, 2, none⟩ = some (.int .i64 1000) ∧ W'.cell? ⟨w.heap.size + 1, 3, none⟩ = some (.int .i64 0) ∧ W'.cell? ⟨w.heap.size + 2, 3, none⟩ = some (.int .i64 1000000000))
          (first
          | exact ⟨bel_on bq2 (bel_draw1 _), lo0, up0, lo1, up1, lo2, up2, lo3, up3⟩
          | (go_split_ands
             refine ⟨bel_on (by assumption) hbc, cell_later hbc (by assumption), cell_later hbc (by assumption), cell_later hbc (by assumption), cell_later hbc (by assumption), cell_later hbc (by assumption), cell_later hbc (by assumption), cell_later hbc (by assumption), cell_later hbc (by assumption)⟩))
          (first | (go_at_call 103; refine ((unhide CC) _).mono ?_; rintro e w' ⟨rfl, hbc⟩))
        rename_i hq
        have ll := Nat.lt_of_lt_of_le ll0 hq.1.size
        have lh := Nat.lt_of_lt_of_le lh0 hq.1.size
        obtain ⟨bq3, lo0, up0, lo1, up1, lo2, up2, lo3, up3⟩ := hq
        rw [Bool.true_and] at ho
        go_wp2
        cases q3 : (decide ((0 : Int) ≤ n) && decide (n ≤ 1000000000)) with
        | false =>
          rw [q3] at ho
          have CC := hide (fun W => within_bel n 0 1000000000 false W q3)
          clear q3
          obtain rfl : false = o := by rw [← ho]
          clear ho
          rw [rounds_succ]
          go_wp2_with fail
          go_region_held3 (fun W' => Below w1.heap.size w1 W' ∧ W'.cell? ⟨w.heap.size + 1, 0, none⟩ = some (.int .i64 0) ∧ W'.cell? ⟨w.heap.size + 2, 0, none⟩ = some (.int .i64 120) ∧ W'.cell? ⟨w.heap.size + 1, 1, none⟩ = some (.int .i64 1) ∧ W'.cell? ⟨w.heap.size + 2, 1, none⟩ = some (.int .i64 1000) ∧ W'.cell? ⟨w.heap.size + 1, 2, none⟩ = some (.int .i64 1) ∧ W'.cell? ⟨w.heap.size + 2, 2, none⟩ = some (.int .i64 1000) ∧ W'.cell? ⟨w.heap.size + 1, 3, none⟩ = some (.int .i64 0) ∧ W'.cell? ⟨w.heap.size + 2, 3, none⟩ = some (.int .i64 1000000000))
            (first
            | exact ⟨bel_on bq3 (bel_draw1 _), lo0, up0, lo1, up1, lo2, up2, lo3, up3⟩
            | (go_split_ands
               refine ⟨bel_on (by assumption) hbc, cell_later hbc (by assumption), cell_later hbc (by assumption), cell_later hbc (by assumption), cell_later hbc (by assumption), cell_later hbc (by assumption), cell_later hbc (by assumption), cell_later hbc (by assumption), cell_later hbc (by assumption)⟩))
            (first | (go_at_call 103; refine ((unhide CC) _).mono ?_; rintro e w' ⟨rfl, hbc⟩))
          rename_i hq
          have HBF := hide (bel_on (unhide HB1) hq.1)
          clear hq
          go_wp2
          go_ret
          exact ⟨rfl, unhide HBF⟩
        | true =>
          rw [q3] at ho
          have CC := hide (fun W => within_bel n 0 1000000000 true W q3)
          clear q3
          obtain rfl : true = o := by rw [← ho]
          clear ho
          rw [rounds_succ]
          go_wp2_with fail
          go_region_held3 (fun W' => Below w1.heap.size w1 W' ∧ W'.cell? ⟨w.heap.size + 1, 0, none⟩ = some (.int .i64 0) ∧ W'.cell? ⟨w.heap.size + 2, 0, none⟩ = some (.int .i64 120) ∧ W'.cell? ⟨w.heap.size + 1, 1, none⟩ = some (.int .i64 1) ∧ W'.cell? ⟨w.heap.size + 2, 1, none⟩ = some (.int .i64 1000) ∧ W'.cell? ⟨w.heap.size + 1, 2, none⟩ = some (.int .i64 1) ∧ W'.cell? ⟨w.heap.size + 2, 2, none⟩ = some (.int .i64 1000) ∧ W'.cell? ⟨w.heap.size + 1, 3, none⟩ = some (.int .i64 0) ∧ W'.cell? ⟨w.heap.size + 2, 3, none⟩ = some (.int .i64 1000000000))
            (first
            | exact ⟨bel_on bq3 (bel_draw1 _), lo0, up0, lo1, up1, lo2, up2, lo3, up3⟩
            | (go_split_ands
               refine ⟨bel_on (by assumption) hbc, cell_later hbc (by assumption), cell_later hbc (by assumption), cell_later hbc (by assumption), cell_later hbc (by assumption), cell_later hbc (by assumption), cell_later hbc (by assumption), cell_later hbc (by assumption), cell_later hbc (by assumption)⟩))
            (first | (go_at_call 103; refine ((unhide CC) _).mono ?_; rintro e w' ⟨rfl, hbc⟩))
          rename_i hq
          have ll := Nat.lt_of_lt_of_le ll0 hq.1.size
          have lh := Nat.lt_of_lt_of_le lh0 hq.1.size
          obtain ⟨bq4, lo0, up0, lo1, up1, lo2, up2, lo3, up3⟩ := hq
          go_wp2
          rw [rounds_succ]
          go_wp2
          go_ret
          exact ⟨rfl, bel_on (unhide HB1) bq4⟩

end Go.Proofs.YtmomfkikogbdeaaGreatDoor

/- The contract of block.Check. -/
namespace Go.Proofs.YtmomfkikogbdeaaGreatDoor
open Go.RowKit

set_option maxRecDepth 10000 in
set_option maxHeartbeats 6400000 in
theorem blkCheck_any (p h k n : Int) (a : Option Addr) (m c : Nat) (T : List TxD) (x : Int) (w : World) (hT : TxsAt w a m T) (hx : chkB (p, h, k, n, T) = x) :
    Calls Tryz.prog 85 #[.agg #[.int .i64 p, .int .i64 h, .int .i64 k, .int .i64 n, .slice a m c]] w fun e w' => e = .returned (.int .i64 x) ∧ Below w.heap.size w w' := by
  subst hx
  obtain ⟨X, hX⟩ : ∃ X, X = w.alloc (.cells #[.int .i64 p, .int .i64 h, .int .i64 k, .int .i64 n, .slice a m c] 39) := ⟨_, rfl⟩
  have hbX : Below w.heap.size w X := by rw [hX]; exact bel_new _ _
  have hX1 : X.heap[w.heap.size]? = some (.cells [.int .i64 p, .int .i64 h, .int .i64 k, .int .i64 n, .slice a m c].toArray 39 (0, 0)) := by rw [hX]; exact five_heap _ _ _ _ _ _ _
  have HX1 := hide hX1
  have HBX := hide hbX
  have HT := hide (hT.later hbX)
  have hz : T.length = m := hT.1
  unfold chkB
  simp only
  rw [hz]
  clear hbX hX1 hT
  cases q : headOk p h k n with
  | false =>
    have C := hide (headFits_is p h k n a m c false X q)
    rw [if_pos rfl]
    clear q hz
    go_enter Tryz.func85, Tryz.ntmps85
    go_wp2_with fail
    rw [← hX]
    clear hX
    refine (unhide C).mono ?_
    rintro e w1 ⟨rfl, hb1⟩
    have HB1 := hide (bel_on (unhide HBX) hb1)
    clear hb1
    go_wp2
    go_ret
    exact ⟨rfl, unhide HB1⟩
  | true =>
    have C := hide (headFits_is p h k n a m c true X q)
    rw [if_neg (by decide)]
    clear q
    by_cases h4 : 4 < m
    · rw [if_pos h4]
      clear hz
      go_enter Tryz.func85, Tryz.ntmps85
      go_wp2_with fail
      rw [← hX]
      clear hX
      refine (unhide C).mono ?_
      rintro e w1 ⟨rfl, hb1⟩
      have hx1 := (hb1.block _ (lt_of_block (unhide HX1))).trans (unhide HX1)
      have c4 := cell_of hx1 4 _ rfl
      have l1 := lt_of_block hx1
      have HB1 := hide (bel_on (unhide HBX) hb1)
      clear hb1 hx1
      go_wp2
      go_ret
      exact ⟨rfl, unhide HB1⟩
    · rw [if_neg h4]
      by_cases h0 : m = 0
      · subst h0
        rw [if_pos rfl]
        clear hz h4
        go_enter Tryz.func85, Tryz.ntmps85
        go_wp2_with fail
        rw [← hX]
        clear hX
        refine (unhide C).mono ?_
        rintro e w1 ⟨rfl, hb1⟩
        have hx1 := (hb1.block _ (lt_of_block (unhide HX1))).trans (unhide HX1)
        have c4 := cell_of hx1 4 _ rfl
        have l1 := lt_of_block hx1
        have HB1 := hide (bel_on (unhide HBX) hb1)
        clear hb1 hx1
        go_wp2
        go_ret
        exact ⟨rfl, unhide HB1⟩
      · rw [if_neg h0]
        have g0 : ((m : Int) == 0) = false := by simp [h0]
        have HZ := hide hz
        obtain ⟨b, off, rfl, hbl, hcell⟩ := (unhide HT).2 (by omega)
        have HC := hide hcell
        clear hz hcell
        go_enter Tryz.func85, Tryz.ntmps85
        go_wp2_with fail
        rw [← hX]
        clear hX
        refine (unhide C).mono ?_
        rintro e w1 ⟨rfl, hb1⟩
        have hx1 := (hb1.block _ (lt_of_block (unhide HX1))).trans (unhide HX1)
        have c4 := cell_of hx1 4 _ rfl
        have l1 := lt_of_block hx1
        have HX2 := hide hb1
        clear hb1 hx1
        go_wp2
        go_loopw [20] (fun i wr => ∃ k : Nat, k ≤ m ∧ i = .int .i64 k ∧ Hid (chkTs h 0 T = chkTs h k (T.drop k)) ∧ Hid (Below X.heap.size X wr)) (fun i _ => m - (intOf i).toNat)
        case atStart => exact ⟨0, Nat.zero_le _, rfl, rfl, HX2⟩
        case round =>
          obtain ⟨j, hj, rfl, A, HBr⟩ := hrel
          clear c4 l1 HX2
          by_cases hlt : j < m
          · have hlk : j < T.length := by rw [unhide HZ]; exact hlt
            have hin := TxAt.kept _ _ _ _ _ (unhide HBr) ((unhide HC) j hlk)
            have ST := hide (chkTs_at h T j hlk)
            obtain ⟨t, ht⟩ : ∃ t, T[j] = t := ⟨_, rfl⟩
            rw [ht] at hin ST
            obtain ⟨t1, I, O⟩ := t
            obtain ⟨g0', ⟨ai, ni, ci, g1, hI, sI⟩, ao, no, co, g2, hO, _⟩ := hin
            have A2 : Hid (chkTs h 0 T = if chkTx (t1, I, O) ≠ 0 then chkTx (t1, I, O) else if standsD (t1, I, O) j h = false then 4 else chkTs h (j + 1) (T.drop (j + 1))) := by show _ = _; rw [unhide A, unhide ST]
            simp only at g0' g1 g2 hI hO
            obtain ⟨Y, hY⟩ : ∃ Y, Y = wr.alloc (.cells #[.int .i64 t1, .slice ai ni ci, .slice ao no co] 59) := ⟨_, rfl⟩
            have hbY : Below wr.heap.size wr Y := by rw [hY]; exact bel_new _ _
            have hY1 : Y.heap[wr.heap.size]? = some (.cells [.int .i64 t1, .slice ai ni ci, .slice ao no co].toArray 59 (0, 0)) := by rw [hY]; exact three_heap _ _ _ _ _
            have HY1 := hide hY1
            have HBY := hide (bel_on (unhide HBr) hbY)
            have hhY := ((unhide HBY).block _ (lt_of_block (unhide HX1))).trans (unhide HX1)
            have y0 := cell_of hY1 0 _ rfl
            have y1 := cell_of hY1 1 _ rfl
            have y2 := cell_of hY1 2 _ rfl
            have yl := lt_of_block hY1
            obtain ⟨x, hx⟩ : ∃ x, chkTx (t1, I, O) = x := ⟨_, rfl⟩
            obtain ⟨o, ho⟩ : ∃ o, standsD (t1, I, O) j h = o := ⟨_, rfl⟩
            have CT := hide (txCheck_any t1 ai ao ni ci no co I O Y (hI.later hbY) (hO.later hbY) sI)
            have CS := hide (fun W => stands_is t1 ai ao ni ci no co I O j h o W hI.1 ho)
            rw [hx] at A2 CT
            rw [ho] at A2
            clear hbY hY1 hhY A ST ht hI hO sI hx ho
            by_cases hx0 : x = 0
            · subst hx0
              have A3 : Hid (chkTs h 0 T = if o = false then 4 else chkTs h (j + 1) (T.drop (j + 1))) := by
                have q := unhide A2
                rw [if_neg (by decide)] at q
                exact q
              clear A2
              go_wp2_with fail
              rw [← hY]
              clear hY
              go_wp2_with fail
              refine (unhide CT).mono ?_
              rintro e w2 ⟨rfl, hb2⟩
              have hy2 := (hb2.block _ (lt_of_block (unhide HY1))).trans (unhide HY1)
              have HB2 := hide (bel_on (unhide HBY) hb2)
              have hh2 := ((unhide HB2).block _ (lt_of_block (unhide HX1))).trans (unhide HX1)
              have z0 := cell_of hy2 0 _ rfl
              have z1 := cell_of hy2 1 _ rfl
              have z2 := cell_of hy2 2 _ rfl
              have zl := lt_of_block hy2
              have k1 := cell_of hh2 1 _ rfl
              have kl := lt_of_block hh2
              clear hb2 hy2 hh2 y0 y1 y2 yl g0' g1 g2
              go_wp2_with fail
              refine ((unhide CS) _).mono ?_
              rintro e w3 ⟨rfl, hb3⟩
              have HB3 := hide (bel_on (unhide HB2) hb3)
              clear hb3
              cases o with
              | false =>
                have R : Hid (chkTs h 0 T = 4) := by show _ = _; rw [unhide A3]; rfl
                have HBF := hide (bel_on (unhide HBX) (unhide HB3))
                clear A3
                go_wp2
                go_ret
                exact ⟨by rw [unhide R]; rfl, unhide HBF⟩
              | true =>
                have R : Hid (chkTs h 0 T = chkTs h (j + 1) (T.drop (j + 1))) := by show _ = _; rw [unhide A3]; rfl
                clear A3
                go_wp2
                go_roundw
                case rel => exact ⟨j + 1, by omega, by go_num, R, HB3⟩
                case measure => simp [intOf]; omega
            · have R : Hid (chkTs h 0 T = x) := by show _ = _; rw [unhide A2, if_pos hx0]
              have gx : (x != 0) = true := by simp [hx0]
              clear A2 hx0
              go_wp2_with fail
              rw [← hY]
              clear hY
              go_wp2_with fail
              refine (unhide CT).mono ?_
              rintro e w2 ⟨rfl, hb2⟩
              have HBF := hide (bel_on (unhide HBX) (bel_on (unhide HBY) hb2))
              clear hb2
              go_wp2
              go_ret
              exact ⟨by rw [unhide R]; rfl, unhide HBF⟩
          · have R : Hid (chkTs h 0 T = 0) := by show _ = _; rw [unhide A, chkTs_end h T j (by rw [unhide HZ]; omega)]
            have HBF := hide (bel_on (unhide HBX) (unhide HBr))
            clear A
            go_wp2
            go_ret
            exact ⟨by rw [unhide R]; rfl, unhide HBF⟩

end Go.Proofs.YtmomfkikogbdeaaGreatDoor

/- What a right transaction is made of. Nothing of the program. -/
namespace Go.Proofs.YtmomfkikogbdeaaGreatDoor

theorem chkIns_all : ∀ (L pre : List InD), chkIns pre L = 0 → ∀ x ∈ L, ptOk x = true ∧ chk x.2.2 = 0
  | [], _, _, x, hx => by cases hx
  | y :: r, pre, h, x, hx => by
    unfold chkIns at h
    split at h
    · rename_i h1
      rcases List.mem_cons.1 hx with rfl | hx
      · unfold chkIn1 at h1
        split at h1
        · cases h1
        · rename_i h2
          split at h1
          · rename_i h3; exact absurd h1 h3
          · rename_i h3
            exact ⟨by simpa using h2, by simpa using h3⟩
      · exact chkIns_all r _ h x hx
    · contradiction
theorem chkOuts_all : ∀ (L : List OutD), chkOuts L = 0 → ∀ x ∈ L, 1 ≤ x.1 ∧ chk x.2 = 0
  | [], _, x, hx => by cases hx
  | y :: r, h, x, hx => by
    unfold chkOuts at h
    split at h
    · rename_i h1
      rcases List.mem_cons.1 hx with rfl | hx
      · unfold chkOut1 at h1
        split at h1
        · cases h1
        · rename_i h2
          exact ⟨by omega, h1⟩
      · exact chkOuts_all r h x hx
    · contradiction
theorem sm_all : ∀ (Z : List Int) (s : Int), (sm s Z).2 = 0 → ∀ z ∈ Z, 0 ≤ z ∧ z ≤ 1000000000
  | [], _, _, z, hz => by cases hz
  | y :: r, s, h, z, hz => by
    unfold sm at h
    split at h
    · rename_i h1
      split at h
      · rcases List.mem_cons.1 hz with rfl | hz
        · exact h1
        · exact sm_all r _ h z hz
      · cases h
    · cases h

structure TxOk (t : TxD) : Prop where
  ins6 : t.2.1.length ≤ 6
  outs6 : t.2.2.length ≤ 6
  some : 0 < t.2.2.length
  hgt : 0 ≤ t.1 ∧ t.1 ≤ 1000
  fit : hFit t = true
  chkI : chkIns [] t.2.1 = 0
  ins : ∀ x ∈ t.2.1, ptOk x = true ∧ chk x.2.2 = 0
  outs : ∀ x ∈ t.2.2, (1 ≤ x.1 ∧ x.1 ≤ 1000000000) ∧ chk x.2 = 0

theorem TxOk.of {t : TxD} (h : chkTx t = 0) : TxOk t := by
  unfold chkTx at h
  split at h
  · cases h
  · rename_i h1
    split at h
    · cases h
    · rename_i h2
      split at h
      · cases h
      · rename_i h3
        split at h
        · rename_i h4; exact absurd h h4
        · rename_i h4
          have h4' : chkIns [] t.2.1 = 0 := by simpa using h4
          have h3' : hFit t = true := by simpa using h3
          unfold chkOutsAll at h
          split at h
          · rename_i h5
            refine ⟨by omega, by omega, by omega, ?_, h3', h4', chkIns_all _ _ h4', fun x hx => ?_⟩
            · unfold hFit at h3'
              split at h3'
              · simp only [Bool.and_eq_true, decide_eq_true_eq] at h3'; omega
              · have : t.1 = 0 := by simpa using h3'
                omega
            · have a := chkOuts_all _ h5 x hx
              have b := sm_all _ _ h x.1 (List.mem_map.2 ⟨x, hx, rfl⟩)
              exact ⟨⟨a.1, b.2⟩, a.2⟩
          · contradiction

theorem ptOk_iff (x : InD) : ptOk x = true ↔ (1 ≤ x.1 ∧ x.1 ≤ 120) ∧ (0 ≤ x.2.1 ∧ x.2.1 ≤ 5) := by
  unfold ptOk; simp only [Bool.and_eq_true, decide_eq_true_eq]

end Go.Proofs.YtmomfkikogbdeaaGreatDoor
