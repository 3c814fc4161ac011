/- Contracts of a block's head: headOf, headFits, standsRight. -/
import Derived.Test.YtmomfkikogbdeaaGreatDoorCoinPlaceToBlkMem
import Derived.Test.YtmomfkikogbdeaaGreatDoorTxCheckCToCoinMath
namespace Go.Proofs.YtmomfkikogbdeaaGreatDoor
open Go.RowKit

set_option maxRecDepth 10000 in
set_option maxHeartbeats 1600000 in
theorem headOf_is (p h k n : Int) (a : Option Addr) (m c : Nat) (w : World) :
    Calls Tryz.prog 104 #[.agg #[.int .i64 p, .int .i64 h, .int .i64 k, .int .i64 n, .slice a m c]] w fun e w' => e = .returned (.agg #[.int .i64 p, .int .i64 h, .int .i64 k, .int .i64 n]) ∧ Below w.heap.size w w' := by
  have HB := hide (bel_on (bel_new w (.cells #[.int .i64 p, .int .i64 h, .int .i64 k, .int .i64 n, .slice a m c] 39)) (bel_new _ (.cells #[.int .i64 p, .int .i64 h, .int .i64 k, .int .i64 n] 187)))
  go_enter Tryz.func104, Tryz.ntmps104
  go_wp2
  (try simp only [Exit.inBlock, Exit.then])
  refine bodyPost_ret (v := .agg #[.int .i64 p, .int .i64 h, .int .i64 k, .int .i64 n]) ?_ rfl ⟨rfl, ?_⟩
  · rw [results_cell1 rfl]
    go_simp
  · exact unhide HB

set_option maxHeartbeats 800000 in
theorem stands_is (h : Int) (ai ao : Option Addr) (ni ci no co : Nat) (I : List InD) (O : List OutD) (i : Nat) (ht : Int) (o : Bool) (w : World) (hI : I.length = ni) (ho : standsD (h, I, O) i ht = o) :
    Calls Tryz.prog 153 #[.agg #[.int .i64 h, .slice ai ni ci, .slice ao no co], .int .i64 i, .int .i64 ht] w fun e w' => e = .returned (.bool o) ∧ Below w.heap.size w w' := by
  have HB := hide (bel_new w (.cells #[.int .i64 h, .slice ai ni ci, .slice ao no co] 59))
  unfold standsD at ho
  simp only at ho
  rw [hI] at ho
  clear hI
  by_cases h1 : i = 0
  · subst h1
    rw [if_neg (by decide)] at ho
    by_cases h2 : ni = 0
    · subst h2
      by_cases h3 : h = ht
      · subst h3
        obtain rfl : true = o := by rw [← ho]; simp
        clear ho
        go_enter Tryz.func153, Tryz.ntmps153
        go_wp2
        go_ret
        exact ⟨rfl, unhide HB⟩
      · obtain rfl : false = o := by rw [← ho]; simp [h3]
        have g : (h == ht) = false := by simp [h3]
        clear ho h3
        go_enter Tryz.func153, Tryz.ntmps153
        go_wp2
        go_ret
        exact ⟨by rw [← g]; rfl, unhide HB⟩
    · obtain rfl : false = o := by rw [← ho]; simp [h2]
      have g : ((ni : Int) == 0) = false := by simp [h2]
      clear ho
      go_enter Tryz.func153, Tryz.ntmps153
      go_wp2
      go_ret
      exact ⟨rfl, unhide HB⟩
  · have hi : 0 < (i : Int) := by omega
    rw [if_pos hi] at ho
    by_cases h2 : ni = 0
    · subst h2
      obtain rfl : false = o := by rw [← ho]; simp
      clear ho
      go_enter Tryz.func153, Tryz.ntmps153
      go_wp2
      go_ret
      exact ⟨rfl, unhide HB⟩
    · obtain rfl : true = o := by rw [← ho]; simp [h2]
      have g : ((ni : Int) == 0) = false := by simp [h2]
      clear ho
      go_enter Tryz.func153, Tryz.ntmps153
      go_wp2
      go_ret
      exact ⟨rfl, unhide HB⟩

theorem index_four (a b c d : Value) (w : World) :
    (Instr.index 187 (.agg #[a, b, c, d]) (.int .i64 0)).run Tryz.prog w = .ok a w ∧ (Instr.index 187 (.agg #[a, b, c, d]) (.int .i64 1)).run Tryz.prog w = .ok b w ∧
    (Instr.index 187 (.agg #[a, b, c, d]) (.int .i64 2)).run Tryz.prog w = .ok c w ∧ (Instr.index 187 (.agg #[a, b, c, d]) (.int .i64 3)).run Tryz.prog w = .ok d w := by
  refine ⟨?_, ?_, ?_, ?_⟩ <;> kernel_rfl
theorem within_bel (n lo hi : Int) (b : Bool) (w : World) (hb : (decide (lo ≤ n) && decide (n ≤ hi)) = b) :
    Calls Tryz.prog 103 #[.int .i64 n, .int .i64 lo, .int .i64 hi] w fun e w' => e = .returned (.bool b) ∧ Below w.heap.size w w' :=
  (within_is n lo hi b w hb.symm).mono fun _ _ ⟨h1, h2⟩ => ⟨h1, h2 ▸ Below.refl _ _⟩
theorem four_heap (w : World) (a b c d : Value) (t : TypeId) : (w.alloc (.cells #[a, b, c, d] t)).heap[w.heap.size]? = some (.cells [a, b, c, d].toArray t (0, 0)) := heap_alloc_new w _

set_option maxRecDepth 100000 in
set_option maxHeartbeats 3200000 in
theorem headFits_is (p h k n : Int) (a : Option Addr) (m c : Nat) (o : Bool) (w : World) (ho : headOk p h k n = o) :
    Calls Tryz.prog 151 #[.agg #[.int .i64 p, .int .i64 h, .int .i64 k, .int .i64 n, .slice a m c]] w fun e w' => e = .returned (.bool o) ∧ Below w.heap.size w w' := by
  obtain ⟨X, hX⟩ : ∃ X, X = ((w.alloc (.cells #[.int .i64 p, .int .i64 h, .int .i64 k, .int .i64 n, .slice a m c] 39)).alloc (.cells #[.int .i64 0, .int .i64 1, .int .i64 1, .int .i64 0] 187)).alloc (.cells #[.int .i64 120, .int .i64 1000, .int .i64 1000, .int .i64 1000000000] 187) := ⟨_, rfl⟩
  have hbX : Below w.heap.size w X := by rw [hX]; exact bel_on (bel_on (bel_new _ _) (bel_new _ _)) (bel_new _ _)
  have hL : X.heap[w.heap.size + 1]? = some (.cells [.int .i64 0, .int .i64 1, .int .i64 1, .int .i64 0].toArray 187 (0, 0)) := by
    rw [hX, Below.heap_alloc _ _ _ (by simp)]
    have := four_heap (w.alloc (.cells #[.int .i64 p, .int .i64 h, .int .i64 k, .int .i64 n, .slice a m c] 39)) (.int .i64 0) (.int .i64 1) (.int .i64 1) (.int .i64 0) 187
    rw [show (w.alloc (.cells #[.int .i64 p, .int .i64 h, .int .i64 k, .int .i64 n, .slice a m c] 39)).heap.size = w.heap.size + 1 by simp] at this
    exact this
  have hH : X.heap[w.heap.size + 2]? = some (.cells [.int .i64 120, .int .i64 1000, .int .i64 1000, .int .i64 1000000000].toArray 187 (0, 0)) := by
    rw [hX]
    have := four_heap ((w.alloc (.cells #[.int .i64 p, .int .i64 h, .int .i64 k, .int .i64 n, .slice a m c] 39)).alloc (.cells #[.int .i64 0, .int .i64 1, .int .i64 1, .int .i64 0] 187)) (.int .i64 120) (.int .i64 1000) (.int .i64 1000) (.int .i64 1000000000) 187
    rw [show ((w.alloc (.cells #[.int .i64 p, .int .i64 h, .int .i64 k, .int .i64 n, .slice a m c] 39)).alloc (.cells #[.int .i64 0, .int .i64 1, .int .i64 1, .int .i64 0] 187)).heap.size = w.heap.size + 2 by simp] at this
    exact this
  have C := hide (headOf_is p h k n a m c X)
  have HBX := hide hbX
  have HL := hide hL
  have HH := hide hH
  have hi0 := fun w => (index_four (.int .i64 p) (.int .i64 h) (.int .i64 k) (.int .i64 n) w).1
  have hi1 := fun w => (index_four (.int .i64 p) (.int .i64 h) (.int .i64 k) (.int .i64 n) w).2.1
  have hi2 := fun w => (index_four (.int .i64 p) (.int .i64 h) (.int .i64 k) (.int .i64 n) w).2.2.1
  have hi3 := fun w => (index_four (.int .i64 p) (.int .i64 h) (.int .i64 k) (.int .i64 n) w).2.2.2
  unfold headOk at ho
  clear hbX hL hH
  go_enter Tryz.func151, Tryz.ntmps151
  go_wp2_with fail
  rw [← hX]
  clear hX
  go_wp2_with fail
  refine (unhide C).mono ?_
  rintro e w1 ⟨rfl, hb1⟩
  have HB1 := hide (bel_on (unhide HBX) hb1)
  have hl1 := (hb1.block _ (lt_of_block (unhide HL))).trans (unhide HL)
  have hh1 := (hb1.block _ (lt_of_block (unhide HH))).trans (unhide HH)
  have lo0 := cell_of hl1 0 _ rfl
  have up0 := cell_of hh1 0 _ rfl
  have lo1 := cell_of hl1 1 _ rfl
  have up1 := cell_of hh1 1 _ rfl
  have lo2 := cell_of hl1 2 _ rfl
  have up2 := cell_of hh1 2 _ rfl
  have lo3 := cell_of hl1 3 _ rfl
  have up3 := cell_of hh1 3 _ rfl
  have ll0 := lt_of_block hl1
  have lh0 := lt_of_block hh1
  clear hb1 hl1 hh1 C HL HH HBX
  go_wp2
  have bq0 : Below w1.heap.size w1 w1 := Below.refl _ _
  refine wp_loop_rounds 5 ?_
  cases q0 : (decide ((0 : Int) ≤ p) && decide (p ≤ 120)) with
  | false =>
    rw [q0] at ho
    have CC := hide (fun W => within_bel p 0 120 false W q0)
    clear q0
    obtain rfl : false = o := by rw [← ho]; rfl
    clear ho
    rw [rounds_succ]
    go_wp2_with fail
    go_region_held3 (fun W' => Below w1.heap.size w1 W' ∧ W'.cell? ⟨w.heap.size + 1, 0, none⟩ = some (.int .i64 0) ∧ W'.cell? ⟨w.heap.size + 2, 0, none⟩ = some (.int .i64 120) ∧ W'.cell? ⟨w.heap.size + 1, 1, none⟩ = some (.int .i64 1) ∧ W'.cell? ⟨w.heap.size + 2, 1, none⟩ = some (.int .i64 1000) ∧ W'.cell? ⟨w.heap.size + 1, 2, none⟩ = some (.int .i64 1) ∧ W'.cell? ⟨w.heap.size + 2, 2, none⟩ = some (.int .i64 1000) ∧ W'.cell? ⟨w.heap.size + 1, 3, none⟩ = some (.int .i64 0) ∧ W'.cell? ⟨w.heap.size + 2, 3, none⟩ = some (.int .i64 1000000000))
      (first
      | exact ⟨bel_on bq0 (bel_draw1 _), lo0, up0, lo1, up1, lo2, up2, lo3, up3⟩
      | (go_split_ands
         refine ⟨bel_on (by assumption) hbc, cell_later hbc (by assumption), cell_later hbc (by assumption), cell_later hbc (by assumption), cell_later hbc (by assumption), cell_later hbc (by assumption), cell_later hbc (by assumption), cell_later hbc (by assumption), cell_later hbc (by assumption)⟩))
      (first | (go_at_call 103; refine ((unhide CC) _).mono ?_; rintro e w' ⟨rfl, hbc⟩))
    rename_i hq
    have HBF := hide (bel_on (unhide HB1) hq.1)
    clear hq
    go_wp2
    go_ret
    exact ⟨rfl, unhide HBF⟩
  | true =>
    rw [q0] at ho
    have CC := hide (fun W => within_bel p 0 120 true W q0)
    clear q0
    rw [rounds_succ]
    go_wp2_with fail
    go_region_held3 (fun W' => Below w1.heap.size w1 W' ∧ W'.cell? ⟨w.heap.size + 1, 0, none⟩ = some (.int .i64 0) ∧ W'.cell? ⟨w.heap.size + 2, 0, none⟩ = some (.int .i64 120) ∧ W'.cell? ⟨w.heap.size + 1, 1, none⟩ = some (.int .i64 1) ∧ W'.cell? ⟨w.heap.size + 2, 1, none⟩ = some (.int .i64 1000) ∧ W'.cell? ⟨w.heap.size + 1, 2, none⟩ = some (.int .i64 1) ∧ W'.cell? ⟨w.heap.size + 2, 2, none⟩ = some (.int .i64 1000) ∧ W'.cell? ⟨w.heap.size + 1, 3, none⟩ = some (.int .i64 0) ∧ W'.cell? ⟨w.heap.size + 2, 3, none⟩ = some (.int .i64 1000000000))
      (first
      | exact ⟨bel_on bq0 (bel_draw1 _), lo0, up0, lo1, up1, lo2, up2, lo3, up3⟩
      | (go_split_ands
         refine ⟨bel_on (by assumption) hbc, cell_later hbc (by assumption), cell_later hbc (by assumption), cell_later hbc (by assumption), cell_later hbc (by assumption), cell_later hbc (by assumption), cell_later hbc (by assumption), cell_later hbc (by assumption), cell_later hbc (by assumption)⟩))
      (first | (go_at_call 103; refine ((unhide CC) _).mono ?_; rintro e w' ⟨rfl, hbc⟩))
    rename_i hq
    have ll := Nat.lt_of_lt_of_le ll0 hq.1.size
    have lh := Nat.lt_of_lt_of_le lh0 hq.1.size
    obtain ⟨bq1, lo0, up0, lo1, up1, lo2, up2, lo3, up3⟩ := hq
    rw [Bool.true_and] at ho
    go_wp2
    cases q1 : (decide ((1 : Int) ≤ h) && decide (h ≤ 1000)) with
    | false =>
      rw [q1] at ho
      have CC := hide (fun W => within_bel h 1 1000 false W q1)
      clear q1
      obtain rfl : false = o := by rw [← ho]; rfl
      clear ho
      rw [rounds_succ]
      go_wp2_with fail
      go_region_held3 (fun W' => Below w1.heap.size w1 W' ∧ W'.cell? ⟨w.heap.size + 1, 0, none⟩ = some (.int .i64 0) ∧ W'.cell? ⟨w.heap.size + 2, 0, none⟩ = some (.int .i64 120) ∧ W'.cell? ⟨w.heap.size + 1, 1, none⟩ = some (.int .i64 1) ∧ W'.cell? ⟨w.heap.size + 2, 1, none⟩ = some (.int .i64 1000) ∧ W'.cell? ⟨w.heap.size + 1, 2, none⟩ = some (.int .i64 1) ∧ W'.cell? ⟨w.heap.size + 2, 2, none⟩ = some (.int .i64 1000) ∧ W'.cell? ⟨w.heap.size + 1, 3, none⟩ = some (.int .i64 0) ∧ W'.cell? ⟨w.heap.size + 2, 3, none⟩ = some (.int .i64 1000000000))
        (first
        | exact ⟨bel_on bq1 (bel_draw1 _), lo0, up0, lo1, up1, lo2, up2, lo3, up3⟩
        | (go_split_ands
           refine ⟨bel_on (by assumption) hbc, cell_later hbc (by assumption), cell_later hbc (by assumption), cell_later hbc (by assumption), cell_later hbc (by assumption), cell_later hbc (by assumption), cell_later hbc (by assumption), cell_later hbc (by assumption), cell_later hbc (by assumption)⟩))
        (first | (go_at_call 103; refine ((unhide CC) _).mono ?_; rintro e w' ⟨rfl, hbc⟩))
      rename_i hq
      have HBF := hide (bel_on (unhide HB1) hq.1)
      clear hq
      go_wp2
      go_ret
      exact ⟨rfl, unhide HBF⟩
    | true =>
      rw [q1] at ho
      have CC := hide (fun W => within_bel h 1 1000 true W q1)
      clear q1
      rw [rounds_succ]
      go_wp2_with fail
      go_region_held3 (fun W' => Below w1.heap.size w1 W' ∧ W'.cell? ⟨w.heap.size + 1, 0, none⟩ = some (.int .i64 0) ∧ W'.cell? ⟨w.heap.size + 2, 0, none⟩ = some (.int .i64 120) ∧ W'.cell? ⟨w.heap.size + 1, 1, none⟩ = some (.int .i64 1) ∧ W'.cell? ⟨w.heap.size + 2, 1, none⟩ = some (.int .i64 1000) ∧ W'.cell? ⟨w.heap.size + 1, 2, none⟩ = some (.int .i64 1) ∧ W'.cell? ⟨w.heap.size + 2, 2, none⟩ = some (.int .i64 1000) ∧ W'.cell? ⟨w.heap.size + 1, 3, none⟩ = some (.int .i64 0) ∧ W'.cell? ⟨w.heap.size + 2, 3, none⟩ = some (.int .i64 1000000000))
        (first
        | exact ⟨bel_on bq1 (bel_draw1 _), lo0, up0, lo1, up1, lo2, up2, lo3, up3⟩
        | (go_split_ands
           refine ⟨bel_on (by assumption) hbc, cell_later hbc (by assumption), cell_later hbc (by assumption), cell_later hbc (by assumption), cell_later hbc (by assumption), cell_later hbc (by assumption), cell_later hbc (by assumption), cell_later hbc (by assumption), cell_later hbc (by assumption)⟩))
        (first | (go_at_call 103; refine ((unhide CC) _).mono ?_; rintro e w' ⟨rfl, hbc⟩))
      rename_i hq
      have ll := Nat.lt_of_lt_of_le ll0 hq.1.size
      have lh := Nat.lt_of_lt_of_le lh0 hq.1.size
      obtain ⟨bq2, lo0, up0, lo1, up1, lo2, up2, lo3, up3⟩ := hq
      rw [Bool.true_and] at ho
      go_wp2
      cases q2 : (decide ((1 : Int) ≤ k) && decide (k ≤ 1000)) with
      | false =>
        rw [q2] at ho
        have CC := hide (fun W => within_bel k 1 1000 false W q2)
        clear q2
        obtain rfl : false = o := by rw [← ho]; rfl
        clear ho
        rw [rounds_succ]
        go_wp2_with fail
        go_region_held3 (fun W' => Below w1.heap.size w1 W' ∧ W'.cell? ⟨w.heap.size + 1, 0, none⟩ = some (.int .i64 0) ∧ W'.cell? ⟨w.heap.size + 2, 0, none⟩ = some (.int .i64 120) ∧ W'.cell? ⟨w.heap.size + 1, 1, none⟩ = some (.int .i64 1) ∧ W'.cell? ⟨w.heap.size + 2, 1, none⟩ = some (.int .i64 1000) ∧ W'.cell? ⟨w.heap.size + 1, 2, none⟩ = some (.int .i64 1) ∧ W'.cell? ⟨w.heap.size + 2, 2, none⟩ = some (.int .i64 1000) ∧ W'.cell? ⟨w.heap.size + 1, 3, none⟩ = some (.int .i64 0) ∧ W'.cell? ⟨w.heap.size + 2, 3, none⟩ = some (.int .i64 1000000000))
          (first
          | exact ⟨bel_on bq2 (bel_draw1 _), lo0, up0, lo1, up1, lo2, up2, lo3, up3⟩
          | (go_split_ands
             refine ⟨bel_on (by assumption) hbc, cell_later hbc (by assumption), cell_later hbc (by assumption), cell_later hbc (by assumption), cell_later hbc (by assumption), cell_later hbc (by assumption), cell_later hbc (by assumption), cell_later hbc (by assumption), cell_later hbc (by assumption)⟩))
          (first | (go_at_call 103; refine ((unhide CC) _).mono ?_; rintro e w' ⟨rfl, hbc⟩))
        rename_i hq
        have HBF := hide (bel_on (unhide HB1) hq.1)
        clear hq
        go_wp2
        go_ret
        exact ⟨rfl, unhide HBF⟩
      | true =>
        rw [q2] at ho
        have CC := hide (fun W => within_bel k 1 1000 true W q2)
        clear q2
        rw [rounds_succ]
        go_wp2_with fail
        go_region_held3 (fun W' => Below w1.heap.size w1 W' ∧ W'.cell? ⟨w.heap.size + 1, 0, none⟩ = some (.int .i64 0) ∧ W'.cell? ⟨w.heap.size + 2, 0, none⟩ = some (.int .i64 120) ∧ W'.cell? ⟨w.heap.size + 1, 1, none⟩ = some (.int .i64 1) ∧ W'.cell? ⟨w.heap.size + 2, 1, none⟩ = some (.int .i64 1000) ∧ W'.cell? ⟨w.heap.size + 1, 2, none⟩ = some (.int .i64 1) ∧ W'.cell? ⟨w.heap.size + 2, 2, none⟩ = some (.int .i64 1000) ∧ W'.cell? ⟨w.heap.size + 1, 3, none⟩ = some (.int .i64 0) ∧ W'.cell? ⟨w.heap.size + 2, 3, none⟩ = some (.int .i64 1000000000))
          (first
          | exact ⟨bel_on bq2 (bel_draw1 _), lo0, up0, lo1, up1, lo2, up2, lo3, up3⟩
          | (go_split_ands
             refine ⟨bel_on (by assumption) hbc, cell_later hbc (by assumption), cell_later hbc (by assumption), cell_later hbc (by assumption), cell_later hbc (by assumption), cell_later hbc (by assumption), cell_later hbc (by assumption), cell_later hbc (by assumption), cell_later hbc (by assumption)⟩))
          (first | (go_at_call 103; refine ((unhide CC) _).mono ?_; rintro e w' ⟨rfl, hbc⟩))
        rename_i hq
        have ll := Nat.lt_of_lt_of_le ll0 hq.1.size
        have lh := Nat.lt_of_lt_of_le lh0 hq.1.size
        obtain ⟨bq3, lo0, up0, lo1, up1, lo2, up2, lo3, up3⟩ := hq
        rw [Bool.true_and] at ho
        go_wp2
        cases q3 : (decide ((0 : Int) ≤ n) && decide (n ≤ 1000000000)) with
        | false =>
          rw [q3] at ho
          have CC := hide (fun W => within_bel n 0 1000000000 false W q3)
          clear q3
          obtain rfl : false = o := by rw [← ho]
          clear ho
          rw [rounds_succ]
          go_wp2_with fail
          go_region_held3 (fun W' => Below w1.heap.size w1 W' ∧ W'.cell? ⟨w.heap.size + 1, 0, none⟩ = some (.int .i64 0) ∧ W'.cell? ⟨w.heap.size + 2, 0, none⟩ = some (.int .i64 120) ∧ W'.cell? ⟨w.heap.size + 1, 1, none⟩ = some (.int .i64 1) ∧ W'.cell? ⟨w.heap.size + 2, 1, none⟩ = some (.int .i64 1000) ∧ W'.cell? ⟨w.heap.size + 1, 2, none⟩ = some (.int .i64 1) ∧ W'.cell? ⟨w.heap.size + 2, 2, none⟩ = some (.int .i64 1000) ∧ W'.cell? ⟨w.heap.size + 1, 3, none⟩ = some (.int .i64 0) ∧ W'.cell? ⟨w.heap.size + 2, 3, none⟩ = some (.int .i64 1000000000))
            (first
            | exact ⟨bel_on bq3 (bel_draw1 _), lo0, up0, lo1, up1, lo2, up2, lo3, up3⟩
            | (go_split_ands
               refine ⟨bel_on (by assumption) hbc, cell_later hbc (by assumption), cell_later hbc (by assumption), cell_later hbc (by assumption), cell_later hbc (by assumption), cell_later hbc (by assumption), cell_later hbc (by assumption), cell_later hbc (by assumption), cell_later hbc (by assumption)⟩))
            (first | (go_at_call 103; refine ((unhide CC) _).mono ?_; rintro e w' ⟨rfl, hbc⟩))
          rename_i hq
          have HBF := hide (bel_on (unhide HB1) hq.1)
          clear hq
          go_wp2
          go_ret
          exact ⟨rfl, unhide HBF⟩
        | true =>
          rw [q3] at ho
          have CC := hide (fun W => within_bel n 0 1000000000 true W q3)
          clear q3
          obtain rfl : true = o := by rw [← ho]
          clear ho
          rw [rounds_succ]
          go_wp2_with fail
          go_region_held3 (fun W' => Below w1.heap.size w1 W' ∧ W'.cell? ⟨w.heap.size + 1, 0, none⟩ = some (.int .i64 0) ∧ W'.cell? ⟨w.heap.size + 2, 0, none⟩ = some (.int .i64 120) ∧ W'.cell? ⟨w.heap.size + 1, 1, none⟩ = some (.int .i64 1) ∧ W'.cell? ⟨w.heap.size + 2, 1, none⟩ = some (.int .i64 1000) ∧ W'.cell? ⟨w.heap.size + 1, 2, none⟩ = some (.int .i64 1) ∧ W'.cell? ⟨w.heap.size + 2, 2, none⟩ = some (.int .i64 1000) ∧ W'.cell? ⟨w.heap.size + 1, 3, none⟩ = some (.int .i64 0) ∧ W'.cell? ⟨w.heap.size + 2, 3, none⟩ = some (.int .i64 1000000000))
            (first
            | exact ⟨bel_on bq3 (bel_draw1 _), lo0, up0, lo1, up1, lo2, up2, lo3, up3⟩
            | (go_split_ands
               refine ⟨bel_on (by assumption) hbc, cell_later hbc (by assumption), cell_later hbc (by assumption), cell_later hbc (by assumption), cell_later hbc (by assumption), cell_later hbc (by assumption), cell_later hbc (by assumption), cell_later hbc (by assumption), cell_later hbc (by assumption)⟩))
            (first | (go_at_call 103; refine ((unhide CC) _).mono ?_; rintro e w' ⟨rfl, hbc⟩))
          rename_i hq
          have ll := Nat.lt_of_lt_of_le ll0 hq.1.size
          have lh := Nat.lt_of_lt_of_le lh0 hq.1.size
          obtain ⟨bq4, lo0, up0, lo1, up1, lo2, up2, lo3, up3⟩ := hq
          go_wp2
          rw [rounds_succ]
          go_wp2
          go_ret
          exact ⟨rfl, bel_on (unhide HB1) bq4⟩

end Go.Proofs.YtmomfkikogbdeaaGreatDoor

/- The contract of put: a coin is put at its place, if there is none of its point. -/
namespace Go.Proofs.YtmomfkikogbdeaaGreatDoor
open Go.RowKit

theorem own_slice {w : World} {base : Nat} {e : TypeId} {size : Nat} {v : Value} {n : Nat} {xs : List Value} (h : w.ownsRow base e size v n xs) : ∃ a c, v = .slice a n c := by
  rcases h.2 with ⟨rfl, rfl⟩ | ⟨g, cap, cur, rfl, _⟩
  · exact ⟨none, 0, rfl⟩
  · exact ⟨_, _, rfl⟩
def sixV (y : CV) : List Value := [.int .i64 y.1.1, .int .i64 y.1.2.1, .int .i64 (cv y.1), .slice y.2.1 y.2.2.1 y.2.2.2, .int .i64 (ch y.1), .bool (cr y.1)]
theorem flat_six (y : CV) : flatC [y] = sixV y := rfl

set_option maxRecDepth 10000 in
set_option maxHeartbeats 3200000 in
theorem pput_no (w0 w : World) (p : Nat) (v : Value) (K : List CV) (y : CV) (h : Pu w0 w p v K) (hs : Srt (K.map (·.1))) (hn : K.length ≤ 4096) (hf : hasP (pt y.1) (K.map (·.1)) = true) :
    Calls Tryz.prog 207 #[.pointer (some ⟨p, 0, none⟩), cnV y.1 y.2.1 y.2.2.1 y.2.2.2] w fun e w' => e = .returned (.bool false) ∧ Below w.heap.size w w' := by
  obtain ⟨a, c, rfl, hC, hS⟩ := h.coins
  obtain ⟨n, hn'⟩ : ∃ n, K.length = n := ⟨_, rfl⟩
  obtain ⟨k, hk⟩ : ∃ k, pos (pt y.1) (K.map (·.1)) = k := ⟨_, rfl⟩
  have hbox := h.box
  rw [hn'] at hC hbox hn
  unfold cnV
  obtain ⟨X, hX⟩ : ∃ X, X = w.alloc (.cells #[.int .i64 y.1.1, .int .i64 y.1.2.1, .int .i64 (cv y.1), .slice y.2.1 y.2.2.1 y.2.2.2, .int .i64 (ch y.1), .bool (cr y.1)] 124) := ⟨_, rfl⟩
  have hbX : Below w.heap.size w X := by rw [hX]; exact bel_new _ _
  have hX1 : X.heap[w.heap.size]? = some (.cells (sixV y).toArray 124 (0, 0)) := by rw [hX]; exact six_heap _ _ _ _ _ _ _ _
  have x0 := cell_of hX1 0 _ rfl
  have x1 := cell_of hX1 1 _ rfl
  have xp : X.cell? ⟨p, 0, none⟩ = some (.slice a n c) := cell_later hbX (cell_of (X := [.slice a n c]) hbox 0 _ rfl)
  have PL := hide (fun w' (hb : Below X.heap.size X w') => place_any a n c (K.map (·.1)) (pt y.1) k true w' hs (by omega) ((hC.later hbX).later hb) hk hf)
  unfold pt at PL
  have HBX := hide hbX
  clear hk hf hC hS hs hbox hbX hX1 h hn'
  go_enter Tryz.func207, Tryz.ntmps207
  go_wp2_with fail
  rw [← hX]
  clear hX
  go_region_held3 (fun w' => Below X.heap.size X w' ∧ w'.cell? ⟨w.heap.size, 0, none⟩ = some (.int .i64 y.1.1) ∧ w'.cell? ⟨w.heap.size, 1, none⟩ = some (.int .i64 y.1.2.1) ∧ w'.cell? ⟨p, 0, none⟩ = some (.slice a n c))
    (first
    | exact ⟨bel_draw1 _, x0, x1, xp⟩
    | (go_split_ands
       refine ⟨bel_on (by assumption) hbc, cell_later hbc (by assumption), cell_later hbc (by assumption), cell_later hbc (by assumption)⟩))
    (first | (go_at_call 250; go_split_ands; refine ((unhide PL) _ (by assumption)).mono ?_; rintro e w' ⟨rfl, hbc⟩))
  rename_i hH
  have HB := hide (bel_on (unhide HBX) hH.1)
  clear hH
  go_wp2
  go_ret
  exact ⟨rfl, unhide HB⟩

set_option maxRecDepth 10000 in
set_option maxHeartbeats 6400000 in
theorem pput_yes (w0 w : World) (p : Nat) (v : Value) (K : List CV) (y : CV) (h : Pu w0 w p v K) (hs : Srt (K.map (·.1))) (hn : K.length ≤ 4096) (hf : hasP (pt y.1) (K.map (·.1)) = false) (hy : LkAt w0 y) :
    Calls Tryz.prog 207 #[.pointer (some ⟨p, 0, none⟩), cnV y.1 y.2.1 y.2.2.1 y.2.2.2] w fun e w' => ∃ (v' : Value) (K' : List CV), e = .returned (.bool true) ∧ K'.map (·.1) = putC y.1 (K.map (·.1)) ∧ (∀ z ∈ K', z = y ∨ z ∈ K) ∧ K'.length = K.length + 1 ∧
      Pu w0 w' p v' K' ∧ Gr w w' (PuS p v) ∧ (v'.ownBlock = v.ownBlock ∨ ∀ k, v'.ownBlock = some k → w.heap.size ≤ k) := by
  obtain ⟨a, c, rfl, hC, hS⟩ := h.coins
  obtain ⟨n, hn'⟩ : ∃ n, K.length = n := ⟨_, rfl⟩
  obtain ⟨k, hk⟩ : ∃ k, pos (pt y.1) (K.map (·.1)) = k := ⟨_, rfl⟩
  have hbox := h.box
  have hO := h.own
  have hne := h.ne
  have hkn : k ≤ n := by rw [← hk, ← hn']; have := pos_le (pt y.1) (K.map (·.1)); simpa using this
  have hPD := putC_at hs hf
  rw [hk, ← List.map_take, ← List.map_drop, show y.1 :: (K.drop k).map (·.1) = (y :: K.drop k).map (·.1) from rfl, ← List.map_append] at hPD
  rw [hn'] at hC hbox hn hO hne
  unfold cnV
  obtain ⟨X, hX⟩ : ∃ X, X = w.alloc (.cells #[.int .i64 y.1.1, .int .i64 y.1.2.1, .int .i64 (cv y.1), .slice y.2.1 y.2.2.1 y.2.2.2, .int .i64 (ch y.1), .bool (cr y.1)] 124) := ⟨_, rfl⟩
  have hbX : Below w.heap.size w X := by rw [hX]; exact bel_new _ _
  have hX1 : X.heap[w.heap.size]? = some (.cells (sixV y).toArray 124 (0, 0)) := by rw [hX]; exact six_heap _ _ _ _ _ _ _ _
  have x0 := cell_of hX1 0 _ rfl
  have x1 := cell_of hX1 1 _ rfl
  have xp : X.cell? ⟨p, 0, none⟩ = some (.slice a n c) := cell_later hbX (cell_of (X := [.slice a n c]) hbox 0 _ rfl)
  have PL := hide (fun w' (hb : Below X.heap.size X w') => place_any a n c (K.map (·.1)) (pt y.1) k false w' hs (by omega) ((hC.later hbX).later hb) hk hf)
  unfold pt at PL
  have HBX := hide hbX
  have HX1 := hide hX1
  have HO := hide hO
  have HNE := hide hne
  have HPD := hide hPD
  have HP := hide h
  have HY := hide hy
  have HBOX := hide hbox
  have HN' := hide hn'
  have hpw : p < w.heap.size := h.lt
  clear hk hf hC hS hs hbox hbX hX1 h hn' hO hne hPD hy
  go_enter Tryz.func207, Tryz.ntmps207
  go_wp2_with fail
  rw [← hX]
  clear hX
  go_region_held3 (fun w' => Below X.heap.size X w' ∧ w'.cell? ⟨w.heap.size, 0, none⟩ = some (.int .i64 y.1.1) ∧ w'.cell? ⟨w.heap.size, 1, none⟩ = some (.int .i64 y.1.2.1) ∧ w'.cell? ⟨p, 0, none⟩ = some (.slice a n c))
    (first
    | exact ⟨bel_draw1 _, x0, x1, xp⟩
    | (go_split_ands
       refine ⟨bel_on (by assumption) hbc, cell_later hbc (by assumption), cell_later hbc (by assumption), cell_later hbc (by assumption)⟩))
    (first | (go_at_call 250; go_split_ands; refine ((unhide PL) _ (by assumption)).mono ?_; rintro e w' ⟨rfl, hbc⟩))
  rename_i hH
  have hb2 := bel_on (unhide HBX) hH.1
  have hh2 := (hH.1.block _ (lt_of_block (unhide HX1))).trans (unhide HX1)
  have c0 := cell_of hh2 0 _ rfl
  have c1 := cell_of hh2 1 _ rfl
  have c2 := cell_of hh2 2 _ rfl
  have c3 := cell_of hh2 3 _ rfl
  have c4 := cell_of hh2 4 _ rfl
  have c5 := cell_of hh2 5 _ rfl
  have xp2 := hH.2.2.2
  have hpl := World.block_lt_of_cell? _ _ xp2
  have hhp := (hb2.block p hpw).trans (unhide HBOX)
  have HB2 := hide hb2
  have INS : Hid (∀ W, W.heap = (w'.alloc (.cells #[.int .i64 y.1.1, .int .i64 y.1.2.1, .int .i64 (cv y.1), .slice y.2.1 y.2.2.1 y.2.2.2, .int .i64 (ch y.1), .bool (cr y.1)] 124)).heap → W.os = w'.os → W.tape = w'.tape → W.output = w'.output →
      Calls Tryz.prog 254 #[.slice a n c, .int .i64 k, .slice (some ⟨w'.heap.size, 0, none⟩) 1 1] W fun e w4 => ∃ a' c', e = .returned (.slice a' (n + 1) c') ∧ w4.cell? ⟨p, 0, none⟩ = some (.slice a n c) ∧ w4.frozen? ⟨p, 0, none⟩ = false ∧ p < w4.heap.size ∧ Hid (w4.ownsRow w0.heap.size 124 6 (.slice a' (n + 1) c') (n + 1) (flatC (K.take k ++ y :: K.drop k)) ∧ Gr w w4 (PuS p (.slice a n c)) ∧ ((Value.slice a' (n + 1) c').ownBlock = (Value.slice a n c).ownBlock ∨ ∀ k, (Value.slice a' (n + 1) c').ownBlock = some k → w.heap.size ≤ k) ∧ w4.heap[p]? = some (.cells #[.slice a n c] 235 (0, 0)))) := by
    intro W hW1 hW2 hW3 hW4
    have hbw : Below w'.heap.size w' W := ⟨hW2, hW3, hW4, by rw [hW1]; simp, fun i hi => by rw [hW1]; exact Below.heap_alloc w' _ i hi⟩
    have hbw2 := bel_on hb2 hbw
    have hOW : W.ownsRow w0.heap.size 124 6 (.slice a n c) n (flatC K) := (Gr.of (S := fun _ => False) hbw2).own (unhide HO) (fun _ _ q => q)
    have hvb : W.heap[w'.heap.size]? = some (.cells (flatC [y]).toArray 124 (0, 0)) := by rw [hW1]; exact six_heap _ _ _ _ _ _ _ _
    have hsz : w.heap.size < W.heap.size := Nat.lt_of_lt_of_le (lt_of_block hh2) hbw.size
    refine (insertCoin_any w0.heap.size a n c k w'.heap.size K y W hkn hn (unhide HN') (Nat.le_trans (unhide HP).bel.size (Nat.le_of_lt hsz)) hOW hvb ?_).mono ?_
    · intro e
      have := (unhide HO).lt _ e
      have h3 := hb2.size
      omega
    · rintro e w4 ⟨v', rfl, ho4, hg4, hn4⟩
      obtain ⟨a', c', rfl⟩ := own_slice ho4
      have hp4 : w4.heap[p]? = some (.cells #[.slice a n c] 235 (0, 0)) := by
        rw [hg4.block p (Nat.lt_trans hpw hsz) (fun e => (unhide HNE) e.symm), hbw2.block p hpw]
        exact unhide HBOX
      refine ⟨a', c', rfl, cell_of (X := [.slice a n c]) hp4 0 _ rfl, frozen_of hp4 0, lt_of_block hp4, ho4, (Gr.of hbw2).grown hg4 (fun k hk => .inl (.inr hk)), ?_, hp4⟩
      · rcases hn4 with q | q
        · exact .inl q
        · exact .inr fun k hk => Nat.le_trans (Nat.le_of_lt hsz) (q k hk)
  clear hH hbc hb2 hh2 xp x0 x1 hhp
  go_wp2_with fail
  go_region_with (go_at_call 254; refine ((unhide INS) _ ?_ ?_ ?_ ?_).mono ?_; rfl; rfl; rfl; rfl; rintro e w4 ⟨a', c', rfl, p4, p4f, p4l, H4⟩)
  all_goals
    go_wp2
    go_ret
    obtain ⟨ho4, hg4, hn4, hp4⟩ := unhide H4
    have hp := unhide HP
    have hl : (K.take k ++ y :: K.drop k).length = n + 1 := by
      have := unhide HN'
      simp only [List.length_append, List.length_take, List.length_cons, List.length_drop]
      omega
    have hnp : (Value.slice a' (n + 1) c').ownBlock ≠ some p := fun e => by
      rcases hn4 with q | q
      · rw [q] at e; exact (unhide HNE) e
      · have := q p e; omega
    have hsub : ∀ z ∈ K.take k ++ y :: K.drop k, z = y ∨ z ∈ K := fun z hz => by
      rcases List.mem_append.1 hz with q | q
      · exact .inr (List.mem_of_mem_take q)
      · rcases List.mem_cons.1 q with q | q
        · exact .inl q
        · exact .inr (List.mem_of_mem_drop q)
    have hgr := hg4.one p 0 (.inl (.inl rfl)) (.slice a' (n + 1) c')
    refine ⟨.slice a' (n + 1) c', K.take k ++ y :: K.drop k, rfl, (unhide HPD).symm, hsub, by rw [hl, unhide HN'], ⟨?_, hp.ge, box_set hp4, ?_, hnp, ?_⟩, ?_, ?_⟩
    · refine hgr.below hp.bel hp.bel.size (fun k hk => ?_)
      rcases hk with rfl | hk
      · exact hp.ge
      · exact own_lo (unhide HO) k hk
    · rw [hl]
      exact ((Gr.refl w4 (fun k => k = p)).one p 0 (.inl rfl) _).own ho4 (fun k hk e => hnp (by rw [hk, e]))
    · intro z hz
      rcases hsub z hz with rfl | q
      · exact unhide HY
      · exact hp.lk z q
    · rw [unhide HN']; exact hgr
    · rw [unhide HN']; exact hn4

end Go.Proofs.YtmomfkikogbdeaaGreatDoor

/- What doing and undoing a transaction makes of coins, in plain functions. Nothing of the program. -/
namespace Go.Proofs.YtmomfkikogbdeaaGreatDoor

/-- In by in: what is wrong, what was spent, what is left. -/
def spendGo (h : Int) : List InD → List CoinD → List CoinD → Int × List CoinD × List CoinD
  | [], S, L => (0, S, L)
  | x :: r, S, L => match takeD (x.1, x.2.1) L with
    | none => (7, [], [])
    | some (c, M) => if cr c = true ∧ h < ch c + 2 then (10, [], []) else if opensB (ck c) x.2.2 h = false then (8, [], []) else spendGo h r (S ++ [c]) M
def newC (name : Int) (i : Nat) (o : OutD) (h : Int) (r : Bool) : CoinD := (name, (i : Int), o.1, o.2, h, r)
def giveGo (name h : Int) (r : Bool) : Nat → List OutD → List CoinD → Int × List CoinD
  | _, [], L => (0, L)
  | i, o :: q, L => if hasP (name, (i : Int)) L = true then (6, []) else giveGo name h r (i + 1) q (putC (newC name i o h r) L)
def okN (n : Int) : Bool := decide (1 ≤ n) && decide (n ≤ 120)
def isR (t : TxD) : Bool := decide (t.2.1.length = 0)
def ckBoth (L : List CoinD) (t : TxD) : Int := if ckCoins L ≠ 0 then ckCoins L else chkTx t
def ckApply (L : List CoinD) (t : TxD) (name h : Int) : Int :=
  if ckBoth L t ≠ 0 then ckBoth L t else if (okN name && okH h) = false then 3 else if isR t = true ∧ t.1 ≠ h then 4 else 0
def covD (S : List CoinD) (t : TxD) : Int := if sumC S - sumO t.2.2 < 0 ∧ isR t = false then 9 else 0
/-- What is wrong, what comes, what was spent. -/
def apD (L : List CoinD) (t : TxD) (name h : Int) : Int × List CoinD × List CoinD :=
  if ckApply L t name h ≠ 0 then (ckApply L t name h, [], [])
  else
    if (spendGo h t.2.1 [] L).1 ≠ 0 then ((spendGo h t.2.1 [] L).1, [], [])
    else if covD (spendGo h t.2.1 [] L).2.1 t ≠ 0 then (covD (spendGo h t.2.1 [] L).2.1 t, [], [])
    else if (giveGo name h (isR t) 0 t.2.2 (spendGo h t.2.1 [] L).2.2).1 ≠ 0 then ((giveGo name h (isR t) 0 t.2.2 (spendGo h t.2.1 [] L).2.2).1, [], [])
    else if ckCoins (giveGo name h (isR t) 0 t.2.2 (spendGo h t.2.1 [] L).2.2).2 ≠ 0 then (ckCoins (giveGo name h (isR t) 0 t.2.2 (spendGo h t.2.1 [] L).2.2).2, [], [])
    else (0, (giveGo name h (isR t) 0 t.2.2 (spendGo h t.2.1 [] L).2.2).2, (spendGo h t.2.1 [] L).2.1)
end Go.Proofs.YtmomfkikogbdeaaGreatDoor
