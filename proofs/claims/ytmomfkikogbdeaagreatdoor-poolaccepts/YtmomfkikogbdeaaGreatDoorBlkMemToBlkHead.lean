/- Blocks as plain data and in memory; what is wrong with one. -/
import Derived.Test.YtmomfkikogbdeaaGreatDoorTxCheckBToTxCheckD
import Derived.Test.YtmomfkikogbdeaaGreatDoorCoinPlaceToCoinTake
namespace Go.Proofs.YtmomfkikogbdeaaGreatDoor
open Go.RowKit

/-- A block: its parent, height, work, nonce and transactions. -/
abbrev BlkD := Int × Int × Int × Int × List TxD
def TxAt (w : World) (b o : Nat) (t : TxD) : Prop :=
  w.cell? ⟨b, o, none⟩ = some (.int .i64 t.1) ∧ (∃ a n c, w.cell? ⟨b, o + 1, none⟩ = some (.slice a n c) ∧ InsAt w a n t.2.1 ∧ SlOk a n c) ∧ (∃ a n c, w.cell? ⟨b, o + 2, none⟩ = some (.slice a n c) ∧ OutsAt w a n t.2.2 ∧ SlOk a n c)
theorem TxAt.kept : KeptR TxAt := fun _ _ _ _ _ hb h => by
  obtain ⟨h1, ⟨a, n, c, h2, h3, h4⟩, a', n', c', h5, h6, h7⟩ := h
  exact ⟨cell_later hb h1, ⟨a, n, c, cell_later hb h2, h3.later hb, h4⟩, a', n', c', cell_later hb h5, h6.later hb, h7⟩
def TxsAt (w : World) (a : Option Addr) (len : Nat) (l : List TxD) : Prop := RowsAt TxAt 3 w a len l
theorem TxsAt.later {w w' : World} {a : Option Addr} {len : Nat} {l : List TxD} (h : TxsAt w a len l) (hb : Below w.heap.size w w') : TxsAt w' a len l := RowsAt.later TxAt.kept h hb

def headOk (p h k n : Int) : Bool := (decide (0 ≤ p) && decide (p ≤ 120)) && ((decide (1 ≤ h) && decide (h ≤ 1000)) && ((decide (1 ≤ k) && decide (k ≤ 1000)) && (decide (0 ≤ n) && decide (n ≤ 1000000000))))
def standsD (t : TxD) (i h : Int) : Bool := if 0 < i then !decide (t.2.1.length = 0) else decide (t.2.1.length = 0) && decide (t.1 = h)
def chkTs (h : Int) : Nat → List TxD → Int
  | _, [] => 0
  | i, t :: r => if chkTx t ≠ 0 then chkTx t else if standsD t i h = false then 4 else chkTs h (i + 1) r
def chkB (b : BlkD) : Int := if headOk b.1 b.2.1 b.2.2.1 b.2.2.2.1 = false then 3 else if 4 < b.2.2.2.2.length then 2 else if b.2.2.2.2.length = 0 then 4 else chkTs b.2.1 0 b.2.2.2.2
theorem chkTs_at (h : Int) (T : List TxD) (k : Nat) (hk : k < T.length) : chkTs h k (T.drop k) = if chkTx T[k] ≠ 0 then chkTx T[k] else if standsD T[k] k h = false then 4 else chkTs h (k + 1) (T.drop (k + 1)) := by
  rw [List.drop_eq_getElem_cons hk]; rfl
theorem chkTs_end (h : Int) (T : List TxD) (k : Nat) (hk : T.length ≤ k) : chkTs h k (T.drop k) = 0 := by
  rw [List.drop_of_length_le hk]; rfl

theorem five_heap (w : World) (a b c d e : Value) (t : TypeId) : (w.alloc (.cells #[a, b, c, d, e] t)).heap[w.heap.size]? = some (.cells [a, b, c, d, e].toArray t (0, 0)) := heap_alloc_new w _
theorem results_cell1 {fn : Func} {p : Tmp} {ty : TypeId} (h : fn.results = #[.cell p ty]) (tmps : Array Value) (P : Program) (w : World) :
    (results fn tmps).run P w = ((asAddr (tmps.getD p undef)).run P w).andThen fun a w₁ => (loadVar ty a).run P w₁ := by
  simp only [results, h]
  simp [Sem.run_bind, Result.andThen]

end Go.Proofs.YtmomfkikogbdeaaGreatDoor

/- Contracts of a block's head: headOf, headFits, standsRight. -/
namespace Go.Proofs.YtmomfkikogbdeaaGreatDoor
open Go.RowKit

set_option maxRecDepth 10000 in
set_option maxHeartbeats 1600000 in
theorem headOf_is (p h k n : Int) (a : Option Addr) (m c : Nat) (w : World) :
    Calls Tryz.prog 104 #[.agg #[.int .i64 p, .int .i64 h, .int .i64 k, .int .i64 n, .slice a m c]] w fun e w' => e = .returned (.agg #[.int .i64 p, .int .i64 h, .int .i64 k, .int .i64 n]) ∧ Below w.heap.size w w' := by
  have HB := hide (bel_on (bel_new w (.cells #[.int .i64 p, .int .i64 h, .int .i64 k, .int .i64 n, .slice a m c] 39)) (bel_new _ (.cells #[.int .i64 p, .int .i64 h, .int .i64 k, .int .i64 n] 187)))
  go_enter Tryz.func104, Tryz.ntmps104
  go_wp2
  (try simp only [Exit.inBlock, Exit.then])
  refine bodyPost_ret (v := .agg #[.int .i64 p, .int .i64 h, .int .i64 k, .int .i64 n]) ?_ rfl ⟨rfl, ?_⟩
  · rw [results_cell1 rfl]
    go_simp
  · exact unhide HB

set_option maxHeartbeats 800000 in
theorem stands_is (h : Int) (ai ao : Option Addr) (ni ci no co : Nat) (I : List InD) (O : List OutD) (i : Nat) (ht : Int) (o : Bool) (w : World) (hI : I.length = ni) (ho : standsD (h, I, O) i ht = o) :
    Calls Tryz.prog 153 #[.agg #[.int .i64 h, .slice ai ni ci, .slice ao no co], .int .i64 i, .int .i64 ht] w fun e w' => e = .returned (.bool o) ∧ Below w.heap.size w w' := by
  have HB := hide (bel_new w (.cells #[.int .i64 h, .slice ai ni ci, .slice ao no co] 59))
  unfold standsD at ho
  simp only at ho
  rw [hI] at ho
  clear hI
  by_cases h1 : i = 0
  · subst h1
    rw [if_neg (by decide)] at ho
    by_cases h2 : ni = 0
    · subst h2
      by_cases h3 : h = ht
      · subst h3
        obtain rfl : true = o := by rw [← ho]; simp
        clear ho
        go_enter Tryz.func153, Tryz.ntmps153
        go_wp2
        go_ret
        exact ⟨rfl, unhide HB⟩
      · obtain rfl : false = o := by rw [← ho]; simp [h3]
        have g : (h == ht) = false := by simp [h3]
        clear ho h3
        go_enter Tryz.func153, Tryz.ntmps153
        go_wp2
        go_ret
        exact ⟨by rw [← g]; rfl, unhide HB⟩
    · obtain rfl : false = o := by rw [← ho]; simp [h2]
      have g : ((ni : Int) == 0) = false := by simp [h2]
      clear ho
      go_enter Tryz.func153, Tryz.ntmps153
      go_wp2
      go_ret
      exact ⟨rfl, unhide HB⟩
  · have hi : 0 < (i : Int) := by omega
    rw [if_pos hi] at ho
    by_cases h2 : ni = 0
    · subst h2
      obtain rfl : false = o := by rw [← ho]; simp
      clear ho
      go_enter Tryz.func153, Tryz.ntmps153
      go_wp2
      go_ret
      exact ⟨rfl, unhide HB⟩
    · obtain rfl : true = o := by rw [← ho]; simp [h2]
      have g : ((ni : Int) == 0) = false := by simp [h2]
      clear ho
      go_enter Tryz.func153, Tryz.ntmps153
      go_wp2
      go_ret
      exact ⟨rfl, unhide HB⟩

theorem index_four (a b c d : Value) (w : World) :
    (Instr.index 187 (.agg #[a, b, c, d]) (.int .i64 0)).run Tryz.prog w = .ok a w ∧ (Instr.index 187 (.agg #[a, b, c, d]) (.int .i64 1)).run Tryz.prog w = .ok b w ∧
    (Instr.index 187 (.agg #[a, b, c, d]) (.int .i64 2)).run Tryz.prog w = .ok c w ∧ (Instr.index 187 (.agg #[a, b, c, d]) (.int .i64 3)).run Tryz.prog w = .ok d w := by
  refine ⟨?_, ?_, ?_, ?_⟩ <;> kernel_rfl
theorem within_bel (n lo hi : Int) (b : Bool) (w : World) (hb : (decide (lo ≤ n) && decide (n ≤ hi)) = b) :
    Calls Tryz.prog 103 #[.int .i64 n, .int .i64 lo, .int .i64 hi] w fun e w' => e = .returned (.bool b) ∧ Below w.heap.size w w' :=
  (within_is n lo hi b w hb.symm).mono fun _ _ ⟨h1, h2⟩ => ⟨h1, h2 ▸ Below.refl _ _⟩
theorem four_heap (w : World) (a b c d : Value) (t : TypeId) : (w.alloc (.cells #[a, b, c, d] t)).heap[w.heap.size]? = some (.cells [a, b, c, d].toArray t (0, 0)) := heap_alloc_new w _

set_option maxRecDepth 100000 in
set_option maxHeartbeats 3200000 in
theorem headFits_is (p h k n : Int) (a : Option Addr) (m c : Nat) (o : Bool) (w : World) (ho : headOk p h k n = o) :
    Calls Tryz.prog 151 #[.agg #[.int .i64 p, .int .i64 h, .int .i64 k, .int .i64 n, .slice a m c]] w fun e w' => e = .returned (.bool o) ∧ Below w.heap.size w w' := by
  obtain ⟨X, hX⟩ : ∃ X, X = ((w.alloc (.cells #[.int .i64 p, .int .i64 h, .int .i64 k, .int .i64 n, .slice a m c] 39)).alloc (.cells #[.int .i64 0, .int .i64 1, .int .i64 1, .int .i64 0] 187)).alloc (.cells #[.int .i64 120, .int .i64 1000, .int .i64 1000, .int .i64 1000000000] 187) := ⟨_, rfl⟩
  have hbX : Below w.heap.size w X := by rw [hX]; exact bel_on (bel_on (bel_new _ _) (bel_new _ _)) (bel_new _ _)
  have hL : X.heap[w.heap.size + 1]? = some (.cells [.int .i64 0, .int .i64 1, .int .i64 1, .int .i64 0].toArray 187 (0, 0)) := by
    rw [hX, Below.heap_alloc _ _ _ (by simp)]
    have := four_heap (w.alloc (.cells #[.int .i64 p, .int .i64 h, .int .i64 k, .int .i64 n, .slice a m c] 39)) (.int .i64 0) (.int .i64 1) (.int .i64 1) (.int .i64 0) 187
    rw [show (w.alloc (.cells #[.int .i64 p, .int .i64 h, .int .i64 k, .int .i64 n, .slice a m c] 39)).heap.size = w.heap.size + 1 by simp] at this
    exact this
  have hH : X.heap[w.heap.size + 2]? = some (.cells [.int .i64 120, .int .i64 1000, .int .i64 1000, .int .i64 1000000000].toArray 187 (0, 0)) := by
    rw [hX]
    have := four_heap ((w.alloc (.cells #[.int .i64 p, .int .i64 h, .int .i64 k, .int .i64 n, .slice a m c] 39)).alloc (.cells #[.int .i64 0, .int .i64 1, .int .i64 1, .int .i64 0] 187)) (.int .i64 120) (.int .i64 1000) (.int .i64 1000) (.int .i64 1000000000) 187
    rw [show ((w.alloc (.cells #[.int .i64 p, .int .i64 h, .int .i64 k, .int .i64 n, .slice a m c] 39)).alloc (.cells #[.int .i64 0, .int .i64 1, .int .i64 1, .int .i64 0] 187)).heap.size = w.heap.size + 2 by simp] at this
    exact this
  have C := hide (headOf_is p h k n a m c X)
  have HBX := hide hbX
  have HL := hide hL
  have HH := hide hH
  have hi0 := fun w => (index_four (.int .i64 p) (.int .i64 h) (.int .i64 k) (.int .i64 n) w).1
  have hi1 := fun w => (index_four (.int .i64 p) (.int .i64 h) (.int .i64 k) (.int .i64 n) w).2.1
  have hi2 := fun w => (index_four (.int .i64 p) (.int .i64 h) (.int .i64 k) (.int .i64 n) w).2.2.1
  have hi3 := fun w => (index_four (.int .i64 p) (.int .i64 h) (.int .i64 k) (.int .i64 n) w).2.2.2
  unfold headOk at ho
  clear hbX hL hH
  go_enter Tryz.func151, Tryz.ntmps151
  go_wp2_with fail
  rw [← hX]
  clear hX
  go_wp2_with fail
  refine (unhide C).mono ?_
  rintro e w1 ⟨rfl, hb1⟩
  have HB1 := hide (bel_on (unhide HBX) hb1)
  have hl1 := (hb1.block _ (lt_of_block (unhide HL))).trans (unhide HL)
  have hh1 := (hb1.block _ (lt_of_block (unhide HH))).trans (unhide HH)
  have lo0 := cell_of hl1 0 _ rfl
  have up0 := cell_of hh1 0 _ rfl
  have lo1 := cell_of hl1 1 _ rfl
  have up1 := cell_of hh1 1 _ rfl
  have lo2 := cell_of hl1 2 _ rfl
  have up2 := cell_of hh1 2 _ rfl
  have lo3 := cell_of hl1 3 _ rfl
  have up3 := cell_of hh1 3 _ rfl
  have ll0 := lt_of_block hl1
  have lh0 := lt_of_block hh1
  clear hb1 hl1 hh1 C HL HH HBX
  go_wp2
  have bq0 : Below w1.heap.size w1 w1 := Below.refl _ _
  refine wp_loop_rounds 5 ?_
  cases q0 : (decide ((0 : Int) ≤ p) && decide (p ≤ 120)) with
  | false =>
    rw [q0] at ho
    have CC := hide (fun W => within_bel p 0 120 false W q0)
    clear q0
    obtain rfl : false = o := by rw [← ho]; rfl
    clear ho
    rw [rounds_succ]
    go_wp2_with fail
    go_region_held3 (fun W' => Below w1.heap.size w1 W' ∧ W'.cell? ⟨w.heap.size + 1, 0, none⟩ = some (.int .i64 0) ∧ W'.cell? ⟨w.heap.size + 2, 0, none⟩ = some (.int .i64 120) ∧ W'.cell? ⟨w.heap.size + 1, 1, none⟩ = some (.int .i64 1) ∧ W'.cell? ⟨w.heap.size + 2, 1, none⟩ = some (.int .i64 1000) ∧ W'.cell? ⟨w.heap.size + 1, 2, none⟩ = some (.int .i64 1) ∧ W'.cell? ⟨w.heap.size + 2, 2, none⟩ = some (.int .i64 1000) ∧ W'.cell? ⟨w.heap.size + 1, 3, none⟩ = some (.int .i64 0) ∧ W'.cell? ⟨w.heap.size + 2, 3, none⟩ = some (.int .i64 1000000000))
      (first
      | exact ⟨bel_on bq0 (bel_draw1 _), lo0, up0, lo1, up1, lo2, up2, lo3, up3⟩
      | (go_split_ands
         refine ⟨bel_on (by assumption) hbc, cell_later hbc (by assumption), cell_later hbc (by assumption), cell_later hbc (by assumption), cell_later hbc (by assumption), cell_later hbc (by assumption), cell_later hbc (by assumption), cell_later hbc (by assumption), cell_later hbc (by assumption)⟩))
      (first | (go_at_call 103; refine ((unhide CC) _).mono ?_; rintro e w' ⟨rfl, hbc⟩))
    rename_i hq
    have HBF := hide (bel_on (unhide HB1) hq.1)
    clear hq
    go_wp2
    go_ret
    exact ⟨rfl, unhide HBF⟩
  | true =>
    rw [q0] at ho
    have CC := hide (fun W => within_bel p 0 120 true W q0)
    clear q0
    rw [rounds_succ]
    go_wp2_with fail
    go_region_held3 (fun W' => Below w1.heap.size w1 W' ∧ W'.cell? ⟨w.heap.size + 1, 0, none⟩ = some (.int .i64 0) ∧ W'.cell? ⟨w.heap.size + 2, 0, none⟩ = some (.int .i64 120) ∧ W'.cell? ⟨w.heap.size + 1, 1, none⟩ = some (.int .i64 1) ∧ W'.cell? ⟨w.heap.size + 2, 1, none⟩ = some (.int .i64 1000) ∧ W'.cell? ⟨w.heap.size + 1, 2, none⟩ = some (.int .i64 1) ∧ W'.cell? ⟨w.heap.size + 2, 2, none⟩ = some (.int .i64 1000) ∧ W'.cell? ⟨w.heap.size + 1, 3, none⟩ = some (.int .i64 0) ∧ W'.cell? ⟨w.heap.size + 2, 3, none⟩ = some (.int .i64 1000000000))
      (first
      | exact ⟨bel_on bq0 (bel_draw1 _), lo0, up0, lo1, up1, lo2, up2, lo3, up3⟩
      | (go_split_ands
         refine ⟨bel_on (by assumption) hbc, cell_later hbc (by assumption), cell_later hbc (by assumption), cell_later hbc (by assumption), cell_later hbc (by assumption), cell_later hbc (by assumption), cell_later hbc (by assumption), cell_later hbc (by assumption), cell_later hbc (by assumption)⟩))
      (first | (go_at_call 103; refine ((unhide CC) _).mono ?_; rintro e w' ⟨rfl, hbc⟩))
    rename_i hq
    have ll := Nat.lt_of_lt_of_le ll0 hq.1.size
    have lh := Nat.lt_of_lt_of_le lh0 hq.1.size
    obtain ⟨bq1, lo0, up0, lo1, up1, lo2, up2, lo3, up3⟩ := hq
    rw [Bool.true_and] at ho
    go_wp2
    cases q1 : (decide ((1 : Int) ≤ h) && decide (h ≤ 1000)) with
    | false =>
      rw [q1] at ho
      have CC := hide (fun W => within_bel h 1 1000 false W q1)
      clear q1
      obtain rfl : false = o := by rw [← ho]; rfl
      clear ho
      rw [rounds_succ]
      go_wp2_with fail
      go_region_held3 (fun W' => Below w1.heap.size w1 W' ∧ W'.cell? ⟨w.heap.size + 1, 0, none⟩ = some (.int .i64 0) ∧ W'.cell? ⟨w.heap.size + 2, 0, none⟩ = some (.int .i64 120) ∧ W'.cell? ⟨w.heap.size + 1, 1, none⟩ = some (.int .i64 1) ∧ W'.cell? ⟨w.heap.size + 2, 1, none⟩ = some (.int .i64 1000) ∧ W'.cell? ⟨w.heap.size + 1, 2, none⟩ = some (.int .i64 1) ∧ W'.cell? ⟨w.heap.size + 2, 2, none⟩ = some (.int .i64 1000) ∧ W'.cell? ⟨w.heap.size + 1, 3, none⟩ = some (.int .i64 0) ∧ W'.cell? ⟨w.heap.size + 2, 3, none⟩ = some (.int .i64 1000000000))
        (first
        | exact ⟨bel_on bq1 (bel_draw1 _), lo0, up0, lo1, up1, lo2, up2, lo3, up3⟩
        | (go_split_ands
           refine ⟨bel_on (by assumption) hbc, cell_later hbc (by assumption), cell_later hbc (by assumption), cell_later hbc (by assumption), cell_later hbc (by assumption), cell_later hbc (by assumption), cell_later hbc (by assumption), cell_later hbc (by assumption), cell_later hbc (by assumption)⟩))
        (first | (go_at_call 103; refine ((unhide CC) _).mono ?_; rintro e w' ⟨rfl, hbc⟩))
      rename_i hq
      have HBF := hide (bel_on (unhide HB1) hq.1)
      clear hq
      go_wp2
      go_ret
      exact ⟨rfl, unhide HBF⟩
    | true =>
      rw [q1] at ho
      have CC := hide (fun W => within_bel h 1 1000 true W q1)
      clear q1
      rw [rounds_succ]
      go_wp2_with fail
      go_region_held3 (fun W' => Below w1.heap.size w1 W' ∧ W'.cell? ⟨w.heap.size + 1, 0, none⟩ = some (.int .i64 0) ∧ W'.cell? ⟨w.heap.size + 2, 0, none⟩ = some (.int .i64 120) ∧ W'.cell? ⟨w.heap.size + 1, 1, none⟩ = some (.int .i64 1) ∧ W'.cell? ⟨w.heap.size + 2, 1, none⟩ = some (.int .i64 1000) ∧ W'.cell? ⟨w.heap.size + 1, 2, none⟩ = some (.int .i64 1) ∧ W'.cell? ⟨w.heap.size + 2, 2, none⟩ = some (.int .i64 1000) ∧ W'.cell? ⟨w.heap.size + 1, 3, none⟩ = some (.int .i64 0) ∧ W'.cell? ⟨w.heap.size + 2, 3, none⟩ = some (.int .i64 1000000000))
        (first
        | exact ⟨bel_on bq1 (bel_draw1 _), lo0, up0, lo1, up1, lo2, up2, lo3, up3⟩
        | (go_split_ands
           refine ⟨bel_on (by assumption) hbc, cell_later hbc (by assumption), cell_later hbc (by assumption), cell_later hbc (by assumption), cell_later hbc (by assumption), cell_later hbc (by assumption), cell_later hbc (by assumption), cell_later hbc (by assumption), cell_later hbc (by assumption)⟩))
        (first | (go_at_call 103; refine ((unhide CC) _).mono ?_; rintro e w' ⟨rfl, hbc⟩))
      rename_i hq
      have ll := Nat.lt_of_lt_of_le ll0 hq.1.size
      have lh := Nat.lt_of_lt_of_le lh0 hq.1.size
      obtain ⟨bq2, lo0, up0, lo1, up1, lo2, up2, lo3, up3⟩ := hq
      rw [Bool.true_and] at ho
      go_wp2
      cases q2 : (decide ((1 : Int) ≤ k) && decide (k ≤ 1000)) with
      | false =>
        rw [q2] at ho
        have CC := hide (fun W => within_bel k 1 1000 false W q2)
        clear q2
        obtain rfl : false = o := by rw [← ho]; rfl
        clear ho
        rw [rounds_succ]
        go_wp2_with fail
        go_region_held3 (fun W' => Below w1.heap.size w1 W' ∧ W'.cell? ⟨w.heap.size + 1, 0, none⟩ = some (.int .i64 0) ∧ W'.cell? ⟨w.heap.size + 2, 0, none⟩ = some (.int .i64 120) ∧ W'.cell? ⟨w.heap.size + 1, 1, none⟩ = some (.int .i64 1) ∧ W'.cell? ⟨w.heap.size + 2, 1, none⟩ = some (.int .i64 1000) ∧ W'.cell? ⟨w.heap.size + 1, 2, none⟩ = some (.int .i64 1) ∧ W'.cell? ⟨w.heap.size + 2, 2, none⟩ = some (.int .i64 1000) ∧ W'.cell? ⟨w.heap.size + 1, 3, none⟩ = some (.int .i64 0) ∧ W'.cell? ⟨w.heap.size + 2, 3, none⟩ = some (.int .i64 1000000000))
          (first
          | exact ⟨bel_on bq2 (bel_draw1 _), lo0, up0, lo1, up1, lo2, up2, lo3, up3⟩
          | (go_split_ands
             refine ⟨bel_on (by assumption) hbc, cell_later hbc (by assumption), cell_later hbc (by assumption), cell_later hbc (by assumption), cell_later hbc (by assumption), cell_later hbc (by assumption), cell_later hbc (by assumption), cell_later hbc (by assumption), cell_later hbc (by assumption)⟩))
          (first | (go_at_call 103; refine ((unhide CC) _).mono ?_; rintro e w' ⟨rfl, hbc⟩))
        rename_i hq
        have HBF := hide (bel_on (unhide HB1) hq.1)
        clear hq
        go_wp2
        go_ret
        exact ⟨rfl, unhide HBF⟩
      | true =>
        rw [q2] at ho
        have CC := hide (fun W => within_bel k 1 1000 true W q2)
        clear q2
        rw [rounds_succ]
        go_wp2_with fail
        go_region_held3 (fun W' => Below w1.heap.size w1 W' ∧ W'.cell? ⟨w.heap.size + 1, 0, none⟩ = some (.int .i64 0) ∧ W'.cell? ⟨w.heap.size + 2, 0, none⟩ = some (.int .i64 120) ∧ W'.cell? ⟨w.heap.size + 1, 1, none⟩ = some (.int .i64 1) ∧ W'.cell? ⟨w.heap.size + 2, 1, none⟩ = some (.int .i64 1000) ∧ W'.cell? ⟨w.heap.size + 1, 2, none⟩ = some (.int .i64 1) ∧ W'.cell? ⟨w.heap.size + 2, 2, none⟩ = some (.int .i64 1000) ∧ W'.cell? ⟨w.heap.size + 1, 3, none⟩ = some (.int .i64 0) ∧ W'.cell? ⟨w.heap.size + 2, 3, none⟩ = some (.int .i64 1000000000))
          (first
          | exact ⟨bel_on bq2 (bel_draw1 _), lo0, up0, lo1, up1, lo2, up2, lo3, up3⟩
          | (go_split_ands
             refine ⟨bel_on (by assumption) hbc, cell_later hbc (by assumption), cell_later hbc (by assumption), cell_later hbc (by assumption), cell_later hbc (by assumption), cell_later hbc (by assumption), cell_later hbc (by assumption), cell_later hbc (by assumption), cell_later hbc (by assumption)⟩))
          (first | (go_at_call 103; refine ((unhide CC) _).mono ?_; rintro e w' ⟨rfl, hbc⟩))
        rename_i hq
        have ll := Nat.lt_of_lt_of_le ll0 hq.1.size
        have lh := Nat.lt_of_lt_of_le lh0 hq.1.size
        obtain ⟨bq3, lo0, up0, lo1, up1, lo2, up2, lo3, up3⟩ := hq
        rw [Bool.true_and] at ho
        go_wp2
        cases q3 : (decide ((0 : Int) ≤ n) && decide (n ≤ 1000000000)) with
        | false =>
          rw [q3] at ho
          have CC := hide (fun W => within_bel n 0 1000000000 false W q3)
          clear q3
          obtain rfl : false = o := by rw [← ho]
          clear ho
          rw [rounds_succ]
          go_wp2_with fail
          go_region_held3 (fun W' => Below w1.heap.size w1 W' ∧ W'.cell? ⟨w.heap.size + 1, 0, none⟩ = some (.int .i64 0) ∧ W'.cell? ⟨w.heap.size + 2, 0, none⟩ = some (.int .i64 120) ∧ W'.cell? ⟨w.heap.size + 1, 1, none⟩ = some (.int .i64 1) ∧ W'.cell? ⟨w.heap.size + 2, 1, none⟩ = some (.int .i64 1000) ∧ W'.cell? ⟨w.heap.size + 1, 2, none⟩ = some (.int .i64 1) ∧ W'.cell? ⟨w.heap.size + 2, 2, none⟩ = some (.int .i64 1000) ∧ W'.cell? ⟨w.heap.size + 1, 3, none⟩ = some (.int .i64 0) ∧ W'.cell? ⟨w.heap.size + 2, 3, none⟩ = some (.int .i64 1000000000))
            (first
            | exact ⟨bel_on bq3 (bel_draw1 _), lo0, up0, lo1, up1, lo2, up2, lo3, up3⟩
            | (go_split_ands
               refine ⟨bel_on (by assumption) hbc, cell_later hbc (by assumption), cell_later hbc (by assumption), cell_later hbc (by assumption), cell_later hbc (by assumption), cell_later hbc (by assumption), cell_later hbc (by assumption), cell_later hbc (by assumption), cell_later hbc (by assumption)⟩))
            (first | (go_at_call 103; refine ((unhide CC) _).mono ?_; rintro e w' ⟨rfl, hbc⟩))
          rename_i hq
          have HBF := hide (bel_on (unhide HB1) hq.1)
          clear hq
          go_wp2
          go_ret
          exact ⟨rfl, unhide HBF⟩
        | true =>
          rw [q3] at ho
          have CC := hide (fun W => within_bel n 0 1000000000 true W q3)
          clear q3
          obtain rfl : true = o := by rw [← ho]
          clear ho
          rw [rounds_succ]
          go_wp2_with fail
          go_region_held3 (fun W' => Below w1.heap.size w1 W' ∧ W'.cell? ⟨w.heap.size + 1, 0, none⟩ = some (.int .i64 0) ∧ W'.cell? ⟨w.heap.size + 2, 0, none⟩ = some (.int .i64 120) ∧ W'.cell? ⟨w.heap.size + 1, 1, none⟩ = some (.int .i64 1) ∧ W'.cell? ⟨w.heap.size + 2, 1, none⟩ = some (.int .i64 1000) ∧ W'.cell? ⟨w.heap.size + 1, 2, none⟩ = some (.int .i64 1) ∧ W'.cell? ⟨w.heap.size + 2, 2, none⟩ = some (.int .i64 1000) ∧ W'.cell? ⟨w.heap.size + 1, 3, none⟩ = some (.int .i64 0) ∧ W'.cell? ⟨w.heap.size + 2, 3, none⟩ = some (.int .i64 1000000000))
            (first
            | exact ⟨bel_on bq3 (bel_draw1 _), lo0, up0, lo1, up1, lo2, up2, lo3, up3⟩
            | (go_split_ands
               refine ⟨bel_on (by assumption) hbc, cell_later hbc (by assumption), cell_later hbc (by assumption), cell_later hbc (by assumption), cell_later hbc (by assumption), cell_later hbc (by assumption), cell_later hbc (by assumption), cell_later hbc (by assumption), cell_later hbc (by assumption)⟩))
            (first | (go_at_call 103; refine ((unhide CC) _).mono ?_; rintro e w' ⟨rfl, hbc⟩))
          rename_i hq
          have ll := Nat.lt_of_lt_of_le ll0 hq.1.size
          have lh := Nat.lt_of_lt_of_le lh0 hq.1.size
          obtain ⟨bq4, lo0, up0, lo1, up1, lo2, up2, lo3, up3⟩ := hq
          go_wp2
          rw [rounds_succ]
          go_wp2
          go_ret
          exact ⟨rfl, bel_on (unhide HB1) bq4⟩

end Go.Proofs.YtmomfkikogbdeaaGreatDoor
