/- The contract of the reference's Applied: of right coins and a right transaction it answers as Apply (written by a program of ours: mkapplied.py). -/
import Derived.Test.YtepmnpapdknocaaGreatDoorRefApM
import Derived.Test.YtepmnpapdknocaaGreatDoorRefConcat
import Derived.Test.YtepmnpapdknocaaGreatDoorRefFee
import Derived.Test.YtepmnpapdknocaaGreatDoorRefOpened
import Derived.Test.YtepmnpapdknocaaGreatDoorCoinApplyB
namespace Go.Proofs.YtepmnpapdknocaaGreatDoor
open Go.RowKit

set_option maxHeartbeats 800000 in
theorem appfail_is (e : Int) (w : World) : Calls Tryz.prog 83 #[.int .i64 e] w fun r w' => r = .returned (.tuple #[.slice none 0 0, .agg #[.slice none 0 0], .int .i64 e]) ∧ Below w.heap.size w w' := by
  go_enter Tryz.func83, Tryz.ntmps83
  go_wp2
  (try simp only [Exit.inBlock, Exit.then])
  refine bodyPost_ret (v := .tuple #[.slice none 0 0, .agg #[.slice none 0 0], .int .i64 e]) ?_ rfl ?_
  · rw [results_tct rfl]
    go_simp
  · exact ⟨rfl, bel_new _ _⟩

theorem both_zero {L : List CoinD} {t : TxD} (hRC : RightC L) (hTx : chkTx t = 0) : ckBoth L t = 0 := by
  unfold ckBoth
  rw [(ckCoins_zero L).2 hRC, if_neg (by decide)]
  exact hTx
theorem apD_range {L : List CoinD} {t : TxD} {name ht x : Int} {M S : List CoinD} (hRC : RightC L) (hTx : chkTx t = 0) (hb : (okN name && okH ht) = false) (hx : apD L t name ht = (x, M, S)) : (x, M, S) = ((3 : Int), ([] : List CoinD), ([] : List CoinD)) := by
  have e : ckApply L t name ht = 3 := by
    unfold ckApply
    rw [both_zero hRC hTx, if_neg (by decide), if_pos hb]
  rw [← hx]
  unfold apD
  rw [e, if_pos (by decide)]
theorem apD_form {L : List CoinD} {t : TxD} {name ht x : Int} {M S : List CoinD} (hRC : RightC L) (hTx : chkTx t = 0) (hb : (okN name && okH ht) = true) (hr : isR t = true ∧ t.1 ≠ ht) (hx : apD L t name ht = (x, M, S)) : (x, M, S) = ((4 : Int), ([] : List CoinD), ([] : List CoinD)) := by
  have e : ckApply L t name ht = 4 := by
    unfold ckApply
    rw [both_zero hRC hTx, if_neg (by decide), if_neg (by rw [hb]; decide), if_pos hr]
  rw [← hx]
  unfold apD
  rw [e, if_pos (by decide)]
theorem ckApply_ok {L : List CoinD} {t : TxD} {name ht : Int} (hRC : RightC L) (hTx : chkTx t = 0) (hb : (okN name && okH ht) = true) (hr : ¬ (isR t = true ∧ t.1 ≠ ht)) : ckApply L t name ht = 0 := by
  unfold ckApply
  rw [both_zero hRC hTx, if_neg (by decide), if_neg (by rw [hb]; decide), if_neg hr]

set_option maxRecDepth 10000 in
set_option maxHeartbeats 3200000 in
theorem applied_n1 (a : Option Addr) (n c : Nat) (L : List CoinD) (h : Int) (ai ao : Option Addr) (ni ci no co : Nat) (I : List InD) (O : List OutD) (name ht : Int) (x : Int) (M S : List CoinD) (w : World) (hRC : RightC L) (hTx : chkTx (h, I, O) = 0) (hx : apD L (h, I, O) name ht = (x, M, S)) (n1 : name < 1) :
    Calls Tryz.prog 42 #[.slice a n c, .agg #[.int .i64 h, .slice ai ni ci, .slice ao no co], .int .i64 name, .int .i64 ht] w fun e w' => ApR w w' x M S e := by
  obtain ⟨X0, hX0⟩ : ∃ X0, X0 = (w.alloc (.cells #[.int .i64 h, .slice ai ni ci, .slice ao no co] 74)).alloc (.cells #[.slice none 0 0] 68) := ⟨_, rfl⟩
  have hb0 : Below w.heap.size w X0 := by rw [hX0]; exact bel_on (bel_new _ _) (bel_new _ _)
  have hX1 : X0.heap[w.heap.size]? = some (.cells [.int .i64 h, .slice ai ni ci, .slice ao no co].toArray 74 (0, 0)) := by
    rw [hX0, Below.heap_alloc _ _ _ (by simp)]; exact three_heap _ _ _ _ _
  have hX2 : X0.heap[w.heap.size + 1]? = some (.cells [.slice none 0 0].toArray 68 (0, 0)) := by
    rw [hX0]
    have := heap_alloc_new (w.alloc (.cells #[.int .i64 h, .slice ai ni ci, .slice ao no co] 74)) (.cells #[.slice none 0 0] 68)
    rw [show (w.alloc (.cells #[.int .i64 h, .slice ai ni ci, .slice ao no co] 74)).heap.size = w.heap.size + 1 by simp] at this
    exact this
  have HE : Hid ((x, M, S) = ((3 : Int), ([] : List CoinD), ([] : List CoinD)) ∧ w.heap.size ≤ w.heap.size + 1) := ⟨apD_range hRC hTx (by unfold okN okH; simp only [Bool.and_eq_false_iff, decide_eq_false_iff_not]; omega) hx, Nat.le_succ _⟩
  have BU := hide hX2
  have HB := hide hb0
  have xx0 := cell_of hX1 0 _ rfl
  have xx1 := cell_of hX1 1 _ rfl
  have xx2 := cell_of hX1 2 _ rfl
  have xxl := lt_of_block hX1
  clear hRC hTx hx hX1 hX2 hb0
  go_enter Tryz.func42, Tryz.ntmps42
  go_wp2_with fail
  rw [← hX0]
  clear hX0
  have CF := hide (appfail_is 3 X0)
  go_wp2_with fail
  refine (unhide CF).mono ?_
  rintro e wf ⟨rfl, hbf⟩
  have BUF := hide ((hbf.block _ (lt_of_block (unhide BU))).trans (unhide BU))
  have HBF := hide (bel_on (unhide HB) hbf)
  have uuc := cell_of (unhide BUF) 0 _ rfl
  have uuf := frozen_of (unhide BUF) 0
  have uul := lt_of_block (unhide BUF)
  clear hbf CF
  go_wp2
  (try simp only [Exit.inBlock, Exit.then])
  refine bodyPost_ret (v := .tuple #[.slice none 0 0, .agg #[.slice none 0 0], .int .i64 3]) ?_ rfl ?_
  · rw [results_tct rfl]
    go_simp
  · exact ap_err (unhide HE) (unhide HBF)

set_option maxRecDepth 10000 in
set_option maxHeartbeats 3200000 in
theorem applied_n2 (a : Option Addr) (n c : Nat) (L : List CoinD) (h : Int) (ai ao : Option Addr) (ni ci no co : Nat) (I : List InD) (O : List OutD) (name ht : Int) (x : Int) (M S : List CoinD) (w : World) (hRC : RightC L) (hTx : chkTx (h, I, O) = 0) (hx : apD L (h, I, O) name ht = (x, M, S)) (n1 : ¬ name < 1) (n2 : 120 < name) :
    Calls Tryz.prog 42 #[.slice a n c, .agg #[.int .i64 h, .slice ai ni ci, .slice ao no co], .int .i64 name, .int .i64 ht] w fun e w' => ApR w w' x M S e := by
  obtain ⟨X0, hX0⟩ : ∃ X0, X0 = (w.alloc (.cells #[.int .i64 h, .slice ai ni ci, .slice ao no co] 74)).alloc (.cells #[.slice none 0 0] 68) := ⟨_, rfl⟩
  have hb0 : Below w.heap.size w X0 := by rw [hX0]; exact bel_on (bel_new _ _) (bel_new _ _)
  have hX1 : X0.heap[w.heap.size]? = some (.cells [.int .i64 h, .slice ai ni ci, .slice ao no co].toArray 74 (0, 0)) := by
    rw [hX0, Below.heap_alloc _ _ _ (by simp)]; exact three_heap _ _ _ _ _
  have hX2 : X0.heap[w.heap.size + 1]? = some (.cells [.slice none 0 0].toArray 68 (0, 0)) := by
    rw [hX0]
    have := heap_alloc_new (w.alloc (.cells #[.int .i64 h, .slice ai ni ci, .slice ao no co] 74)) (.cells #[.slice none 0 0] 68)
    rw [show (w.alloc (.cells #[.int .i64 h, .slice ai ni ci, .slice ao no co] 74)).heap.size = w.heap.size + 1 by simp] at this
    exact this
  have HE : Hid ((x, M, S) = ((3 : Int), ([] : List CoinD), ([] : List CoinD)) ∧ w.heap.size ≤ w.heap.size + 1) := ⟨apD_range hRC hTx (by unfold okN okH; simp only [Bool.and_eq_false_iff, decide_eq_false_iff_not]; omega) hx, Nat.le_succ _⟩
  have BU := hide hX2
  have HB := hide hb0
  have xx0 := cell_of hX1 0 _ rfl
  have xx1 := cell_of hX1 1 _ rfl
  have xx2 := cell_of hX1 2 _ rfl
  have xxl := lt_of_block hX1
  clear hRC hTx hx hX1 hX2 hb0
  go_enter Tryz.func42, Tryz.ntmps42
  go_wp2_with fail
  rw [← hX0]
  clear hX0
  have CF := hide (appfail_is 3 X0)
  go_wp2_with fail
  refine (unhide CF).mono ?_
  rintro e wf ⟨rfl, hbf⟩
  have BUF := hide ((hbf.block _ (lt_of_block (unhide BU))).trans (unhide BU))
  have HBF := hide (bel_on (unhide HB) hbf)
  have uuc := cell_of (unhide BUF) 0 _ rfl
  have uuf := frozen_of (unhide BUF) 0
  have uul := lt_of_block (unhide BUF)
  clear hbf CF
  go_wp2
  (try simp only [Exit.inBlock, Exit.then])
  refine bodyPost_ret (v := .tuple #[.slice none 0 0, .agg #[.slice none 0 0], .int .i64 3]) ?_ rfl ?_
  · rw [results_tct rfl]
    go_simp
  · exact ap_err (unhide HE) (unhide HBF)

set_option maxRecDepth 10000 in
set_option maxHeartbeats 3200000 in
theorem applied_n3 (a : Option Addr) (n c : Nat) (L : List CoinD) (h : Int) (ai ao : Option Addr) (ni ci no co : Nat) (I : List InD) (O : List OutD) (name ht : Int) (x : Int) (M S : List CoinD) (w : World) (hRC : RightC L) (hTx : chkTx (h, I, O) = 0) (hx : apD L (h, I, O) name ht = (x, M, S)) (n1 : ¬ name < 1) (n2 : ¬ 120 < name) (n3 : ht < 1) :
    Calls Tryz.prog 42 #[.slice a n c, .agg #[.int .i64 h, .slice ai ni ci, .slice ao no co], .int .i64 name, .int .i64 ht] w fun e w' => ApR w w' x M S e := by
  obtain ⟨X0, hX0⟩ : ∃ X0, X0 = (w.alloc (.cells #[.int .i64 h, .slice ai ni ci, .slice ao no co] 74)).alloc (.cells #[.slice none 0 0] 68) := ⟨_, rfl⟩
  have hb0 : Below w.heap.size w X0 := by rw [hX0]; exact bel_on (bel_new _ _) (bel_new _ _)
  have hX1 : X0.heap[w.heap.size]? = some (.cells [.int .i64 h, .slice ai ni ci, .slice ao no co].toArray 74 (0, 0)) := by
    rw [hX0, Below.heap_alloc _ _ _ (by simp)]; exact three_heap _ _ _ _ _
  have hX2 : X0.heap[w.heap.size + 1]? = some (.cells [.slice none 0 0].toArray 68 (0, 0)) := by
    rw [hX0]
    have := heap_alloc_new (w.alloc (.cells #[.int .i64 h, .slice ai ni ci, .slice ao no co] 74)) (.cells #[.slice none 0 0] 68)
    rw [show (w.alloc (.cells #[.int .i64 h, .slice ai ni ci, .slice ao no co] 74)).heap.size = w.heap.size + 1 by simp] at this
    exact this
  have HE : Hid ((x, M, S) = ((3 : Int), ([] : List CoinD), ([] : List CoinD)) ∧ w.heap.size ≤ w.heap.size + 1) := ⟨apD_range hRC hTx (by unfold okN okH; simp only [Bool.and_eq_false_iff, decide_eq_false_iff_not]; omega) hx, Nat.le_succ _⟩
  have BU := hide hX2
  have HB := hide hb0
  have xx0 := cell_of hX1 0 _ rfl
  have xx1 := cell_of hX1 1 _ rfl
  have xx2 := cell_of hX1 2 _ rfl
  have xxl := lt_of_block hX1
  clear hRC hTx hx hX1 hX2 hb0
  go_enter Tryz.func42, Tryz.ntmps42
  go_wp2_with fail
  rw [← hX0]
  clear hX0
  have CF := hide (appfail_is 3 X0)
  go_wp2_with fail
  refine (unhide CF).mono ?_
  rintro e wf ⟨rfl, hbf⟩
  have BUF := hide ((hbf.block _ (lt_of_block (unhide BU))).trans (unhide BU))
  have HBF := hide (bel_on (unhide HB) hbf)
  have uuc := cell_of (unhide BUF) 0 _ rfl
  have uuf := frozen_of (unhide BUF) 0
  have uul := lt_of_block (unhide BUF)
  clear hbf CF
  go_wp2
  (try simp only [Exit.inBlock, Exit.then])
  refine bodyPost_ret (v := .tuple #[.slice none 0 0, .agg #[.slice none 0 0], .int .i64 3]) ?_ rfl ?_
  · rw [results_tct rfl]
    go_simp
  · exact ap_err (unhide HE) (unhide HBF)

set_option maxRecDepth 10000 in
set_option maxHeartbeats 3200000 in
theorem applied_n4 (a : Option Addr) (n c : Nat) (L : List CoinD) (h : Int) (ai ao : Option Addr) (ni ci no co : Nat) (I : List InD) (O : List OutD) (name ht : Int) (x : Int) (M S : List CoinD) (w : World) (hRC : RightC L) (hTx : chkTx (h, I, O) = 0) (hx : apD L (h, I, O) name ht = (x, M, S)) (n1 : ¬ name < 1) (n2 : ¬ 120 < name) (n3 : ¬ ht < 1) (n4 : 1000 < ht) :
    Calls Tryz.prog 42 #[.slice a n c, .agg #[.int .i64 h, .slice ai ni ci, .slice ao no co], .int .i64 name, .int .i64 ht] w fun e w' => ApR w w' x M S e := by
  obtain ⟨X0, hX0⟩ : ∃ X0, X0 = (w.alloc (.cells #[.int .i64 h, .slice ai ni ci, .slice ao no co] 74)).alloc (.cells #[.slice none 0 0] 68) := ⟨_, rfl⟩
  have hb0 : Below w.heap.size w X0 := by rw [hX0]; exact bel_on (bel_new _ _) (bel_new _ _)
  have hX1 : X0.heap[w.heap.size]? = some (.cells [.int .i64 h, .slice ai ni ci, .slice ao no co].toArray 74 (0, 0)) := by
    rw [hX0, Below.heap_alloc _ _ _ (by simp)]; exact three_heap _ _ _ _ _
  have hX2 : X0.heap[w.heap.size + 1]? = some (.cells [.slice none 0 0].toArray 68 (0, 0)) := by
    rw [hX0]
    have := heap_alloc_new (w.alloc (.cells #[.int .i64 h, .slice ai ni ci, .slice ao no co] 74)) (.cells #[.slice none 0 0] 68)
    rw [show (w.alloc (.cells #[.int .i64 h, .slice ai ni ci, .slice ao no co] 74)).heap.size = w.heap.size + 1 by simp] at this
    exact this
  have HE : Hid ((x, M, S) = ((3 : Int), ([] : List CoinD), ([] : List CoinD)) ∧ w.heap.size ≤ w.heap.size + 1) := ⟨apD_range hRC hTx (by unfold okN okH; simp only [Bool.and_eq_false_iff, decide_eq_false_iff_not]; omega) hx, Nat.le_succ _⟩
  have BU := hide hX2
  have HB := hide hb0
  have xx0 := cell_of hX1 0 _ rfl
  have xx1 := cell_of hX1 1 _ rfl
  have xx2 := cell_of hX1 2 _ rfl
  have xxl := lt_of_block hX1
  clear hRC hTx hx hX1 hX2 hb0
  go_enter Tryz.func42, Tryz.ntmps42
  go_wp2_with fail
  rw [← hX0]
  clear hX0
  have CF := hide (appfail_is 3 X0)
  go_wp2_with fail
  refine (unhide CF).mono ?_
  rintro e wf ⟨rfl, hbf⟩
  have BUF := hide ((hbf.block _ (lt_of_block (unhide BU))).trans (unhide BU))
  have HBF := hide (bel_on (unhide HB) hbf)
  have uuc := cell_of (unhide BUF) 0 _ rfl
  have uuf := frozen_of (unhide BUF) 0
  have uul := lt_of_block (unhide BUF)
  clear hbf CF
  go_wp2
  (try simp only [Exit.inBlock, Exit.then])
  refine bodyPost_ret (v := .tuple #[.slice none 0 0, .agg #[.slice none 0 0], .int .i64 3]) ?_ rfl ?_
  · rw [results_tct rfl]
    go_simp
  · exact ap_err (unhide HE) (unhide HBF)

set_option maxRecDepth 10000 in
set_option maxHeartbeats 3200000 in
theorem applied_n5 (a : Option Addr) (n c : Nat) (L : List CoinD) (h : Int) (ai ao : Option Addr) (ni ci no co : Nat) (I : List InD) (O : List OutD) (name ht : Int) (x : Int) (M S : List CoinD) (w : World) (hI : InsAt w ai ni I) (hRC : RightC L) (hTx : chkTx (h, I, O) = 0) (hx : apD L (h, I, O) name ht = (x, M, S)) (n1 : ¬ name < 1) (n2 : ¬ 120 < name) (n3 : ¬ ht < 1) (n4 : ¬ 1000 < ht) (hr : ni = 0) (hh : h ≠ ht) :
    Calls Tryz.prog 42 #[.slice a n c, .agg #[.int .i64 h, .slice ai ni ci, .slice ao no co], .int .i64 name, .int .i64 ht] w fun e w' => ApR w w' x M S e := by
  obtain ⟨X0, hX0⟩ : ∃ X0, X0 = (w.alloc (.cells #[.int .i64 h, .slice ai ni ci, .slice ao no co] 74)).alloc (.cells #[.slice none 0 0] 68) := ⟨_, rfl⟩
  have hb0 : Below w.heap.size w X0 := by rw [hX0]; exact bel_on (bel_new _ _) (bel_new _ _)
  have hX1 : X0.heap[w.heap.size]? = some (.cells [.int .i64 h, .slice ai ni ci, .slice ao no co].toArray 74 (0, 0)) := by
    rw [hX0, Below.heap_alloc _ _ _ (by simp)]; exact three_heap _ _ _ _ _
  have hX2 : X0.heap[w.heap.size + 1]? = some (.cells [.slice none 0 0].toArray 68 (0, 0)) := by
    rw [hX0]
    have := heap_alloc_new (w.alloc (.cells #[.int .i64 h, .slice ai ni ci, .slice ao no co] 74)) (.cells #[.slice none 0 0] 68)
    rw [show (w.alloc (.cells #[.int .i64 h, .slice ai ni ci, .slice ao no co] 74)).heap.size = w.heap.size + 1 by simp] at this
    exact this
  have HE : Hid ((x, M, S) = ((4 : Int), ([] : List CoinD), ([] : List CoinD)) ∧ w.heap.size ≤ w.heap.size + 1) := ⟨apD_form hRC hTx (by unfold okN okH; simp only [Bool.and_eq_true, decide_eq_true_eq]; omega) ⟨by unfold isR; rw [hI.1]; exact decide_eq_true hr, hh⟩ hx, Nat.le_succ _⟩
  have g0 : ((ni : Int) == 0) = true := by simp [hr]
  have g1 : (h != ht) = true := by simp [hh]
  have g2 : (ni : Int) = 0 := by omega
  clear hr hh
  have BU := hide hX2
  have HB := hide hb0
  have xx0 := cell_of hX1 0 _ rfl
  have xx1 := cell_of hX1 1 _ rfl
  have xx2 := cell_of hX1 2 _ rfl
  have xxl := lt_of_block hX1
  clear hI hRC hTx hx hX1 hX2 hb0
  go_enter Tryz.func42, Tryz.ntmps42
  go_wp2_with fail
  rw [← hX0]
  clear hX0
  have CF := hide (appfail_is 4 X0)
  go_wp2_with fail
  refine (unhide CF).mono ?_
  rintro e wf ⟨rfl, hbf⟩
  have BUF := hide ((hbf.block _ (lt_of_block (unhide BU))).trans (unhide BU))
  have HBF := hide (bel_on (unhide HB) hbf)
  have uuc := cell_of (unhide BUF) 0 _ rfl
  have uuf := frozen_of (unhide BUF) 0
  have uul := lt_of_block (unhide BUF)
  clear hbf CF
  go_wp2
  (try simp only [Exit.inBlock, Exit.then])
  refine bodyPost_ret (v := .tuple #[.slice none 0 0, .agg #[.slice none 0 0], .int .i64 4]) ?_ rfl ?_
  · rw [results_tct rfl]
    go_simp
  · exact ap_err (unhide HE) (unhide HBF)

end Go.Proofs.YtepmnpapdknocaaGreatDoor
