/- Contracts of slices.Equal at texts and at ints, of slices.Index at texts. -/
import Derived.Test.YtifhlohdidfbgaaGreatDoorBookAllToBlkReward
import Derived.Test.YtifhlohdidfbgaaGreatDoorTxSameToBlkConW
import Derived.Test.YtifhlohdidfbgaaGreatDoorTxPartsToTxPrintB
import Derived.Test.YtifhlohdidfbgaaGreatDoorLockCheck
import Derived.Lib.SplitLaws
import Derived.Test.YtifhlohdidfbgaaGreatDoorTxCheckC
namespace Go.Proofs.YtifhlohdidfbgaaGreatDoor.Bk
open Go.RowKit Go.Maps

theorem take_more {α : Type} {L M : List α} {j : Nat} (h1 : j < L.length) (h2 : j < M.length) (h : L.take j = M.take j) (e : L[j] = M[j]) : L.take (j + 1) = M.take (j + 1) := by
  rw [List.take_succ_eq_append_getElem h1, List.take_succ_eq_append_getElem h2, h, e]
theorem take_not {α : Type} {L M : List α} {j : Nat} (h1 : j < L.length) (h2 : j < M.length) (e : L[j] ≠ M[j]) : L ≠ M := by
  intro h; subst h; exact e rfl
theorem str_ne' {s t : ByteArray} (h : s ≠ t) : s.toList ≠ t.toList := fun e => h (by
  rw [ByteArray.toList_eq, ByteArray.toList_eq] at e
  have h4 : s.data = t.data := by rw [← Array.toList_inj]; exact e
  cases s; cases t; simp_all)
theorem str_ne {s t : ByteArray} (h : s ≠ t) : (s.toList == t.toList) = false := by simp [str_ne' h]


set_option maxRecDepth 10000 in
set_option maxHeartbeats 1600000 in
theorem eqStr_some (b off b2 off2 n c d : Nat) (L M : List ByteArray) (o : Bool) (w : World) (hn : n ≤ maxLen) (hz : L.length = n) (hz2 : M.length = n)
    (hc : ∀ i (h : i < L.length), w.cell? ⟨b, off + i, none⟩ = some (.string L[i])) (hc2 : ∀ i (h : i < M.length), w.cell? ⟨b2, off2 + i, none⟩ = some (.string M[i])) (ho : decide (L = M) = o) :
    Calls Tryz.prog 22 #[.slice (some ⟨b, off, none⟩) n c, .slice (some ⟨b2, off2, none⟩) n d] w fun e w' => e = .returned (.bool o) ∧ Below w.heap.size w w' := by
  have HC := hide hc
  have HC2 := hide hc2
  have HZ := hide hz
  have HZ2 := hide hz2
  have HO := hide ho
  have g0 : ((n : Int) != (n : Int)) = false := by simp
  unfold maxLen at hn
  clear hc hc2 hz hz2 ho
  go_enter Tryz.func22, Tryz.ntmps22
  go_wp2
  go_loopw [13] (fun i wr => ∃ j m : Nat, j ≤ n ∧ i = .int .i64 j ∧ wr = w.drewN m ∧ Hid (L.take j = M.take j)) (fun i _ => n - (intOf i).toNat)
  case atStart => exact ⟨0, 0, Nat.zero_le _, rfl, rfl, rfl⟩
  case round =>
    obtain ⟨j, m, hk, rfl, rfl, A⟩ := hrel
    by_cases hlt : j < n
    · have h1 : j < L.length := by rw [unhide HZ]; exact hlt
      have h2 : j < M.length := by rw [unhide HZ2]; exact hlt
      have f1 := (unhide HC) j h1
      have f2 := (unhide HC2) j h2
      have TM := hide (take_more h1 h2 (unhide A))
      have TN := hide (take_not h1 h2)
      obtain ⟨s, hs⟩ : ∃ s, L[j] = s := ⟨_, rfl⟩
      obtain ⟨t, ht⟩ : ∃ t, M[j] = t := ⟨_, rfl⟩
      rw [hs] at f1
      rw [ht] at f2
      rw [hs, ht] at TM TN
      clear hs ht A
      by_cases e : s = t
      · subst e
        have R := hide ((unhide TM) rfl)
        clear TM TN
        go_wp2
        go_quiet (fail)
        go_wp2
        go_roundw
        case rel => exact ⟨j + 1, m + nq, by omega, by go_num, rfl, R⟩
        case measure => simp [intOf]; omega
      · have R : Hid (o = false) := by show _ = _; rw [← unhide HO]; exact decide_eq_false ((unhide TN) e)
        have g := str_ne e
        clear TM TN e
        go_wp2
        go_quiet (fail)
        go_wp2
        go_ret
        exact ⟨by rw [unhide R]; rfl, by simp only [World.drewN_drewN]; exact below_dw _ _⟩
    · have R : Hid (o = true) := by
        have h := unhide A
        rw [List.take_of_length_le (by rw [unhide HZ]; omega), List.take_of_length_le (by rw [unhide HZ2]; omega)] at h
        show _ = _; rw [← unhide HO]; exact decide_eq_true h
      clear A
      go_wp2
      go_ret
      exact ⟨by rw [unhide R]; rfl, below_dw _ _⟩

set_option maxHeartbeats 400000 in
theorem eqStr_zero (a a2 : Option Addr) (c d : Nat) (w : World) :
    Calls Tryz.prog 22 #[.slice a 0 c, .slice a2 0 d] w fun e w' => e = .returned (.bool true) ∧ Below w.heap.size w w' := by
  go_enter Tryz.func22, Tryz.ntmps22
  go_wp2
  refine wp_loop_rounds 1 ?_
  rw [rounds_succ]
  go_wp2
  go_ret
  exact ⟨rfl, Below.refl _ _⟩
set_option maxHeartbeats 400000 in
theorem eqStr_len (a a2 : Option Addr) (n m c d : Nat) (w : World) (h : n ≠ m) :
    Calls Tryz.prog 22 #[.slice a n c, .slice a2 m d] w fun e w' => e = .returned (.bool false) ∧ Below w.heap.size w w' := by
  have g : ((n : Int) != (m : Int)) = true := by simp; omega
  go_enter Tryz.func22, Tryz.ntmps22
  go_wp2
  go_ret
  exact ⟨rfl, Below.refl _ _⟩

theorem eqStr_is (a a2 : Option Addr) (n m c d : Nat) (L M : List ByteArray) (o : Bool) (w : World) (hn : n ≤ maxLen) (h : TextsAt w a n L) (h2 : TextsAt w a2 m M) (ho : decide (L = M) = o) :
    Calls Tryz.prog 22 #[.slice a n c, .slice a2 m d] w fun e w' => e = .returned (.bool o) ∧ Below w.heap.size w w' := by
  by_cases e : n = m
  · subst e
    by_cases h0 : n = 0
    · subst h0
      have e1 : L = [] := List.length_eq_zero_iff.1 h.1
      have e2 : M = [] := List.length_eq_zero_iff.1 h2.1
      subst e1 e2
      have : o = true := by rw [← ho]; rfl
      subst this
      exact eqStr_zero a a2 c d w
    · obtain ⟨b, off, rfl, hc⟩ := h.2 (by omega)
      obtain ⟨b2, off2, rfl, hc2⟩ := h2.2 (by omega)
      exact eqStr_some b off b2 off2 n c d L M o w hn h.1 h2.1 hc hc2 ho
  · have : o = false := by
      rw [← ho]
      exact decide_eq_false (fun e2 => e (by rw [← h.1, ← h2.1, e2]))
    subst this
    exact eqStr_len a a2 n m c d w e

set_option maxRecDepth 10000 in
set_option maxHeartbeats 1600000 in
theorem eqInt_some (b off b2 off2 n c d : Nat) (L M : List Int) (o : Bool) (w : World) (hn : n ≤ maxLen) (hz : L.length = n) (hz2 : M.length = n)
    (hc : ∀ i (h : i < L.length), w.cell? ⟨b, off + i, none⟩ = some (.int .i64 L[i])) (hc2 : ∀ i (h : i < M.length), w.cell? ⟨b2, off2 + i, none⟩ = some (.int .i64 M[i])) (ho : decide (L = M) = o) :
    Calls Tryz.prog 21 #[.slice (some ⟨b, off, none⟩) n c, .slice (some ⟨b2, off2, none⟩) n d] w fun e w' => e = .returned (.bool o) ∧ Below w.heap.size w w' := by
  have HC := hide hc
  have HC2 := hide hc2
  have HZ := hide hz
  have HZ2 := hide hz2
  have HO := hide ho
  have g0 : ((n : Int) != (n : Int)) = false := by simp
  unfold maxLen at hn
  clear hc hc2 hz hz2 ho
  go_enter Tryz.func21, Tryz.ntmps21
  go_wp2
  go_loopw [13] (fun i wr => ∃ j m : Nat, j ≤ n ∧ i = .int .i64 j ∧ wr = w.drewN m ∧ Hid (L.take j = M.take j)) (fun i _ => n - (intOf i).toNat)
  case atStart => exact ⟨0, 0, Nat.zero_le _, rfl, rfl, rfl⟩
  case round =>
    obtain ⟨j, m, hk, rfl, rfl, A⟩ := hrel
    by_cases hlt : j < n
    · have h1 : j < L.length := by rw [unhide HZ]; exact hlt
      have h2 : j < M.length := by rw [unhide HZ2]; exact hlt
      have f1 := (unhide HC) j h1
      have f2 := (unhide HC2) j h2
      have TM := hide (take_more h1 h2 (unhide A))
      have TN := hide (take_not h1 h2)
      obtain ⟨s, hs⟩ : ∃ s, L[j] = s := ⟨_, rfl⟩
      obtain ⟨t, ht⟩ : ∃ t, M[j] = t := ⟨_, rfl⟩
      rw [hs] at f1
      rw [ht] at f2
      rw [hs, ht] at TM TN
      clear hs ht A
      by_cases e : s = t
      · subst e
        have R := hide ((unhide TM) rfl)
        have g : (s != s) = false := by simp
        clear TM TN
        go_wp2
        go_quiet (fail)
        go_wp2
        go_roundw
        case rel => exact ⟨j + 1, m + nq, by omega, by go_num, rfl, R⟩
        case measure => simp [intOf]; omega
      · have R : Hid (o = false) := by show _ = _; rw [← unhide HO]; exact decide_eq_false ((unhide TN) e)
        have g : (s != t) = true := by simp [e]
        clear TM TN
        go_wp2
        go_quiet (fail)
        go_wp2
        go_ret
        exact ⟨by rw [unhide R]; rfl, by simp only [World.drewN_drewN]; exact below_dw _ _⟩
    · have R : Hid (o = true) := by
        have h := unhide A
        rw [List.take_of_length_le (by rw [unhide HZ]; omega), List.take_of_length_le (by rw [unhide HZ2]; omega)] at h
        show _ = _; rw [← unhide HO]; exact decide_eq_true h
      clear A
      go_wp2
      go_ret
      exact ⟨by rw [unhide R]; rfl, below_dw _ _⟩

set_option maxHeartbeats 400000 in
theorem eqInt_zero (a a2 : Option Addr) (c d : Nat) (w : World) :
    Calls Tryz.prog 21 #[.slice a 0 c, .slice a2 0 d] w fun e w' => e = .returned (.bool true) ∧ Below w.heap.size w w' := by
  go_enter Tryz.func21, Tryz.ntmps21
  go_wp2
  refine wp_loop_rounds 1 ?_
  rw [rounds_succ]
  go_wp2
  go_ret
  exact ⟨rfl, Below.refl _ _⟩
set_option maxHeartbeats 400000 in
theorem eqInt_len (a a2 : Option Addr) (n m c d : Nat) (w : World) (h : n ≠ m) :
    Calls Tryz.prog 21 #[.slice a n c, .slice a2 m d] w fun e w' => e = .returned (.bool false) ∧ Below w.heap.size w w' := by
  have g : ((n : Int) != (m : Int)) = true := by simp; omega
  go_enter Tryz.func21, Tryz.ntmps21
  go_wp2
  go_ret
  exact ⟨rfl, Below.refl _ _⟩

theorem eqInt_is (a a2 : Option Addr) (n m c d : Nat) (L M : List Int) (o : Bool) (w : World) (hn : n ≤ maxLen) (h : IntsAt w a n L) (h2 : IntsAt w a2 m M) (ho : decide (L = M) = o) :
    Calls Tryz.prog 21 #[.slice a n c, .slice a2 m d] w fun e w' => e = .returned (.bool o) ∧ Below w.heap.size w w' := by
  by_cases e : n = m
  · subst e
    by_cases h0 : n = 0
    · subst h0
      have e1 : L = [] := List.length_eq_zero_iff.1 h.1
      have e2 : M = [] := List.length_eq_zero_iff.1 h2.1
      subst e1 e2
      have : o = true := by rw [← ho]; rfl
      subst this
      exact eqInt_zero a a2 c d w
    · obtain ⟨b, off, rfl, hc⟩ := h.2 (by omega)
      obtain ⟨b2, off2, rfl, hc2⟩ := h2.2 (by omega)
      exact eqInt_some b off b2 off2 n c d L M o w hn h.1 h2.1 hc hc2 ho
  · have : o = false := by
      rw [← ho]
      exact decide_eq_false (fun e2 => e (by rw [← h.1, ← h2.1, e2]))
    subst this
    exact eqInt_len a a2 n m c d w e


end Go.Proofs.YtifhlohdidfbgaaGreatDoor.Bk

/- The contract of laid: the closed fact that each law of block asks first. -/
namespace Go.Proofs.YtifhlohdidfbgaaGreatDoor
open Go.RowKit

def laidB : BlkD := (0, 1, 2, 0, [(1, [], [(64, [])])])
def laidT : ByteArray := ⟨#[116, 120, 32, 49, 10, 111, 117, 116, 32, 54, 52, 58, 10]⟩
def laidS : ByteArray := ⟨#[98, 108, 111, 99, 107, 32, 48, 32, 49, 32, 50, 32, 48, 10, 116, 120, 32, 49, 10, 111, 117, 116, 32, 54, 52, 58, 10]⟩
theorem laid_text : blkText laidB = laidS := by kernel_rfl
theorem laid_right : chkB laidB = 0 := by kernel_rfl
theorem laid_names : nmsB [] laidB = ([laidT, laidS], 2, [1], 0) := by kernel_rfl
theorem laid_con : conD [] [] laidB = (0, [(1, 0, 64, [], 1, true)], [[]]) := by kernel_rfl
theorem one_int (w : World) (x : Int) : Bk.IntsAt (w.alloc (.cells #[.int .i64 x] 3)) (some ⟨w.heap.size, 0, none⟩) 1 [x] :=
  ⟨rfl, fun _ => ⟨w.heap.size, 0, rfl, fun i hi => by
    have e : i = 0 := by simp at hi; exact hi
    subst e
    exact one_new _ _ _⟩⟩

set_option maxRecDepth 10000 in
set_option maxHeartbeats 6400000 in
theorem laid_yes (w : World) (hE : Env w) : Calls Tryz.prog 10 #[] w fun e w' => e = .returned (.bool true) ∧ Below w.heap.size w w' := by
  obtain ⟨W0, hW0⟩ : ∃ W0, W0 = w.alloc (.cells #[.int .i64 64, .slice none 0 0] 85) := ⟨_, rfl⟩
  obtain ⟨W1, hW1⟩ : ∃ W1, W1 = W0.alloc (.cells #[.int .i64 1, .slice none 0 0, .slice (some ⟨w.heap.size, 0, none⟩) 1 1] 78) := ⟨_, rfl⟩
  obtain ⟨X, hX⟩ : ∃ X, X = W1.alloc (.cells #[.int .i64 0, .int .i64 1, .int .i64 2, .int .i64 0, .slice (some ⟨w.heap.size + 1, 0, none⟩) 1 1] 24) := ⟨_, rfl⟩
  have s0 : W0.heap.size = w.heap.size + 1 := by rw [hW0]; simp
  have s1 : W1.heap.size = w.heap.size + 2 := by rw [hW1]; simp [s0]
  have b0 : Below w.heap.size w W0 := by rw [hW0]; exact bel_new _ _
  have b1 : Below W0.heap.size W0 W1 := by rw [hW1]; exact bel_new _ _
  have b2 : Below W1.heap.size W1 X := by rw [hX]; exact bel_new _ _
  have h0 : W0.heap[w.heap.size]? = some (.cells [.int .i64 64, .slice none 0 0].toArray 85 (0, 0)) := by rw [hW0]; exact heap_alloc_new _ _
  have h1 : W1.heap[w.heap.size + 1]? = some (.cells [.int .i64 1, .slice none 0 0, .slice (some ⟨w.heap.size, 0, none⟩) 1 1].toArray 78 (0, 0)) := by
    rw [hW1, ← s0]; exact heap_alloc_new _ _
  have h2 : X.heap[w.heap.size + 2]? = some (.cells [.int .i64 0, .int .i64 1, .int .i64 2, .int .i64 0, .slice (some ⟨w.heap.size + 1, 0, none⟩) 1 1].toArray 24 (0, 0)) := by
    rw [hX, ← s1]; exact heap_alloc_new _ _
  have g0 := (b2.block _ (by rw [s1]; omega)).trans ((b1.block _ (lt_of_block h0)).trans h0)
  have g1 := (b2.block _ (lt_of_block h1)).trans h1
  have hbX : Below w.heap.size w X := bel_on (bel_on b0 b1) b2
  have hT : TxsAt X (some ⟨w.heap.size + 1, 0, none⟩) 1 [(1, [], [(64, [])])] := by
    refine ⟨rfl, fun _ => ⟨w.heap.size + 1, 0, rfl, lt_of_block g1, fun i hi => ?_⟩⟩
    have e : i = 0 := by simp at hi; exact hi
    subst e
    refine ⟨cell_of g1 0 _ rfl, ⟨none, 0, 0, cell_of g1 1 _ rfl, ⟨rfl, fun h => absurd h (by omega)⟩, slok_nil⟩, some ⟨w.heap.size, 0, none⟩, 1, 1, cell_of g1 2 _ rfl, ?_, ⟨Nat.le_refl _, by unfold maxLen; omega, fun e => by cases e⟩⟩
    refine ⟨rfl, fun _ => ⟨w.heap.size, 0, rfl, lt_of_block g0, fun i hi => ?_⟩⟩
    have e : i = 0 := by simp at hi; exact hi
    subst e
    exact ⟨cell_of g0 0 _ rfl, none, 0, 0, cell_of g0 1 _ rfl, ⟨rfl, fun h => absurd h (by omega)⟩, slok_nil⟩
  have C1 := blkPrint_some 0 1 2 0 (some ⟨w.heap.size + 1, 0, none⟩) 1 1 [(1, [], [(64, [])])] X (hE.later hbX) hT laid_right
  rw [show blkText (0, 1, 2, 0, [(1, [], [(64, [])])]) = laidS from laid_text] at C1
  unfold laidS at C1
  have HC1 := hide C1
  have C2 := hide (fun W (hb : Below X.heap.size X W) => names_any none 0 0 [] 0 1 2 0 (some ⟨w.heap.size + 1, 0, none⟩) 1 1 [(1, [], [(64, [])])] [laidT, laidS] 2 [1] 0 W (hE.later (bel_on hbX hb)) ⟨rfl, fun h => absurd h (by omega)⟩ (hT.later hb) laid_names)
  have C3 := hide (fun W (hb : Below X.heap.size X W) => connect_is none 0 0 [] none 0 0 [] 0 1 2 0 (some ⟨w.heap.size + 1, 0, none⟩) 1 1 [(1, [], [(64, [])])] 0 [(1, 0, 64, [], 1, true)] [[]] W (hE.later (bel_on hbX hb)) ⟨rfl, fun h => absurd h (by omega)⟩ ⟨rfl, fun h => absurd h (by omega)⟩ slok_nil (hT.later hb) laid_con)
  have HB0 := hide hbX
  have HX2 := hide h2
  have x0 := cell_of h2 0 _ rfl
  have x1 := cell_of h2 1 _ rfl
  have x2 := cell_of h2 2 _ rfl
  have x3 := cell_of h2 3 _ rfl
  have x4 := cell_of h2 4 _ rfl
  have xl := lt_of_block h2
  clear C1 hT h0 h1 h2 g0 g1 b0 b1 b2 s0 s1 hE hbX
  rw [hW1, hW0] at hX
  clear hW1 hW0 W0 W1
  go_enter Tryz.func10, Tryz.ntmps10
  go_wp2_with fail
  rw [← hX]
  clear hX
  refine (unhide HC1).mono ?_
  rintro e w1 ⟨rfl, hb1⟩
  have h21 := (hb1.block _ (lt_of_block (unhide HX2))).trans (unhide HX2)
  have HX21 := hide h21
  have y0 := cell_of h21 0 _ rfl
  have y1 := cell_of h21 1 _ rfl
  have y2 := cell_of h21 2 _ rfl
  have y3 := cell_of h21 3 _ rfl
  have y4 := cell_of h21 4 _ rfl
  have yl := lt_of_block h21
  have HB1 := hide hb1
  have CC2 := hide ((unhide C2) w1 hb1)
  clear hb1 h21 HC1 C2 x0 x1 x2 x3 x4 xl
  go_wp2_with fail
  refine (unhide CC2).mono ?_
  rintro e w2 ⟨ka, kn, kc, na, nn, nc, rfl, hK, sK, hN, hnc, hb2⟩
  obtain rfl : 2 = kn := hK.1
  obtain rfl : 1 = nn := hN.1
  obtain ⟨Y, hY⟩ : ∃ Y, Y = w2.alloc (.cells #[.slice ka 2 kc] 37) := ⟨_, rfl⟩
  have hbY : Below w2.heap.size w2 Y := by rw [hY]; exact bel_new _ _
  have hY1 : Y.heap[w2.heap.size]? = some (.cells [.slice ka 2 kc].toArray 37 (0, 0)) := by rw [hY]; exact one_heap _ _ _
  have h22 := (hb2.block _ (lt_of_block (unhide HX21))).trans (unhide HX21)
  have z0 := cell_of h22 0 _ rfl
  have z1 := cell_of h22 1 _ rfl
  have z2 := cell_of h22 2 _ rfl
  have z3 := cell_of h22 3 _ rfl
  have z4 := cell_of h22 4 _ rfl
  have zl := lt_of_block h22
  have HBY := hide (bel_on (bel_on (unhide HB1) hb2) hbY)
  have CC3 := hide ((unhide C3) Y (unhide HBY))
  have HN := hide (hN.later hbY)
  have HY1 := hide hY1
  clear hK sK hN hnc hb2 h22 hbY hY1 CC2 C3 y0 y1 y2 y3 y4 yl
  go_wp2_with fail
  rw [← hY]
  clear hY
  refine (unhide CC3).mono ?_
  rintro e w3 ⟨ca, cn, cc, ua, un, uc, rfl, hC, sC, hU, sU, hb3⟩
  obtain rfl : 1 = cn := hC.1
  obtain rfl : 1 = un := hU.1
  obtain ⟨cb, co, rfl, hcl, hcc⟩ := hC.2 (by omega)
  have hc0 := hcc 0 (by simp)
  obtain ⟨_, _, _, _, _, c5⟩ := hc0
  have c5 : w3.cell? ⟨cb, co + 5, none⟩ = some (.bool true) := by simpa [cr] using c5
  obtain ⟨Z, hZ⟩ : ∃ Z, Z = w3.alloc (.cells #[.int .i64 1] 3) := ⟨_, rfl⟩
  have hbZ : Below w3.heap.size w3 Z := by rw [hZ]; exact bel_new _ _
  have hI : Bk.IntsAt Z (some ⟨w3.heap.size, 0, none⟩) 1 [1] := by rw [hZ]; exact one_int _ _
  have CE := hide (Bk.eqInt_is na (some ⟨w3.heap.size, 0, none⟩) 1 1 nc 1 [1] [1] true Z (by unfold maxLen; omega) ((unhide HN).later (bel_on hb3 hbZ)) hI (by simp))
  have HY3 := hide ((hbZ.block _ (Nat.lt_of_lt_of_le (lt_of_block (unhide HY1)) hb3.size)).trans ((hb3.block _ (lt_of_block (unhide HY1))).trans (unhide HY1)))
  have C5 := hide (cell_later hbZ c5)
  have HBZ := hide (bel_on (unhide HB0) (bel_on (unhide HBY) (bel_on hb3 hbZ)))
  clear hC sC hU sU hb3 hcc c5 hbZ hI CC3 z0 z1 z2 z3 z4 zl hcl
  go_wp2_with fail
  rw [← hZ]
  clear hZ
  refine (unhide CE).mono ?_
  rintro e w4 ⟨rfl, hb4⟩
  have h44 := (hb4.block _ (lt_of_block (unhide HY3))).trans (unhide HY3)
  have u0 := cell_of h44 0 _ rfl
  have ul := lt_of_block h44
  have u5 := cell_later hb4 (unhide C5)
  have uc5 := World.block_lt_of_cell? _ _ u5
  have HBF := hide (bel_on (unhide HBZ) hb4)
  clear hb4 h44 CE
  go_wp2
  go_ret
  exact ⟨rfl, unhide HBF⟩

end Go.Proofs.YtifhlohdidfbgaaGreatDoor

/- The contract of what reads one order. -/
namespace Go.Proofs.YtifhlohdidfbgaaGreatDoor
open Go.RowKit

def kindOf (s : ByteArray) : Option Nat := [2, 3, 4, 5, 6, 7, 8, 9, 10, 11, 12, 13].find? (fun k => (nameB k).toList == s.toList)

/-- The order of a word. -/
def parseW (s : ByteArray) : Option (Int × Int) :=
  match numOf s with
  | some n => some (1, n)
  | none => (kindOf s).map fun k => ((k : Int), 0)

theorem kindOf_hit (s : ByteArray) (j : Nat) (h2 : 2 ≤ j) (hj : j ≤ 13) (hno : ∀ i, 2 ≤ i → i < j → ((nameB i).toList == s.toList) = false) (hy : ((nameB j).toList == s.toList) = true) : kindOf s = some j := by
  unfold kindOf
  rw [List.find?_eq_some_iff_getElem]
  refine ⟨hy, j - 2, by simp; omega, ?_, fun i hi => ?_⟩
  · have : ∀ m : Fin 12, [2, 3, 4, 5, 6, 7, 8, 9, 10, 11, 12, 13][m.val] = m.val + 2 := by decide
    have e := this ⟨j - 2, by omega⟩
    simp only at e
    rw [e]; omega
  · have : ∀ m : Fin 12, [2, 3, 4, 5, 6, 7, 8, 9, 10, 11, 12, 13][m.val] = m.val + 2 := by decide
    have e := this ⟨i, by omega⟩
    simp only at e
    rw [e, hno (i + 2) (by omega) (by omega)]; rfl
theorem kindOf_miss (s : ByteArray) (hno : ∀ i, 2 ≤ i → i < 14 → ((nameB i).toList == s.toList) = false) : kindOf s = none := by
  unfold kindOf
  rw [List.find?_eq_none]
  intro k hk
  have : 2 ≤ k ∧ k < 14 := by
    simp only [List.mem_cons, List.mem_nil_iff, or_false] at hk
    omega
  rw [hno k this.1 this.2]
  decide

theorem ret_word {a b : Int × Int} {v : Value} (h : a = b) : Ending.returned (.tuple #[.agg #[.int .i64 a.1, .int .i64 a.2], v]) = .returned (.tuple #[.agg #[.int .i64 b.1, .int .i64 b.2], v]) := by rw [h]

set_option maxHeartbeats 1600000 in
theorem parseOrder_num (s : ByteArray) (n : Int) (hs : s.size ≤ 4000) (hn : numOf s = some n) (w : World) (hE : EnvP w) :
    Calls Tryz.prog 211 #[.string s] w fun e w' => e = .returned (.tuple #[.agg #[.int .i64 1, .int .i64 n], .bool true]) ∧ Below w.heap.size w w' := by
  have hba : Below w.heap.size w (w.alloc (.cells #[.int .i64 0, .int .i64 0] 160)) := (Below.refl _ _).alloc (Nat.le_refl _) _
  have NP := hide (numParse_any s hs _ (hE.later hba))
  rw [hn] at NP
  have HBA := hide hba
  clear hE hn hba
  go_enter Tryz.func211, Tryz.ntmps211
  go_wp2_with fail
  refine (unhide NP).mono ?_
  rintro e w1 ⟨rfl, hb1⟩
  have hblk : w1.heap[w.heap.size]? = some (.cells #[.int .i64 0, .int .i64 0] 160 (0, 0)) := (hb1.block _ (by simp)).trans (heap_alloc_new _ _)
  have c0 : w1.cell? ⟨w.heap.size, 0, none⟩ = some (.int .i64 0) := cell_of_row _ _ 0 _ _ _ hblk
  have c1 : w1.cell? ⟨w.heap.size, 1, none⟩ = some (.int .i64 0) := cell_of_row _ _ 1 _ _ _ hblk
  have f0 : w1.frozen? ⟨w.heap.size, 0, none⟩ = false := frozen_of_row _ _ 0 _ _ hblk
  have f1 : w1.frozen? ⟨w.heap.size, 1, none⟩ = false := frozen_of_row _ _ 1 _ _ hblk
  have HB1 := hide (bel_tw (unhide HBA) hb1)
  clear hb1 hblk
  go_wp2
  (try simp only [Exit.inBlock, Exit.then])
  refine bodyPost_ret (v := .tuple #[.agg #[.int .i64 1, .int .i64 n], .bool true]) ?_ rfl ⟨rfl, ?_⟩
  · rw [results_cell_tmp rfl]
    go_simp
  · exact ((unhide HB1).setCell (Nat.le_refl _) _).setCell (Nat.le_refl _) _

set_option maxHeartbeats 3200000 in
theorem parseOrder_word (s : ByteArray) (hs : s.size ≤ 4000) (hn : numOf s = none) (w : World) (hE : EnvP w) :
    Calls Tryz.prog 211 #[.string s] w fun e w' => e = .returned (.tuple #[.agg #[.int .i64 ((parseW s).getD (0, 0)).1, .int .i64 ((parseW s).getD (0, 0)).2], .bool (parseW s).isSome]) ∧ Below w.heap.size w w' := by
  have hba : Below w.heap.size w (w.alloc (.cells #[.int .i64 0, .int .i64 0] 160)) := (Below.refl _ _).alloc (Nat.le_refl _) _
  have NP := hide (numParse_any s hs _ (hE.later hba))
  rw [hn] at NP
  have HN := hide hn
  have HE := hide hE
  have HBA := hide hba
  clear hE hn hba
  go_enter Tryz.func211, Tryz.ntmps211
  go_wp2_with fail
  refine (unhide NP).mono ?_
  rintro e w1 ⟨rfl, hb1⟩
  have hblk : w1.heap[w.heap.size]? = some (.cells #[.int .i64 0, .int .i64 0] 160 (0, 0)) := (hb1.block _ (by simp)).trans (heap_alloc_new _ _)
  have c0 : w1.cell? ⟨w.heap.size, 0, none⟩ = some (.int .i64 0) := cell_of_row _ _ 0 _ _ _ hblk
  have c1 : w1.cell? ⟨w.heap.size, 1, none⟩ = some (.int .i64 0) := cell_of_row _ _ 1 _ _ _ hblk
  have f0 : w1.frozen? ⟨w.heap.size, 0, none⟩ = false := frozen_of_row _ _ 0 _ _ hblk
  have f1 : w1.frozen? ⟨w.heap.size, 1, none⟩ = false := frozen_of_row _ _ 1 _ _ hblk
  have HB1 := hide (bel_tw (unhide HBA) hb1)
  clear hb1 hblk
  have HNM := hide ((unhide HE).later (unhide HB1)).env
  have hgl := (unhide HNM).lt
  go_wp2
  go_loop [6] (fun i => ∃ j : Nat, 2 ≤ j ∧ j ≤ 14 ∧ i = .int .i64 j ∧ ∀ m, 2 ≤ m → m < j → ((nameB m).toList == s.toList) = false) (fun i => 14 - (intOf i).toNat)
  case atStart => exact ⟨2, Nat.le_refl _, by decide, rfl, fun m h1 h2 => absurd h1 (by omega)⟩
  case round =>
    obtain ⟨j, hj2, hj14, rfl, hno⟩ := hrel
    have HNO := hide hno
    clear hno
    by_cases hlt : j ≤ 13
    · have cn := (unhide HNM).name j (by omega)
      have g14 : (j : Int) < 14 := by omega
      obtain ⟨x, hx⟩ : ∃ x, x = nameB j := ⟨_, rfl⟩
      rw [← hx] at cn
      have HX := hide hx
      clear hx
      by_cases hq : (x.toList == s.toList) = true
      · go_wp2
        (try simp only [Exit.inBlock, Exit.then])
        have e : parseW s = some ((j : Int), 0) := by
          have hk := kindOf_hit s j hj2 hlt (unhide HNO) (by rw [← unhide HX]; exact hq)
          unfold parseW; rw [unhide HN, hk]; rfl
        refine bodyPost_ret (v := .tuple #[.agg #[.int .i64 j, .int .i64 0], .bool true]) ?_ rfl ⟨?_, ?_⟩
        · rw [results_cell_tmp rfl]
          go_simp
        · rw [e]; rfl
        · exact ((unhide HB1).setCell (Nat.le_refl _) _).setCell (Nat.le_refl _) _
      · have hq' : (x.toList == s.toList) = false := by simpa using hq
        clear hq
        go_wp2
        go_round
        case rel =>
          refine ⟨j + 1, by omega, by omega, by go_num, fun m h1 h2 => ?_⟩
          by_cases hm : m = j
          · subst hm; rw [← unhide HX]; exact hq'
          · exact (unhide HNO) m h1 (by omega)
        case measure => simp [intOf]; omega
    · have e14 : j = 14 := by omega
      subst e14
      clear hlt
      go_wp2
      (try simp only [Exit.inBlock, Exit.then])
      have e : parseW s = none := by
        have hk := kindOf_miss s (unhide HNO)
        unfold parseW; rw [unhide HN, hk]; rfl
      refine bodyPost_ret (v := .tuple #[.agg #[.int .i64 0, .int .i64 0], .bool false]) ?_ rfl ⟨?_, ?_⟩
      · rw [results_cell_tmp rfl]
        go_simp
      · rw [e]; rfl
      · exact ((unhide HB1).setCell (Nat.le_refl _) _).setCell (Nat.le_refl _) _

theorem parseOrder_any (s : ByteArray) (hs : s.size ≤ 4000) (w : World) (hE : EnvP w) :
    Calls Tryz.prog 211 #[.string s] w fun e w' => e = .returned (.tuple #[.agg #[.int .i64 ((parseW s).getD (0, 0)).1, .int .i64 ((parseW s).getD (0, 0)).2], .bool (parseW s).isSome]) ∧ Below w.heap.size w w' := by
  cases hn : numOf s with
  | none => exact parseOrder_word s hs hn w hE
  | some n =>
    have e : parseW s = some (1, n) := by unfold parseW; rw [hn]
    rw [e]
    exact parseOrder_num s n hs hn w hE

end Go.Proofs.YtifhlohdidfbgaaGreatDoor

/- The cells of orders in memory, and slices of orders that the call owns. -/
namespace Go.Proofs.YtifhlohdidfbgaaGreatDoor
open Go.RowKit

theorem ops_nil (w : World) (a : Option Addr) : OpsAt w a 0 [] := ⟨rfl, fun h => absurd h (by omega)⟩

/-- The cells of orders. -/
def flat : List (Int × Int) → List Value
  | [] => []
  | o :: r => .int .i64 o.1 :: .int .i64 o.2 :: flat r

theorem flat_len : ∀ l : List (Int × Int), (flat l).length = l.length * 2
  | [] => rfl
  | _ :: r => by simp only [flat, List.length_cons, flat_len r]; omega
theorem flat_append : ∀ l m : List (Int × Int), flat (l ++ m) = flat l ++ flat m
  | [], _ => rfl
  | _ :: r, m => by simp only [List.cons_append, flat, flat_append r m]
theorem flat_at : ∀ (l : List (Int × Int)) (i : Nat), i < l.length → (flat l)[i * 2]? = some (.int .i64 (l.getD i (0, 0)).1) ∧ (flat l)[i * 2 + 1]? = some (.int .i64 (l.getD i (0, 0)).2)
  | [], i, h => absurd h (by simp)
  | o :: r, 0, _ => ⟨rfl, rfl⟩
  | o :: r, i + 1, h => by
    have := flat_at r i (by simpa using h)
    have e : (i + 1) * 2 = i * 2 + 2 := by omega
    rw [e]
    exact this
theorem flat_one : ∀ (l : List (Int × Int)) (u : Value), u ∈ flat l → u.oneCell' = true
  | [], _, h => by cases h
  | o :: r, u, h => by
    simp only [flat, List.mem_cons] at h
    rcases h with rfl | rfl | h
    · rfl
    · rfl
    · exact flat_one r u h

/-- The cells of orders in memory, one by one. -/
theorem OpsAt.flat {w : World} {x : Addr} {len : Nat} {l : List (Int × Int)} (h : OpsAt w (some x) len l) (j : Nat) (u : Value) (hj : (flat l)[j]? = some u) : w.cell? (x.add j) = some u := by
  have hjl : j < (YtifhlohdidfbgaaGreatDoor.flat l).length := by
    rcases Nat.lt_or_ge j (YtifhlohdidfbgaaGreatDoor.flat l).length with h | h
    · exact h
    · rw [List.getElem?_eq_none h] at hj; cases hj
  rw [flat_len] at hjl
  have hz := h.1
  obtain ⟨b, off, hx, hc⟩ := h.2 (by omega)
  cases hx
  have hadd : (⟨b, off, none⟩ : Addr).add j = ⟨b, off + j, none⟩ := by unfold Addr.add; split <;> simp_all
  rw [hadd]
  obtain ⟨i, hi | hi⟩ : ∃ i, j = i * 2 ∨ j = i * 2 + 1 := ⟨j / 2, by omega⟩
  · subst hi
    have f := (flat_at l i (by omega)).1
    rw [f] at hj
    rw [(hc i (by omega)).1]; exact hj
  · subst hi
    have f := (flat_at l i (by omega)).2
    rw [f] at hj
    rw [← Nat.add_assoc, (hc i (by omega)).2]; exact hj

theorem ops_of_own {w : World} {base : Nat} {e : TypeId} {v : Value} {n : Nat} {l : List (Int × Int)} (h : w.ownsRow base e 2 v n (flat l)) : ∃ a cap, v = .slice a n cap ∧ OpsAt w a n l := by
  have hl : l.length = n := by have := h.1; rw [flat_len] at this; omega
  rcases h.2 with ⟨rfl, rfl⟩ | ⟨g, cap, cur, rfl, _, _, _, _, _, _⟩
  · have e : l = [] := List.length_eq_zero_iff.1 hl
    subst e
    exact ⟨none, 0, rfl, ops_nil _ _⟩
  · refine ⟨_, cap, rfl, hl, fun _ => ⟨g, 0, rfl, fun i hi => ?_⟩⟩
    have f := flat_at l i (by omega)
    rw [Nat.zero_add, World.ownsRow.cellAt h (i * 2) (by omega), World.ownsRow.cellAt h (i * 2 + 1) (by omega)]
    exact f

theorem Tryz.infoOp : (Tryz.prog.info? 160).map (fun i => (i.zero, i.size, i.bytes)) = some (some (.agg #[.int .i64 0, .int .i64 0]), 2, 16) := by kernel_rfl

theorem own_ge {w : World} {base : Nat} {e : TypeId} {size : Nat} {v : Value} {n : Nat} {xs : List Value} (h : w.ownsRow base e size v n xs) (k : Nat) (hk : v.ownBlock = some k) : base ≤ k := by
  rcases h.2 with ⟨rfl, _⟩ | ⟨g, cap, cur, rfl, hg, _⟩
  · cases hk
  · cases hk; exact hg

end Go.Proofs.YtifhlohdidfbgaaGreatDoor

/- The contract of Parse: its error, and the orders of a text. -/
namespace Go.Proofs.YtifhlohdidfbgaaGreatDoor
open Go.RowKit

def sepB : ByteArray := ⟨#[32]⟩
def wordsOf (s : ByteArray) : List ByteArray := if s.size = 0 then [] else Lib.splitB sepB 0 (Lib.countB s sepB) s

def parseAll : List ByteArray → Option (List (Int × Int))
  | [] => some []
  | x :: r => (parseW x).bind fun q => (parseAll r).map (q :: ·)

theorem parseAll_snoc : ∀ (ws : List ByteArray) (x : ByteArray), parseAll (ws ++ [x]) = (parseAll ws).bind fun l => (parseW x).map fun q => l ++ [q]
  | [], x => by simp only [List.nil_append, parseAll]; cases parseW x <;> rfl
  | y :: r, x => by
    simp only [List.cons_append, parseAll, parseAll_snoc r x]
    cases parseW y with
    | none => rfl
    | some q =>
      cases parseAll r with
      | none => rfl
      | some l => cases parseW x <;> rfl
theorem parseAll_append : ∀ (ws vs : List ByteArray), parseAll (ws ++ vs) = (parseAll ws).bind fun l => (parseAll vs).map fun m => l ++ m
  | [], vs => by simp only [List.nil_append, parseAll]; cases parseAll vs <;> rfl
  | y :: r, vs => by
    simp only [List.cons_append, parseAll, parseAll_append r vs]
    cases parseW y with
    | none => rfl
    | some q =>
      cases parseAll r with
      | none => rfl
      | some l => cases parseAll vs <;> rfl
theorem parseAll_dead {ws : List ByteArray} {k : Nat} (hk : k < ws.length) (h : parseW ws[k] = none) : parseAll ws = none := by
  have e : ws = ws.take k ++ ws[k] :: ws.drop (k + 1) := by
    rw [List.getElem_cons_drop, List.take_append_drop]
  rw [e, parseAll_append]
  cases parseAll (ws.take k) with
  | none => rfl
  | some l => simp [parseAll, h]

/-- What Parse answers. -/
def prE (s : ByteArray) : Int := if 4000 < s.size then 2 else match parseAll (wordsOf s) with | none => 1 | some l => chk l
def prL (s : ByteArray) : List (Int × Int) := if 4000 < s.size then [] else match parseAll (wordsOf s) with | none => [] | some l => if chk l = 0 then l else []

/-- A slice of texts in memory, behind block B. -/
def StrsAt (B : Nat) (w : World) (a : Option Addr) (len : Nat) (ws : List ByteArray) : Prop :=
  ws.length = len ∧ (0 < len → ∃ b, a = some ⟨b, 0, none⟩ ∧ b < B ∧ ∀ i, i < len → w.cell? ⟨b, i, none⟩ = some (.string (ws.getD i ⟨#[]⟩)))

theorem words_len (s : ByteArray) (h : s.size ≠ 0) : (wordsOf s).length = Lib.countB s sepB + 1 := by
  unfold wordsOf; rw [if_neg h]
  exact Lib.splitB_all sepB (by decide) 0 _ s rfl

theorem split_small (sep : ByteArray) : ∀ (k : Nat) (s : ByteArray) (x : ByteArray), x ∈ Lib.splitB sep 0 k s → x.size ≤ s.size
  | 0, s, x, h => by
    rw [Lib.splitB_zero] at h
    simp only [List.mem_singleton] at h
    rw [h]; exact Nat.le_refl _
  | k + 1, s, x, h => by
    unfold Lib.splitB at h
    split at h
    · simp only [List.mem_singleton] at h
      rw [h]; exact Nat.le_refl _
    · simp only [List.mem_cons] at h
      rcases h with rfl | h
      · rw [ByteArray.size_extract]; omega
      · have := split_small sep k _ x h
        rw [ByteArray.size_extract] at this
        omega
theorem words_small (s : ByteArray) (x : ByteArray) (h : x ∈ wordsOf s) : x.size ≤ s.size := by
  unfold wordsOf at h
  split at h
  · cases h
  · exact split_small _ _ _ _ h

set_option maxHeartbeats 800000 in
theorem split_any (s : ByteArray) (hs : s.size ≤ 4000) (w : World) (hE : EnvP w) :
    Calls Tryz.prog 210 #[.string s] w fun e w' => ∃ a cap, e = .returned (.slice a (wordsOf s).length cap) ∧ StrsAt w'.heap.size w' a (wordsOf s).length (wordsOf s) ∧ Below w.heap.size w w' := by
  by_cases h : s.size = 0
  · have e : s = ⟨#[]⟩ := by
      cases s with
      | mk d =>
        have : d = #[] := Array.eq_empty_of_size_eq_zero h
        rw [this]
    subst e
    clear h hE
    go_enter Tryz.func210, Tryz.ntmps210
    go_wp2
    go_ret
    exact ⟨none, 0, rfl, ⟨rfl, fun h => absurd h (by decide)⟩, Below.refl _ _⟩
  · have hl := words_len s h
    have hw : wordsOf s = Lib.splitB sepB 0 (Lib.countB s sepB) s := by unfold wordsOf; rw [if_neg h]
    have g : (s.toList == []) = false := by
      rw [beq_eq_false_iff_ne]
      intro e
      apply h
      rw [ByteArray.toList_eq] at e
      have := congrArg List.length e
      rw [Array.length_toList] at this
      exact this
    have SP := hide (Tryz.strings_Split_shaped s sepB w hE.shp (by omega) (by decide))
    rw [← hl, ← hw] at SP
    obtain ⟨ws, hws⟩ : ∃ ws, ws = wordsOf s := ⟨_, rfl⟩
    rw [← hws] at SP hl ⊢
    clear h hE hw hl hws
    go_enter Tryz.func210, Tryz.ntmps210
    go_wp2_with fail
    refine (unhide SP).mono ?_
    rintro e w1 ⟨rfl, rfl⟩
    go_wp2
    go_ret
    refine ⟨_, _, rfl, ⟨rfl, fun _ => ⟨w.heap.size, rfl, by simp, fun i hi => ?_⟩⟩, (Below.refl _ _).alloc (Nat.le_refl _) _⟩
    rw [World.cell?_alloc_at _ _ _ _ rfl]
    simp [hi]

/-- What the call owns stays owned where nothing below the heap's end has turned. -/
theorem own_keep {w w' : World} {base : Nat} {e : TypeId} {size : Nat} {v : Value} {n : Nat} {xs : List Value} (h : w.ownsRow base e size v n xs) (hb : Below w.heap.size w w') : w'.ownsRow base e size v n xs := by
  obtain ⟨hl, h0 | ⟨g, cap, cur, hv, hg, hh, r⟩⟩ := h
  · exact ⟨hl, .inl h0⟩
  · exact ⟨hl, .inr ⟨g, cap, cur, hv, hg, (hb.block g (lt_of_block hh)).trans hh, r⟩⟩

set_option maxHeartbeats 400000 in
theorem read_long (s : ByteArray) (hs : 4000 < s.size) (w : World) :
    Calls Tryz.prog 174 #[.string s] w fun e w' => e = .returned (.tuple #[.slice none 0 0, .int .i64 2]) ∧ w = w' := by
  have g : (4000 : Int) < (s.size : Int) := by omega
  clear hs
  go_enter Tryz.func174, Tryz.ntmps174
  go_wp2
  go_ret2
  exact ⟨rfl, rfl⟩

set_option maxHeartbeats 400000 in
theorem read_none (s : ByteArray) (hs : s.size ≤ 4000) (h0 : (wordsOf s).length = 0) (w : World) (hE : EnvP w) :
    Calls Tryz.prog 174 #[.string s] w fun e w' => e = .returned (.tuple #[.slice none 0 0, .int .i64 0]) ∧ Below w.heap.size w w' := by
  have SP := hide (split_any s hs w hE)
  rw [h0] at SP
  have g : ¬ (4000 : Int) < (s.size : Int) := by omega
  clear hs hE h0
  go_enter Tryz.func174, Tryz.ntmps174
  go_wp2_with fail
  refine (unhide SP).mono ?_
  rintro e w1 ⟨a, cap, rfl, _, hb1⟩
  have HB1 := hide hb1
  clear hb1
  go_wp2
  refine wp_loop_rounds 1 ?_
  rw [rounds_succ]
  go_wp2_with fail
  refine (check_none none 0 _).mono ?_
  rintro e w2 ⟨rfl, rfl⟩
  go_wp2
  go_ret2
  exact ⟨rfl, unhide HB1⟩

theorem cell_pair (w : World) (x y : Value) (t : TypeId) (j : Nat) (u : Value) (h : [x, y][j]? = some u) : (w.alloc (.cells #[x, y] t)).cell? ((⟨w.heap.size, 0, none⟩ : Addr).add j) = some u := by
  have hadd : (⟨w.heap.size, 0, none⟩ : Addr).add j = ⟨w.heap.size, j, none⟩ := by unfold Addr.add; split <;> simp_all
  rw [hadd, World.cell?_alloc_at _ _ _ _ rfl]
  simpa using h

theorem flat_snoc (l : List (Int × Int)) (q : Int × Int) : flat (l ++ [q]) = flat l ++ [.int .i64 q.1, .int .i64 q.2] := by rw [flat_append]; rfl

set_option maxRecDepth 10000 in
set_option maxHeartbeats 3200000 in
theorem read_some (s : ByteArray) (hs : s.size ≤ 4000) (h0 : 0 < (wordsOf s).length) (w : World) (hE : EnvP w) :
    Calls Tryz.prog 174 #[.string s] w fun e w' => ∃ a cap, e = .returned (.tuple #[.slice a (prL s).length cap, .int .i64 (prE s)]) ∧ OpsAt w' a (prL s).length (prL s) ∧ Below w.heap.size w w' := by
  obtain ⟨i0, hi, hz0, hz1, hz2⟩ := info_parts Tryz.infoOp
  have SP := hide (split_any s hs w hE)
  have eE : prE s = match parseAll (wordsOf s) with | none => 1 | some l => chk l := by unfold prE; rw [if_neg (by omega)]
  have eL : prL s = match parseAll (wordsOf s) with | none => [] | some l => if chk l = 0 then l else [] := by unfold prL; rw [if_neg (by omega)]
  have hwl : (wordsOf s).length ≤ 4002 := by
    have h1 : s.size ≠ 0 := fun e => by unfold wordsOf at h0; rw [if_pos e] at h0; simp at h0
    rw [words_len s h1]
    have : Lib.countB s sepB ≤ s.size + 1 := Lib.count_le s.data.toList sepB.data.toList
    omega
  have hsm := words_small s
  obtain ⟨ws, hws⟩ : ∃ ws, ws = wordsOf s := ⟨_, rfl⟩
  rw [← hws] at SP eE eL h0 hsm hwl
  obtain ⟨n, hn⟩ : ∃ n, ws.length = n := ⟨_, rfl⟩
  rw [hn] at SP h0 hwl
  have HEE := hide eE
  have HEL := hide eL
  have HSM := hide hsm
  have HN := hide hn
  have HE := hide hE
  have g : ¬ (4000 : Int) < (s.size : Int) := by omega
  clear hE eE eL hsm hws hn
  go_enter Tryz.func174, Tryz.ntmps174
  go_wp2_with fail
  refine (unhide SP).mono ?_
  rintro e w1 ⟨a, cap, rfl, hst, hb1⟩
  obtain ⟨bw, rfl, hbw, hcw⟩ := hst.2 h0
  have HB1 := hide hb1
  have HCW := hide hcw
  clear hb1 hst hcw
  go_wp2
  go_loopw [4, 16] (fun v i wr => ∃ (k : Nat) (l : List (Int × Int)), k ≤ n ∧ i = .int .i64 k ∧ parseAll (ws.take k) = some l ∧ wr.ownsRow w1.heap.size 160 2 v k (flat l) ∧ Below w1.heap.size w1 wr) (fun _ i _ => n - (intOf i).toNat)
  case atStart => exact ⟨0, [], Nat.zero_le _, rfl, rfl, World.ownsRow_nil _ _ _ _, Below.refl _ _⟩
  case round =>
    obtain ⟨k, l, hk, rfl, hpl, hown, hbr⟩ := hrel
    have HPL := hide hpl
    have HOWN := hide hown
    have HBR := hide hbr
    clear hpl hown
    by_cases hlt : k < n
    · have hlk : k < ws.length := by rw [unhide HN]; exact hlt
      have c1 := (unhide HCW) k hlt
      rw [← hbr.cell (p := ⟨bw, k, none⟩) hbw] at c1
      obtain ⟨x, hx⟩ : ∃ x, x = ws.getD k ⟨#[]⟩ := ⟨_, rfl⟩
      rw [← hx] at c1
      have hx' : x = ws[k] := by rw [hx]; simp [hlk]
      have hxs : x.size ≤ 4000 := Nat.le_trans ((unhide HSM) x (by rw [hx']; exact List.getElem_mem hlk)) hs
      have hbwr : Below w.heap.size w wr := bel_tw (unhide HB1) hbr
      have PO := hide (parseOrder_any x hxs wr ((unhide HE).later hbwr))
      have HX := hide hx'
      cases hq : parseW x with
      | none =>
        rw [hq] at PO
        have HQ := hide hq
        have HBW := hide hbwr
        clear hbr hx hx' hxs hbwr hq
        go_wp2_with fail
        refine (unhide PO).mono ?_
        rintro e w2 ⟨rfl, hb2⟩
        have HB2 := hide (bel_tw (unhide HBW) hb2)
        clear hb2
        go_wp2
        go_ret2
        have hd := parseAll_dead (ws := ws) hlk (by rw [← unhide HX]; exact unhide HQ)
        rw [unhide HEE, unhide HEL, hd]
        exact ⟨none, 0, rfl, ops_nil _ _, (unhide HB2).alloc (unhide HB2).size _⟩
      | some q =>
        rw [hq] at PO
        have HQ := hide hq
        obtain ⟨q1, q2⟩ := q
        clear hbr hx hx' hxs hbwr hq
        go_wp2_with fail
        refine (unhide PO).mono ?_
        rintro e w2 ⟨rfl, hb2⟩
        have hbr2 : Below w1.heap.size w1 w2 := (unhide HBR).trans (hb2.mono (unhide HBR).size)
        have hown2 : w2.ownsRow w1.heap.size 160 2 _ k (flat l) := own_keep (unhide HOWN) hb2
        have HBR2 := hide hbr2
        have HOWN2 := hide ((hown2.alloc (.cells #[.int .i64 q1, .int .i64 q2] 160)).alloc (.cells #[.int .i64 q1, .int .i64 q2] 160))
        clear hb2 hbr2 hown2
        have CP : Hid (∀ (j : Nat) (u : Value), ([.int .i64 q1, .int .i64 q2] : List Value)[j]? = some u → ((w2.alloc (.cells #[.int .i64 q1, .int .i64 q2] 160)).alloc (.cells #[.int .i64 q1, .int .i64 q2] 160)).cell? ((⟨w2.heap.size + 1, 0, none⟩ : Addr).add j) = some u) := fun j u hj => by
          have h := cell_pair (w2.alloc (.cells #[.int .i64 q1, .int .i64 q2] 160)) (.int .i64 q1) (.int .i64 q2) 160 j u hj
          rw [show (w2.alloc (.cells #[.int .i64 q1, .int .i64 q2] 160)).heap.size = w2.heap.size + 1 by simp] at h
          exact h
        have HSZ := hide (unhide HBR2).size
        go_wp2_with (at_builtin; refine wpList_append_own _ rfl _ _ 83 rfl w1.heap.size 160 i0 (.agg #[.int .i64 0, .int .i64 0]) 2 16 Tryz.underlying83 hi hz0 hz1 hz2 rfl (by decide) _ _ _ rfl (unhide HOWN2) ⟨w2.heap.size + 1, 0, none⟩ 1 1 [.int .i64 q1, .int .i64 q2] rfl rfl (unhide CP) (fun u hu => by simp at hu; rcases hu with rfl | rfl <;> rfl) (by unfold maxLen; omega) (by omega) (by have := unhide HSZ; simp; omega) ?_; intro v' w3 hown3 hgrow3 _)
        have HOWN3 : Hid (w3.ownsRow w1.heap.size 160 2 v' (k + 1) (flat (l ++ [(q1, q2)]))) := by rw [flat_snoc]; exact hown3
        have HB3 : Hid (Below w1.heap.size w1 w3) := ((((unhide HBR2).alloc (unhide HSZ) _).alloc (by have := unhide HSZ; simp; omega) _).grown hgrow3 (by have := unhide HSZ; simp; omega) (own_ge (unhide HOWN2)))
        clear hown3 hgrow3
        go_wp2
        go_roundw
        case rel =>
          refine ⟨k + 1, l ++ [(q1, q2)], by omega, by go_num, ?_, unhide HOWN3, unhide HB3⟩
          rw [List.take_succ_eq_append_getElem hlk, parseAll_snoc, unhide HPL, ← unhide HX, unhide HQ]; rfl
        case measure => simp [intOf]; omega
    · have e : k = n := by omega
      subst e
      obtain ⟨a', cap', hv, hO⟩ := ops_of_own (unhide HOWN)
      subst hv
      have hpa : parseAll ws = some l := by
        have h1 := unhide HPL
        rw [← unhide HN, List.take_length] at h1
        exact h1
      have hll : l.length = k := hO.1
      have HPA := hide hpa
      have HLL := hide hll
      have HO := hide hO
      have HBW := hide (bel_tw (unhide HB1) hbr)
      have CK := hide (check_any a' k cap' l wr hO)
      clear hk hlt hbr hO hpa hll
      by_cases hck : chk l = 0
      · rw [hck] at CK
        have HCK := hide hck
        clear hck
        go_wp2_with fail
        refine (unhide CK).mono ?_
        rintro e w2 ⟨rfl, hb2⟩
        have HO2 := hide ((unhide HO).later hb2)
        have HB2 := hide (bel_tw (unhide HBW) hb2)
        clear hb2
        go_wp2
        go_ret2
        have e1 : prE s = 0 := by rw [unhide HEE, unhide HPA]; exact unhide HCK
        have e2 : prL s = l := by rw [unhide HEL, unhide HPA]; simp [unhide HCK]
        rw [e1, e2, unhide HLL]
        exact ⟨a', cap', rfl, unhide HO2, unhide HB2⟩
      · obtain ⟨x, hx⟩ : ∃ x, x = chk l := ⟨_, rfl⟩
        rw [← hx] at CK hck
        have hx1 : (x != 0) = true := by simp [hck]
        have HX := hide hx
        have HCK := hide hck
        clear hck hx
        go_wp2_with fail
        refine (unhide CK).mono ?_
        rintro e w2 ⟨rfl, hb2⟩
        have HB2 := hide (bel_tw (unhide HBW) hb2)
        clear hb2
        go_wp2
        go_ret2
        have e1 : prE s = x := by rw [unhide HEE, unhide HPA]; exact (unhide HX).symm
        have e2 : prL s = [] := by
          rw [unhide HEL, unhide HPA]
          show (if chk l = 0 then l else []) = []
          rw [if_neg (by rw [← unhide HX]; exact unhide HCK)]
        rw [e1, e2]
        exact ⟨none, 0, rfl, ops_nil _ _, unhide HB2⟩

theorem parse_any (s : ByteArray) (w : World) (hE : EnvP w) :
    Calls Tryz.prog 174 #[.string s] w fun e w' => ∃ a cap, e = .returned (.tuple #[.slice a (prL s).length cap, .int .i64 (prE s)]) ∧ OpsAt w' a (prL s).length (prL s) ∧ Below w.heap.size w w' := by
  by_cases hs : 4000 < s.size
  · have e1 : prE s = 2 := by unfold prE; rw [if_pos hs]
    have e2 : prL s = [] := by unfold prL; rw [if_pos hs]
    rw [e1, e2]
    exact (read_long s hs w).mono fun e w' ⟨h1, h2⟩ => ⟨none, 0, h1, ops_nil _ _, h2 ▸ Below.refl _ _⟩
  · by_cases h0 : (wordsOf s).length = 0
    · have ew : wordsOf s = [] := List.length_eq_zero_iff.1 h0
      have e1 : prE s = 0 := by unfold prE; rw [if_neg hs, ew]; rfl
      have e2 : prL s = [] := by unfold prL; rw [if_neg hs, ew]; rfl
      rw [e1, e2]
      exact (read_none s (by omega) h0 w hE).mono fun e w' ⟨h1, h2⟩ => ⟨none, 0, h1, ops_nil _ _, h2⟩
    · exact read_some s (by omega) (by omega) w hE

end Go.Proofs.YtifhlohdidfbgaaGreatDoor

/- The contract of what reads a row of numbers. -/
namespace Go.Proofs.YtifhlohdidfbgaaGreatDoor
open Go.RowKit

/-- The pieces of a text between signs c. -/
def spl (c : UInt8) (s : ByteArray) : List ByteArray := Lib.splitB ⟨#[c]⟩ 0 (Lib.countB s ⟨#[c]⟩) s
theorem spl_len (c : UInt8) (s : ByteArray) : (spl c s).length = Lib.countB s ⟨#[c]⟩ + 1 := Lib.splitB_all ⟨#[c]⟩ (Nat.le_refl 1) 0 _ s rfl
theorem spl_pos (c : UInt8) (s : ByteArray) : 0 < (spl c s).length := by rw [spl_len]; omega
theorem spl_many (c : UInt8) (s : ByteArray) (hs : s.size ≤ 4000) : (spl c s).length ≤ 4002 := by
  rw [spl_len]
  have : Lib.countB s ⟨#[c]⟩ ≤ s.size + 1 := Lib.count_le s.data.toList [c]
  omega
theorem spl_small (c : UInt8) (s x : ByteArray) (h : x ∈ spl c s) : x.size ≤ s.size := split_small _ _ _ _ h

def numAll (r : List ByteArray) : Option (List Int) := if r.all (fun x => (numOf x).isSome) then some (r.map fun x => (numOf x).getD 0) else none
/-- The numbers of a row that opens with a word. -/
def rowOf (s word : ByteArray) (count : Nat) : Option (List Int) := if (spl 32 s).getD 0 ⟨#[]⟩ = word ∧ (spl 32 s).length = count + 1 then numAll ((spl 32 s).drop 1) else none

theorem ba_list {a b : ByteArray} (h : a.toList = b.toList) : a = b := by
  rw [ByteArray.toList_eq, ByteArray.toList_eq] at h
  cases a with | mk d => cases b with | mk e => cases d; cases e; simp at h; rw [h]

theorem split_at (c : UInt8) (s : ByteArray) (hs : s.size ≤ 4000) (w : World) (hE : EnvP w) :
    Calls Tryz.prog 52 #[.string s, .string ⟨#[c]⟩] w fun e w' => e = .returned (.slice (some ⟨w.heap.size, 0, none⟩) (spl c s).length (spl c s).length) ∧ w' = w.alloc (.cells ((spl c s).map Value.string).toArray 9) := by
  have h := Tryz.strings_Split_shaped s ⟨#[c]⟩ w hE.shp (by omega) (Nat.le_refl 1)
  rw [← spl_len] at h
  exact h
theorem strs_new (w : World) (ws : List ByteArray) (i : Nat) (hi : i < ws.length) : (w.alloc (.cells (ws.map Value.string).toArray 9)).cell? ⟨w.heap.size, i, none⟩ = some (.string (ws.getD i ⟨#[]⟩)) := by
  rw [World.cell?_alloc_at _ _ _ _ rfl]
  simp [hi]

def numV (r : List ByteArray) (j : Nat) : Value := .int .i64 ((r.map fun x => (numOf x).getD 0).getD j 0)

theorem numAll_none {r : List ByteArray} {k : Nat} (hk : k < r.length) (h : numOf r[k] = none) : numAll r = none := by
  unfold numAll
  rw [if_neg]
  intro ha
  have := List.all_eq_true.1 ha r[k] (List.getElem_mem hk)
  rw [h] at this
  cases this
theorem numAll_some {r : List ByteArray} (h : ∀ j, j < r.length → (numOf (r.getD j ⟨#[]⟩)).isSome = true) : numAll r = some (r.map fun x => (numOf x).getD 0) := by
  unfold numAll
  rw [if_pos]
  rw [List.all_eq_true]
  intro x hx
  obtain ⟨j, hj, rfl⟩ := List.getElem_of_mem hx
  have := h j hj
  simpa [hj] using this

set_option maxRecDepth 10000 in
set_option maxHeartbeats 3200000 in
theorem parseRow_bad (s word : ByteArray) (count : Nat) (ct : Int) (hct : ct = (count : Int)) (hs : s.size ≤ 4000) (hn : count ≤ 6) (w : World) (hE : EnvP w)
    (hno : ¬ ((spl 32 s).getD 0 ⟨#[]⟩ = word ∧ (spl 32 s).length = count + 1)) :
    Calls Tryz.prog 37 #[.string s, .string word, .int .i64 ct] w fun e w' => e = .returned (.tuple #[.slice none 0 0, .bool false]) ∧ Below w.heap.size w w' := by
  subst hct
  have SP := hide (split_at 32 s hs w hE)
  have hm := spl_many 32 s hs
  have h0 := strs_new w (spl 32 s) 0 (spl_pos 32 s)
  have hp := spl_pos 32 s
  obtain ⟨ws, hws⟩ : ∃ ws, spl 32 s = ws := ⟨_, rfl⟩
  rw [hws] at SP hno hm h0 hp
  obtain ⟨n, hn2⟩ : ∃ n, ws.length = n := ⟨_, rfl⟩
  obtain ⟨x, hx⟩ : ∃ x, ws.getD 0 ⟨#[]⟩ = x := ⟨_, rfl⟩
  rw [hn2] at SP hno hm hp
  rw [hx] at hno h0
  have HC0 := hide h0
  clear hE hws hn2 hx h0
  by_cases h1 : x = word
  · subst h1
    have h2 : n ≠ count + 1 := fun e => hno ⟨rfl, e⟩
    have g1 : (x.toList == x.toList) = true := by simp
    have g2 : ((n : Int) != (count : Int) + 1) = true := by simp; omega
    clear hno h2
    go_enter Tryz.func37, Tryz.ntmps37
    go_wp2_with fail
    refine (unhide SP).mono ?_
    rintro e w1 ⟨rfl, hw1⟩
    have c0 := unhide HC0
    rw [← hw1] at c0
    have HB : Hid (Below w.heap.size w w1) := by rw [hw1]; exact bel_new _ _
    clear hw1
    go_wp2
    go_ret2
    exact ⟨rfl, unhide HB⟩
  · have g1 : (x.toList == word.toList) = false := by
      rw [beq_eq_false_iff_ne]; exact fun e => h1 (ba_list e)
    clear hno h1
    go_enter Tryz.func37, Tryz.ntmps37
    go_wp2_with fail
    refine (unhide SP).mono ?_
    rintro e w1 ⟨rfl, hw1⟩
    have c0 := unhide HC0
    rw [← hw1] at c0
    have HB : Hid (Below w.heap.size w w1) := by rw [hw1]; exact bel_new _ _
    clear hw1
    go_wp2
    go_ret2
    exact ⟨rfl, unhide HB⟩

set_option maxRecDepth 10000 in
set_option maxHeartbeats 3200000 in
theorem parseRow_good (s word : ByteArray) (count : Nat) (ct : Int) (hct : ct = (count : Int)) (hs : s.size ≤ 4000) (hn : count ≤ 6) (hpos : 0 < count) (w : World) (hE : EnvP w)
    (h1 : (spl 32 s).getD 0 ⟨#[]⟩ = word) (h2 : (spl 32 s).length = count + 1) :
    Calls Tryz.prog 37 #[.string s, .string word, .int .i64 ct] w fun e w' => ∃ a c, e = .returned (.tuple #[.slice a ((numAll ((spl 32 s).drop 1)).getD []).length c, .bool (numAll ((spl 32 s).drop 1)).isSome]) ∧ RowAt w' a ((numAll ((spl 32 s).drop 1)).getD []).length ((numAll ((spl 32 s).drop 1)).getD []) ∧ Below w.heap.size w w' ∧ (∀ x, a = some x → w.heap.size ≤ x.block) := by
  subst hct
  obtain ⟨i0, hi, hz0, hz1, hz2⟩ := info_parts Tryz.infoInt
  have SP := hide (split_at 32 s hs w hE)
  have hc0 := strs_new w (spl 32 s)
  have hsm := spl_small 32 s
  obtain ⟨ws, hws⟩ : ∃ ws, spl 32 s = ws := ⟨_, rfl⟩
  rw [hws] at SP h1 h2 hc0 hsm ⊢
  rw [h2] at SP
  have hdl : (ws.drop 1).length = count := by rw [List.length_drop]; omega
  have HDL := hide hdl
  have HCW := hide hc0
  have HSM := hide hsm
  have H2 := hide h2
  have H1 := hide h1
  have HE := hide hE
  have g1 : (word.toList == word.toList) = true := by simp
  have g2 : (((count + 1 : Nat) : Int) != (count : Int) + 1) = false := by simp
  clear hE hws hdl hc0 hsm h1 h2
  go_enter Tryz.func37, Tryz.ntmps37
  go_wp2_with fail
  refine (unhide SP).mono ?_
  rintro e w1 ⟨rfl, hw1⟩
  have HC : Hid (∀ i, i < count + 1 → w1.cell? ⟨w.heap.size, i, none⟩ = some (.string (ws.getD i ⟨#[]⟩))) := by rw [hw1]; exact fun i hi => (unhide HCW) i (by rw [unhide H2]; exact hi)
  have HB : Hid (Below w.heap.size w w1) := by rw [hw1]; exact bel_new _ _
  have hsz : w.heap.size < w1.heap.size := by rw [hw1]; simp
  have c0 := (unhide HC) 0 (by omega)
  rw [unhide H1] at c0
  clear hw1
  go_wp2_with (at_make; refine wpList_make_full _ rfl _ _ 40 rfl w1.heap.size 3 i0 (.int .i64 0) 1 Tryz.underlying40 hi hz0 hz1 .i64 .i64 _ _ count rfl rfl rfl rfl (by rw [hz2]; omega) (by unfold maxLen; omega) (Nat.le_refl _) ?_; intro w2 hown2 hgrow2)
  have hst : FillV w1.heap.size 3 count (numV (ws.drop 1)) w1 w2 0 := ⟨⟨_, hown2, fun j hj => absurd hj (by omega)⟩, (Below.refl _ _).grown hgrow2 (Nat.le_refl _) (fun k h => by cases h)⟩
  have HST := hide hst
  clear hst hown2 hgrow2 c0
  go_loopw [30] (fun i wr => ∃ k : Nat, k ≤ count ∧ i = .int .i64 k ∧ Hid (∀ j, j < k → (numOf ((ws.drop 1).getD j ⟨#[]⟩)).isSome = true) ∧ FillV w1.heap.size 3 count (numV (ws.drop 1)) w1 wr k) (fun i _ => count - (intOf i).toNat)
  case atStart => exact ⟨0, Nat.zero_le _, rfl, fun j hj => absurd hj (by omega), unhide HST⟩
  case round =>
    obtain ⟨k, hk, rfl, A, hfl⟩ := hrel
    have HF := hide hfl
    have hbw : Below w.heap.size w wr := (unhide HB).trans (hfl.bel.mono (unhide HB).size)
    have HBW := hide hbw
    by_cases hlt : k < count
    · have hlk : k < (ws.drop 1).length := by rw [unhide HDL]; exact hlt
      have c1 := (unhide HC) (k + 1) (by omega)
      rw [← hfl.bel.cell (p := ⟨w.heap.size, k + 1, none⟩) hsz] at c1
      have ex : ws.getD (k + 1) ⟨#[]⟩ = (ws.drop 1).getD k ⟨#[]⟩ := by simp
      have ex2 : (ws.drop 1).getD k ⟨#[]⟩ = (ws.drop 1)[k] := by rw [List.getD_eq_getElem?_getD, List.getElem?_eq_getElem hlk]; rfl
      rw [ex] at c1
      have hxs : ((ws.drop 1).getD k ⟨#[]⟩).size ≤ 4000 := Nat.le_trans ((unhide HSM) _ (by rw [ex2]; exact List.mem_of_mem_drop (List.getElem_mem hlk))) hs
      have NV : Hid (numV (ws.drop 1) k = .int .i64 ((numOf ((ws.drop 1).getD k ⟨#[]⟩)).getD 0)) := by
        show _ = _
        unfold numV
        rw [List.getD_eq_getElem?_getD, List.getElem?_map, List.getElem?_eq_getElem hlk, ex2]; rfl
      have HD := hide (numAll_none hlk)
      rw [← ex2] at HD
      obtain ⟨x, hx⟩ : ∃ x, (ws.drop 1).getD k ⟨#[]⟩ = x := ⟨_, rfl⟩
      rw [hx] at c1 hxs NV HD
      have HX := hide hx
      have NP := hide (numParse_any x hxs wr ((unhide HE).later hbw))
      have hlw : w.heap.size < wr.heap.size := Nat.lt_of_lt_of_le hsz (Nat.le_of_lt hfl.lt)
      clear hfl hbw ex ex2 hx hxs
      cases hq : numOf x with
      | none =>
        have R := hide ((unhide HD) hq)
        rw [hq] at NP
        clear hq HD
        go_wp2_with fail
        refine (unhide NP).mono ?_
        rintro e w3 ⟨rfl, hb3⟩
        have HB3 := hide (bel_on (unhide HBW) hb3)
        clear hb3
        go_wp2
        go_ret2
        rw [unhide R]
        exact ⟨none, 0, rfl, RowAt.nil _ _, unhide HB3, fun x h => by cases h⟩
      | some v =>
        rw [hq] at NP NV
        have HQ := hide hq
        clear hq HD
        go_wp2_with fail
        refine (unhide NP).mono ?_
        rintro e w3 ⟨rfl, hb3⟩
        have hf3 := (unhide HF).keep hb3
        obtain ⟨u, hold⟩ := hf3.old hlt
        have hfree := hf3.free k
        have HF3 := hide hf3
        clear hb3 hf3
        go_wp2
        go_roundw
        case rel =>
          refine ⟨k + 1, by omega, by go_num, (show Hid _ from fun j hj => ?_), (unhide HF3).step hlt (unhide NV).symm⟩
          by_cases e : j = k
          · subst e; rw [unhide HX, unhide HQ]; rfl
          · exact (unhide A) j (by omega)
        case measure => simp [intOf]; omega
    · have e : k = count := by omega
      subst e
      have R := hide (numAll_some (r := ws.drop 1) (by rw [unhide HDL]; exact unhide A))
      have hl : ((ws.drop 1).map fun x => (numOf x).getD 0).length = k := by rw [List.length_map]; exact unhide HDL
      have HL := hide hl
      have HR : Hid (RowAt wr (some ⟨w1.heap.size, 0, none⟩) k ((ws.drop 1).map fun x => (numOf x).getD 0)) := by
        refine ⟨hl, by unfold maxLen; omega, fun _ => ⟨w1.heap.size, 0, rfl, fun i hi => ?_⟩⟩
        rw [Nat.zero_add, hfl.cells (Nat.le_refl _) i hi]; rfl
      clear hfl hbw A hl
      go_wp2
      go_ret2
      rw [unhide R]
      simp only [Option.getD_some, Option.isSome_some]
      rw [unhide HL]
      exact ⟨_, _, rfl, unhide HR, unhide HBW, fun x h => by cases h; exact (unhide HB).size⟩

theorem parseRow_any (s word : ByteArray) (count : Nat) (ct : Int) (hct : ct = (count : Int)) (hs : s.size ≤ 4000) (hn : count ≤ 6) (hpos : 0 < count) (w : World) (hE : EnvP w) (r : Option (List Int)) (hr : rowOf s word count = r) :
    Calls Tryz.prog 37 #[.string s, .string word, .int .i64 ct] w fun e w' => ∃ a c, e = .returned (.tuple #[.slice a (r.getD []).length c, .bool r.isSome]) ∧ RowAt w' a (r.getD []).length (r.getD []) ∧ Below w.heap.size w w' ∧ (∀ x, a = some x → w.heap.size ≤ x.block) := by
  subst hr
  by_cases h : (spl 32 s).getD 0 ⟨#[]⟩ = word ∧ (spl 32 s).length = count + 1
  · have e : rowOf s word count = numAll ((spl 32 s).drop 1) := by unfold rowOf; rw [if_pos h]
    rw [e]
    exact parseRow_good s word count ct hct hs hn hpos w hE h.1 h.2
  · have e : rowOf s word count = none := by unfold rowOf; rw [if_neg h]
    rw [e]
    exact (parseRow_bad s word count ct hct hs hn w hE h).mono fun e w' ⟨h1, h2⟩ => ⟨none, 0, h1, RowAt.nil _ _, h2, fun x h => by cases h⟩

end Go.Proofs.YtifhlohdidfbgaaGreatDoor
