/- Contracts of slices.Equal at texts and at ints, of slices.Index at texts. -/
import Derived.Test.YthhlofipapfbnaaGreatDoorBookAllWToBookName
import Derived.Test.YthhlofipapfbnaaGreatDoorBlkConW
import Derived.Test.YthhlofipapfbnaaGreatDoorLockMathToTxMem
import Derived.Test.YthhlofipapfbnaaGreatDoorTxSameToBlkArr
namespace Go.Proofs.YthhlofipapfbnaaGreatDoor.Bk
open Go.RowKit Go.Maps

theorem take_more {α : Type} {L M : List α} {j : Nat} (h1 : j < L.length) (h2 : j < M.length) (h : L.take j = M.take j) (e : L[j] = M[j]) : L.take (j + 1) = M.take (j + 1) := by
  rw [List.take_succ_eq_append_getElem h1, List.take_succ_eq_append_getElem h2, h, e]
theorem take_not {α : Type} {L M : List α} {j : Nat} (h1 : j < L.length) (h2 : j < M.length) (e : L[j] ≠ M[j]) : L ≠ M := by
  intro h; subst h; exact e rfl
set_option maxRecDepth 10000 in
set_option maxHeartbeats 1600000 in
theorem eqInt_some (b off b2 off2 n c d : Nat) (L M : List Int) (o : Bool) (w : World) (hn : n ≤ maxLen) (hz : L.length = n) (hz2 : M.length = n)
    (hc : ∀ i (h : i < L.length), w.cell? ⟨b, off + i, none⟩ = some (.int .i64 L[i])) (hc2 : ∀ i (h : i < M.length), w.cell? ⟨b2, off2 + i, none⟩ = some (.int .i64 M[i])) (ho : decide (L = M) = o) :
    Calls Tryz.prog 21 #[.slice (some ⟨b, off, none⟩) n c, .slice (some ⟨b2, off2, none⟩) n d] w fun e w' => e = .returned (.bool o) ∧ Below w.heap.size w w' := by
  have HC := hide hc
  have HC2 := hide hc2
  have HZ := hide hz
  have HZ2 := hide hz2
  have HO := hide ho
  have g0 : ((n : Int) != (n : Int)) = false := by simp
  unfold maxLen at hn
  clear hc hc2 hz hz2 ho
  go_enter Tryz.func21, Tryz.ntmps21
  go_wp2
  go_loopw [13] (fun i wr => ∃ j m : Nat, j ≤ n ∧ i = .int .i64 j ∧ wr = w.drewN m ∧ Hid (L.take j = M.take j)) (fun i _ => n - (intOf i).toNat)
  case atStart => exact ⟨0, 0, Nat.zero_le _, rfl, rfl, rfl⟩
  case round =>
    obtain ⟨j, m, hk, rfl, rfl, A⟩ := hrel
    by_cases hlt : j < n
    · have h1 : j < L.length := by rw [unhide HZ]; exact hlt
      have h2 : j < M.length := by rw [unhide HZ2]; exact hlt
      have f1 := (unhide HC) j h1
      have f2 := (unhide HC2) j h2
      have TM := hide (take_more h1 h2 (unhide A))
      have TN := hide (take_not h1 h2)
      obtain ⟨s, hs⟩ : ∃ s, L[j] = s := ⟨_, rfl⟩
      obtain ⟨t, ht⟩ : ∃ t, M[j] = t := ⟨_, rfl⟩
      rw [hs] at f1
      rw [ht] at f2
      rw [hs, ht] at TM TN
      clear hs ht A
      by_cases e : s = t
      · subst e
        have R := hide ((unhide TM) rfl)
        have g : (s != s) = false := by simp
        clear TM TN
        go_wp2
        go_quiet (fail)
        go_wp2
        go_roundw
        case rel => exact ⟨j + 1, m + nq, by omega, by go_num, rfl, R⟩
        case measure => simp [intOf]; omega
      · have R : Hid (o = false) := by show _ = _; rw [← unhide HO]; exact decide_eq_false ((unhide TN) e)
        have g : (s != t) = true := by simp [e]
        clear TM TN
        go_wp2
        go_quiet (fail)
        go_wp2
        go_ret
        exact ⟨by rw [unhide R]; rfl, by simp only [World.drewN_drewN]; exact below_dw _ _⟩
    · have R : Hid (o = true) := by
        have h := unhide A
        rw [List.take_of_length_le (by rw [unhide HZ]; omega), List.take_of_length_le (by rw [unhide HZ2]; omega)] at h
        show _ = _; rw [← unhide HO]; exact decide_eq_true h
      clear A
      go_wp2
      go_ret
      exact ⟨by rw [unhide R]; rfl, below_dw _ _⟩

set_option maxHeartbeats 400000 in
theorem eqInt_zero (a a2 : Option Addr) (c d : Nat) (w : World) :
    Calls Tryz.prog 21 #[.slice a 0 c, .slice a2 0 d] w fun e w' => e = .returned (.bool true) ∧ Below w.heap.size w w' := by
  go_enter Tryz.func21, Tryz.ntmps21
  go_wp2
  refine wp_loop_rounds 1 ?_
  rw [rounds_succ]
  go_wp2
  go_ret
  exact ⟨rfl, Below.refl _ _⟩
set_option maxHeartbeats 400000 in
theorem eqInt_len (a a2 : Option Addr) (n m c d : Nat) (w : World) (h : n ≠ m) :
    Calls Tryz.prog 21 #[.slice a n c, .slice a2 m d] w fun e w' => e = .returned (.bool false) ∧ Below w.heap.size w w' := by
  have g : ((n : Int) != (m : Int)) = true := by simp; omega
  go_enter Tryz.func21, Tryz.ntmps21
  go_wp2
  go_ret
  exact ⟨rfl, Below.refl _ _⟩

theorem eqInt_is (a a2 : Option Addr) (n m c d : Nat) (L M : List Int) (o : Bool) (w : World) (hn : n ≤ maxLen) (h : IntsAt w a n L) (h2 : IntsAt w a2 m M) (ho : decide (L = M) = o) :
    Calls Tryz.prog 21 #[.slice a n c, .slice a2 m d] w fun e w' => e = .returned (.bool o) ∧ Below w.heap.size w w' := by
  by_cases e : n = m
  · subst e
    by_cases h0 : n = 0
    · subst h0
      have e1 : L = [] := List.length_eq_zero_iff.1 h.1
      have e2 : M = [] := List.length_eq_zero_iff.1 h2.1
      subst e1 e2
      have : o = true := by rw [← ho]; rfl
      subst this
      exact eqInt_zero a a2 c d w
    · obtain ⟨b, off, rfl, hc⟩ := h.2 (by omega)
      obtain ⟨b2, off2, rfl, hc2⟩ := h2.2 (by omega)
      exact eqInt_some b off b2 off2 n c d L M o w hn h.1 h2.1 hc hc2 ho
  · have : o = false := by
      rw [← ho]
      exact decide_eq_false (fun e2 => e (by rw [← h.1, ← h2.1, e2]))
    subst this
    exact eqInt_len a a2 n m c d w e


end Go.Proofs.YthhlofipapfbnaaGreatDoor.Bk

/- The contract of laid: the closed fact that each law of block asks first. -/
namespace Go.Proofs.YthhlofipapfbnaaGreatDoor
open Go.RowKit

def laidB : BlkD := (0, 1, 2, 0, [(1, [], [(64, [])])])
def laidT : ByteArray := ⟨#[116, 120, 32, 49, 10, 111, 117, 116, 32, 54, 52, 58, 10]⟩
def laidS : ByteArray := ⟨#[98, 108, 111, 99, 107, 32, 48, 32, 49, 32, 50, 32, 48, 10, 116, 120, 32, 49, 10, 111, 117, 116, 32, 54, 52, 58, 10]⟩
theorem laid_text : blkText laidB = laidS := by kernel_rfl
theorem laid_right : chkB laidB = 0 := by kernel_rfl
theorem laid_names : nmsB [] laidB = ([laidT, laidS], 2, [1], 0) := by kernel_rfl
theorem laid_con : conD [] [] laidB = (0, [(1, 0, 64, [], 1, true)], [[]]) := by kernel_rfl
theorem one_int (w : World) (x : Int) : Bk.IntsAt (w.alloc (.cells #[.int .i64 x] 3)) (some ⟨w.heap.size, 0, none⟩) 1 [x] :=
  ⟨rfl, fun _ => ⟨w.heap.size, 0, rfl, fun i hi => by
    have e : i = 0 := by simp at hi; exact hi
    subst e
    exact one_new _ _ _⟩⟩

set_option maxRecDepth 10000 in
set_option maxHeartbeats 6400000 in
theorem laid_yes (w : World) (hE : Env w) : Calls Tryz.prog 10 #[] w fun e w' => e = .returned (.bool true) ∧ Below w.heap.size w w' := by
  obtain ⟨W0, hW0⟩ : ∃ W0, W0 = w.alloc (.cells #[.int .i64 64, .slice none 0 0] 85) := ⟨_, rfl⟩
  obtain ⟨W1, hW1⟩ : ∃ W1, W1 = W0.alloc (.cells #[.int .i64 1, .slice none 0 0, .slice (some ⟨w.heap.size, 0, none⟩) 1 1] 78) := ⟨_, rfl⟩
  obtain ⟨X, hX⟩ : ∃ X, X = W1.alloc (.cells #[.int .i64 0, .int .i64 1, .int .i64 2, .int .i64 0, .slice (some ⟨w.heap.size + 1, 0, none⟩) 1 1] 24) := ⟨_, rfl⟩
  have s0 : W0.heap.size = w.heap.size + 1 := by rw [hW0]; simp
  have s1 : W1.heap.size = w.heap.size + 2 := by rw [hW1]; simp [s0]
  have b0 : Below w.heap.size w W0 := by rw [hW0]; exact bel_new _ _
  have b1 : Below W0.heap.size W0 W1 := by rw [hW1]; exact bel_new _ _
  have b2 : Below W1.heap.size W1 X := by rw [hX]; exact bel_new _ _
  have h0 : W0.heap[w.heap.size]? = some (.cells [.int .i64 64, .slice none 0 0].toArray 85 (0, 0)) := by rw [hW0]; exact heap_alloc_new _ _
  have h1 : W1.heap[w.heap.size + 1]? = some (.cells [.int .i64 1, .slice none 0 0, .slice (some ⟨w.heap.size, 0, none⟩) 1 1].toArray 78 (0, 0)) := by
    rw [hW1, ← s0]; exact heap_alloc_new _ _
  have h2 : X.heap[w.heap.size + 2]? = some (.cells [.int .i64 0, .int .i64 1, .int .i64 2, .int .i64 0, .slice (some ⟨w.heap.size + 1, 0, none⟩) 1 1].toArray 24 (0, 0)) := by
    rw [hX, ← s1]; exact heap_alloc_new _ _
  have g0 := (b2.block _ (by rw [s1]; omega)).trans ((b1.block _ (lt_of_block h0)).trans h0)
  have g1 := (b2.block _ (lt_of_block h1)).trans h1
  have hbX : Below w.heap.size w X := bel_on (bel_on b0 b1) b2
  have hT : TxsAt X (some ⟨w.heap.size + 1, 0, none⟩) 1 [(1, [], [(64, [])])] := by
    refine ⟨rfl, fun _ => ⟨w.heap.size + 1, 0, rfl, lt_of_block g1, fun i hi => ?_⟩⟩
    have e : i = 0 := by simp at hi; exact hi
    subst e
    refine ⟨cell_of g1 0 _ rfl, ⟨none, 0, 0, cell_of g1 1 _ rfl, ⟨rfl, fun h => absurd h (by omega)⟩, slok_nil⟩, some ⟨w.heap.size, 0, none⟩, 1, 1, cell_of g1 2 _ rfl, ?_, ⟨Nat.le_refl _, by unfold maxLen; omega, fun e => by cases e⟩⟩
    refine ⟨rfl, fun _ => ⟨w.heap.size, 0, rfl, lt_of_block g0, fun i hi => ?_⟩⟩
    have e : i = 0 := by simp at hi; exact hi
    subst e
    exact ⟨cell_of g0 0 _ rfl, none, 0, 0, cell_of g0 1 _ rfl, ⟨rfl, fun h => absurd h (by omega)⟩, slok_nil⟩
  have C1 := blkPrint_some 0 1 2 0 (some ⟨w.heap.size + 1, 0, none⟩) 1 1 [(1, [], [(64, [])])] X (hE.later hbX) hT laid_right
  rw [show blkText (0, 1, 2, 0, [(1, [], [(64, [])])]) = laidS from laid_text] at C1
  unfold laidS at C1
  have HC1 := hide C1
  have C2 := hide (fun W (hb : Below X.heap.size X W) => names_any none 0 0 [] 0 1 2 0 (some ⟨w.heap.size + 1, 0, none⟩) 1 1 [(1, [], [(64, [])])] [laidT, laidS] 2 [1] 0 W (hE.later (bel_on hbX hb)) ⟨rfl, fun h => absurd h (by omega)⟩ (hT.later hb) laid_names)
  have C3 := hide (fun W (hb : Below X.heap.size X W) => connect_is none 0 0 [] none 0 0 [] 0 1 2 0 (some ⟨w.heap.size + 1, 0, none⟩) 1 1 [(1, [], [(64, [])])] 0 [(1, 0, 64, [], 1, true)] [[]] W (hE.later (bel_on hbX hb)) ⟨rfl, fun h => absurd h (by omega)⟩ ⟨rfl, fun h => absurd h (by omega)⟩ slok_nil (hT.later hb) laid_con)
  have HB0 := hide hbX
  have HX2 := hide h2
  have x0 := cell_of h2 0 _ rfl
  have x1 := cell_of h2 1 _ rfl
  have x2 := cell_of h2 2 _ rfl
  have x3 := cell_of h2 3 _ rfl
  have x4 := cell_of h2 4 _ rfl
  have xl := lt_of_block h2
  clear C1 hT h0 h1 h2 g0 g1 b0 b1 b2 s0 s1 hE hbX
  rw [hW1, hW0] at hX
  clear hW1 hW0 W0 W1
  go_enter Tryz.func10, Tryz.ntmps10
  go_wp2_with fail
  rw [← hX]
  clear hX
  refine (unhide HC1).mono ?_
  rintro e w1 ⟨rfl, hb1⟩
  have h21 := (hb1.block _ (lt_of_block (unhide HX2))).trans (unhide HX2)
  have HX21 := hide h21
  have y0 := cell_of h21 0 _ rfl
  have y1 := cell_of h21 1 _ rfl
  have y2 := cell_of h21 2 _ rfl
  have y3 := cell_of h21 3 _ rfl
  have y4 := cell_of h21 4 _ rfl
  have yl := lt_of_block h21
  have HB1 := hide hb1
  have CC2 := hide ((unhide C2) w1 hb1)
  clear hb1 h21 HC1 C2 x0 x1 x2 x3 x4 xl
  go_wp2_with fail
  refine (unhide CC2).mono ?_
  rintro e w2 ⟨ka, kn, kc, na, nn, nc, rfl, hK, sK, hN, hnc, hb2⟩
  obtain rfl : 2 = kn := hK.1
  obtain rfl : 1 = nn := hN.1
  obtain ⟨Y, hY⟩ : ∃ Y, Y = w2.alloc (.cells #[.slice ka 2 kc] 37) := ⟨_, rfl⟩
  have hbY : Below w2.heap.size w2 Y := by rw [hY]; exact bel_new _ _
  have hY1 : Y.heap[w2.heap.size]? = some (.cells [.slice ka 2 kc].toArray 37 (0, 0)) := by rw [hY]; exact one_heap _ _ _
  have h22 := (hb2.block _ (lt_of_block (unhide HX21))).trans (unhide HX21)
  have z0 := cell_of h22 0 _ rfl
  have z1 := cell_of h22 1 _ rfl
  have z2 := cell_of h22 2 _ rfl
  have z3 := cell_of h22 3 _ rfl
  have z4 := cell_of h22 4 _ rfl
  have zl := lt_of_block h22
  have HBY := hide (bel_on (bel_on (unhide HB1) hb2) hbY)
  have CC3 := hide ((unhide C3) Y (unhide HBY))
  have HN := hide (hN.later hbY)
  have HY1 := hide hY1
  clear hK sK hN hnc hb2 h22 hbY hY1 CC2 C3 y0 y1 y2 y3 y4 yl
  go_wp2_with fail
  rw [← hY]
  clear hY
  refine (unhide CC3).mono ?_
  rintro e w3 ⟨ca, cn, cc, ua, un, uc, rfl, hC, sC, hU, sU, hb3⟩
  obtain rfl : 1 = cn := hC.1
  obtain rfl : 1 = un := hU.1
  obtain ⟨cb, co, rfl, hcl, hcc⟩ := hC.2 (by omega)
  have hc0 := hcc 0 (by simp)
  obtain ⟨_, _, _, _, _, c5⟩ := hc0
  have c5 : w3.cell? ⟨cb, co + 5, none⟩ = some (.bool true) := by simpa [cr] using c5
  obtain ⟨Z, hZ⟩ : ∃ Z, Z = w3.alloc (.cells #[.int .i64 1] 3) := ⟨_, rfl⟩
  have hbZ : Below w3.heap.size w3 Z := by rw [hZ]; exact bel_new _ _
  have hI : Bk.IntsAt Z (some ⟨w3.heap.size, 0, none⟩) 1 [1] := by rw [hZ]; exact one_int _ _
  have CE := hide (Bk.eqInt_is na (some ⟨w3.heap.size, 0, none⟩) 1 1 nc 1 [1] [1] true Z (by unfold maxLen; omega) ((unhide HN).later (bel_on hb3 hbZ)) hI (by simp))
  have HY3 := hide ((hbZ.block _ (Nat.lt_of_lt_of_le (lt_of_block (unhide HY1)) hb3.size)).trans ((hb3.block _ (lt_of_block (unhide HY1))).trans (unhide HY1)))
  have C5 := hide (cell_later hbZ c5)
  have HBZ := hide (bel_on (unhide HB0) (bel_on (unhide HBY) (bel_on hb3 hbZ)))
  clear hC sC hU sU hb3 hcc c5 hbZ hI CC3 z0 z1 z2 z3 z4 zl hcl
  go_wp2_with fail
  rw [← hZ]
  clear hZ
  refine (unhide CE).mono ?_
  rintro e w4 ⟨rfl, hb4⟩
  have h44 := (hb4.block _ (lt_of_block (unhide HY3))).trans (unhide HY3)
  have u0 := cell_of h44 0 _ rfl
  have ul := lt_of_block h44
  have u5 := cell_later hb4 (unhide C5)
  have uc5 := World.block_lt_of_cell? _ _ u5
  have HBF := hide (bel_on (unhide HBZ) hb4)
  clear hb4 h44 CE
  go_wp2
  go_ret
  exact ⟨rfl, unhide HBF⟩

end Go.Proofs.YthhlofipapfbnaaGreatDoor

/- Contracts of the reference's CheckOps. -/
namespace Go.Proofs.YthhlofipapfbnaaGreatDoor
open Go.RowKit

set_option maxHeartbeats 400000 in
theorem rcheck_many (a : Option Addr) (len cap : Nat) (w : World) (h : 16 < len) :
    Calls Tryz.prog 65 #[.slice a len cap] w fun e w' => e = .returned (.int .i64 2) ∧ w = w' := by
  go_enter Tryz.func65, Tryz.ntmps65
  go_wp2
  go_ret
  exact ⟨rfl, rfl⟩

set_option maxHeartbeats 400000 in
theorem rcheck_none (a : Option Addr) (cap : Nat) (w : World) :
    Calls Tryz.prog 65 #[.slice a 0 cap] w fun e w' => e = .returned (.int .i64 0) ∧ w = w' := by
  go_enter Tryz.func65, Tryz.ntmps65
  go_wp2
  refine wp_loop_rounds 1 ?_
  rw [rounds_succ]
  go_wp2
  go_ret
  exact ⟨rfl, rfl⟩

/-- The ways of one order. -/
theorem chk1_ways (k n : Int) :
    (k < 1 ∧ chk1 (k, n) = 4) ∨ (¬ k < 1 ∧ 13 < k ∧ chk1 (k, n) = 4) ∨
    (¬ k < 1 ∧ ¬ 13 < k ∧ n < -1000000 ∧ chk1 (k, n) = 3) ∨ (¬ k < 1 ∧ ¬ 13 < k ∧ ¬ n < -1000000 ∧ 1000000 < n ∧ chk1 (k, n) = 3) ∨
    (¬ k < 1 ∧ ¬ 13 < k ∧ ¬ n < -1000000 ∧ ¬ 1000000 < n ∧ (k != 1) = true ∧ (n != 0) = true ∧ chk1 (k, n) = 3) ∨
    (¬ k < 1 ∧ ¬ 13 < k ∧ ¬ n < -1000000 ∧ ¬ 1000000 < n ∧ (k != 1) = true ∧ (n != 0) = false ∧ chk1 (k, n) = 0) ∨
    (¬ k < 1 ∧ ¬ 13 < k ∧ ¬ n < -1000000 ∧ ¬ 1000000 < n ∧ (k != 1) = false ∧ chk1 (k, n) = 0) := by
  by_cases h1 : k < 1
  · exact .inl ⟨h1, by simp [chk1, h1]⟩
  by_cases h2 : 13 < k
  · exact .inr (.inl ⟨h1, h2, by simp [chk1, h2]⟩)
  by_cases h3 : n < -1000000
  · have hf : fit n = false := (fit_not n).2 (.inl h3)
    exact .inr (.inr (.inl ⟨h1, h2, h3, by simp [chk1, h1, h2, hf]⟩))
  by_cases h4 : 1000000 < n
  · have hf : fit n = false := (fit_not n).2 (.inr h4)
    exact .inr (.inr (.inr (.inl ⟨h1, h2, h3, h4, by simp [chk1, h1, h2, hf]⟩)))
  have hf : fit n = true := (fit_iff n).2 (by omega)
  by_cases h5 : k = 1
  · exact .inr (.inr (.inr (.inr (.inr (.inr ⟨h1, h2, h3, h4, by simp [h5], by simp [chk1, h5, hf]⟩)))))
  by_cases h6 : n = 0
  · exact .inr (.inr (.inr (.inr (.inr (.inl ⟨h1, h2, h3, h4, by simp [h5], by simp [h6], by simp [chk1, h1, h2, h6]; try decide⟩)))))
  · exact .inr (.inr (.inr (.inr (.inl ⟨h1, h2, h3, h4, by simp [h5], by simp [h6], by simp [chk1, h1, h2, h5, h6]⟩))))

set_option maxHeartbeats 3200000 in
theorem rcheck_some (b off len cap : Nat) (l : List (Int × Int)) (w : World) (h0 : len ≤ 16) (hz : l.length = len)
    (hc : ∀ i, i < len → w.cell? ⟨b, off + i * 2, none⟩ = some (.int .i64 (l.getD i (0, 0)).1) ∧ w.cell? ⟨b, off + i * 2 + 1, none⟩ = some (.int .i64 (l.getD i (0, 0)).2)) (hl : b < w.heap.size) :
    Calls Tryz.prog 65 #[.slice (some ⟨b, off, none⟩) len cap] w fun e w' => e = .returned (.int .i64 (chkL l)) ∧ Below w.heap.size w w' := by
  have HC := hide hc
  have HZ := hide hz
  clear hc hz
  go_enter Tryz.func65, Tryz.ntmps65
  go_wp2
  go_loopw [10] (fun i wr => ∃ k : Nat, k ≤ len ∧ i = .int .i64 k ∧ chkL (l.take k) = 0 ∧ Below w.heap.size w wr) (fun i _ => len - (intOf i).toNat)
  case atStart => exact ⟨0, Nat.zero_le _, rfl, rfl, Below.refl _ _⟩
  case round =>
    obtain ⟨k, hk, rfl, hok, hb⟩ := hrel
    have HOK := hide hok
    have HB := hide hb
    clear hok
    by_cases hlt : k < len
    · obtain ⟨c1, c2⟩ := (unhide HC) k hlt
      rw [← hb.cell (p := ⟨b, off + k * 2, none⟩) hl] at c1
      rw [← hb.cell (p := ⟨b, off + k * 2 + 1, none⟩) hl] at c2
      obtain ⟨q, hq⟩ : ∃ q, q = l.getD k (0, 0) := ⟨_, rfl⟩
      rw [← hq] at c1 c2
      have hlk : k < l.length := by rw [unhide HZ]; exact hlt
      have hq' : q = l[k] := by rw [hq]; simp [hlk]
      have HQ := hide hq'
      have HB2 := hide (hb.trans (((Below.refl wr.heap.size wr).alloc (Nat.le_refl _) (.cells #[.int .i64 q.1, .int .i64 q.2] 160)).mono hb.size))
      clear hb hq hq'
      obtain ⟨q1, q2⟩ := q
      obtain ⟨x, hx⟩ : ∃ x, x = chk1 (q1, q2) := ⟨_, rfl⟩
      have HX := hide hx
      have hways := chk1_ways q1 q2
      rw [← hx] at hways
      clear hx
      rcases hways with ⟨h1, hx0⟩ | ⟨h1, h2, hx0⟩ | ⟨h1, h2, h3, hx0⟩ | ⟨h1, h2, h3, h4, hx0⟩ | ⟨h1, h2, h3, h4, h5, h6, hx0⟩ | ⟨h1, h2, h3, h4, h5, h6, hx0⟩ | ⟨h1, h2, h3, h4, h5, hx0⟩
      all_goals
        subst hx0
        go_wp2
      iterate 5
        go_ret
        refine ⟨ret_same ?_, unhide HB2⟩
        rw [chkL_stop l k hlk (unhide HOK) (by rw [← unhide HQ, ← unhide HX]; decide), ← unhide HQ, ← unhide HX]
      all_goals
        go_roundw
        case rel =>
          refine ⟨k + 1, by omega, by go_num, ?_, unhide HB2⟩
          rw [chkL_take l k hlk (unhide HOK), ← unhide HQ, ← unhide HX]; rfl
        case measure => simp [intOf]; omega
    · clear hb
      go_wp2
      go_ret
      have e : k = len := by omega
      subst e
      refine ⟨ret_same ?_, unhide HB⟩
      have h1 := unhide HOK
      rw [← unhide HZ, List.take_length] at h1
      exact h1.symm

theorem rcheck_any (a : Option Addr) (len cap : Nat) (l : List (Int × Int)) (w : World) (h : OpsAt w a len l) :
    Calls Tryz.prog 65 #[.slice a len cap] w fun e w' => e = .returned (.int .i64 (chk l)) ∧ Below w.heap.size w w' := by
  obtain ⟨hz, hc⟩ := h
  unfold chk
  rw [hz]
  by_cases h1 : 16 < len
  · rw [if_pos h1]
    exact (rcheck_many a len cap w h1).mono fun e w' ⟨x, y⟩ => ⟨x, y ▸ Below.refl _ _⟩
  · rw [if_neg h1]
    by_cases h2 : len = 0
    · subst h2
      have e : l = [] := List.length_eq_zero_iff.1 hz
      subst e
      exact (rcheck_none a cap w).mono fun e w' ⟨x, y⟩ => ⟨x, y ▸ Below.refl _ _⟩
    · obtain ⟨b, off, rfl, hcell⟩ := hc (by omega)
      exact rcheck_some b off len cap l w (by omega) hz hcell (World.block_lt_of_cell? _ _ (hcell 0 (by omega)).1)

end Go.Proofs.YthhlofipapfbnaaGreatDoor

/- Contracts of the reference's IsAmount and SumOf. -/
namespace Go.Proofs.YthhlofipapfbnaaGreatDoor
open Go.RowKit

set_option maxHeartbeats 400000 in
theorem isAmount_yes (n : Int) (w : World) (h1 : 0 ≤ n) (h2 : n ≤ 1000000000) :
    Calls Tryz.prog 40 #[.int .i64 n] w fun e w' => e = .returned (.bool true) ∧ w = w' := by
  go_enter Tryz.func40, Tryz.ntmps40
  go_wp2
  go_ret
  exact ⟨rfl, rfl⟩

set_option maxHeartbeats 400000 in
theorem isAmount_no (n : Int) (w : World) (h : n < 0 ∨ 1000000000 < n) :
    Calls Tryz.prog 40 #[.int .i64 n] w fun e w' => e = .returned (.bool false) ∧ w = w' := by
  by_cases h1 : n < 0
  · go_enter Tryz.func40, Tryz.ntmps40
    go_wp2
    go_ret
    exact ⟨rfl, rfl⟩
  · have h2 : 1000000000 < n := by omega
    have h3 : 0 ≤ n := by omega
    have h4 : decide (n ≤ 1000000000) = false := by simp; omega
    clear h
    go_enter Tryz.func40, Tryz.ntmps40
    go_wp2
    go_ret
    exact ⟨rfl, rfl⟩

set_option maxHeartbeats 800000 in
theorem sumOf_any (a : Option Addr) (len cap : Nat) (Z : List Int) (w : World) (h : RowAt w a len Z) :
    Calls Tryz.prog 91 #[.slice a len cap] w fun e w' => e = .returned (.tuple #[.int .i64 (sm 0 Z).1, .int .i64 (sm 0 Z).2]) ∧ w = w' := by
  obtain ⟨hz, hm, hc⟩ := h
  unfold maxLen at hm
  rcases Nat.eq_zero_or_pos len with h0 | h0
  · subst h0
    have HZ : Hid (Z = []) := List.eq_nil_of_length_eq_zero hz
    clear hz hc hm
    go_enter Tryz.func91, Tryz.ntmps91
    go_wp2
    refine wp_loop_rounds 1 ?_
    rw [rounds_succ]
    go_wp2
    go_ret2
    rw [HZ.out]
    exact ⟨rfl, rfl⟩
  · obtain ⟨b, off, rfl, hcell⟩ := hc h0
    have HC : Hid (∀ i, i < len → w.cell? ⟨b, off + i, none⟩ = some (.int .i64 (Z.getD i 0))) := hcell
    clear hc hcell
    go_enter Tryz.func91, Tryz.ntmps91
    go_wp2
    go_loop [4, 9] (fun s i => ∃ (k : Nat) (x : Int), k ≤ len ∧ i = .int .i64 k ∧ s = .int .i64 x ∧ 0 ≤ x ∧ x ≤ 1000000000 ∧ Hid (sm 0 Z = sm x (Z.drop k))) (fun _ i => len - (intOf i).toNat)
    case atStart => exact ⟨0, 0, Nat.zero_le _, rfl, rfl, by decide, by decide, by exact rfl⟩
    case round =>
      obtain ⟨k, x, hk, rfl, rfl, hx0, hx1, HS⟩ := hrel
      by_cases hlt : k < len
      · have hck := HC.out k hlt
        generalize hv : Z.getD k 0 = v at hck
        have HV : Hid (Z.getD k 0 = v) := hv
        clear hv
        by_cases hr : v < 0 ∨ 1000000000 < v
        · go_wp2_with (go_at_call 40; refine (isAmount_no _ _ hr).mono ?_; rintro e w' ⟨rfl, rfl⟩)
          go_ret2
          rw [HS.out, sm_range x Z k (by omega) (by rw [HV.out]; exact hr)]
          exact ⟨rfl, rfl⟩
        · have hr1 : 0 ≤ v := by omega
          have hr2 : v ≤ 1000000000 := by omega
          clear hr
          by_cases hf : 1000000000 < x + v
          · go_wp2_with (go_at_call 40; refine (isAmount_yes _ _ hr1 hr2).mono ?_; rintro e w' ⟨rfl, rfl⟩)
            go_ret2
            rw [HS.out, sm_full x Z k (by omega) (by rw [HV.out]; exact hr1) (by rw [HV.out]; exact hr2) (by rw [HV.out]; exact hf)]
            exact ⟨rfl, rfl⟩
          · have hf2 : x + v ≤ 1000000000 := by omega
            have hf1 : 0 ≤ x + v := by omega
            clear hf
            go_wp2_with (go_at_call 40; refine (isAmount_yes _ _ hr1 hr2).mono ?_; rintro e w' ⟨rfl, rfl⟩)
            go_round
            case rel =>
              refine ⟨k + 1, x + v, by omega, by go_num, rfl, by omega, by omega, ?_⟩
              show sm 0 Z = _
              rw [HS.out, sm_step x Z k (by omega) (by rw [HV.out]; exact hr1) (by rw [HV.out]; exact hr2) (by rw [HV.out]; exact hf2), HV.out]
            case measure => simp [intOf]; omega
      · go_wp2
        go_ret2
        rw [HS.out, sm_end x Z k (by omega)]
        exact ⟨rfl, rfl⟩

end Go.Proofs.YthhlofipapfbnaaGreatDoor

/- The contract of slices.Contains at points. -/
namespace Go.Proofs.YthhlofipapfbnaaGreatDoor
open Go.RowKit

/-- The first place of a pair in a list, or -1. -/
def pairAt (q : Int × Int) : List (Int × Int) → Nat → Int
  | [], _ => -1
  | y :: r, k => if q = y then k else pairAt q r (k + 1)
theorem pairAt_ge (q : Int × Int) : ∀ (l : List (Int × Int)) (k : Nat), decide (0 ≤ pairAt q l k) = decide (q ∈ l)
  | [], _ => by simp [pairAt]
  | y :: r, k => by
    unfold pairAt
    by_cases h : q = y
    · rw [if_pos h]; simp [h]
    · rw [if_neg h, pairAt_ge q r (k + 1)]; simp [h]
theorem pairAt_drop (q : Int × Int) (l : List (Int × Int)) (k : Nat) (h : k < l.length) : pairAt q (l.drop k) k = if q = l[k] then (k : Int) else pairAt q (l.drop (k + 1)) (k + 1) := by
  rw [List.drop_eq_getElem_cons h]; rfl

set_option maxRecDepth 10000 in
set_option maxHeartbeats 1600000 in
theorem indexPt_some (b off n c : Nat) (l : List (Int × Int)) (q1 q2 : Int) (w : World) (hn : n ≤ 6) (hz : l.length = n)
    (hc : ∀ i, i < n → w.cell? ⟨b, off + i * 2, none⟩ = some (.int .i64 (l.getD i (0, 0)).1) ∧ w.cell? ⟨b, off + i * 2 + 1, none⟩ = some (.int .i64 (l.getD i (0, 0)).2)) :
    Calls Tryz.prog 137 #[.slice (some ⟨b, off, none⟩) n c, .agg #[.int .i64 q1, .int .i64 q2]] w fun e w' => e = .returned (.int .i64 (pairAt (q1, q2) l 0)) ∧ Below w.heap.size w w' := by
  obtain ⟨X, hX⟩ : ∃ X, X = w.alloc (.cells #[.int .i64 q1, .int .i64 q2] 87) := ⟨_, rfl⟩
  have hbX : Below w.heap.size w X := by rw [hX]; exact bel_new _ _
  have cx := two_fresh w (.int .i64 q1) (.int .i64 q2) 87
  rw [← hX] at cx
  obtain ⟨x0, x1⟩ := cx
  have HC : Hid (∀ i, i < n → X.cell? ⟨b, off + i * 2, none⟩ = some (.int .i64 (l.getD i (0, 0)).1) ∧ X.cell? ⟨b, off + i * 2 + 1, none⟩ = some (.int .i64 (l.getD i (0, 0)).2)) := fun i hi => ⟨cell_later hbX (hc i hi).1, cell_later hbX (hc i hi).2⟩
  have HZ := hide hz
  have HBX := hide hbX
  clear hc hz hbX
  go_enter Tryz.func137, Tryz.ntmps137
  go_wp2
  rw [← hX]
  clear hX
  go_loopw [8] (fun i wr => ∃ k m : Nat, k ≤ n ∧ i = .int .i64 k ∧ wr = X.drewN m ∧ Hid (pairAt (q1, q2) l 0 = pairAt (q1, q2) (l.drop k) k)) (fun i _ => n - (intOf i).toNat)
  case atStart => exact ⟨0, 0, Nat.zero_le _, rfl, rfl, rfl⟩
  case round =>
    obtain ⟨k, m, hk, rfl, rfl, A⟩ := hrel
    by_cases hlt : k < n
    · have hlk : k < l.length := by rw [unhide HZ]; exact hlt
      obtain ⟨g1, g2⟩ := (unhide HC) k hlt
      have S := hide (pairAt_drop (q1, q2) l k hlk)
      have e1 : l.getD k (0, 0) = l[k] := by simp [hlk]
      rw [e1] at g1 g2
      obtain ⟨r, hr⟩ : ∃ r, l[k] = r := ⟨_, rfl⟩
      rw [hr] at g1 g2 S
      obtain ⟨r1, r2⟩ := r
      simp only at g1 g2
      clear hr e1
      by_cases he : q1 = r1
      · subst he
        by_cases hf : q2 = r2
        · subst hf
          have R : Hid (pairAt (q1, q2) l 0 = k) := by show _ = _; rw [unhide A, unhide S, if_pos rfl]
          clear S A
          go_wp2
          go_quiet (fail)
          go_wp2
          go_ret
          exact ⟨by rw [unhide R]; rfl, bel_on (unhide HBX) (by simp only [World.drewN_drewN]; exact below_dw _ _)⟩
        · have R : Hid (pairAt (q1, q2) l 0 = pairAt (q1, q2) (l.drop (k + 1)) (k + 1)) := by show _ = _; rw [unhide A, unhide S, if_neg (fun e => hf (by injection e))]
          clear S A
          go_wp2
          go_quiet (fail)
          go_wp2
          go_roundw
          case rel => exact ⟨k + 1, m + nq, by omega, by go_num, rfl, R⟩
          case measure => simp [intOf]; omega
      · have R : Hid (pairAt (q1, q2) l 0 = pairAt (q1, q2) (l.drop (k + 1)) (k + 1)) := by show _ = _; rw [unhide A, unhide S, if_neg (fun e => he (by injection e))]
        clear S A
        go_wp2
        go_quiet (fail)
        go_wp2
        go_roundw
        case rel => exact ⟨k + 1, m + nq, by omega, by go_num, rfl, R⟩
        case measure => simp [intOf]; omega
    · have R : Hid (pairAt (q1, q2) l 0 = -1) := by
        show _ = _
        rw [unhide A, List.drop_of_length_le (by rw [unhide HZ]; omega)]; rfl
      clear A
      go_wp2
      go_ret
      exact ⟨by rw [unhide R]; rfl, bel_on (unhide HBX) (below_dw _ _)⟩

set_option maxHeartbeats 400000 in
theorem indexPt_none (a : Option Addr) (c : Nat) (q1 q2 : Int) (w : World) :
    Calls Tryz.prog 137 #[.slice a 0 c, .agg #[.int .i64 q1, .int .i64 q2]] w fun e w' => e = .returned (.int .i64 (-1)) ∧ Below w.heap.size w w' := by
  have HB := hide (bel_new w (.cells #[.int .i64 q1, .int .i64 q2] 87))
  go_enter Tryz.func137, Tryz.ntmps137
  go_wp2
  refine wp_loop_rounds 1 ?_
  rw [rounds_succ]
  go_wp2
  go_ret
  exact ⟨rfl, unhide HB⟩

set_option maxHeartbeats 800000 in
theorem containsPt_is (a : Option Addr) (n c : Nat) (l : List (Int × Int)) (q1 q2 : Int) (o : Bool) (w : World) (hn : n ≤ 6) (h : OpsAt w a n l) (ho : decide ((q1, q2) ∈ l) = o) :
    Calls Tryz.prog 90 #[.slice a n c, .agg #[.int .i64 q1, .int .i64 q2]] w fun e w' => e = .returned (.bool o) ∧ Below w.heap.size w w' := by
  have hb := bel_new w (.cells #[.int .i64 q1, .int .i64 q2] 87)
  have C : Calls Tryz.prog 137 #[.slice a n c, .agg #[.int .i64 q1, .int .i64 q2]] (w.alloc (.cells #[.int .i64 q1, .int .i64 q2] 87)) fun e w' => e = .returned (.int .i64 (pairAt (q1, q2) l 0)) ∧ Below (w.alloc (.cells #[.int .i64 q1, .int .i64 q2] 87)).heap.size (w.alloc (.cells #[.int .i64 q1, .int .i64 q2] 87)) w' := by
    by_cases h0 : n = 0
    · subst h0
      have e : l = [] := List.length_eq_zero_iff.1 h.1
      subst e
      exact indexPt_none a c q1 q2 _
    · obtain ⟨b, off, rfl, hc⟩ := (h.later hb).2 (by omega)
      exact indexPt_some b off n c l q1 q2 _ hn h.1 hc
  have E : Hid (decide (0 ≤ pairAt (q1, q2) l 0) = o) := by show _ = _; rw [pairAt_ge, ho]
  obtain ⟨z, hz⟩ : ∃ z, pairAt (q1, q2) l 0 = z := ⟨_, rfl⟩
  rw [hz] at C E
  have CC := hide C
  have HB := hide hb
  clear C hz h ho hb
  cases o with
  | true =>
    have h0 : 0 ≤ z := of_decide_eq_true (unhide E)
    go_enter Tryz.func90, Tryz.ntmps90
    go_wp2_with fail
    refine (unhide CC).mono ?_
    rintro e w' ⟨rfl, hb2⟩
    have HB2 := hide (bel_on (unhide HB) hb2)
    clear hb2
    go_wp2
    go_ret
    exact ⟨rfl, unhide HB2⟩
  | false =>
    have h2 : decide (0 ≤ z) = false := unhide E
    have h1 : z < 0 := by have := of_decide_eq_false h2; omega
    go_enter Tryz.func90, Tryz.ntmps90
    go_wp2_with fail
    refine (unhide CC).mono ?_
    rintro e w' ⟨rfl, hb2⟩
    have HB2 := hide (bel_on (unhide HB) hb2)
    clear hb2
    go_wp2
    go_ret
    exact ⟨rfl, unhide HB2⟩

end Go.Proofs.YthhlofipapfbnaaGreatDoor
