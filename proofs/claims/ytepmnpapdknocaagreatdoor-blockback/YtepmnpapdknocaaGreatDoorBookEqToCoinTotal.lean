/- Contracts of slices.Equal at texts and at ints, of slices.Index at texts. -/
import Derived.Test.YtepmnpapdknocaaGreatDoorBookOpenToBookName
import Derived.Test.YtepmnpapdknocaaGreatDoorBlkConW
import Derived.Test.YtepmnpapdknocaaGreatDoorCoinFactsToCoinApplyB
namespace Go.Proofs.YtepmnpapdknocaaGreatDoor.Bk
open Go.RowKit Go.Maps

theorem take_more {α : Type} {L M : List α} {j : Nat} (h1 : j < L.length) (h2 : j < M.length) (h : L.take j = M.take j) (e : L[j] = M[j]) : L.take (j + 1) = M.take (j + 1) := by
  rw [List.take_succ_eq_append_getElem h1, List.take_succ_eq_append_getElem h2, h, e]
theorem take_not {α : Type} {L M : List α} {j : Nat} (h1 : j < L.length) (h2 : j < M.length) (e : L[j] ≠ M[j]) : L ≠ M := by
  intro h; subst h; exact e rfl
set_option maxRecDepth 10000 in
set_option maxHeartbeats 1600000 in
theorem eqInt_some (b off b2 off2 n c d : Nat) (L M : List Int) (o : Bool) (w : World) (hn : n ≤ maxLen) (hz : L.length = n) (hz2 : M.length = n)
    (hc : ∀ i (h : i < L.length), w.cell? ⟨b, off + i, none⟩ = some (.int .i64 L[i])) (hc2 : ∀ i (h : i < M.length), w.cell? ⟨b2, off2 + i, none⟩ = some (.int .i64 M[i])) (ho : decide (L = M) = o) :
    Calls Tryz.prog 12 #[.slice (some ⟨b, off, none⟩) n c, .slice (some ⟨b2, off2, none⟩) n d] w fun e w' => e = .returned (.bool o) ∧ Below w.heap.size w w' := by
  have HC := hide hc
  have HC2 := hide hc2
  have HZ := hide hz
  have HZ2 := hide hz2
  have HO := hide ho
  have g0 : ((n : Int) != (n : Int)) = false := by simp
  unfold maxLen at hn
  clear hc hc2 hz hz2 ho
  go_enter Tryz.func12, Tryz.ntmps12
  go_wp2
  go_loopw [13] (fun i wr => ∃ j m : Nat, j ≤ n ∧ i = .int .i64 j ∧ wr = w.drewN m ∧ Hid (L.take j = M.take j)) (fun i _ => n - (intOf i).toNat)
  case atStart => exact ⟨0, 0, Nat.zero_le _, rfl, rfl, rfl⟩
  case round =>
    obtain ⟨j, m, hk, rfl, rfl, A⟩ := hrel
    by_cases hlt : j < n
    · have h1 : j < L.length := by rw [unhide HZ]; exact hlt
      have h2 : j < M.length := by rw [unhide HZ2]; exact hlt
      have f1 := (unhide HC) j h1
      have f2 := (unhide HC2) j h2
      have TM := hide (take_more h1 h2 (unhide A))
      have TN := hide (take_not h1 h2)
      obtain ⟨s, hs⟩ : ∃ s, L[j] = s := ⟨_, rfl⟩
      obtain ⟨t, ht⟩ : ∃ t, M[j] = t := ⟨_, rfl⟩
      rw [hs] at f1
      rw [ht] at f2
      rw [hs, ht] at TM TN
      clear hs ht A
      by_cases e : s = t
      · subst e
        have R := hide ((unhide TM) rfl)
        have g : (s != s) = false := by simp
        clear TM TN
        go_wp2
        go_quiet (fail)
        go_wp2
        go_roundw
        case rel => exact ⟨j + 1, m + nq, by omega, by go_num, rfl, R⟩
        case measure => simp [intOf]; omega
      · have R : Hid (o = false) := by show _ = _; rw [← unhide HO]; exact decide_eq_false ((unhide TN) e)
        have g : (s != t) = true := by simp [e]
        clear TM TN
        go_wp2
        go_quiet (fail)
        go_wp2
        go_ret
        exact ⟨by rw [unhide R]; rfl, by simp only [World.drewN_drewN]; exact below_dw _ _⟩
    · have R : Hid (o = true) := by
        have h := unhide A
        rw [List.take_of_length_le (by rw [unhide HZ]; omega), List.take_of_length_le (by rw [unhide HZ2]; omega)] at h
        show _ = _; rw [← unhide HO]; exact decide_eq_true h
      clear A
      go_wp2
      go_ret
      exact ⟨by rw [unhide R]; rfl, below_dw _ _⟩

set_option maxHeartbeats 400000 in
theorem eqInt_zero (a a2 : Option Addr) (c d : Nat) (w : World) :
    Calls Tryz.prog 12 #[.slice a 0 c, .slice a2 0 d] w fun e w' => e = .returned (.bool true) ∧ Below w.heap.size w w' := by
  go_enter Tryz.func12, Tryz.ntmps12
  go_wp2
  refine wp_loop_rounds 1 ?_
  rw [rounds_succ]
  go_wp2
  go_ret
  exact ⟨rfl, Below.refl _ _⟩
set_option maxHeartbeats 400000 in
theorem eqInt_len (a a2 : Option Addr) (n m c d : Nat) (w : World) (h : n ≠ m) :
    Calls Tryz.prog 12 #[.slice a n c, .slice a2 m d] w fun e w' => e = .returned (.bool false) ∧ Below w.heap.size w w' := by
  have g : ((n : Int) != (m : Int)) = true := by simp; omega
  go_enter Tryz.func12, Tryz.ntmps12
  go_wp2
  go_ret
  exact ⟨rfl, Below.refl _ _⟩

theorem eqInt_is (a a2 : Option Addr) (n m c d : Nat) (L M : List Int) (o : Bool) (w : World) (hn : n ≤ maxLen) (h : IntsAt w a n L) (h2 : IntsAt w a2 m M) (ho : decide (L = M) = o) :
    Calls Tryz.prog 12 #[.slice a n c, .slice a2 m d] w fun e w' => e = .returned (.bool o) ∧ Below w.heap.size w w' := by
  by_cases e : n = m
  · subst e
    by_cases h0 : n = 0
    · subst h0
      have e1 : L = [] := List.length_eq_zero_iff.1 h.1
      have e2 : M = [] := List.length_eq_zero_iff.1 h2.1
      subst e1 e2
      have : o = true := by rw [← ho]; rfl
      subst this
      exact eqInt_zero a a2 c d w
    · obtain ⟨b, off, rfl, hc⟩ := h.2 (by omega)
      obtain ⟨b2, off2, rfl, hc2⟩ := h2.2 (by omega)
      exact eqInt_some b off b2 off2 n c d L M o w hn h.1 h2.1 hc hc2 ho
  · have : o = false := by
      rw [← ho]
      exact decide_eq_false (fun e2 => e (by rw [← h.1, ← h2.1, e2]))
    subst this
    exact eqInt_len a a2 n m c d w e


end Go.Proofs.YtepmnpapdknocaaGreatDoor.Bk

/- The contract of laid: the closed fact that each law of block asks first. -/
namespace Go.Proofs.YtepmnpapdknocaaGreatDoor
open Go.RowKit

def laidB : BlkD := (0, 1, 2, 0, [(1, [], [(64, [])])])
def laidT : ByteArray := ⟨#[116, 120, 32, 49, 10, 111, 117, 116, 32, 54, 52, 58, 10]⟩
def laidS : ByteArray := ⟨#[98, 108, 111, 99, 107, 32, 48, 32, 49, 32, 50, 32, 48, 10, 116, 120, 32, 49, 10, 111, 117, 116, 32, 54, 52, 58, 10]⟩
theorem laid_text : blkText laidB = laidS := by kernel_rfl
theorem laid_right : chkB laidB = 0 := by kernel_rfl
theorem laid_names : nmsB [] laidB = ([laidT, laidS], 2, [1], 0) := by kernel_rfl
theorem laid_con : conD [] [] laidB = (0, [(1, 0, 64, [], 1, true)], [[]]) := by kernel_rfl
theorem one_int (w : World) (x : Int) : Bk.IntsAt (w.alloc (.cells #[.int .i64 x] 3)) (some ⟨w.heap.size, 0, none⟩) 1 [x] :=
  ⟨rfl, fun _ => ⟨w.heap.size, 0, rfl, fun i hi => by
    have e : i = 0 := by simp at hi; exact hi
    subst e
    exact one_new _ _ _⟩⟩

set_option maxRecDepth 10000 in
set_option maxHeartbeats 6400000 in
theorem laid_yes (w : World) (hE : Env w) : Calls Tryz.prog 10 #[] w fun e w' => e = .returned (.bool true) ∧ Below w.heap.size w w' := by
  obtain ⟨W0, hW0⟩ : ∃ W0, W0 = w.alloc (.cells #[.int .i64 64, .slice none 0 0] 84) := ⟨_, rfl⟩
  obtain ⟨W1, hW1⟩ : ∃ W1, W1 = W0.alloc (.cells #[.int .i64 1, .slice none 0 0, .slice (some ⟨w.heap.size, 0, none⟩) 1 1] 74) := ⟨_, rfl⟩
  obtain ⟨X, hX⟩ : ∃ X, X = W1.alloc (.cells #[.int .i64 0, .int .i64 1, .int .i64 2, .int .i64 0, .slice (some ⟨w.heap.size + 1, 0, none⟩) 1 1] 28) := ⟨_, rfl⟩
  have s0 : W0.heap.size = w.heap.size + 1 := by rw [hW0]; simp
  have s1 : W1.heap.size = w.heap.size + 2 := by rw [hW1]; simp [s0]
  have b0 : Below w.heap.size w W0 := by rw [hW0]; exact bel_new _ _
  have b1 : Below W0.heap.size W0 W1 := by rw [hW1]; exact bel_new _ _
  have b2 : Below W1.heap.size W1 X := by rw [hX]; exact bel_new _ _
  have h0 : W0.heap[w.heap.size]? = some (.cells [.int .i64 64, .slice none 0 0].toArray 84 (0, 0)) := by rw [hW0]; exact heap_alloc_new _ _
  have h1 : W1.heap[w.heap.size + 1]? = some (.cells [.int .i64 1, .slice none 0 0, .slice (some ⟨w.heap.size, 0, none⟩) 1 1].toArray 74 (0, 0)) := by
    rw [hW1, ← s0]; exact heap_alloc_new _ _
  have h2 : X.heap[w.heap.size + 2]? = some (.cells [.int .i64 0, .int .i64 1, .int .i64 2, .int .i64 0, .slice (some ⟨w.heap.size + 1, 0, none⟩) 1 1].toArray 28 (0, 0)) := by
    rw [hX, ← s1]; exact heap_alloc_new _ _
  have g0 := (b2.block _ (by rw [s1]; omega)).trans ((b1.block _ (lt_of_block h0)).trans h0)
  have g1 := (b2.block _ (lt_of_block h1)).trans h1
  have hbX : Below w.heap.size w X := bel_on (bel_on b0 b1) b2
  have hT : TxsAt X (some ⟨w.heap.size + 1, 0, none⟩) 1 [(1, [], [(64, [])])] := by
    refine ⟨rfl, fun _ => ⟨w.heap.size + 1, 0, rfl, lt_of_block g1, fun i hi => ?_⟩⟩
    have e : i = 0 := by simp at hi; exact hi
    subst e
    refine ⟨cell_of g1 0 _ rfl, ⟨none, 0, 0, cell_of g1 1 _ rfl, ⟨rfl, fun h => absurd h (by omega)⟩, slok_nil⟩, some ⟨w.heap.size, 0, none⟩, 1, 1, cell_of g1 2 _ rfl, ?_, ⟨Nat.le_refl _, by unfold maxLen; omega, fun e => by cases e⟩⟩
    refine ⟨rfl, fun _ => ⟨w.heap.size, 0, rfl, lt_of_block g0, fun i hi => ?_⟩⟩
    have e : i = 0 := by simp at hi; exact hi
    subst e
    exact ⟨cell_of g0 0 _ rfl, none, 0, 0, cell_of g0 1 _ rfl, ⟨rfl, fun h => absurd h (by omega)⟩, slok_nil⟩
  have C1 := blkPrint_some 0 1 2 0 (some ⟨w.heap.size + 1, 0, none⟩) 1 1 [(1, [], [(64, [])])] X (hE.later hbX) hT laid_right
  rw [show blkText (0, 1, 2, 0, [(1, [], [(64, [])])]) = laidS from laid_text] at C1
  unfold laidS at C1
  have HC1 := hide C1
  have C2 := hide (fun W (hb : Below X.heap.size X W) => names_any none 0 0 [] 0 1 2 0 (some ⟨w.heap.size + 1, 0, none⟩) 1 1 [(1, [], [(64, [])])] [laidT, laidS] 2 [1] 0 W (hE.later (bel_on hbX hb)) ⟨rfl, fun h => absurd h (by omega)⟩ (hT.later hb) laid_names)
  have C3 := hide (fun W (hb : Below X.heap.size X W) => connect_is none 0 0 [] none 0 0 [] 0 1 2 0 (some ⟨w.heap.size + 1, 0, none⟩) 1 1 [(1, [], [(64, [])])] 0 [(1, 0, 64, [], 1, true)] [[]] W (hE.later (bel_on hbX hb)) ⟨rfl, fun h => absurd h (by omega)⟩ ⟨rfl, fun h => absurd h (by omega)⟩ slok_nil (hT.later hb) laid_con)
  have HB0 := hide hbX
  have HX2 := hide h2
  have x0 := cell_of h2 0 _ rfl
  have x1 := cell_of h2 1 _ rfl
  have x2 := cell_of h2 2 _ rfl
  have x3 := cell_of h2 3 _ rfl
  have x4 := cell_of h2 4 _ rfl
  have xl := lt_of_block h2
  clear C1 hT h0 h1 h2 g0 g1 b0 b1 b2 s0 s1 hE hbX
  rw [hW1, hW0] at hX
  clear hW1 hW0 W0 W1
  go_enter Tryz.func10, Tryz.ntmps10
  go_wp2_with fail
  rw [← hX]
  clear hX
  refine (unhide HC1).mono ?_
  rintro e w1 ⟨rfl, hb1⟩
  have h21 := (hb1.block _ (lt_of_block (unhide HX2))).trans (unhide HX2)
  have HX21 := hide h21
  have y0 := cell_of h21 0 _ rfl
  have y1 := cell_of h21 1 _ rfl
  have y2 := cell_of h21 2 _ rfl
  have y3 := cell_of h21 3 _ rfl
  have y4 := cell_of h21 4 _ rfl
  have yl := lt_of_block h21
  have HB1 := hide hb1
  have CC2 := hide ((unhide C2) w1 hb1)
  clear hb1 h21 HC1 C2 x0 x1 x2 x3 x4 xl
  go_wp2_with fail
  refine (unhide CC2).mono ?_
  rintro e w2 ⟨ka, kn, kc, na, nn, nc, rfl, hK, sK, hN, hnc, hb2⟩
  obtain rfl : 2 = kn := hK.1
  obtain rfl : 1 = nn := hN.1
  obtain ⟨Y, hY⟩ : ∃ Y, Y = w2.alloc (.cells #[.slice ka 2 kc] 24) := ⟨_, rfl⟩
  have hbY : Below w2.heap.size w2 Y := by rw [hY]; exact bel_new _ _
  have hY1 : Y.heap[w2.heap.size]? = some (.cells [.slice ka 2 kc].toArray 24 (0, 0)) := by rw [hY]; exact one_heap _ _ _
  have h22 := (hb2.block _ (lt_of_block (unhide HX21))).trans (unhide HX21)
  have z0 := cell_of h22 0 _ rfl
  have z1 := cell_of h22 1 _ rfl
  have z2 := cell_of h22 2 _ rfl
  have z3 := cell_of h22 3 _ rfl
  have z4 := cell_of h22 4 _ rfl
  have zl := lt_of_block h22
  have HBY := hide (bel_on (bel_on (unhide HB1) hb2) hbY)
  have CC3 := hide ((unhide C3) Y (unhide HBY))
  have HN := hide (hN.later hbY)
  have HY1 := hide hY1
  clear hK sK hN hnc hb2 h22 hbY hY1 CC2 C3 y0 y1 y2 y3 y4 yl
  go_wp2_with fail
  rw [← hY]
  clear hY
  refine (unhide CC3).mono ?_
  rintro e w3 ⟨ca, cn, cc, ua, un, uc, rfl, hC, sC, hU, sU, hb3⟩
  obtain rfl : 1 = cn := hC.1
  obtain rfl : 1 = un := hU.1
  obtain ⟨cb, co, rfl, hcl, hcc⟩ := hC.2 (by omega)
  have hc0 := hcc 0 (by simp)
  obtain ⟨_, _, _, _, _, c5⟩ := hc0
  have c5 : w3.cell? ⟨cb, co + 5, none⟩ = some (.bool true) := by simpa [cr] using c5
  obtain ⟨Z, hZ⟩ : ∃ Z, Z = w3.alloc (.cells #[.int .i64 1] 3) := ⟨_, rfl⟩
  have hbZ : Below w3.heap.size w3 Z := by rw [hZ]; exact bel_new _ _
  have hI : Bk.IntsAt Z (some ⟨w3.heap.size, 0, none⟩) 1 [1] := by rw [hZ]; exact one_int _ _
  have CE := hide (Bk.eqInt_is na (some ⟨w3.heap.size, 0, none⟩) 1 1 nc 1 [1] [1] true Z (by unfold maxLen; omega) ((unhide HN).later (bel_on hb3 hbZ)) hI (by simp))
  have HY3 := hide ((hbZ.block _ (Nat.lt_of_lt_of_le (lt_of_block (unhide HY1)) hb3.size)).trans ((hb3.block _ (lt_of_block (unhide HY1))).trans (unhide HY1)))
  have C5 := hide (cell_later hbZ c5)
  have HBZ := hide (bel_on (unhide HB0) (bel_on (unhide HBY) (bel_on hb3 hbZ)))
  clear hC sC hU sU hb3 hcc c5 hbZ hI CC3 z0 z1 z2 z3 z4 zl hcl
  go_wp2_with fail
  rw [← hZ]
  clear hZ
  refine (unhide CE).mono ?_
  rintro e w4 ⟨rfl, hb4⟩
  have h44 := (hb4.block _ (lt_of_block (unhide HY3))).trans (unhide HY3)
  have u0 := cell_of h44 0 _ rfl
  have ul := lt_of_block h44
  have u5 := cell_later hb4 (unhide C5)
  have uc5 := World.block_lt_of_cell? _ _ u5
  have HBF := hide (bel_on (unhide HBZ) hb4)
  clear hb4 h44 CE
  go_wp2
  go_ret
  exact ⟨rfl, unhide HBF⟩

end Go.Proofs.YtepmnpapdknocaaGreatDoor

/- The contract of Total. -/
namespace Go.Proofs.YtepmnpapdknocaaGreatDoor
open Go.RowKit

set_option maxHeartbeats 400000 in
theorem total1_is (x : CoinD) (a : Option Addr) (n c : Nat) (w : World) : Calls Tryz.prog 61 #[cnV x a n c] w fun e w' => e = .returned (.bool true) ∧ Below w.heap.size w w' := by
  unfold cnV
  have HB := hide (bel_new w (.cells #[.int .i64 x.1, .int .i64 x.2.1, .int .i64 (cv x), .slice a n c, .int .i64 (ch x), .bool (cr x)] 88))
  go_enter Tryz.func61, Tryz.ntmps61
  go_wp2
  go_ret
  exact ⟨rfl, unhide HB⟩

set_option maxRecDepth 10000 in
set_option maxHeartbeats 3200000 in
theorem sumOf_total (a : Option Addr) (n c : Nat) (L : List CoinD) (x s : Int) (w : World) (h : CoinsAt w a n L) (hx : ckCoins L = x) (hs : (if x = 0 then sumC L else 0) = s) :
    Calls Tryz.prog 60 #[.slice a n c, .func (.func 61) #[] #[]] w fun e w' => e = .returned (.tuple #[.int .i64 s, .int .i64 x]) ∧ Below w.heap.size w w' := by
  have C1 := hide (uCheck_any a n c L x w h hx)
  by_cases e1 : x = 0
  · subst e1
    rw [if_pos rfl] at hs
    have hR := (ckCoins_zero L).1 hx
    have hn : n ≤ 720 := by rw [← h.1]; exact hR.len
    have HSB := hide (fun k => sumC_bd L k (fun z hz => by have := ck1_zero (hR.one z hz); omega))
    have HL := hide h
    have HZ := hide h.1
    have HS := hide hs
    clear hR h hx hs
    go_enter Tryz.func60, Tryz.ntmps60
    go_wp2_with fail
    refine (unhide C1).mono ?_
    rintro e w2 ⟨rfl, hb2⟩
    have HB2 := hide hb2
    clear hb2 C1
    go_wp2
    go_loopw [7, 17] (fun sv i wr => ∃ (k : Nat) (d : Int), k ≤ n ∧ sv = .int .i64 d ∧ i = .int .i64 k ∧ Hid (d = sumC (L.take k)) ∧ Hid (Below w.heap.size w wr)) (fun _ i _ => n - (intOf i).toNat)
    case atStart => exact ⟨0, 0, Nat.zero_le _, rfl, rfl, rfl, HB2⟩
    case round =>
      obtain ⟨k, d, hk, rfl, rfl, A, HB⟩ := hrel
      by_cases hlt : k < n
      · have hlk : k < L.length := by rw [unhide HZ]; exact hlt
        obtain ⟨b, off, rfl, hbl, hcell⟩ := (unhide HL).2 (by omega)
        have hin := CoinAt.kept _ _ _ _ _ (unhide HB) (hcell k hlk)
        have b1 := (unhide HSB) k
        have b2 := (unhide HSB) (k + 1)
        have hst := sumC_take L k hlk
        obtain ⟨y, hy⟩ : ∃ y, L[k] = y := ⟨_, rfl⟩
        rw [hy] at hin hst
        obtain ⟨la, ln, lc, g0, g1, g2, g3, g4, g5, _, _⟩ := hin.val
        obtain ⟨v, hv⟩ : ∃ v, cv y = v := ⟨_, rfl⟩
        have T1 := fun w => total1_is y la ln lc w
        unfold cnV at T1
        rw [hv] at g2 hst T1
        have HT1 := hide T1
        rw [← unhide A] at b1 hst
        rw [hst] at b2
        have A2 : Hid (d + v = sumC (L.take (k + 1))) := hst.symm
        obtain ⟨X, hX⟩ : ∃ X, X = wr.alloc (.cells #[.int .i64 y.1, .int .i64 y.2.1, .int .i64 v, .slice la ln lc, .int .i64 (ch y), .bool (cr y)] 88) := ⟨_, rfl⟩
        have hbX : Below wr.heap.size wr X := by rw [hX]; exact bel_new _ _
        have hX1 : X.heap[wr.heap.size]? = some (.cells [.int .i64 y.1, .int .i64 y.2.1, .int .i64 v, .slice la ln lc, .int .i64 (ch y), .bool (cr y)].toArray 88 (0, 0)) := by rw [hX]; exact six_heap _ _ _ _ _ _ _ _
        have m2 := cell_of hX1 2 _ rfl
        have HBX := hide (bel_on (unhide HB) hbX)
        have hw1 : IntKind.i64.wrap (d + v) = d + v := by rw [IntKind.wrap_i64]; omega
        clear hin hy hst A HB T1 hv hX1 hbX
        go_wp2_with fail
        rw [← hX]
        clear hX
        refine ((unhide HT1) _).mono ?_
        rintro e w3 ⟨rfl, hb3⟩
        have n2 := cell_later hb3 m2
        have hl3 := World.block_lt_of_cell? _ _ n2
        have HB3 := hide (bel_on (unhide HBX) hb3)
        clear hb3 m2
        go_wp2
        go_roundw
        case rel => exact ⟨k + 1, d + v, by omega, rfl, by go_num, A2, HB3⟩
        case measure => simp [intOf]; omega
      · have e : k = n := by omega
        subst e
        have R : Hid (d = s) := by
          show _ = _
          rw [unhide A, List.take_of_length_le (by rw [unhide HZ]; exact Nat.le_refl _)]
          exact unhide HS
        clear A
        go_wp2
        go_ret2
        exact ⟨by rw [← unhide R]; rfl, unhide HB⟩
  · rw [if_neg e1] at hs
    subst hs
    have g : (x != 0) = true := by simp [e1]
    clear h hx e1
    go_enter Tryz.func60, Tryz.ntmps60
    go_wp2_with fail
    refine (unhide C1).mono ?_
    rintro e w2 ⟨rfl, hb2⟩
    have HB2 := hide hb2
    clear hb2 C1
    go_wp2
    go_ret2
    exact ⟨rfl, unhide HB2⟩

set_option maxHeartbeats 400000 in
theorem total_is (a : Option Addr) (n c : Nat) (L : List CoinD) (x s : Int) (w : World) (h : CoinsAt w a n L) (hx : ckCoins L = x) (hs : (if x = 0 then sumC L else 0) = s) :
    Calls Tryz.prog 22 #[.slice a n c] w fun e w' => e = .returned (.tuple #[.int .i64 s, .int .i64 x]) ∧ Below w.heap.size w w' := by
  have C := hide (sumOf_total a n c L x s w h hx hs)
  clear h hx hs
  go_enter Tryz.func22, Tryz.ntmps22
  go_wp2_with fail
  refine (unhide C).mono ?_
  rintro e w2 ⟨rfl, hb2⟩
  have HB2 := hide hb2
  clear hb2
  go_wp2
  go_ret2
  exact ⟨rfl, unhide HB2⟩

end Go.Proofs.YtepmnpapdknocaaGreatDoor
