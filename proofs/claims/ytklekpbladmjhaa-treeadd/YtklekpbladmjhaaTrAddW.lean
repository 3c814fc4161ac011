/- The walk of the law TreeAdd. -/
import Derived.Test.YtklekpbladmjhaaRefAdded
import Derived.Test.YtklekpbladmjhaaRefSameX
import Derived.Test.YtklekpbladmjhaaTrGrown
namespace Go.Proofs.Ytklekpbladmjhaa
open Go.RowKit

set_option maxRecDepth 10000 in
set_option maxHeartbeats 12800000 in
theorem lawAdd_is (a b : Option Addr) (n c m d : Nat) (N : List Int) (T : List BlkD) (s p h k o q : Int) (ta : Option Addr) (tn tc : Nat) (L : List TxD) (w : World) (hN : IntsAt w a n N) (hT : BlksAt w b m T) (sN : SlOk a n c) (sT : SlOk b m d) (hL : TxsAt w ta tn L) (sL : SlOk ta tn tc) :
    Calls Try.prog 3 #[.agg #[.slice a n c, .slice b m d], .int .i64 s, .agg #[.int .i64 p, .int .i64 h, .int .i64 k, .int .i64 o, .slice ta tn tc], .int .i64 q] w fun e w' => e = .returned (.bool true) ∧ Below w.heap.size w w' := by
  obtain ⟨X, hX⟩ : ∃ X, X = (w.alloc (.cells #[.slice a n c, .slice b m d] 25)).alloc (.cells #[.int .i64 p, .int .i64 h, .int .i64 k, .int .i64 o, .slice ta tn tc] 28) := ⟨_, rfl⟩
  have hbX : Below w.heap.size w X := by rw [hX]; exact bel_on (bel_new _ _) (bel_new _ _)
  have hX0 : X.heap[w.heap.size]? = some (.cells [.slice a n c, .slice b m d].toArray 25 (0, 0)) := by
    rw [hX, Below.heap_alloc _ _ _ (by simp)]; exact two_heap _ _ _ _
  have hX1 : X.heap[w.heap.size + 1]? = some (.cells [.int .i64 p, .int .i64 h, .int .i64 k, .int .i64 o, .slice ta tn tc].toArray 28 (0, 0)) := by
    rw [hX]
    have := five_heap (w.alloc (.cells #[.slice a n c, .slice b m d] 25)) (.int .i64 p) (.int .i64 h) (.int .i64 k) (.int .i64 o) (.slice ta tn tc) 28
    rw [show (w.alloc (.cells #[.slice a n c, .slice b m d] 25)).heap.size = w.heap.size + 1 by simp] at this
    exact this
  obtain ⟨N', T', x, hx⟩ : ∃ N' T' x, addE N T s (p, h, k, o, L) = (N', T', x) := ⟨_, _, _, rfl⟩
  obtain ⟨n', hn'⟩ : ∃ n', N'.length = n' := ⟨_, rfl⟩
  obtain ⟨bk, f, hbk⟩ : ∃ bk f, blockE N T q = (bk, f) := ⟨_, _, rfl⟩
  obtain ⟨x1, x2, x3, x4, xT⟩ := bk
  obtain ⟨y, hy⟩ : ∃ y, chkTr N T = y := ⟨_, rfl⟩
  have C1 := hide (add_is a b n c m d N T s p h k o ta tn tc L N' T' n' x X (hN.later hbX) (hT.later hbX) sN sT (hL.later hbX) sL hx hn')
  have C2 := hide (fun W (hb : Below w.heap.size w W) => block_is a b n c m d N T q (x1, x2, x3, x4, xT) f W (hN.later hb) (hT.later hb) sN sT hbk)
  have C3 := hide (fun W (hb : Below w.heap.size w W) => rchkTree_any a b n c m d N T y W (hN.later hb) (hT.later hb) sN sT hy)
  have C4 := hide grown_yes
  have C5 := hide (fun W (hb : Below w.heap.size w W) => trCheck_any a b n c m d N T y W (hN.later hb) (hT.later hb) sN sT hy)
  have IN := hide hN
  have IT := hide hT
  have IL := hide hL
  have SN := hide sN
  have ST := hide sT
  have SL := hide sL
  have HX := hide hx
  have HN' := hide hn'
  have HBK := hide hbk
  have HY := hide hy
  have HB0 := hide hbX
  have BT0 := hide hX0
  have BB0 := hide hX1
  clear hbX hX0 hX1 hN hT sN sT hL sL hx hn' hbk hy
  have ttt0 := cell_of (unhide BT0) 0 _ rfl
  have ttt1 := cell_of (unhide BT0) 1 _ rfl
  have tttl := lt_of_block (unhide BT0)
  have bbb0 := cell_of (unhide BB0) 0 _ rfl
  have bbb1 := cell_of (unhide BB0) 1 _ rfl
  have bbb2 := cell_of (unhide BB0) 2 _ rfl
  have bbb3 := cell_of (unhide BB0) 3 _ rfl
  have bbb4 := cell_of (unhide BB0) 4 _ rfl
  have bbbl := lt_of_block (unhide BB0)
  go_enter Try.func3, Try.ntmps3
  go_wp2_with fail
  rw [← hX]
  clear hX
  refine (unhide C1).mono ?_
  rintro e w1 ⟨a1, c1, a2, c2, rfl, hF1, s1, s2, hb1⟩
  have UI := hide (hF1 w1 (Gr.refl _ _))
  have US1 := hide s1
  have US2 := hide s2
  obtain ⟨Y, hY⟩ : ∃ Y, Y = w1.alloc (.cells #[.slice a1 n' c1, .slice a2 n' c2] 25) := ⟨_, rfl⟩
  have hbY : Below w1.heap.size w1 Y := by rw [hY]; exact bel_new _ _
  have BU1 : Hid (Y.heap[w1.heap.size]? = some (.cells [.slice a1 n' c1, .slice a2 n' c2].toArray 25 (0, 0))) := by show _ = _; rw [hY]; exact two_heap _ _ _ _
  have hb1Y := bel_on hb1 hbY
  have HB1 := hide (bel_on (unhide HB0) hb1Y)
  have BT1 := hide ((hb1Y.block _ (lt_of_block (unhide BT0))).trans (unhide BT0))
  have BB1 := hide ((hb1Y.block _ (lt_of_block (unhide BB0))).trans (unhide BB0))
  have HU1 := hide hbY
  clear ttt0 ttt1 tttl bbb0 bbb1 bbb2 bbb3 bbb4 bbbl
  have BTx := hide ((hb1.block _ (lt_of_block (unhide BT0))).trans (unhide BT0))
  clear hF1 s1 s2 hb1 hbY hb1Y C1
  have ttt0 := cell_of (unhide BTx) 0 _ rfl
  have ttt1 := cell_of (unhide BTx) 1 _ rfl
  have tttl := lt_of_block (unhide BTx)
  have CC2 := hide ((unhide C2) Y (unhide HB1))
  go_wp2_with fail
  rw [← hY]
  clear hY
  refine (unhide CC2).mono ?_
  rintro e w2 ⟨qa, qn, qc, rfl, hq, sq, hb2⟩
  have hq : TxsAt w2 qa qn xT := hq
  obtain ⟨Z, hZ⟩ : ∃ Z, Z = w2.alloc (.cells #[.int .i64 x1, .int .i64 x2, .int .i64 x3, .int .i64 x4, .slice qa qn qc] 28) := ⟨_, rfl⟩
  have hbZ : Below w2.heap.size w2 Z := by rw [hZ]; exact bel_new _ _
  have BC2 : Hid (Z.heap[w2.heap.size]? = some (.cells [.int .i64 x1, .int .i64 x2, .int .i64 x3, .int .i64 x4, .slice qa qn qc].toArray 28 (0, 0))) := by show _ = _; rw [hZ]; exact five_heap _ _ _ _ _ _ _
  have hb2Z := bel_on hb2 hbZ
  have HB2 := hide (bel_on (unhide HB1) hb2Z)
  have BT2 := hide ((hb2Z.block _ (lt_of_block (unhide BT1))).trans (unhide BT1))
  have BB2 := hide ((hb2Z.block _ (lt_of_block (unhide BB1))).trans (unhide BB1))
  have BU2 := hide ((hb2Z.block _ (lt_of_block (unhide BU1))).trans (unhide BU1))
  have HU2 := hide (bel_on (unhide HU1) hb2Z)
  have HC2 := hide hbZ
  have HQ := hide hq
  have SQ := hide sq
  clear ttt0 ttt1 tttl
  have BTy := hide ((hb2.block _ (lt_of_block (unhide BT1))).trans (unhide BT1))
  clear hq sq hb2 hbZ hb2Z CC2 C2
  have ttt0 := cell_of (unhide BTy) 0 _ rfl
  have ttt1 := cell_of (unhide BTy) 1 _ rfl
  have tttl := lt_of_block (unhide BTy)
  have CC3 := hide ((unhide C3) Z (unhide HB2))
  go_wp2_with fail
  rw [← hZ]
  clear hZ
  refine (unhide CC3).mono ?_
  rintro e w3 ⟨rfl, hb3⟩
  have HB3 := hide (bel_on (unhide HB2) hb3)
  have BT3 := hide ((hb3.block _ (lt_of_block (unhide BT2))).trans (unhide BT2))
  have BB3 := hide ((hb3.block _ (lt_of_block (unhide BB2))).trans (unhide BB2))
  have BU3 := hide ((hb3.block _ (lt_of_block (unhide BU2))).trans (unhide BU2))
  have BC3 := hide ((hb3.block _ (lt_of_block (unhide BC2))).trans (unhide BC2))
  have HU3 := hide (bel_on (unhide HU2) hb3)
  have HC3 := hide (bel_on (unhide HC2) hb3)
  clear hb3 CC3 C3 ttt0 ttt1 tttl
  go_wp2_with fail
  refine ((unhide C4) _).mono ?_
  rintro e w4 ⟨rfl, hb4⟩
  have HB4 := hide (bel_on (unhide HB3) hb4)
  have BT4 := hide ((hb4.block _ (lt_of_block (unhide BT3))).trans (unhide BT3))
  have BB4 := hide ((hb4.block _ (lt_of_block (unhide BB3))).trans (unhide BB3))
  have BU4 := hide ((hb4.block _ (lt_of_block (unhide BU3))).trans (unhide BU3))
  have BC4 := hide ((hb4.block _ (lt_of_block (unhide BC3))).trans (unhide BC3))
  have HU4 := hide (bel_on (unhide HU3) hb4)
  have HC4 := hide (bel_on (unhide HC3) hb4)
  clear hb4 C4
  have ttt0 := cell_of (unhide BT4) 0 _ rfl
  have ttt1 := cell_of (unhide BT4) 1 _ rfl
  have tttl := lt_of_block (unhide BT4)
  have CC5 := hide ((unhide C5) w4 (unhide HB4))
  go_wp2_with fail
  refine (unhide CC5).mono ?_
  rintro e w5 ⟨rfl, hb5⟩
  have HB5 := hide (bel_on (unhide HB4) hb5)
  have BT5 := hide ((hb5.block _ (lt_of_block (unhide BT4))).trans (unhide BT4))
  have BB5 := hide ((hb5.block _ (lt_of_block (unhide BB4))).trans (unhide BB4))
  have BU5 := hide ((hb5.block _ (lt_of_block (unhide BU4))).trans (unhide BU4))
  have BC5 := hide ((hb5.block _ (lt_of_block (unhide BC4))).trans (unhide BC4))
  have HU5 := hide (bel_on (unhide HU4) hb5)
  have HC5 := hide (bel_on (unhide HC4) hb5)
  clear hb5 CC5 C5 ttt0 ttt1 tttl
  have gyy : (y != y) = false := by simp
  have uuu0 := cell_of (unhide BU5) 0 _ rfl
  have uuu1 := cell_of (unhide BU5) 1 _ rfl
  have uuul := lt_of_block (unhide BU5)
  have ccc0 := cell_of (unhide BC5) 0 _ rfl
  have ccc1 := cell_of (unhide BC5) 1 _ rfl
  have ccc2 := cell_of (unhide BC5) 2 _ rfl
  have ccc3 := cell_of (unhide BC5) 3 _ rfl
  have ccc4 := cell_of (unhide BC5) 4 _ rfl
  have cccl := lt_of_block (unhide BC5)
  by_cases y0 : y = 0
  · subst y0
    obtain ⟨hl, h24, hH, hgo⟩ := chkTr_ok (unhide HY)
    obtain rfl : n = m := by rw [← (unhide IN).1, ← (unhide IT).1, hl]
    have HLN := hide hl
    have C6 := hide (radded_is a b n c d N T s p h k o ta tn tc L N' T' n' x w5 ((unhide IN).later (unhide HB5)) ((unhide IT).later (unhide HB5)) (unhide SN) (unhide ST) ((unhide IL).later (unhide HB5)) (unhide SL) (unhide HY) (unhide HX) (unhide HN'))
    have ttt0 := cell_of (unhide BT5) 0 _ rfl
    have ttt1 := cell_of (unhide BT5) 1 _ rfl
    have tttl := lt_of_block (unhide BT5)
    have bbb0 := cell_of (unhide BB5) 0 _ rfl
    have bbb1 := cell_of (unhide BB5) 1 _ rfl
    have bbb2 := cell_of (unhide BB5) 2 _ rfl
    have bbb3 := cell_of (unhide BB5) 3 _ rfl
    have bbb4 := cell_of (unhide BB5) 4 _ rfl
    have bbbl := lt_of_block (unhide BB5)
    clear hl h24 hH hgo
    go_wp2_with fail
    refine (unhide C6).mono ?_
    rintro e w6 ⟨a3, c3, a4, c4, rfl, i6, j6, s3, s4, hb6⟩
    obtain ⟨V, hV⟩ : ∃ V, V = w6.alloc (.cells #[.slice a3 n' c3, .slice a4 n' c4] 25) := ⟨_, rfl⟩
    have hbV : Below w6.heap.size w6 V := by rw [hV]; exact bel_new _ _
    have BV6 : Hid (V.heap[w6.heap.size]? = some (.cells [.slice a3 n' c3, .slice a4 n' c4].toArray 25 (0, 0))) := by show _ = _; rw [hV]; exact two_heap _ _ _ _
    have hb6V := bel_on hb6 hbV
    have HB6 := hide (bel_on (unhide HB5) hb6V)
    have BT6 := hide ((hb6V.block _ (lt_of_block (unhide BT5))).trans (unhide BT5))
    have BB6 := hide ((hb6V.block _ (lt_of_block (unhide BB5))).trans (unhide BB5))
    have BU6 := hide ((hb6V.block _ (lt_of_block (unhide BU5))).trans (unhide BU5))
    have BC6 := hide ((hb6V.block _ (lt_of_block (unhide BC5))).trans (unhide BC5))
    have ui := (unhide UI).1.later (bel_on (unhide HU5) hb6V)
    have uj := (unhide UI).2.later (bel_on (unhide HU5) hb6V)
    have C7 := hide (rsameTree_is a1 a2 a3 a4 n' c1 n' c2 n' c3 n' c4 N' N' T' T' true V (unhide US1).len (unhide US2).len ui uj (i6.later hbV) (j6.later hbV) (by simp))
    have HC6 := hide (bel_on (unhide HC5) hb6V)
    have gxx : (x != x) = false := by simp
    clear ttt0 ttt1 tttl bbb0 bbb1 bbb2 bbb3 bbb4 bbbl uuu0 uuu1 uuul ccc0 ccc1 ccc2 ccc3 ccc4 cccl
    have BUx := hide ((hb6.block _ (lt_of_block (unhide BU5))).trans (unhide BU5))
    clear ui uj i6 j6 s3 s4 hb6 hbV hb6V C6
    have uuu0 := cell_of (unhide BUx) 0 _ rfl
    have uuu1 := cell_of (unhide BUx) 1 _ rfl
    have uuul := lt_of_block (unhide BUx)
    go_wp2_with fail
    rw [← hV]
    clear hV
    refine (unhide C7).mono ?_
    rintro e w7 ⟨rfl, hb7⟩
    have HB7 := hide (bel_on (unhide HB6) hb7)
    have BT7 := hide ((hb7.block _ (lt_of_block (unhide BT6))).trans (unhide BT6))
    have BB7 := hide ((hb7.block _ (lt_of_block (unhide BB6))).trans (unhide BB6))
    have BC7 := hide ((hb7.block _ (lt_of_block (unhide BC6))).trans (unhide BC6))
    have HC7 := hide (bel_on (unhide HC6) hb7)
    clear hb7 C7 uuu0 uuu1 uuul
    obtain ⟨kk, hkk⟩ : ∃ kk, idxI q N 0 = kk := ⟨_, rfl⟩
    have C8 := hide (indexInt_is a n c N q kk w7 (unhide SN).len ((unhide IN).later (unhide HB7)) hkk)
    have hq7 := (unhide HQ).later (unhide HC7)
    have hbe : (if decide (q ∈ N) = true then (fnd q N T, 0) else (zeroB, 5)) = ((x1, x2, x3, x4, xT), f) := by have e := unhide HBK; unfold blockE at e; rw [unhide HY, if_neg (by simp)] at e; exact e
    have ttt0 := cell_of (unhide BT7) 0 _ rfl
    have ttt1 := cell_of (unhide BT7) 1 _ rfl
    have tttl := lt_of_block (unhide BT7)
    have ccc0 := cell_of (unhide BC7) 0 _ rfl
    have ccc1 := cell_of (unhide BC7) 1 _ rfl
    have ccc2 := cell_of (unhide BC7) 2 _ rfl
    have ccc3 := cell_of (unhide BC7) 3 _ rfl
    have ccc4 := cell_of (unhide BC7) 4 _ rfl
    have cccl := lt_of_block (unhide BC7)
    rcases idxI_fnd q N T 0 (unhide HLN) with ⟨k1, k2, k3⟩ | ⟨i, hi, k1, k2, k3⟩
    · obtain rfl : kk = -1 := by rw [← hkk, k1]
      rw [if_neg (by simp [k2])] at hbe
      obtain rfl : 5 = f := congrArg Prod.snd hbe
      have hzb : ((x1, x2, x3, x4, xT) : BlkD) = zeroB := (congrArg Prod.fst hbe).symm
      have C9 := hide (rsameBlk_zero x1 x2 x3 x4 qa qn qc xT true w7 (unhide SQ).len hq7 (by simp [hzb]))
      clear hbe hzb k1 k2 k3 hkk hq7
      go_wp2_with fail
      refine (unhide C8).mono ?_
      rintro e w8 ⟨rfl, rfl⟩
      go_wp2_with fail
      refine (unhide C9).mono ?_
      rintro e w9 ⟨rfl, hb9⟩
      have HBF := hide (bel_on (unhide HB7) hb9)
      clear hb9
      go_wp2
      go_ret
      exact ⟨rfl, unhide HBF⟩
    · rw [Nat.zero_add] at k1
      obtain rfl : kk = (i : Nat) := by rw [← hkk, k1]
      rw [if_pos (by simp [k2]), k3] at hbe
      obtain rfl : 0 = f := congrArg Prod.snd hbe
      have hti : T[i] = (x1, x2, x3, x4, xT) := congrArg Prod.fst hbe
      have hin : i < n := by rw [← (unhide IT).1]; exact hi
      have it7 := (unhide IT).later (unhide HB7)
      obtain ⟨bq, oq, rfl, hbq, hcq⟩ := it7.2 (by omega)
      have cq := hcq i hi
      rw [hti] at cq
      obtain ⟨d0, d1, d2, d3, za, zn, zc, d4, hz, sz⟩ := cq
      simp only at d0 d1 d2 d3 hz
      have C9 := hide (fun W (hb : Below w7.heap.size w7 W) => rsameBlk_is x1 x2 x3 x4 x1 x2 x3 x4 qa za qn qc zn zc xT xT true W (unhide SQ).len (hq7.later hb) (hz.later hb) (by simp))
      have gk2 : ¬ (i : Int) < 0 := by omega
      clear hbe hti k1 k2 k3 hkk hq7 hcq it7 hz sz
      go_wp2_with fail
      refine (unhide C8).mono ?_
      rintro e w8 ⟨rfl, rfl⟩
      go_wp2_with fail
      go_region_held3 (fun W => Below w7.heap.size w7 W ∧ W.cell? ⟨w.heap.size, 1, none⟩ = some (.slice (some ⟨bq, oq, none⟩) n d) ∧ W.cell? ⟨w2.heap.size, 0, none⟩ = some (.int .i64 x1) ∧ W.cell? ⟨w2.heap.size, 1, none⟩ = some (.int .i64 x2) ∧ W.cell? ⟨w2.heap.size, 2, none⟩ = some (.int .i64 x3) ∧ W.cell? ⟨w2.heap.size, 3, none⟩ = some (.int .i64 x4) ∧ W.cell? ⟨w2.heap.size, 4, none⟩ = some (.slice qa qn qc) ∧ W.cell? ⟨bq, oq + i * 5, none⟩ = some (.int .i64 x1) ∧ W.cell? ⟨bq, oq + i * 5 + 1, none⟩ = some (.int .i64 x2) ∧ W.cell? ⟨bq, oq + i * 5 + 2, none⟩ = some (.int .i64 x3) ∧ W.cell? ⟨bq, oq + i * 5 + 3, none⟩ = some (.int .i64 x4) ∧ W.cell? ⟨bq, oq + i * 5 + 4, none⟩ = some (.slice za zn zc))
        (first | exact ⟨bel_draw1 _, ttt1, ccc0, ccc1, ccc2, ccc3, ccc4, d0, d1, d2, d3, d4⟩ | (go_split_ands; refine ⟨bel_on (by assumption) hbc, cell_later hbc (by assumption), cell_later hbc (by assumption), cell_later hbc (by assumption), cell_later hbc (by assumption), cell_later hbc (by assumption), cell_later hbc (by assumption), cell_later hbc (by assumption), cell_later hbc (by assumption), cell_later hbc (by assumption), cell_later hbc (by assumption), cell_later hbc (by assumption)⟩))
        ((go_at_call 14; go_split_ands; refine ((unhide C9) _ (by assumption)).mono ?_; rintro e w' ⟨rfl, hbc⟩))
      rename_i hq
      have HBF := hide (bel_on (unhide HB7) hq.1)
      clear hq
      go_wp2
      go_ret
      exact ⟨rfl, unhide HBF⟩
  · obtain ⟨rfl, rfl, rfl⟩ : ([] : List Int) = N' ∧ ([] : List BlkD) = T' ∧ y = x := by
      have e := unhide HX
      unfold addE at e
      rw [unhide HY, if_pos y0] at e
      exact ⟨congrArg (·.1) e, congrArg (·.2.1) e, congrArg (·.2.2) e⟩
    obtain rfl : 0 = n' := unhide HN'
    have hbe : (zeroB, y) = ((x1, x2, x3, x4, xT), f) := by have e := unhide HBK; unfold blockE at e; rw [unhide HY, if_pos y0] at e; exact e
    obtain rfl : y = f := congrArg Prod.snd hbe
    have hzb : ((x1, x2, x3, x4, xT) : BlkD) = zeroB := (congrArg Prod.fst hbe).symm
    have C6 := hide (rsameTree_is a1 a2 none none 0 c1 0 c2 0 0 0 0 [] [] [] [] true w5 (unhide US1).len (unhide US2).len ((unhide UI).1.later (unhide HU5)) ((unhide UI).2.later (unhide HU5)) (IntsAt.nil _ _) (RowsAt.nil _ _) (by simp))
    have C7 := hide (fun W (hb : Below w5.heap.size w5 W) => rsameBlk_zero x1 x2 x3 x4 qa qn qc xT true W (unhide SQ).len ((unhide HQ).later (bel_on (unhide HC5) hb)) (by simp [hzb]))
    have g0 : (y != 0) = true := by simp [y0]
    have g1 : (y == y) = true := by simp
    clear hbe hzb y0
    go_wp2_with fail
    refine (unhide C6).mono ?_
    rintro e w6 ⟨rfl, hb6⟩
    have BC6 := hide ((hb6.block _ (lt_of_block (unhide BC5))).trans (unhide BC5))
    have HB6 := hide (bel_on (unhide HB5) hb6)
    have CC7 := hide ((unhide C7) w6 hb6)
    clear hb6 C6 C7 uuu0 uuu1 uuul ccc0 ccc1 ccc2 ccc3 ccc4 cccl
    have ccc0 := cell_of (unhide BC6) 0 _ rfl
    have ccc1 := cell_of (unhide BC6) 1 _ rfl
    have ccc2 := cell_of (unhide BC6) 2 _ rfl
    have ccc3 := cell_of (unhide BC6) 3 _ rfl
    have ccc4 := cell_of (unhide BC6) 4 _ rfl
    have cccl := lt_of_block (unhide BC6)
    go_wp2_with fail
    refine (unhide CC7).mono ?_
    rintro e w7 ⟨rfl, hb7⟩
    have HBF := hide (bel_on (unhide HB6) hb7)
    clear hb7
    go_wp2
    go_ret
    exact ⟨rfl, unhide HBF⟩

end Go.Proofs.Ytklekpbladmjhaa
