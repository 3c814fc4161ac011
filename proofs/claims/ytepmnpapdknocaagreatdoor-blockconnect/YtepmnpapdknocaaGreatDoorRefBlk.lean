/- The contract of the reference's CheckBlock: it tells what the program's Check tells. -/
import Derived.Test.YtepmnpapdknocaaGreatDoorRefCheckB
import Derived.Test.YtepmnpapdknocaaGreatDoorBlkCheck
namespace Go.Proofs.YtepmnpapdknocaaGreatDoor
open Go.RowKit

theorem headOk_iff (p h k n : Int) : headOk p h k n = true ↔ (0 ≤ p ∧ p ≤ 120) ∧ (1 ≤ h ∧ h ≤ 1000) ∧ (1 ≤ k ∧ k ≤ 1000) ∧ (0 ≤ n ∧ n ≤ 1000000000) := by
  unfold headOk
  simp [Bool.and_eq_true, decide_eq_true_eq]

set_option maxRecDepth 10000 in
set_option maxHeartbeats 6400000 in
theorem rchk_head (p h k n : Int) (a : Option Addr) (m c : Nat) (w : World) (hh : headOk p h k n = false) :
    Calls Tryz.prog 8 #[.agg #[.int .i64 p, .int .i64 h, .int .i64 k, .int .i64 n, .slice a m c]] w fun e w' => e = .returned (.int .i64 3) ∧ Below w.heap.size w w' := by
  have HB := hide (bel_new w (.cells #[.int .i64 p, .int .i64 h, .int .i64 k, .int .i64 n, .slice a m c] 28))
  have hh2 : ¬ ((0 ≤ p ∧ p ≤ 120) ∧ (1 ≤ h ∧ h ≤ 1000) ∧ (1 ≤ k ∧ k ≤ 1000) ∧ (0 ≤ n ∧ n ≤ 1000000000)) := fun q => by rw [(headOk_iff p h k n).2 q] at hh; cases hh
  clear hh
  by_cases c0 : p < 0
  · clear hh2
    go_enter Tryz.func8, Tryz.ntmps8
    go_wp2
    go_ret
    exact ⟨rfl, unhide HB⟩
  by_cases c1 : 120 < p
  · clear hh2
    go_enter Tryz.func8, Tryz.ntmps8
    go_wp2
    go_ret
    exact ⟨rfl, unhide HB⟩
  by_cases c2 : h < 1
  · clear hh2
    go_enter Tryz.func8, Tryz.ntmps8
    go_wp2
    go_ret
    exact ⟨rfl, unhide HB⟩
  by_cases c3 : 1000 < h
  · clear hh2
    go_enter Tryz.func8, Tryz.ntmps8
    go_wp2
    go_ret
    exact ⟨rfl, unhide HB⟩
  by_cases c4 : k < 1
  · clear hh2
    go_enter Tryz.func8, Tryz.ntmps8
    go_wp2
    go_ret
    exact ⟨rfl, unhide HB⟩
  by_cases c5 : 1000 < k
  · clear hh2
    go_enter Tryz.func8, Tryz.ntmps8
    go_wp2
    go_ret
    exact ⟨rfl, unhide HB⟩
  have c6 : n < 0 ∨ 1000000000 < n := by omega
  have C := hide (fun W => isAmount_no n W c6)
  clear hh2 c6
  go_enter Tryz.func8, Tryz.ntmps8
  go_wp2_with fail
  refine ((unhide C) _).mono ?_
  rintro e w' ⟨rfl, rfl⟩
  go_wp2
  go_ret
  exact ⟨rfl, unhide HB⟩

set_option maxRecDepth 10000 in
set_option maxHeartbeats 12800000 in
theorem rchk_rest (p h k n : Int) (a : Option Addr) (m c : Nat) (T : List TxD) (w : World) (hT : TxsAt w a m T) (hh : headOk p h k n = true) :
    Calls Tryz.prog 8 #[.agg #[.int .i64 p, .int .i64 h, .int .i64 k, .int .i64 n, .slice a m c]] w fun e w' => e = .returned (.int .i64 (chkB (p, h, k, n, T))) ∧ Below w.heap.size w w' := by
  obtain ⟨X, hX⟩ : ∃ X, X = w.alloc (.cells #[.int .i64 p, .int .i64 h, .int .i64 k, .int .i64 n, .slice a m c] 28) := ⟨_, rfl⟩
  have hbX : Below w.heap.size w X := by rw [hX]; exact bel_new _ _
  have hX1 : X.heap[w.heap.size]? = some (.cells [.int .i64 p, .int .i64 h, .int .i64 k, .int .i64 n, .slice a m c].toArray 28 (0, 0)) := by rw [hX]; exact five_heap _ _ _ _ _ _ _
  have HX1 := hide hX1
  have HBX := hide hbX
  have HT := hide (hT.later hbX)
  have hz : T.length = m := hT.1
  obtain ⟨⟨q1, q2⟩, ⟨q3, q4⟩, ⟨q5, q6⟩, q7, q8⟩ := (headOk_iff p h k n).1 hh
  have C := hide (isAmount_yes n X q7 q8)
  have p1 : ¬ p < 0 := by omega
  have p2 : ¬ 120 < p := by omega
  have p3 : ¬ h < 1 := by omega
  have p4 : ¬ 1000 < h := by omega
  have p5 : ¬ k < 1 := by omega
  have p6 : ¬ 1000 < k := by omega
  unfold chkB
  simp only
  rw [hz, if_neg (by simp [hh])]
  have x0 := cell_of hX1 0 _ rfl
  have x1 := cell_of hX1 1 _ rfl
  have x2 := cell_of hX1 2 _ rfl
  have x3 := cell_of hX1 3 _ rfl
  have x4 := cell_of hX1 4 _ rfl
  have xl := lt_of_block hX1
  clear hbX hX1 hT hh q1 q2 q3 q4 q5 q6 q7 q8
  by_cases h4 : 4 < m
  · rw [if_pos h4]
    have g4 : (4 : Int) < (m : Int) := by omega
    clear hz
    go_enter Tryz.func8, Tryz.ntmps8
    go_wp2_with fail
    rw [← hX]
    clear hX
    refine (unhide C).mono ?_
    rintro e w' ⟨rfl, rfl⟩
    go_wp2
    go_ret
    exact ⟨rfl, unhide HBX⟩
  · rw [if_neg h4]
    by_cases h0 : m = 0
    · subst h0
      rw [if_pos rfl]
      clear hz h4
      go_enter Tryz.func8, Tryz.ntmps8
      go_wp2_with fail
      rw [← hX]
      clear hX
      refine (unhide C).mono ?_
      rintro e w' ⟨rfl, rfl⟩
      go_wp2
      go_ret
      exact ⟨rfl, unhide HBX⟩
    · rw [if_neg h0]
      have g0 : ((m : Int) == 0) = false := by simp [h0]
      have g4 : ¬ (4 : Int) < (m : Int) := by omega
      have HZ := hide hz
      obtain ⟨b, off, rfl, hbl, hcell⟩ := (unhide HT).2 (by omega)
      have HC := hide hcell
      clear hz hcell
      go_enter Tryz.func8, Tryz.ntmps8
      go_wp2_with fail
      rw [← hX]
      clear hX
      refine (unhide C).mono ?_
      rintro e w' ⟨rfl, rfl⟩
      go_wp2
      go_loopw [52] (fun i wr => ∃ j : Nat, j ≤ m ∧ i = .int .i64 j ∧ Hid (chkTs h 0 T = chkTs h j (T.drop j)) ∧ Hid (Below X.heap.size X wr)) (fun i _ => m - (intOf i).toNat)
      case atStart => exact ⟨0, Nat.zero_le _, rfl, rfl, (Below.refl _ _ : Below X.heap.size X X)⟩
      case round =>
        obtain ⟨j, hj, rfl, A, HBr⟩ := hrel
        clear x0 x1 x2 x3 x4 xl
        by_cases hlt : j < m
        · have hlk : j < T.length := by rw [unhide HZ]; exact hlt
          have hin := TxAt.kept _ _ _ _ _ (unhide HBr) ((unhide HC) j hlk)
          have ST := hide (chkTs_at h T j hlk)
          obtain ⟨t, ht⟩ : ∃ t, T[j] = t := ⟨_, rfl⟩
          rw [ht] at hin ST
          obtain ⟨t1, I, O⟩ := t
          obtain ⟨g0', ⟨ai, ni, ci, g1, hI, sI⟩, ao, no, co, g2, hO, _⟩ := hin
          have A2 : Hid (chkTs h 0 T = if chkTx (t1, I, O) ≠ 0 then chkTx (t1, I, O) else if standsD (t1, I, O) j h = false then 4 else chkTs h (j + 1) (T.drop (j + 1))) := by show _ = _; rw [unhide A, unhide ST]
          simp only at g0' g1 g2 hI hO
          obtain ⟨Y, hY⟩ : ∃ Y, Y = wr.alloc (.cells #[.int .i64 t1, .slice ai ni ci, .slice ao no co] 74) := ⟨_, rfl⟩
          have hbY : Below wr.heap.size wr Y := by rw [hY]; exact bel_new _ _
          have hY1 : Y.heap[wr.heap.size]? = some (.cells [.int .i64 t1, .slice ai ni ci, .slice ao no co].toArray 74 (0, 0)) := by rw [hY]; exact three_heap _ _ _ _ _
          have HY1 := hide hY1
          have HBY := hide (bel_on (unhide HBr) hbY)
          have y0 := cell_of hY1 0 _ rfl
          have y1 := cell_of hY1 1 _ rfl
          have y2 := cell_of hY1 2 _ rfl
          have yl := lt_of_block hY1
          obtain ⟨x, hx⟩ : ∃ x, chkTx (t1, I, O) = x := ⟨_, rfl⟩
          have CT := hide (rcheckTx_any t1 ai ao ni ci no co I O Y (hI.later hbY) (hO.later hbY))
          rw [hx] at A2 CT
          have SD : Hid (standsD (t1, I, O) j h = if 0 < (j : Int) then !decide (ni = 0) else decide (ni = 0) && decide (t1 = h)) := by
            show _ = _
            unfold standsD
            simp only
            rw [hI.1]
          clear hbY hY1 A ST ht hI hO sI hx
          by_cases hx0 : x = 0
          · subst hx0
            have A3 : Hid (chkTs h 0 T = if (if 0 < (j : Int) then !decide (ni = 0) else decide (ni = 0) && decide (t1 = h)) = false then 4 else chkTs h (j + 1) (T.drop (j + 1))) := by
              have q := unhide A2
              rw [if_neg (by decide), unhide SD] at q
              exact q
            clear A2 SD
            go_wp2_with fail
            rw [← hY]
            clear hY
            go_wp2_with fail
            refine (unhide CT).mono ?_
            rintro e w2 ⟨rfl, hb2⟩
            have hy2 := (hb2.block _ (lt_of_block (unhide HY1))).trans (unhide HY1)
            have HB2 := hide (bel_on (unhide HBY) hb2)
            have hh2 := ((unhide HB2).block _ (lt_of_block (unhide HX1))).trans (unhide HX1)
            have z0 := cell_of hy2 0 _ rfl
            have z1 := cell_of hy2 1 _ rfl
            have z2 := cell_of hy2 2 _ rfl
            have zl := lt_of_block hy2
            have k1 := cell_of hh2 1 _ rfl
            have kl := lt_of_block hh2
            have HBF := hide (bel_on (unhide HBX) (unhide HB2))
            clear hb2 hy2 hh2 y0 y1 y2 yl g0' g1 g2
            by_cases j0 : j = 0
            · have gj : ((j : Int) == 0) = true := by simp [j0]
              have gj2 : ¬ (0 : Int) < (j : Int) := by omega
              by_cases n0 : ni = 0
              · subst n0
                by_cases e1 : t1 = h
                · subst e1
                  have gt : (t1 != t1) = false := by simp
                  have R : Hid (chkTs t1 0 T = chkTs t1 (j + 1) (T.drop (j + 1))) := by show _ = _; rw [unhide A3, if_neg gj2]; simp
                  clear A3 j0
                  go_wp2
                  go_roundw
                  case rel => exact ⟨j + 1, by omega, by go_num, R, HB2⟩
                  case measure => simp [intOf]; omega
                · have gt : (t1 != h) = true := by simp [e1]
                  have R : Hid (chkTs h 0 T = 4) := by show _ = _; rw [unhide A3, if_neg gj2]; simp [e1]
                  clear A3 j0 e1
                  go_wp2
                  go_ret
                  exact ⟨by rw [unhide R]; rfl, unhide HBF⟩
              · have gn : ((ni : Int) == 0) = false := by simp [n0]
                have R : Hid (chkTs h 0 T = 4) := by show _ = _; rw [unhide A3, if_neg gj2]; simp [n0]
                clear A3 j0 n0
                go_wp2
                go_ret
                exact ⟨by rw [unhide R]; rfl, unhide HBF⟩
            · have gj : ((j : Int) == 0) = false := by simp [j0]
              have gj2 : (0 : Int) < (j : Int) := by omega
              by_cases n0 : ni = 0
              · subst n0
                have R : Hid (chkTs h 0 T = 4) := by show _ = _; rw [unhide A3, if_pos gj2]; simp
                clear A3 j0
                go_wp2
                go_ret
                exact ⟨by rw [unhide R]; rfl, unhide HBF⟩
              · have gn : ((ni : Int) == 0) = false := by simp [n0]
                have R : Hid (chkTs h 0 T = chkTs h (j + 1) (T.drop (j + 1))) := by show _ = _; rw [unhide A3, if_pos gj2]; simp [n0]
                clear A3 j0 n0
                go_wp2
                go_roundw
                case rel => exact ⟨j + 1, by omega, by go_num, R, HB2⟩
                case measure => simp [intOf]; omega
          · have R : Hid (chkTs h 0 T = x) := by show _ = _; rw [unhide A2, if_pos hx0]
            have gx : (x != 0) = true := by simp [hx0]
            clear A2 hx0 SD
            go_wp2_with fail
            rw [← hY]
            clear hY
            go_wp2_with fail
            refine (unhide CT).mono ?_
            rintro e w2 ⟨rfl, hb2⟩
            have HBF := hide (bel_on (unhide HBX) (bel_on (unhide HBY) hb2))
            clear hb2
            go_wp2
            go_ret
            exact ⟨by rw [unhide R]; rfl, unhide HBF⟩
        · have R : Hid (chkTs h 0 T = 0) := by show _ = _; rw [unhide A, chkTs_end h T j (by rw [unhide HZ]; omega)]
          have HBF := hide (bel_on (unhide HBX) (unhide HBr))
          clear A
          go_wp2
          go_ret
          exact ⟨by rw [unhide R]; rfl, unhide HBF⟩

theorem rchkBlock_any (p h k n : Int) (a : Option Addr) (m c : Nat) (T : List TxD) (x : Int) (w : World) (hT : TxsAt w a m T) (hx : chkB (p, h, k, n, T) = x) :
    Calls Tryz.prog 8 #[.agg #[.int .i64 p, .int .i64 h, .int .i64 k, .int .i64 n, .slice a m c]] w fun e w' => e = .returned (.int .i64 x) ∧ Below w.heap.size w w' := by
  subst hx
  cases hh : headOk p h k n with
  | false =>
    have e : chkB (p, h, k, n, T) = 3 := by unfold chkB; simp only; rw [if_pos hh]
    rw [e]
    exact rchk_head p h k n a m c w hh
  | true => exact rchk_rest p h k n a m c T w hT hh

end Go.Proofs.YtepmnpapdknocaaGreatDoor
