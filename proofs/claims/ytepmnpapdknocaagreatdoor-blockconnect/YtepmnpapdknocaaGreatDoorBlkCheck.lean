/- The contract of block.Check. -/
import Derived.Test.YtepmnpapdknocaaGreatDoorBlkHead
import Derived.Test.YtepmnpapdknocaaGreatDoorCoinSpendB
namespace Go.Proofs.YtepmnpapdknocaaGreatDoor
open Go.RowKit

set_option maxRecDepth 10000 in
set_option maxHeartbeats 6400000 in
theorem blkCheck_any (p h k n : Int) (a : Option Addr) (m c : Nat) (T : List TxD) (x : Int) (w : World) (hT : TxsAt w a m T) (hx : chkB (p, h, k, n, T) = x) :
    Calls Tryz.prog 50 #[.agg #[.int .i64 p, .int .i64 h, .int .i64 k, .int .i64 n, .slice a m c]] w fun e w' => e = .returned (.int .i64 x) ∧ Below w.heap.size w w' := by
  subst hx
  obtain ⟨X, hX⟩ : ∃ X, X = w.alloc (.cells #[.int .i64 p, .int .i64 h, .int .i64 k, .int .i64 n, .slice a m c] 28) := ⟨_, rfl⟩
  have hbX : Below w.heap.size w X := by rw [hX]; exact bel_new _ _
  have hX1 : X.heap[w.heap.size]? = some (.cells [.int .i64 p, .int .i64 h, .int .i64 k, .int .i64 n, .slice a m c].toArray 28 (0, 0)) := by rw [hX]; exact five_heap _ _ _ _ _ _ _
  have HX1 := hide hX1
  have HBX := hide hbX
  have HT := hide (hT.later hbX)
  have hz : T.length = m := hT.1
  unfold chkB
  simp only
  rw [hz]
  clear hbX hX1 hT
  cases q : headOk p h k n with
  | false =>
    have C := hide (headFits_is p h k n a m c false X q)
    rw [if_pos rfl]
    clear q hz
    go_enter Tryz.func50, Tryz.ntmps50
    go_wp2_with fail
    rw [← hX]
    clear hX
    refine (unhide C).mono ?_
    rintro e w1 ⟨rfl, hb1⟩
    have HB1 := hide (bel_on (unhide HBX) hb1)
    clear hb1
    go_wp2
    go_ret
    exact ⟨rfl, unhide HB1⟩
  | true =>
    have C := hide (headFits_is p h k n a m c true X q)
    rw [if_neg (by decide)]
    clear q
    by_cases h4 : 4 < m
    · rw [if_pos h4]
      clear hz
      go_enter Tryz.func50, Tryz.ntmps50
      go_wp2_with fail
      rw [← hX]
      clear hX
      refine (unhide C).mono ?_
      rintro e w1 ⟨rfl, hb1⟩
      have hx1 := (hb1.block _ (lt_of_block (unhide HX1))).trans (unhide HX1)
      have c4 := cell_of hx1 4 _ rfl
      have l1 := lt_of_block hx1
      have HB1 := hide (bel_on (unhide HBX) hb1)
      clear hb1 hx1
      go_wp2
      go_ret
      exact ⟨rfl, unhide HB1⟩
    · rw [if_neg h4]
      by_cases h0 : m = 0
      · subst h0
        rw [if_pos rfl]
        clear hz h4
        go_enter Tryz.func50, Tryz.ntmps50
        go_wp2_with fail
        rw [← hX]
        clear hX
        refine (unhide C).mono ?_
        rintro e w1 ⟨rfl, hb1⟩
        have hx1 := (hb1.block _ (lt_of_block (unhide HX1))).trans (unhide HX1)
        have c4 := cell_of hx1 4 _ rfl
        have l1 := lt_of_block hx1
        have HB1 := hide (bel_on (unhide HBX) hb1)
        clear hb1 hx1
        go_wp2
        go_ret
        exact ⟨rfl, unhide HB1⟩
      · rw [if_neg h0]
        have g0 : ((m : Int) == 0) = false := by simp [h0]
        have HZ := hide hz
        obtain ⟨b, off, rfl, hbl, hcell⟩ := (unhide HT).2 (by omega)
        have HC := hide hcell
        clear hz hcell
        go_enter Tryz.func50, Tryz.ntmps50
        go_wp2_with fail
        rw [← hX]
        clear hX
        refine (unhide C).mono ?_
        rintro e w1 ⟨rfl, hb1⟩
        have hx1 := (hb1.block _ (lt_of_block (unhide HX1))).trans (unhide HX1)
        have c4 := cell_of hx1 4 _ rfl
        have l1 := lt_of_block hx1
        have HX2 := hide hb1
        clear hb1 hx1
        go_wp2
        go_loopw [20] (fun i wr => ∃ k : Nat, k ≤ m ∧ i = .int .i64 k ∧ Hid (chkTs h 0 T = chkTs h k (T.drop k)) ∧ Hid (Below X.heap.size X wr)) (fun i _ => m - (intOf i).toNat)
        case atStart => exact ⟨0, Nat.zero_le _, rfl, rfl, HX2⟩
        case round =>
          obtain ⟨j, hj, rfl, A, HBr⟩ := hrel
          clear c4 l1 HX2
          by_cases hlt : j < m
          · have hlk : j < T.length := by rw [unhide HZ]; exact hlt
            have hin := TxAt.kept _ _ _ _ _ (unhide HBr) ((unhide HC) j hlk)
            have ST := hide (chkTs_at h T j hlk)
            obtain ⟨t, ht⟩ : ∃ t, T[j] = t := ⟨_, rfl⟩
            rw [ht] at hin ST
            obtain ⟨t1, I, O⟩ := t
            obtain ⟨g0', ⟨ai, ni, ci, g1, hI, sI⟩, ao, no, co, g2, hO, _⟩ := hin
            have A2 : Hid (chkTs h 0 T = if chkTx (t1, I, O) ≠ 0 then chkTx (t1, I, O) else if standsD (t1, I, O) j h = false then 4 else chkTs h (j + 1) (T.drop (j + 1))) := by show _ = _; rw [unhide A, unhide ST]
            simp only at g0' g1 g2 hI hO
            obtain ⟨Y, hY⟩ : ∃ Y, Y = wr.alloc (.cells #[.int .i64 t1, .slice ai ni ci, .slice ao no co] 74) := ⟨_, rfl⟩
            have hbY : Below wr.heap.size wr Y := by rw [hY]; exact bel_new _ _
            have hY1 : Y.heap[wr.heap.size]? = some (.cells [.int .i64 t1, .slice ai ni ci, .slice ao no co].toArray 74 (0, 0)) := by rw [hY]; exact three_heap _ _ _ _ _
            have HY1 := hide hY1
            have HBY := hide (bel_on (unhide HBr) hbY)
            have hhY := ((unhide HBY).block _ (lt_of_block (unhide HX1))).trans (unhide HX1)
            have y0 := cell_of hY1 0 _ rfl
            have y1 := cell_of hY1 1 _ rfl
            have y2 := cell_of hY1 2 _ rfl
            have yl := lt_of_block hY1
            obtain ⟨x, hx⟩ : ∃ x, chkTx (t1, I, O) = x := ⟨_, rfl⟩
            obtain ⟨o, ho⟩ : ∃ o, standsD (t1, I, O) j h = o := ⟨_, rfl⟩
            have CT := hide (txCheck_any t1 ai ao ni ci no co I O Y (hI.later hbY) (hO.later hbY) sI)
            have CS := hide (fun W => stands_is t1 ai ao ni ci no co I O j h o W hI.1 ho)
            rw [hx] at A2 CT
            rw [ho] at A2
            clear hbY hY1 hhY A ST ht hI hO sI hx ho
            by_cases hx0 : x = 0
            · subst hx0
              have A3 : Hid (chkTs h 0 T = if o = false then 4 else chkTs h (j + 1) (T.drop (j + 1))) := by
                have q := unhide A2
                rw [if_neg (by decide)] at q
                exact q
              clear A2
              go_wp2_with fail
              rw [← hY]
              clear hY
              go_wp2_with fail
              refine (unhide CT).mono ?_
              rintro e w2 ⟨rfl, hb2⟩
              have hy2 := (hb2.block _ (lt_of_block (unhide HY1))).trans (unhide HY1)
              have HB2 := hide (bel_on (unhide HBY) hb2)
              have hh2 := ((unhide HB2).block _ (lt_of_block (unhide HX1))).trans (unhide HX1)
              have z0 := cell_of hy2 0 _ rfl
              have z1 := cell_of hy2 1 _ rfl
              have z2 := cell_of hy2 2 _ rfl
              have zl := lt_of_block hy2
              have k1 := cell_of hh2 1 _ rfl
              have kl := lt_of_block hh2
              clear hb2 hy2 hh2 y0 y1 y2 yl g0' g1 g2
              go_wp2_with fail
              refine ((unhide CS) _).mono ?_
              rintro e w3 ⟨rfl, hb3⟩
              have HB3 := hide (bel_on (unhide HB2) hb3)
              clear hb3
              cases o with
              | false =>
                have R : Hid (chkTs h 0 T = 4) := by show _ = _; rw [unhide A3]; rfl
                have HBF := hide (bel_on (unhide HBX) (unhide HB3))
                clear A3
                go_wp2
                go_ret
                exact ⟨by rw [unhide R]; rfl, unhide HBF⟩
              | true =>
                have R : Hid (chkTs h 0 T = chkTs h (j + 1) (T.drop (j + 1))) := by show _ = _; rw [unhide A3]; rfl
                clear A3
                go_wp2
                go_roundw
                case rel => exact ⟨j + 1, by omega, by go_num, R, HB3⟩
                case measure => simp [intOf]; omega
            · have R : Hid (chkTs h 0 T = x) := by show _ = _; rw [unhide A2, if_pos hx0]
              have gx : (x != 0) = true := by simp [hx0]
              clear A2 hx0
              go_wp2_with fail
              rw [← hY]
              clear hY
              go_wp2_with fail
              refine (unhide CT).mono ?_
              rintro e w2 ⟨rfl, hb2⟩
              have HBF := hide (bel_on (unhide HBX) (bel_on (unhide HBY) hb2))
              clear hb2
              go_wp2
              go_ret
              exact ⟨by rw [unhide R]; rfl, unhide HBF⟩
          · have R : Hid (chkTs h 0 T = 0) := by show _ = _; rw [unhide A, chkTs_end h T j (by rw [unhide HZ]; omega)]
            have HBF := hide (bel_on (unhide HBX) (unhide HBr))
            clear A
            go_wp2
            go_ret
            exact ⟨by rw [unhide R]; rfl, unhide HBF⟩

end Go.Proofs.YtepmnpapdknocaaGreatDoor
