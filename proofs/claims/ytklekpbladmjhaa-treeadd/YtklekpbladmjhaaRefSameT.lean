/- The contract of the reference's SameTx. -/
import Derived.Test.YtklekpbladmjhaaRefSame
import Derived.Deep.RegionHeld3
namespace Go.Proofs.Ytklekpbladmjhaa
open Go.RowKit

theorem bel_draws (w : World) : Below w.heap.size w w.drew := ⟨rfl, rfl, rfl, Nat.le_refl _, fun _ _ => rfl⟩

set_option maxRecDepth 10000 in
set_option maxHeartbeats 6400000 in
theorem rsame_loop (h : Int) (b1 o1 b2 o2 n ci di : Nat) (ao bo : Option Addr) (no co mo eo : Nat) (I I' : List InD) (O O' : List OutD) (o : Bool) (w : World) (hn : n ≤ maxLen) (lo : no ≤ maxLen)
    (z1 : I.length = n) (z2 : I'.length = n) (hl1 : b1 < w.heap.size) (hl2 : b2 < w.heap.size) (h1 : ∀ i (h : i < I.length), InAt w b1 (o1 + i * 3) I[i]) (h2 : ∀ i (h : i < I'.length), InAt w b2 (o2 + i * 3) I'[i])
    (hO : OutsAt w ao no O) (hO' : OutsAt w bo mo O') (ho : (decide (I = I') && decide (O = O')) = o) :
    Calls Try.prog 37 #[.agg #[.int .i64 h, .slice (some ⟨b1, o1, none⟩) n ci, .slice ao no co], .agg #[.int .i64 h, .slice (some ⟨b2, o2, none⟩) n di, .slice bo mo eo]] w fun e w' => e = .returned (.bool o) ∧ Below w.heap.size w w' := by
  subst ho
  unfold maxLen at hn
  obtain ⟨W, hW⟩ : ∃ W, W = (w.alloc (.cells #[.int .i64 h, .slice (some ⟨b1, o1, none⟩) n ci, .slice ao no co] 71)).alloc (.cells #[.int .i64 h, .slice (some ⟨b2, o2, none⟩) n di, .slice bo mo eo] 71) := ⟨_, rfl⟩
  have hb1 := bel_new w (.cells #[.int .i64 h, .slice (some ⟨b1, o1, none⟩) n ci, .slice ao no co] 71)
  have hb2 := bel_new (w.alloc (.cells #[.int .i64 h, .slice (some ⟨b1, o1, none⟩) n ci, .slice ao no co] 71)) (.cells #[.int .i64 h, .slice (some ⟨b2, o2, none⟩) n di, .slice bo mo eo] 71)
  have hbW : Below w.heap.size w W := by rw [hW]; exact bel_on hb1 hb2
  have eW : (w.alloc (.cells #[.int .i64 h, .slice (some ⟨b1, o1, none⟩) n ci, .slice ao no co] 71)).heap.size = w.heap.size + 1 := by simp
  have c1 := three_new w (.int .i64 h) (.slice (some ⟨b1, o1, none⟩) n ci) (.slice ao no co) 71
  have c2 := three_new (w.alloc (.cells #[.int .i64 h, .slice (some ⟨b1, o1, none⟩) n ci, .slice ao no co] 71)) (.int .i64 h) (.slice (some ⟨b2, o2, none⟩) n di) (.slice bo mo eo) 71
  rw [eW] at c2
  have CT : Hid (W.cell? ⟨w.heap.size, 2, none⟩ = some (.slice ao no co)) := by rw [hW]; exact cell_later hb2 c1.2.2
  have CU : Hid (W.cell? ⟨w.heap.size + 1, 1, none⟩ = some (.slice (some ⟨b2, o2, none⟩) n di) ∧ W.cell? ⟨w.heap.size + 1, 2, none⟩ = some (.slice bo mo eo)) := by rw [hW]; exact ⟨c2.2.1, c2.2.2⟩
  have H1 : Hid (∀ i (h : i < I.length), InAt W b1 (o1 + i * 3) I[i]) := fun i hi => InAt.kept _ _ _ _ _ hbW (h1 i hi)
  have H2 : Hid (∀ i (h : i < I'.length), InAt W b2 (o2 + i * 3) I'[i]) := fun i hi => InAt.kept _ _ _ _ _ hbW (h2 i hi)
  have HO := hide (hO.later hbW)
  have HO' := hide (hO'.later hbW)
  have Z1 := hide z1
  have Z2 := hide z2
  have LO := hide lo
  have HBW := hide hbW
  have hlW : b1 < W.heap.size ∧ b2 < W.heap.size := ⟨Nat.lt_of_lt_of_le hl1 hbW.size, Nat.lt_of_lt_of_le hl2 hbW.size⟩
  have g0 : ((n : Int) != (n : Int)) = false := by simp
  clear h1 h2 z1 z2 hO hO' hb1 hb2 hbW c1 c2 eW lo
  go_enter Try.func37, Try.ntmps37
  go_wp2
  rw [← hW]
  clear hW
  go_loopw [24] (fun i wr => ∃ j : Nat, j ≤ n ∧ i = .int .i64 j ∧ Below W.heap.size W wr ∧ Hid (I.take j = I'.take j)) (fun i _ => n - (intOf i).toNat)
  case atStart => exact ⟨0, Nat.zero_le _, rfl, Below.refl _ _, rfl⟩
  case round =>
    obtain ⟨j, hk, rfl, hb, A⟩ := hrel
    have HB := hide hb
    by_cases hlt : j < n
    · have hl1 : j < I.length := by rw [unhide Z1]; exact hlt
      have hl2 : j < I'.length := by rw [unhide Z2]; exact hlt
      have g := InAt.kept _ _ _ _ _ hb ((unhide H1) j hl1)
      have f := InAt.kept _ _ _ _ _ hb ((unhide H2) j hl2)
      have TS := hide (take_same hl1 hl2 (unhide A))
      have TU := hide (take_unlike hl1 hl2)
      obtain ⟨q, hq⟩ : ∃ q, I[j] = q := ⟨_, rfl⟩
      obtain ⟨r, hr⟩ : ∃ r, I'[j] = r := ⟨_, rfl⟩
      rw [hq] at g
      rw [hr] at f
      rw [hq, hr] at TS TU
      obtain ⟨g1, g2, qa, qn, qc, g3, g4, g5⟩ := g
      obtain ⟨f1, f2, ra, rn, rc, f3, f4, _⟩ := f
      obtain ⟨q1, q2, qk⟩ := q
      obtain ⟨r1, r2, rk⟩ := r
      simp only at g1 g2 g3 g4 f1 f2 f3 f4
      obtain ⟨X, hX⟩ : ∃ X, X = wr.alloc (.cells #[.int .i64 q1, .int .i64 q2, .slice qa qn qc] 88) := ⟨_, rfl⟩
      have hbX : Below wr.heap.size wr X := by rw [hX]; exact bel_new _ _
      have cx := three_new wr (.int .i64 q1) (.int .i64 q2) (.slice qa qn qc) 88
      rw [← hX] at cx
      obtain ⟨x0, x1, x2⟩ := cx
      have u1 := cell_later hbX (cell_later hb (unhide CU).1)
      have y0 := cell_later hbX f1
      have y1 := cell_later hbX f2
      have y2 := cell_later hbX f3
      have EQ : Hid (∀ o w', Below X.heap.size X w' → decide (qk = rk) = o → Calls Try.prog 49 #[.slice qa qn qc, .slice ra rn rc] w' fun e w'' => e = .returned (.bool o) ∧ Below w'.heap.size w' w'') := fun o w' hw' hoo =>
        eqOps_is qa ra qn rn qc rc qk rk o w' g5.len ((g4.later hbX).later hw') ((f4.later hbX).later hw') hoo
      have HBX := hide (bel_on hb hbX)
      have hj0 : (0 : Int) ≤ (j : Int) := Int.natCast_nonneg _
      have hj1 : (j : Int) < (n : Int) := by omega
      clear hq hr A g4 f4 g5 hb hbX f1 f2 f3
      by_cases e1 : q1 = r1
      · subst e1
        by_cases e2 : q2 = r2
        · subst e2
          by_cases hk2 : qk = rk
          · have T := hide ((unhide TS) (by rw [hk2]))
            have C := hide (fun w' hw' => (unhide EQ) true w' hw' (decide_eq_true hk2))
            clear TS TU EQ hk2
            go_wp2_with fail
            rw [← hX]
            clear hX
            go_region_held3 (fun w' => Below X.heap.size X w' ∧ w'.cell? ⟨wr.heap.size, 0, none⟩ = some (.int .i64 q1) ∧ w'.cell? ⟨wr.heap.size, 1, none⟩ = some (.int .i64 q2) ∧ w'.cell? ⟨wr.heap.size, 2, none⟩ = some (.slice qa qn qc) ∧ w'.cell? ⟨w.heap.size + 1, 1, none⟩ = some (.slice (some ⟨b2, o2, none⟩) n di) ∧ w'.cell? ⟨b2, o2 + j * 3, none⟩ = some (.int .i64 q1) ∧ w'.cell? ⟨b2, o2 + j * 3 + 1, none⟩ = some (.int .i64 q2) ∧ w'.cell? ⟨b2, o2 + j * 3 + 2, none⟩ = some (.slice ra rn rc))
              (first
              | exact ⟨bel_draws _, x0, x1, x2, u1, y0, y1, y2⟩
              | (go_split_ands
                 refine ⟨bel_on (by assumption) hbc, cell_later hbc (by assumption), cell_later hbc (by assumption), cell_later hbc (by assumption), cell_later hbc (by assumption), cell_later hbc (by assumption), cell_later hbc (by assumption), cell_later hbc (by assumption)⟩))
              (first | (go_at_call 49; go_split_ands; refine ((unhide C) _ (by assumption)).mono ?_; rintro e w' ⟨rfl, hbc⟩))
            rename_i hH
            have HH := hide (bel_on (unhide HBX) hH.1)
            clear hH
            go_wp2
            go_roundw
            case rel => exact ⟨j + 1, by omega, by go_num, unhide HH, T⟩
            case measure => simp [intOf]; omega
          · have U : Hid ((decide (I = I') && decide (O = O')) = false) := by show _ = _; rw [decide_eq_false ((unhide TU) (fun e => hk2 (by injection e with _ e; injection e)))]; rfl
            have C := hide (fun w' hw' => (unhide EQ) false w' hw' (decide_eq_false hk2))
            clear TS TU EQ hk2
            go_wp2_with fail
            rw [← hX]
            clear hX
            go_region_held3 (fun w' => Below X.heap.size X w' ∧ w'.cell? ⟨wr.heap.size, 0, none⟩ = some (.int .i64 q1) ∧ w'.cell? ⟨wr.heap.size, 1, none⟩ = some (.int .i64 q2) ∧ w'.cell? ⟨wr.heap.size, 2, none⟩ = some (.slice qa qn qc) ∧ w'.cell? ⟨w.heap.size + 1, 1, none⟩ = some (.slice (some ⟨b2, o2, none⟩) n di) ∧ w'.cell? ⟨b2, o2 + j * 3, none⟩ = some (.int .i64 q1) ∧ w'.cell? ⟨b2, o2 + j * 3 + 1, none⟩ = some (.int .i64 q2) ∧ w'.cell? ⟨b2, o2 + j * 3 + 2, none⟩ = some (.slice ra rn rc))
              (first
              | exact ⟨bel_draws _, x0, x1, x2, u1, y0, y1, y2⟩
              | (go_split_ands
                 refine ⟨bel_on (by assumption) hbc, cell_later hbc (by assumption), cell_later hbc (by assumption), cell_later hbc (by assumption), cell_later hbc (by assumption), cell_later hbc (by assumption), cell_later hbc (by assumption), cell_later hbc (by assumption)⟩))
              (first | (go_at_call 49; go_split_ands; refine ((unhide C) _ (by assumption)).mono ?_; rintro e w' ⟨rfl, hbc⟩))
            rename_i hH
            have HH := hide (bel_on (unhide HBX) hH.1)
            clear hH
            go_wp2
            go_ret
            exact ⟨by rw [unhide U]; rfl, bel_on (unhide HBW) (unhide HH)⟩
        · have U : Hid ((decide (I = I') && decide (O = O')) = false) := by show _ = _; rw [decide_eq_false ((unhide TU) (fun e => e2 (by injection e with _ e; injection e)))]; rfl
          clear TS TU EQ
          go_wp2_with fail
          rw [← hX]
          clear hX
          go_quiet (fail)
          go_wp2
          go_ret
          exact ⟨by rw [unhide U]; rfl, bel_on (unhide HBW) (bel_on (unhide HBX) (below_dw _ _))⟩
      · have U : Hid ((decide (I = I') && decide (O = O')) = false) := by show _ = _; rw [decide_eq_false ((unhide TU) (fun e => e1 (by injection e)))]; rfl
        clear TS TU EQ
        go_wp2_with fail
        rw [← hX]
        clear hX
        go_quiet (fail)
        go_wp2
        go_ret
        exact ⟨by rw [unhide U]; rfl, bel_on (unhide HBW) (bel_on (unhide HBX) (below_dw _ _))⟩
    · have AE : Hid (decide (I = I') = true) := by
        have h := unhide A
        rw [List.take_of_length_le (by rw [unhide Z1]; omega), List.take_of_length_le (by rw [unhide Z2]; omega)] at h
        exact decide_eq_true h
      have t2 := cell_later hb (unhide CT)
      have u2 := cell_later hb (unhide CU).2
      have lu : w.heap.size + 1 < wr.heap.size := World.block_lt_of_cell? _ _ u2
      obtain ⟨oo, hoo⟩ : ∃ oo, decide (O = O') = oo := ⟨_, rfl⟩
      have EO := hide (reqOuts_is ao bo no mo co eo O O' oo wr (unhide LO) ((unhide HO).later hb) ((unhide HO').later hb) hoo)
      have U : Hid ((decide (I = I') && decide (O = O')) = oo) := by show _ = _; rw [unhide AE, hoo]; rfl
      clear A hb hoo
      go_wp2_with fail
      refine (unhide EO).mono ?_
      rintro e w9 ⟨rfl, hb9⟩
      have HB9 := hide (bel_on (bel_on (unhide HBW) (unhide HB)) hb9)
      clear hb9
      go_wp2
      go_ret
      exact ⟨by rw [unhide U]; rfl, unhide HB9⟩

end Go.Proofs.Ytklekpbladmjhaa
