/- Contracts of the reference's SameOut, and of rows of outs held against each other by it. -/
import Derived.Test.YtmkimohidepmnaaTxSame
import Derived.Deep.RegionHeld3
namespace Go.Proofs.Ytmkimohidepmnaa
open Go.RowKit

set_option maxRecDepth 10000 in
set_option maxHeartbeats 1600000 in
theorem rsameOut_is (x y : OutD) (a b : Option Addr) (n c m d : Nat) (o : Bool) (w : World) (hn : n ≤ maxLen) (hA : OpsAt w a n x.2) (hB : OpsAt w b m y.2) (ho : decide (x = y) = o) :
    Calls Try.prog 52 #[.agg #[.int .i64 x.1, .slice a n c], .agg #[.int .i64 y.1, .slice b m d]] w fun e w' => e = .returned (.bool o) ∧ Below w.heap.size w w' := by
  obtain ⟨x1, k⟩ := x
  obtain ⟨y1, l⟩ := y
  simp only at hA hB ⊢
  have hb := bel_on (bel_new w (.cells #[.int .i64 x1, .slice a n c] 85)) (bel_new _ (.cells #[.int .i64 y1, .slice b m d] 85))
  have HB := hide hb
  by_cases h1 : x1 = y1
  · subst h1
    have C := hide (eqOps_is a b n m c d k l o _ hn (hA.later hb) (hB.later hb) (by rw [← ho]; simp))
    clear hA hB hb ho
    go_enter Try.func52, Try.ntmps52
    go_wp2_with fail
    refine (unhide C).mono ?_
    rintro e w2 ⟨rfl, hb2⟩
    have HB2 := hide (bel_on (unhide HB) hb2)
    clear hb2
    go_wp2
    go_ret
    exact ⟨rfl, unhide HB2⟩
  · have e : o = false := by rw [← ho]; exact decide_eq_false (fun e => h1 (by injection e))
    have g : (x1 == y1) = false := by simp [h1]
    subst e
    clear hA hB hb ho
    go_enter Try.func52, Try.ntmps52
    go_wp2
    go_ret
    exact ⟨rfl, unhide HB⟩

set_option maxRecDepth 10000 in
set_option maxHeartbeats 3200000 in
theorem reqOuts_some (b1 o1 b2 o2 n c d : Nat) (l k : List OutD) (o : Bool) (w : World) (hn : n ≤ maxLen) (z1 : l.length = n) (z2 : k.length = n)
    (h1 : ∀ i (h : i < l.length), OutAt w b1 (o1 + i * 2) l[i]) (h2 : ∀ i (h : i < k.length), OutAt w b2 (o2 + i * 2) k[i]) (ho : decide (l = k) = o) :
    Calls Try.prog 51 #[.slice (some ⟨b1, o1, none⟩) n c, .slice (some ⟨b2, o2, none⟩) n d, .func (.func 52) #[] #[]] w fun e w' => e = .returned (.bool o) ∧ Below w.heap.size w w' := by
  subst ho
  unfold maxLen at hn
  have H1 := hide h1
  have H2 := hide h2
  have Z1 := hide z1
  have Z2 := hide z2
  clear h1 h2 z1 z2
  go_enter Try.func51, Try.ntmps51
  go_wp2
  go_loopw [17] (fun i wr => ∃ j : Nat, j ≤ n ∧ i = .int .i64 j ∧ Below w.heap.size w wr ∧ Hid (l.take j = k.take j)) (fun i _ => n - (intOf i).toNat)
  case atStart => exact ⟨0, Nat.zero_le _, rfl, Below.refl _ _, rfl⟩
  case round =>
    obtain ⟨j, hk, rfl, hb, A⟩ := hrel
    have HB := hide hb
    by_cases hlt : j < n
    · have hl1 : j < l.length := by rw [unhide Z1]; exact hlt
      have hl2 : j < k.length := by rw [unhide Z2]; exact hlt
      have g := OutAt.kept _ _ _ _ _ hb ((unhide H1) j hl1)
      have f := OutAt.kept _ _ _ _ _ hb ((unhide H2) j hl2)
      have TS := hide (take_same hl1 hl2 (unhide A))
      have TU := hide (take_unlike hl1 hl2)
      obtain ⟨q, hq⟩ : ∃ q, l[j] = q := ⟨_, rfl⟩
      obtain ⟨r, hr⟩ : ∃ r, k[j] = r := ⟨_, rfl⟩
      rw [hq] at g
      rw [hr] at f
      rw [hq, hr] at TS TU
      obtain ⟨g1, qa, qn, qc, g3, g4, g5⟩ := g
      obtain ⟨f1, ra, rn, rc, f3, f4, _⟩ := f
      obtain ⟨q1, qk⟩ := q
      obtain ⟨r1, rk⟩ := r
      simp only at g1 g3 g4 f1 f3 f4
      have lt2 : b2 < wr.heap.size := World.block_lt_of_cell? _ _ f1
      have hb2 := bel_on (bel_new wr (.cells #[.int .i64 q1, .slice qa qn qc] 85)) (bel_new _ (.cells #[.int .i64 r1, .slice ra rn rc] 85))
      have HB2 := hide hb2
      have C : Hid (∀ o, decide (((q1, qk) : OutD) = (r1, rk)) = o → Calls Try.prog 52 #[.agg #[.int .i64 q1, .slice qa qn qc], .agg #[.int .i64 r1, .slice ra rn rc]] ((wr.alloc (.cells #[.int .i64 q1, .slice qa qn qc] 85)).alloc (.cells #[.int .i64 r1, .slice ra rn rc] 85)) fun e w' => e = .returned (.bool o) ∧ Below _ _ w') :=
        fun o ho => rsameOut_is (q1, qk) (r1, rk) qa ra qn qc rn rc o _ g5.len (g4.later hb2) (f4.later hb2) ho
      clear hq hr A g4 f4 g5 hb hb2
      by_cases he : ((q1, qk) : OutD) = (r1, rk)
      · have T := hide ((unhide TS) he)
        have C2 := hide ((unhide C) true (decide_eq_true he))
        clear TS TU C he
        go_wp2_with fail
        refine (unhide C2).mono ?_
        rintro e w3 ⟨rfl, hb3⟩
        have HB3 := hide (bel_on (bel_on (unhide HB) (unhide HB2)) hb3)
        clear hb3
        go_wp2
        go_roundw
        case rel => exact ⟨j + 1, by omega, by go_num, unhide HB3, T⟩
        case measure => simp [intOf]; omega
      · have U : Hid (decide (l = k) = false) := decide_eq_false ((unhide TU) he)
        have C2 := hide ((unhide C) false (decide_eq_false he))
        clear TS TU C he
        go_wp2_with fail
        refine (unhide C2).mono ?_
        rintro e w3 ⟨rfl, hb3⟩
        have HB3 := hide (bel_on (bel_on (unhide HB) (unhide HB2)) hb3)
        clear hb3
        go_wp2
        go_ret
        exact ⟨by rw [unhide U]; rfl, unhide HB3⟩
    · have U : Hid (decide (l = k) = true) := by
        have h := unhide A
        rw [List.take_of_length_le (by rw [unhide Z1]; omega), List.take_of_length_le (by rw [unhide Z2]; omega)] at h
        exact decide_eq_true h
      clear A hb
      go_wp2
      go_ret
      exact ⟨by rw [unhide U]; rfl, unhide HB⟩

set_option maxHeartbeats 400000 in
theorem eqOuts_lens (a b : Option Addr) (n m c d : Nat) (v : Value) (w : World) (h : n ≠ m) :
    Calls Try.prog 51 #[.slice a n c, .slice b m d, v] w fun e w' => e = .returned (.bool false) ∧ w = w' := by
  have g : ((n : Int) != (m : Int)) = true := by simp; omega
  clear h
  go_enter Try.func51, Try.ntmps51
  go_wp2
  go_ret
  exact ⟨rfl, rfl⟩
set_option maxHeartbeats 400000 in
theorem eqOuts_none (a b : Option Addr) (c d : Nat) (v : Value) (w : World) :
    Calls Try.prog 51 #[.slice a 0 c, .slice b 0 d, v] w fun e w' => e = .returned (.bool true) ∧ w = w' := by
  go_enter Try.func51, Try.ntmps51
  go_wp2
  refine wp_loop_rounds 1 ?_
  rw [rounds_succ]
  go_wp2
  go_ret
  exact ⟨rfl, rfl⟩

theorem reqOuts_is (a b : Option Addr) (n m c d : Nat) (l k : List OutD) (o : Bool) (w : World) (hn : n ≤ maxLen) (hA : OutsAt w a n l) (hB : OutsAt w b m k) (ho : decide (l = k) = o) :
    Calls Try.prog 51 #[.slice a n c, .slice b m d, .func (.func 52) #[] #[]] w fun e w' => e = .returned (.bool o) ∧ Below w.heap.size w w' := by
  by_cases h : n = m
  · subst h
    by_cases h0 : n = 0
    · subst h0
      have e1 : l = [] := List.length_eq_zero_iff.1 hA.1
      have e2 : k = [] := List.length_eq_zero_iff.1 hB.1
      subst e1 e2
      rw [decide_eq_true rfl] at ho
      subst ho
      exact (eqOuts_none a b c d _ w).mono fun e w' ⟨h1, h2⟩ => ⟨h1, h2 ▸ Below.refl _ _⟩
    · obtain ⟨b1, o1, rfl, _, h1⟩ := hA.2 (by omega)
      obtain ⟨b2, o2, rfl, _, h2⟩ := hB.2 (by omega)
      exact reqOuts_some b1 o1 b2 o2 n c d l k o w hn hA.1 hB.1 h1 h2 ho
  · have e : l ≠ k := fun e => h (by rw [← hA.1, ← hB.1, e])
    rw [decide_eq_false e] at ho
    subst ho
    exact (eqOuts_lens a b n m c d _ w h).mono fun e w' ⟨h1, h2⟩ => ⟨h1, h2 ▸ Below.refl _ _⟩

end Go.Proofs.Ytmkimohidepmnaa

/- The contract of the reference's SameTx. -/
namespace Go.Proofs.Ytmkimohidepmnaa
open Go.RowKit

theorem bel_draws (w : World) : Below w.heap.size w w.drew := ⟨rfl, rfl, rfl, Nat.le_refl _, fun _ _ => rfl⟩

set_option maxRecDepth 10000 in
set_option maxHeartbeats 6400000 in
theorem rsame_loop (h : Int) (b1 o1 b2 o2 n ci di : Nat) (ao bo : Option Addr) (no co mo eo : Nat) (I I' : List InD) (O O' : List OutD) (o : Bool) (w : World) (hn : n ≤ maxLen) (lo : no ≤ maxLen)
    (z1 : I.length = n) (z2 : I'.length = n) (hl1 : b1 < w.heap.size) (hl2 : b2 < w.heap.size) (h1 : ∀ i (h : i < I.length), InAt w b1 (o1 + i * 3) I[i]) (h2 : ∀ i (h : i < I'.length), InAt w b2 (o2 + i * 3) I'[i])
    (hO : OutsAt w ao no O) (hO' : OutsAt w bo mo O') (ho : (decide (I = I') && decide (O = O')) = o) :
    Calls Try.prog 37 #[.agg #[.int .i64 h, .slice (some ⟨b1, o1, none⟩) n ci, .slice ao no co], .agg #[.int .i64 h, .slice (some ⟨b2, o2, none⟩) n di, .slice bo mo eo]] w fun e w' => e = .returned (.bool o) ∧ Below w.heap.size w w' := by
  subst ho
  unfold maxLen at hn
  obtain ⟨W, hW⟩ : ∃ W, W = (w.alloc (.cells #[.int .i64 h, .slice (some ⟨b1, o1, none⟩) n ci, .slice ao no co] 71)).alloc (.cells #[.int .i64 h, .slice (some ⟨b2, o2, none⟩) n di, .slice bo mo eo] 71) := ⟨_, rfl⟩
  have hb1 := bel_new w (.cells #[.int .i64 h, .slice (some ⟨b1, o1, none⟩) n ci, .slice ao no co] 71)
  have hb2 := bel_new (w.alloc (.cells #[.int .i64 h, .slice (some ⟨b1, o1, none⟩) n ci, .slice ao no co] 71)) (.cells #[.int .i64 h, .slice (some ⟨b2, o2, none⟩) n di, .slice bo mo eo] 71)
  have hbW : Below w.heap.size w W := by rw [hW]; exact bel_on hb1 hb2
  have eW : (w.alloc (.cells #[.int .i64 h, .slice (some ⟨b1, o1, none⟩) n ci, .slice ao no co] 71)).heap.size = w.heap.size + 1 := by simp
  have c1 := three_new w (.int .i64 h) (.slice (some ⟨b1, o1, none⟩) n ci) (.slice ao no co) 71
  have c2 := three_new (w.alloc (.cells #[.int .i64 h, .slice (some ⟨b1, o1, none⟩) n ci, .slice ao no co] 71)) (.int .i64 h) (.slice (some ⟨b2, o2, none⟩) n di) (.slice bo mo eo) 71
  rw [eW] at c2
  have CT : Hid (W.cell? ⟨w.heap.size, 2, none⟩ = some (.slice ao no co)) := by rw [hW]; exact cell_later hb2 c1.2.2
  have CU : Hid (W.cell? ⟨w.heap.size + 1, 1, none⟩ = some (.slice (some ⟨b2, o2, none⟩) n di) ∧ W.cell? ⟨w.heap.size + 1, 2, none⟩ = some (.slice bo mo eo)) := by rw [hW]; exact ⟨c2.2.1, c2.2.2⟩
  have H1 : Hid (∀ i (h : i < I.length), InAt W b1 (o1 + i * 3) I[i]) := fun i hi => InAt.kept _ _ _ _ _ hbW (h1 i hi)
  have H2 : Hid (∀ i (h : i < I'.length), InAt W b2 (o2 + i * 3) I'[i]) := fun i hi => InAt.kept _ _ _ _ _ hbW (h2 i hi)
  have HO := hide (hO.later hbW)
  have HO' := hide (hO'.later hbW)
  have Z1 := hide z1
  have Z2 := hide z2
  have LO := hide lo
  have HBW := hide hbW
  have hlW : b1 < W.heap.size ∧ b2 < W.heap.size := ⟨Nat.lt_of_lt_of_le hl1 hbW.size, Nat.lt_of_lt_of_le hl2 hbW.size⟩
  have g0 : ((n : Int) != (n : Int)) = false := by simp
  clear h1 h2 z1 z2 hO hO' hb1 hb2 hbW c1 c2 eW lo
  go_enter Try.func37, Try.ntmps37
  go_wp2
  rw [← hW]
  clear hW
  go_loopw [24] (fun i wr => ∃ j : Nat, j ≤ n ∧ i = .int .i64 j ∧ Below W.heap.size W wr ∧ Hid (I.take j = I'.take j)) (fun i _ => n - (intOf i).toNat)
  case atStart => exact ⟨0, Nat.zero_le _, rfl, Below.refl _ _, rfl⟩
  case round =>
    obtain ⟨j, hk, rfl, hb, A⟩ := hrel
    have HB := hide hb
    by_cases hlt : j < n
    · have hl1 : j < I.length := by rw [unhide Z1]; exact hlt
      have hl2 : j < I'.length := by rw [unhide Z2]; exact hlt
      have g := InAt.kept _ _ _ _ _ hb ((unhide H1) j hl1)
      have f := InAt.kept _ _ _ _ _ hb ((unhide H2) j hl2)
      have TS := hide (take_same hl1 hl2 (unhide A))
      have TU := hide (take_unlike hl1 hl2)
      obtain ⟨q, hq⟩ : ∃ q, I[j] = q := ⟨_, rfl⟩
      obtain ⟨r, hr⟩ : ∃ r, I'[j] = r := ⟨_, rfl⟩
      rw [hq] at g
      rw [hr] at f
      rw [hq, hr] at TS TU
      obtain ⟨g1, g2, qa, qn, qc, g3, g4, g5⟩ := g
      obtain ⟨f1, f2, ra, rn, rc, f3, f4, _⟩ := f
      obtain ⟨q1, q2, qk⟩ := q
      obtain ⟨r1, r2, rk⟩ := r
      simp only at g1 g2 g3 g4 f1 f2 f3 f4
      obtain ⟨X, hX⟩ : ∃ X, X = wr.alloc (.cells #[.int .i64 q1, .int .i64 q2, .slice qa qn qc] 89) := ⟨_, rfl⟩
      have hbX : Below wr.heap.size wr X := by rw [hX]; exact bel_new _ _
      have cx := three_new wr (.int .i64 q1) (.int .i64 q2) (.slice qa qn qc) 89
      rw [← hX] at cx
      obtain ⟨x0, x1, x2⟩ := cx
      have u1 := cell_later hbX (cell_later hb (unhide CU).1)
      have y0 := cell_later hbX f1
      have y1 := cell_later hbX f2
      have y2 := cell_later hbX f3
      have EQ : Hid (∀ o w', Below X.heap.size X w' → decide (qk = rk) = o → Calls Try.prog 50 #[.slice qa qn qc, .slice ra rn rc] w' fun e w'' => e = .returned (.bool o) ∧ Below w'.heap.size w' w'') := fun o w' hw' hoo =>
        eqOps_is qa ra qn rn qc rc qk rk o w' g5.len ((g4.later hbX).later hw') ((f4.later hbX).later hw') hoo
      have HBX := hide (bel_on hb hbX)
      have hj0 : (0 : Int) ≤ (j : Int) := Int.natCast_nonneg _
      have hj1 : (j : Int) < (n : Int) := by omega
      clear hq hr A g4 f4 g5 hb hbX f1 f2 f3
      by_cases e1 : q1 = r1
      · subst e1
        by_cases e2 : q2 = r2
        · subst e2
          by_cases hk2 : qk = rk
          · have T := hide ((unhide TS) (by rw [hk2]))
            have C := hide (fun w' hw' => (unhide EQ) true w' hw' (decide_eq_true hk2))
            clear TS TU EQ hk2
            go_wp2_with fail
            rw [← hX]
            clear hX
            go_region_held3 (fun w' => Below X.heap.size X w' ∧ w'.cell? ⟨wr.heap.size, 0, none⟩ = some (.int .i64 q1) ∧ w'.cell? ⟨wr.heap.size, 1, none⟩ = some (.int .i64 q2) ∧ w'.cell? ⟨wr.heap.size, 2, none⟩ = some (.slice qa qn qc) ∧ w'.cell? ⟨w.heap.size + 1, 1, none⟩ = some (.slice (some ⟨b2, o2, none⟩) n di) ∧ w'.cell? ⟨b2, o2 + j * 3, none⟩ = some (.int .i64 q1) ∧ w'.cell? ⟨b2, o2 + j * 3 + 1, none⟩ = some (.int .i64 q2) ∧ w'.cell? ⟨b2, o2 + j * 3 + 2, none⟩ = some (.slice ra rn rc))
              (first
              | exact ⟨bel_draws _, x0, x1, x2, u1, y0, y1, y2⟩
              | (go_split_ands
                 refine ⟨bel_on (by assumption) hbc, cell_later hbc (by assumption), cell_later hbc (by assumption), cell_later hbc (by assumption), cell_later hbc (by assumption), cell_later hbc (by assumption), cell_later hbc (by assumption), cell_later hbc (by assumption)⟩))
              (first | (go_at_call 50; go_split_ands; refine ((unhide C) _ (by assumption)).mono ?_; rintro e w' ⟨rfl, hbc⟩))
            rename_i hH
            have HH := hide (bel_on (unhide HBX) hH.1)
            clear hH
            go_wp2
            go_roundw
            case rel => exact ⟨j + 1, by omega, by go_num, unhide HH, T⟩
            case measure => simp [intOf]; omega
          · have U : Hid ((decide (I = I') && decide (O = O')) = false) := by show _ = _; rw [decide_eq_false ((unhide TU) (fun e => hk2 (by injection e with _ e; injection e)))]; rfl
            have C := hide (fun w' hw' => (unhide EQ) false w' hw' (decide_eq_false hk2))
            clear TS TU EQ hk2
            go_wp2_with fail
            rw [← hX]
            clear hX
            go_region_held3 (fun w' => Below X.heap.size X w' ∧ w'.cell? ⟨wr.heap.size, 0, none⟩ = some (.int .i64 q1) ∧ w'.cell? ⟨wr.heap.size, 1, none⟩ = some (.int .i64 q2) ∧ w'.cell? ⟨wr.heap.size, 2, none⟩ = some (.slice qa qn qc) ∧ w'.cell? ⟨w.heap.size + 1, 1, none⟩ = some (.slice (some ⟨b2, o2, none⟩) n di) ∧ w'.cell? ⟨b2, o2 + j * 3, none⟩ = some (.int .i64 q1) ∧ w'.cell? ⟨b2, o2 + j * 3 + 1, none⟩ = some (.int .i64 q2) ∧ w'.cell? ⟨b2, o2 + j * 3 + 2, none⟩ = some (.slice ra rn rc))
              (first
              | exact ⟨bel_draws _, x0, x1, x2, u1, y0, y1, y2⟩
              | (go_split_ands
                 refine ⟨bel_on (by assumption) hbc, cell_later hbc (by assumption), cell_later hbc (by assumption), cell_later hbc (by assumption), cell_later hbc (by assumption), cell_later hbc (by assumption), cell_later hbc (by assumption), cell_later hbc (by assumption)⟩))
              (first | (go_at_call 50; go_split_ands; refine ((unhide C) _ (by assumption)).mono ?_; rintro e w' ⟨rfl, hbc⟩))
            rename_i hH
            have HH := hide (bel_on (unhide HBX) hH.1)
            clear hH
            go_wp2
            go_ret
            exact ⟨by rw [unhide U]; rfl, bel_on (unhide HBW) (unhide HH)⟩
        · have U : Hid ((decide (I = I') && decide (O = O')) = false) := by show _ = _; rw [decide_eq_false ((unhide TU) (fun e => e2 (by injection e with _ e; injection e)))]; rfl
          clear TS TU EQ
          go_wp2_with fail
          rw [← hX]
          clear hX
          go_quiet (fail)
          go_wp2
          go_ret
          exact ⟨by rw [unhide U]; rfl, bel_on (unhide HBW) (bel_on (unhide HBX) (below_dw _ _))⟩
      · have U : Hid ((decide (I = I') && decide (O = O')) = false) := by show _ = _; rw [decide_eq_false ((unhide TU) (fun e => e1 (by injection e)))]; rfl
        clear TS TU EQ
        go_wp2_with fail
        rw [← hX]
        clear hX
        go_quiet (fail)
        go_wp2
        go_ret
        exact ⟨by rw [unhide U]; rfl, bel_on (unhide HBW) (bel_on (unhide HBX) (below_dw _ _))⟩
    · have AE : Hid (decide (I = I') = true) := by
        have h := unhide A
        rw [List.take_of_length_le (by rw [unhide Z1]; omega), List.take_of_length_le (by rw [unhide Z2]; omega)] at h
        exact decide_eq_true h
      have t2 := cell_later hb (unhide CT)
      have u2 := cell_later hb (unhide CU).2
      have lu : w.heap.size + 1 < wr.heap.size := World.block_lt_of_cell? _ _ u2
      obtain ⟨oo, hoo⟩ : ∃ oo, decide (O = O') = oo := ⟨_, rfl⟩
      have EO := hide (reqOuts_is ao bo no mo co eo O O' oo wr (unhide LO) ((unhide HO).later hb) ((unhide HO').later hb) hoo)
      have U : Hid ((decide (I = I') && decide (O = O')) = oo) := by show _ = _; rw [unhide AE, hoo]; rfl
      clear A hb hoo
      go_wp2_with fail
      refine (unhide EO).mono ?_
      rintro e w9 ⟨rfl, hb9⟩
      have HB9 := hide (bel_on (bel_on (unhide HBW) (unhide HB)) hb9)
      clear hb9
      go_wp2
      go_ret
      exact ⟨by rw [unhide U]; rfl, unhide HB9⟩

end Go.Proofs.Ytmkimohidepmnaa

/- The contract of the reference's SameTx, whatever the two transactions. -/
namespace Go.Proofs.Ytmkimohidepmnaa
open Go.RowKit

set_option maxRecDepth 10000 in
set_option maxHeartbeats 3200000 in
theorem rsameTx_is (h h' : Int) (ai ao bi bo : Option Addr) (ni ci no co mi di mo eo : Nat) (I I' : List InD) (O O' : List OutD) (o : Bool) (w : World) (li : ni ≤ maxLen) (lo : no ≤ maxLen)
    (hI : InsAt w ai ni I) (hO : OutsAt w ao no O) (hI' : InsAt w bi mi I') (hO' : OutsAt w bo mo O') (ho : sameT (h, I, O) (h', I', O') = o) :
    Calls Try.prog 37 #[.agg #[.int .i64 h, .slice ai ni ci, .slice ao no co], .agg #[.int .i64 h', .slice bi mi di, .slice bo mo eo]] w fun e w' => e = .returned (.bool o) ∧ Below w.heap.size w w' := by
  have hb1 := bel_new w (.cells #[.int .i64 h, .slice ai ni ci, .slice ao no co] 71)
  have hb2 := bel_new (w.alloc (.cells #[.int .i64 h, .slice ai ni ci, .slice ao no co] 71)) (.cells #[.int .i64 h', .slice bi mi di, .slice bo mo eo] 71)
  have hb := bel_on hb1 hb2
  have HB := hide hb
  by_cases h1 : h = h'
  · subst h1
    have ho2 : (decide (I = I') && decide (O = O')) = o := by rw [← ho]; unfold sameT; simp
    by_cases h2 : ni = mi
    · subst h2
      by_cases h0 : ni = 0
      · subst h0
        have e1 : I = [] := List.length_eq_zero_iff.1 hI.1
        have e2 : I' = [] := List.length_eq_zero_iff.1 hI'.1
        have hoo : decide (O = O') = o := by rw [← ho2, e1, e2]; simp
        have EO := hide (reqOuts_is ao bo no mo co eo O O' o _ lo (hO.later hb) (hO'.later hb) hoo)
        clear ho ho2 hI hI' hO hO' hb hb1 hb2 e1 e2 hoo
        go_enter Try.func37, Try.ntmps37
        go_wp2
        refine wp_loop_rounds 1 ?_
        rw [rounds_succ]
        go_wp2_with fail
        refine (unhide EO).mono ?_
        rintro e w9 ⟨rfl, hb9⟩
        have HB9 := hide (bel_on (unhide HB) hb9)
        clear hb9
        go_wp2
        go_ret
        exact ⟨rfl, unhide HB9⟩
      · obtain ⟨b1, o1, rfl, l1, c1⟩ := hI.2 (by omega)
        obtain ⟨b2, o2, rfl, l2, c2⟩ := hI'.2 (by omega)
        exact rsame_loop h b1 o1 b2 o2 ni ci di ao bo no co mo eo I I' O O' o w li lo hI.1 hI'.1 l1 l2 c1 c2 hO hO' ho2
    · have e : o = false := by
        rw [← ho2, decide_eq_false (fun e => h2 (by rw [← hI.1, ← hI'.1, e]))]; rfl
      subst e
      have g : ((ni : Int) != (mi : Int)) = true := by simp; omega
      clear ho ho2 hI hI' hO hO' hb hb1 hb2 h2
      go_enter Try.func37, Try.ntmps37
      go_wp2
      go_ret
      exact ⟨rfl, unhide HB⟩
  · have e : o = false := by rw [← ho]; unfold sameT; simp [h1]
    subst e
    have g : (h != h') = true := by simp [h1]
    clear ho hI hI' hO hO' hb hb1 hb2
    go_enter Try.func37, Try.ntmps37
    go_wp2
    go_ret
    exact ⟨rfl, unhide HB⟩

end Go.Proofs.Ytmkimohidepmnaa
