/- Contracts of the reference's CheckCoins: it answers as the program's Check. -/
import Derived.Test.YtepmnpapdknocaaGreatDoorRefCheck
import Derived.Test.YtepmnpapdknocaaGreatDoorCoinCheckB
namespace Go.Proofs.YtepmnpapdknocaaGreatDoor
open Go.RowKit

/-- The ways of one coin. -/
theorem okC_ways (x1 x2 v : Int) (lk : List (Int × Int)) (hh : Int) (rr : Bool) :
    (okC (x1, x2, v, lk, hh, rr) = false ∧ (x1 < 1 ∨ ¬ x1 < 1 ∧ 120 < x1 ∨ ¬ x1 < 1 ∧ ¬ 120 < x1 ∧ x2 < 0 ∨ ¬ x1 < 1 ∧ ¬ 120 < x1 ∧ ¬ x2 < 0 ∧ 5 < x2 ∨ ¬ x1 < 1 ∧ ¬ 120 < x1 ∧ ¬ x2 < 0 ∧ ¬ 5 < x2 ∧ v < 1 ∨ ¬ x1 < 1 ∧ ¬ 120 < x1 ∧ ¬ x2 < 0 ∧ ¬ 5 < x2 ∧ ¬ v < 1 ∧ 1000000000 < v ∨
      ¬ x1 < 1 ∧ ¬ 120 < x1 ∧ ¬ x2 < 0 ∧ ¬ 5 < x2 ∧ ¬ v < 1 ∧ ¬ 1000000000 < v ∧ hh < 1 ∨ ¬ x1 < 1 ∧ ¬ 120 < x1 ∧ ¬ x2 < 0 ∧ ¬ 5 < x2 ∧ ¬ v < 1 ∧ ¬ 1000000000 < v ∧ ¬ hh < 1 ∧ 1000 < hh)) ∨
    (okC (x1, x2, v, lk, hh, rr) = true ∧ ¬ x1 < 1 ∧ ¬ 120 < x1 ∧ ¬ x2 < 0 ∧ ¬ 5 < x2 ∧ ¬ v < 1 ∧ ¬ 1000000000 < v ∧ ¬ hh < 1 ∧ ¬ 1000 < hh) := by
  have e : okC (x1, x2, v, lk, hh, rr) = true ↔ ((1 ≤ x1 ∧ x1 ≤ 120) ∧ (0 ≤ x2 ∧ x2 ≤ 5)) ∧ (1 ≤ v ∧ v ≤ 1000000000) ∧ (1 ≤ hh ∧ hh ≤ 1000) := by
    unfold okC okPt okV okH pt cv ch
    rw [Bool.and_eq_true, Bool.and_eq_true, Bool.and_eq_true, Bool.and_eq_true, Bool.and_eq_true, Bool.and_eq_true, Bool.and_eq_true]
    exact ⟨fun ⟨⟨⟨a, b⟩, c, d⟩, ⟨e, f⟩, g, h⟩ => ⟨⟨⟨of_decide_eq_true a, of_decide_eq_true b⟩, of_decide_eq_true c, of_decide_eq_true d⟩, ⟨of_decide_eq_true e, of_decide_eq_true f⟩, of_decide_eq_true g, of_decide_eq_true h⟩,
      fun ⟨⟨⟨a, b⟩, c, d⟩, ⟨e, f⟩, g, h⟩ => ⟨⟨⟨decide_eq_true a, decide_eq_true b⟩, decide_eq_true c, decide_eq_true d⟩, ⟨decide_eq_true e, decide_eq_true f⟩, decide_eq_true g, decide_eq_true h⟩⟩
  cases q : okC (x1, x2, v, lk, hh, rr) with
  | true =>
    have := e.1 q
    refine .inr ⟨rfl, ?_⟩
    omega
  | false =>
    have : ¬ (((1 ≤ x1 ∧ x1 ≤ 120) ∧ (0 ≤ x2 ∧ x2 ≤ 5)) ∧ (1 ≤ v ∧ v ≤ 1000000000) ∧ (1 ≤ hh ∧ hh ≤ 1000)) := fun h => by rw [e.2 h] at q; cases q
    refine .inl ⟨rfl, ?_⟩
    omega

set_option maxHeartbeats 800000 in
theorem before_is (p q : PtD) (o : Bool) (w : World) (ho : lt p q = o) :
    Calls Tryz.prog 40 #[.agg #[.int .i64 p.1, .int .i64 p.2], .agg #[.int .i64 q.1, .int .i64 q.2]] w fun e w' => e = .returned (.bool o) ∧ Below w.heap.size w w' := by
  subst ho
  obtain ⟨p1, p2⟩ := p
  obtain ⟨q1, q2⟩ := q
  simp only
  have HB := hide (bel_on (bel_new w (.cells #[.int .i64 p1, .int .i64 p2] 86)) (bel_new _ (.cells #[.int .i64 q1, .int .i64 q2] 86)))
  by_cases e1 : p1 < q1
  · have R : Hid (lt (p1, p2) (q1, q2) = true) := (lt_iff _ _).2 (.inl e1)
    go_enter Tryz.func40, Tryz.ntmps40
    go_wp2
    go_ret
    exact ⟨by rw [unhide R]; rfl, unhide HB⟩
  · by_cases e2 : p1 = q1
    · subst e2
      clear e1
      by_cases e3 : p2 < q2
      · have R : Hid (lt (p1, p2) (p1, q2) = true) := (lt_iff _ _).2 (.inr ⟨rfl, e3⟩)
        go_enter Tryz.func40, Tryz.ntmps40
        go_wp2
        go_ret
        exact ⟨by rw [unhide R]; rfl, unhide HB⟩
      · have R : Hid (lt (p1, p2) (p1, q2) = false) := by
          show _ = _
          rw [← Bool.not_eq_true, lt_iff]
          rintro (h | ⟨_, h⟩)
          · simp at h
          · exact e3 h
        go_enter Tryz.func40, Tryz.ntmps40
        go_wp2
        go_ret
        exact ⟨by rw [unhide R]; rfl, unhide HB⟩
    · have R : Hid (lt (p1, p2) (q1, q2) = false) := by
        show _ = _
        rw [← Bool.not_eq_true, lt_iff]
        rintro (h | ⟨h, _⟩)
        · exact e1 h
        · exact e2 h
      have g2 : (p1 == q1) = false := by simp [e2]
      clear e2
      go_enter Tryz.func40, Tryz.ntmps40
      go_wp2
      go_ret
      exact ⟨by rw [unhide R]; rfl, unhide HB⟩

set_option maxRecDepth 10000 in
set_option maxHeartbeats 6400000 in
theorem rCoins_some (b off n c : Nat) (L : List CoinD) (w : World) (hn : n ≤ 720) (hz : L.length = n) (hc : ∀ i (h : i < L.length), CoinAt w b (off + i * 6) L[i]) :
    Calls Tryz.prog 14 #[.slice (some ⟨b, off, none⟩) n c] w fun e w' => e = .returned (.int .i64 (ckGo none 0 L)) ∧ Below w.heap.size w w' := by
  have HC := hide hc
  have HZ := hide hz
  clear hc hz
  go_enter Tryz.func14, Tryz.ntmps14
  go_wp2
  go_loopw [3, 12] (fun sv i wr => ∃ (k : Nat) (S : Int), k ≤ n ∧ i = .int .i64 k ∧ sv = .int .i64 S ∧ 0 ≤ S ∧ S ≤ 1000000000 ∧ Hid (ckGo none 0 L = ckGo (prevP L k) S (L.drop k)) ∧ Below w.heap.size w wr) (fun _ i _ => n - (intOf i).toNat)
  case atStart => exact ⟨0, 0, Nat.zero_le _, rfl, rfl, by decide, by decide, rfl, Below.refl _ _⟩
  case round =>
    obtain ⟨k, S, hk, rfl, rfl, hS0, hS1, A, hb⟩ := hrel
    have HB := hide hb
    by_cases hlt : k < n
    · have hlk : k < L.length := by rw [unhide HZ]; exact hlt
      have hin := CoinAt.kept _ _ _ _ _ hb ((unhide HC) k hlk)
      have ST := hide (ckGo_at L k hlk (prevP L k) S)
      have HL : Hid (∀ j, k = j + 1 → ∃ q, prevP L k = some (pt q) ∧ CoinAt wr b (off + j * 6) q) := fun j hj => by
        have hj2 : j < L.length := by omega
        exact ⟨L[j], by rw [hj]; exact prevP_succ L j hj2, CoinAt.kept _ _ _ _ _ hb ((unhide HC) j hj2)⟩
      have HN : Hid (k + 1 ≤ L.length → prevP L (k + 1) = some (pt L[k])) := fun _ => prevP_succ L k hlk
      obtain ⟨x, hx⟩ : ∃ x, L[k] = x := ⟨_, rfl⟩
      rw [hx] at hin ST HN
      have A2 : Hid (ckGo none 0 L = if ck1 x ≠ 0 then ck1 x else if above (prevP L k) x = false then 6 else if 1000000000 < S + cv x then 12 else ckGo (some (pt x)) (S + cv x) (L.drop (k + 1))) := by show _ = _; rw [unhide A, unhide ST]
      have PN : Hid (prevP L (k + 1) = some (pt x)) := (unhide HN) hlk
      obtain ⟨x1, x2, v, lk, hh, rr⟩ := x
      obtain ⟨a, m, d, g1, g2, g3, g4, g5, g6, hO, _⟩ := hin.val
      simp only [cv, ck, ch, cr] at g1 g2 g3 g4 g5 g6 hO A2
      obtain ⟨X, hX⟩ : ∃ X, X = wr.alloc (.cells #[.int .i64 x1, .int .i64 x2, .int .i64 v, .slice a m d, .int .i64 hh, .bool rr] 88) := ⟨_, rfl⟩
      obtain ⟨n0, n1, n2, n3, n4, n5⟩ := six_new wr (.int .i64 x1) (.int .i64 x2) (.int .i64 v) (.slice a m d) (.int .i64 hh) (.bool rr) 88
      rw [← hX] at n0 n1 n2 n3 n4 n5
      have hbX : Below wr.heap.size wr X := by rw [hX]; exact bel_new _ _
      have hsX : wr.heap.size < X.heap.size := World.block_lt_of_cell? _ _ n0
      have HBX := hide hbX
      have HO := hide (hO.later hbX)
      have N0 := hide n0
      have N1 := hide n1
      have N2 := hide n2
      have HX := hide hX
      rcases okC_ways x1 x2 v lk hh rr with ⟨q0, qq⟩ | ⟨q0, q1, q2, q3, q4, q5, q6, q7, q8⟩
      · have R : Hid (ckGo none 0 L = 3) := by
          have e : ck1 (x1, x2, v, lk, hh, rr) = 3 := by unfold ck1; rw [if_pos q0]
          show _ = _
          rw [unhide A2, e]; rfl
        have HBF := hide (bel_on (unhide HB) (unhide HBX))
        clear A A2 ST HN HL PN hx hin hO hb hX q0 HO N0 N1 N2 HBX
        rcases qq with qq | qq | qq | qq | qq | qq | qq | qq
        all_goals
          try obtain ⟨q1, qq⟩ := qq
          try obtain ⟨q2, qq⟩ := qq
          try obtain ⟨q3, qq⟩ := qq
          try obtain ⟨q4, qq⟩ := qq
          try obtain ⟨q5, qq⟩ := qq
          try obtain ⟨q6, qq⟩ := qq
          try obtain ⟨q7, qq⟩ := qq
          go_wp2_with fail
          rw [← unhide HX]
          go_wp2
          go_ret
          exact ⟨by rw [unhide R]; rfl, unhide HBF⟩
      have hck : ck1 (x1, x2, v, lk, hh, rr) = chk lk := by unfold ck1; rw [if_neg (by rw [q0]; decide)]; rfl
      rw [hck] at A2
      obtain ⟨z, hz⟩ : ∃ z, chk lk = z := ⟨_, rfl⟩
      have C1 := hide (rcheck_any a m d lk X (unhide HO))
      rw [hz] at A2 C1
      clear hck
      by_cases hz0 : z = 0
      · subst hz0
        have A3 : Hid (ckGo none 0 L = if above (prevP L k) (x1, x2, v, lk, hh, rr) = false then 6 else if 1000000000 < S + v then 12 else ckGo (some (pt (x1, x2, v, lk, hh, rr))) (S + v) (L.drop (k + 1))) := by
          have h := unhide A2
          rw [if_neg (by decide)] at h
          exact h
        clear A A2 ST HN hx hin hO hb hz hX q0
        by_cases hk0 : k = 0
        · have A4 : Hid (ckGo none 0 L = if 1000000000 < S + v then 12 else ckGo (some (pt (x1, x2, v, lk, hh, rr))) (S + v) (L.drop (k + 1))) := by
            have h := unhide A3
            rw [hk0] at h
            rw [if_neg (by show ¬ true = false; decide)] at h
            rw [hk0]
            exact h
          clear A3 HL
          have hg : decide ((0 : Int) < (k : Int)) = false := by rw [hk0]; decide
          have hg2 : decide (0 < k) = false := by rw [hk0]; decide
          clear hk0
          go_wp2_with fail
          rw [← unhide HX]
          go_wp2_with fail
          refine (unhide C1).mono ?_
          rintro e w2 ⟨rfl, hb2⟩
          have m2 := cell_later hb2 (unhide N2)
          have hs2 : wr.heap.size < w2.heap.size := World.block_lt_of_cell? _ _ m2
          have HB2 := hide (bel_on (bel_on (unhide HB) (unhide HBX)) hb2)
          clear hb2
          go_wp2_with fail
          go_quiet (fail)
          by_cases hf : 1000000000 < S + v
          · have R : Hid (ckGo none 0 L = 12) := by show _ = _; rw [unhide A4, if_pos hf]
            clear A4
            go_wp2
            go_ret
            exact ⟨by rw [unhide R]; rfl, bel_on (unhide HB2) (bel_dw _ _)⟩
          · have R : Hid (ckGo none 0 L = ckGo (prevP L (k + 1)) (S + v) (L.drop (k + 1))) := by show _ = _; rw [unhide A4, if_neg hf, unhide PN]
            clear A4
            go_wp2
            go_roundw
            case rel => exact ⟨k + 1, S + v, by omega, by go_num, rfl, by omega, by omega, R, bel_on (unhide HB2) (bel_dw _ _)⟩
            case measure => simp [intOf]; omega
        · obtain ⟨j, rfl⟩ : ∃ j, k = j + 1 := ⟨k - 1, by omega⟩
          obtain ⟨q, hq, hqa⟩ := (unhide HL) j rfl
          obtain ⟨_, _, _, q1, q2, _, _, _, _, _, _⟩ := hqa.val
          have A5 : Hid (ckGo none 0 L = if lt (pt q) (pt (x1, x2, v, lk, hh, rr)) = false then 6 else if 1000000000 < S + v then 12 else ckGo (some (pt (x1, x2, v, lk, hh, rr))) (S + v) (L.drop (j + 1 + 1))) := by
            have h := unhide A3
            rw [hq] at h
            exact h
          have Q1 := hide (cell_later hbX q1)
          have Q2 := hide (cell_later hbX q2)
          have G : Hid (decide ((0 : Int) < ((j + 1 : Nat) : Int)) = true) := by show _ = _; simp
          have hj1 : (j : Int) < (n : Int) := by omega
          have hw2 : IntKind.i64.wrap (j : Int) = (j : Int) := by rw [IntKind.wrap_i64]; omega
          have hw3 : IntKind.i64.wrap ((j : Int) + 1 - 1) = (j : Int) := by rw [IntKind.wrap_i64]; omega
          have hj2 : j < n := by omega
          have hj0 : (0 : Int) ≤ (j : Int) := by omega
          have hw1 : IntKind.i64.wrap (((j + 1 : Nat) : Int) - 1) = (j : Int) := by rw [IntKind.wrap_i64]; omega
          clear A3 HL hk0 hq hqa q1 q2
          cases hl : lt (pt q) (pt (x1, x2, v, lk, hh, rr)) with
          | false =>
            have R : Hid (ckGo none 0 L = 6) := by show _ = _; rw [unhide A5, if_pos hl]
            have CC := hide (fun w => before_is (pt q) (pt (x1, x2, v, lk, hh, rr)) false w hl)
            unfold pt at CC
            simp only at CC
            clear A5 hl
            go_wp2_with fail
            rw [← unhide HX]
            go_wp2_with fail
            refine (unhide C1).mono ?_
            rintro e w2 ⟨rfl, hb2⟩
            have m0 := cell_later hb2 (unhide N0)
            have m1 := cell_later hb2 (unhide N1)
            have p0 := cell_later hb2 (unhide Q1)
            have p1 := cell_later hb2 (unhide Q2)
            have hs2 : wr.heap.size < w2.heap.size := World.block_lt_of_cell? _ _ m0
            have HB2 := hide (bel_on (bel_on (unhide HB) (unhide HBX)) hb2)
            clear hb2 n0 n1 n2 g1 g2 g3 g4 g5 g6
            have hG := unhide G
            go_wp2_with fail
            go_region_held3 (fun w' => Below w2.heap.size w2 w' ∧ w'.cell? ⟨wr.heap.size, 0, none⟩ = some (.int .i64 x1) ∧ w'.cell? ⟨wr.heap.size, 1, none⟩ = some (.int .i64 x2) ∧ w'.cell? ⟨b, off + j * 6, none⟩ = some (.int .i64 q.1) ∧ w'.cell? ⟨b, off + j * 6 + 1, none⟩ = some (.int .i64 q.2.1))
              (first
              | exact ⟨bel_draw1 _, m0, m1, p0, p1⟩
              | (go_split_ands
                 refine ⟨bel_on (by assumption) hbc, cell_later hbc (by assumption), cell_later hbc (by assumption), cell_later hbc (by assumption), cell_later hbc (by assumption)⟩))
              (first | (go_at_call 40; refine ((unhide CC) _).mono ?_; rintro e w' ⟨rfl, hbc⟩))
            rename_i hH
            have HH := hide (bel_on (unhide HB2) hH.1)
            clear hH
            go_wp2
            go_ret
            exact ⟨by rw [unhide R]; rfl, unhide HH⟩
          | true =>
            have A4 : Hid (ckGo none 0 L = if 1000000000 < S + v then 12 else ckGo (some (pt (x1, x2, v, lk, hh, rr))) (S + v) (L.drop (j + 1 + 1))) := by
              have h := unhide A5
              rw [if_neg (by rw [hl]; decide)] at h
              exact h
            have CC := hide (fun w => before_is (pt q) (pt (x1, x2, v, lk, hh, rr)) true w hl)
            unfold pt at CC
            simp only at CC
            clear A5 hl
            go_wp2_with fail
            rw [← unhide HX]
            go_wp2_with fail
            refine (unhide C1).mono ?_
            rintro e w2 ⟨rfl, hb2⟩
            have m0 := cell_later hb2 (unhide N0)
            have m1 := cell_later hb2 (unhide N1)
            have M2 := hide (cell_later hb2 (unhide N2))
            have p0 := cell_later hb2 (unhide Q1)
            have p1 := cell_later hb2 (unhide Q2)
            have hs2 : wr.heap.size < w2.heap.size := World.block_lt_of_cell? _ _ m0
            have HB2 := hide (bel_on (bel_on (unhide HB) (unhide HBX)) hb2)
            clear hb2 n0 n1 n2 g1 g2 g3 g4 g5 g6
            have hG := unhide G
            go_wp2_with fail
            go_region_held3 (fun w' => Below w2.heap.size w2 w' ∧ w'.cell? ⟨wr.heap.size, 0, none⟩ = some (.int .i64 x1) ∧ w'.cell? ⟨wr.heap.size, 1, none⟩ = some (.int .i64 x2) ∧ w'.cell? ⟨b, off + j * 6, none⟩ = some (.int .i64 q.1) ∧ w'.cell? ⟨b, off + j * 6 + 1, none⟩ = some (.int .i64 q.2.1))
              (first
              | exact ⟨bel_draw1 _, m0, m1, p0, p1⟩
              | (go_split_ands
                 refine ⟨bel_on (by assumption) hbc, cell_later hbc (by assumption), cell_later hbc (by assumption), cell_later hbc (by assumption), cell_later hbc (by assumption)⟩))
              (first | (go_at_call 40; refine ((unhide CC) _).mono ?_; rintro e w' ⟨rfl, hbc⟩))
            rename_i hH
            have HH := hide (bel_on (unhide HB2) hH.1)
            have m2 := cell_later hH.1 (unhide M2)
            have hs3 := World.block_lt_of_cell? _ _ m2
            clear hH
            by_cases hf : 1000000000 < S + v
            · have R : Hid (ckGo none 0 L = 12) := by show _ = _; rw [unhide A4, if_pos hf]
              clear A4
              go_wp2
              go_ret
              exact ⟨by rw [unhide R]; rfl, unhide HH⟩
            · have R : Hid (ckGo none 0 L = ckGo (prevP L (j + 1 + 1)) (S + v) (L.drop (j + 1 + 1))) := by show _ = _; rw [unhide A4, if_neg hf, unhide PN]
              clear A4
              go_wp2
              go_roundw
              case rel => exact ⟨j + 1 + 1, S + v, by omega, by go_num, rfl, by omega, by omega, R, unhide HH⟩
              case measure => simp [intOf]; omega
      · have R : Hid (ckGo none 0 L = z) := by show _ = _; rw [unhide A2, if_pos hz0]
        have gz : (z != 0) = true := by simp [hz0]
        clear A A2 ST HN HL PN hx hin hO hb hz hX hz0 q0
        go_wp2_with fail
        rw [← unhide HX]
        go_wp2_with fail
        refine (unhide C1).mono ?_
        rintro e w2 ⟨rfl, hb2⟩
        have HB2 := hide (bel_on (bel_on (unhide HB) (unhide HBX)) hb2)
        clear hb2
        go_wp2
        go_ret
        exact ⟨by rw [unhide R]; rfl, unhide HB2⟩
    · have R : Hid (ckGo none 0 L = 0) := by show _ = _; rw [unhide A, ckGo_end L k (by rw [unhide HZ]; omega)]
      clear A hb
      go_wp2
      go_ret
      exact ⟨by rw [unhide R]; rfl, unhide HB⟩

set_option maxHeartbeats 400000 in
theorem rCoins_many (a : Option Addr) (n c : Nat) (w : World) (h : 720 < n) :
    Calls Tryz.prog 14 #[.slice a n c] w fun e w' => e = .returned (.int .i64 2) ∧ w = w' := by
  go_enter Tryz.func14, Tryz.ntmps14
  go_wp2
  go_ret
  exact ⟨rfl, rfl⟩

set_option maxHeartbeats 400000 in
theorem rCoins_none (a : Option Addr) (c : Nat) (w : World) :
    Calls Tryz.prog 14 #[.slice a 0 c] w fun e w' => e = .returned (.int .i64 0) ∧ w = w' := by
  go_enter Tryz.func14, Tryz.ntmps14
  go_wp2
  refine wp_loop_rounds 1 ?_
  rw [rounds_succ]
  go_wp2
  go_ret
  exact ⟨rfl, rfl⟩

theorem rCoins_any (a : Option Addr) (n c : Nat) (L : List CoinD) (z : Int) (w : World) (h : CoinsAt w a n L) (hz : ckCoins L = z) :
    Calls Tryz.prog 14 #[.slice a n c] w fun e w' => e = .returned (.int .i64 z) ∧ Below w.heap.size w w' := by
  subst hz
  obtain ⟨hl, hc⟩ := h
  unfold ckCoins
  rw [hl]
  by_cases h1 : 720 < n
  · rw [if_pos h1]
    exact (rCoins_many a n c w h1).mono fun e w' ⟨x, y⟩ => ⟨x, y ▸ Below.refl _ _⟩
  · rw [if_neg h1]
    by_cases h2 : n = 0
    · subst h2
      have e : L = [] := List.length_eq_zero_iff.1 hl
      subst e
      exact (rCoins_none a c w).mono fun e w' ⟨x, y⟩ => ⟨x, y ▸ Below.refl _ _⟩
    · obtain ⟨b, off, rfl, _, hcell⟩ := hc (by omega)
      exact rCoins_some b off n c L w (by omega) hl hcell

end Go.Proofs.YtepmnpapdknocaaGreatDoor
