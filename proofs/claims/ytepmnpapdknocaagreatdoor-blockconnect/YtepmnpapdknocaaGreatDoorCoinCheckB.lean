/- The contract of Check of coins. -/
import Derived.Test.YtepmnpapdknocaaGreatDoorCoinCheck
import Derived.BigQuiet
namespace Go.Proofs.YtepmnpapdknocaaGreatDoor
open Go.RowKit

theorem bel_dw (w : World) (n : Nat) : Below w.heap.size w (w.drewN n) := ⟨rfl, rfl, rfl, Nat.le_refl _, fun _ _ => rfl⟩
theorem CoinAt.val {w : World} {b o : Nat} {x : CoinD} (h : CoinAt w b o x) : ∃ a n c, w.cell? ⟨b, o, none⟩ = some (.int .i64 x.1) ∧ w.cell? ⟨b, o + 1, none⟩ = some (.int .i64 x.2.1) ∧ w.cell? ⟨b, o + 2, none⟩ = some (.int .i64 (cv x)) ∧
    w.cell? ⟨b, o + 3, none⟩ = some (.slice a n c) ∧ w.cell? ⟨b, o + 4, none⟩ = some (.int .i64 (ch x)) ∧ w.cell? ⟨b, o + 5, none⟩ = some (.bool (cr x)) ∧ OpsAt w a n (ck x) ∧ SlOk a n c := by
  obtain ⟨h1, h2, h3, ⟨a, n, c, h4, h5, h6⟩, h7, h8⟩ := h
  exact ⟨a, n, c, h1, h2, h3, h4, h7, h8, h5, h6⟩

set_option maxRecDepth 10000 in
set_option maxHeartbeats 6400000 in
theorem uCheck_some (b off n c : Nat) (L : List CoinD) (w : World) (hn : n ≤ 720) (hz : L.length = n) (hc : ∀ i (h : i < L.length), CoinAt w b (off + i * 6) L[i]) :
    Calls Tryz.prog 67 #[.slice (some ⟨b, off, none⟩) n c] w fun e w' => e = .returned (.int .i64 (ckGo none 0 L)) ∧ Below w.heap.size w w' := by
  have HC := hide hc
  have HZ := hide hz
  clear hc hz
  go_enter Tryz.func67, Tryz.ntmps67
  go_wp2
  go_loopw [3, 12] (fun sv i wr => ∃ (k : Nat) (S : Int), k ≤ n ∧ i = .int .i64 k ∧ sv = .int .i64 S ∧ 0 ≤ S ∧ S ≤ 1000000000 ∧ Hid (ckGo none 0 L = ckGo (prevP L k) S (L.drop k)) ∧ Below w.heap.size w wr) (fun _ i _ => n - (intOf i).toNat)
  case atStart => exact ⟨0, 0, Nat.zero_le _, rfl, rfl, by decide, by decide, rfl, Below.refl _ _⟩
  case round =>
    obtain ⟨k, S, hk, rfl, rfl, hS0, hS1, A, hb⟩ := hrel
    have HB := hide hb
    by_cases hlt : k < n
    · have hlk : k < L.length := by rw [unhide HZ]; exact hlt
      have hin := CoinAt.kept _ _ _ _ _ hb ((unhide HC) k hlk)
      have ST := hide (ckGo_at L k hlk (prevP L k) S)
      have HL : Hid (∀ j, k = j + 1 → ∃ q, prevP L k = some (pt q) ∧ CoinAt wr b (off + j * 6) q) := fun j hj => by
        have hj2 : j < L.length := by omega
        exact ⟨L[j], by rw [hj]; exact prevP_succ L j hj2, CoinAt.kept _ _ _ _ _ hb ((unhide HC) j hj2)⟩
      have HN : Hid (k + 1 ≤ L.length → prevP L (k + 1) = some (pt L[k])) := fun _ => prevP_succ L k hlk
      obtain ⟨x, hx⟩ : ∃ x, L[k] = x := ⟨_, rfl⟩
      rw [hx] at hin ST HN
      have A2 : Hid (ckGo none 0 L = if ck1 x ≠ 0 then ck1 x else if above (prevP L k) x = false then 6 else if 1000000000 < S + cv x then 12 else ckGo (some (pt x)) (S + cv x) (L.drop (k + 1))) := by show _ = _; rw [unhide A, unhide ST]
      have PN : Hid (prevP L (k + 1) = some (pt x)) := (unhide HN) hlk
      obtain ⟨a, m, d, g1, g2, g3, g4, g5, g6, hO, _⟩ := hin.val
      obtain ⟨X, hX⟩ : ∃ X, X = wr.alloc (.cells #[.int .i64 x.1, .int .i64 x.2.1, .int .i64 (cv x), .slice a m d, .int .i64 (ch x), .bool (cr x)] 88) := ⟨_, rfl⟩
      obtain ⟨n0, n1, n2, n3, n4, n5⟩ := six_new wr (.int .i64 x.1) (.int .i64 x.2.1) (.int .i64 (cv x)) (.slice a m d) (.int .i64 (ch x)) (.bool (cr x)) 88
      rw [← hX] at n0 n1 n2 n3 n4 n5
      have hbX : Below wr.heap.size wr X := by rw [hX]; exact bel_new _ _
      have hsX : wr.heap.size < X.heap.size := World.block_lt_of_cell? _ _ n0
      have HBX := hide hbX
      have HO := hide (hO.later hbX)
      have N0 := hide n0
      have N1 := hide n1
      have N2 := hide n2
      obtain ⟨z, hz⟩ : ∃ z, ck1 x = z := ⟨_, rfl⟩
      have C1 := hide (checkCoin_is x a m d z X (unhide HO) hz)
      rw [hz] at A2
      have HX := hide hX
      by_cases hz0 : z = 0
      · subst hz0
        have K := ck1_zero hz
        have hv1 : 1 ≤ cv x := K.2.2.2.2.1
        have hv2 : cv x ≤ 1000000000 := K.2.2.2.2.2.1
        have A3 : Hid (ckGo none 0 L = if above (prevP L k) x = false then 6 else if 1000000000 < S + cv x then 12 else ckGo (some (pt x)) (S + cv x) (L.drop (k + 1))) := by
          have h := unhide A2
          rw [if_neg (by decide)] at h
          exact h
        clear K A A2 ST HN hx hin hO hb hz n3 n4 n5 hX
        obtain ⟨v, hv⟩ : ∃ v, cv x = v := ⟨_, rfl⟩
        rw [hv] at hv1 hv2 A3 n2 N2 g3 HX
        unfold cnV at C1
        rw [hv] at C1
        by_cases hk0 : k = 0
        · have A4 : Hid (ckGo none 0 L = if 1000000000 < S + v then 12 else ckGo (some (pt x)) (S + v) (L.drop (k + 1))) := by
            have h := unhide A3
            rw [hk0] at h
            rw [if_neg (by show ¬ true = false; decide)] at h
            rw [hk0]
            exact h
          clear A3 HL
          have hg : decide ((0 : Int) < (k : Int)) = false := by rw [hk0]; decide
          have hg2 : decide (0 < k) = false := by rw [hk0]; decide
          clear hk0
          go_wp2_with fail
          rw [← unhide HX]
          go_wp2_with fail
          refine (unhide C1).mono ?_
          rintro e w2 ⟨rfl, hb2⟩
          have m2 := cell_later hb2 (unhide N2)
          have hs2 : wr.heap.size < w2.heap.size := World.block_lt_of_cell? _ _ m2
          have HB2 := hide (bel_on (bel_on (unhide HB) (unhide HBX)) hb2)
          clear hb2
          go_wp2_with fail
          go_quiet (fail)
          by_cases hf : 1000000000 < S + v
          · have R : Hid (ckGo none 0 L = 12) := by show _ = _; rw [unhide A4, if_pos hf]
            clear A4
            go_wp2
            go_ret
            exact ⟨by rw [unhide R]; rfl, bel_on (unhide HB2) (bel_dw _ _)⟩
          · have R : Hid (ckGo none 0 L = ckGo (prevP L (k + 1)) (S + v) (L.drop (k + 1))) := by show _ = _; rw [unhide A4, if_neg hf, unhide PN]
            clear A4
            go_wp2
            go_roundw
            case rel => exact ⟨k + 1, S + v, by omega, by go_num, rfl, by omega, by omega, R, bel_on (unhide HB2) (bel_dw _ _)⟩
            case measure => simp [intOf]; omega
        · obtain ⟨j, rfl⟩ : ∃ j, k = j + 1 := ⟨k - 1, by omega⟩
          obtain ⟨q, hq, hqa⟩ := (unhide HL) j rfl
          obtain ⟨_, _, _, q1, q2, _, _, _, _, _, _⟩ := hqa.val
          have A5 : Hid (ckGo none 0 L = if lt (pt q) (pt x) = false then 6 else if 1000000000 < S + v then 12 else ckGo (some (pt x)) (S + v) (L.drop (j + 1 + 1))) := by
            have h := unhide A3
            rw [hq] at h
            exact h
          have Q1 := hide (cell_later hbX q1)
          have Q2 := hide (cell_later hbX q2)
          have G : Hid (decide ((0 : Int) < ((j + 1 : Nat) : Int)) = true) := by show _ = _; simp
          have hj1 : (j : Int) < (n : Int) := by omega
          have hw2 : IntKind.i64.wrap (j : Int) = (j : Int) := by rw [IntKind.wrap_i64]; omega
          have hw3 : IntKind.i64.wrap ((j : Int) + 1 - 1) = (j : Int) := by rw [IntKind.wrap_i64]; omega
          have hj2 : j < n := by omega
          have hj0 : (0 : Int) ≤ (j : Int) := by omega
          have hw1 : IntKind.i64.wrap (((j + 1 : Nat) : Int) - 1) = (j : Int) := by rw [IntKind.wrap_i64]; omega
          clear A3 HL hk0 hq hqa q1 q2
          cases hl : lt (pt q) (pt x) with
          | false =>
            have R : Hid (ckGo none 0 L = 6) := by show _ = _; rw [unhide A5, if_pos hl]
            obtain ⟨y, hy⟩ : ∃ y, cmpP (pt q) (pt x) = y := ⟨_, rfl⟩
            have hy0 : 0 ≤ y := by
              rw [← hy]
              refine Int.not_lt.1 fun h => ?_
              rw [cmpP_lt, hl] at h; exact Bool.noConfusion h
            have CC := hide (fun w => compare_is (pt q) (pt x) y w hy)
            unfold pt at CC
            clear A5 hl hy
            go_wp2_with fail
            rw [← unhide HX]
            go_wp2_with fail
            refine (unhide C1).mono ?_
            rintro e w2 ⟨rfl, hb2⟩
            have m0 := cell_later hb2 (unhide N0)
            have m1 := cell_later hb2 (unhide N1)
            have p0 := cell_later hb2 (unhide Q1)
            have p1 := cell_later hb2 (unhide Q2)
            have hs2 : wr.heap.size < w2.heap.size := World.block_lt_of_cell? _ _ m0
            have HB2 := hide (bel_on (bel_on (unhide HB) (unhide HBX)) hb2)
            clear hb2 n0 n1 n2 g1 g2 g3 g4 g5 g6
            have hG := unhide G
            go_wp2_with fail
            go_region_held3 (fun w' => Below w2.heap.size w2 w' ∧ w'.cell? ⟨wr.heap.size, 0, none⟩ = some (.int .i64 x.1) ∧ w'.cell? ⟨wr.heap.size, 1, none⟩ = some (.int .i64 x.2.1) ∧ w'.cell? ⟨b, off + j * 6, none⟩ = some (.int .i64 q.1) ∧ w'.cell? ⟨b, off + j * 6 + 1, none⟩ = some (.int .i64 q.2.1))
              (first
              | exact ⟨bel_draw1 _, m0, m1, p0, p1⟩
              | (go_split_ands
                 refine ⟨bel_on (by assumption) hbc, cell_later hbc (by assumption), cell_later hbc (by assumption), cell_later hbc (by assumption), cell_later hbc (by assumption)⟩))
              (first | (go_at_call 109; refine ((unhide CC) _).mono ?_; rintro e w' ⟨rfl, hbc⟩))
            rename_i hH
            have HH := hide (bel_on (unhide HB2) hH.1)
            clear hH
            go_wp2
            go_ret
            exact ⟨by rw [unhide R]; rfl, unhide HH⟩
          | true =>
            have A4 : Hid (ckGo none 0 L = if 1000000000 < S + v then 12 else ckGo (some (pt x)) (S + v) (L.drop (j + 1 + 1))) := by
              have h := unhide A5
              rw [if_neg (by rw [hl]; decide)] at h
              exact h
            obtain ⟨y, hy⟩ : ∃ y, cmpP (pt q) (pt x) = y := ⟨_, rfl⟩
            have hy0 : y < 0 := by rw [← hy, cmpP_lt]; exact hl
            have CC := hide (fun w => compare_is (pt q) (pt x) y w hy)
            unfold pt at CC
            clear A5 hl hy
            go_wp2_with fail
            rw [← unhide HX]
            go_wp2_with fail
            refine (unhide C1).mono ?_
            rintro e w2 ⟨rfl, hb2⟩
            have m0 := cell_later hb2 (unhide N0)
            have m1 := cell_later hb2 (unhide N1)
            have M2 := hide (cell_later hb2 (unhide N2))
            have p0 := cell_later hb2 (unhide Q1)
            have p1 := cell_later hb2 (unhide Q2)
            have hs2 : wr.heap.size < w2.heap.size := World.block_lt_of_cell? _ _ m0
            have HB2 := hide (bel_on (bel_on (unhide HB) (unhide HBX)) hb2)
            clear hb2 n0 n1 n2 g1 g2 g3 g4 g5 g6
            have hG := unhide G
            go_wp2_with fail
            go_region_held3 (fun w' => Below w2.heap.size w2 w' ∧ w'.cell? ⟨wr.heap.size, 0, none⟩ = some (.int .i64 x.1) ∧ w'.cell? ⟨wr.heap.size, 1, none⟩ = some (.int .i64 x.2.1) ∧ w'.cell? ⟨b, off + j * 6, none⟩ = some (.int .i64 q.1) ∧ w'.cell? ⟨b, off + j * 6 + 1, none⟩ = some (.int .i64 q.2.1))
              (first
              | exact ⟨bel_draw1 _, m0, m1, p0, p1⟩
              | (go_split_ands
                 refine ⟨bel_on (by assumption) hbc, cell_later hbc (by assumption), cell_later hbc (by assumption), cell_later hbc (by assumption), cell_later hbc (by assumption)⟩))
              (first | (go_at_call 109; refine ((unhide CC) _).mono ?_; rintro e w' ⟨rfl, hbc⟩))
            rename_i hH
            have HH := hide (bel_on (unhide HB2) hH.1)
            have m2 := cell_later hH.1 (unhide M2)
            have hs3 := World.block_lt_of_cell? _ _ m2
            clear hH
            by_cases hf : 1000000000 < S + v
            · have R : Hid (ckGo none 0 L = 12) := by show _ = _; rw [unhide A4, if_pos hf]
              clear A4
              go_wp2
              go_ret
              exact ⟨by rw [unhide R]; rfl, unhide HH⟩
            · have R : Hid (ckGo none 0 L = ckGo (prevP L (j + 1 + 1)) (S + v) (L.drop (j + 1 + 1))) := by show _ = _; rw [unhide A4, if_neg hf, unhide PN]
              clear A4
              go_wp2
              go_roundw
              case rel => exact ⟨j + 1 + 1, S + v, by omega, by go_num, rfl, by omega, by omega, R, unhide HH⟩
              case measure => simp [intOf]; omega
      · have R : Hid (ckGo none 0 L = z) := by show _ = _; rw [unhide A2, if_pos hz0]
        have gz : (z != 0) = true := by simp [hz0]
        unfold cnV at C1
        clear A A2 ST HN HL PN hx hin hO hb hz n3 n4 n5 hX hz0
        go_wp2_with fail
        rw [← unhide HX]
        go_wp2_with fail
        refine (unhide C1).mono ?_
        rintro e w2 ⟨rfl, hb2⟩
        have HB2 := hide (bel_on (bel_on (unhide HB) (unhide HBX)) hb2)
        clear hb2
        go_wp2
        go_ret
        exact ⟨by rw [unhide R]; rfl, unhide HB2⟩
    · have R : Hid (ckGo none 0 L = 0) := by show _ = _; rw [unhide A, ckGo_end L k (by rw [unhide HZ]; omega)]
      clear A hb
      go_wp2
      go_ret
      exact ⟨by rw [unhide R]; rfl, unhide HB⟩

set_option maxHeartbeats 400000 in
theorem uCheck_many (a : Option Addr) (n c : Nat) (w : World) (h : 720 < n) :
    Calls Tryz.prog 67 #[.slice a n c] w fun e w' => e = .returned (.int .i64 2) ∧ w = w' := by
  go_enter Tryz.func67, Tryz.ntmps67
  go_wp2
  go_ret
  exact ⟨rfl, rfl⟩

set_option maxHeartbeats 400000 in
theorem uCheck_none (a : Option Addr) (c : Nat) (w : World) :
    Calls Tryz.prog 67 #[.slice a 0 c] w fun e w' => e = .returned (.int .i64 0) ∧ w = w' := by
  go_enter Tryz.func67, Tryz.ntmps67
  go_wp2
  refine wp_loop_rounds 1 ?_
  rw [rounds_succ]
  go_wp2
  go_ret
  exact ⟨rfl, rfl⟩

theorem uCheck_any (a : Option Addr) (n c : Nat) (L : List CoinD) (z : Int) (w : World) (h : CoinsAt w a n L) (hz : ckCoins L = z) :
    Calls Tryz.prog 67 #[.slice a n c] w fun e w' => e = .returned (.int .i64 z) ∧ Below w.heap.size w w' := by
  subst hz
  obtain ⟨hl, hc⟩ := h
  unfold ckCoins
  rw [hl]
  by_cases h1 : 720 < n
  · rw [if_pos h1]
    exact (uCheck_many a n c w h1).mono fun e w' ⟨x, y⟩ => ⟨x, y ▸ Below.refl _ _⟩
  · rw [if_neg h1]
    by_cases h2 : n = 0
    · subst h2
      have e : L = [] := List.length_eq_zero_iff.1 hl
      subst e
      exact (uCheck_none a c w).mono fun e w' ⟨x, y⟩ => ⟨x, y ▸ Below.refl _ _⟩
    · obtain ⟨b, off, rfl, _, hcell⟩ := hc (by omega)
      exact uCheck_some b off n c L w (by omega) hl hcell

end Go.Proofs.YtepmnpapdknocaaGreatDoor
