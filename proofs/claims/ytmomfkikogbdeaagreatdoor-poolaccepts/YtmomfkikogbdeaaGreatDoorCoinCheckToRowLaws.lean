/- Contracts of what checks coins. -/
import Derived.Test.YtmomfkikogbdeaaGreatDoorCoinMathToCoinCmp
import Derived.Test.YtmomfkikogbdeaaGreatDoorLockCheckToLockFill
import Derived.BigQuiet
import Derived.WalkKit
import Derived.Laws.CopyOwn
import Derived.Deep.RegionLaw
import Derived.Lib.AppendZerosOnto
import Derived.Lib.Overlaps
namespace Go.Proofs.YtmomfkikogbdeaaGreatDoor
open Go.RowKit

set_option maxHeartbeats 400000 in
theorem uisHeight_is (h : Int) (b : Bool) (w : World) (hb : okH h = b) :
    Calls Tryz.prog 203 #[.int .i64 h] w fun e w' => e = .returned (.bool b) ∧ w = w' := by
  have C := hide (within_is h 1 1000 b w (by rw [← hb]; rfl))
  clear hb
  go_enter Tryz.func203, Tryz.ntmps203
  go_wp2_with fail
  refine (unhide C).mono ?_
  rintro e w' ⟨rfl, rfl⟩
  go_wp2
  go_ret
  exact ⟨rfl, rfl⟩

theorem lockChk_at (a : Option Addr) (len cap : Nat) (l : List (Int × Int)) (x : Int) (w : World) (hx : chk l = x) (h : OpsAt w a len l) :
    Calls Tryz.prog 249 #[.slice a len cap] w fun e w' => e = .returned (.int .i64 x) ∧ Below w.heap.size w w' := by
  subst hx; exact check_any a len cap l w h

set_option maxRecDepth 10000 in
set_option maxHeartbeats 1600000 in
theorem checkCoin_is (x : CoinD) (a : Option Addr) (n c : Nat) (z : Int) (w : World) (hO : OpsAt w a n (ck x)) (hz : ck1 x = z) :
    Calls Tryz.prog 200 #[cnV x a n c] w fun e w' => e = .returned (.int .i64 z) ∧ Below w.heap.size w w' := by
  obtain ⟨x1, x2, x3, k, x4, x5⟩ := x
  unfold cnV
  simp only [cv, ck, ch, cr] at hO ⊢
  obtain ⟨X, hX⟩ : ∃ X, X = w.alloc (.cells #[.int .i64 x1, .int .i64 x2, .int .i64 x3, .slice a n c, .int .i64 x4, .bool x5] 124) := ⟨_, rfl⟩
  obtain ⟨n0, n1, n2, n3, n4, n5⟩ := six_new w (.int .i64 x1) (.int .i64 x2) (.int .i64 x3) (.slice a n c) (.int .i64 x4) (.bool x5) 124
  rw [← hX] at n0 n1 n2 n3 n4 n5
  have hb : Below w.heap.size w X := by rw [hX]; exact bel_new _ _
  have HB := hide hb
  have HO := hide (hO.later hb)
  have N2 := hide n2
  have N3 := hide n3
  have N4 := hide n4
  clear hO hb n5
  cases hp : okPt (x1, x2) with
  | false =>
    have e : z = 3 := by rw [← hz]; unfold ck1; rw [if_pos (by unfold okC pt; rw [hp]; rfl)]
    subst e
    have C1 := hide (isPoint_is x1 x2 false X hp)
    clear hp hz
    go_enter Tryz.func200, Tryz.ntmps200
    go_wp2_with fail
    rw [← hX]
    clear hX
    go_wp2_with fail
    refine (unhide C1).mono ?_
    rintro e w2 ⟨rfl, hb2⟩
    have HB2 := hide (bel_on (unhide HB) hb2)
    clear hb2
    go_wp2
    go_ret
    exact ⟨rfl, unhide HB2⟩
  | true =>
    have C1 := hide (isPoint_is x1 x2 true X hp)
    cases hv : okV x3 with
    | false =>
      have e : z = 3 := by rw [← hz]; unfold ck1; rw [if_pos (by unfold okC pt; rw [hp]; simp only [cv]; rw [hv]; rfl)]
      subst e
      have C2 := hide (fun w => within_is x3 1 1000000000 false w (by rw [← hv]; rfl))
      clear hp hz hv
      go_enter Tryz.func200, Tryz.ntmps200
      go_wp2_with fail
      rw [← hX]
      clear hX
      go_wp2_with fail
      refine (unhide C1).mono ?_
      rintro e w2 ⟨rfl, hb2⟩
      have m2 := cell_later hb2 (unhide N2)
      have hs2 : w.heap.size < w2.heap.size := World.block_lt_of_cell? _ _ m2
      have HB2 := hide (bel_on (unhide HB) hb2)
      clear hb2
      go_wp2_with fail
      refine ((unhide C2) _).mono ?_
      rintro e w3 ⟨rfl, rfl⟩
      go_wp2
      go_ret
      exact ⟨rfl, unhide HB2⟩
    | true =>
      have C2 := hide (fun w => within_is x3 1 1000000000 true w (by rw [← hv]; rfl))
      cases hh : okH x4 with
      | false =>
        have e : z = 3 := by rw [← hz]; unfold ck1; rw [if_pos (by unfold okC pt; rw [hp]; simp only [cv, ch]; rw [hv, hh]; rfl)]
        subst e
        have C3 := hide (fun w => uisHeight_is x4 false w hh)
        clear hp hz hv hh
        go_enter Tryz.func200, Tryz.ntmps200
        go_wp2_with fail
        rw [← hX]
        clear hX
        go_wp2_with fail
        refine (unhide C1).mono ?_
        rintro e w2 ⟨rfl, hb2⟩
        have m2 := cell_later hb2 (unhide N2)
        have m4 := cell_later hb2 (unhide N4)
        have hs2 : w.heap.size < w2.heap.size := World.block_lt_of_cell? _ _ m2
        have HB2 := hide (bel_on (unhide HB) hb2)
        clear hb2
        go_wp2_with fail
        refine ((unhide C2) _).mono ?_
        rintro e w3 ⟨rfl, rfl⟩
        go_wp2_with fail
        refine ((unhide C3) _).mono ?_
        rintro e w3 ⟨rfl, rfl⟩
        go_wp2
        go_ret
        exact ⟨rfl, unhide HB2⟩
      | true =>
        have e : chk k = z := by rw [← hz]; unfold ck1; rw [if_neg (by unfold okC pt; rw [hp]; simp only [cv, ch]; rw [hv, hh]; decide)]; rfl
        have C3 := hide (fun w => uisHeight_is x4 true w hh)
        have E := hide e
        clear hp hz hv hh e
        go_enter Tryz.func200, Tryz.ntmps200
        go_wp2_with fail
        rw [← hX]
        clear hX
        go_wp2_with fail
        refine (unhide C1).mono ?_
        rintro e w2 ⟨rfl, hb2⟩
        have m2 := cell_later hb2 (unhide N2)
        have m3 := cell_later hb2 (unhide N3)
        have m4 := cell_later hb2 (unhide N4)
        have hs2 : w.heap.size < w2.heap.size := World.block_lt_of_cell? _ _ m2
        have C4 := hide (lockChk_at a n c k z w2 (unhide E) ((unhide HO).later hb2))
        have HB2 := hide (bel_on (unhide HB) hb2)
        clear hb2
        go_wp2_with fail
        refine ((unhide C2) _).mono ?_
        rintro e w3 ⟨rfl, rfl⟩
        go_wp2_with fail
        refine ((unhide C3) _).mono ?_
        rintro e w3 ⟨rfl, rfl⟩
        go_wp2_with fail
        refine (unhide C4).mono ?_
        rintro e w4 ⟨rfl, hb4⟩
        have HB4 := hide (bel_on (unhide HB2) hb4)
        clear hb4
        go_wp2
        go_ret
        exact ⟨rfl, unhide HB4⟩

end Go.Proofs.YtmomfkikogbdeaaGreatDoor

/- The contract of Check of coins. -/
namespace Go.Proofs.YtmomfkikogbdeaaGreatDoor
open Go.RowKit

theorem bel_dw (w : World) (n : Nat) : Below w.heap.size w (w.drewN n) := ⟨rfl, rfl, rfl, Nat.le_refl _, fun _ _ => rfl⟩
theorem CoinAt.val {w : World} {b o : Nat} {x : CoinD} (h : CoinAt w b o x) : ∃ a n c, w.cell? ⟨b, o, none⟩ = some (.int .i64 x.1) ∧ w.cell? ⟨b, o + 1, none⟩ = some (.int .i64 x.2.1) ∧ w.cell? ⟨b, o + 2, none⟩ = some (.int .i64 (cv x)) ∧
    w.cell? ⟨b, o + 3, none⟩ = some (.slice a n c) ∧ w.cell? ⟨b, o + 4, none⟩ = some (.int .i64 (ch x)) ∧ w.cell? ⟨b, o + 5, none⟩ = some (.bool (cr x)) ∧ OpsAt w a n (ck x) ∧ SlOk a n c := by
  obtain ⟨h1, h2, h3, ⟨a, n, c, h4, h5, h6⟩, h7, h8⟩ := h
  exact ⟨a, n, c, h1, h2, h3, h4, h7, h8, h5, h6⟩

set_option maxRecDepth 10000 in
set_option maxHeartbeats 6400000 in
theorem uCheck_some (b off n c : Nat) (L : List CoinD) (w : World) (hn : n ≤ 720) (hz : L.length = n) (hc : ∀ i (h : i < L.length), CoinAt w b (off + i * 6) L[i]) :
    Calls Tryz.prog 143 #[.slice (some ⟨b, off, none⟩) n c] w fun e w' => e = .returned (.int .i64 (ckGo none 0 L)) ∧ Below w.heap.size w w' := by
  have HC := hide hc
  have HZ := hide hz
  clear hc hz
  go_enter Tryz.func143, Tryz.ntmps143
  go_wp2
  go_loopw [3, 12] (fun sv i wr => ∃ (k : Nat) (S : Int), k ≤ n ∧ i = .int .i64 k ∧ sv = .int .i64 S ∧ 0 ≤ S ∧ S ≤ 1000000000 ∧ Hid (ckGo none 0 L = ckGo (prevP L k) S (L.drop k)) ∧ Below w.heap.size w wr) (fun _ i _ => n - (intOf i).toNat)
  case atStart => exact ⟨0, 0, Nat.zero_le _, rfl, rfl, by decide, by decide, rfl, Below.refl _ _⟩
  case round =>
    obtain ⟨k, S, hk, rfl, rfl, hS0, hS1, A, hb⟩ := hrel
    have HB := hide hb
    by_cases hlt : k < n
    · have hlk : k < L.length := by rw [unhide HZ]; exact hlt
      have hin := CoinAt.kept _ _ _ _ _ hb ((unhide HC) k hlk)
      have ST := hide (ckGo_at L k hlk (prevP L k) S)
      have HL : Hid (∀ j, k = j + 1 → ∃ q, prevP L k = some (pt q) ∧ CoinAt wr b (off + j * 6) q) := fun j hj => by
        have hj2 : j < L.length := by omega
        exact ⟨L[j], by rw [hj]; exact prevP_succ L j hj2, CoinAt.kept _ _ _ _ _ hb ((unhide HC) j hj2)⟩
      have HN : Hid (k + 1 ≤ L.length → prevP L (k + 1) = some (pt L[k])) := fun _ => prevP_succ L k hlk
      obtain ⟨x, hx⟩ : ∃ x, L[k] = x := ⟨_, rfl⟩
      rw [hx] at hin ST HN
      have A2 : Hid (ckGo none 0 L = if ck1 x ≠ 0 then ck1 x else if above (prevP L k) x = false then 6 else if 1000000000 < S + cv x then 12 else ckGo (some (pt x)) (S + cv x) (L.drop (k + 1))) := by show _ = _; rw [unhide A, unhide ST]
      have PN : Hid (prevP L (k + 1) = some (pt x)) := (unhide HN) hlk
      obtain ⟨a, m, d, g1, g2, g3, g4, g5, g6, hO, _⟩ := hin.val
      obtain ⟨X, hX⟩ : ∃ X, X = wr.alloc (.cells #[.int .i64 x.1, .int .i64 x.2.1, .int .i64 (cv x), .slice a m d, .int .i64 (ch x), .bool (cr x)] 124) := ⟨_, rfl⟩
      obtain ⟨n0, n1, n2, n3, n4, n5⟩ := six_new wr (.int .i64 x.1) (.int .i64 x.2.1) (.int .i64 (cv x)) (.slice a m d) (.int .i64 (ch x)) (.bool (cr x)) 124
      rw [← hX] at n0 n1 n2 n3 n4 n5
      have hbX : Below wr.heap.size wr X := by rw [hX]; exact bel_new _ _
      have hsX : wr.heap.size < X.heap.size := World.block_lt_of_cell? _ _ n0
      have HBX := hide hbX
      have HO := hide (hO.later hbX)
      have N0 := hide n0
      have N1 := hide n1
      have N2 := hide n2
      obtain ⟨z, hz⟩ : ∃ z, ck1 x = z := ⟨_, rfl⟩
      have C1 := hide (checkCoin_is x a m d z X (unhide HO) hz)
      rw [hz] at A2
      have HX := hide hX
      by_cases hz0 : z = 0
      · subst hz0
        have K := ck1_zero hz
        have hv1 : 1 ≤ cv x := K.2.2.2.2.1
        have hv2 : cv x ≤ 1000000000 := K.2.2.2.2.2.1
        have A3 : Hid (ckGo none 0 L = if above (prevP L k) x = false then 6 else if 1000000000 < S + cv x then 12 else ckGo (some (pt x)) (S + cv x) (L.drop (k + 1))) := by
          have h := unhide A2
          rw [if_neg (by decide)] at h
          exact h
        clear K A A2 ST HN hx hin hO hb hz n3 n4 n5 hX
        obtain ⟨v, hv⟩ : ∃ v, cv x = v := ⟨_, rfl⟩
        rw [hv] at hv1 hv2 A3 n2 N2 g3 HX
        unfold cnV at C1
        rw [hv] at C1
        by_cases hk0 : k = 0
        · have A4 : Hid (ckGo none 0 L = if 1000000000 < S + v then 12 else ckGo (some (pt x)) (S + v) (L.drop (k + 1))) := by
            have h := unhide A3
            rw [hk0] at h
            rw [if_neg (by show ¬ true = false; decide)] at h
            rw [hk0]
            exact h
          clear A3 HL
          have hg : decide ((0 : Int) < (k : Int)) = false := by rw [hk0]; decide
          have hg2 : decide (0 < k) = false := by rw [hk0]; decide
          clear hk0
          go_wp2_with fail
          rw [← unhide HX]
          go_wp2_with fail
          refine (unhide C1).mono ?_
          rintro e w2 ⟨rfl, hb2⟩
          have m2 := cell_later hb2 (unhide N2)
          have hs2 : wr.heap.size < w2.heap.size := World.block_lt_of_cell? _ _ m2
          have HB2 := hide (bel_on (bel_on (unhide HB) (unhide HBX)) hb2)
          clear hb2
          go_wp2_with fail
          go_quiet (fail)
          by_cases hf : 1000000000 < S + v
          · have R : Hid (ckGo none 0 L = 12) := by show _ = _; rw [unhide A4, if_pos hf]
            clear A4
            go_wp2
            go_ret
            exact ⟨by rw [unhide R]; rfl, bel_on (unhide HB2) (bel_dw _ _)⟩
          · have R : Hid (ckGo none 0 L = ckGo (prevP L (k + 1)) (S + v) (L.drop (k + 1))) := by show _ = _; rw [unhide A4, if_neg hf, unhide PN]
            clear A4
            go_wp2
            go_roundw
            case rel => exact ⟨k + 1, S + v, by omega, by go_num, rfl, by omega, by omega, R, bel_on (unhide HB2) (bel_dw _ _)⟩
            case measure => simp [intOf]; omega
        · obtain ⟨j, rfl⟩ : ∃ j, k = j + 1 := ⟨k - 1, by omega⟩
          obtain ⟨q, hq, hqa⟩ := (unhide HL) j rfl
          obtain ⟨_, _, _, q1, q2, _, _, _, _, _, _⟩ := hqa.val
          have A5 : Hid (ckGo none 0 L = if lt (pt q) (pt x) = false then 6 else if 1000000000 < S + v then 12 else ckGo (some (pt x)) (S + v) (L.drop (j + 1 + 1))) := by
            have h := unhide A3
            rw [hq] at h
            exact h
          have Q1 := hide (cell_later hbX q1)
          have Q2 := hide (cell_later hbX q2)
          have G : Hid (decide ((0 : Int) < ((j + 1 : Nat) : Int)) = true) := by show _ = _; simp
          have hj1 : (j : Int) < (n : Int) := by omega
          have hw2 : IntKind.i64.wrap (j : Int) = (j : Int) := by rw [IntKind.wrap_i64]; omega
          have hw3 : IntKind.i64.wrap ((j : Int) + 1 - 1) = (j : Int) := by rw [IntKind.wrap_i64]; omega
          have hj2 : j < n := by omega
          have hj0 : (0 : Int) ≤ (j : Int) := by omega
          have hw1 : IntKind.i64.wrap (((j + 1 : Nat) : Int) - 1) = (j : Int) := by rw [IntKind.wrap_i64]; omega
          clear A3 HL hk0 hq hqa q1 q2
          cases hl : lt (pt q) (pt x) with
          | false =>
            have R : Hid (ckGo none 0 L = 6) := by show _ = _; rw [unhide A5, if_pos hl]
            obtain ⟨y, hy⟩ : ∃ y, cmpP (pt q) (pt x) = y := ⟨_, rfl⟩
            have hy0 : 0 ≤ y := by
              rw [← hy]
              refine Int.not_lt.1 fun h => ?_
              rw [cmpP_lt, hl] at h; exact Bool.noConfusion h
            have CC := hide (fun w => compare_is (pt q) (pt x) y w hy)
            unfold pt at CC
            clear A5 hl hy
            go_wp2_with fail
            rw [← unhide HX]
            go_wp2_with fail
            refine (unhide C1).mono ?_
            rintro e w2 ⟨rfl, hb2⟩
            have m0 := cell_later hb2 (unhide N0)
            have m1 := cell_later hb2 (unhide N1)
            have p0 := cell_later hb2 (unhide Q1)
            have p1 := cell_later hb2 (unhide Q2)
            have hs2 : wr.heap.size < w2.heap.size := World.block_lt_of_cell? _ _ m0
            have HB2 := hide (bel_on (bel_on (unhide HB) (unhide HBX)) hb2)
            clear hb2 n0 n1 n2 g1 g2 g3 g4 g5 g6
            have hG := unhide G
            go_wp2_with fail
            go_region_held3 (fun w' => Below w2.heap.size w2 w' ∧ w'.cell? ⟨wr.heap.size, 0, none⟩ = some (.int .i64 x.1) ∧ w'.cell? ⟨wr.heap.size, 1, none⟩ = some (.int .i64 x.2.1) ∧ w'.cell? ⟨b, off + j * 6, none⟩ = some (.int .i64 q.1) ∧ w'.cell? ⟨b, off + j * 6 + 1, none⟩ = some (.int .i64 q.2.1))
              (first
              | exact ⟨bel_draw1 _, m0, m1, p0, p1⟩
              | (go_split_ands
                 refine ⟨bel_on (by assumption) hbc, cell_later hbc (by assumption), cell_later hbc (by assumption), cell_later hbc (by assumption), cell_later hbc (by assumption)⟩))
              (first | (go_at_call 201; refine ((unhide CC) _).mono ?_; rintro e w' ⟨rfl, hbc⟩))
            rename_i hH
            have HH := hide (bel_on (unhide HB2) hH.1)
            clear hH
            go_wp2
            go_ret
            exact ⟨by rw [unhide R]; rfl, unhide HH⟩
          | true =>
            have A4 : Hid (ckGo none 0 L = if 1000000000 < S + v then 12 else ckGo (some (pt x)) (S + v) (L.drop (j + 1 + 1))) := by
              have h := unhide A5
              rw [if_neg (by rw [hl]; decide)] at h
              exact h
            obtain ⟨y, hy⟩ : ∃ y, cmpP (pt q) (pt x) = y := ⟨_, rfl⟩
            have hy0 : y < 0 := by rw [← hy, cmpP_lt]; exact hl
            have CC := hide (fun w => compare_is (pt q) (pt x) y w hy)
            unfold pt at CC
            clear A5 hl hy
            go_wp2_with fail
            rw [← unhide HX]
            go_wp2_with fail
            refine (unhide C1).mono ?_
            rintro e w2 ⟨rfl, hb2⟩
            have m0 := cell_later hb2 (unhide N0)
            have m1 := cell_later hb2 (unhide N1)
            have M2 := hide (cell_later hb2 (unhide N2))
            have p0 := cell_later hb2 (unhide Q1)
            have p1 := cell_later hb2 (unhide Q2)
            have hs2 : wr.heap.size < w2.heap.size := World.block_lt_of_cell? _ _ m0
            have HB2 := hide (bel_on (bel_on (unhide HB) (unhide HBX)) hb2)
            clear hb2 n0 n1 n2 g1 g2 g3 g4 g5 g6
            have hG := unhide G
            go_wp2_with fail
            go_region_held3 (fun w' => Below w2.heap.size w2 w' ∧ w'.cell? ⟨wr.heap.size, 0, none⟩ = some (.int .i64 x.1) ∧ w'.cell? ⟨wr.heap.size, 1, none⟩ = some (.int .i64 x.2.1) ∧ w'.cell? ⟨b, off + j * 6, none⟩ = some (.int .i64 q.1) ∧ w'.cell? ⟨b, off + j * 6 + 1, none⟩ = some (.int .i64 q.2.1))
              (first
              | exact ⟨bel_draw1 _, m0, m1, p0, p1⟩
              | (go_split_ands
                 refine ⟨bel_on (by assumption) hbc, cell_later hbc (by assumption), cell_later hbc (by assumption), cell_later hbc (by assumption), cell_later hbc (by assumption)⟩))
              (first | (go_at_call 201; refine ((unhide CC) _).mono ?_; rintro e w' ⟨rfl, hbc⟩))
            rename_i hH
            have HH := hide (bel_on (unhide HB2) hH.1)
            have m2 := cell_later hH.1 (unhide M2)
            have hs3 := World.block_lt_of_cell? _ _ m2
            clear hH
            by_cases hf : 1000000000 < S + v
            · have R : Hid (ckGo none 0 L = 12) := by show _ = _; rw [unhide A4, if_pos hf]
              clear A4
              go_wp2
              go_ret
              exact ⟨by rw [unhide R]; rfl, unhide HH⟩
            · have R : Hid (ckGo none 0 L = ckGo (prevP L (j + 1 + 1)) (S + v) (L.drop (j + 1 + 1))) := by show _ = _; rw [unhide A4, if_neg hf, unhide PN]
              clear A4
              go_wp2
              go_roundw
              case rel => exact ⟨j + 1 + 1, S + v, by omega, by go_num, rfl, by omega, by omega, R, unhide HH⟩
              case measure => simp [intOf]; omega
      · have R : Hid (ckGo none 0 L = z) := by show _ = _; rw [unhide A2, if_pos hz0]
        have gz : (z != 0) = true := by simp [hz0]
        unfold cnV at C1
        clear A A2 ST HN HL PN hx hin hO hb hz n3 n4 n5 hX hz0
        go_wp2_with fail
        rw [← unhide HX]
        go_wp2_with fail
        refine (unhide C1).mono ?_
        rintro e w2 ⟨rfl, hb2⟩
        have HB2 := hide (bel_on (bel_on (unhide HB) (unhide HBX)) hb2)
        clear hb2
        go_wp2
        go_ret
        exact ⟨by rw [unhide R]; rfl, unhide HB2⟩
    · have R : Hid (ckGo none 0 L = 0) := by show _ = _; rw [unhide A, ckGo_end L k (by rw [unhide HZ]; omega)]
      clear A hb
      go_wp2
      go_ret
      exact ⟨by rw [unhide R]; rfl, unhide HB⟩

set_option maxHeartbeats 400000 in
theorem uCheck_many (a : Option Addr) (n c : Nat) (w : World) (h : 720 < n) :
    Calls Tryz.prog 143 #[.slice a n c] w fun e w' => e = .returned (.int .i64 2) ∧ w = w' := by
  go_enter Tryz.func143, Tryz.ntmps143
  go_wp2
  go_ret
  exact ⟨rfl, rfl⟩

set_option maxHeartbeats 400000 in
theorem uCheck_none (a : Option Addr) (c : Nat) (w : World) :
    Calls Tryz.prog 143 #[.slice a 0 c] w fun e w' => e = .returned (.int .i64 0) ∧ w = w' := by
  go_enter Tryz.func143, Tryz.ntmps143
  go_wp2
  refine wp_loop_rounds 1 ?_
  rw [rounds_succ]
  go_wp2
  go_ret
  exact ⟨rfl, rfl⟩

theorem uCheck_any (a : Option Addr) (n c : Nat) (L : List CoinD) (z : Int) (w : World) (h : CoinsAt w a n L) (hz : ckCoins L = z) :
    Calls Tryz.prog 143 #[.slice a n c] w fun e w' => e = .returned (.int .i64 z) ∧ Below w.heap.size w w' := by
  subst hz
  obtain ⟨hl, hc⟩ := h
  unfold ckCoins
  rw [hl]
  by_cases h1 : 720 < n
  · rw [if_pos h1]
    exact (uCheck_many a n c w h1).mono fun e w' ⟨x, y⟩ => ⟨x, y ▸ Below.refl _ _⟩
  · rw [if_neg h1]
    by_cases h2 : n = 0
    · subst h2
      have e : L = [] := List.length_eq_zero_iff.1 hl
      subst e
      exact (uCheck_none a c w).mono fun e w' ⟨x, y⟩ => ⟨x, y ▸ Below.refl _ _⟩
    · obtain ⟨b, off, rfl, _, hcell⟩ := hc (by omega)
      exact uCheck_some b off n c L w (by omega) hl hcell

end Go.Proofs.YtmomfkikogbdeaaGreatDoor

/- Copying, clearing and appending within a row whose elements have any number of cells. Nothing of the program. -/
namespace Go.Proofs.YtmomfkikogbdeaaGreatDoor
open Go.RowKit

/-- The row behind a copy. -/
def laid (L : List Value) (off : Nat) (cs : List Value) : List Value := L.take off ++ cs ++ L.drop (off + cs.length)
theorem laid_len (L : List Value) (off : Nat) (cs : List Value) (h : off + cs.length ≤ L.length) : (laid L off cs).length = L.length := by simp [laid]; omega

variable {P : Program}
theorem run_copy_wide (w : World) (dT sT ty elem : TypeId) (g o dLen dCap : Nat) (a : Addr) (sLen sCap k : Nat) (cur : Array Value) (t : TypeId) (cs : List Value)
    (hu : P.underlying dT = some (.slice elem)) (hs : (P.info? elem).map (·.size) = some k)
    (hg : w.heap[g]? = some (.cells cur t (0, 0))) (hn : cs.length = Nat.min sLen dLen * k)
    (hsrc : ∀ j v, cs[j]? = some v → w.cell? (a.add j) = some v) (hfit : o + cs.length ≤ cur.size) (h1 : ∀ v ∈ cs, v.oneCell' = true) :
    (Builtin.copy_ #[dT, sT] ty #[.slice (some ⟨g, o, none⟩) dLen dCap, .slice (some a) sLen sCap]).run P w =
      .ok (goInt (Nat.min sLen dLen)) (w.setRow g (laid cur.toList o cs).toArray) := by
  have hst := run_storeCells_at P g o t cs 0 cur w hg (by simpa using hfit) h1
  cases hq : P.info? elem with
  | none => simp [hq] at hs
  | some i =>
    have hi : i.size = k := by simpa [hq] using hs
    have hl := run_firstCells_some (P := P) w k (Nat.min sLen dLen) a sLen sCap cs hn hsrc
    simp only [Nat.add_zero] at hst
    simp [Builtin.copy_, run_underlying hu, Builtin.lenOf, sizeOf, typeInfo, hq, hi, hl, hst, laid]

theorem run_clear_wide (w : World) (t e ty : TypeId) (z : Value) (ht : P.underlying t = some (.slice e)) (hv : ∀ w, (zeroValue e).run P w = .ok z w) (g o n c k : Nat) (cur : Array Value) (te : TypeId) (cs : List Value) (hn : 0 < n)
    (hcs : (Builtin.zeroCells z.cells n).toList = cs) (hg : w.heap[g]? = some (.cells cur te (0, 0))) (hk : cs.length = n * k) (hfit : o + n * k ≤ cur.size) (h1 : ∀ v ∈ cs, v.oneCell' = true) :
    (Builtin.clear_ #[t] ty #[.slice (some ⟨g, o, none⟩) n c]).run P w = .ok (.tuple #[]) (w.setRow g (laid cur.toList o cs).toArray) := by
  have hst := run_storeCells_at P g o te cs 0 cur w hg (by simpa [hk] using hfit) h1
  simp only [Nat.add_zero] at hst
  obtain ⟨m, rfl⟩ : ∃ m, n = m + 1 := ⟨n - 1, by omega⟩
  simp [Builtin.clear_, run_underlying ht, hv, hcs, hst, laid]

/-- An append within the room of a row, as one step of a region that draws. -/
theorem step_append_within {ops : Array Oper} {o : Oper} {a : Act} {w : World} {K : Act → World → Prop} {Q : Exit → Act → World → Prop} {E : Prop}
    (hg : o.guard = none) (s x : Operand) (t : TypeId) (hop : o.op = Op.call { callee := Callee.builtin Builtin.append, args := #[s, x], argTypes := #[t, t] })
    (e : TypeId) (i : TypeInfo) (size : Nat) (h1 : P.underlying t = some (.slice e)) (h2 : P.info? e = some i) (h4 : i.size = size)
    (b n cap : Nat) (hs : a.eval s = .slice (some ⟨b, 0, none⟩) n cap)
    (ad : Addr) (m c : Nat) (news : List Value) (hx : a.eval x = .slice (some ad) m c) (hn : news.length = m * size) (hc : ∀ j u, news[j]? = some u → w.cell? (ad.add j) = some u) (h1c : ∀ u ∈ news, u.oneCell' = true)
    (hroom : n + m ≤ cap) (cur : Array Value) (te : TypeId) (hrow : w.heap[b]? = some (.cells cur te (0, 0))) (hfit : n * size + news.length ≤ cur.size)
    (hK : K (a.put o.dst (.slice (some ⟨b, 0, none⟩) (n + m) cap)) (w.setRow b (laid cur.toList (n * size) news).toArray)) :
    if Region.wanted o (yielded ops a.tmps) = true then Oper.wp P o a w K Q else E := by
  have hw : Region.wanted o (yielded ops a.tmps) = true := by simp [Region.wanted, hg]
  rw [if_pos hw]
  subst h4
  have hfc := run_firstCells_some (P := P) w i.size m ad m c news hn hc
  have hst := run_storeCells_at P b (n * i.size) te news 0 cur w hrow (by simpa using hfit) h1c
  simp only [Nat.add_zero] at hst
  have hrun : (Builtin.append_ #[t, t] o.type #[.slice (some ⟨b, 0, none⟩) n cap, .slice (some ad) m c]).run P w = .ok (.slice (some ⟨b, 0, none⟩) (n + m) cap) (w.setRow b (laid cur.toList (n * i.size) news).toArray) := by
    simp [Builtin.append_, run_underlying h1, sizeOf, typeInfo, h2, Builtin.lenOf, hroom, hfc, Addr.add_lit, hst, laid]
  unfold Oper.wp
  simp [execOp, hop, resolve, invoke, builtin, hs, hx, hrun, Result.andThen]
  exact hK

theorem wpList_append_known (w : World) {ops : Array Oper} {rest : List Oper} {o : Oper} {a : Act} {Q : Exit → Act → World → Prop} (hgd : o.guard = none) (d s : Operand) (t t' : TypeId)
    (ho : o.op = .call { callee := .builtin .append, args := #[d, s], argTypes := #[t, t'] }) (v u : Value) (hd : a.eval d = v) (hs : a.eval s = u) {v' : Value} {w' : World}
    (hr : (Builtin.append_ #[t, t'] o.type #[v, u]).run P w = .ok v' w') (h : wpList P ops Q rest (a.put o.dst v') w') : wpList P ops Q (o :: rest) a w := by
  refine wpList_plain hgd fun K hK => ?_
  unfold Oper.wp
  simp [execOp, ho, resolve, invoke, builtin, hd, hs, hr, Result.andThen]
  exact hK _ _ h
end Go.Proofs.YtmomfkikogbdeaaGreatDoor
