/- The walk of the law TreeOrder. -/
import Derived.Test.YtklekpbladmjhaaTrOrderA
namespace Go.Proofs.Ytklekpbladmjhaa
open Go.RowKit

set_option maxRecDepth 10000 in
set_option maxHeartbeats 3200000 in
theorem order_bad (a b oa : Option Addr) (n c m d on oc : Nat) (N : List Int) (T : List BlkD) (x : Int) (w : World) (hN : IntsAt w a n N) (hT : BlksAt w b m T) (sN : SlOk a n c) (sT : SlOk b m d) (hx : chkTr N T = x) (h0 : x ≠ 0) :
    Calls Try.prog 5 #[.agg #[.slice a n c, .slice b m d], .slice oa on oc] w fun e w' => e = .returned (.bool true) ∧ Below w.heap.size w w' := by
  obtain ⟨X, hX⟩ : ∃ X, X = w.alloc (.cells #[.slice a n c, .slice b m d] 25) := ⟨_, rfl⟩
  have hbX : Below w.heap.size w X := by rw [hX]; exact bel_new _ _
  have hX0 : X.heap[w.heap.size]? = some (.cells [.slice a n c, .slice b m d].toArray 25 (0, 0)) := by rw [hX]; exact two_heap _ _ _ _
  have C := hide (fun W (hb : Below X.heap.size X W) => trCheck_any a b n c m d N T x W (hN.later (bel_on hbX hb)) (hT.later (bel_on hbX hb)) sN sT hx)
  have GR := hide grown_yes
  have g : (x != 0) = true := by simp [h0]
  have HB := hide hbX
  have HX0 := hide hX0
  clear hbX hX0 hN hT sN sT hx h0
  go_enter Try.func5, Try.ntmps5
  go_wp2_with fail
  rw [← hX]
  clear hX
  refine ((unhide GR) _).mono ?_
  rintro e w1 ⟨rfl, hb1⟩
  have h1 := (hb1.block _ (lt_of_block (unhide HX0))).trans (unhide HX0)
  have x0 := cell_of h1 0 _ rfl
  have x1 := cell_of h1 1 _ rfl
  have xl := lt_of_block h1
  have CC := hide ((unhide C) _ hb1)
  have HB1 := hide (bel_on (unhide HB) hb1)
  clear hb1 h1 C
  go_wp2_with fail
  refine (unhide CC).mono ?_
  rintro e w2 ⟨rfl, hb2⟩
  have HB2 := hide (bel_on (unhide HB1) hb2)
  clear hb2
  go_wp2_with fail
  refine ((unhide GR) _).mono ?_
  rintro e w3 ⟨rfl, hb3⟩
  have HB3 := hide (bel_on (unhide HB2) hb3)
  clear hb3
  go_wp2
  go_ret
  exact ⟨rfl, unhide HB3⟩

set_option maxRecDepth 10000 in
set_option maxHeartbeats 25600000 in
theorem order_ok (a b oa : Option Addr) (n c d on oc : Nat) (N : List Int) (T : List BlkD) (O : List Int) (w : World) (hN : IntsAt w a n N) (hT : BlksAt w b n T) (sN : SlOk a n c) (sT : SlOk b n d) (hO : IntsAt w oa on O) (sO : SlOk oa on oc) (hx : chkTr N T = 0) :
    Calls Try.prog 5 #[.agg #[.slice a n c, .slice b n d], .slice oa on oc] w fun e w' => e = .returned (.bool true) ∧ Below w.heap.size w w' := by
  obtain ⟨i0, hi, hz0, hz1, hz2⟩ := info_parts Try.infoInt
  obtain ⟨X, hX⟩ : ∃ X, X = w.alloc (.cells #[.slice a n c, .slice b n d] 25) := ⟨_, rfl⟩
  have hbX : Below w.heap.size w X := by rw [hX]; exact bel_new _ _
  have hX0 : X.heap[w.heap.size]? = some (.cells [.slice a n c, .slice b n d].toArray 25 (0, 0)) := by rw [hX]; exact two_heap _ _ _ _
  have C := hide (fun W (hb : Below X.heap.size X W) => trCheck_any a b n c n d N T 0 W (hN.later (bel_on hbX hb)) (hT.later (bel_on hbX hb)) sN sT hx)
  have GR := hide grown_yes
  have HB := hide hbX
  have HX0 := hide hX0
  have hn24 : n ≤ 24 := by rw [← hN.1]; exact (chkTr_ok hx).2.1
  have HC := hide hx
  have HN := hide hN
  have HT := hide hT
  have HO := hide hO
  have SN := hide sN
  have ST := hide sT
  have hon := sO.len
  unfold maxLen at hon
  clear hbX hX0 hN hT sN sT hx hO sO
  go_enter Try.func5, Try.ntmps5
  go_wp2_with fail
  rw [← hX]
  clear hX
  refine ((unhide GR) _).mono ?_
  rintro e w1 ⟨rfl, hb1⟩
  have h1 := (hb1.block _ (lt_of_block (unhide HX0))).trans (unhide HX0)
  have x0 := cell_of h1 0 _ rfl
  have x1 := cell_of h1 1 _ rfl
  have xl := lt_of_block h1
  have CC := hide ((unhide C) _ hb1)
  have HB1 := hide hb1
  clear hb1 h1 C
  go_wp2_with fail
  refine (unhide CC).mono ?_
  rintro e w2 ⟨rfl, hb2⟩
  have z0 := cell_later hb2 x0
  have z1 := cell_later hb2 x1
  have zl := Nat.lt_of_lt_of_le xl hb2.size
  obtain ⟨Y, hY⟩ : ∃ Y, Y = w2.alloc (.cells #[.slice none 0 0, .slice none 0 0] 25) := ⟨_, rfl⟩
  obtain ⟨t, ht⟩ : ∃ t, t = w2.heap.size := ⟨_, rfl⟩
  have hbY : Below X.heap.size X Y := bel_on (bel_on (unhide HB1) hb2) (by rw [hY]; exact bel_new _ _)
  have hYt : Y.heap[t]? = some (.cells [.slice none 0 0, .slice none 0 0].toArray 25 (0, 0)) := by rw [hY, ht]; exact two_heap _ _ _ _
  have htx : X.heap.size ≤ t := by rw [ht]; exact Nat.le_trans (unhide HB1).size hb2.size
  have hYX := (hbY.block _ (lt_of_block (unhide HX0))).trans (unhide HX0)
  have hwt : w.heap.size < t := Nat.lt_of_lt_of_le (lt_of_block (unhide HX0)) htx
  have KP : Hid (∀ W, Gr Y W (fun q => q = t) → Below w.heap.size w W ∧ W.cell? ⟨w.heap.size, 0, none⟩ = some (.slice a n c) ∧ W.cell? ⟨w.heap.size, 1, none⟩ = some (.slice b n d) ∧ w.heap.size < W.heap.size) := fun W g => by
    have h1 := g.heap hYX (by omega)
    exact ⟨g.below (bel_on (unhide HB) hbY) (by have := lt_of_block hYX; omega) (fun q e => by omega), cell_of h1 0 _ rfl, cell_of h1 1 _ rfl, lt_of_block h1⟩
  have S0 : Hid (OrS Y t [] [] Y) := ⟨0, none, 0, none, 0, hYt, IntsAt.nil _ _, RowsAt.nil _ _, ⟨Nat.le_refl _, Nat.zero_le _, fun _ => ⟨rfl, rfl⟩⟩, ⟨Nat.le_refl _, Nat.zero_le _, fun _ => ⟨rfl, rfl⟩⟩, Gr.refl _ _⟩
  obtain ⟨y0, y1, y2, yl⟩ := (unhide KP) Y (Gr.refl _ _)
  have AT := hide (fun k (h : 0 < n) => at_is k n h hn24)
  have HZN := hide (unhide HN).1
  have HZT := hide (unhide HT).1
  clear hb2 hbY hYt htx hYX y0 CC HX0 HB1 HB x0 x1 xl
  go_wp2_with fail
  rw [← hY, ← ht]
  clear hY ht z0 z1 zl
  go_loopw [38] (fun i wr => ∃ r : Nat, r ≤ n ∧ i = .int .i64 r ∧ Hid (∃ U V, Sub U V N T ∧ (0 < r → ∀ j (hj : j < N.length), N[j] ∈ U) ∧ OrS Y t U V wr)) (fun i _ => n - (intOf i).toNat)
  case atStart => exact ⟨0, Nat.zero_le _, rfl, (⟨[], [], Sub.nil N T, fun h => absurd h (by omega), unhide S0⟩ : ∃ U V, Sub U V N T ∧ (0 < 0 → ∀ j (hj : j < N.length), N[j] ∈ U) ∧ OrS Y t U V Y)⟩
  case round =>
    obtain ⟨r, hr, rfl, HU⟩ := hrel
    clear y1 y2 yl S0
    have hgr : Hid (Gr Y wr (fun q => q = t)) := by obtain ⟨U, V, _, _, n0, a1, c1, a2, c2, _, _, _, _, _, hg⟩ := unhide HU; exact hg
    obtain ⟨_, y1, y2, yl⟩ := (unhide KP) wr (unhide hgr)
    by_cases hrn : r < n
    · have hrI : (r : Int) < (n : Int) := by omega
      clear hgr
      go_wp2
      go_loopw [43] (fun i w3 => ∃ j : Nat, j ≤ n ∧ i = .int .i64 j ∧ Hid (∃ U V, Sub U V N T ∧ OrS Y t U V w3)) (fun i _ => n - (intOf i).toNat)
      case atStart => exact ⟨0, Nat.zero_le _, rfl, (by obtain ⟨U, V, h1, _, h3⟩ := unhide HU; exact ⟨U, V, h1, h3⟩ : ∃ U V, Sub U V N T ∧ OrS Y t U V wr)⟩
      case round =>
        obtain ⟨j, hj, rfl, HU3⟩ := hrel
        clear y1 y2 yl HU
        obtain ⟨U, V, hsub, hos⟩ := unhide HU3
        have HSUB := hide hsub
        have HOS := hide hos
        obtain ⟨n0, a1, c1, a2, c2, hbx, hui, hvi, su, sv, hg⟩ := hos
        obtain ⟨hbw, y1, y2, yl⟩ := (unhide KP) _ hg
        have HBW := hide hbw
        clear HU3 hsub hbx hui hvi su sv hg hbw
        by_cases hjn : j < n
        · have hjI : (j : Int) < (n : Int) := by omega
          go_upto_if 49 with fail
          go_cut [7, 49] from 50 to 62 (fun s7 _ wx => ∃ k q : Nat, k < n ∧ s7 = .int .i64 k ∧ wx = wr.drewN q)
          case first =>
            by_cases ho : on = 0
            · subst ho
              go_wp2_with fail
              go_meet
              case rel => exact ⟨j, 0, hjn, rfl, rfl⟩
            · obtain ⟨rr, hrr⟩ : ∃ rr, rr = j % on := ⟨_, rfl⟩
              have hrl : rr < on := by rw [hrr]; exact Nat.mod_lt _ (by omega)
              have hrem : Int.tmod (j : Int) (on : Int) = (rr : Int) := by rw [hrr, Int.tmod_eq_emod_of_nonneg (by omega)]; rfl
              obtain ⟨ob, ooff, rfl, hol, hoc⟩ := (unhide HO).2 (by omega)
              have hrO : rr < O.length := by rw [(unhide HO).1]; exact hrl
              have f1 := cell_later (unhide HBW) (hoc rr hrO)
              have fl := Nat.lt_of_lt_of_le hol (unhide HBW).size
              obtain ⟨v, hv⟩ : ∃ v, O[rr] = v := ⟨_, rfl⟩
              rw [hv] at f1
              obtain ⟨kv, hkv⟩ : ∃ kv, IntKind.i64.wrap ((j : Int) + v) = kv := ⟨_, rfl⟩
              obtain ⟨k, hk, CA⟩ := (unhide AT) kv (by omega)
              have CA := hide CA
              have ho0 : ¬ (on : Int) = 0 := by omega
              have hop : (0 : Int) < (on : Int) := by omega
              have hop2 : 0 < on := by omega
              have hrI2 : (rr : Int) < (on : Int) := by omega
              clear hoc hv hrr hrO
              go_wp2_with fail
              go_region_with (go_at_call 26; refine ((unhide CA) _).mono ?_; rintro e w' ⟨rfl, rfl⟩)
              all_goals
                go_wp2_with fail
                go_meet
                case rel => exact ⟨k, 1, hk, rfl, rfl⟩
          case rest =>
            obtain ⟨k, q, hk, rfl, rfl⟩ := hcut
            obtain ⟨W0, hW0⟩ : ∃ W0, W0 = wr.drewN q := ⟨_, rfl⟩
            have hbd : Below wr.heap.size wr W0 := by rw [hW0]; exact below_dn _ _
            have HOS0 := hide ((unhide HOS).keep hbd)
            have HBW0 := hide (bel_on (unhide HBW) hbd)
            rw [← hW0]
            clear hW0 hbd HOS HBW
            have hkN : k < N.length := by rw [unhide HZN]; exact hk
            have hkT : k < T.length := by rw [unhide HZT]; exact hk
            obtain ⟨nb, noff, rfl, hnl, hnc⟩ := (unhide HN).2 (by omega)
            obtain ⟨bb, boff, rfl, hbl, hbc0⟩ := (unhide HT).2 (by omega)
            have STEP := hide (fun U' V' => Sub.step (U' := U') (V' := V') (unhide HSUB) (unhide HC) hkN hkT)
            have MUST := hide (Sub.must (unhide HSUB) (unhide HC) hkN hkT)
            have f1 := cell_later (unhide HBW0) (hnc k hkN)
            have hin := BlkAt.kept _ _ _ _ _ (unhide HBW0) (hbc0 k hkT)
            obtain ⟨s, hs⟩ : ∃ s, N[k] = s := ⟨_, rfl⟩
            obtain ⟨bk, hbk⟩ : ∃ bk, T[k] = bk := ⟨_, rfl⟩
            rw [hs] at f1
            rw [hs, hbk] at STEP MUST
            rw [hbk] at hin
            obtain ⟨p, h, kk, o, Lx⟩ := bk
            obtain ⟨e0, e1, e2, e3, ta, tn, tc, e4, hL, sL⟩ := hin
            simp only at e0 e1 e2 e3 hL
            obtain ⟨U', V', x, hadd⟩ : ∃ U' V' x, addE U V s (p, h, kk, o, Lx) = (U', V', x) := ⟨_, _, _, rfl⟩
            obtain ⟨n', hn'⟩ : ∃ n', U'.length = n' := ⟨_, rfl⟩
            obtain ⟨n0, a1, c1, a2, c2, hbx, hui, hvi, su, sv, hg⟩ := unhide HOS0
            obtain ⟨_, y1, y2, yl⟩ := (unhide KP) _ hg
            have KS : Hid (∀ W, Below W0.heap.size W0 W → Below W0.heap.size W0 W ∧ W.cell? ⟨w.heap.size, 0, none⟩ = some (.slice (some ⟨nb, noff, none⟩) n c) ∧ W.cell? ⟨w.heap.size, 1, none⟩ = some (.slice (some ⟨bb, boff, none⟩) n d) ∧ W.cell? ⟨t, 0, none⟩ = some (.slice a1 n0 c1) ∧ W.cell? ⟨t, 1, none⟩ = some (.slice a2 n0 c2) ∧ W.cell? ⟨nb, noff + k, none⟩ = some (.int .i64 s) ∧ W.cell? ⟨bb, boff + k * 5, none⟩ = some (.int .i64 p) ∧ W.cell? ⟨bb, boff + k * 5 + 1, none⟩ = some (.int .i64 h) ∧ W.cell? ⟨bb, boff + k * 5 + 2, none⟩ = some (.int .i64 kk) ∧ W.cell? ⟨bb, boff + k * 5 + 3, none⟩ = some (.int .i64 o) ∧ W.cell? ⟨bb, boff + k * 5 + 4, none⟩ = some (.slice ta tn tc)) := fun W hb => ⟨hb, cell_later hb y1, cell_later hb y2, cell_later hb (cell_of hbx 0 _ rfl), cell_later hb (cell_of hbx 1 _ rfl), cell_later hb f1, cell_later hb e0, cell_later hb e1, cell_later hb e2, cell_later hb e3, cell_later hb e4⟩
            have CA : Hid (∀ W, Below W0.heap.size W0 W → Calls Try.prog 8 #[.agg #[.slice a1 n0 c1, .slice a2 n0 c2], .int .i64 s, .agg #[.int .i64 p, .int .i64 h, .int .i64 kk, .int .i64 o, .slice ta tn tc]] W fun e w' => AddR W w' U' V' n' x e) := fun W hb => add_is a1 a2 n0 c1 n0 c2 U V s p h kk o ta tn tc Lx U' V' n' x W (hui.later hb) (hvi.later hb) su sv (hL.later hb) sL hadd hn'
            have tlt := lt_of_block hbx
            have HADD := hide hadd
            have nlt := Nat.lt_of_lt_of_le hnl (unhide HBW0).size
            have blt := Nat.lt_of_lt_of_le hbl (unhide HBW0).size
            have hkI : (k : Int) < (n : Int) := by omega
            have u0 := cell_of hbx 0 _ rfl
            have u1 := cell_of hbx 1 _ rfl
            clear hnc hbc0 hbx hui hvi su sv hg hL sL hadd hn' hs hbk hnl hbl
            go_upto_region 12 with fail
            go_cut [8, 9] from 63 to 77 (fun s8 s9 wx => Hid (AdC W0 U V s (p, h, kk, o, Lx) s8 s9 wx))
            case first =>
              go_region_held3 (fun W => Below W0.heap.size W0 W ∧ W.cell? ⟨w.heap.size, 0, none⟩ = some (.slice (some ⟨nb, noff, none⟩) n c) ∧ W.cell? ⟨w.heap.size, 1, none⟩ = some (.slice (some ⟨bb, boff, none⟩) n d) ∧ W.cell? ⟨t, 0, none⟩ = some (.slice a1 n0 c1) ∧ W.cell? ⟨t, 1, none⟩ = some (.slice a2 n0 c2) ∧ W.cell? ⟨nb, noff + k, none⟩ = some (.int .i64 s) ∧ W.cell? ⟨bb, boff + k * 5, none⟩ = some (.int .i64 p) ∧ W.cell? ⟨bb, boff + k * 5 + 1, none⟩ = some (.int .i64 h) ∧ W.cell? ⟨bb, boff + k * 5 + 2, none⟩ = some (.int .i64 kk) ∧ W.cell? ⟨bb, boff + k * 5 + 3, none⟩ = some (.int .i64 o) ∧ W.cell? ⟨bb, boff + k * 5 + 4, none⟩ = some (.slice ta tn tc))
                (first
                | exact (unhide KS) _ (bel_draw1 _)
                | exact (unhide KS) _ (((unhide HB5).setCell (p := ⟨W0.heap.size, 0, none⟩) (Nat.le_refl _) _).setCell (p := ⟨W0.heap.size, 1, none⟩) (Nat.le_refl _) _)
                | exact (unhide KS) _ (bel_on (unhide HB5) (bel_new _ _))
                | (go_split_ands; exact (unhide KS) _ (bel_on (by assumption) (bel_new _ _)))
                | (go_split_ands; exact (unhide KS) _ (bel_on (by assumption) hbc)))
                (first
                | (go_at_call 8
                   refine ((unhide CA) _ ?_).mono ?_
                   · go_split_ands
                     assumption
                   rintro e w5 ⟨g1, d1, g2, d2, rfl, hF5, t1, t2, hbc⟩
                   have HB5 : Hid (Below W0.heap.size W0 w5) := by
                     go_split_ands
                     exact bel_on (by assumption) hbc
                   have HF5 := hide hF5
                   have HT1 := hide t1
                   have HT2 := hide t2
                   have HBC := hide hbc
                   (try have hz5 := (hbc.block W0.heap.size (by simp)).trans (two_heap W0.drew (.slice none 0 0) (.slice none 0 0) 25))
                   (try have z0 := cell_of hz5 0 _ rfl)
                   (try have z1 := cell_of hz5 1 _ rfl)
                   (try have zf0 := frozen_of hz5 0)
                   (try have zf1 := frozen_of hz5 1)
                   (try have zl := lt_of_block hz5)
                   clear hF5 t1 t2))
              all_goals
                go_wp2_with fail
                go_meet
                case rel =>
                  first
                  | exact adC_b (unhide HADD) (unhide HF5) (unhide HT1) (unhide HT2) (unhide HB5)
                  | exact adC_a (w4 := W0.drew.alloc (.cells #[.slice none 0 0, .slice none 0 0] 25)) (q := W0.heap.size) (X := [.slice none 0 0, .slice none 0 0]) (unhide HADD) (bel_on (bel_draw1 _) (bel_new _ _)) (Nat.le_refl _) (by simp) (two_heap W0.drew _ _ _) rfl (unhide HF5) (unhide HT1) (unhide HT2) (unhide HBC)
            case rest =>
              obtain ⟨qq, U2, V2, n2, x2, g1, d1, g2, d2, rfl, rfl, hadd2, hqx, hF, t1, t2, hbx⟩ := unhide hcut
              obtain ⟨rfl, rfl, rfl⟩ : U2 = U' ∧ V2 = V' ∧ x2 = x := by
                have q := hadd2.symm.trans (unhide HADD)
                exact ⟨congrArg (·.1) q, congrArg (·.2.1) q, congrArg (·.2.2) q⟩
              have HK := hide ((unhide HOS0).keep hbx)
              clear hcut HADD CA KS f1 e0 e1 e2 e3 e4 y1 y2 u0 u1
              by_cases q0 : x2 = 0
              · subst q0
                have HNX := hide ((unhide HOS0).store hF t1 t2 hbx)
                have HST := hide ((unhide STEP) _ _ hadd2)
                have r0 := cell_of hqx 0 _ rfl
                have r1 := cell_of hqx 1 _ rfl
                have rl := lt_of_block hqx
                obtain ⟨n3, b1, f1, b2, f2, hbx3, _⟩ := unhide HK
                have s0 := cell_of hbx3 0 _ rfl
                have s1 := cell_of hbx3 1 _ rfl
                have sf0 := frozen_of hbx3 0
                have sf1 := frozen_of hbx3 1
                have sl := lt_of_block hbx3
                clear hF t1 t2 hbx hqx hbx3 HK hadd2 STEP MUST
                go_wp2
                go_roundw
                case rel => exact ⟨j + 1, by omega, by go_num, (⟨_, _, (unhide HST).1, unhide HNX⟩ : ∃ U V, Sub U V N T ∧ OrS Y t U V _)⟩
                case measure => simp [intOf]; omega
              · have gx : (x2 == 0) = false := by simp [q0]
                clear hF t1 t2 hbx hqx hadd2 STEP MUST q0
                go_wp2
                go_roundw
                case rel => exact ⟨j + 1, by omega, by go_num, (⟨_, _, unhide HSUB, unhide HK⟩ : ∃ U V, Sub U V N T ∧ OrS Y t U V _)⟩
                case measure => simp [intOf]; omega
        · have HU5 : Hid (∃ U V, Sub U V N T ∧ OrS Y t U V wr) := ⟨U, V, unhide HSUB, unhide HOS⟩
          clear HSUB HOS
          go_wp2
          go_loopw [85] (fun i w4 => ∃ j2 : Nat, j2 ≤ n ∧ i = .int .i64 j2 ∧ Hid (∃ U V, Sub U V N T ∧ (∀ i (hi : i < N.length), i < j2 → N[i] ∈ U) ∧ OrS Y t U V w4)) (fun i _ => n - (intOf i).toNat)
          case atStart => exact ⟨0, Nat.zero_le _, rfl, (by obtain ⟨U, V, h1, h2⟩ := unhide HU5; exact ⟨U, V, h1, fun i hi h => absurd h (by omega), h2⟩ : ∃ U V, Sub U V N T ∧ (∀ i (hi : i < N.length), i < 0 → N[i] ∈ U) ∧ OrS Y t U V wr)⟩
          case round =>
            obtain ⟨j2, hjj, rfl, HU4⟩ := hrel
            clear y1 y2 yl HU5 HBW
            obtain ⟨U, V, hsub4, hall, hos4⟩ := unhide HU4
            have HSUB := hide hsub4
            have hg4 : Gr Y wr (fun q => q = t) := by obtain ⟨n0, a1, c1, a2, c2, _, _, _, _, _, hg⟩ := hos4; exact hg
            obtain ⟨hbw4, y1, y2, yl⟩ := (unhide KP) _ hg4
            clear hg4
            by_cases hj2 : j2 < n
            ·
              have hk : j2 < n := hj2
              have HBW0 := hide hbw4
              have HOS0 := hide hos4
              have HALL := hide hall
              clear hbw4 hos4 hall hsub4 HU4
              have hkN : j2 < N.length := by rw [unhide HZN]; exact hk
              have hkT : j2 < T.length := by rw [unhide HZT]; exact hk
              obtain ⟨nb, noff, rfl, hnl, hnc⟩ := (unhide HN).2 (by omega)
              obtain ⟨bb, boff, rfl, hbl, hbc0⟩ := (unhide HT).2 (by omega)
              have STEP := hide (fun U' V' => Sub.step (U' := U') (V' := V') (unhide HSUB) (unhide HC) hkN hkT)
              have MUST := hide (Sub.must (unhide HSUB) (unhide HC) hkN hkT)
              have f1 := cell_later (unhide HBW0) (hnc j2 hkN)
              have hin := BlkAt.kept _ _ _ _ _ (unhide HBW0) (hbc0 j2 hkT)
              obtain ⟨s, hs⟩ : ∃ s, N[j2] = s := ⟨_, rfl⟩
              obtain ⟨bk, hbk⟩ : ∃ bk, T[j2] = bk := ⟨_, rfl⟩
              rw [hs] at f1
              have HSN := hide hs
              rw [hs, hbk] at STEP MUST
              rw [hbk] at hin
              obtain ⟨p, h, kk, o, Lx⟩ := bk
              obtain ⟨e0, e1, e2, e3, ta, tn, tc, e4, hL, sL⟩ := hin
              simp only at e0 e1 e2 e3 hL
              obtain ⟨U', V', x, hadd⟩ : ∃ U' V' x, addE U V s (p, h, kk, o, Lx) = (U', V', x) := ⟨_, _, _, rfl⟩
              obtain ⟨n', hn'⟩ : ∃ n', U'.length = n' := ⟨_, rfl⟩
              obtain ⟨n0, a1, c1, a2, c2, hbx, hui, hvi, su, sv, hg⟩ := unhide HOS0
              obtain ⟨_, y1, y2, yl⟩ := (unhide KP) _ hg
              have KS : Hid (∀ W, Below wr.heap.size wr W → Below wr.heap.size wr W ∧ W.cell? ⟨w.heap.size, 0, none⟩ = some (.slice (some ⟨nb, noff, none⟩) n c) ∧ W.cell? ⟨w.heap.size, 1, none⟩ = some (.slice (some ⟨bb, boff, none⟩) n d) ∧ W.cell? ⟨t, 0, none⟩ = some (.slice a1 n0 c1) ∧ W.cell? ⟨t, 1, none⟩ = some (.slice a2 n0 c2) ∧ W.cell? ⟨nb, noff + j2, none⟩ = some (.int .i64 s) ∧ W.cell? ⟨bb, boff + j2 * 5, none⟩ = some (.int .i64 p) ∧ W.cell? ⟨bb, boff + j2 * 5 + 1, none⟩ = some (.int .i64 h) ∧ W.cell? ⟨bb, boff + j2 * 5 + 2, none⟩ = some (.int .i64 kk) ∧ W.cell? ⟨bb, boff + j2 * 5 + 3, none⟩ = some (.int .i64 o) ∧ W.cell? ⟨bb, boff + j2 * 5 + 4, none⟩ = some (.slice ta tn tc)) := fun W hb => ⟨hb, cell_later hb y1, cell_later hb y2, cell_later hb (cell_of hbx 0 _ rfl), cell_later hb (cell_of hbx 1 _ rfl), cell_later hb f1, cell_later hb e0, cell_later hb e1, cell_later hb e2, cell_later hb e3, cell_later hb e4⟩
              have CA : Hid (∀ W, Below wr.heap.size wr W → Calls Try.prog 8 #[.agg #[.slice a1 n0 c1, .slice a2 n0 c2], .int .i64 s, .agg #[.int .i64 p, .int .i64 h, .int .i64 kk, .int .i64 o, .slice ta tn tc]] W fun e w' => AddR W w' U' V' n' x e) := fun W hb => add_is a1 a2 n0 c1 n0 c2 U V s p h kk o ta tn tc Lx U' V' n' x W (hui.later hb) (hvi.later hb) su sv (hL.later hb) sL hadd hn'
              have tlt := lt_of_block hbx
              have HADD := hide hadd
              have nlt := Nat.lt_of_lt_of_le hnl (unhide HBW0).size
              have blt := Nat.lt_of_lt_of_le hbl (unhide HBW0).size
              have hkI : (j2 : Int) < (n : Int) := by omega
              have u0 := cell_of hbx 0 _ rfl
              have u1 := cell_of hbx 1 _ rfl
              clear hnc hbc0 hbx hui hvi su sv hg hL sL hadd hn' hs hbk hnl hbl
              go_upto_region 19 with fail
              go_cut [11, 12] from 88 to 102 (fun s8 s9 wx => Hid (AdC wr U V s (p, h, kk, o, Lx) s8 s9 wx))
              case first =>
                go_region_held3 (fun W => Below wr.heap.size wr W ∧ W.cell? ⟨w.heap.size, 0, none⟩ = some (.slice (some ⟨nb, noff, none⟩) n c) ∧ W.cell? ⟨w.heap.size, 1, none⟩ = some (.slice (some ⟨bb, boff, none⟩) n d) ∧ W.cell? ⟨t, 0, none⟩ = some (.slice a1 n0 c1) ∧ W.cell? ⟨t, 1, none⟩ = some (.slice a2 n0 c2) ∧ W.cell? ⟨nb, noff + j2, none⟩ = some (.int .i64 s) ∧ W.cell? ⟨bb, boff + j2 * 5, none⟩ = some (.int .i64 p) ∧ W.cell? ⟨bb, boff + j2 * 5 + 1, none⟩ = some (.int .i64 h) ∧ W.cell? ⟨bb, boff + j2 * 5 + 2, none⟩ = some (.int .i64 kk) ∧ W.cell? ⟨bb, boff + j2 * 5 + 3, none⟩ = some (.int .i64 o) ∧ W.cell? ⟨bb, boff + j2 * 5 + 4, none⟩ = some (.slice ta tn tc))
                  (first
                  | exact (unhide KS) _ (bel_draw1 _)
                  | exact (unhide KS) _ (((unhide HB5).setCell (p := ⟨wr.heap.size, 0, none⟩) (Nat.le_refl _) _).setCell (p := ⟨wr.heap.size, 1, none⟩) (Nat.le_refl _) _)
                  | exact (unhide KS) _ (bel_on (unhide HB5) (bel_new _ _))
                  | (go_split_ands; exact (unhide KS) _ (bel_on (by assumption) (bel_new _ _)))
                  | (go_split_ands; exact (unhide KS) _ (bel_on (by assumption) hbc)))
                  (first
                  | (go_at_call 8
                     refine ((unhide CA) _ ?_).mono ?_
                     · go_split_ands
                       assumption
                     rintro e w5 ⟨g1, d1, g2, d2, rfl, hF5, t1, t2, hbc⟩
                     have HB5 : Hid (Below wr.heap.size wr w5) := by
                       go_split_ands
                       exact bel_on (by assumption) hbc
                     have HF5 := hide hF5
                     have HT1 := hide t1
                     have HT2 := hide t2
                     have HBC := hide hbc
                     (try have hz5 := (hbc.block wr.heap.size (by simp)).trans (two_heap wr.drew (.slice none 0 0) (.slice none 0 0) 25))
                     (try have z0 := cell_of hz5 0 _ rfl)
                     (try have z1 := cell_of hz5 1 _ rfl)
                     (try have zf0 := frozen_of hz5 0)
                     (try have zf1 := frozen_of hz5 1)
                     (try have zl := lt_of_block hz5)
                     clear hF5 t1 t2))
                all_goals
                  go_wp2_with fail
                  go_meet
                  case rel =>
                    first
                    | exact adC_b (unhide HADD) (unhide HF5) (unhide HT1) (unhide HT2) (unhide HB5)
                    | exact adC_a (w4 := wr.drew.alloc (.cells #[.slice none 0 0, .slice none 0 0] 25)) (q := wr.heap.size) (X := [.slice none 0 0, .slice none 0 0]) (unhide HADD) (bel_on (bel_draw1 _) (bel_new _ _)) (Nat.le_refl _) (by simp) (two_heap wr.drew _ _ _) rfl (unhide HF5) (unhide HT1) (unhide HT2) (unhide HBC)
              case rest =>
                obtain ⟨qq, U2, V2, n2, x2, g1, d1, g2, d2, rfl, rfl, hadd2, hqx, hF, t1, t2, hbx⟩ := unhide hcut
                obtain ⟨rfl, rfl, rfl⟩ : U2 = U' ∧ V2 = V' ∧ x2 = x := by
                  have q := hadd2.symm.trans (unhide HADD)
                  exact ⟨congrArg (·.1) q, congrArg (·.2.1) q, congrArg (·.2.2) q⟩
                have HK := hide ((unhide HOS0).keep hbx)
                clear hcut HADD CA KS f1 e0 e1 e2 e3 e4 y1 y2 u0 u1
                by_cases q0 : x2 = 0
                · subst q0
                  have HNX := hide ((unhide HOS0).store hF t1 t2 hbx)
                  have HOK : Hid (∃ U V, Sub U V N T ∧ (∀ i (hi : i < N.length), i < j2 + 1 → N[i] ∈ U) ∧ OrS Y t U V ((wc.setCell ⟨t, 0, none⟩ (.slice g1 n2 d1)).setCell ⟨t, 1, none⟩ (.slice g2 n2 d2))) := ⟨_, _, ((unhide STEP) _ _ hadd2).1, fun i hi hij => by
                        rw [((unhide STEP) _ _ hadd2).2]
                        rcases Nat.lt_or_ge i j2 with q | q
                        · exact List.mem_append_left _ ((unhide HALL) i hi q)
                        · have e3 : i = j2 := by omega
                          subst e3
                          rw [unhide HSN]
                          exact List.mem_append_right _ (by simp), unhide HNX⟩
                  have r0 := cell_of hqx 0 _ rfl
                  have r1 := cell_of hqx 1 _ rfl
                  have rl := lt_of_block hqx
                  obtain ⟨n3, b1, f1, b2, f2, hbx3, _⟩ := unhide HK
                  have s0 := cell_of hbx3 0 _ rfl
                  have s1 := cell_of hbx3 1 _ rfl
                  have sf0 := frozen_of hbx3 0
                  have sf1 := frozen_of hbx3 1
                  have sl := lt_of_block hbx3
                  clear hF t1 t2 hbx hqx hbx3 HK hadd2 STEP MUST
                  go_wp2
                  go_roundw
                  case rel => exact ⟨j2 + 1, by omega, by go_num, HOK⟩
                  case measure => simp [intOf]; omega
                · have gx : (x2 == 0) = false := by simp [q0]
                  have hjm : s ∈ U := by
                    by_cases hm : s ∈ U
                    · exact hm
                    · obtain ⟨U3, V3, q3⟩ := (unhide MUST) (unhide HALL) hm
                      exact absurd (congrArg (·.2.2) (hadd2.symm.trans q3)) q0
                  have HNO : Hid (∃ U V, Sub U V N T ∧ (∀ i (hi : i < N.length), i < j2 + 1 → N[i] ∈ U) ∧ OrS Y t U V wc) := ⟨U, V, unhide HSUB, fun i hi hij => by
                    rcases Nat.lt_or_ge i j2 with q | q
                    · exact (unhide HALL) i hi q
                    · have e3 : i = j2 := by omega
                      subst e3
                      rw [unhide HSN]
                      exact hjm, unhide HK⟩
                  clear hjm
                  clear hF t1 t2 hbx hqx hadd2 STEP MUST q0
                  go_wp2
                  go_roundw
                  case rel => exact ⟨j2 + 1, by omega, by go_num, HNO⟩
                  case measure => simp [intOf]; omega
            · have e2 : j2 = n := by omega
              have HFIN : Hid (∃ U V, Sub U V N T ∧ (0 < r + 1 → ∀ i (hi : i < N.length), N[i] ∈ U) ∧ OrS Y t U V wr) := ⟨U, V, hsub4, fun _ i hi => hall i hi (by rw [e2, ← unhide HZN]; exact hi), hos4⟩
              clear HU4 hsub4 hall hos4 hbw4 HSUB
              go_wp2
              go_roundw
              case rel => exact ⟨r + 1, by omega, by go_num, HFIN⟩
              case measure => simp [intOf]; omega
    · have HU6 : Hid (∃ U V, Sub U V N T ∧ (∀ j (hj : j < N.length), N[j] ∈ U) ∧ OrS Y t U V wr) := by
        obtain ⟨U, V, h1, h2, h3⟩ := unhide HU
        refine ⟨U, V, h1, fun j hj => ?_, h3⟩
        exact h2 (by have := unhide HZN; omega) j hj
      obtain ⟨U, V, hsub, hall, hos⟩ := unhide HU6
      obtain ⟨hlen, hs⟩ := hsub.full (unhide HC) hall
      obtain ⟨n0, a1, c1, a2, c2, hbx, hui, hvi, su, sv, hg⟩ := hos
      obtain rfl : n = n0 := by rw [← hui.1, hlen, unhide HZN]
      obtain ⟨p, hp⟩ : ∃ p, bstGo N T 0 0 N = p := ⟨_, rfl⟩
      have hb1 : bstD N T = (p, 0) := by rw [bstD_mk (unhide HC), hp]
      have hb2 : bstD U V = (p, 0) := by rw [bstD_mk hsub.chk, best_same hsub (unhide HC) hs, hp]
      obtain ⟨hbw, _⟩ := (unhide KP) _ hg
      have C1 := hide (best_is a b n c n d N T p 0 wr ((unhide HN).later hbw) ((unhide HT).later hbw) (unhide SN) (unhide ST) hb1)
      have C2 := hide (fun W (hb : Below wr.heap.size wr W) => best_is a1 a2 n c1 n c2 U V p 0 W (hui.later hb) (hvi.later hb) su sv hb2)
      obtain ⟨wv, hwv⟩ : ∃ wv, wrkD N T p = wv := ⟨_, rfl⟩
      have MX : Hid ((p = 0 ∨ p ∈ N) ∧ ∀ y, (y = 0 ∨ y ∈ N) → wrkD N T y ≤ wv) := by
        have okN := TrOk.of (unhide HC)
        have h := best_max okN
        rw [hp] at h
        refine ⟨h.1, fun y hy => ?_⟩
        rw [← hwv]
        by_cases e : y ∈ N
        · have := h.2 y e; omega
        · have e0 : y = 0 := by rcases hy with q | q; exact q; exact absurd q e
          subst e0
          rw [okN.wrk_zero]
          exact (wrk_bd okN.heads p).1
      have BX : Hid (∀ W, Below wr.heap.size wr W → Below w.heap.size w W ∧ W.cell? ⟨w.heap.size, 0, none⟩ = some (.slice a n c) ∧ W.cell? ⟨w.heap.size, 1, none⟩ = some (.slice b n d) ∧ w.heap.size < W.heap.size ∧ W.cell? ⟨t, 0, none⟩ = some (.slice a1 n c1) ∧ W.cell? ⟨t, 1, none⟩ = some (.slice a2 n c2) ∧ t < W.heap.size) := fun W hb =>
        ⟨bel_on hbw hb, cell_later hb y1, cell_later hb y2, Nat.lt_of_lt_of_le yl hb.size, cell_later hb (cell_of hbx 0 _ rfl), cell_later hb (cell_of hbx 1 _ rfl), Nat.lt_of_lt_of_le (lt_of_block hbx) hb.size⟩
      have T2 : Hid (∀ W, Below wr.heap.size wr W → IntsAt W a1 n U ∧ BlksAt W a2 n V) := fun W hb => ⟨hui.later hb, hvi.later hb⟩
      have T1 : Hid (∀ W, Below wr.heap.size wr W → IntsAt W a n N ∧ BlksAt W b n T) := fun W hb => ⟨(unhide HN).later (bel_on hbw hb), (unhide HT).later (bel_on hbw hb)⟩
      have HSUB := hide hsub
      have HS := hide hs
      have SU := hide su
      have SV := hide sv
      have HWV := hide hwv
      clear HU HU6 hgr hsub hall hlen hs hbx hui hvi su sv hg hp hb1 hb2 hbw hwv
      have hrI : ¬ (r : Int) < (n : Int) := by omega
      have gp : (p != p) = false := by simp
      have gn : ((n : Int) != (n : Int)) = false := by simp
      go_wp2_with fail
      refine (unhide C1).mono ?_
      rintro e w3 ⟨rfl, hb3⟩
      have HB3 := hide hb3
      clear hb3 C1 y1 y2 yl
      obtain ⟨_, y1, y2, yl, y3, y4, ym⟩ := (unhide BX) _ (unhide HB3)
      go_wp2_with fail
      refine ((unhide C2) _ (unhide HB3)).mono ?_
      rintro e w4 ⟨rfl, hb4⟩
      have HB4 := hide (bel_on (unhide HB3) hb4)
      clear hb4 C2 y1 y2 yl y3 y4 ym
      obtain ⟨_, y1, y2, yl, y3, y4, ym⟩ := (unhide BX) _ (unhide HB4)
      have OWN : Hid ((w4.alloc (.cells #[.int .i64 0] 3)).ownsRow w4.heap.size 3 1 (.slice (some ⟨w4.heap.size, 0, none⟩) 1 1) 1 [.int .i64 0]) := World.ownsRow_lit w4 #[.int .i64 0] 1 (Nat.le_refl _) (by unfold maxLen; omega) rfl
      have HN4 : Hid (IntsAt (w4.alloc (.cells #[.int .i64 0] 3)) a n N) := ((unhide T1) _ (bel_on (unhide HB4) (bel_new _ _))).1
      go_wp2_with (at_builtin; refine wpList_append_ints _ rfl _ _ 22 rfl w4.heap.size i0 Try.underlying22 hi hz0 hz1 hz2 _ 1 [.int .i64 0] rfl (unhide OWN) a n c N rfl (unhide HN4) (unhide SN) (by omega) (by simp) ?_; intro v7 w7 hown7 hgrow7; have ho7 : w7.ownsRow w4.heap.size 3 1 v7 (1 + n) ((0 :: N).map (Value.int .i64)) := (by simpa using hown7); obtain ⟨ia, ic, rfl, _, hia⟩ := ints_of_own ho7; have HB7 := hide (bel_on (unhide HB4) (((bel_new w4 _).grown hgrow7 (by simp) (fun q hq => by cases hq; exact Nat.le_refl _)) : Below w4.heap.size w4 w7)); obtain ⟨ln, hln⟩ : ∃ ln, 1 + n = ln := ⟨_, rfl⟩; rw [hln] at hia ⊢; have HIA := hide hia; have HLN := hide hln; clear hown7 hgrow7 ho7 hia hln)
      have hln25 : ln ≤ 25 := by have := unhide HLN; omega
      go_loopw [143] (fun i w8 => ∃ j : Nat, j ≤ ln ∧ i = .int .i64 j ∧ Hid (Below w7.heap.size w7 w8)) (fun i _ => ln - (intOf i).toNat)
      case atStart => exact ⟨0, Nat.zero_le _, rfl, (Below.refl _ _ : Below w7.heap.size w7 w7)⟩
      case round =>
        obtain ⟨j, hj, rfl, HB8⟩ := hrel
        clear y1 y2 yl y3 y4 ym
        by_cases hjl : j < ln
        · have hjL : j < (0 :: N).length := by rw [(unhide HIA).1]; exact hjl
          obtain ⟨ib, ioff, rfl, hil, hic⟩ := (unhide HIA).2 (by omega)
          have f1 := cell_later (unhide HB8) (hic j hjL)
          have fl := Nat.lt_of_lt_of_le hil (unhide HB8).size
          have hy : (0 :: N)[j] = 0 ∨ (0 :: N)[j] ∈ N := by
            rcases List.mem_cons.1 (List.getElem_mem hjL) with q | q
            · exact .inl q
            · exact .inr q
          obtain ⟨y, hyy⟩ : ∃ y, (0 :: N)[j] = y := ⟨_, rfl⟩
          rw [hyy] at f1 hy
          have hyU : y = 0 ∨ y ∈ U := by
            rcases hy with q | q
            · exact .inl q
            · exact .inr ((unhide HS) y q)
          obtain ⟨P, hP⟩ : ∃ P, pthD N T y = P := ⟨_, rfl⟩
          obtain ⟨pn, hpn⟩ : ∃ pn, P.length = pn := ⟨_, rfl⟩
          obtain ⟨v, hv⟩ : ∃ v, wrkD N T y = v := ⟨_, rfl⟩
          have hvw : ¬ wv < v := by have := (unhide MX).2 y hy; rw [hv] at this; omega
          have g1 : pathE N T y = (P, 0) := by rw [pathE_mk (unhide HC) hy, hP]
          have g2 : pathE U V y = (P, 0) := by rw [pathE_mk (unhide HSUB).chk hyU, (unhide HSUB).pth (unhide HC) hyU, hP]
          have g3 : workE N T y = (v, 0) := by rw [workE_mk (unhide HC) hy, hv]
          have g4 : workE N T p = (wv, 0) := by rw [workE_mk (unhide HC) (unhide MX).1, unhide HWV]
          have hpl : pn ≤ 1000 := by rw [← hpn, ← hP]; exact pth_len (TrOk.of (unhide HC)).heads y
          have HBR := hide (bel_on (unhide HB7) (unhide HB8))
          have E1 := hide (fun W hb => path_is a b n c n d N T y P pn 0 W ((unhide T1) W hb).1 ((unhide T1) W hb).2 (unhide SN) (unhide ST) g1 hpn)
          have E2 := hide (fun W hb => path_is a1 a2 n c1 n c2 U V y P pn 0 W ((unhide T2) W hb).1 ((unhide T2) W hb).2 (unhide SU) (unhide SV) g2 hpn)
          have E3 := hide (fun W hb => work_is a b n c n d N T y v 0 W ((unhide T1) W hb).1 ((unhide T1) W hb).2 (unhide SN) (unhide ST) g3)
          have E4 := hide (fun W hb => work_is a b n c n d N T p wv 0 W ((unhide T1) W hb).1 ((unhide T1) W hb).2 (unhide SN) (unhide ST) g4)
          obtain ⟨_, y1, y2, yl, y3, y4, ym⟩ := (unhide BX) _ (unhide HBR)
          have hjI : (j : Int) < (ln : Int) := by omega
          clear hic hil hyy hy hyU hP hpn hv g1 g2 g3 g4
          go_wp2_with fail
          refine ((unhide E1) _ (unhide HBR)).mono ?_
          rintro e w9 ⟨v9, rfl, ho9, hb9⟩
          obtain ⟨pa, pc, rfl, _, hpa⟩ := ints_of_own ho9
          have HB9 := hide (bel_on (unhide HBR) hb9)
          have H89 := hide (bel_on (unhide HB8) hb9)
          have HPA := hide hpa
          clear hb9 ho9 hpa y1 y2 yl y3 y4 ym E1 HBR
          obtain ⟨_, y1, y2, yl, y3, y4, ym⟩ := (unhide BX) _ (unhide HB9)
          go_wp2_with fail
          refine ((unhide E2) _ (unhide HB9)).mono ?_
          rintro e w10 ⟨v10, rfl, ho10, hb10⟩
          obtain ⟨qa, qc, rfl, _, hqa⟩ := ints_of_own ho10
          have HB10 := hide (bel_on (unhide HB9) hb10)
          have H810 := hide (bel_on (unhide H89) hb10)
          have HPA10 := hide ((unhide HPA).later hb10)
          have HQA := hide hqa
          clear hb10 ho10 hqa y1 y2 yl y3 y4 ym E2 HB9 H89 HPA
          obtain ⟨_, y1, y2, yl, y3, y4, ym⟩ := (unhide BX) _ (unhide HB10)
          go_wp2_with fail
          refine ((unhide E3) _ (unhide HB10)).mono ?_
          rintro e w11 ⟨rfl, hb11⟩
          have HB11 := hide (bel_on (unhide HB10) hb11)
          have H811 := hide (bel_on (unhide H810) hb11)
          have HPA11 := hide ((unhide HPA10).later hb11)
          have HQA11 := hide ((unhide HQA).later hb11)
          clear hb11 y1 y2 yl y3 y4 ym E3 HB10 H810 HPA10 HQA
          obtain ⟨_, y1, y2, yl, y3, y4, ym⟩ := (unhide BX) _ (unhide HB11)
          go_wp2_with fail
          refine ((unhide E4) _ (unhide HB11)).mono ?_
          rintro e w12 ⟨rfl, hb12⟩
          have H812 := hide (bel_on (unhide H811) hb12)
          have CE := hide (eqInt_is pa qa pn pn pc qc P P true w12 (by unfold maxLen; omega) ((unhide HPA11).later hb12) ((unhide HQA11).later hb12) (by simp))
          clear hb12 y1 y2 yl y3 y4 ym E4 HB11 H811 HPA11 HQA11
          go_wp2_with fail
          refine (unhide CE).mono ?_
          rintro e w13 ⟨rfl, hb13⟩
          have HN8 := hide (bel_on (unhide H812) hb13)
          clear hb13 CE H812
          go_wp2
          go_roundw
          case rel => exact ⟨j + 1, by omega, by go_num, HN8⟩
          case measure => simp [intOf]; omega
        · have HBF := hide ((unhide BX) _ (bel_on (unhide HB7) (unhide HB8))).1
          go_wp2
          go_ret
          exact ⟨rfl, unhide HBF⟩

end Go.Proofs.Ytklekpbladmjhaa
