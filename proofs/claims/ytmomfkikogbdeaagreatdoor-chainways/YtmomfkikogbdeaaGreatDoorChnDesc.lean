/- descend's loop (written by a program of ours: mkdesc2.py). -/
import Derived.Test.YtmomfkikogbdeaaGreatDoorChnInToChnDescA
namespace Go.Proofs.YtmomfkikogbdeaaGreatDoor
open Go.RowKit Go.Shelf

attribute [local go_sem] Oper.semAt_some

/-- Between two rounds. -/
def DcI (W0 : World) (n1 b7 : Nat) (st : Nat → List CoinD → Int × List CoinD) (C0 : List CoinD) {m : Nat} (pre : List { i : Nat // i < m }) (W : World) : Prop :=
  KpD n1 b7 b7 W0 W ∧ n1 ≤ W.heap.size ∧ ∃ C ca cn cc, foL st (pre.map (·.1)) C0 = (0, C) ∧ W.heap[b7]? = some (.cells #[.slice ca cn cc] 29 (0, 0)) ∧ CoinsAt W ca cn C ∧ SlOk ca cn cc
/-- A round has left: something is wrong. -/
def DcX (w : World) (n1 b8 b9 : Nat) (st : Nat → List CoinD → Int × List CoinD) (C0 : List CoinD) {m : Nat} (cd : Code) (pre : List { i : Nat // i < m }) (W : World) : Prop :=
  cd = .ret ∧ Below w.heap.size w W ∧ n1 ≤ W.heap.size ∧ ∃ y M, y ≠ 0 ∧ foL st (pre.map (·.1)) C0 = (y, M) ∧ W.heap[b8]? = some (.cells #[.slice none 0 0] 29 (0, 0)) ∧ W.heap[b9]? = some (.cells #[.int .i64 y] 30 (0, 0))
theorem dcI_own {W0 : World} {n1 b7 : Nat} {st : Nat → List CoinD → Int × List CoinD} {C0 : List CoinD} {m : Nat} (h7 : b7 < n1) : OwnFrom n1 (DcI W0 n1 b7 st C0 (m := m)) := by
  rintro pre W W' row ⟨k1, k2, C, ca, cn, cc, k3, k4, k5, k6⟩ hg hr
  refine ⟨k1.grown hg (fun r e => (hr r e).1) k2, Nat.le_trans k2 hg.size, C, ca, cn, cc, k3, ?_, coins_cells (kept_grown hg (fun r e => (hr r e).2)) k5, k6⟩
  exact (hg.block b7 (by omega) (fun e => by have := (hr b7 e.symm).1; omega)).trans k4
theorem dcX_own {w : World} {n1 b8 b9 : Nat} {st : Nat → List CoinD → Int × List CoinD} {C0 : List CoinD} {m : Nat} (hw : w.heap.size ≤ n1) (h8 : b8 < n1) (h9 : b9 < n1) (cd : Code) : OwnFrom n1 (DcX w n1 b8 b9 st C0 (m := m) cd) := by
  rintro pre W W' row ⟨k0, k1, k2, y, M, k3, k4, k5, k6⟩ hg hr
  refine ⟨k0, k1.grown hg (by omega) (fun r e => by have := (hr r e).1; omega), Nat.le_trans k2 hg.size, y, M, k3, k4, ?_, ?_⟩
  · exact (hg.block b8 (by omega) (fun e => by have := (hr b8 e.symm).1; omega)).trans k5
  · exact (hg.block b9 (by omega) (fun e => by have := (hr b9 e.symm).1; omega)).trans k6
theorem undos_box {W W' : World} {S : Nat → Prop} (hs : W.heap.size ≤ W'.heap.size) (hk : ∀ k, k < W.heap.size → ¬ S k → W'.heap[k]? = W.heap[k]?) (hB : ∀ k, S k → Box1 W k) {a : Option Addr} {n : Nat} {U : List (List CoinD)} (ha : ∀ ad, a = some ad → ¬ S ad.block) (h : UndosAt W a n U) : UndosAt W' a n U := by
  refine ⟨h.1, fun h0 => ?_⟩
  obtain ⟨b, off, rfl, hb, hc⟩ := h.2 h0
  refine ⟨b, off, rfl, Nat.lt_of_lt_of_le hb hs, fun i hi => ?_⟩
  obtain ⟨ca, cn, cc, h1, h2, h3⟩ := hc i hi
  exact ⟨ca, cn, cc, (World.cell?_of_block (a := ⟨b, off + i, none⟩) (hk b hb (ha _ rfl))).trans h1, coins_box hs hk hB h2, h3⟩
/-- What a round reads. -/
def SDc (b5 b13 b17 j : Nat) (ka : Option Addr) (kn kc : Nat) (bp bh bk bn : Int) (ta : Option Addr) (tn tc : Nat) (ua : Option Addr) (un uc : Nat) (V : World) : Prop :=
  V.cell? ⟨b5, 0, none⟩ = some (.slice ka kn kc) ∧ V.cell? ⟨b17, 0, none⟩ = some (.int .i64 bp) ∧ V.cell? ⟨b17, 1, none⟩ = some (.int .i64 bh) ∧ V.cell? ⟨b17, 2, none⟩ = some (.int .i64 bk) ∧ V.cell? ⟨b17, 3, none⟩ = some (.int .i64 bn) ∧ V.cell? ⟨b17, 4, none⟩ = some (.slice ta tn tc) ∧
  V.cell? ⟨b13, j, none⟩ = some (.slice ua un uc) ∧ b5 < V.heap.size ∧ b13 < V.heap.size ∧ b17 < V.heap.size


set_option maxRecDepth 100000 in
set_option maxHeartbeats 6400000 in
theorem desc_main (ka : Option Addr) (kn kc : Nat) (K : List ByteArray) (a b : Option Addr) (n c m d : Nat) (N : List Int) (T : List BlkD) (la : Option Addr) (ln lc : Nat) (C0 : List CoinD) (R L : List Int) (x : Int) (C' : List CoinD) (w : World) (hE : Env w) (hK : Bk.TextsAt w ka kn K) (hN : Tr.IntsAt w a n N) (hT : Tr.BlksAt w b m T) (sN : SlOk a n c) (sT : SlOk b m d) (hC : CoinsAt w la ln C0) (sC : SlOk la ln lc) (hR : R.length = 24) (hL : L.length = 24) (C4 : List CoinD) (U : List (List (List CoinD))) (hcl : clGo K N T R [] [] = (0, C4, U)) (hzz : ¬ L = List.replicate 24 0) (hx : dsGo K N T L U 24 C0 = (x, C')) :
    Calls Tryz.prog 65 #[.agg #[.slice ka kn kc], .agg #[.slice a n c, .slice b m d], .slice la ln lc, .agg (rowV R).toArray, .agg (rowV L).toArray] w fun e w' => CnR w w' x C' e := by
  obtain ⟨X, hX⟩ : ∃ X, X = ((((((w.alloc (.cells #[.slice ka kn kc] 24)).alloc (.cells #[.slice a n c, .slice b m d] 28)).alloc (.cells #[.slice la ln lc] 29)).alloc (.cells (rowV R).toArray 129)).alloc (.cells (rowV L).toArray 129)).alloc (.cells #[.slice none 0 0] 29)).alloc (.cells #[.int .i64 0] 30) := ⟨_, rfl⟩
  obtain ⟨hbX, hXs, x1, x2, x3, x4, x5, x6, x7⟩ := seven_boxes w _ _ _ _ _ _ _ X hX
  have hLI := row_info hL
  have hRI := row_info hR
  have HLX : Hid ((((((((w.alloc (.cells #[.slice ka kn kc] 24)).alloc (.cells #[.slice a n c, .slice b m d] 28)).alloc (.cells #[.slice la ln lc] 29)).alloc (.cells (rowV R).toArray 129)).alloc (.cells (rowV L).toArray 129)).alloc (.cells #[.slice none 0 0] 29)).alloc (.cells #[.int .i64 0] 30)).heap[w.heap.size + 4]? = some (.cells (rowV L).toArray 129 (0, 0))) := by rw [← hX]; exact x5
  obtain ⟨z, hz⟩ : ∃ z, decide (L = List.replicate 24 0) = z := ⟨_, rfl⟩
  have hEQ : ∀ V : World, (binOp .eql 129 (.agg (rowV L).toArray) (.agg #[.int .i64 0, .int .i64 0, .int .i64 0, .int .i64 0, .int .i64 0, .int .i64 0, .int .i64 0, .int .i64 0, .int .i64 0, .int .i64 0, .int .i64 0, .int .i64 0, .int .i64 0, .int .i64 0, .int .i64 0, .int .i64 0, .int .i64 0, .int .i64 0, .int .i64 0, .int .i64 0, .int .i64 0, .int .i64 0, .int .i64 0, .int .i64 0])).run Tryz.prog V = .ok (.bool z) V := fun V => by rw [zero24, ← hz]; exact rows_eql L hL V
  have HBX := hide hbX
  have HX1 := hide x1
  have HX2 := hide x2
  have HX3 := hide x3
  have HX4 := hide x4
  have HX5 := hide x5
  have HX6 := hide x6
  have HX7 := hide x7
  have HXS := hide hXs
  obtain rfl : z = false := by rw [← hz]; simpa using hzz
  have CL := hide (climb_is ka kn kc K a b n c m d N T none 0 0 [] R 0 C4 U X (hE.later hbX) (hK.later hbX) (hN.later hbX) (hT.later hbX) sN sT ⟨rfl, fun h => absurd h (by omega)⟩ slok_nil hR hcl)
  have c1 := cell_of (X := [.slice ka kn kc]) x1 0 _ rfl
  have l1 := lt_of_block x1
  have c20 := cell_of (X := [.slice a n c, .slice b m d]) x2 0 _ rfl
  have c21 := cell_of (X := [.slice a n c, .slice b m d]) x2 1 _ rfl
  have l2 := lt_of_block x2
  have HRX : Hid ((((((((w.alloc (.cells #[.slice ka kn kc] 24)).alloc (.cells #[.slice a n c, .slice b m d] 28)).alloc (.cells #[.slice la ln lc] 29)).alloc (.cells (rowV R).toArray 129)).alloc (.cells (rowV L).toArray 129)).alloc (.cells #[.slice none 0 0] 29)).alloc (.cells #[.int .i64 0] 30)).heap[w.heap.size + 3]? = some (.cells (rowV R).toArray 129 (0, 0))) := by rw [← hX]; exact x4
  have HE := hide hE
  have HK := hide hK
  have HN := hide hN
  have HT := hide hT
  have HC := hide hC
  have HL24 := hide hL
  have HXX := hide hx
  have HSN := hide sN
  have HST := hide sT
  have HSC := hide sC
  clear hE hK hN hT hC hR hL hbX hXs x1 x2 x3 x4 x5 x6 x7 hz hzz hcl hx sN sT sC
  refine (callsIn_wide (n := 3)).1 ?_
  refine callsIn_of_wp_marks Tryz.func65 rfl trivial ?_ rfl
  simp only [Tryz.ntmps65, List.size_toArray, List.length_cons, List.length_nil, Nat.reduceAdd, Nat.reduceSub, Array.replicate_succ, Array.replicate_zero, List.push_toArray, List.append_toArray, List.nil_append, List.cons_append]
  gi_wp2_with (first | refine wpListIn_load_row rfl 129 _ rfl _ rfl _ _ (unhide HLX) _ _ Tryz.underlying129 hLI ?_ | refine wpListIn_load_row rfl 129 _ rfl _ rfl _ _ (unhide HRX) _ _ Tryz.underlying129 hRI ?_)
  rw [← hX]
  clear hX HLX HRX
  refine ⟨trivial, (callsIn_wide.2 (unhide CL)).mono ?_⟩
  rintro e w1 ⟨oa, oon, oc, cs, rfl, hC1, sC1, hUn, hb1⟩
  have hci := un_info hUn.1
  have hc1 := hUn.one
  have hus : ((List.replicate 24 (Value.slice none 0 0)).toArray : Array Value).size = cs.toArray.size := by simp [hUn.1]
  obtain ⟨Y, hY⟩ : ∃ Y, Y = w1.alloc (.cells cs.toArray 133) := ⟨_, rfl⟩
  have E3 : Hid ((w1.alloc (.cells #[.slice none 0 0, .slice none 0 0, .slice none 0 0, .slice none 0 0, .slice none 0 0, .slice none 0 0, .slice none 0 0, .slice none 0 0, .slice none 0 0, .slice none 0 0, .slice none 0 0, .slice none 0 0, .slice none 0 0, .slice none 0 0, .slice none 0 0, .slice none 0 0, .slice none 0 0, .slice none 0 0, .slice none 0 0, .slice none 0 0, .slice none 0 0, .slice none 0 0, .slice none 0 0, .slice none 0 0] 133)).setRow w1.heap.size cs.toArray = Y) := by rw [hY]; exact World.setRow_alloc_new _ _ _ _
  have hbY : Below w1.heap.size w1 Y := by rw [hY]; exact bel_new _ _
  have hYs : Y.heap.size = w1.heap.size + 1 := by rw [hY]; simp
  have HYU : Hid (Y.heap[w1.heap.size]? = some (.cells cs.toArray 133 (0, 0))) := by rw [hY]; exact heap_alloc_new _ _
  have HUN := hide (hUn.later hbY)
  have hXY := bel_on hb1 hbY
  have hwY := bel_on (unhide HBX) hXY
  have hs1 := hb1.size
  have HXY := hide hXY
  have HWY := hide hwY
  have HYS := hide hYs
  have HS1 := hide hs1
  clear hC1 sC1 CL c1 l1 c20 c21 l2 hUn hb1 hY hbY hYs hXY hwY hs1
  have HCS : Hid (cs.toArray = cs.toArray) := rfl
  have HZ3 : Hid ((w1.alloc (.cells #[.slice none 0 0, .slice none 0 0, .slice none 0 0, .slice none 0 0, .slice none 0 0, .slice none 0 0, .slice none 0 0, .slice none 0 0, .slice none 0 0, .slice none 0 0, .slice none 0 0, .slice none 0 0, .slice none 0 0, .slice none 0 0, .slice none 0 0, .slice none 0 0, .slice none 0 0, .slice none 0 0, .slice none 0 0, .slice none 0 0, .slice none 0 0, .slice none 0 0, .slice none 0 0, .slice none 0 0] 133)).heap[w1.heap.size]? = some (.cells (List.replicate 24 (Value.slice none 0 0)).toArray 133 (0, 0))) := by rw [zeroU24]; exact heap_alloc_new _ _
  obtain ⟨CC, hCC⟩ : ∃ CC, CC = cs.toArray := ⟨_, rfl⟩
  rw [← hCC] at hci hc1 hus E3
  rw [← hCC]
  have HCC := hide hCC
  clear hCC HCS
  have BW := hide (backward_in (some ⟨w.heap.size + 4, 0, none⟩) 24 24 Y)
  have y5 := ((unhide HXY).block _ (lt_of_block (unhide HX5))).trans (unhide HX5)
  have y5l := lt_of_block y5
  have hL24 : (rowV L).toArray.size = 24 := by simp [rowV, unhide HL24]
  gi_wp2_with (refine wpListIn_store_row rfl 133 _ _ rfl _ rfl _ _ rfl _ (unhide HZ3) hci hus hc1 ?_; rw [unhide E3])
  refine ⟨trivial, (callsIn_wide.2 (unhide BW)).mono ?_⟩
  rintro e w3 ⟨rfl, rfl⟩
  obtain ⟨W0, hW0⟩ : ∃ W0, W0 = Y.alloc (.cells #[.slice (some ⟨w.heap.size + 4, 0, none⟩) 24 24] 25) := ⟨_, rfl⟩
  have hb0 : Below Y.heap.size Y W0 := by rw [hW0]; exact bel_new _ _
  have z0 : W0.heap[Y.heap.size]? = some (.cells [.slice (some ⟨w.heap.size + 4, 0, none⟩) 24 24].toArray 25 (0, 0)) := by rw [hW0]; exact heap_alloc_new _ _
  have hsW : W0.heap.size = Y.heap.size + 1 := by rw [hW0]; simp
  rw [show Y.alloc (.cells #[.slice (some ⟨w.heap.size + 4, 0, none⟩) 24 24] 25) = W0 from hW0.symm]
  have HZ0 := hide z0
  have HB0 := hide hb0
  clear hW0 BW z0 y5 y5l hLI hRI hEQ hci hc1 hus HZ3 E3
  gi_wp2_with fail
  have hsY := unhide HYS
  have hsX := unhide HXS
  have hs1 := unhide HS1
  have h0X0 : Below X.heap.size X W0 := bel_on (unhide HXY) hb0
  have hw0 : Below w.heap.size w W0 := bel_on (unhide HBX) h0X0
  have HX0 := hide h0X0
  have y4 := (h0X0.block _ (lt_of_block (unhide HX5))).trans (unhide HX5)
  have HCL : Hid (∀ j, j < 24 → W0.cell? ⟨w.heap.size + 4, j, none⟩ = some (.int .i64 (L.getD j 0))) := by
    intro j hj
    have hjL : j < L.length := by rw [unhide HL24]; exact hj
    rw [cell_of_row W0 _ j _ _ _ y4]
    simp [rowV, List.getD, hjL]
  have h7l : w.heap.size + 2 < W0.heap.size := by omega
  have q1 : w.heap.size + 4 < W0.heap.size := by omega
  have q2 : w.heap.size + 4 ≠ w.heap.size + 2 := by omega
  have q4 : Y.heap.size < W0.heap.size := by omega
  have q5 : Y.heap.size ≠ w.heap.size + 2 := by omega
  have q7 : w.heap.size ≤ W0.heap.size := by omega
  have q8 : w.heap.size + 5 < W0.heap.size := by omega
  have q9 : w.heap.size + 6 < W0.heap.size := by omega
  have QS := hide (show w.heap.size + 7 = X.heap.size ∧ X.heap.size ≤ w1.heap.size ∧ w1.heap.size + 1 = Y.heap.size ∧ Y.heap.size + 1 = W0.heap.size by omega)
  have Z7 := hide ((h0X0.block _ (lt_of_block (unhide HX3))).trans (unhide HX3))
  have HW0 := hide hw0
  clear hsY hsX hs1 hsW y4 hb0 hL24
  refine wpIn_rangeFunc_ownG (α := { i : Nat // i < 24 }) rfl (by decide) (gf := 197) (lb := #[.pointer (some ⟨Y.heap.size, 0, none⟩)]) rfl trivial (enters_of Tryz.func197 (by kernel_rfl) rfl)
    (backF_stops (fun j => L.getD j 0) Fence.wide (3 - 1) trivial rfl (by decide) Y.heap.size W0.heap.size (w.heap.size + 2) (w.heap.size + 2) (w.heap.size + 4) 24 24 (Nat.le_refl _) W0 rfl q1 q2 q2 q4 q5 q5 (cell_of (unhide HZ0) 0 _ rfl) (unhide HCL))
    (fun h k => KpD.trans h k) (fun W l o o' hl _ _ _ => KpD.put W l o' hl) (Below.refl _ _) (fun _ => rfl)
    (DcI W0 W0.heap.size (w.heap.size + 2) (dsSt K N T L U) C0) (DcX w W0.heap.size (w.heap.size + 5) (w.heap.size + 6) (dsSt K N T L U) C0)
    (dcI_own h7l) (dcX_own q7 q8 q9)
    ⟨KpD.refl _ _ _ _, Nat.le_refl _, C0, la, ln, lc, rfl, unhide Z7, (unhide HC).later hw0, unhide HSC⟩
    (fun x => { tmps := #[.agg #[.slice ka kn kc], .agg #[.slice a n c, .slice b m d], .slice la ln lc, .agg (rowV R).toArray, .agg (rowV L).toArray, .pointer (some ⟨w.heap.size, 0, none⟩), .pointer (some ⟨w.heap.size + 1, 0, none⟩), .pointer (some ⟨w.heap.size + 1 + 1, 0, none⟩), .pointer (some ⟨w.heap.size + 1 + 1 + 1, 0, none⟩), .pointer (some ⟨w.heap.size + 1 + 1 + 1 + 1, 0, none⟩), .pointer (some ⟨w.heap.size + 1 + 1 + 1 + 1 + 1, 0, none⟩), .pointer (some ⟨w.heap.size + 1 + 1 + 1 + 1 + 1 + 1, 0, none⟩), .slice oa oon oc, .pointer (some ⟨w1.heap.size, 0, none⟩), .int .i64 0, .int .i64 (x.1 : Int), .int .i64 (L.getD x.1 0), undef, undef, .agg (rowV L).toArray, .agg #[.int .i64 0, .int .i64 0, .int .i64 0, .int .i64 0, .int .i64 0, .int .i64 0, .int .i64 0, .int .i64 0, .int .i64 0, .int .i64 0, .int .i64 0, .int .i64 0, .int .i64 0, .int .i64 0, .int .i64 0, .int .i64 0, .int .i64 0, .int .i64 0, .int .i64 0, .int .i64 0, .int .i64 0, .int .i64 0, .int .i64 0, .int .i64 0], .bool false, undef, .tuple #[.slice oa oon oc, .agg CC, .int .i64 0], .agg #[.slice ka kn kc], .agg #[.slice a n c, .slice b m d], .agg (rowV R).toArray, .tuple #[.slice oa oon oc, .agg CC, .int .i64 0], .slice oa oon oc, .agg CC, .int .i64 0, .int .i64 0, .bool false, undef, .slice (some ⟨w.heap.size + 1 + 1 + 1 + 1, 0, none⟩) 24 24, .func (.func 197) #[] #[.pointer (some ⟨Y.heap.size, 0, none⟩)], .int .i64 (x.1 : Int), .int .i64 (L.getD x.1 0), undef, undef, undef, undef, undef, undef, undef, undef, undef, undef, undef, undef, undef, undef, undef, undef, undef, undef, undef, undef, undef, undef, undef, undef], defers := [] }) ?assign ?body ?done ?stop
  case assign =>
    intro l x W K hK
    gi_wp2
    exact hK
  case body =>
    rintro l pre x W ⟨hkp, hsz, C, ca, cn, cc, hd, h7, hCo, sCo⟩ _
    obtain ⟨j, hj⟩ := x
    have hQS := unhide QS
    have hBW : Below w.heap.size w W := hkp.below hw0 q7 (by omega) (by omega)
    obtain ⟨s, hs⟩ : ∃ s, L.getD j 0 = s := ⟨_, rfl⟩
    dsimp only
    rw [hs]
    have hjI : (j : Int) < 24 := by omega
    have hj0 : (0 : Int) ≤ (j : Int) := by omega
    have HKP := hide hkp
    have H7 := hide h7
    have HCO := hide hCo
    have HD := hide hd
    have HS := hide hs
    have HBW := hide hBW
    have HSZ := hide hsz
    by_cases h0 : s = 0
    · subst h0
      have HST0 : Hid (dsSt K N T L U j C = (0, C)) := by show _ = _; rw [dsSt, if_pos hs]
      clear hkp hsz hd h7 hCo hQS hBW hs HS HBW
      gi_wp2
      refine ⟨keeps_of_below (Below.refl _ _), KpD.refl _ _ _ _, unhide HKP, unhide HSZ, C, ca, cn, cc, ?_, unhide H7, unhide HCO, sCo⟩
      rw [List.map_append]
      have e := foL_snoc (unhide HD) (unhide HST0)
      rw [if_neg (fun r => r rfl)] at e
      exact e
    · have h0b : (s == 0) = false := by simp [h0]
      obtain ⟨⟨bx, y⟩, hbl⟩ : ∃ r, Tr.blockE N T s = r := ⟨_, rfl⟩
      obtain ⟨bp, bh, bk, bn, Lt⟩ := bx
      have C1 := hide (Tr.block_is a b n c m d N T s (bp, bh, bk, bn, Lt) y W ((unhide HN).later hBW) ((unhide HT).later hBW) (unhide HSN) (unhide HST) hbl)
      have z6 := (hkp.block (w.heap.size + 1) (by omega) (by omega) (by omega)).trans (((unhide HX0).block _ (lt_of_block (unhide HX2))).trans (unhide HX2))
      have q10 := cell_of (X := [.slice a n c, .slice b m d]) z6 0 _ rfl
      have q11 := cell_of (X := [.slice a n c, .slice b m d]) z6 1 _ rfl
      have q1l := lt_of_block z6
      have HBL := hide hbl
      clear hkp hsz hd h7 hCo hQS hBW hs hbl z6
      gi_wp2_with fail
      refine ⟨by first | trivial | exact fun q => (by cases q), CallsIn.inRound _ (callsIn_wide.2 ((unhide C1).mono ?_))⟩
      rintro e w4 ⟨ta, tn, tc, rfl, hTx, sTx, hb4⟩
      simp only at hTx
      obtain ⟨V0, hV0⟩ : ∃ V0, V0 = w4.alloc (.cells #[.int .i64 bp, .int .i64 bh, .int .i64 bk, .int .i64 bn, .slice ta tn tc] 39) := ⟨_, rfl⟩
      have hbV : Below w4.heap.size w4 V0 := by rw [hV0]; exact bel_new _ _
      have HVB : Hid (V0.heap[w4.heap.size]? = some (.cells [.int .i64 bp, .int .i64 bh, .int .i64 bk, .int .i64 bn, .slice ta tn tc].toArray 39 (0, 0))) := by rw [hV0]; exact five_heap _ _ _ _ _ _ _
      have hWV := bel_on hb4 hbV
      have HWV := hide hWV
      have HTX := hide (hTx.later hbV)
      have HBV := hide (bel_on (unhide HBW) hWV)
      have HSV := hide (Nat.le_trans (unhide HSZ) hWV.size)
      have HS4 := hide hb4.size
      have HS0 : Hid (V0.heap.size = w4.heap.size + 1) := by show _ = _; rw [hV0]; simp
      have KO0 : Hid (KeepsOthers W V0) := ⟨hWV.size, fun k _ hk _ => (hWV.block k (lt_of_block hk)).trans hk⟩
      have hQS := unhide QS
      have V8 := hide ((hWV.block _ (by have := unhide HSZ; omega)).trans (((unhide HKP).block (w.heap.size + 5) (by omega) (by omega) (by omega)).trans (((unhide HX0).block _ (lt_of_block (unhide HX6))).trans (unhide HX6))))
      have V9 := hide ((hWV.block _ (by have := unhide HSZ; omega)).trans (((unhide HKP).block (w.heap.size + 6) (by omega) (by omega) (by omega)).trans (((unhide HX0).block _ (lt_of_block (unhide HX7))).trans (unhide HX7))))
      have W8 := hide ((hb4.block _ (by have := unhide HSZ; omega)).trans (((unhide HKP).block (w.heap.size + 5) (by omega) (by omega) (by omega)).trans (((unhide HX0).block _ (lt_of_block (unhide HX6))).trans (unhide HX6))))
      have W9 := hide ((hb4.block _ (by have := unhide HSZ; omega)).trans (((unhide HKP).block (w.heap.size + 6) (by omega) (by omega) (by omega)).trans (((unhide HX0).block _ (lt_of_block (unhide HX7))).trans (unhide HX7))))
      have HB4 := hide (bel_on (unhide HBW) hb4)
      have HS4n := hide (Nat.le_trans (unhide HSZ) hb4.size)
      have KO4 : Hid (KeepsOthers W w4) := ⟨hb4.size, fun k _ hk _ => (hb4.block k (lt_of_block hk)).trans hk⟩
      have HWW4 := hide hb4
      clear hTx hbV hWV hb4 C1 q10 q11 q1l hQS
      by_cases hy : y = 0
      · subst hy
        obtain ⟨v, hv, ua, un, uc, rfl, hU0, hUb⟩ := (unhide HUN).2 j hj
        obtain ⟨⟨y3, M⟩, hdis⟩ : ∃ r, disD K C (bp, bh, bk, bn, Lt) (U.getD j []) = r := ⟨_, rfl⟩
        have HST1 : Hid (dsSt K N T L U j C = if y3 ≠ 0 then (y3, []) else (0, M)) := by show _ = _; rw [dsSt, unhide HS, if_neg h0, unhide HBL, if_neg (fun r => r rfl), hdis]
        have hQS := unhide QS
        have hs4 := unhide HS4
        have hs0 := unhide HS0
        have hszW := unhide HSZ
        have HUW : Hid (UndosAt W ua un (U.getD j [])) := undos_box (S := fun q => q = w.heap.size + 2) (unhide HKP).size (fun k hk hq => (unhide HKP).block k hk hq hq) (fun k e => by subst e; exact ⟨_, _, _, unhide Z7⟩) (fun ad e q => by have := hUb ad e; omega) (hU0.later (unhide HB0))
        have z1 : V0.heap[w.heap.size]? = some (.cells #[.slice ka kn kc] 24 (0, 0)) := ((unhide HWV).block _ (by omega)).trans (((unhide HKP).block w.heap.size (by omega) (by omega) (by omega)).trans (((unhide HX0).block _ (lt_of_block (unhide HX1))).trans (unhide HX1)))
        have z13 : V0.heap[w1.heap.size]? = some (.cells cs.toArray 133 (0, 0)) := ((unhide HWV).block _ (by omega)).trans (((unhide HKP).block w1.heap.size (by omega) (by omega) (by omega)).trans (((unhide HB0).block _ (lt_of_block (unhide HYU))).trans (unhide HYU)))
        have u13 : V0.cell? ⟨w1.heap.size, j, none⟩ = some (.slice ua un uc) := by rw [cell_of_row V0 _ j _ _ _ z13]; simpa using hv
        have z7 := ((unhide HWV).block _ (lt_of_block (unhide H7))).trans (unhide H7)
        have l13 := lt_of_block z13
        have l1 := lt_of_block z1
        have l17 := lt_of_block (unhide HVB)
        have KS : Hid (∀ V : World, V0.heap.size ≤ V.heap.size → (∀ k, k < V0.heap.size → k ≠ w.heap.size + 2 → V.heap[k]? = V0.heap[k]?) → SDc w.heap.size w1.heap.size w4.heap.size j ka kn kc bp bh bk bn ta tn tc ua un uc V) := by
          intro V hvs hv
          have g : ∀ k o v, k ≠ w.heap.size + 2 → V0.cell? ⟨k, o, none⟩ = some v → V.cell? ⟨k, o, none⟩ = some v := fun k o v h1 hc => (World.cell?_of_block (a := ⟨k, o, none⟩) (hv k (World.block_lt_of_cell? _ _ hc) h1)).trans hc
          exact ⟨g _ _ _ (by omega) (cell_of (X := [.slice ka kn kc]) z1 0 _ rfl), g _ _ _ (by omega) (cell_of (unhide HVB) 0 _ rfl), g _ _ _ (by omega) (cell_of (unhide HVB) 1 _ rfl), g _ _ _ (by omega) (cell_of (unhide HVB) 2 _ rfl), g _ _ _ (by omega) (cell_of (unhide HVB) 3 _ rfl), g _ _ _ (by omega) (cell_of (unhide HVB) 4 _ rfl), g _ _ _ (by omega) u13, by omega, by omega, by omega⟩
        have DC := hide (fun V (hv : Below V0.heap.size V0 V) => disconnect_is ka kn kc K ca cn cc C bp bh bk bn ta tn tc Lt ua un uc (U.getD j []) y3 M V ((unhide HE).later (bel_on (unhide HBV) hv)) ((unhide HK).later (bel_on (unhide HBV) hv)) (((unhide HCO).later (unhide HWV)).later hv) sCo ((unhide HTX).later hv) (((unhide HUW).later (unhide HWV)).later hv) hdis)
        have Z7V := hide z7
        have f7W := cell_of (X := [.slice ca cn cc]) z7 0 _ rfl
        have l7W := lt_of_block z7
        clear hv hU0 hUb hdis z1 z13 u13 z7 l13 l1 l17 hQS hs4 hs0 hszW W8 W9 HB4 HS4n KO4
        gi_wp2_with fail
        rw [← hV0]
        clear hV0
        (try gi_wp2_with fail)
        refine region_round (S := SDc w.heap.size w1.heap.size w4.heap.size j ka kn kc bp bh bk bn ta tn tc ua un uc) (by kernel_rfl) (by kernel_rfl) ((unhide KS) _ (Nat.le_refl _) (fun _ _ _ => rfl)) (fun hHeld => ?_)
        refine tk 0 { dst := some 49, op := Op.load 24 (Operand.tmp 5), type := 24, pos := "move.go:62", after := #[], guard := none } ?_ rfl ?_ hHeld ?_
        rotate_left
        · (intro V hSw; obtain ⟨s1, s2, s3, s4, s5, s6, s7, s8, s9, s10⟩ := hSw; go_simp; first | done | with_reducible rfl)
        (try simp only [Act.put, List.setIfInBounds_toArray, List.set_cons_zero, List.set_cons_succ])
        refine tk 2 { dst := some 51, op := Op.load 39 (Operand.tmp 17), type := 39, pos := "move.go:62", after := #[], guard := none } ?_ rfl ?_ hHeld ?_
        rotate_left
        · (intro V hSw; obtain ⟨s1, s2, s3, s4, s5, s6, s7, s8, s9, s10⟩ := hSw; go_simp; first | done | with_reducible rfl)
        (try simp only [Act.put, List.setIfInBounds_toArray, List.set_cons_zero, List.set_cons_succ])
        refine tk 3 { dst := some 52, op := Op.move (Operand.tmp 15), type := 3, pos := "move.go:62", after := #[], guard := none } ?_ rfl ?_ hHeld ?_
        rotate_left
        · (intro V hSw; obtain ⟨s1, s2, s3, s4, s5, s6, s7, s8, s9, s10⟩ := hSw; go_simp; first | done | with_reducible rfl)
        (try simp only [Act.put, List.setIfInBounds_toArray, List.set_cons_zero, List.set_cons_succ])
        refine tk 4 { dst := some 53, op := Op.indexAddr 133 (Operand.tmp 13) (Operand.tmp 52), type := 0, pos := "move.go:62", after := #[{ on := 3, ground := Ground.data }], guard := none } ?_ rfl ?_ hHeld ?_
        rotate_left
        · (intro V hSw; obtain ⟨s1, s2, s3, s4, s5, s6, s7, s8, s9, s10⟩ := hSw; go_simp; first | done | with_reducible rfl)
        (try simp only [Act.put, List.setIfInBounds_toArray, List.set_cons_zero, List.set_cons_succ])
        refine tk 5 { dst := some 54, op := Op.load 42 (Operand.tmp 53), type := 42, pos := "move.go:62", after := #[{ on := 4, ground := Ground.data }], guard := none } ?_ rfl ?_ hHeld ?_
        rotate_left
        · (intro V hSw; obtain ⟨s1, s2, s3, s4, s5, s6, s7, s8, s9, s10⟩ := hSw; go_simp; first | done | with_reducible rfl)
        (try simp only [Act.put, List.setIfInBounds_toArray, List.set_cons_zero, List.set_cons_succ])
        refine wpAnyH_ready (rs := [1]) (by kernel_rfl) (by simp) ?_
        refine AllReadyH.cons (o := { dst := some 50, op := Op.load 29 (Operand.tmp 7), type := 29, pos := "move.go:62", after := #[], guard := none }) rfl (fun KQ hK => ?_) AllReadyH.nil
        go_simp
        refine hK.out _ _ ((unhide KS) _ (Nat.le_refl _) (fun _ _ _ => rfl)) (fun hHeld2 => ?_)
        clear hK KQ hHeld
        have hHeld := hHeld2
        clear hHeld2
        (try simp only [Act.put, List.setIfInBounds_toArray, List.set_cons_zero, List.set_cons_succ])
        refine wpAnyH_ready (rs := [6]) (by kernel_rfl) (by simp) ?_
        refine AllReadyH.cons (o := { dst := some 55, op := Op.call { callee := Callee.value (Operand.func 137), args := #[Operand.tmp 49, Operand.tmp 50, Operand.tmp 51, Operand.tmp 54], argTypes := #[24, 29, 39, 42] }, type := 31, pos := "move.go:62", after := #[{ on := 0, ground := Ground.data }, { on := 1, ground := Ground.data }, { on := 2, ground := Ground.data }, { on := 5, ground := Ground.data }], guard := none }) rfl (fun KQ hK => ?_) AllReadyH.nil
        refine step_call_w (by kernel_rfl) 137 #[.agg #[.slice ka kn kc], .slice ca cn cc, .agg #[.int .i64 bp, .int .i64 bh, .int .i64 bk, .int .i64 bn, .slice ta tn tc], .slice ua un uc] (by kernel_rfl) ((unhide DC) _ (bel_draw1 _)) ?_
        rintro e V1 ⟨am, an, ac, rfl, hM, sM, hbV1⟩
        refine ⟨_, rfl, ?_⟩
        have hb01 : Below V0.heap.size V0 V1 := bel_on (bel_draw1 V0) hbV1
        have v7 := (hb01.block _ (lt_of_block (unhide Z7V))).trans (unhide Z7V)
        refine hK.out _ _ ((unhide KS) _ hb01.size (fun k hk _ => hb01.block k hk)) (fun hHeld2 => ?_)
        clear hK KQ hHeld
        have hHeld := hHeld2
        clear hHeld2
        (try simp only [Act.put, List.setIfInBounds_toArray, List.set_cons_zero, List.set_cons_succ])
        refine tk 7 { dst := some 48, op := Op.move (Operand.tmp 55), type := 31, pos := "move.go:62", after := #[{ on := 6, ground := Ground.data }], guard := none } ?_ rfl ?_ hHeld ?_
        rotate_left
        · (intro W hSw; (try dsimp only at hSw); go_simp; first | done | with_reducible rfl)
        (try simp only [Act.put, List.setIfInBounds_toArray, List.set_cons_zero, List.set_cons_succ])
        refine tk 8 { dst := some 56, op := Op.extract (Operand.tmp 48) 0, type := 29, pos := "move.go:62", after := #[{ on := 7, ground := Ground.data }], guard := none } ?_ rfl ?_ hHeld ?_
        rotate_left
        · (intro W hSw; (try dsimp only at hSw); go_simp; first | done | with_reducible rfl)
        (try simp only [Act.put, List.setIfInBounds_toArray, List.set_cons_zero, List.set_cons_succ])
        refine tk 9 { dst := some 57, op := Op.extract (Operand.tmp 48) 1, type := 30, pos := "move.go:62", after := #[{ on := 7, ground := Ground.data }, { on := 10, ground := Ground.gcOnly Departure.lateStores }], guard := none } ?_ rfl ?_ hHeld ?_
        rotate_left
        · (intro W hSw; (try dsimp only at hSw); go_simp; first | done | with_reducible rfl)
        (try simp only [Act.put, List.setIfInBounds_toArray, List.set_cons_zero, List.set_cons_succ])
        have cv7 := cell_of (X := [.slice ca cn cc]) v7 0 _ rfl
        have fv7 := frozen_of v7 0
        have lv7 := lt_of_block v7
        obtain ⟨V2, hV2⟩ : ∃ V2, V2 = V1.setCell ⟨w.heap.size + 2, 0, none⟩ (.slice am an ac) := ⟨_, rfl⟩
        have v27 : V2.heap[w.heap.size + 2]? = some (.cells #[.slice am an ac] 29 (0, 0)) := by rw [hV2]; exact box_set v7
        have g12 : Gr V1 V2 (fun q => q = w.heap.size + 2) := by rw [hV2]; exact (Gr.refl V1 (fun q => q = w.heap.size + 2)).set (p := ⟨w.heap.size + 2, 0, none⟩) (.inl rfl) _
        have ko2 : KeepsOthers W V2 := by
          rw [hV2]
          exact ((unhide KO0).trans ⟨hb01.size, fun k _ hk _ => (hb01.block k (lt_of_block hk)).trans hk⟩).trans (KeepsOthers.setCell _ _ _)
        refine wpAnyH_ready (rs := [10]) (by kernel_rfl) (by simp) ?_
        refine AllReadyH.cons (o := { dst := none, op := Op.store 29 (Operand.tmp 7) (Operand.tmp 56), type := 0, pos := "move.go:62", after := #[{ on := 8, ground := Ground.data }, { on := 6, ground := Ground.chain }, { on := 0, ground := Ground.phase }, { on := 1, ground := Ground.phase }, { on := 2, ground := Ground.phase }, { on := 3, ground := Ground.phase }, { on := 4, ground := Ground.phase }, { on := 5, ground := Ground.phase }, { on := 6, ground := Ground.phase }, { on := 7, ground := Ground.phase }, { on := 8, ground := Ground.phase }, { on := 9, ground := Ground.textOnly Departure.lateStores }], guard := none }) rfl (fun KQ hK => ?_) AllReadyH.nil
        go_simp
        rw [← hV2]
        clear hV2 cv7 fv7 lv7
        refine hK.out _ _ ((unhide KS) _ (Nat.le_trans hb01.size g12.size) (fun k hk h1 => (g12.block k (Nat.lt_of_lt_of_le hk hb01.size) h1).trans (hb01.block k hk))) (fun hHeld2 => ?_)
        clear hK KQ hHeld
        have hHeld := hHeld2
        clear hHeld2
        (try simp only [Act.put, List.setIfInBounds_toArray, List.set_cons_zero, List.set_cons_succ])
        refine tk 11 { dst := some 18, op := Op.assign (Operand.tmp 57), type := 30, pos := "move.go:62", after := #[{ on := 9, ground := Ground.data }, { on := 10, ground := Ground.chain }, { on := 0, ground := Ground.phase }, { on := 1, ground := Ground.phase }, { on := 2, ground := Ground.phase }, { on := 3, ground := Ground.phase }, { on := 4, ground := Ground.phase }, { on := 5, ground := Ground.phase }, { on := 6, ground := Ground.phase }, { on := 7, ground := Ground.phase }, { on := 8, ground := Ground.phase }, { on := 9, ground := Ground.phase }, { on := 10, ground := Ground.phase }], guard := none } ?_ rfl ?_ hHeld ?_
        rotate_left
        · (intro W hSw; (try dsimp only at hSw); go_simp; first | done | with_reducible rfl)
        (try simp only [Act.put, List.setIfInBounds_toArray, List.set_cons_zero, List.set_cons_succ])
        refine wpAnyH_done (by kernel_rfl) ⟨by simp, ?_⟩ _
        clear hHeld
        have hbW1 := bel_on (unhide HWV) hb01
        have hQS := unhide QS
        have hs2 : W.heap.size ≤ V2.heap.size := Nat.le_trans hbW1.size g12.size
        have kp3 : KpD W0.heap.size (w.heap.size + 2) (w.heap.size + 2) W V2 := ⟨g12.os.trans hbW1.os, g12.tape.trans hbW1.tape, g12.output.trans hbW1.output, hs2, fun k hk h1 _ => (g12.block k (by have := unhide HSZ; have := hbW1.size; omega) h1).trans (hbW1.block k (by have := unhide HSZ; omega))⟩
        have CO3 : Hid (CoinsAt V2 am an M) := coins_box (S := fun q => q = w.heap.size + 2) g12.size g12.block (fun k e => by subst e; exact ⟨_, _, _, v7⟩) hM
        have KP3 := hide kp3
        have KO := hide ko2
        have V27 := hide v27
        have HS2 := hide (Nat.le_trans (unhide HSZ) hs2)
        have HB2 : Hid (Below w.heap.size w V2) := ((unhide HKP).trans kp3).below hw0 q7 (by omega) (by omega)
        have U8 := hide (g12.heap ((hb01.block _ (lt_of_block (unhide V8))).trans (unhide V8)) (by omega))
        have U9 := hide (g12.heap ((hb01.block _ (lt_of_block (unhide V9))).trans (unhide V9)) (by omega))
        clear kp3 ko2 v27 v7 g12 hb01 hbW1 hs2 hM KS DC hQS f7W l7W hbV1
        by_cases hy3 : y3 = 0
        · subst hy3
          gi_wp2
          refine ⟨(unhide KO).from _, unhide KP3, (unhide HKP).trans (unhide KP3), unhide HS2, M, am, an, ac, ?_, unhide V27, unhide CO3, sM⟩
          rw [List.map_append]
          have e1 := unhide HST1
          rw [if_neg (fun r => r rfl)] at e1
          have e := foL_snoc (unhide HD) e1
          rw [if_neg (fun r => r rfl)] at e
          exact e
        · have gy3 : (y3 != 0) = true := by simp [hy3]
          have c8 := cell_of (X := [.slice none 0 0]) (unhide U8) 0 _ rfl
          have f8 := frozen_of (unhide U8) 0
          have l8 := lt_of_block (unhide U8)
          have n89 : ¬ w.heap.size + 5 = w.heap.size + 6 := by omega
          have n98 : ¬ w.heap.size + 6 = w.heap.size + 5 := by omega
          obtain ⟨V4, hV4⟩ : ∃ V4, V4 = V2.setCell ⟨w.heap.size + 5, 0, none⟩ (.slice none 0 0) := ⟨_, rfl⟩
          have g4 : Gr V2 V4 (fun q => q = w.heap.size + 5) := by rw [hV4]; exact (Gr.refl V2 (fun q => q = w.heap.size + 5)).set (p := ⟨w.heap.size + 5, 0, none⟩) (.inl rfl) _
          have e8 : V4.heap[w.heap.size + 5]? = some (.cells #[.slice none 0 0] 29 (0, 0)) := by rw [hV4]; exact box_set (unhide U8)
          have e9 := g4.heap (unhide U9) n98
          have ko4 : KeepsOthers W V4 := by rw [hV4]; exact (unhide KO).trans (KeepsOthers.setCell _ _ _)
          have c9 := cell_of (X := [.int .i64 0]) (unhide U9) 0 _ rfl
          have f9 := frozen_of (unhide U9) 0
          have l9 := lt_of_block (unhide U9)
          obtain ⟨V5, hV5⟩ : ∃ V5, V5 = V4.setCell ⟨w.heap.size + 6, 0, none⟩ (.int .i64 y3) := ⟨_, rfl⟩
          have g5 : Gr V4 V5 (fun q => q = w.heap.size + 6) := by rw [hV5]; exact (Gr.refl V4 (fun q => q = w.heap.size + 6)).set (p := ⟨w.heap.size + 6, 0, none⟩) (.inl rfl) _
          have k9 : V5.heap[w.heap.size + 6]? = some (.cells #[.int .i64 y3] 30 (0, 0)) := by rw [hV5]; exact box_set e9
          have k8 := g5.heap e8 n89
          have ko5 : KeepsOthers W V5 := by rw [hV5]; exact ko4.trans (KeepsOthers.setCell _ _ _)
          have hb5 : Below w.heap.size w V5 := g5.below (g4.below (unhide HB2) (unhide HB2).size (fun k q => by omega)) (g4.below (unhide HB2) (unhide HB2).size (fun k q => by omega)).size (fun k q => by omega)
          have hs5 := Nat.le_trans (unhide HS2) (Nat.le_trans g4.size g5.size)
          have KO5 := hide ko5
          have KB := hide hb5
          have KSF := hide hs5
          have K8 := hide k8
          have K9 := hide k9
          have HV4 := hide hV4
          have HV5 := hide hV5
          clear ko5 ko4 hb5 k8 k9 e8 e9 g4 g5 hV4 hV5 hs5
          gi_wp2
          rw [← unhide HV4, ← unhide HV5]
          refine ⟨(unhide KO5).from _, rfl, unhide KB, unhide KSF, y3, [], hy3, ?_, unhide K8, unhide K9⟩
          rw [List.map_append]
          have e1 := unhide HST1
          rw [if_pos hy3] at e1
          have e := foL_snoc (unhide HD) e1
          rw [if_pos hy3] at e
          exact e
      · have gy : (y == 0) = false := by simp [hy]
        have gy2 : (y != 0) = true := by simp [hy]
        have HST1 : Hid (dsSt K N T L U j C = (y, [])) := by show _ = _; rw [dsSt, unhide HS, if_neg h0, unhide HBL, if_pos hy]
        clear V8 V9 HBV HSV KO0 hV0 HVB HWV HTX HS0
        have c8 := cell_of (X := [.slice none 0 0]) (unhide W8) 0 _ rfl
        have f8 := frozen_of (unhide W8) 0
        have l8 := lt_of_block (unhide W8)
        have n89 : ¬ w.heap.size + 5 = w.heap.size + 6 := by omega
        have n98 : ¬ w.heap.size + 6 = w.heap.size + 5 := by omega
        obtain ⟨V4, hV4⟩ : ∃ V4, V4 = w4.setCell ⟨w.heap.size + 5, 0, none⟩ (.slice none 0 0) := ⟨_, rfl⟩
        have g4 : Gr w4 V4 (fun q => q = w.heap.size + 5) := by rw [hV4]; exact (Gr.refl w4 (fun q => q = w.heap.size + 5)).set (p := ⟨w.heap.size + 5, 0, none⟩) (.inl rfl) _
        have e8 : V4.heap[w.heap.size + 5]? = some (.cells #[.slice none 0 0] 29 (0, 0)) := by rw [hV4]; exact box_set (unhide W8)
        have e9 := g4.heap (unhide W9) n98
        have ko4 : KeepsOthers W V4 := by rw [hV4]; exact (unhide KO4).trans (KeepsOthers.setCell _ _ _)
        have c9 := cell_of (X := [.int .i64 0]) (unhide W9) 0 _ rfl
        have f9 := frozen_of (unhide W9) 0
        have l9 := lt_of_block (unhide W9)
        obtain ⟨V5, hV5⟩ : ∃ V5, V5 = V4.setCell ⟨w.heap.size + 6, 0, none⟩ (.int .i64 y) := ⟨_, rfl⟩
        have g5 : Gr V4 V5 (fun q => q = w.heap.size + 6) := by rw [hV5]; exact (Gr.refl V4 (fun q => q = w.heap.size + 6)).set (p := ⟨w.heap.size + 6, 0, none⟩) (.inl rfl) _
        have k9 : V5.heap[w.heap.size + 6]? = some (.cells #[.int .i64 y] 30 (0, 0)) := by rw [hV5]; exact box_set e9
        have k8 := g5.heap e8 n89
        have ko5 : KeepsOthers W V5 := by rw [hV5]; exact ko4.trans (KeepsOthers.setCell _ _ _)
        have hb5 : Below w.heap.size w V5 := g5.below (g4.below (unhide HB4) (unhide HB4).size (fun k q => by omega)) (g4.below (unhide HB4) (unhide HB4).size (fun k q => by omega)).size (fun k q => by omega)
        have hs5 := Nat.le_trans (unhide HS4n) (Nat.le_trans g4.size g5.size)
        have hbt := bel_new V5 (.cells #[.int .i64 bp, .int .i64 bh, .int .i64 bk, .int .i64 bn, .slice ta tn tc] 39)
        have KO5 : Hid (KeepsOthers W (V5.alloc (.cells #[.int .i64 bp, .int .i64 bh, .int .i64 bk, .int .i64 bn, .slice ta tn tc] 39))) := ko5.trans ⟨hbt.size, fun k _ hk _ => (hbt.block k (lt_of_block hk)).trans hk⟩
        have KB := hide (bel_on hb5 hbt)
        have KSF := hide (Nat.le_trans hs5 hbt.size)
        have K8 := hide ((hbt.block _ (lt_of_block k8)).trans k8)
        have K9 := hide ((hbt.block _ (lt_of_block k9)).trans k9)
        clear hbt
        have HV4 := hide hV4
        have HV5 := hide hV5
        clear ko5 ko4 hb5 k8 k9 e8 e9 g4 g5 hV4 hV5 hs5
        gi_wp2
        rw [← unhide HV4, ← unhide HV5]
        refine ⟨(unhide KO5).from _, rfl, unhide KB, unhide KSF, y, [], hy, ?_, unhide K8, unhide K9⟩
        rw [List.map_append]
        have e := foL_snoc (unhide HD) (unhide HST1)
        rw [if_pos hy] at e
        exact e
  case done =>
    rintro D ys W hD rfl ⟨hkp, hsz, C, ca, cn, cc, hd, h7, hCo, sCo⟩ hK
    have hQS := unhide QS
    have hxx := unhide HXX
    rw [ds_list, dnL_all, hd] at hxx
    obtain ⟨rfl, rfl⟩ := Prod.mk.inj hxx
    have v8 := (hkp.block (w.heap.size + 5) (by omega) (by omega) (by omega)).trans (((unhide HX0).block _ (lt_of_block (unhide HX6))).trans (unhide HX6))
    have v9 := (hkp.block (w.heap.size + 6) (by omega) (by omega) (by omega)).trans (((unhide HX0).block _ (lt_of_block (unhide HX7))).trans (unhide HX7))
    have hBW : Below w.heap.size w W := hkp.below hw0 q7 (by omega) (by omega)
    have n89 : ¬ w.heap.size + 5 = w.heap.size + 6 := by omega
    have n98 : ¬ w.heap.size + 6 = w.heap.size + 5 := by omega
    have c5 := cell_of (X := [.slice ca cn cc]) h7 0 _ rfl
    have l5 := lt_of_block h7
    have c8 := cell_of (X := [.slice none 0 0]) v8 0 _ rfl
    have f8 := frozen_of v8 0
    have l8 := lt_of_block v8
    obtain ⟨V4, hV4⟩ : ∃ V4, V4 = W.setCell ⟨w.heap.size + 5, 0, none⟩ (.slice ca cn cc) := ⟨_, rfl⟩
    have g4 : Gr W V4 (fun q => q = w.heap.size + 5) := by rw [hV4]; exact (Gr.refl W (fun q => q = w.heap.size + 5)).set (p := ⟨w.heap.size + 5, 0, none⟩) (.inl rfl) _
    have e8 : V4.heap[w.heap.size + 5]? = some (.cells #[.slice ca cn cc] 29 (0, 0)) := by rw [hV4]; exact box_set v8
    have e9 := g4.heap v9 n98
    have kd4 : V4.heap[D]? = some (.deferred (some [])) := by rw [hV4]; exact (KeepsOthers.setCell W _ _).same D _ hK rfl
    have c9 := cell_of (X := [.int .i64 0]) v9 0 _ rfl
    have f9 := frozen_of v9 0
    have l9 := lt_of_block v9
    obtain ⟨V5, hV5⟩ : ∃ V5, V5 = V4.setCell ⟨w.heap.size + 6, 0, none⟩ (.int .i64 0) := ⟨_, rfl⟩
    have g5 : Gr V4 V5 (fun q => q = w.heap.size + 6) := by rw [hV5]; exact (Gr.refl V4 (fun q => q = w.heap.size + 6)).set (p := ⟨w.heap.size + 6, 0, none⟩) (.inl rfl) _
    have k9 : V5.heap[w.heap.size + 6]? = some (.cells #[.int .i64 0] 30 (0, 0)) := by rw [hV5]; exact box_set e9
    have k8 := g5.heap e8 n89
    have kd5 : V5.heap[D]? = some (.deferred (some [])) := by rw [hV5]; exact (KeepsOthers.setCell V4 _ _).same D _ kd4 rfl
    have hb5 : Below w.heap.size w V5 := g5.below (g4.below hBW hBW.size (fun k q => by omega)) (g4.below hBW hBW.size (fun k q => by omega)).size (fun k q => by omega)
    have hc5 : CoinsAt V5 ca cn C := coins_box (S := fun q => q = w.heap.size + 6) g5.size g5.block (fun k e => by subst e; exact ⟨_, _, _, e9⟩) (coins_box (S := fun q => q = w.heap.size + 5) g4.size g4.block (fun k e => by subst e; exact ⟨_, _, _, v8⟩) hCo)
    have gp := grownBy_putObj' V5 D (.deferred none)
    have hrp : ∀ r, (some D : Option Nat) = some r → ∃ o : Obj, V5.heap[r]? = some o ∧ o.isCells = false := fun r e => by cases e; exact ⟨_, kd5, rfl⟩
    have hcF := coins_cells (kept_grown gp hrp) hc5
    have hbF : Below w.heap.size w (V5.putObj D (.deferred none)) := hb5.grown gp hb5.size (fun k e => by cases e; omega)
    have z8 := cell_kept (cell_of (X := [.slice ca cn cc]) k8 0 _ rfl) gp hrp
    have z9 := cell_kept (cell_of (X := [.int .i64 0]) k9 0 _ rfl) gp hrp
    have HF : Hid (CnR w (V5.putObj D (.deferred none)) 0 C (.returned (.tuple #[.slice ca cn cc, .int .i64 0]))) := ⟨ca, cn, cc, rfl, hcF, sCo, hbF⟩
    have KD := hide kd5
    clear hcF hbF hc5 hb5 k8 k9 e8 kd4 kd5 hCo hkp h7 hBW v8 e9 g4 g5 hK hQS hd gp hrp hxx
    have HV4 := hide hV4
    have HV5 := hide hV5
    clear hV4 hV5 v9
    gi_wp2
    rw [← unhide HV4, ← unhide HV5]
    refine ⟨by simp, .inl ⟨_, _, rfl, run_takeDeferred (unhide KD), ?_⟩⟩
    refine ⟨.tuple #[.slice ca cn cc, .int .i64 0], ?_, unhide HF⟩
    simp [results, Tryz.f65, go_sem, z8, z9]
  case stop =>
    rintro D cd pre W hD ⟨k, hk, rfl⟩ ⟨rfl, hBW, hsz, y, M, hy, hd, h8, h9⟩ hK
    have hxx := unhide HXX
    rw [ds_list, dnL_down 24 k hk, foL_err hd hy] at hxx
    obtain ⟨rfl, rfl⟩ := Prod.mk.inj hxx
    have hQS := unhide QS
    have gp := grownBy_putObj' W D (.deferred none)
    have hrp : ∀ r, (some D : Option Nat) = some r → ∃ o : Obj, W.heap[r]? = some o ∧ o.isCells = false := fun r e => by cases e; exact ⟨_, hK, rfl⟩
    have hbF : Below w.heap.size w (W.putObj D (.deferred none)) := hBW.grown gp hBW.size (fun k e => by cases e; omega)
    have z8 := cell_kept (cell_of (X := [.slice none 0 0]) h8 0 _ rfl) gp hrp
    have z9 := cell_kept (cell_of (X := [.int .i64 y]) h9 0 _ rfl) gp hrp
    have HF : Hid (CnR w (W.putObj D (.deferred none)) y [] (.returned (.tuple #[.slice none 0 0, .int .i64 y]))) := cn_err rfl hbF
    have KD := hide hK
    clear hbF hBW hd hK gp hrp hxx h8 h9 hQS
    gi_wp2
    refine ⟨by simp, .inl ⟨_, _, rfl, run_takeDeferred (unhide KD), ?_⟩⟩
    refine ⟨.tuple #[.slice none 0 0, .int .i64 y], ?_, unhide HF⟩
    simp [results, Tryz.f65, go_sem, z8, z9]

end Go.Proofs.YtmomfkikogbdeaaGreatDoor
