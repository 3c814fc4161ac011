/- The law ChainWays returns true: the frame of its row; its 4 listed variables tied to the program's text; no condition else.
   The frame of the row follows the guide's worked examples. -/
import Derived.Test.YtmomfkikogbdeaaGreatDoorChnMovesWToTrFrame
import Derived.Test.YtmomfkikogbdeaaGreatDoorLockFrame
import Derived.Test.YtmomfkikogbdeaaGreatDoorChnWaysC
/- The law ChainWays answers true (written by a program of ours: mkclaws.py). -/
namespace Go.Proofs.YtmomfkikogbdeaaGreatDoor
open Go.RowKit

set_option maxRecDepth 10000 in
set_option maxHeartbeats 12800000 in
theorem lawCWays_any (ka : Option Addr) (kn kc : Nat) (K : List ByteArray) (a b : Option Addr) (n c m d : Nat) (N : List Int) (T : List BlkD) (s t u : Int) (w : World) (hE : Env w) (hK : Bk.TextsAt w ka kn K) (hN : Tr.IntsAt w a n N) (hT : Tr.BlksAt w b m T) (sN : SlOk a n c) (sT : SlOk b m d) :
    Calls Tryz.prog 5 #[.agg #[.slice ka kn kc], .agg #[.slice a n c, .slice b m d], .int .i64 s, .int .i64 t, .int .i64 u] w fun e w' => e = .returned (.bool true) ∧ Below w.heap.size w w' := by
  obtain ⟨X, hX⟩ : ∃ X, X = (w.alloc (.cells #[.slice ka kn kc] 24)).alloc (.cells #[.slice a n c, .slice b m d] 28) := ⟨_, rfl⟩
  have hbX : Below w.heap.size w X := by rw [hX]; exact bel_on (bel_new _ _) (bel_new _ _)
  have hX0 : X.heap[w.heap.size]? = some (.cells [.slice ka kn kc].toArray 24 (0, 0)) := by rw [hX, Below.heap_alloc _ _ _ (by simp)]; exact one_heap _ _ _
  have hX1 : X.heap[w.heap.size + 1]? = some (.cells [.slice a n c, .slice b m d].toArray 28 (0, 0)) := by
    rw [hX]
    have := heap_alloc_new (w.alloc (.cells #[.slice ka kn kc] 24)) (.cells #[.slice a n c, .slice b m d] 28)
    rw [show (w.alloc (.cells #[.slice ka kn kc] 24)).heap.size = w.heap.size + 1 by simp] at this
    exact this
  have HE := hide (hE.later hbX)
  have HK := hide (hK.later hbX)
  have HN := hide (hN.later hbX)
  have HT := hide (hT.later hbX)
  have HSN := hide sN
  have HST := hide sT
  have HBX := hide hbX
  have HX0 := hide hX0
  have HX1 := hide hX1
  obtain ⟨⟨x, A⟩, hco⟩ : ∃ r, coinsE K N T s = r := ⟨_, rfl⟩
  have HR : Hid (Below X.heap.size X X) := Below.refl _ _
  have C1 := hide (coins_is ka kn kc K a b n c m d N T s x A X ((unhide HE).later (unhide HR)) ((unhide HK).later (unhide HR)) ((unhide HN).later (unhide HR)) ((unhide HT).later (unhide HR)) (unhide HSN) (unhide HST) hco)
  have HCO := hide hco
  have y0 := ((unhide HR).block _ (lt_of_block (unhide HX0))).trans (unhide HX0)
  have y00 := cell_of y0 0 _ rfl
  have y0l := lt_of_block y0
  clear y0
  have y1 := ((unhide HR).block _ (lt_of_block (unhide HX1))).trans (unhide HX1)
  have y10 := cell_of y1 0 _ rfl
  have y11 := cell_of y1 1 _ rfl
  have y1l := lt_of_block y1
  clear y1
  clear hE hK hN hT sN sT hbX hX0 hX1 hco
  go_enter Tryz.func5, Tryz.ntmps5
  go_wp2_with fail
  rw [← hX]
  clear hX
  (try go_wp2_with fail)
  refine (unhide C1).mono ?_
  rintro e w1 ⟨oa, oon, oc, rfl, hA, sA, hb1⟩
  have HA := hide hA
  have HSA := hide sA
  have HB1 := hide hb1
  have C3 := hide (chained_yes w1 ((unhide HE).later (unhide HB1)))
  clear hA sA hb1 C1 y00 y0l y10 y11 y1l
  go_wp2_with fail
  refine (unhide C3).mono ?_
  rintro e w3 ⟨rfl, hb3⟩
  have HB3 := hide (bel_on (unhide HB1) hb3)
  have H13 := hide hb3
  clear hb3 C3
  by_cases hx0 : x = 0
  · subst hx0
    obtain ⟨⟨x1, B⟩, hm1⟩ : ∃ r, moveE K N T A s t = r := ⟨_, rfl⟩
    obtain ⟨⟨x2, D⟩, hm2⟩ : ∃ r, moveE K N T A s u = r := ⟨_, rfl⟩
    have f1 := right_few (coins_right (unhide HCO)) (unhide HA)
    have C4 := hide (move_is ka kn kc K a b n c m d N T oa oon oc A s t x1 B w3 ((unhide HE).later (unhide HB3)) ((unhide HK).later (unhide HB3)) ((unhide HN).later (unhide HB3)) ((unhide HT).later (unhide HB3)) (unhide HSN) (unhide HST) ((unhide HA).later (unhide H13)) (unhide HSA) f1.1 f1.2 hm1)
    have C5 := hide (fun W (hw : Below X.heap.size X W) (h2 : Below w1.heap.size w1 W) => move_is ka kn kc K a b n c m d N T oa oon oc A s u x2 D W ((unhide HE).later hw) ((unhide HK).later hw) ((unhide HN).later hw) ((unhide HT).later hw) (unhide HSN) (unhide HST) ((unhide HA).later h2) (unhide HSA) f1.1 f1.2 hm2)
    have HM1 := hide hm1
    have HM2 := hide hm2
    clear hm1 hm2 f1
    have y0 := ((unhide HB3).block _ (lt_of_block (unhide HX0))).trans (unhide HX0)
    have y00 := cell_of y0 0 _ rfl
    have y0l := lt_of_block y0
    clear y0
    have y1 := ((unhide HB3).block _ (lt_of_block (unhide HX1))).trans (unhide HX1)
    have y10 := cell_of y1 0 _ rfl
    have y11 := cell_of y1 1 _ rfl
    have y1l := lt_of_block y1
    clear y1
    go_wp2_with fail
    refine (unhide C4).mono ?_
    rintro e w4 ⟨va, vn, vc, rfl, hV, sV, hb4⟩
    have HV := hide hV
    have HSV := hide sV
    have HB4 := hide (bel_on (unhide HB3) hb4)
    have H14 := hide (bel_on (unhide H13) hb4)
    have D5 := hide ((unhide C5) w4 (unhide HB4) (unhide H14))
    clear hV sV hb4 C4 C5 y00 y0l y10 y11 y1l
    have y0 := ((unhide HB4).block _ (lt_of_block (unhide HX0))).trans (unhide HX0)
    have y00 := cell_of y0 0 _ rfl
    have y0l := lt_of_block y0
    clear y0
    have y1 := ((unhide HB4).block _ (lt_of_block (unhide HX1))).trans (unhide HX1)
    have y10 := cell_of y1 0 _ rfl
    have y11 := cell_of y1 1 _ rfl
    have y1l := lt_of_block y1
    clear y1
    go_wp2_with fail
    refine (unhide D5).mono ?_
    rintro e w5 ⟨za, zn, zc, rfl, hZ, sZ, hb5⟩
    have HZ := hide hZ
    have HSZ := hide sZ
    have HB5 := hide (bel_on (unhide HB4) hb5)
    have H45 := hide hb5
    clear hZ sZ hb5 D5 y00 y0l y10 y11 y1l
    by_cases hxy : x1 = 0 ∧ x2 = 0
    · obtain ⟨rfl, rfl⟩ := hxy
      have hw3 := ways (unhide HCO) (unhide HM1) (unhide HM2)
      have hD := coins_right ((move_coins (unhide HCO) (move_name (unhide HM2)) D).1 (unhide HM2))
      have f2 := right_few hD (unhide HZ)
      have C6 := hide (move_is ka kn kc K a b n c m d N T za zn zc D u t 0 B w5 ((unhide HE).later (unhide HB5)) ((unhide HK).later (unhide HB5)) ((unhide HN).later (unhide HB5)) ((unhide HT).later (unhide HB5)) (unhide HSN) (unhide HST) (unhide HZ) (unhide HSZ) f2.1 f2.2 hw3)
      clear hw3 hD f2 HM1 HM2 HCO
      have y0 := ((unhide HB5).block _ (lt_of_block (unhide HX0))).trans (unhide HX0)
      have y00 := cell_of y0 0 _ rfl
      have y0l := lt_of_block y0
      clear y0
      have y1 := ((unhide HB5).block _ (lt_of_block (unhide HX1))).trans (unhide HX1)
      have y10 := cell_of y1 0 _ rfl
      have y11 := cell_of y1 1 _ rfl
      have y1l := lt_of_block y1
      clear y1
      go_wp2_with fail
      refine (unhide C6).mono ?_
      rintro e w6 ⟨ra, rn, rc, rfl, hR, sR, hb6⟩
      have HB6 := hide (bel_on (unhide HB5) hb6)
      have C7 := hide (uSame_is va ra vn rn vc rc B B true w6 (unhide HSV).len ((unhide HV).later (bel_on (unhide H45) hb6)) hR (sameL_yes rfl))
      clear hR sR hb6 C6 y00 y0l y10 y11 y1l
      go_wp2_with fail
      refine (unhide C7).mono ?_
      rintro e w7 ⟨rfl, hb7⟩
      have HW := hide (bel_on (unhide HBX) (bel_on (unhide HB6) hb7))
      clear hb7 C7
      go_wp2
      go_ret
      exact ⟨rfl, unhide HW⟩
    · have HW := hide (bel_on (unhide HBX) (unhide HB5))
      by_cases hx1 : x1 = 0
      · have hx2 : ¬ x2 = 0 := fun q => hxy ⟨hx1, q⟩
        subst hx1
        have gx2 : (x2 != 0) = true := by simp [hx2]
        clear hxy
        go_wp2
        go_ret
        exact ⟨rfl, unhide HW⟩
      · have gx1 : (x1 != 0) = true := by simp [hx1]
        clear hxy
        go_wp2
        go_ret
        exact ⟨rfl, unhide HW⟩
  · have C4 := hide (chained_yes w3 ((unhide HE).later (unhide HB3)))
    have gx : (x != 0) = true := by simp [hx0]
    go_wp2_with fail
    refine (unhide C4).mono ?_
    rintro e w4 ⟨rfl, hb4⟩
    have HW := hide (bel_on (unhide HBX) (bel_on (unhide HB3) hb4))
    clear hb4 C4
    go_wp2
    go_ret
    exact ⟨rfl, unhide HW⟩

end Go.Proofs.YtmomfkikogbdeaaGreatDoor

namespace Go.Proofs.YtmomfkikogbdeaaGreatDoor.chainWays
open Go.ChangeShapes Go.WideShapes Go.ChangeAt Go.RowKit

set_option maxRecDepth 100000 in
theorem door_met (os : Os) (args : Array Value) : laidMetH Tryz.prog Rows.chainWaysRow.laid ((World.doorLaid Tryz.prog 400 os).forCall (fun _ _ => 0) ⟨#[], args, []⟩).memory :=
  laidMetH_of_parts3 (fuel := 8) (laidMet_of_run' 8 (by kernel_rfl) (by kernel_rfl)) (by kernel_rfl) (by kernel_rfl)

theorem env_of_laid {W : World} (h : laidMetH Tryz.prog Rows.chainWaysRow.laid W) : Env W := by
  rw [MakeChecks.laidMetH_plain _ _ _ (by kernel_rfl)] at h
  obtain ⟨ps, ⟨g0, t0, cs0, f0, p0, q0, hg0, ht0, hv0, hd0, ⟨g1, t1, cs1, f1, p1, q1, hg1, ht1, hv1, hd1, ⟨g2, t2, cs2, f2, p2, q2, hg2, ht2, hv2, hd2, ⟨g3, t3, cs3, f3, p3, q3, hg3, ht3, hv3, hd3, _, _⟩, _⟩, _⟩, _⟩, _, _⟩ := h
  obtain rfl := Option.some.inj (Tryz.gTab.symm.trans hg2)
  obtain rfl := Option.some.inj (Lf.Tryz.tTab.symm.trans ht2)
  obtain rfl := Option.some.inj (Tryz.gNam.symm.trans hg3)
  obtain rfl := Option.some.inj (Lf.Tryz.tNam.symm.trans ht3)
  exact ⟨Lf.tab_of_laid hv2 hd2, Lf.names_of_laid hv3 hd3⟩

set_option maxRecDepth 100000 in
theorem lifted (os : Os) (started : os.Started) (H : Type) (enc : TypeId × Value → H) :
    ReturnsInHanded {} Tryz.checked os 5 .any (fun w args => (Rows.chainWaysSpec.pre enc Tryz.prog Tryz.f5 [] false w args ∧ laidMetH Tryz.prog Rows.chainWaysRow.laid w) ∧ sizedMet enc Tryz.prog Tryz.f5 (OpenSpec.ofChange Rows.chainWaysSpec) false w args)
      (Rows.chainWaysSpec.post enc Tryz.prog Tryz.f5 false true false false) := by
  refine handed_sized (s := Rows.chainWaysSpec) (enc := enc) (X := fun w => laidMetH Tryz.prog Rows.chainWaysRow.laid w) (fun _ _ hh h => h.of_heap hh) started (by kernel_rfl) Tryz.func5
    (ChangeSpec.witness_shaped (enc := enc) (C := Tryz.checked) (os := os) (X := fun w _ => laidMetH Tryz.prog Rows.chainWaysRow.laid w) false (World.doorLaid Tryz.prog 400 os) #[.agg #[.slice none 0 0], .agg #[.slice none 0 0, .slice none 0 0], .int .i64 0, .int .i64 0, .int .i64 0] 8 rfl (World.shaped_of_RefB (by kernel_rfl) (by kernel_rfl)) (by kernel_rfl) (by kernel_rfl) (by kernel_rfl) (door_met os _)) ?_
  intro W base args ds gs before hval0 hW hL hsh
  have hval : ∀ (j : Nat) t v, Tryz.f5.params[j]? = some t → args[j]? = some v → Value.okWide Tryz.prog W .any base t v := hval0
  have hW' := hW
  obtain ⟨p, q, hA0, hV, rfl, hfz, hnd⟩ := hW
  have hA : DataW.TrodAll enc Tryz.prog W 0 (fun _ => true) true Tryz.f5.params.toList args.toList ds p := hA0
  rw [Tryz.params5] at hA hval
  obtain ⟨v0, vs0, d0, ds0, p0, q0, hargs, rfl, rfl, h0, r0⟩ := trodAll_cons hA
  obtain ⟨v1, vs1, d1, ds1, p1, q1, rfl, rfl, rfl, h1, r1⟩ := trodAll_cons r0
  obtain ⟨v2, vs2, d2, ds2, p2, q2, rfl, rfl, rfl, h2, r2⟩ := trodAll_cons r1
  obtain ⟨v3, vs3, d3, ds3, p3, q3, rfl, rfl, rfl, h3, r3⟩ := trodAll_cons r2
  obtain ⟨v4, vs4, d4, ds4, p4, q4, rfl, rfl, rfl, h4, r4⟩ := trodAll_cons r3
  obtain ⟨rfl, rfl, rfl⟩ := trodAll_nil r4
  obtain rfl : args = #[v0, v1, v2, v3, v4] := by cases args; simp_all
  obtain ⟨rfl, rfl⟩ := trodVars_none hV
  obtain ⟨cs0, rfl, _⟩ := okWide_struct Tryz.underlying24 (hval 0 24 v0 rfl rfl)
  obtain ⟨cs1, rfl, _⟩ := okWide_struct Tryz.underlying28 (hval 1 28 v1 rfl rfl)
  obtain ⟨m2, rfl, rfl, rfl, w2⟩ := open_int Tryz.underlying3 (hval 2 3 v2 rfl rfl) h2
  obtain ⟨m3, rfl, rfl, rfl, w3⟩ := open_int Tryz.underlying3 (hval 3 3 v3 rfl rfl) h3
  obtain ⟨m4, rfl, rfl, rfl, w4⟩ := open_int Tryz.underlying3 (hval 4 3 v4 rfl rfl) h4
  have k0 := h0
  have lt0 : ∀ x ∈ p0, x.block < W.heap.size := by obtain ⟨m, hm⟩ := k0; exact DataW.trod_lt m _ _ _ hm
  obtain ⟨fu0, hf0⟩ := h0
  obtain ⟨ka0, kn0, kc0, K0, hcs0, hK0, sK0⟩ := Bk.book_full hf0
  obtain rfl : cs0 = #[.slice ka0 kn0 kc0] := by
    cases cs0; simpa [Value.cells] using hcs0
  have k1 := h1
  have lt1 : ∀ x ∈ p1, x.block < W.heap.size := by obtain ⟨m, hm⟩ := k1; exact DataW.trod_lt m _ _ _ hm
  obtain ⟨fu1, hf1⟩ := h1
  obtain ⟨ta1, tn1, tc1, tb1, tm1, td1, N1, T1, hcs1, hN1, sN1, hT1, sT1⟩ := Tr.tree_full hf1
  obtain rfl : cs1 = #[.slice ta1 tn1 tc1, .slice tb1 tm1 td1] := by
    cases cs1; simpa [Value.cells] using hcs1
  clear hA0 hval0
  refine (lawCWays_any ka0 kn0 kc0 K0 ta1 tb1 tn1 tc1 tm1 td1 N1 T1 m2 m3 m4 W (env_of_laid hL) hK0 hN1 hT1 sN1 sT1).mono fun e W' ⟨he, bel⟩ => ?_
  subst he
  exact ⟨_, rfl, _, _, _, [], _, [], hW', trodAll_mk1 (shut_bool Tryz.underlying4 _), (trodAll_cons_mk (Below.trod laidOut (by kernel_rfl) (of_decide_eq_true (by kernel_rfl)) k0 bel lt0) (trodAll_cons_mk (Below.trod laidOut (by kernel_rfl) (of_decide_eq_true (by kernel_rfl)) k1 bel lt1) (trodAll_cons_mk (shut_int Tryz.underlying3 w2) (trodAll_cons_mk (shut_int Tryz.underlying3 w3) (trodAll_cons_mk (shut_int Tryz.underlying3 w4) trodAll_mk0))))), rfl, bel.frame _, fun h => by cases h⟩

theorem said : Rows.ChainWaysSaid :=
  OpenClaim.holds_of_wide 5 Tryz.f5 rfl rfl rfl rfl rfl rfl rfl ⟨rfl, rfl, rfl, rfl, rfl⟩ rfl rfl rfl rfl rfl (by kernel_rfl) Tryz.func5 closed
    (of_decide_eq_true (by kernel_rfl)) (by unfold Func.isWrapper; first | (rw [if_pos (by decide +kernel)]; kernel_rfl) | (rw [if_neg (by decide +kernel)]; exact ⟨rfl, rfl⟩))
    (fun os started H enc _ => lifted os started H enc)
#print axioms said
end Go.Proofs.YtmomfkikogbdeaaGreatDoor.chainWays
