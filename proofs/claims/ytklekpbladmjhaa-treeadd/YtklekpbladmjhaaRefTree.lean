/- The contract of the reference's CheckTree: what it says is chkTr. -/
import Derived.Test.YtklekpbladmjhaaRefMapH
import Derived.Test.YtklekpbladmjhaaTrCheck
namespace Go.Proofs.Ytklekpbladmjhaa
open Go.RowKit Go.Maps

theorem wf_small {x : Int} (h0 : 0 ≤ x) (h1 : x ≤ 1000000000) : (Lit.int .i64 x).wf = true := by
  simp [Lit.wf, IntKind.min, IntKind.max, IntKind.signed, IntKind.bits]
  omega
theorem chkB_parent {b : BlkD} (h : chkB b = 0) : 0 ≤ b.1 ∧ b.1 ≤ 120 := by
  unfold chkB at h
  split at h
  · cases h
  · next q => simp [headOk] at q; omega
theorem next_range {N : List Int} {T : List BlkD} {s : Int} {b : BlkD} (h : s < 1 ∨ 120 < s) : nextD N T s b = 3 := by
  unfold nextD
  rw [if_pos (by simp; omega)]
theorem next_bad {N : List Int} {T : List BlkD} {s : Int} {b : BlkD} (h0 : ¬ s < 1) (h1 : ¬ 120 < s) (h : chkB b ≠ 0) : nextD N T s b = chkB b := by
  unfold nextD
  rw [if_neg (by simp; omega), if_pos h]
theorem next_twice {N : List Int} {T : List BlkD} {s : Int} {b : BlkD} (h0 : ¬ s < 1) (h1 : ¬ 120 < s) (h : chkB b = 0) (hs : s ∈ N) : nextD N T s b = 6 := by
  unfold nextD
  rw [if_neg (by simp; omega), if_neg (by simp [h]), if_pos (by simp [hs])]
theorem next_who {N : List Int} {T : List BlkD} {s : Int} {b : BlkD} (h0 : ¬ s < 1) (h1 : ¬ 120 < s) (h : chkB b = 0) (hs : s ∉ N) (hp : ¬ (b.1 = 0 ∨ b.1 ∈ N)) : nextD N T s b = 5 := by
  unfold nextD
  rw [if_neg (by simp; omega), if_neg (by simp [h]), if_neg (by simp [hs]), if_pos (by simp; exact not_or.1 hp)]
theorem next_form {N : List Int} {T : List BlkD} {s : Int} {b : BlkD} (h0 : ¬ s < 1) (h1 : ¬ 120 < s) (h : chkB b = 0) (hs : s ∉ N) (hp : b.1 = 0 ∨ b.1 ∈ N) : nextD N T s b = if b.2.1 ≠ (fnd b.1 N T).2.1 + 1 then 4 else 0 := by
  unfold nextD
  rw [if_neg (by simp; omega), if_neg (by simp [h]), if_neg (by simp [hs]), if_neg (by rintro ⟨q1, q2⟩; rcases hp with q | q <;> simp_all)]

set_option maxRecDepth 10000 in
set_option maxHeartbeats 12800000 in
theorem rchkTree_any (a b : Option Addr) (n c m d : Nat) (N : List Int) (T : List BlkD) (x : Int) (w : World) (hN : IntsAt w a n N) (hT : BlksAt w b m T) (sN : SlOk a n c) (sT : SlOk b m d) (hx : chkTr N T = x) :
    Calls Try.prog 10 #[.agg #[.slice a n c, .slice b m d]] w fun e w' => e = .returned (.int .i64 x) ∧ Below w.heap.size w w' := by
  subst hx
  obtain ⟨X, hX⟩ : ∃ X, X = w.alloc (.cells #[.slice a n c, .slice b m d] 25) := ⟨_, rfl⟩
  have hbX : Below w.heap.size w X := by rw [hX]; exact bel_new _ _
  have hX0 : X.heap[w.heap.size]? = some (.cells [.slice a n c, .slice b m d].toArray 25 (0, 0)) := by rw [hX]; exact two_heap _ _ _ _
  have HB := hide hbX
  have HXS : Hid (X.heap.size = w.heap.size + 1) := by show _ = _; rw [hX]; simp
  have HX0 := hide hX0
  have x0 := cell_of hX0 0 _ rfl
  have x1 := cell_of hX0 1 _ rfl
  have xl := lt_of_block hX0
  have HN := hide (hN.later hbX)
  have HT := hide (hT.later hbX)
  have HZN := hide hN.1
  have HZT := hide hT.1
  have hm := sN.2.1
  have hm2 := sT.2.1
  have hlc := sN.1
  unfold maxLen at hm hm2
  by_cases e : n = m
  · subst e
    by_cases h24 : 24 < n
    · have R : Hid (chkTr N T = 2) := by show _ = _; unfold chkTr; rw [hN.1, hT.1, if_neg (by simp), if_pos h24]
      have g0 : ((n : Int) != (n : Int)) = false := by simp
      have g1 : (24 : Int) < (n : Int) := by omega
      clear hN hT sN sT hX0 hbX
      go_enter Try.func10, Try.ntmps10
      go_wp2_with fail
      rw [← hX]
      clear hX
      go_wp2
      go_ret
      exact ⟨by rw [unhide R]; rfl, unhide HB⟩
    · have R : Hid (chkTr N T = chkGo (N.take 0) (T.take 0) (N.drop 0) (T.drop 0)) := by show _ = _; unfold chkTr; rw [hN.1, hT.1, if_neg (by simp), if_neg h24]; rfl
      have g0 : ((n : Int) != (n : Int)) = false := by simp
      have g1 : ¬ (24 : Int) < (n : Int) := by omega
      have hmm := @run_makeMap Try.prog
      clear hN hT sN sT hX0 hbX
      go_enter Try.func10, Try.ntmps10
      go_wp2_with (first | (refine wpList_insert_h rfl _ _ _ rfl _ (w.heap.size + 1) ?_ rfl rfl rfl rfl ?_; (· simp); intro w1 hm1 hb1; rw [← hX] at hb1; have v0 := cell_later hb1 x0; have v1 := cell_later hb1 x1; have vl := Nat.lt_of_lt_of_le xl hb1.size) | go_in)
      clear hX
      have HM1 : Hid (HMap (w.heap.size + 1) (N.take 0) (T.take 0) w1) := by show HMap _ _ _ _; rw [List.take_zero, List.take_zero]; exact hm1
      have HB1 := hide hb1
      clear hm1 hb1 v0 v1 vl
      go_loopw [28] (fun i wr => ∃ j : Nat, j ≤ n ∧ i = .int .i64 j ∧ Hid (chkTr N T = chkGo (N.take j) (T.take j) (N.drop j) (T.drop j)) ∧ Hid (HeadsOk (T.take j)) ∧ Hid (Below X.heap.size X wr) ∧ Hid (HMap (w.heap.size + 1) (N.take j) (T.take j) wr)) (fun i _ => n - (intOf i).toNat)
      case atStart => exact ⟨0, Nat.zero_le _, rfl, R, (fun b hb => (by simp at hb) : HeadsOk (T.take 0)), HB1, HM1⟩
      case round =>
        obtain ⟨j, hj, rfl, A, HH, HBr, HMr⟩ := hrel
        clear R HM1 HB1
        by_cases hlt : j < n
        · have h1 : j < N.length := by rw [unhide HZN]; exact hlt
          have h2 : j < T.length := by rw [unhide HZT]; exact hlt
          obtain ⟨b1, off1, rfl, hl1, hc1⟩ := (unhide HN).2 (by omega)
          obtain ⟨b2, off2, rfl, hl2, hc2⟩ := (unhide HT).2 (by omega)
          have f1 := cell_later (unhide HBr) (hc1 j h1)
          have hin := BlkAt.kept _ _ _ _ _ (unhide HBr) (hc2 j h2)
          have AT := hide (chkGo_at N T j h1 h2)
          have HMO := hide (heads_more h2 (unhide HH))
          have TK := hide (And.intro (List.take_succ_eq_append_getElem h1) (List.take_succ_eq_append_getElem h2))
          obtain ⟨s, hs⟩ : ∃ s, N[j] = s := ⟨_, rfl⟩
          obtain ⟨t, ht⟩ : ∃ t, T[j] = t := ⟨_, rfl⟩
          rw [hs] at f1 AT TK
          rw [ht] at hin AT HMO TK
          obtain ⟨p, h, k, o, L⟩ := t
          obtain ⟨g0', g1', g2, g3, ta, tn, tc, g4, hL, _⟩ := hin
          simp only at g0' g1' g2 g3 hL
          have w0 := cell_later (unhide HBr) x0
          have w1 := cell_later (unhide HBr) x1
          have wl := Nat.lt_of_lt_of_le xl (unhide HBr).size
          have ll1 := Nat.lt_of_lt_of_le hl1 (unhide HBr).size
          have ll2 := Nat.lt_of_lt_of_le hl2 (unhide HBr).size
          have HLL : Hid ((N.take j).length = (T.take j).length ∧ (N.take j).length ≤ 100) := by show _ ∧ _; rw [List.length_take, List.length_take]; omega
          obtain ⟨M, hM⟩ : ∃ M, N.take j = M := ⟨_, rfl⟩
          obtain ⟨U, hU⟩ : ∃ U, T.take j = U := ⟨_, rfl⟩
          rw [hM] at A AT HMr TK HLL
          rw [hU] at A AT HMr TK HH HLL
          obtain ⟨Y, hY⟩ : ∃ Y, Y = wr.alloc (.cells #[.int .i64 p, .int .i64 h, .int .i64 k, .int .i64 o, .slice ta tn tc] 28) := ⟨_, rfl⟩
          have hbY : Below wr.heap.size wr Y := by rw [hY]; exact bel_new _ _
          have hY1 : Y.heap[wr.heap.size]? = some (.cells [.int .i64 p, .int .i64 h, .int .i64 k, .int .i64 o, .slice ta tn tc].toArray 28 (0, 0)) := by rw [hY]; exact five_heap _ _ _ _ _ _ _
          have HY1 := hide hY1
          have HBY := hide (bel_on (unhide HBr) hbY)
          have HBW := hide (bel_on (unhide HB) (unhide HBY))
          have HMY := hide ((unhide HMr).keep hbY)
          have y0 := cell_of hY1 0 _ rfl
          have y1 := cell_of hY1 1 _ rfl
          have y2 := cell_of hY1 2 _ rfl
          have y3 := cell_of hY1 3 _ rfl
          have y4 := cell_of hY1 4 _ rfl
          have yl := lt_of_block hY1
          obtain ⟨x, hx⟩ : ∃ x, chkB (p, h, k, o, L) = x := ⟨_, rfl⟩
          have CT := hide (rchkBlock_any p h k o ta tn tc L x Y (hL.later hbY) hx)
          have HX := hide hx
          clear hbY hY1 hL hs ht hx hc1 hc2 x0 x1 xl hl1 hl2 hM hU h1 h2
          by_cases s1 : s < 1
          · have R : Hid (chkTr N T = 3) := by show _ = _; rw [unhide A, unhide AT, next_range (.inl s1), if_pos (by decide)]
            clear A AT
            go_wp2_with fail
            rw [← hY]
            clear hY
            go_wp2
            go_ret
            exact ⟨by rw [unhide R]; rfl, unhide HBW⟩
          by_cases s2 : 120 < s
          · have R : Hid (chkTr N T = 3) := by show _ = _; rw [unhide A, unhide AT, next_range (.inr s2), if_pos (by decide)]
            clear A AT
            go_wp2_with fail
            rw [← hY]
            clear hY
            go_wp2
            go_ret
            exact ⟨by rw [unhide R]; rfl, unhide HBW⟩
          by_cases hx0 : x = 0
          · subst hx0
            have WS : Hid ((Lit.int .i64 s).wf = true) := wf_small (by omega) (by omega)
            have hp := chkB_parent (unhide HX)
            have hq := chkB_head (unhide HX)
            simp only at hp hq
            have WP : Hid ((Lit.int .i64 p).wf = true) := wf_small hp.1 (by omega)
            have WH : Hid ((Lit.int .i64 h).wf = true) := wf_small (by omega) (by omega)
            have HH2 := hide ((unhide HMO) (unhide HX))
            clear HMO
            by_cases i3 : s ∈ M
            · have R : Hid (chkTr N T = 6) := by show _ = _; rw [unhide A, unhide AT, next_twice s1 s2 (unhide HX) i3, if_pos (by decide)]
              obtain ⟨z3, hz3⟩ : ∃ z, (fnd s M U).2.1 = z := ⟨_, rfl⟩
              have D3 : Hid (decide (s = 0 ∨ s ∈ M) = true) := by show _ = _; simp [i3]
              have Z3 := hide hz3
              clear A AT hp hq i3 hz3
              go_wp2_with fail
              rw [← hY]
              clear hY
              go_wp2_with fail
              refine (unhide CT).mono ?_
              rintro e w2 ⟨rfl, hb2⟩
              have hy2 := (hb2.block _ (lt_of_block (unhide HY1))).trans (unhide HY1)
              have HB2 := hide (bel_on (unhide HBY) hb2)
              have HM2 := hide ((unhide HMY).keep hb2)
              have z0 := cell_of hy2 0 _ rfl
              have z1 := cell_of hy2 1 _ rfl
              have zl2 := lt_of_block hy2
              have HBF := hide (bel_on (unhide HB) (unhide HB2))
              clear hb2 hy2 y0 y1 y2 y3 y4 yl g0' g1' g2 g3 g4 f1 w0 w1
              go_wp2_with (first | (at_lookup; refine wpList_look_h rfl _ _ rfl (w.heap.size + 1) M U rfl (unhide HM2) s rfl (unhide WS) z3 true (unhide Z3) (unhide D3) ?_) | go_in)
              go_ret
              exact ⟨by rw [unhide R]; rfl, unhide HBF⟩
            · have I3 := hide i3
              obtain ⟨z3, hz3⟩ : ∃ z, (fnd s M U).2.1 = z := ⟨_, rfl⟩
              have D3 : Hid (decide (s = 0 ∨ s ∈ M) = false) := by show _ = _; simp [i3]; omega
              have Z3 := hide hz3
              obtain ⟨z, hz⟩ : ∃ z, (fnd p M U).2.1 = z := ⟨_, rfl⟩
              have Z4 := hide hz
              have zb := fnd_ok (unhide HH) p M
              rw [hz] at zb
              have zl := zb.1
              have zh := zb.2.1
              clear hz3 zb
              by_cases i4 : p = 0 ∨ p ∈ M
              · have D4 : Hid (decide (p = 0 ∨ p ∈ M) = true) := by show _ = _; simp [i4]
                by_cases e5 : h = z + 1
                · have R : Hid (chkTr N T = chkGo (N.take (j + 1)) (T.take (j + 1)) (N.drop (j + 1)) (T.drop (j + 1))) := by show _ = _; rw [unhide A, unhide AT, next_form s1 s2 (unhide HX) i3 i4]; simp only; rw [hz]; simp [e5]
                  have g5 : (z + 1 != h) = false := by simp [e5]
                  clear A AT hp hq i3 i4 hz e5
                  go_wp2_with fail
                  rw [← hY]
                  clear hY
                  go_wp2_with fail
                  refine (unhide CT).mono ?_
                  rintro e w2 ⟨rfl, hb2⟩
                  have hy2 := (hb2.block _ (lt_of_block (unhide HY1))).trans (unhide HY1)
                  have HB2 := hide (bel_on (unhide HBY) hb2)
                  have HM2 := hide ((unhide HMY).keep hb2)
                  have z0 := cell_of hy2 0 _ rfl
                  have z1 := cell_of hy2 1 _ rfl
                  have zl2 := lt_of_block hy2
                  have HBF := hide (bel_on (unhide HB) (unhide HB2))
                  clear hb2 hy2 y0 y1 y2 y3 y4 yl g0' g1' g2 g3 g4 f1 w0 w1
                  go_wp2_with (first | (at_lookup; refine wpList_look_h rfl _ _ rfl (w.heap.size + 1) M U rfl (unhide HM2) s rfl (unhide WS) z3 false (unhide Z3) (unhide D3) ?_) | (at_lookup; refine wpList_look_h rfl _ _ rfl (w.heap.size + 1) M U rfl (unhide HM2) p rfl (unhide WP) z true (unhide Z4) (unhide D4) ?_) | (at_mapUpdate; refine wpList_update_h rfl _ _ _ rfl (w.heap.size + 1) M U rfl (unhide HM2) (unhide HLL).1 (unhide HLL).2 s (unhide I3) (p, h, k, o, L) rfl rfl (unhide WS) (unhide WH) ?_; intro w3 hm3 hg3; rw [← (unhide TK).1, ← (unhide TK).2] at hm3; have HM3 := hide hm3; have HB3 := hide ((unhide HB2).grown hg3 (unhide HB2).size (fun q hq => by cases hq; exact Nat.le_of_eq (unhide HXS))); clear hm3 hg3) | go_in)
                  go_roundw
                  case rel => exact ⟨j + 1, by omega, by go_num, R, HH2, HB3, HM3⟩
                  case measure => simp [intOf]; omega
                · have R : Hid (chkTr N T = 4) := by show _ = _; rw [unhide A, unhide AT, next_form s1 s2 (unhide HX) i3 i4]; simp only; rw [hz]; simp [e5]
                  have g5 : (z + 1 != h) = true := by simp; omega
                  clear A AT hp hq i3 i4 hz e5
                  go_wp2_with fail
                  rw [← hY]
                  clear hY
                  go_wp2_with fail
                  refine (unhide CT).mono ?_
                  rintro e w2 ⟨rfl, hb2⟩
                  have hy2 := (hb2.block _ (lt_of_block (unhide HY1))).trans (unhide HY1)
                  have HB2 := hide (bel_on (unhide HBY) hb2)
                  have HM2 := hide ((unhide HMY).keep hb2)
                  have z0 := cell_of hy2 0 _ rfl
                  have z1 := cell_of hy2 1 _ rfl
                  have zl2 := lt_of_block hy2
                  have HBF := hide (bel_on (unhide HB) (unhide HB2))
                  clear hb2 hy2 y0 y1 y2 y3 y4 yl g0' g1' g2 g3 g4 f1 w0 w1
                  go_wp2_with (first | (at_lookup; refine wpList_look_h rfl _ _ rfl (w.heap.size + 1) M U rfl (unhide HM2) s rfl (unhide WS) z3 false (unhide Z3) (unhide D3) ?_) | (at_lookup; refine wpList_look_h rfl _ _ rfl (w.heap.size + 1) M U rfl (unhide HM2) p rfl (unhide WP) z true (unhide Z4) (unhide D4) ?_) | go_in)
                  go_ret
                  exact ⟨by rw [unhide R]; rfl, unhide HBF⟩
              · have D4 : Hid (decide (p = 0 ∨ p ∈ M) = false) := by show _ = _; simp [i4]
                have R : Hid (chkTr N T = 5) := by show _ = _; rw [unhide A, unhide AT, next_who s1 s2 (unhide HX) i3 i4, if_pos (by decide)]
                clear A AT hp hq i3 i4 hz
                go_wp2_with fail
                rw [← hY]
                clear hY
                go_wp2_with fail
                refine (unhide CT).mono ?_
                rintro e w2 ⟨rfl, hb2⟩
                have hy2 := (hb2.block _ (lt_of_block (unhide HY1))).trans (unhide HY1)
                have HB2 := hide (bel_on (unhide HBY) hb2)
                have HM2 := hide ((unhide HMY).keep hb2)
                have z0 := cell_of hy2 0 _ rfl
                have z1 := cell_of hy2 1 _ rfl
                have zl2 := lt_of_block hy2
                have HBF := hide (bel_on (unhide HB) (unhide HB2))
                clear hb2 hy2 y0 y1 y2 y3 y4 yl g0' g1' g2 g3 g4 f1 w0 w1
                go_wp2_with (first | (at_lookup; refine wpList_look_h rfl _ _ rfl (w.heap.size + 1) M U rfl (unhide HM2) s rfl (unhide WS) z3 false (unhide Z3) (unhide D3) ?_) | (at_lookup; refine wpList_look_h rfl _ _ rfl (w.heap.size + 1) M U rfl (unhide HM2) p rfl (unhide WP) z false (unhide Z4) (unhide D4) ?_) | go_in)
                go_ret
                exact ⟨by rw [unhide R]; rfl, unhide HBF⟩
          · have R : Hid (chkTr N T = x) := by show _ = _; rw [unhide A, unhide AT, next_bad s1 s2 (by rw [unhide HX]; exact hx0), unhide HX, if_pos hx0]
            have gx : (x != 0) = true := by simp [hx0]
            clear A AT hx0
            go_wp2_with fail
            rw [← hY]
            clear hY
            go_wp2_with fail
            refine (unhide CT).mono ?_
            rintro e w2 ⟨rfl, hb2⟩
            have hy2 := (hb2.block _ (lt_of_block (unhide HY1))).trans (unhide HY1)
            have HB2 := hide (bel_on (unhide HBY) hb2)
            have HM2 := hide ((unhide HMY).keep hb2)
            have z0 := cell_of hy2 0 _ rfl
            have z1 := cell_of hy2 1 _ rfl
            have zl2 := lt_of_block hy2
            have HBF := hide (bel_on (unhide HB) (unhide HB2))
            clear hb2 hy2 y0 y1 y2 y3 y4 yl g0' g1' g2 g3 g4 f1 w0 w1
            go_wp2
            go_ret
            exact ⟨by rw [unhide R]; rfl, unhide HBF⟩
        · have R : Hid (chkTr N T = 0) := by show _ = _; rw [unhide A, chkGo_end N T j (by rw [unhide HZN]; omega)]
          have HBF := hide (bel_on (unhide HB) (unhide HBr))
          clear A
          go_wp2
          go_ret
          exact ⟨by rw [unhide R]; rfl, unhide HBF⟩
  · have R : Hid (chkTr N T = 4) := by show _ = _; unfold chkTr; rw [hN.1, hT.1, if_pos e]
    have g0 : ((n : Int) != (m : Int)) = true := by simp; omega
    clear hN hT sN sT hX0 hbX
    go_enter Try.func10, Try.ntmps10
    go_wp2_with fail
    rw [← hX]
    clear hX
    go_wp2
    go_ret
    exact ⟨by rw [unhide R]; rfl, unhide HB⟩

end Go.Proofs.Ytklekpbladmjhaa
