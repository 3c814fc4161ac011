/- Contracts of first and checkNext. -/
import Derived.Test.YtmomfkikogbdeaaGreatDoorTrCloneToTrIdx
import Derived.Test.YtmomfkikogbdeaaGreatDoorCoinSpendBToTxParts
import Derived.Test.YtmomfkikogbdeaaGreatDoorTrClBlkToTrPath
namespace Go.Proofs.YtmomfkikogbdeaaGreatDoor.Tr
open Go.RowKit

set_option maxRecDepth 10000 in
set_option maxHeartbeats 1600000 in
theorem first_is (a b : Option Addr) (n c d k : Nat) (w : World) (hk : k ≤ n) (ha : SlOk a n c) (hb : SlOk b n d) :
    Calls Tryz.prog 140 #[.agg #[.slice a n c, .slice b n d], .int .i64 k] w fun e w' => e = .returned (.agg #[.slice a k c, .slice b k d]) ∧ Below w.heap.size w w' := by
  have hc := Nat.le_trans hk ha.1
  have hd := Nat.le_trans hk hb.1
  have hm := ha.2.1
  have hm2 := hb.2.1
  unfold maxLen at hm hm2
  have hcI : (k : Int) ≤ (c : Int) := by omega
  have hdI : (k : Int) ≤ (d : Int) := by omega
  clear ha hb
  go_enter Tryz.func140, Tryz.ntmps140
  go_wp2_with fail
  go_region
  all_goals
    go_wp2
  all_goals (try simp only [Exit.inBlock, Exit.then])
  all_goals
    refine bodyPost_ret (v := .agg #[.slice a k c, .slice b k d]) ?_ rfl ⟨rfl, ?_⟩
    · rw [results_cell1 rfl]
      go_simp
    · exact bel_on (bel_on (bel_new _ _) (bel_new _ _)) (bel_draw1 _)

set_option maxRecDepth 10000 in
set_option maxHeartbeats 6400000 in
theorem next_is (a b : Option Addr) (n c d : Nat) (N : List Int) (T : List BlkD) (s : Int) (p h k m : Int) (ta : Option Addr) (tn tc : Nat) (L : List TxD) (x : Int) (w : World) (hn : n ≤ maxLen) (hN : IntsAt w a n N) (hT : BlksAt w b n T) (hL : TxsAt w ta tn L) (hH : HeadsOk T) (hx : nextD N T s (p, h, k, m, L) = x) :
    Calls Tryz.prog 134 #[.agg #[.slice a n c, .slice b n d], .int .i64 s, .agg #[.int .i64 p, .int .i64 h, .int .i64 k, .int .i64 m, .slice ta tn tc]] w fun e w' => e = .returned (.int .i64 x) ∧ Below w.heap.size w w' := by
  obtain ⟨X, hX⟩ : ∃ X, X = (w.alloc (.cells #[.slice a n c, .slice b n d] 28)).alloc (.cells #[.int .i64 p, .int .i64 h, .int .i64 k, .int .i64 m, .slice ta tn tc] 39) := ⟨_, rfl⟩
  have hbX : Below w.heap.size w X := by rw [hX]; exact bel_on (bel_new _ _) (bel_new _ _)
  have hX0 : X.heap[w.heap.size]? = some (.cells [.slice a n c, .slice b n d].toArray 28 (0, 0)) := by
    rw [hX, Below.heap_alloc _ _ _ (by simp)]; exact two_heap _ _ _ _
  have hX1 : X.heap[w.heap.size + 1]? = some (.cells [.int .i64 p, .int .i64 h, .int .i64 k, .int .i64 m, .slice ta tn tc].toArray 39 (0, 0)) := by
    rw [hX]
    have := five_heap (w.alloc (.cells #[.slice a n c, .slice b n d] 28)) (.int .i64 p) (.int .i64 h) (.int .i64 k) (.int .i64 m) (.slice ta tn tc) 39
    rw [show (w.alloc (.cells #[.slice a n c, .slice b n d] 28)).heap.size = w.heap.size + 1 by simp] at this
    exact this
  obtain ⟨o1, ho1⟩ : ∃ o, (decide (1 ≤ s) && decide (s ≤ 120)) = o := ⟨_, rfl⟩
  obtain ⟨x2, hx2⟩ : ∃ x, chkB (p, h, k, m, L) = x := ⟨_, rfl⟩
  obtain ⟨o3, ho3⟩ : ∃ o, decide (s ∈ N) = o := ⟨_, rfl⟩
  obtain ⟨o4, ho4⟩ : ∃ o, decide (p ∈ N) = o := ⟨_, rfl⟩
  obtain ⟨z, hz⟩ : ∃ z, (fnd p N T).2.1 = z := ⟨_, rfl⟩
  have hz0 := (fnd_ok hH p N).1
  have hz1 := (fnd_ok hH p N).2.1
  rw [hz] at hz0 hz1
  have hw1 : IntKind.i64.wrap (z + 1) = z + 1 := by rw [IntKind.wrap_i64]; omega
  unfold nextD at hx
  simp only at hx
  rw [ho1, hx2, ho3, ho4, hz] at hx
  have HB := hide hbX
  have HX0 := hide hX0
  have HX1 := hide hX1
  have C1 := hide (fun W => within_is s 1 120 o1 W ho1.symm)
  have C2 := hide (blkCheck_any p h k m ta tn tc L x2 X (hL.later hbX) hx2)
  have C3 := hide (fun W (hb : Below X.heap.size X W) => has_is a b n c n d N s o3 W hn (hN.later (bel_on hbX hb)) ho3)
  have C4 := hide (fun W (hb : Below X.heap.size X W) => has_is a b n c n d N p o4 W hn (hN.later (bel_on hbX hb)) ho4)
  have C5 := hide (fun W (hb : Below X.heap.size X W) => heightOf_is a b n c d N T p z W hn (hN.later (bel_on hbX hb)) (hT.later (bel_on hbX hb)) hz)
  clear hbX hX0 hX1 hN hT hL hH ho1 hx2 ho3 ho4 hz
  have HXX := hide hx
  clear hx
  go_enter Tryz.func134, Tryz.ntmps134
  go_wp2_with fail
  rw [← hX]
  clear hX
  refine ((unhide C1) _).mono ?_
  rintro e w1 ⟨rfl, rfl⟩
  cases o1 with
  | false =>
    have R : Hid (x = 3) := by show _ = _; rw [← unhide HXX, if_pos rfl]
    clear HXX
    go_wp2
    go_ret
    exact ⟨by rw [unhide R]; rfl, unhide HB⟩
  | true =>
    have c0 := cell_of (unhide HX1) 0 _ rfl
    have c1 := cell_of (unhide HX1) 1 _ rfl
    have c2 := cell_of (unhide HX1) 2 _ rfl
    have c3 := cell_of (unhide HX1) 3 _ rfl
    have c4 := cell_of (unhide HX1) 4 _ rfl
    have cl := lt_of_block (unhide HX1)
    have HX2 : Hid ((if x2 ≠ 0 then x2 else if o3 = true then 6 else if p ≠ 0 ∧ o4 = false then 5 else if h ≠ z + 1 then 4 else 0) = x) := by
      have q := unhide HXX
      rw [if_neg (by decide)] at q
      exact q
    clear HXX
    go_wp2_with fail
    refine (unhide C2).mono ?_
    rintro e w2 ⟨rfl, hb2⟩
    have HB2 := hide hb2
    have h20 := (hb2.block _ (lt_of_block (unhide HX0))).trans (unhide HX0)
    clear hb2 c0 c1 c2 c3 c4 cl
    by_cases q2 : x2 = 0
    · subst q2
      have HX3 : Hid ((if o3 = true then 6 else if p ≠ 0 ∧ o4 = false then 5 else if h ≠ z + 1 then 4 else 0) = x) := by
        have q := unhide HX2
        rw [if_neg (by decide)] at q
        exact q
      have c0 := cell_of h20 0 _ rfl
      have c1 := cell_of h20 1 _ rfl
      have cl := lt_of_block h20
      clear HX2 h20
      go_wp2_with fail
      refine ((unhide C3) _ (unhide HB2)).mono ?_
      rintro e w3 ⟨rfl, hb3⟩
      have HB3 := hide (bel_on (unhide HB2) hb3)
      have h30 := ((unhide HB3).block _ (lt_of_block (unhide HX0))).trans (unhide HX0)
      have h31 := ((unhide HB3).block _ (lt_of_block (unhide HX1))).trans (unhide HX1)
      have HF := hide (bel_on (unhide HB) (unhide HB3))
      clear hb3 c0 c1 cl
      cases o3 with
      | true =>
        have R : Hid (x = 6) := by show _ = _; rw [← unhide HX3, if_pos rfl]
        clear HX3 h30 h31
        go_wp2
        go_ret
        exact ⟨by rw [unhide R]; rfl, unhide HF⟩
      | false =>
        have HX4 : Hid ((if p ≠ 0 ∧ o4 = false then 5 else if h ≠ z + 1 then 4 else 0) = x) := by
          have q := unhide HX3
          rw [if_neg (by decide)] at q
          exact q
        have c0 := cell_of h30 0 _ rfl
        have c1 := cell_of h30 1 _ rfl
        have cl := lt_of_block h30
        have d0 := cell_of h31 0 _ rfl
        have d1 := cell_of h31 1 _ rfl
        have dl := lt_of_block h31
        clear HX3 h30 h31
        by_cases q4 : p = 0
        · subst q4
          have HX5 : Hid ((if h ≠ z + 1 then (4 : Int) else 0) = x) := by
            have q := unhide HX4
            rw [if_neg (by simp)] at q
            exact q
          clear HX4 C4
          by_cases q5 : h = z + 1
          · have R : Hid (x = 0) := by show _ = _; rw [← unhide HX5, if_neg (by simp [q5])]
            have g5 : (h != z + 1) = false := by simp [q5]
            clear HX5 q5
            go_wp2_with fail
            go_region_with (go_at_call 194; refine ((unhide C5) _ (bel_on (unhide HB3) (bel_draw1 _))).mono ?_; rintro e w5 ⟨rfl, hb5⟩; have e0 := cell_later hb5 (cell_later (bel_draw1 _) d0); have e1 := cell_later hb5 (cell_later (bel_draw1 _) d1); have el := Nat.lt_of_lt_of_le dl hb5.size; have HF5 := hide (bel_on (unhide HF) (bel_on (bel_draw1 _) hb5)); clear hb5)
            all_goals
              go_wp2
              go_ret
              exact ⟨by rw [unhide R]; rfl, unhide HF5⟩
          · have R : Hid (x = 4) := by show _ = _; rw [← unhide HX5, if_pos q5]
            have g5 : (h != z + 1) = true := by simp [q5]
            clear HX5 q5
            go_wp2_with fail
            go_region_with (go_at_call 194; refine ((unhide C5) _ (bel_on (unhide HB3) (bel_draw1 _))).mono ?_; rintro e w5 ⟨rfl, hb5⟩; have e0 := cell_later hb5 (cell_later (bel_draw1 _) d0); have e1 := cell_later hb5 (cell_later (bel_draw1 _) d1); have el := Nat.lt_of_lt_of_le dl hb5.size; have HF5 := hide (bel_on (unhide HF) (bel_on (bel_draw1 _) hb5)); clear hb5)
            all_goals
              go_wp2
              go_ret
              exact ⟨by rw [unhide R]; rfl, unhide HF5⟩
        · have g4 : (p != 0) = true := by simp [q4]
          go_wp2_with fail
          refine ((unhide C4) _ (unhide HB3)).mono ?_
          rintro e w4 ⟨rfl, hb4⟩
          have HB4 := hide (bel_on (unhide HB3) hb4)
          have HF4 := hide (bel_on (unhide HB) (unhide HB4))
          have k0 := cell_later hb4 c0
          have k1 := cell_later hb4 c1
          have kl := Nat.lt_of_lt_of_le cl hb4.size
          have d0 := cell_later hb4 d0
          have d1 := cell_later hb4 d1
          have dl := Nat.lt_of_lt_of_le dl hb4.size
          clear hb4 c0 c1 cl
          cases o4 with
          | false =>
            have R : Hid (x = 5) := by show _ = _; rw [← unhide HX4, if_pos ⟨q4, rfl⟩]
            clear HX4 q4
            go_wp2
            go_ret
            exact ⟨by rw [unhide R]; rfl, unhide HF4⟩
          | true =>
            have HX5 : Hid ((if h ≠ z + 1 then (4 : Int) else 0) = x) := by
              have q := unhide HX4
              rw [if_neg (by simp)] at q
              exact q
            clear HX4 q4
            by_cases q5 : h = z + 1
            · have R : Hid (x = 0) := by show _ = _; rw [← unhide HX5, if_neg (by simp [q5])]
              have g5 : (h != z + 1) = false := by simp [q5]
              clear HX5 q5
              go_wp2_with fail
              go_region_with (go_at_call 194; refine ((unhide C5) _ (bel_on (unhide HB4) (bel_draw1 _))).mono ?_; rintro e w5 ⟨rfl, hb5⟩; have e0 := cell_later hb5 (cell_later (bel_draw1 _) d0); have e1 := cell_later hb5 (cell_later (bel_draw1 _) d1); have el := Nat.lt_of_lt_of_le dl hb5.size; have HF5 := hide (bel_on (unhide HF4) (bel_on (bel_draw1 _) hb5)); clear hb5)
              all_goals
                go_wp2
                go_ret
                exact ⟨by rw [unhide R]; rfl, unhide HF5⟩
            · have R : Hid (x = 4) := by show _ = _; rw [← unhide HX5, if_pos q5]
              have g5 : (h != z + 1) = true := by simp [q5]
              clear HX5 q5
              go_wp2_with fail
              go_region_with (go_at_call 194; refine ((unhide C5) _ (bel_on (unhide HB4) (bel_draw1 _))).mono ?_; rintro e w5 ⟨rfl, hb5⟩; have e0 := cell_later hb5 (cell_later (bel_draw1 _) d0); have e1 := cell_later hb5 (cell_later (bel_draw1 _) d1); have el := Nat.lt_of_lt_of_le dl hb5.size; have HF5 := hide (bel_on (unhide HF4) (bel_on (bel_draw1 _) hb5)); clear hb5)
              all_goals
                go_wp2
                go_ret
                exact ⟨by rw [unhide R]; rfl, unhide HF5⟩
    · have R : Hid (x = x2) := by show _ = _; rw [← unhide HX2, if_pos q2]
      have g2 : (x2 != 0) = true := by simp [q2]
      have HF := hide (bel_on (unhide HB) (unhide HB2))
      clear HX2 q2 h20
      go_wp2
      go_ret
      exact ⟨by rw [unhide R]; rfl, unhide HF⟩

end Go.Proofs.YtmomfkikogbdeaaGreatDoor.Tr

/- The contract of tree.Check. -/
namespace Go.Proofs.YtmomfkikogbdeaaGreatDoor.Tr
open Go.RowKit

theorem next_chk {N : List Int} {T : List BlkD} {x : Int} {b : BlkD} (h : nextD N T x b = 0) : chkB b = 0 := by
  unfold nextD at h
  split at h
  · cases h
  · split at h
    · next q => exact absurd h q
    · next q => exact Classical.not_not.1 q
theorem heads_more {T : List BlkD} {j : Nat} (hj : j < T.length) (h : HeadsOk (T.take j)) (hb : chkB T[j] = 0) : HeadsOk (T.take (j + 1)) := by
  rw [List.take_succ_eq_append_getElem hj]
  intro b hm
  rcases List.mem_append.1 hm with q | q
  · exact h b q
  · rw [List.mem_singleton.1 q]; exact chkB_head hb

set_option maxRecDepth 10000 in
set_option maxHeartbeats 6400000 in
theorem trCheck_any (a b : Option Addr) (n c m d : Nat) (N : List Int) (T : List BlkD) (x : Int) (w : World) (hN : IntsAt w a n N) (hT : BlksAt w b m T) (sN : SlOk a n c) (sT : SlOk b m d) (hx : chkTr N T = x) :
    Calls Tryz.prog 69 #[.agg #[.slice a n c, .slice b m d]] w fun e w' => e = .returned (.int .i64 x) ∧ Below w.heap.size w w' := by
  subst hx
  obtain ⟨X, hX⟩ : ∃ X, X = w.alloc (.cells #[.slice a n c, .slice b m d] 28) := ⟨_, rfl⟩
  have hbX : Below w.heap.size w X := by rw [hX]; exact bel_new _ _
  have hX0 : X.heap[w.heap.size]? = some (.cells [.slice a n c, .slice b m d].toArray 28 (0, 0)) := by rw [hX]; exact two_heap _ _ _ _
  have HB := hide hbX
  have HX0 := hide hX0
  have x0 := cell_of hX0 0 _ rfl
  have x1 := cell_of hX0 1 _ rfl
  have xl := lt_of_block hX0
  have HN := hide (hN.later hbX)
  have HT := hide (hT.later hbX)
  have HZN := hide hN.1
  have HZT := hide hT.1
  have hm := sN.2.1
  have hm2 := sT.2.1
  have hlc := sN.1
  unfold maxLen at hm hm2
  by_cases e : n = m
  · subst e
    by_cases h24 : 24 < n
    · have R : Hid (chkTr N T = 2) := by show _ = _; unfold chkTr; rw [hN.1, hT.1, if_neg (by simp), if_pos h24]
      have g0 : ((n : Int) != (n : Int)) = false := by simp
      have g1 : (24 : Int) < (n : Int) := by omega
      clear hN hT sN sT hX0 hbX
      go_enter Tryz.func69, Tryz.ntmps69
      go_wp2_with fail
      rw [← hX]
      clear hX
      go_wp2
      go_ret
      exact ⟨by rw [unhide R]; rfl, unhide HB⟩
    · have R : Hid (chkTr N T = chkGo (N.take 0) (T.take 0) (N.drop 0) (T.drop 0)) := by show _ = _; unfold chkTr; rw [hN.1, hT.1, if_neg (by simp), if_neg h24]; rfl
      have g0 : ((n : Int) != (n : Int)) = false := by simp
      have g1 : ¬ (24 : Int) < (n : Int) := by omega
      have SN := hide sN
      have ST := hide sT
      clear hN hT sN sT hX0 hbX
      go_enter Tryz.func69, Tryz.ntmps69
      go_wp2_with fail
      rw [← hX]
      clear hX
      go_wp2
      go_loopw [19] (fun i wr => ∃ j : Nat, j ≤ n ∧ i = .int .i64 j ∧ Hid (chkTr N T = chkGo (N.take j) (T.take j) (N.drop j) (T.drop j)) ∧ Hid (HeadsOk (T.take j)) ∧ Hid (Below X.heap.size X wr)) (fun i _ => n - (intOf i).toNat)
      case atStart => exact ⟨0, Nat.zero_le _, rfl, R, (fun b hb => (by simp at hb) : HeadsOk (T.take 0)), (Below.refl _ _ : Below X.heap.size X X)⟩
      case round =>
        obtain ⟨j, hj, rfl, A, HH, HBr⟩ := hrel
        clear R
        by_cases hlt : j < n
        · have h1 : j < N.length := by rw [unhide HZN]; exact hlt
          have h2 : j < T.length := by rw [unhide HZT]; exact hlt
          obtain ⟨b1, off1, rfl, hl1, hc1⟩ := (unhide HN).2 (by omega)
          obtain ⟨b2, off2, rfl, hl2, hc2⟩ := (unhide HT).2 (by omega)
          have f1 := cell_later (unhide HBr) (hc1 j h1)
          have hin := BlkAt.kept _ _ _ _ _ (unhide HBr) (hc2 j h2)
          have AT := hide (chkGo_at N T j h1 h2)
          have HM := hide (heads_more h2 (unhide HH))
          obtain ⟨s, hs⟩ : ∃ s, N[j] = s := ⟨_, rfl⟩
          obtain ⟨t, ht⟩ : ∃ t, T[j] = t := ⟨_, rfl⟩
          rw [hs] at f1 AT
          rw [ht] at hin AT HM
          obtain ⟨p, h, k, o, L⟩ := t
          obtain ⟨g0', g1', g2, g3, ta, tn, tc, g4, hL, _⟩ := hin
          simp only at g0' g1' g2 g3 hL
          obtain ⟨y, hy⟩ : ∃ y, nextD (N.take j) (T.take j) s (p, h, k, o, L) = y := ⟨_, rfl⟩
          have w0 := cell_later (unhide HBr) x0
          have w1 := cell_later (unhide HBr) x1
          have wl := Nat.lt_of_lt_of_le xl (unhide HBr).size
          have ll1 := Nat.lt_of_lt_of_le hl1 (unhide HBr).size
          have ll2 := Nat.lt_of_lt_of_le hl2 (unhide HBr).size
          have C1 := hide (fun W => first_is (some ⟨b1, off1, none⟩) (some ⟨b2, off2, none⟩) n c d j W hj (unhide SN) (unhide ST))
          have hjm : j ≤ maxLen := by unfold maxLen; omega
          have C2 := hide (fun W (hb : Below wr.heap.size wr W) => next_is (some ⟨b1, off1, none⟩) (some ⟨b2, off2, none⟩) j c d (N.take j) (T.take j) s p h k o ta tn tc L y W hjm (((unhide HN).later (bel_on (unhide HBr) hb)).take j hj) (RowsAt.take ((unhide HT).later (bel_on (unhide HBr) hb)) j hj) (hL.later hb) (unhide HH) hy)
          rw [hy] at AT
          have HY : Hid (y = 0 → chkB (p, h, k, o, L) = 0) := fun q => next_chk (hy.trans q)
          clear hc1 hc2 hL hs ht hy x0 x1 xl hl1 hl2
          by_cases q : y = 0
          · subst q
            have R : Hid (chkTr N T = chkGo (N.take (j + 1)) (T.take (j + 1)) (N.drop (j + 1)) (T.drop (j + 1))) := by show _ = _; rw [unhide A, unhide AT, if_neg (by simp)]
            have HH2 := hide ((unhide HM) ((unhide HY) rfl))
            clear A AT HM HY
            go_wp2_with fail
            go_region_held3 (fun W' => Below wr.heap.size wr W' ∧ W'.cell? ⟨w.heap.size, 0, none⟩ = some (.slice (some ⟨b1, off1, none⟩) n c) ∧ W'.cell? ⟨w.heap.size, 1, none⟩ = some (.slice (some ⟨b2, off2, none⟩) n d) ∧ W'.cell? ⟨b1, off1 + j, none⟩ = some (.int .i64 s) ∧ W'.cell? ⟨b2, off2 + j * 5, none⟩ = some (.int .i64 p) ∧ W'.cell? ⟨b2, off2 + j * 5 + 1, none⟩ = some (.int .i64 h) ∧ W'.cell? ⟨b2, off2 + j * 5 + 2, none⟩ = some (.int .i64 k) ∧ W'.cell? ⟨b2, off2 + j * 5 + 3, none⟩ = some (.int .i64 o) ∧ W'.cell? ⟨b2, off2 + j * 5 + 4, none⟩ = some (.slice ta tn tc))
              (first
              | exact ⟨bel_draw1 _, w0, w1, f1, g0', g1', g2, g3, g4⟩
              | (go_split_ands
                 refine ⟨bel_on (by assumption) hbc, cell_later hbc (by assumption), cell_later hbc (by assumption), cell_later hbc (by assumption), cell_later hbc (by assumption), cell_later hbc (by assumption), cell_later hbc (by assumption), cell_later hbc (by assumption), cell_later hbc (by assumption)⟩))
              (first | (go_at_call 140; refine ((unhide C1) _).mono ?_; rintro e w' ⟨rfl, hbc⟩) | (go_at_call 134; go_split_ands; refine ((unhide C2) _ (by assumption)).mono ?_; rintro e w' ⟨rfl, hbc⟩))
            rename_i hq
            have HB3 := hide (bel_on (unhide HBr) hq.1)
            clear hq
            go_wp2
            go_roundw
            case rel => exact ⟨j + 1, by omega, by go_num, R, HH2, HB3⟩
            case measure => simp [intOf]; omega
          · have R : Hid (chkTr N T = y) := by show _ = _; rw [unhide A, unhide AT, if_pos q]
            have gy : (y != 0) = true := by simp [q]
            clear A AT HM HY q
            go_wp2_with fail
            go_region_held3 (fun W' => Below wr.heap.size wr W' ∧ W'.cell? ⟨w.heap.size, 0, none⟩ = some (.slice (some ⟨b1, off1, none⟩) n c) ∧ W'.cell? ⟨w.heap.size, 1, none⟩ = some (.slice (some ⟨b2, off2, none⟩) n d) ∧ W'.cell? ⟨b1, off1 + j, none⟩ = some (.int .i64 s) ∧ W'.cell? ⟨b2, off2 + j * 5, none⟩ = some (.int .i64 p) ∧ W'.cell? ⟨b2, off2 + j * 5 + 1, none⟩ = some (.int .i64 h) ∧ W'.cell? ⟨b2, off2 + j * 5 + 2, none⟩ = some (.int .i64 k) ∧ W'.cell? ⟨b2, off2 + j * 5 + 3, none⟩ = some (.int .i64 o) ∧ W'.cell? ⟨b2, off2 + j * 5 + 4, none⟩ = some (.slice ta tn tc))
              (first
              | exact ⟨bel_draw1 _, w0, w1, f1, g0', g1', g2, g3, g4⟩
              | (go_split_ands
                 refine ⟨bel_on (by assumption) hbc, cell_later hbc (by assumption), cell_later hbc (by assumption), cell_later hbc (by assumption), cell_later hbc (by assumption), cell_later hbc (by assumption), cell_later hbc (by assumption), cell_later hbc (by assumption), cell_later hbc (by assumption)⟩))
              (first | (go_at_call 140; refine ((unhide C1) _).mono ?_; rintro e w' ⟨rfl, hbc⟩) | (go_at_call 134; go_split_ands; refine ((unhide C2) _ (by assumption)).mono ?_; rintro e w' ⟨rfl, hbc⟩))
            rename_i hq
            have HB3 := hide (bel_on (unhide HB) (bel_on (unhide HBr) hq.1))
            clear hq
            go_wp2
            go_ret
            exact ⟨by rw [unhide R]; rfl, unhide HB3⟩
        · have R : Hid (chkTr N T = 0) := by show _ = _; rw [unhide A, chkGo_end N T j (by rw [unhide HZN]; omega)]
          have HBF := hide (bel_on (unhide HB) (unhide HBr))
          clear A
          go_wp2
          go_ret
          exact ⟨by rw [unhide R]; rfl, unhide HBF⟩
  · have R : Hid (chkTr N T = 4) := by show _ = _; unfold chkTr; rw [hN.1, hT.1, if_pos e]
    have g0 : ((n : Int) != (m : Int)) = true := by simp; omega
    clear hN hT sN sT hX0 hbX
    go_enter Tryz.func69, Tryz.ntmps69
    go_wp2_with fail
    rw [← hX]
    clear hX
    go_wp2
    go_ret
    exact ⟨by rw [unhide R]; rfl, unhide HB⟩

end Go.Proofs.YtmomfkikogbdeaaGreatDoor.Tr

/- Contracts of Path, Work and Best. -/
namespace Go.Proofs.YtmomfkikogbdeaaGreatDoor.Tr
open Go.RowKit

theorem chkGo_heads : ∀ (M : List Int) (U : List BlkD) (N : List Int) (T : List BlkD), M.length = U.length → chkGo N T M U = 0 → HeadsOk U
  | [], [], _, _, _, _ => fun b hb => by cases hb
  | [], _ :: _, _, _, h, _ => by cases h
  | _ :: _, [], _, _, h, _ => by cases h
  | x :: M, b :: U, N, T, h, hc => by
    rw [chkGo] at hc
    split at hc
    · next q => exact absurd hc q
    · next q =>
      have h1 := chkB_head (next_chk (Classical.not_not.1 q))
      have h2 := chkGo_heads M U _ _ (by simpa using h) hc
      intro y hy
      rcases List.mem_cons.1 hy with rfl | hy
      · exact h1
      · exact h2 y hy
theorem chkTr_ok {N : List Int} {T : List BlkD} (h : chkTr N T = 0) : N.length = T.length ∧ N.length ≤ 24 ∧ HeadsOk T ∧ chkGo [] [] N T = 0 := by
  unfold chkTr at h
  split at h
  · cases h
  · next q =>
    split at h
    · cases h
    · next q2 => exact ⟨Classical.not_not.1 q, by omega, chkGo_heads N T [] [] (Classical.not_not.1 q) h, h⟩
end Go.Proofs.YtmomfkikogbdeaaGreatDoor.Tr
