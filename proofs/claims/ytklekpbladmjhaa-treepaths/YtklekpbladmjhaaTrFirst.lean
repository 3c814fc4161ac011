/- Contracts of first and checkNext. -/
import Derived.Test.YtklekpbladmjhaaTrIdx
import Derived.Test.YtklekpbladmjhaaBlkCheck
namespace Go.Proofs.Ytklekpbladmjhaa
open Go.RowKit

set_option maxRecDepth 10000 in
set_option maxHeartbeats 1600000 in
theorem first_is (a b : Option Addr) (n c d k : Nat) (w : World) (hk : k ≤ n) (ha : SlOk a n c) (hb : SlOk b n d) :
    Calls Try.prog 34 #[.agg #[.slice a n c, .slice b n d], .int .i64 k] w fun e w' => e = .returned (.agg #[.slice a k c, .slice b k d]) ∧ Below w.heap.size w w' := by
  have hc := Nat.le_trans hk ha.1
  have hd := Nat.le_trans hk hb.1
  have hm := ha.2.1
  have hm2 := hb.2.1
  unfold maxLen at hm hm2
  have hcI : (k : Int) ≤ (c : Int) := by omega
  have hdI : (k : Int) ≤ (d : Int) := by omega
  clear ha hb
  go_enter Try.func34, Try.ntmps34
  go_wp2_with fail
  go_region
  all_goals
    go_wp2
  all_goals (try simp only [Exit.inBlock, Exit.then])
  all_goals
    refine bodyPost_ret (v := .agg #[.slice a k c, .slice b k d]) ?_ rfl ⟨rfl, ?_⟩
    · rw [results_cell1 rfl]
      go_simp
    · exact bel_on (bel_on (bel_new _ _) (bel_new _ _)) (bel_draw1 _)

set_option maxRecDepth 10000 in
set_option maxHeartbeats 6400000 in
theorem next_is (a b : Option Addr) (n c d : Nat) (N : List Int) (T : List BlkD) (s : Int) (p h k m : Int) (ta : Option Addr) (tn tc : Nat) (L : List TxD) (x : Int) (w : World) (hn : n ≤ maxLen) (hN : IntsAt w a n N) (hT : BlksAt w b n T) (hL : TxsAt w ta tn L) (hH : HeadsOk T) (hx : nextD N T s (p, h, k, m, L) = x) :
    Calls Try.prog 27 #[.agg #[.slice a n c, .slice b n d], .int .i64 s, .agg #[.int .i64 p, .int .i64 h, .int .i64 k, .int .i64 m, .slice ta tn tc]] w fun e w' => e = .returned (.int .i64 x) ∧ Below w.heap.size w w' := by
  obtain ⟨X, hX⟩ : ∃ X, X = (w.alloc (.cells #[.slice a n c, .slice b n d] 25)).alloc (.cells #[.int .i64 p, .int .i64 h, .int .i64 k, .int .i64 m, .slice ta tn tc] 28) := ⟨_, rfl⟩
  have hbX : Below w.heap.size w X := by rw [hX]; exact bel_on (bel_new _ _) (bel_new _ _)
  have hX0 : X.heap[w.heap.size]? = some (.cells [.slice a n c, .slice b n d].toArray 25 (0, 0)) := by
    rw [hX, Below.heap_alloc _ _ _ (by simp)]; exact two_heap _ _ _ _
  have hX1 : X.heap[w.heap.size + 1]? = some (.cells [.int .i64 p, .int .i64 h, .int .i64 k, .int .i64 m, .slice ta tn tc].toArray 28 (0, 0)) := by
    rw [hX]
    have := five_heap (w.alloc (.cells #[.slice a n c, .slice b n d] 25)) (.int .i64 p) (.int .i64 h) (.int .i64 k) (.int .i64 m) (.slice ta tn tc) 28
    rw [show (w.alloc (.cells #[.slice a n c, .slice b n d] 25)).heap.size = w.heap.size + 1 by simp] at this
    exact this
  obtain ⟨o1, ho1⟩ : ∃ o, (decide (1 ≤ s) && decide (s ≤ 120)) = o := ⟨_, rfl⟩
  obtain ⟨x2, hx2⟩ : ∃ x, chkB (p, h, k, m, L) = x := ⟨_, rfl⟩
  obtain ⟨o3, ho3⟩ : ∃ o, decide (s ∈ N) = o := ⟨_, rfl⟩
  obtain ⟨o4, ho4⟩ : ∃ o, decide (p ∈ N) = o := ⟨_, rfl⟩
  obtain ⟨z, hz⟩ : ∃ z, (fnd p N T).2.1 = z := ⟨_, rfl⟩
  have hz0 := (fnd_ok hH p N).1
  have hz1 := (fnd_ok hH p N).2.1
  rw [hz] at hz0 hz1
  have hw1 : IntKind.i64.wrap (z + 1) = z + 1 := by rw [IntKind.wrap_i64]; omega
  unfold nextD at hx
  simp only at hx
  rw [ho1, hx2, ho3, ho4, hz] at hx
  have HB := hide hbX
  have HX0 := hide hX0
  have HX1 := hide hX1
  have C1 := hide (fun W => within_is s 1 120 o1 W ho1.symm)
  have C2 := hide (blkCheck_any p h k m ta tn tc L x2 X (hL.later hbX) hx2)
  have C3 := hide (fun W (hb : Below X.heap.size X W) => has_is a b n c n d N s o3 W hn (hN.later (bel_on hbX hb)) ho3)
  have C4 := hide (fun W (hb : Below X.heap.size X W) => has_is a b n c n d N p o4 W hn (hN.later (bel_on hbX hb)) ho4)
  have C5 := hide (fun W (hb : Below X.heap.size X W) => heightOf_is a b n c d N T p z W hn (hN.later (bel_on hbX hb)) (hT.later (bel_on hbX hb)) hz)
  clear hbX hX0 hX1 hN hT hL hH ho1 hx2 ho3 ho4 hz
  have HXX := hide hx
  clear hx
  go_enter Try.func27, Try.ntmps27
  go_wp2_with fail
  rw [← hX]
  clear hX
  refine ((unhide C1) _).mono ?_
  rintro e w1 ⟨rfl, rfl⟩
  cases o1 with
  | false =>
    have R : Hid (x = 3) := by show _ = _; rw [← unhide HXX, if_pos rfl]
    clear HXX
    go_wp2
    go_ret
    exact ⟨by rw [unhide R]; rfl, unhide HB⟩
  | true =>
    have c0 := cell_of (unhide HX1) 0 _ rfl
    have c1 := cell_of (unhide HX1) 1 _ rfl
    have c2 := cell_of (unhide HX1) 2 _ rfl
    have c3 := cell_of (unhide HX1) 3 _ rfl
    have c4 := cell_of (unhide HX1) 4 _ rfl
    have cl := lt_of_block (unhide HX1)
    have HX2 : Hid ((if x2 ≠ 0 then x2 else if o3 = true then 6 else if p ≠ 0 ∧ o4 = false then 5 else if h ≠ z + 1 then 4 else 0) = x) := by
      have q := unhide HXX
      rw [if_neg (by decide)] at q
      exact q
    clear HXX
    go_wp2_with fail
    refine (unhide C2).mono ?_
    rintro e w2 ⟨rfl, hb2⟩
    have HB2 := hide hb2
    have h20 := (hb2.block _ (lt_of_block (unhide HX0))).trans (unhide HX0)
    clear hb2 c0 c1 c2 c3 c4 cl
    by_cases q2 : x2 = 0
    · subst q2
      have HX3 : Hid ((if o3 = true then 6 else if p ≠ 0 ∧ o4 = false then 5 else if h ≠ z + 1 then 4 else 0) = x) := by
        have q := unhide HX2
        rw [if_neg (by decide)] at q
        exact q
      have c0 := cell_of h20 0 _ rfl
      have c1 := cell_of h20 1 _ rfl
      have cl := lt_of_block h20
      clear HX2 h20
      go_wp2_with fail
      refine ((unhide C3) _ (unhide HB2)).mono ?_
      rintro e w3 ⟨rfl, hb3⟩
      have HB3 := hide (bel_on (unhide HB2) hb3)
      have h30 := ((unhide HB3).block _ (lt_of_block (unhide HX0))).trans (unhide HX0)
      have h31 := ((unhide HB3).block _ (lt_of_block (unhide HX1))).trans (unhide HX1)
      have HF := hide (bel_on (unhide HB) (unhide HB3))
      clear hb3 c0 c1 cl
      cases o3 with
      | true =>
        have R : Hid (x = 6) := by show _ = _; rw [← unhide HX3, if_pos rfl]
        clear HX3 h30 h31
        go_wp2
        go_ret
        exact ⟨by rw [unhide R]; rfl, unhide HF⟩
      | false =>
        have HX4 : Hid ((if p ≠ 0 ∧ o4 = false then 5 else if h ≠ z + 1 then 4 else 0) = x) := by
          have q := unhide HX3
          rw [if_neg (by decide)] at q
          exact q
        have c0 := cell_of h30 0 _ rfl
        have c1 := cell_of h30 1 _ rfl
        have cl := lt_of_block h30
        have d0 := cell_of h31 0 _ rfl
        have d1 := cell_of h31 1 _ rfl
        have dl := lt_of_block h31
        clear HX3 h30 h31
        by_cases q4 : p = 0
        · subst q4
          have HX5 : Hid ((if h ≠ z + 1 then (4 : Int) else 0) = x) := by
            have q := unhide HX4
            rw [if_neg (by simp)] at q
            exact q
          clear HX4 C4
          by_cases q5 : h = z + 1
          · have R : Hid (x = 0) := by show _ = _; rw [← unhide HX5, if_neg (by simp [q5])]
            have g5 : (h != z + 1) = false := by simp [q5]
            clear HX5 q5
            go_wp2_with fail
            go_region_with (go_at_call 45; refine ((unhide C5) _ (bel_on (unhide HB3) (bel_draw1 _))).mono ?_; rintro e w5 ⟨rfl, hb5⟩; have e0 := cell_later hb5 (cell_later (bel_draw1 _) d0); have e1 := cell_later hb5 (cell_later (bel_draw1 _) d1); have el := Nat.lt_of_lt_of_le dl hb5.size; have HF5 := hide (bel_on (unhide HF) (bel_on (bel_draw1 _) hb5)); clear hb5)
            all_goals
              go_wp2
              go_ret
              exact ⟨by rw [unhide R]; rfl, unhide HF5⟩
          · have R : Hid (x = 4) := by show _ = _; rw [← unhide HX5, if_pos q5]
            have g5 : (h != z + 1) = true := by simp [q5]
            clear HX5 q5
            go_wp2_with fail
            go_region_with (go_at_call 45; refine ((unhide C5) _ (bel_on (unhide HB3) (bel_draw1 _))).mono ?_; rintro e w5 ⟨rfl, hb5⟩; have e0 := cell_later hb5 (cell_later (bel_draw1 _) d0); have e1 := cell_later hb5 (cell_later (bel_draw1 _) d1); have el := Nat.lt_of_lt_of_le dl hb5.size; have HF5 := hide (bel_on (unhide HF) (bel_on (bel_draw1 _) hb5)); clear hb5)
            all_goals
              go_wp2
              go_ret
              exact ⟨by rw [unhide R]; rfl, unhide HF5⟩
        · have g4 : (p != 0) = true := by simp [q4]
          go_wp2_with fail
          refine ((unhide C4) _ (unhide HB3)).mono ?_
          rintro e w4 ⟨rfl, hb4⟩
          have HB4 := hide (bel_on (unhide HB3) hb4)
          have HF4 := hide (bel_on (unhide HB) (unhide HB4))
          have k0 := cell_later hb4 c0
          have k1 := cell_later hb4 c1
          have kl := Nat.lt_of_lt_of_le cl hb4.size
          have d0 := cell_later hb4 d0
          have d1 := cell_later hb4 d1
          have dl := Nat.lt_of_lt_of_le dl hb4.size
          clear hb4 c0 c1 cl
          cases o4 with
          | false =>
            have R : Hid (x = 5) := by show _ = _; rw [← unhide HX4, if_pos ⟨q4, rfl⟩]
            clear HX4 q4
            go_wp2
            go_ret
            exact ⟨by rw [unhide R]; rfl, unhide HF4⟩
          | true =>
            have HX5 : Hid ((if h ≠ z + 1 then (4 : Int) else 0) = x) := by
              have q := unhide HX4
              rw [if_neg (by simp)] at q
              exact q
            clear HX4 q4
            by_cases q5 : h = z + 1
            · have R : Hid (x = 0) := by show _ = _; rw [← unhide HX5, if_neg (by simp [q5])]
              have g5 : (h != z + 1) = false := by simp [q5]
              clear HX5 q5
              go_wp2_with fail
              go_region_with (go_at_call 45; refine ((unhide C5) _ (bel_on (unhide HB4) (bel_draw1 _))).mono ?_; rintro e w5 ⟨rfl, hb5⟩; have e0 := cell_later hb5 (cell_later (bel_draw1 _) d0); have e1 := cell_later hb5 (cell_later (bel_draw1 _) d1); have el := Nat.lt_of_lt_of_le dl hb5.size; have HF5 := hide (bel_on (unhide HF4) (bel_on (bel_draw1 _) hb5)); clear hb5)
              all_goals
                go_wp2
                go_ret
                exact ⟨by rw [unhide R]; rfl, unhide HF5⟩
            · have R : Hid (x = 4) := by show _ = _; rw [← unhide HX5, if_pos q5]
              have g5 : (h != z + 1) = true := by simp [q5]
              clear HX5 q5
              go_wp2_with fail
              go_region_with (go_at_call 45; refine ((unhide C5) _ (bel_on (unhide HB4) (bel_draw1 _))).mono ?_; rintro e w5 ⟨rfl, hb5⟩; have e0 := cell_later hb5 (cell_later (bel_draw1 _) d0); have e1 := cell_later hb5 (cell_later (bel_draw1 _) d1); have el := Nat.lt_of_lt_of_le dl hb5.size; have HF5 := hide (bel_on (unhide HF4) (bel_on (bel_draw1 _) hb5)); clear hb5)
              all_goals
                go_wp2
                go_ret
                exact ⟨by rw [unhide R]; rfl, unhide HF5⟩
    · have R : Hid (x = x2) := by show _ = _; rw [← unhide HX2, if_pos q2]
      have g2 : (x2 != 0) = true := by simp [q2]
      have HF := hide (bel_on (unhide HB) (unhide HB2))
      clear HX2 q2 h20
      go_wp2
      go_ret
      exact ⟨by rw [unhide R]; rfl, unhide HF⟩

end Go.Proofs.Ytklekpbladmjhaa
