/- Contracts of what is checked ahead of doing a transaction. -/
import Derived.Test.YtepmnpapdknocaaGreatDoorCoinCovers
namespace Go.Proofs.YtepmnpapdknocaaGreatDoor
open Go.RowKit

set_option maxRecDepth 10000 in
set_option maxHeartbeats 1600000 in
theorem checkBoth_is (a : Option Addr) (n c : Nat) (L : List CoinD) (h : Int) (ai ao : Option Addr) (ni ci no co : Nat) (I : List InD) (O : List OutD) (x : Int) (w : World) (hL : CoinsAt w a n L) (hI : InsAt w ai ni I) (hO : OutsAt w ao no O) (sI : SlOk ai ni ci) (hx : ckBoth L (h, I, O) = x) :
    Calls Tryz.prog 75 #[.slice a n c, .agg #[.int .i64 h, .slice ai ni ci, .slice ao no co]] w fun e w' => e = .returned (.int .i64 x) ∧ Below w.heap.size w w' := by
  obtain ⟨X0, hX0⟩ : ∃ X0, X0 = w.alloc (.cells #[.int .i64 h, .slice ai ni ci, .slice ao no co] 74) := ⟨_, rfl⟩
  have hb0 : Below w.heap.size w X0 := by rw [hX0]; exact bel_new _ _
  have hX1 : X0.heap[w.heap.size]? = some (.cells [.int .i64 h, .slice ai ni ci, .slice ao no co].toArray 74 (0, 0)) := by rw [hX0]; exact three_heap _ _ _ _ _
  obtain ⟨y, hy⟩ : ∃ y, ckCoins L = y := ⟨_, rfl⟩
  have C1 := hide (uCheck_any a n c L y X0 (hL.later hb0) hy)
  have TX := hide (fun w' (hb : Below X0.heap.size X0 w') => txCheck_any h ai ao ni ci no co I O w' ((hI.later hb0).later hb) ((hO.later hb0).later hb) sI)
  have HX1 := hide hX1
  have HB0 := hide hb0
  unfold ckBoth at hx
  rw [hy] at hx
  clear hL hI hO sI hX1 hb0 hy
  by_cases h0 : y = 0
  · subst h0
    rw [if_neg (by decide)] at hx
    rw [hx] at TX
    clear hx
    go_enter Tryz.func75, Tryz.ntmps75
    go_wp2_with fail
    rw [← hX0]
    clear hX0
    refine (unhide C1).mono ?_
    rintro e w2 ⟨rfl, hb2⟩
    have hh := (hb2.block _ (lt_of_block (unhide HX1))).trans (unhide HX1)
    have c0 := cell_of hh 0 _ rfl
    have c1 := cell_of hh 1 _ rfl
    have c2 := cell_of hh 2 _ rfl
    have hl := lt_of_block hh
    have C2 := hide ((unhide TX) w2 hb2)
    have HB2 := hide (bel_on (unhide HB0) hb2)
    clear hh hb2
    go_wp2_with fail
    refine (unhide C2).mono ?_
    rintro e w3 ⟨rfl, hb3⟩
    have HB3 := hide (bel_on (unhide HB2) hb3)
    clear hb3
    go_wp2
    go_ret
    exact ⟨rfl, unhide HB3⟩
  · rw [if_pos h0] at hx
    subst hx
    have g : (y != 0) = true := by simp [h0]
    clear h0
    go_enter Tryz.func75, Tryz.ntmps75
    go_wp2_with fail
    rw [← hX0]
    clear hX0
    refine (unhide C1).mono ?_
    rintro e w2 ⟨rfl, hb2⟩
    have HB2 := hide (bel_on (unhide HB0) hb2)
    clear hb2
    go_wp2
    go_ret
    exact ⟨rfl, unhide HB2⟩

set_option maxRecDepth 10000 in
set_option maxHeartbeats 3200000 in
theorem checkApply_is (a : Option Addr) (n c : Nat) (L : List CoinD) (h : Int) (ai ao : Option Addr) (ni ci no co : Nat) (I : List InD) (O : List OutD) (name ht : Int) (x : Int) (w : World) (hL : CoinsAt w a n L) (hI : InsAt w ai ni I) (hO : OutsAt w ao no O) (sI : SlOk ai ni ci) (hx : ckApply L (h, I, O) name ht = x) :
    Calls Tryz.prog 68 #[.slice a n c, .agg #[.int .i64 h, .slice ai ni ci, .slice ao no co], .int .i64 name, .int .i64 ht] w fun e w' => e = .returned (.int .i64 x) ∧ Below w.heap.size w w' := by
  obtain ⟨X0, hX0⟩ : ∃ X0, X0 = w.alloc (.cells #[.int .i64 h, .slice ai ni ci, .slice ao no co] 74) := ⟨_, rfl⟩
  have hb0 : Below w.heap.size w X0 := by rw [hX0]; exact bel_new _ _
  have hX1 : X0.heap[w.heap.size]? = some (.cells [.int .i64 h, .slice ai ni ci, .slice ao no co].toArray 74 (0, 0)) := by rw [hX0]; exact three_heap _ _ _ _ _
  obtain ⟨y, hy⟩ : ∃ y, ckBoth L (h, I, O) = y := ⟨_, rfl⟩
  have C1 := hide (checkBoth_is a n c L h ai ao ni ci no co I O y X0 (hL.later hb0) (hI.later hb0) (hO.later hb0) sI hy)
  have hIl := hI.1
  have x0 := cell_of hX1 0 _ rfl
  have x1 := cell_of hX1 1 _ rfl
  have x2 := cell_of hX1 2 _ rfl
  have HX1 := hide hX1
  have HB0 := hide hb0
  unfold ckApply at hx
  rw [hy] at hx
  have hR : isR (h, I, O) = decide (ni = 0) := by unfold isR; rw [← hIl]
  rw [hR] at hx
  clear hL hI hO sI hX1 hb0 hy hR hIl
  by_cases h0 : y = 0
  · subst h0
    rw [if_neg (by decide)] at hx
    cases hN : okN name with
    | false =>
      rw [hN, Bool.false_and, if_pos rfl] at hx
      subst hx
      have W1 := hide (fun w => within_is name 1 120 false w (by rw [← hN]; rfl))
      clear hN
      go_enter Tryz.func68, Tryz.ntmps68
      go_wp2_with fail
      rw [← hX0]
      clear hX0
      refine (unhide C1).mono ?_
      rintro e w2 ⟨rfl, hb2⟩
      have HB2 := hide (bel_on (unhide HB0) hb2)
      clear hb2
      go_wp2_with fail
      refine ((unhide W1) _).mono ?_
      rintro e w3 ⟨rfl, rfl⟩
      go_wp2
      go_ret
      exact ⟨rfl, unhide HB2⟩
    | true =>
      rw [hN, Bool.true_and] at hx
      have W1 := hide (fun w => within_is name 1 120 true w (by rw [← hN]; rfl))
      cases hH : okH ht with
      | false =>
        rw [hH, if_pos rfl] at hx
        subst hx
        have W2 := hide (fun w => uisHeight_is ht false w hH)
        clear hN hH
        go_enter Tryz.func68, Tryz.ntmps68
        go_wp2_with fail
        rw [← hX0]
        clear hX0
        refine (unhide C1).mono ?_
        rintro e w2 ⟨rfl, hb2⟩
        have HB2 := hide (bel_on (unhide HB0) hb2)
        clear hb2
        go_wp2_with fail
        refine ((unhide W1) _).mono ?_
        rintro e w3 ⟨rfl, rfl⟩
        go_wp2_with fail
        refine ((unhide W2) _).mono ?_
        rintro e w3 ⟨rfl, rfl⟩
        go_wp2
        go_ret
        exact ⟨rfl, unhide HB2⟩
      | true =>
        rw [hH, if_neg (by decide)] at hx
        have W2 := hide (fun w => uisHeight_is ht true w hH)
        clear hN hH
        have body : ∀ (r : Bool) (q : Bool) (hr : decide (ni = 0) = r) (hq : (h != ht) = q) (hz : (if r = true ∧ q = true then (4 : Int) else 0) = x), Calls Tryz.prog 68 #[.slice a n c, .agg #[.int .i64 h, .slice ai ni ci, .slice ao no co], .int .i64 name, .int .i64 ht] w fun e w' => e = .returned (.int .i64 x) ∧ Below w.heap.size w w' := by
          intro r q hr hq hz
          have IR := hide (fun w => isReward_is h ai ao ni ci no co r w hr)
          cases r with
          | false =>
            rw [if_neg (by simp)] at hz
            subst hz
            clear hx hr
            go_enter Tryz.func68, Tryz.ntmps68
            go_wp2_with fail
            rw [← hX0]
            clear hX0
            refine (unhide C1).mono ?_
            rintro e w2 ⟨rfl, hb2⟩
            have hh := (hb2.block _ (lt_of_block (unhide HX1))).trans (unhide HX1)
            have c0 := cell_of hh 0 _ rfl
            have c1 := cell_of hh 1 _ rfl
            have c2 := cell_of hh 2 _ rfl
            have hl := lt_of_block hh
            have HB2 := hide (bel_on (unhide HB0) hb2)
            clear hb2 hh
            go_wp2_with fail
            refine ((unhide W1) _).mono ?_
            rintro e w3 ⟨rfl, rfl⟩
            go_wp2_with fail
            refine ((unhide W2) _).mono ?_
            rintro e w3 ⟨rfl, rfl⟩
            go_wp2_with fail
            refine ((unhide IR) _).mono ?_
            rintro e w3 ⟨rfl, hb3⟩
            have HB3 := hide (bel_on (unhide HB2) hb3)
            clear hb3
            go_wp2
            go_ret
            exact ⟨rfl, unhide HB3⟩
          | true =>
            cases q with
            | false =>
              rw [if_neg (by simp)] at hz
              subst hz
              clear hx hr
              go_enter Tryz.func68, Tryz.ntmps68
              go_wp2_with fail
              rw [← hX0]
              clear hX0
              refine (unhide C1).mono ?_
              rintro e w2 ⟨rfl, hb2⟩
              have hh := (hb2.block _ (lt_of_block (unhide HX1))).trans (unhide HX1)
              have c0 := cell_of hh 0 _ rfl
              have c1 := cell_of hh 1 _ rfl
              have c2 := cell_of hh 2 _ rfl
              have hl := lt_of_block hh
              have HH := hide hh
              have HB2 := hide (bel_on (unhide HB0) hb2)
              clear hb2 hh
              go_wp2_with fail
              refine ((unhide W1) _).mono ?_
              rintro e w3 ⟨rfl, rfl⟩
              go_wp2_with fail
              refine ((unhide W2) _).mono ?_
              rintro e w3 ⟨rfl, rfl⟩
              go_wp2_with fail
              refine ((unhide IR) _).mono ?_
              rintro e w4 ⟨rfl, hb4⟩
              have d0 := cell_later hb4 c0
              have hl4 := World.block_lt_of_cell? _ _ d0
              have HB4 := hide (bel_on (unhide HB2) hb4)
              clear hb4 c0 c1 c2
              go_wp2
              go_ret
              exact ⟨rfl, unhide HB4⟩
            | true =>
              rw [if_pos ⟨rfl, rfl⟩] at hz
              subst hz
              clear hx hr
              go_enter Tryz.func68, Tryz.ntmps68
              go_wp2_with fail
              rw [← hX0]
              clear hX0
              refine (unhide C1).mono ?_
              rintro e w2 ⟨rfl, hb2⟩
              have hh := (hb2.block _ (lt_of_block (unhide HX1))).trans (unhide HX1)
              have c0 := cell_of hh 0 _ rfl
              have c1 := cell_of hh 1 _ rfl
              have c2 := cell_of hh 2 _ rfl
              have hl := lt_of_block hh
              have HH := hide hh
              have HB2 := hide (bel_on (unhide HB0) hb2)
              clear hb2 hh
              go_wp2_with fail
              refine ((unhide W1) _).mono ?_
              rintro e w3 ⟨rfl, rfl⟩
              go_wp2_with fail
              refine ((unhide W2) _).mono ?_
              rintro e w3 ⟨rfl, rfl⟩
              go_wp2_with fail
              refine ((unhide IR) _).mono ?_
              rintro e w4 ⟨rfl, hb4⟩
              have d0 := cell_later hb4 c0
              have hl4 := World.block_lt_of_cell? _ _ d0
              have HB4 := hide (bel_on (unhide HB2) hb4)
              clear hb4 c0 c1 c2
              go_wp2
              go_ret
              exact ⟨rfl, unhide HB4⟩
        refine body (decide (ni = 0)) (h != ht) rfl rfl ?_
        rw [← hx]
        by_cases e1 : ni = 0 <;> by_cases e2 : h = ht <;> simp [e1, e2]
  · rw [if_pos h0] at hx
    subst hx
    have g : (y != 0) = true := by simp [h0]
    clear h0
    go_enter Tryz.func68, Tryz.ntmps68
    go_wp2_with fail
    rw [← hX0]
    clear hX0
    refine (unhide C1).mono ?_
    rintro e w2 ⟨rfl, hb2⟩
    have HB2 := hide (bel_on (unhide HB0) hb2)
    clear hb2
    go_wp2
    go_ret
    exact ⟨rfl, unhide HB2⟩

end Go.Proofs.YtepmnpapdknocaaGreatDoor
