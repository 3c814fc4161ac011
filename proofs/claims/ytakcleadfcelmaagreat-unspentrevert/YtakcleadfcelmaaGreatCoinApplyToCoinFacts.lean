/- Contracts of what is checked ahead of doing a transaction. -/
import Derived.Test.YtakcleadfcelmaaGreatCoinCopyCToCoinCovers
import Derived.Test.YtakcleadfcelmaaGreatCoinPutToLockMach
namespace Go.Proofs.YtakcleadfcelmaaGreat
open Go.RowKit

set_option maxRecDepth 10000 in
set_option maxHeartbeats 1600000 in
theorem checkBoth_is (a : Option Addr) (n c : Nat) (L : List CoinD) (h : Int) (ai ao : Option Addr) (ni ci no co : Nat) (I : List InD) (O : List OutD) (x : Int) (w : World) (hL : CoinsAt w a n L) (hI : InsAt w ai ni I) (hO : OutsAt w ao no O) (sI : SlOk ai ni ci) (hx : ckBoth L (h, I, O) = x) :
    Calls Tryz.prog 37 #[.slice a n c, .agg #[.int .i64 h, .slice ai ni ci, .slice ao no co]] w fun e w' => e = .returned (.int .i64 x) ∧ Below w.heap.size w w' := by
  obtain ⟨X0, hX0⟩ : ∃ X0, X0 = w.alloc (.cells #[.int .i64 h, .slice ai ni ci, .slice ao no co] 26) := ⟨_, rfl⟩
  have hb0 : Below w.heap.size w X0 := by rw [hX0]; exact bel_new _ _
  have hX1 : X0.heap[w.heap.size]? = some (.cells [.int .i64 h, .slice ai ni ci, .slice ao no co].toArray 26 (0, 0)) := by rw [hX0]; exact three_heap _ _ _ _ _
  obtain ⟨y, hy⟩ : ∃ y, ckCoins L = y := ⟨_, rfl⟩
  have C1 := hide (uCheck_any a n c L y X0 (hL.later hb0) hy)
  have TX := hide (fun w' (hb : Below X0.heap.size X0 w') => txCheck_any h ai ao ni ci no co I O w' ((hI.later hb0).later hb) ((hO.later hb0).later hb) sI)
  have HX1 := hide hX1
  have HB0 := hide hb0
  unfold ckBoth at hx
  rw [hy] at hx
  clear hL hI hO sI hX1 hb0 hy
  by_cases h0 : y = 0
  · subst h0
    rw [if_neg (by decide)] at hx
    rw [hx] at TX
    clear hx
    go_enter Tryz.func37, Tryz.ntmps37
    go_wp2_with fail
    rw [← hX0]
    clear hX0
    refine (unhide C1).mono ?_
    rintro e w2 ⟨rfl, hb2⟩
    have hh := (hb2.block _ (lt_of_block (unhide HX1))).trans (unhide HX1)
    have c0 := cell_of hh 0 _ rfl
    have c1 := cell_of hh 1 _ rfl
    have c2 := cell_of hh 2 _ rfl
    have hl := lt_of_block hh
    have C2 := hide ((unhide TX) w2 hb2)
    have HB2 := hide (bel_on (unhide HB0) hb2)
    clear hh hb2
    go_wp2_with fail
    refine (unhide C2).mono ?_
    rintro e w3 ⟨rfl, hb3⟩
    have HB3 := hide (bel_on (unhide HB2) hb3)
    clear hb3
    go_wp2
    go_ret
    exact ⟨rfl, unhide HB3⟩
  · rw [if_pos h0] at hx
    subst hx
    have g : (y != 0) = true := by simp [h0]
    clear h0
    go_enter Tryz.func37, Tryz.ntmps37
    go_wp2_with fail
    rw [← hX0]
    clear hX0
    refine (unhide C1).mono ?_
    rintro e w2 ⟨rfl, hb2⟩
    have HB2 := hide (bel_on (unhide HB0) hb2)
    clear hb2
    go_wp2
    go_ret
    exact ⟨rfl, unhide HB2⟩

set_option maxRecDepth 10000 in
set_option maxHeartbeats 3200000 in
theorem checkApply_is (a : Option Addr) (n c : Nat) (L : List CoinD) (h : Int) (ai ao : Option Addr) (ni ci no co : Nat) (I : List InD) (O : List OutD) (name ht : Int) (x : Int) (w : World) (hL : CoinsAt w a n L) (hI : InsAt w ai ni I) (hO : OutsAt w ao no O) (sI : SlOk ai ni ci) (hx : ckApply L (h, I, O) name ht = x) :
    Calls Tryz.prog 14 #[.slice a n c, .agg #[.int .i64 h, .slice ai ni ci, .slice ao no co], .int .i64 name, .int .i64 ht] w fun e w' => e = .returned (.int .i64 x) ∧ Below w.heap.size w w' := by
  obtain ⟨X0, hX0⟩ : ∃ X0, X0 = w.alloc (.cells #[.int .i64 h, .slice ai ni ci, .slice ao no co] 26) := ⟨_, rfl⟩
  have hb0 : Below w.heap.size w X0 := by rw [hX0]; exact bel_new _ _
  have hX1 : X0.heap[w.heap.size]? = some (.cells [.int .i64 h, .slice ai ni ci, .slice ao no co].toArray 26 (0, 0)) := by rw [hX0]; exact three_heap _ _ _ _ _
  obtain ⟨y, hy⟩ : ∃ y, ckBoth L (h, I, O) = y := ⟨_, rfl⟩
  have C1 := hide (checkBoth_is a n c L h ai ao ni ci no co I O y X0 (hL.later hb0) (hI.later hb0) (hO.later hb0) sI hy)
  have hIl := hI.1
  have x0 := cell_of hX1 0 _ rfl
  have x1 := cell_of hX1 1 _ rfl
  have x2 := cell_of hX1 2 _ rfl
  have HX1 := hide hX1
  have HB0 := hide hb0
  unfold ckApply at hx
  rw [hy] at hx
  have hR : isR (h, I, O) = decide (ni = 0) := by unfold isR; rw [← hIl]
  rw [hR] at hx
  clear hL hI hO sI hX1 hb0 hy hR hIl
  by_cases h0 : y = 0
  · subst h0
    rw [if_neg (by decide)] at hx
    cases hN : okN name with
    | false =>
      rw [hN, Bool.false_and, if_pos rfl] at hx
      subst hx
      have W1 := hide (fun w => within_is name 1 120 false w (by rw [← hN]; rfl))
      clear hN
      go_enter Tryz.func14, Tryz.ntmps14
      go_wp2_with fail
      rw [← hX0]
      clear hX0
      refine (unhide C1).mono ?_
      rintro e w2 ⟨rfl, hb2⟩
      have HB2 := hide (bel_on (unhide HB0) hb2)
      clear hb2
      go_wp2_with fail
      refine ((unhide W1) _).mono ?_
      rintro e w3 ⟨rfl, rfl⟩
      go_wp2
      go_ret
      exact ⟨rfl, unhide HB2⟩
    | true =>
      rw [hN, Bool.true_and] at hx
      have W1 := hide (fun w => within_is name 1 120 true w (by rw [← hN]; rfl))
      cases hH : okH ht with
      | false =>
        rw [hH, if_pos rfl] at hx
        subst hx
        have W2 := hide (fun w => uisHeight_is ht false w hH)
        clear hN hH
        go_enter Tryz.func14, Tryz.ntmps14
        go_wp2_with fail
        rw [← hX0]
        clear hX0
        refine (unhide C1).mono ?_
        rintro e w2 ⟨rfl, hb2⟩
        have HB2 := hide (bel_on (unhide HB0) hb2)
        clear hb2
        go_wp2_with fail
        refine ((unhide W1) _).mono ?_
        rintro e w3 ⟨rfl, rfl⟩
        go_wp2_with fail
        refine ((unhide W2) _).mono ?_
        rintro e w3 ⟨rfl, rfl⟩
        go_wp2
        go_ret
        exact ⟨rfl, unhide HB2⟩
      | true =>
        rw [hH, if_neg (by decide)] at hx
        have W2 := hide (fun w => uisHeight_is ht true w hH)
        clear hN hH
        have body : ∀ (r : Bool) (q : Bool) (hr : decide (ni = 0) = r) (hq : (h != ht) = q) (hz : (if r = true ∧ q = true then (4 : Int) else 0) = x), Calls Tryz.prog 14 #[.slice a n c, .agg #[.int .i64 h, .slice ai ni ci, .slice ao no co], .int .i64 name, .int .i64 ht] w fun e w' => e = .returned (.int .i64 x) ∧ Below w.heap.size w w' := by
          intro r q hr hq hz
          have IR := hide (fun w => isReward_is h ai ao ni ci no co r w hr)
          cases r with
          | false =>
            rw [if_neg (by simp)] at hz
            subst hz
            clear hx hr
            go_enter Tryz.func14, Tryz.ntmps14
            go_wp2_with fail
            rw [← hX0]
            clear hX0
            refine (unhide C1).mono ?_
            rintro e w2 ⟨rfl, hb2⟩
            have hh := (hb2.block _ (lt_of_block (unhide HX1))).trans (unhide HX1)
            have c0 := cell_of hh 0 _ rfl
            have c1 := cell_of hh 1 _ rfl
            have c2 := cell_of hh 2 _ rfl
            have hl := lt_of_block hh
            have HB2 := hide (bel_on (unhide HB0) hb2)
            clear hb2 hh
            go_wp2_with fail
            refine ((unhide W1) _).mono ?_
            rintro e w3 ⟨rfl, rfl⟩
            go_wp2_with fail
            refine ((unhide W2) _).mono ?_
            rintro e w3 ⟨rfl, rfl⟩
            go_wp2_with fail
            refine ((unhide IR) _).mono ?_
            rintro e w3 ⟨rfl, hb3⟩
            have HB3 := hide (bel_on (unhide HB2) hb3)
            clear hb3
            go_wp2
            go_ret
            exact ⟨rfl, unhide HB3⟩
          | true =>
            cases q with
            | false =>
              rw [if_neg (by simp)] at hz
              subst hz
              clear hx hr
              go_enter Tryz.func14, Tryz.ntmps14
              go_wp2_with fail
              rw [← hX0]
              clear hX0
              refine (unhide C1).mono ?_
              rintro e w2 ⟨rfl, hb2⟩
              have hh := (hb2.block _ (lt_of_block (unhide HX1))).trans (unhide HX1)
              have c0 := cell_of hh 0 _ rfl
              have c1 := cell_of hh 1 _ rfl
              have c2 := cell_of hh 2 _ rfl
              have hl := lt_of_block hh
              have HH := hide hh
              have HB2 := hide (bel_on (unhide HB0) hb2)
              clear hb2 hh
              go_wp2_with fail
              refine ((unhide W1) _).mono ?_
              rintro e w3 ⟨rfl, rfl⟩
              go_wp2_with fail
              refine ((unhide W2) _).mono ?_
              rintro e w3 ⟨rfl, rfl⟩
              go_wp2_with fail
              refine ((unhide IR) _).mono ?_
              rintro e w4 ⟨rfl, hb4⟩
              have d0 := cell_later hb4 c0
              have hl4 := World.block_lt_of_cell? _ _ d0
              have HB4 := hide (bel_on (unhide HB2) hb4)
              clear hb4 c0 c1 c2
              go_wp2
              go_ret
              exact ⟨rfl, unhide HB4⟩
            | true =>
              rw [if_pos ⟨rfl, rfl⟩] at hz
              subst hz
              clear hx hr
              go_enter Tryz.func14, Tryz.ntmps14
              go_wp2_with fail
              rw [← hX0]
              clear hX0
              refine (unhide C1).mono ?_
              rintro e w2 ⟨rfl, hb2⟩
              have hh := (hb2.block _ (lt_of_block (unhide HX1))).trans (unhide HX1)
              have c0 := cell_of hh 0 _ rfl
              have c1 := cell_of hh 1 _ rfl
              have c2 := cell_of hh 2 _ rfl
              have hl := lt_of_block hh
              have HH := hide hh
              have HB2 := hide (bel_on (unhide HB0) hb2)
              clear hb2 hh
              go_wp2_with fail
              refine ((unhide W1) _).mono ?_
              rintro e w3 ⟨rfl, rfl⟩
              go_wp2_with fail
              refine ((unhide W2) _).mono ?_
              rintro e w3 ⟨rfl, rfl⟩
              go_wp2_with fail
              refine ((unhide IR) _).mono ?_
              rintro e w4 ⟨rfl, hb4⟩
              have d0 := cell_later hb4 c0
              have hl4 := World.block_lt_of_cell? _ _ d0
              have HB4 := hide (bel_on (unhide HB2) hb4)
              clear hb4 c0 c1 c2
              go_wp2
              go_ret
              exact ⟨rfl, unhide HB4⟩
        refine body (decide (ni = 0)) (h != ht) rfl rfl ?_
        rw [← hx]
        by_cases e1 : ni = 0 <;> by_cases e2 : h = ht <;> simp [e1, e2]
  · rw [if_pos h0] at hx
    subst hx
    have g : (y != 0) = true := by simp [h0]
    clear h0
    go_enter Tryz.func14, Tryz.ntmps14
    go_wp2_with fail
    rw [← hX0]
    clear hX0
    refine (unhide C1).mono ?_
    rintro e w2 ⟨rfl, hb2⟩
    have HB2 := hide (bel_on (unhide HB0) hb2)
    clear hb2
    go_wp2
    go_ret
    exact ⟨rfl, unhide HB2⟩

end Go.Proofs.YtakcleadfcelmaaGreat

/- What right transactions and coins have. Nothing of the program. -/
namespace Go.Proofs.YtakcleadfcelmaaGreat

theorem sm_zero : ∀ (l : List Int) (s : Int), (sm s l).2 = 0 → ∀ x ∈ l, 0 ≤ x ∧ x ≤ 1000000000
  | [], _, _ => by simp
  | y :: r, s, h => by
    intro x hx
    unfold sm at h
    split at h
    · rename_i hy
      split at h
      · rcases List.mem_cons.1 hx with rfl | hx
        · exact hy
        · exact sm_zero r _ h x hx
      · cases h
    · cases h
theorem chkTx_zero {t : TxD} (h : chkTx t = 0) : t.2.1.length ≤ 6 ∧ t.2.2.length ≤ 6 ∧ 0 < t.2.2.length ∧ hFit t = true ∧ chkIns [] t.2.1 = 0 ∧ chkOuts t.2.2 = 0 ∧ (sm 0 (t.2.2.map (·.1))).2 = 0 := by
  unfold chkTx at h
  split at h
  · cases h
  rename_i h1
  split at h
  · cases h
  rename_i h2
  split at h
  · cases h
  rename_i h3
  split at h
  · rename_i h4; exact absurd h h4
  rename_i h4
  unfold chkOutsAll at h
  split at h
  · rename_i h5
    exact ⟨by omega, by omega, by omega, by simpa using h3, by simpa using h4, h5, h⟩
  · rename_i h5; exact absurd h h5
theorem outs_bd {t : TxD} (h : chkTx t = 0) : ∀ o ∈ t.2.2, 0 ≤ o.1 ∧ o.1 ≤ 1000000000 := fun o ho =>
  sm_zero _ 0 (chkTx_zero h).2.2.2.2.2.2 o.1 (List.mem_map_of_mem ho)
theorem ckBoth_zero {L : List CoinD} {t : TxD} (h : ckBoth L t = 0) : RightC L ∧ chkTx t = 0 := by
  unfold ckBoth at h
  split at h
  · rename_i h1; exact absurd h h1
  · rename_i h1; exact ⟨(ckCoins_zero L).1 (by simpa using h1), h⟩
theorem ckApply_zero {L : List CoinD} {t : TxD} {name h : Int} (q : ckApply L t name h = 0) : RightC L ∧ chkTx t = 0 ∧ okN name = true ∧ okH h = true ∧ (t.2.1.length = 0 → t.1 = h) := by
  unfold ckApply at q
  split at q
  · rename_i h1; exact absurd q h1
  rename_i h1
  split at q
  · cases q
  rename_i h2
  split at q
  · cases q
  rename_i h3
  obtain ⟨r1, r2⟩ := ckBoth_zero (by simpa using h1)
  rw [Bool.not_eq_false, Bool.and_eq_true] at h2
  refine ⟨r1, r2, h2.1, h2.2, fun e => ?_⟩
  refine Decidable.byContradiction fun n => h3 ⟨by unfold isR; exact decide_eq_true e, n⟩
theorem apD_eq {L : List CoinD} {t : TxD} {name h x1 x2 x3 x4 x5 : Int} {S2 M2 M4 : List CoinD} (h1 : ckApply L t name h = x1) (h2 : spendGo h t.2.1 [] L = (x2, S2, M2)) (h3 : covD S2 t = x3) (h4 : giveGo name h (isR t) 0 t.2.2 M2 = (x4, M4)) (h5 : ckCoins M4 = x5) :
    apD L t name h = if x1 ≠ 0 then (x1, [], []) else if x2 ≠ 0 then (x2, [], []) else if x3 ≠ 0 then (x3, [], []) else if x4 ≠ 0 then (x4, [], []) else if x5 ≠ 0 then (x5, [], []) else (0, M4, S2) := by
  unfold apD
  simp only [h1, h2, h3, h4, h5]
theorem rvD_eq {L S : List CoinD} {t : TxD} {name x1 x2 x3 x4 : Int} {M2 M3 : List CoinD} (h1 : ckBoth L t = x1) (h2 : backGo name 0 t.2.2 L = (x2, M2)) (h3 : putbGo t.2.1 S M2 = (x3, M3)) (h4 : ckCoins M3 = x4) :
    rvD L t name S = if x1 ≠ 0 then (x1, []) else if S.length ≠ t.2.1.length then (4, []) else if x2 ≠ 0 then (x2, []) else if x3 ≠ 0 then (x3, []) else if x4 ≠ 0 then (x4, []) else (0, M3) := by
  unfold rvD
  simp only [h1, h2, h3, h4]
theorem chk_len {l : List (Int × Int)} (h : chk l = 0) : l.length ≤ 16 := by
  unfold chk at h
  split at h
  · cases h
  · omega

end Go.Proofs.YtakcleadfcelmaaGreat
