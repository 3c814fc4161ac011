/- What right transactions and coins have. Nothing of the program. -/
import Derived.Test.YtepmnpapdknocaaGreatDoorCoinDo
namespace Go.Proofs.YtepmnpapdknocaaGreatDoor

theorem sm_zero : ∀ (l : List Int) (s : Int), (sm s l).2 = 0 → ∀ x ∈ l, 0 ≤ x ∧ x ≤ 1000000000
  | [], _, _ => by simp
  | y :: r, s, h => by
    intro x hx
    unfold sm at h
    split at h
    · rename_i hy
      split at h
      · rcases List.mem_cons.1 hx with rfl | hx
        · exact hy
        · exact sm_zero r _ h x hx
      · cases h
    · cases h
theorem chkTx_zero {t : TxD} (h : chkTx t = 0) : t.2.1.length ≤ 6 ∧ t.2.2.length ≤ 6 ∧ 0 < t.2.2.length ∧ hFit t = true ∧ chkIns [] t.2.1 = 0 ∧ chkOuts t.2.2 = 0 ∧ (sm 0 (t.2.2.map (·.1))).2 = 0 := by
  unfold chkTx at h
  split at h
  · cases h
  rename_i h1
  split at h
  · cases h
  rename_i h2
  split at h
  · cases h
  rename_i h3
  split at h
  · rename_i h4; exact absurd h h4
  rename_i h4
  unfold chkOutsAll at h
  split at h
  · rename_i h5
    exact ⟨by omega, by omega, by omega, by simpa using h3, by simpa using h4, h5, h⟩
  · rename_i h5; exact absurd h h5
theorem outs_bd {t : TxD} (h : chkTx t = 0) : ∀ o ∈ t.2.2, 0 ≤ o.1 ∧ o.1 ≤ 1000000000 := fun o ho =>
  sm_zero _ 0 (chkTx_zero h).2.2.2.2.2.2 o.1 (List.mem_map_of_mem ho)
theorem ckBoth_zero {L : List CoinD} {t : TxD} (h : ckBoth L t = 0) : RightC L ∧ chkTx t = 0 := by
  unfold ckBoth at h
  split at h
  · rename_i h1; exact absurd h h1
  · rename_i h1; exact ⟨(ckCoins_zero L).1 (by simpa using h1), h⟩
theorem ckApply_zero {L : List CoinD} {t : TxD} {name h : Int} (q : ckApply L t name h = 0) : RightC L ∧ chkTx t = 0 ∧ okN name = true ∧ okH h = true ∧ (t.2.1.length = 0 → t.1 = h) := by
  unfold ckApply at q
  split at q
  · rename_i h1; exact absurd q h1
  rename_i h1
  split at q
  · cases q
  rename_i h2
  split at q
  · cases q
  rename_i h3
  obtain ⟨r1, r2⟩ := ckBoth_zero (by simpa using h1)
  rw [Bool.not_eq_false, Bool.and_eq_true] at h2
  refine ⟨r1, r2, h2.1, h2.2, fun e => ?_⟩
  refine Decidable.byContradiction fun n => h3 ⟨by unfold isR; exact decide_eq_true e, n⟩
theorem apD_eq {L : List CoinD} {t : TxD} {name h x1 x2 x3 x4 x5 : Int} {S2 M2 M4 : List CoinD} (h1 : ckApply L t name h = x1) (h2 : spendGo h t.2.1 [] L = (x2, S2, M2)) (h3 : covD S2 t = x3) (h4 : giveGo name h (isR t) 0 t.2.2 M2 = (x4, M4)) (h5 : ckCoins M4 = x5) :
    apD L t name h = if x1 ≠ 0 then (x1, [], []) else if x2 ≠ 0 then (x2, [], []) else if x3 ≠ 0 then (x3, [], []) else if x4 ≠ 0 then (x4, [], []) else if x5 ≠ 0 then (x5, [], []) else (0, M4, S2) := by
  unfold apD
  simp only [h1, h2, h3, h4, h5]
theorem rvD_eq {L S : List CoinD} {t : TxD} {name x1 x2 x3 x4 : Int} {M2 M3 : List CoinD} (h1 : ckBoth L t = x1) (h2 : backGo name 0 t.2.2 L = (x2, M2)) (h3 : putbGo t.2.1 S M2 = (x3, M3)) (h4 : ckCoins M3 = x4) :
    rvD L t name S = if x1 ≠ 0 then (x1, []) else if S.length ≠ t.2.1.length then (4, []) else if x2 ≠ 0 then (x2, []) else if x3 ≠ 0 then (x3, []) else if x4 ≠ 0 then (x4, []) else (0, M3) := by
  unfold rvD
  simp only [h1, h2, h3, h4]
theorem chk_len {l : List (Int × Int)} (h : chk l = 0) : l.length ≤ 16 := by
  unfold chk at h
  split at h
  · cases h
  · omega

end Go.Proofs.YtepmnpapdknocaaGreatDoor
