/- Undoing a block, as a plain function; it undoes what Connect did; no more is there than ahead, and the reward. Nothing of the program. -/
import Derived.Test.YtepmnpapdknocaaGreatDoorBlkConM
import Derived.Test.YtepmnpapdknocaaGreatDoorBlkNamedM
import Derived.Test.YtepmnpapdknocaaGreatDoorCoinBackS
namespace Go.Proofs.YtepmnpapdknocaaGreatDoor
open Go.RowKit

theorem ap_sum {L M S : List CoinD} {t : TxD} {name h : Int} (e : apD L t name h = (0, M, S)) : sumC M = sumC L - sumC S + sumO t.2.2 ∧ 0 ≤ sumC S := by
  obtain ⟨h1, M2, h2, h3, h4, h5⟩ := apD_zero e
  obtain ⟨hR, hT, _, _, _⟩ := ckApply_zero h1
  obtain ⟨s1, T, s2, s3, s4, s5, s6, s7, s8⟩ := spendGo_mem h _ _ _ _ _ hR.srt h2
  rw [List.nil_append] at s2
  subst s2
  have hg := giveGo_sum name h _ _ _ _ _ s1 h4
  refine ⟨by omega, sumC_nonneg S fun c hc => ?_⟩
  have := ck1_zero (hR.one c ((s5 c).2 (.inr hc)))
  omega
theorem ap_right {L M S : List CoinD} {t : TxD} {name h : Int} (e : apD L t name h = (0, M, S)) : RightC L ∧ RightC M ∧ chkTx t = 0 := by
  obtain ⟨h1, M2, h2, h3, h4, h5⟩ := apD_zero e
  obtain ⟨hR, hT, _, _, _⟩ := ckApply_zero h1
  exact ⟨hR, (ckCoins_zero M).1 h5, hT⟩

/-- Undoing, from the q-th turn down. -/
def disGo (T : List TxD) (N : List Int) (S : List (List CoinD)) : Nat → List CoinD → Int × List CoinD
  | 0, C => (0, C)
  | q + 1, C =>
    if (rvD C (T.getD ((q + 1) % T.length) zeroT) (N.getD ((q + 1) % T.length) 0) (S.getD ((q + 1) % T.length) [])).1 ≠ 0 then ((rvD C (T.getD ((q + 1) % T.length) zeroT) (N.getD ((q + 1) % T.length) 0) (S.getD ((q + 1) % T.length) [])).1, [])
    else disGo T N S q (rvD C (T.getD ((q + 1) % T.length) zeroT) (N.getD ((q + 1) % T.length) 0) (S.getD ((q + 1) % T.length) [])).2
theorem disGo_at {T : List TxD} {N : List Int} {S : List (List CoinD)} {q i : Nat} {C : List CoinD} (hi : (q + 1) % T.length = i) {t : TxD} (ht : T.getD i zeroT = t) {nm : Int} (hn : N.getD i 0 = nm) {s : List CoinD} (hs : S.getD i [] = s) {y : Int} {M : List CoinD} (ha : rvD C t nm s = (y, M)) :
    disGo T N S (q + 1) C = if y ≠ 0 then (y, []) else disGo T N S q M := by
  rw [disGo, hi, ht, hn, hs, ha]

theorem turn_ne {m j k : Nat} (hj : j < k) (hk : k < m) : (j + 1) % m ≠ (k + 1) % m := by
  rw [Nat.mod_eq_of_lt (show j + 1 < m by omega)]
  by_cases e : k + 1 = m
  · rw [e, Nat.mod_self]; omega
  · rw [Nat.mod_eq_of_lt (show k + 1 < m by omega)]; omega
theorem getD_set_self {α : Type} (l : List α) (i : Nat) (x d : α) (h : i < l.length) : (l.set i x).getD i d = x := by simp [List.getD, h]
theorem getD_set_ne {α : Type} (l : List α) {i j : Nat} (x d : α) (h : i ≠ j) : (l.set i x).getD j d = l.getD j d := by simp [List.getD, List.getElem?_set_ne h]

/-- One turn that went well. -/
theorem conGo_step {h r : Int} {T : List TxD} {N : List Int} {q k : Nat} {C M : List CoinD} {S S' : List (List CoinD)} (e : conGo h r T N (q + 1) k C S = (0, M, S')) :
    ¬ ((k + 1) % T.length = 0 ∧ leftD r T S T.length < 0) ∧ ∃ C1 s, apD C (T.getD ((k + 1) % T.length) zeroT) (N.getD ((k + 1) % T.length) 0) h = (0, C1, s) ∧ conGo h r T N q (k + 1) C1 (S.set ((k + 1) % T.length) s) = (0, M, S') := by
  obtain ⟨⟨y, C1, s⟩, ha⟩ : ∃ a, apD C (T.getD ((k + 1) % T.length) zeroT) (N.getD ((k + 1) % T.length) 0) h = a := ⟨_, rfl⟩
  rw [conGo_at rfl rfl rfl ha] at e
  split at e
  · injection e with e1 _; exact absurd e1 (by decide)
  · rename_i hc
    split at e
    · rename_i hy; injection e with e1 _; exact absurd e1 hy
    · rename_i hy
      have hy : y = 0 := Decidable.not_not.1 hy
      subst hy
      exact ⟨hc, C1, s, ha, e⟩

theorem con_back {h r : Int} {T : List TxD} {N : List Int} : ∀ (q k : Nat) (C M : List CoinD) (S S' : List (List CoinD)), conGo h r T N q k C S = (0, M, S') → q + k = T.length → S.length = T.length →
    S'.length = T.length ∧ (∀ j, j < k → S'.getD ((j + 1) % T.length) [] = S.getD ((j + 1) % T.length) []) ∧ disGo T N S' T.length M = disGo T N S' k C
  | 0, k, C, M, S, S', e, hk, hS => by
    rw [conGo] at e
    injection e with _ e
    injection e with e1 e2
    subst e1 e2
    have : k = T.length := by omega
    subst this
    exact ⟨hS, fun _ _ => rfl, rfl⟩
  | q + 1, k, C, M, S, S', e, hk, hS => by
    obtain ⟨_, C1, s, ha, e⟩ := conGo_step e
    obtain ⟨i1, i2, i3⟩ := con_back q (k + 1) C1 M _ S' e (by omega) (by simpa using hS)
    have hm : (k + 1) % T.length < S.length := by rw [hS]; exact Nat.mod_lt _ (by omega)
    refine ⟨i1, fun j hj => ?_, ?_⟩
    · rw [i2 j (by omega)]
      exact getD_set_ne S s [] (fun e => turn_ne hj (show k < T.length by omega) e.symm)
    · rw [i3]
      have hs : S'.getD ((k + 1) % T.length) [] = s := by
        rw [i2 k (Nat.lt_succ_self k)]
        exact getD_set_self S _ s [] hm
      rw [disGo_at rfl rfl rfl hs (back_ok ha), if_neg (by decide)]
theorem con_right {h r : Int} {T : List TxD} {N : List Int} : ∀ (q k : Nat) (C M : List CoinD) (S S' : List (List CoinD)), conGo h r T N q k C S = (0, M, S') → RightC C → RightC M
  | 0, k, C, M, S, S', e, hC => by
    rw [conGo] at e
    injection e with _ e
    injection e with e1 e2
    subst e1
    exact hC
  | q + 1, k, C, M, S, S', e, hC => by
    obtain ⟨_, C1, s, ha, e⟩ := conGo_step e
    exact con_right q (k + 1) C1 M _ S' e (ap_right ha).2.1

/-- No more is there than ahead, and the reward. -/
theorem con_sum {h r : Int} {T : List TxD} {N : List Int} {C M : List CoinD} {S' : List (List CoinD)} (h0 : 0 < T.length) (h4 : T.length ≤ 4) (e : conGo h r T N T.length 0 C (List.replicate T.length []) = (0, M, S')) : sumC M ≤ sumC C + r := by
  match T, h0, h4, e with
  | [t0], _, _, e =>
    obtain ⟨c0, C1, s0, a0, e⟩ := conGo_step (q := 0) e
    rw [conGo] at e
    injection e with _ e
    injection e with e _
    subst e
    have i0 : (0 + 1) % [t0].length = 0 := by simp
    rw [i0] at a0
    have a0 : apD C t0 (N.getD 0 0) h = (0, C1, s0) := a0
    obtain ⟨b0, d0⟩ := ap_sum a0
    have c0 : ¬ (leftD r [t0] [[]] 1 < 0) := fun q => c0 ⟨i0, q⟩
    simp only [leftD, List.take_succ_cons, List.take_zero, List.map_cons, List.map_nil, List.flatten_cons, List.flatten_nil, List.append_nil, sumC_nil] at c0
    omega
  | [t0, t1], _, _, e =>
    obtain ⟨_, C1, s1, a1, e⟩ := conGo_step (q := 1) e
    obtain ⟨c0, C2, s0, a0, e⟩ := conGo_step (q := 0) e
    rw [conGo] at e
    injection e with _ e
    injection e with e _
    subst e
    have a1 : apD C t1 (N.getD 1 0) h = (0, C1, s1) := a1
    have i0 : (0 + 1 + 1) % [t0, t1].length = 0 := by simp
    rw [i0] at a0
    have a0 : apD C1 t0 (N.getD 0 0) h = (0, C2, s0) := a0
    obtain ⟨b1, d1⟩ := ap_sum a1
    obtain ⟨b0, d0⟩ := ap_sum a0
    have c0 : ¬ (leftD r [t0, t1] [[], s1] 2 < 0) := fun q => c0 ⟨i0, q⟩
    simp only [leftD, List.take_succ_cons, List.take_zero, List.map_cons, List.map_nil, List.flatten_cons, List.flatten_nil, List.append_nil, List.nil_append, sumO_append] at c0
    omega
  | [t0, t1, t2], _, _, e =>
    obtain ⟨_, C1, s1, a1, e⟩ := conGo_step (q := 2) e
    obtain ⟨_, C2, s2, a2, e⟩ := conGo_step (q := 1) e
    obtain ⟨c0, C3, s0, a0, e⟩ := conGo_step (q := 0) e
    rw [conGo] at e
    injection e with _ e
    injection e with e _
    subst e
    have a1 : apD C t1 (N.getD 1 0) h = (0, C1, s1) := a1
    have a2 : apD C1 t2 (N.getD 2 0) h = (0, C2, s2) := a2
    have i0 : (0 + 1 + 1 + 1) % [t0, t1, t2].length = 0 := by simp
    rw [i0] at a0
    have a0 : apD C2 t0 (N.getD 0 0) h = (0, C3, s0) := a0
    obtain ⟨b1, d1⟩ := ap_sum a1
    obtain ⟨b2, d2⟩ := ap_sum a2
    obtain ⟨b0, d0⟩ := ap_sum a0
    have c0 : ¬ (leftD r [t0, t1, t2] [[], s1, s2] 3 < 0) := fun q => c0 ⟨i0, q⟩
    simp only [leftD, List.take_succ_cons, List.take_zero, List.map_cons, List.map_nil, List.flatten_cons, List.flatten_nil, List.append_nil, List.nil_append, sumO_append, sumC_append] at c0
    omega
  | [t0, t1, t2, t3], _, _, e =>
    obtain ⟨_, C1, s1, a1, e⟩ := conGo_step (q := 3) e
    obtain ⟨_, C2, s2, a2, e⟩ := conGo_step (q := 2) e
    obtain ⟨_, C3, s3, a3, e⟩ := conGo_step (q := 1) e
    obtain ⟨c0, C4, s0, a0, e⟩ := conGo_step (q := 0) e
    rw [conGo] at e
    injection e with _ e
    injection e with e _
    subst e
    have a1 : apD C t1 (N.getD 1 0) h = (0, C1, s1) := a1
    have a2 : apD C1 t2 (N.getD 2 0) h = (0, C2, s2) := a2
    have a3 : apD C2 t3 (N.getD 3 0) h = (0, C3, s3) := a3
    have i0 : (0 + 1 + 1 + 1 + 1) % [t0, t1, t2, t3].length = 0 := by simp
    rw [i0] at a0
    have a0 : apD C3 t0 (N.getD 0 0) h = (0, C4, s0) := a0
    obtain ⟨b1, d1⟩ := ap_sum a1
    obtain ⟨b2, d2⟩ := ap_sum a2
    obtain ⟨b3, d3⟩ := ap_sum a3
    obtain ⟨b0, d0⟩ := ap_sum a0
    have c0 : ¬ (leftD r [t0, t1, t2, t3] [[], s1, s2, s3] 4 < 0) := fun q => c0 ⟨i0, q⟩
    simp only [leftD, List.take_succ_cons, List.take_zero, List.map_cons, List.map_nil, List.flatten_cons, List.flatten_nil, List.append_nil, List.nil_append, sumO_append, sumC_append] at c0
    omega

/-- What is wrong, what comes. -/
def disD (K : List ByteArray) (C : List CoinD) (b : BlkD) (S : List (List CoinD)) : Int × List CoinD :=
  if (nfD K C b).2 ≠ 0 then ((nfD K C b).2, []) else if S.length ≠ b.2.2.2.2.length then (4, []) else disGo b.2.2.2.2 (nfD K C b).1 S b.2.2.2.2.length C

theorem chkB_few {b : BlkD} (h : chkB b = 0) : 0 < b.2.2.2.2.length ∧ b.2.2.2.2.length ≤ 4 ∧ 1 ≤ b.2.1 ∧ b.2.1 ≤ 1000 := by
  unfold chkB at h
  split at h
  · cases h
  rename_i h1
  split at h
  · cases h
  split at h
  · cases h
  unfold headOk at h1
  simp only [Bool.not_eq_false, Bool.and_eq_true, decide_eq_true_eq] at h1
  omega
theorem nfD_zero {K : List ByteArray} {C : List CoinD} {b : BlkD} (h : (nfD K C b).2 = 0) : RightC C ∧ chkB b = 0 ∧ ∃ X n N, nmsB K b = (X, n, N, 0) ∧ (nfD K C b).1 = N := by
  unfold nfD at h ⊢
  split at h
  · rename_i q; exact absurd h q
  rename_i q
  obtain ⟨⟨X, n, N, x⟩, hx⟩ : ∃ r, nmsB K b = r := ⟨_, rfl⟩
  rw [hx] at h
  have h : x = 0 := h
  subst h
  rw [if_neg q, hx]
  exact ⟨(ckCoins_zero C).1 (Decidable.not_not.1 q), (nms_zero hx).1, X, n, N, rfl, rfl⟩
theorem nfD_of {K : List ByteArray} {C : List CoinD} {b : BlkD} {X : List ByteArray} {n : Int} {N : List Int} (hC : RightC C) (h : nmsB K b = (X, n, N, 0)) : nfD K C b = (N, 0) := by
  unfold nfD
  rw [(ckCoins_zero C).2 hC, if_neg (by decide), h]

/-- What was connected: it is undone, and no more is there than ahead, and the reward. -/
theorem con_all {K : List ByteArray} {C M : List CoinD} {b : BlkD} {S : List (List CoinD)} (e : conD K C b = (0, M, S)) :
    RightC C ∧ RightC M ∧ chkB b = 0 ∧ S.length = b.2.2.2.2.length ∧ disD K M b S = (0, C) ∧ sumC M ≤ sumC C + (rwD b.2.1).1 ∧ (rwD b.2.1).2 = 0 := by
  unfold conD at e
  split at e
  · rename_i q
    injection e with e _
    exact absurd e q
  rename_i q
  obtain ⟨hC, hb, X, n, N, hN, hN2⟩ := nfD_zero (Decidable.not_not.1 q)
  rw [hN2] at e
  obtain ⟨h0, h4, h1, h2⟩ := chkB_few hb
  have hM := con_right _ _ _ _ _ _ e hC
  obtain ⟨b1, b2, b3⟩ := con_back _ _ _ _ _ _ e (by omega) (by simp)
  refine ⟨hC, hM, hb, b1, ?_, con_sum h0 h4 e, ?_⟩
  · unfold disD
    rw [nfD_of hM hN, if_neg (fun q => q rfl), if_neg (fun q => q b1)]
    exact b3
  · unfold rwD
    rw [if_pos (by simp only [Bool.and_eq_true, decide_eq_true_eq]; omega)]

end Go.Proofs.YtepmnpapdknocaaGreatDoor
