/- But for rewards nothing is made: in plain functions. Nothing of the program. -/
import Derived.Test.YtklpajhgfdpboaaCoinBackM
namespace Go.Proofs.Ytklpajhgfdpboaa

theorem sum_put {c : CoinD} {L : List CoinD} (hs : Srt L) (hn : hasP (pt c) L = false) : sumC (putC c L) = cv c + sumC L := by
  rw [putC_at hs hn, sumC_append, sumC_cons]
  have : sumC L = sumC (L.take (pos (pt c) L)) + sumC (L.drop (pos (pt c) L)) := by rw [← sumC_append, List.take_append_drop]
  omega
theorem giveGo_sum (name h : Int) (r : Bool) : ∀ (O : List OutD) (i : Nat) (L M : List CoinD), Srt L → giveGo name h r i O L = (0, M) → sumC M = sumC L + sumO O
  | [], i, L, M, hs, e => by
    unfold giveGo at e
    injection e with _ e
    subst e
    simp [sumO]
  | o :: q, i, L, M, hs, e => by
    unfold giveGo at e
    split at e
    · injection e with e _; cases e
    · rename_i hf
      have hf' : hasP (pt (newC name i o h r)) L = false := by simpa [newC, pt] using hf
      have h1 := giveGo_sum name h r q (i + 1) _ M (putC_srt hs) e
      rw [sum_put hs hf'] at h1
      have h2 : cv (newC name i o h r) = o.1 := rfl
      have h3 : sumO (o :: q) = o.1 + sumO q := by simp [sumO]
      rw [h1, h2, h3]
      omega
theorem chkOuts_pos : ∀ (O : List OutD), chkOuts O = 0 → ∀ o ∈ O, 1 ≤ o.1
  | [], _ => by simp
  | x :: r, h => by
    intro o ho
    unfold chkOuts at h
    split at h
    · rename_i h1
      rcases List.mem_cons.1 ho with rfl | ho
      · unfold chkOut1 at h1
        split at h1
        · cases h1
        · omega
      · exact chkOuts_pos r h o ho
    · rename_i h1; exact absurd h h1
theorem sumO_pos : ∀ (O : List OutD), O ≠ [] → (∀ o ∈ O, 1 ≤ o.1) → 0 < sumO O
  | [], h, _ => absurd rfl h
  | x :: r, _, h => by
    have h3 : sumO (x :: r) = x.1 + sumO r := by simp [sumO]
    have h1 := h x (List.mem_cons_self ..)
    cases r with
    | nil => rw [h3]; simp [sumO]; omega
    | cons y q =>
      have := sumO_pos (y :: q) (by simp) (fun o ho => h o (List.mem_cons_of_mem _ ho))
      omega
theorem back_sum {L M S : List CoinD} {t : TxD} {name h : Int} (e : apD L t name h = (0, M, S)) : (t.2.1.length = 0 → sumC L < sumC M) ∧ (t.2.1.length ≠ 0 → sumC M ≤ sumC L) := by
  obtain ⟨h1, M2, h2, h3, h4, h5⟩ := apD_zero e
  obtain ⟨hR, hT, _, _, _⟩ := ckApply_zero h1
  obtain ⟨s1, T, s2, s3, s4, s5, s6, s7, s8⟩ := spendGo_mem h _ _ _ _ _ hR.srt h2
  rw [List.nil_append] at s2
  subst s2
  have hg := giveGo_sum name h _ _ _ _ _ s1 h4
  obtain ⟨t1, t2, t3, t4, t5, t6, t7⟩ := chkTx_zero hT
  constructor
  · intro h0
    have hS : S = [] := List.length_eq_zero_iff.1 (by rw [s3, h0])
    have := sumO_pos t.2.2 (fun q => by rw [q] at t3; simp at t3) (chkOuts_pos _ t6)
    rw [hS, sumC_nil] at s8
    omega
  · intro h0
    unfold covD isR at h3
    split at h3
    · cases h3
    · rename_i q
      have : ¬ (sumC S - sumO t.2.2 < 0) := fun r => q ⟨r, decide_eq_false h0⟩
      omega

end Go.Proofs.Ytklpajhgfdpboaa
