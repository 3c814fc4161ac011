/- Paths part once: mathematics of forks. Nothing of the program. -/
import Derived.Test.YtklekpbladmjhaaTrBest
namespace Go.Proofs.Ytklekpbladmjhaa
open Go.RowKit

theorem upD_take (N : List Int) (T : List BlkD) : ∀ (d : Nat) (x : Int) (i : Nat), i < d → (upD N T d x).take (i + 1) = upD N T (i + 1) ((upD N T d x).getD i 0)
  | 0, _, _, h => by omega
  | d + 1, x, i, h => by
    have hl := upD_len N T d (fnd x N T).1
    by_cases e : i < d
    · rw [upD, List.take_append_of_le_length (by omega), upD_take N T d _ i e]
      congr 1
      simp [List.getD, List.getElem?_append_left (show i < (upD N T d (fnd x N T).1).length by omega)]
    · have : i = d := by omega
      subst this
      rw [List.take_of_length_le (by rw [upD_len]; omega)]
      congr 1
      simp [upD, List.getD, hl]
/-- Where two paths meet they were one. -/
def Coh (P Q : List Int) : Prop := ∀ i, i < P.length → i < Q.length → P.getD i 0 = Q.getD i 0 → P.take (i + 1) = Q.take (i + 1)
theorem upD_coh (N : List Int) (T : List BlkD) (d e : Nat) (x y : Int) : Coh (upD N T d x) (upD N T e y) := by
  intro i h1 h2 h
  rw [upD_len] at h1 h2
  rw [upD_take N T d x i h1, upD_take N T e y i h2, h]

theorem frk_to (P Q : List Int) : ∀ (k : Nat), k ≤ P.length → k ≤ Q.length → P.take k = Q.take k → frkGo 0 P Q = frkGo (if k = 0 then 0 else P.getD (k - 1) 0) (P.drop k) (Q.drop k)
  | 0, _, _, _ => by simp
  | k + 1, h1, h2, h => by
    have hk : P.take k = Q.take k := by
      have := congrArg (List.take k) h
      rwa [List.take_take, List.take_take, Nat.min_eq_left (by omega)] at this
    have e : P[k] = Q[k] := by
      have := congrArg (fun l => l[k]?) h
      simpa [List.getElem?_take, (show k < P.length by omega), (show k < Q.length by omega)] using this
    rw [frk_to P Q k (by omega) (by omega) hk, frkGo_at _ P Q k (by omega) (by omega), if_pos e]
    simp [List.getD, (show k < P.length by omega)]
theorem frk_rest (l : Int) : ∀ (P Q : List Int), (∀ i, i < P.length → i < Q.length → P.getD i 0 ≠ Q.getD i 0) → frkGo l P Q = l
  | [], _, _ => by simp [frkGo]
  | _ :: _, [], _ => by simp [frkGo]
  | a :: P, b :: Q, h => by
    have h0 : a ≠ b := by simpa using h 0 (by simp) (by simp)
    rw [frkGo, if_neg h0]
    exact frk_rest l P Q (fun i h1 h2 => by simpa using h (i + 1) (by simpa using h1) (by simpa using h2))
theorem frk_at {P Q : List Int} (hc : Coh P Q) (k : Nat) (h1 : k ≤ P.length) (h2 : k ≤ Q.length) (h : P.take k = Q.take k) (hend : P.length ≤ k ∨ Q.length ≤ k ∨ P.getD k 0 ≠ Q.getD k 0) : frkGo 0 P Q = if k = 0 then 0 else P.getD (k - 1) 0 := by
  rw [frk_to P Q k h1 h2 h]
  apply frk_rest
  intro i hi hj
  rw [List.length_drop] at hi hj
  intro e
  have e' : P.getD (k + i) 0 = Q.getD (k + i) 0 := by simpa [List.getD] using e
  have ht := hc (k + i) (by omega) (by omega) e'
  have : P.getD k 0 = Q.getD k 0 := by
    have := congrArg (fun l => l[k]?) ht
    simp [(show k < k + i + 1 by omega)] at this
    simp [List.getD, this]
  rcases hend with q | q | q
  · omega
  · omega
  · exact q this
theorem frk_swap : ∀ (l : Int) (P Q : List Int), frkGo l P Q = frkGo l Q P
  | _, [], [] => rfl
  | _, [], _ :: _ => by simp [frkGo]
  | _, _ :: _, [] => by simp [frkGo]
  | l, a :: P, b :: Q => by
    rw [frkGo, frkGo, frk_swap _ P Q]
    by_cases e : a = b
    · subst e; rfl
    · rw [if_neg e, if_neg (fun h => e h.symm)]
theorem frk_self (P : List Int) : frkGo 0 P P = if P.length = 0 then 0 else P.getD (P.length - 1) 0 := by
  have hc : Coh P P := fun _ _ _ _ => rfl
  exact frk_at hc P.length (Nat.le_refl _) (Nat.le_refl _) rfl (.inl (Nat.le_refl _))

theorem chkGo_names : ∀ (M : List Int) (U : List BlkD) (N : List Int) (T : List BlkD), M.length = U.length → chkGo N T M U = 0 → ∀ x ∈ M, 1 ≤ x ∧ x ≤ 120
  | [], [], _, _, _, _ => fun b hb => by cases hb
  | [], _ :: _, _, _, h, _ => by cases h
  | _ :: _, [], _, _, h, _ => by cases h
  | x :: M, b :: U, N, T, h, hc => by
    rw [chkGo] at hc
    split at hc
    · next q => exact absurd hc q
    · next q =>
      have h1 : nextD N T x b = 0 := Classical.not_not.1 q
      have h2 := chkGo_names M U _ _ (by simpa using h) hc
      intro y hy
      rcases List.mem_cons.1 hy with rfl | hy
      · unfold nextD at h1
        split at h1
        · cases h1
        · next q1 => simp at q1; exact q1
      · exact h2 y hy
theorem fnd_in {N : List Int} {T : List BlkD} {x : Int} (hl : N.length = T.length) (h : x ∈ N) : fnd x N T ∈ T := by
  rcases idxI_fnd x N T 0 hl with ⟨_, h1, _⟩ | ⟨i, hi, _, _, h3⟩
  · exact absurd h h1
  · rw [h3]; exact List.getElem_mem hi
theorem fnd_out {N : List Int} {T : List BlkD} {x : Int} (hl : N.length = T.length) (h : x ∉ N) : fnd x N T = zeroB := by
  rcases idxI_fnd x N T 0 hl with ⟨_, _, h3⟩ | ⟨i, hi, _, h2, _⟩
  · exact h3
  · exact absurd h2 h
theorem pth_last {N : List Int} {T : List BlkD} {x : Int} (hc : chkTr N T = 0) (h : x = 0 ∨ x ∈ N) : (if (pthD N T x).length = 0 then 0 else (pthD N T x).getD ((pthD N T x).length - 1) 0) = x := by
  obtain ⟨hl, _, hH, hgo⟩ := chkTr_ok hc
  unfold pthD
  rw [upD_len]
  by_cases h0 : x ∈ N
  · have := hH _ (fnd_in hl h0)
    obtain ⟨d, hd⟩ : ∃ d, (fnd x N T).2.1.toNat = d + 1 := ⟨(fnd x N T).2.1.toNat - 1, by omega⟩
    rw [hd, if_neg (by omega)]
    simp [upD, List.getD, upD_len]
  · have hx : x = 0 := by rcases h with h | h; exact h; exact absurd h h0
    subst hx
    rw [fnd_out hl h0]
    simp [zeroB]

/-- What a fork that is found is. -/
theorem fork_facts {N : List Int} {T : List BlkD} {a b z : Int} (h : forkE N T a b = (z, 0)) : forkE N T b a = (z, 0) ∧ forkE N T a a = (a, 0) ∧ pathE N T a = (pthD N T a, 0) ∧ pathE N T b = (pthD N T b, 0) ∧ frkGo 0 (pthD N T a) (pthD N T b) = z ∧ (pthD N T a).length ≤ 1000 ∧ (pthD N T b).length ≤ 1000 := by
  have hh := h
  unfold forkE at hh
  by_cases q : (pathE N T a).2 = 0
  · rw [if_neg (by simp [q])] at hh
    by_cases q2 : (pathE N T b).2 = 0
    · rw [if_neg (by simp [q2])] at hh
      have hz := congrArg Prod.fst hh
      simp only at hz
      obtain ⟨c1, m1, p1⟩ := pathE_ok q
      obtain ⟨c2, m2, p2⟩ := pathE_ok q2
      have hH := (chkTr_ok c1).2.2.1
      refine ⟨?_, ?_, Prod.ext p1 q, Prod.ext p2 q2, by rw [← p1, ← p2]; exact hz, pth_len hH a, pth_len hH b⟩
      · unfold forkE
        rw [if_neg (by simp [q2]), if_neg (by simp [q]), frk_swap, hz]
      · unfold forkE
        rw [if_neg (by simp [q]), if_neg (by simp [q]), p1, frk_self, pth_last c1 m1]
    · rw [if_pos q2] at hh
      exact absurd (congrArg Prod.snd hh) q2
  · rw [if_pos q] at hh
    exact absurd (congrArg Prod.snd hh) q

end Go.Proofs.Ytklekpbladmjhaa
