/- Plain numbers and lists for coin: halving, what all rewards make together, sums of amounts, even shares. Nothing of the program. -/
namespace Go.Proofs.Ytoacgkgadecddaa

def hv : Nat → Int
  | 0 => 64
  | k + 1 => hv k / 2

theorem hv_bd (k : Nat) : 0 ≤ hv k ∧ hv k ≤ 64 := by
  induction k with
  | zero => simp [hv]
  | succ k ih => simp only [hv]; omega

theorem hv_le (k : Nat) : hv (k + 1) ≤ hv k := by
  have := hv_bd k
  simp only [hv]; omega

/-- What the block of height n brings, by the document. -/
def rew (n : Nat) : Int := hv ((n - 1) / 8)

theorem rew_bd (n : Nat) : 0 ≤ rew n ∧ rew n ≤ 64 := hv_bd _

theorem rew_le (n : Nat) (h : 1 ≤ n) : rew (n + 1) ≤ rew n := by
  unfold rew
  rcases (show (n + 1 - 1) / 8 = (n - 1) / 8 ∨ (n + 1 - 1) / 8 = (n - 1) / 8 + 1 from by omega) with e | e
  · rw [e]; exact Int.le_refl _
  · rw [e]; exact hv_le _

/-- What all blocks up to n bring together. -/
def sup : Nat → Int
  | 0 => 0
  | n + 1 => sup n + rew (n + 1)

theorem sup_bd (n : Nat) : 0 ≤ sup n ∧ sup n ≤ 64 * n := by
  induction n with
  | zero => simp [sup]
  | succ n ih => have := rew_bd (n + 1); simp only [sup]; omega

/-- The sum of amounts, one by one from s on: the sum and 0, or 0 and what is wrong. -/
def sm : Int → List Int → Int × Int
  | s, [] => (s, 0)
  | s, x :: l => if 0 ≤ x ∧ x ≤ 1000000000 then (if s + x ≤ 1000000000 then sm (s + x) l else (0, 12)) else (0, 3)

theorem sm_step (s : Int) (Z : List Int) (k : Nat) (hk : k < Z.length) (h1 : 0 ≤ Z.getD k 0) (h2 : Z.getD k 0 ≤ 1000000000) (h3 : s + Z.getD k 0 ≤ 1000000000) :
    sm s (Z.drop k) = sm (s + Z.getD k 0) (Z.drop (k + 1)) := by
  have e : Z.drop k = Z.getD k 0 :: Z.drop (k + 1) := by
    rw [List.drop_eq_getElem_cons hk]; simp [List.getD, hk]
  rw [e, sm, if_pos ⟨h1, h2⟩, if_pos h3]

theorem sm_full (s : Int) (Z : List Int) (k : Nat) (hk : k < Z.length) (h1 : 0 ≤ Z.getD k 0) (h2 : Z.getD k 0 ≤ 1000000000) (h3 : 1000000000 < s + Z.getD k 0) :
    sm s (Z.drop k) = (0, 12) := by
  have e : Z.drop k = Z.getD k 0 :: Z.drop (k + 1) := by
    rw [List.drop_eq_getElem_cons hk]; simp [List.getD, hk]
  rw [e, sm, if_pos ⟨h1, h2⟩, if_neg (by omega)]

theorem sm_range (s : Int) (Z : List Int) (k : Nat) (hk : k < Z.length) (h : Z.getD k 0 < 0 ∨ 1000000000 < Z.getD k 0) :
    sm s (Z.drop k) = (0, 3) := by
  have e : Z.drop k = Z.getD k 0 :: Z.drop (k + 1) := by
    rw [List.drop_eq_getElem_cons hk]; simp [List.getD, hk]
  rw [e, sm, if_neg (by omega)]

theorem sm_end (s : Int) (Z : List Int) (k : Nat) (hk : Z.length ≤ k) : sm s (Z.drop k) = (s, 0) := by
  rw [List.drop_eq_nil_of_le hk, sm]

/-- The rewards of the heights 1 to n, in a row. -/
def rews (n : Nat) : List Int := (List.range n).map fun i => rew (i + 1)

theorem rews_len (n : Nat) : (rews n).length = n := by simp [rews]

theorem rews_get (n i : Nat) (h : i < n) : (rews n).getD i 0 = rew (i + 1) := by
  simp [rews, List.getD, h]

/-- Summed from place k on, with all ahead of it summed, the rewards make what they all make. -/
theorem sm_rews_aux (n : Nat) (h : n ≤ 1000) (j : Nat) (hj : j ≤ n) : sm (sup (n - j)) ((rews n).drop (n - j)) = (sup n, 0) := by
  induction j with
  | zero => rw [sm_end _ _ _ (by rw [rews_len]; omega)]; simp
  | succ j ih =>
    have hk : n - (j + 1) < n := by omega
    have g := rews_get n (n - (j + 1)) hk
    have b := rew_bd (n - (j + 1) + 1)
    have sb := sup_bd (n - (j + 1))
    rw [sm_step _ _ _ (by rw [rews_len]; omega) (by rw [g]; omega) (by rw [g]; omega) (by rw [g]; omega), g]
    have e : n - (j + 1) + 1 = n - j := by omega
    have e2 : sup (n - (j + 1)) + rew (n - (j + 1) + 1) = sup (n - j) := by rw [← e, sup]
    rw [e2, e]
    exact ih (by omega)

theorem sm_rews (n : Nat) (h : n ≤ 1000) : sm 0 (rews n) = (sup n, 0) := by
  have := sm_rews_aux n h n (Nat.le_refl _)
  simpa [sup] using this

/-- The share at place i of n shared among p. -/
def share (n p i : Nat) : Int := ((n / p + if i < n % p then 1 else 0 : Nat) : Int)

/-- What the first k shares make together. -/
def shares (n p : Nat) : Nat → Int
  | 0 => 0
  | k + 1 => shares n p k + share n p k

theorem shares_eq (n p k : Nat) : shares n p k = ((k * (n / p) + min k (n % p) : Nat) : Int) := by
  induction k with
  | zero => simp [shares]
  | succ k ih =>
    rw [shares, ih, share, Nat.add_mul]
    by_cases h : k < n % p
    · rw [if_pos h]; omega
    · rw [if_neg h]; omega

theorem shares_all (n p : Nat) (hp : 0 < p) : shares n p p = (n : Int) := by
  rw [shares_eq]
  have h1 := Nat.mod_lt n hp
  have h2 := Nat.div_add_mod n p
  rw [Nat.min_eq_right (by omega)]
  omega

theorem share_bd (n p i : Nat) : 0 ≤ share n p i ∧ share n p i ≤ n + 1 := by
  unfold share
  have h := Nat.div_le_self n p
  generalize n / p = q at *
  split <;> omega

theorem share_le (n p i : Nat) : share n p (i + 1) ≤ share n p i := by
  unfold share
  by_cases h : i + 1 < n % p
  · rw [if_pos h, if_pos (by omega)]; omega
  · rw [if_neg h]; split <;> omega

theorem share_first (n p i : Nat) : share n p 0 - 1 ≤ share n p i := by
  unfold share
  split <;> split <;> omega

theorem shares_bd (n p k : Nat) (hk : k ≤ p) : 0 ≤ shares n p k ∧ shares n p k ≤ n := by
  rw [shares_eq]
  have h2 := Nat.div_add_mod n p
  have h3 : k * (n / p) ≤ p * (n / p) := Nat.mul_le_mul_right _ hk
  omega

end Go.Proofs.Ytoacgkgadecddaa
