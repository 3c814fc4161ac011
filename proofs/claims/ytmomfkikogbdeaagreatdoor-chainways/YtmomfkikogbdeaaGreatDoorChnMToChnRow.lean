/- Coins behind blocks, moves from one block to another one: mathematics. -/
import Derived.Test.YtmomfkikogbdeaaGreatDoorTxStateToBlkDisM
import Derived.Test.YtmomfkikogbdeaaGreatDoorTrBlockToTrPathsM
import Derived.Test.YtmomfkikogbdeaaGreatDoorCoinCopyBToChnKit
import Derived.Test.YtmomfkikogbdeaaGreatDoorTrFirstToTrStep
namespace Go.Proofs.YtmomfkikogbdeaaGreatDoor
open Tr (fnd chkTr pthD pathE blockE TrOk)

/-- Blocks connected one after the other: the coins then, what undoes each. -/
def runC (K : List ByteArray) (N : List Int) (T : List BlkD) : List Int → List CoinD → Int × List CoinD × List (List (List CoinD))
  | [], C => (0, C, [])
  | x :: R, C => if (conD K C (fnd x N T)).1 ≠ 0 then ((conD K C (fnd x N T)).1, [], []) else
      if (runC K N T R (conD K C (fnd x N T)).2.1).1 ≠ 0 then ((runC K N T R (conD K C (fnd x N T)).2.1).1, [], []) else
      (0, (runC K N T R (conD K C (fnd x N T)).2.1).2.1, (conD K C (fnd x N T)).2.2 :: (runC K N T R (conD K C (fnd x N T)).2.1).2.2)

theorem runC_cons {K : List ByteArray} {N : List Int} {T : List BlkD} {x : Int} {R : List Int} {C M : List CoinD} {U : List (List (List CoinD))} (h : runC K N T (x :: R) C = (0, M, U)) :
    ∃ C' S V, conD K C (fnd x N T) = (0, C', S) ∧ runC K N T R C' = (0, M, V) ∧ U = S :: V := by
  rw [runC] at h
  split at h
  · rename_i q; injection h with h _; exact absurd h q
  rename_i q
  split at h
  · rename_i q; injection h with h _; exact absurd h q
  rename_i q2
  injection h with h1 h2
  injection h2 with h2 h3
  refine ⟨_, _, _, Prod.ext (Decidable.not_not.1 q) rfl, Prod.ext (Decidable.not_not.1 q2) (Prod.ext h2 rfl), h3.symm⟩
theorem runC_mk {K : List ByteArray} {N : List Int} {T : List BlkD} {x : Int} {R : List Int} {C C' M : List CoinD} {S : List (List CoinD)} {V : List (List (List CoinD))} (h1 : conD K C (fnd x N T) = (0, C', S)) (h2 : runC K N T R C' = (0, M, V)) : runC K N T (x :: R) C = (0, M, S :: V) := by
  rw [runC, h1, if_neg (fun q => q rfl), h2, if_neg (fun q => q rfl)]
theorem runC_app {K : List ByteArray} {N : List Int} {T : List BlkD} : ∀ (P Q : List Int) (C M : List CoinD) (U : List (List (List CoinD))), runC K N T (P ++ Q) C = (0, M, U) → ∃ C' V W, runC K N T P C = (0, C', V) ∧ runC K N T Q C' = (0, M, W) ∧ U = V ++ W
  | [], _, C, _, U, h => ⟨C, [], U, rfl, h, rfl⟩
  | x :: P, Q, C, M, U, h => by
    obtain ⟨C1, S, V1, h1, h2, rfl⟩ := runC_cons (R := P ++ Q) h
    obtain ⟨C', V, W, h3, h4, rfl⟩ := runC_app P Q C1 M V1 h2
    exact ⟨C', S :: V, W, runC_mk h1 h3, h4, rfl⟩
theorem runC_join {K : List ByteArray} {N : List Int} {T : List BlkD} : ∀ (P Q : List Int) (C C' M : List CoinD) (V W : List (List (List CoinD))), runC K N T P C = (0, C', V) → runC K N T Q C' = (0, M, W) → runC K N T (P ++ Q) C = (0, M, V ++ W)
  | [], _, C, C', _, V, _, h, h2 => by
    injection h with _ h
    injection h with h3 h4
    subst h3 h4
    exact h2
  | x :: P, Q, C, C', M, V, W, h, h2 => by
    obtain ⟨C1, S, V1, h1, h3, rfl⟩ := runC_cons h
    exact runC_mk h1 (runC_join P Q C1 C' M V1 W h3 h2)
theorem runC_len {K : List ByteArray} {N : List Int} {T : List BlkD} : ∀ (P : List Int) (C M : List CoinD) (U : List (List (List CoinD))), runC K N T P C = (0, M, U) → U.length = P.length
  | [], _, _, _, h => by injection h with _ h; injection h with _ h; subst h; rfl
  | x :: P, C, M, U, h => by
    obtain ⟨C1, S, V1, h1, h3, rfl⟩ := runC_cons h
    simp [runC_len P _ _ _ h3]

/-- A row of names climbed: 0 stands for none. What undoes each lies at its place. -/
def clGo (K : List ByteArray) (N : List Int) (T : List BlkD) : List Int → List CoinD → List (List (List CoinD)) → Int × List CoinD × List (List (List CoinD))
  | [], C, U => (0, C, U)
  | x :: R, C, U => if x = 0 then clGo K N T R C (U ++ [[]]) else
      if (blockE N T x).2 ≠ 0 then ((blockE N T x).2, [], []) else
      if (conD K C (blockE N T x).1).1 ≠ 0 then ((conD K C (blockE N T x).1).1, [], []) else
      clGo K N T R (conD K C (blockE N T x).1).2.1 (U ++ [(conD K C (blockE N T x).1).2.2])
theorem block_in {N : List Int} {T : List BlkD} {x : Int} (hc : chkTr N T = 0) (hx : x ∈ N) : blockE N T x = (fnd x N T, 0) := by
  unfold Tr.blockE
  rw [if_neg (fun q => q hc), if_pos (by simpa using hx)]
theorem cl_zeros (K : List ByteArray) (N : List Int) (T : List BlkD) : ∀ (z : Nat) (R : List Int) (C : List CoinD) (U : List (List (List CoinD))), clGo K N T (List.replicate z 0 ++ R) C U = clGo K N T R C (U ++ List.replicate z [])
  | 0, R, C, U => by simp
  | z + 1, R, C, U => by
    rw [List.replicate_succ, List.cons_append, clGo, if_pos rfl, cl_zeros K N T z, List.replicate_succ, List.append_assoc]; rfl
/-- Names of a tree climbed. -/
theorem cl_names {K : List ByteArray} {N : List Int} {T : List BlkD} (hc : chkTr N T = 0) : ∀ (P R : List Int) (C : List CoinD) (U : List (List (List CoinD))), (∀ x ∈ P, x ∈ N) →
    clGo K N T (P ++ R) C U = if (runC K N T P C).1 ≠ 0 then ((runC K N T P C).1, [], []) else clGo K N T R (runC K N T P C).2.1 (U ++ (runC K N T P C).2.2)
  | [], R, C, U, _ => by simp [runC]
  | x :: P, R, C, U, h => by
    have hx := h x (by simp)
    have h0 : x ≠ 0 := fun q => (TrOk.of hc).zero (q ▸ hx)
    rw [List.cons_append, clGo, if_neg h0, block_in hc hx, if_neg (fun q => q rfl)]
    by_cases q : (conD K C (fnd x N T)).1 = 0
    · rw [if_neg (fun r => r q), cl_names hc P R _ _ (fun y hy => h y (by simp [hy]))]
      by_cases q2 : (runC K N T P (conD K C (fnd x N T)).2.1).1 = 0
      · have e : runC K N T (x :: P) C = (0, (runC K N T P (conD K C (fnd x N T)).2.1).2.1, (conD K C (fnd x N T)).2.2 :: (runC K N T P (conD K C (fnd x N T)).2.1).2.2) := by rw [runC, if_neg (fun r => r q), if_neg (fun r => r q2)]
        rw [if_neg (fun r => r q2), e, if_neg (fun r => r rfl), List.append_assoc]; rfl
      · have e : runC K N T (x :: P) C = ((runC K N T P (conD K C (fnd x N T)).2.1).1, [], []) := by rw [runC, if_neg (fun r => r q), if_pos q2]
        rw [if_pos q2, e, if_pos q2]
    · have e : runC K N T (x :: P) C = ((conD K C (fnd x N T)).1, [], []) := by rw [runC, if_pos q]
      rw [if_pos q, e, if_pos q]

/-- The path of a block, as a row of 24. -/
def rowD (P : List Int) : List Int := P ++ List.replicate (24 - P.length) 0
def coinsE (K : List ByteArray) (N : List Int) (T : List BlkD) (s : Int) : Int × List CoinD :=
  if Bk.bkChk K ≠ 0 then (Bk.bkChk K, []) else if (pathE N T s).2 ≠ 0 then ((pathE N T s).2, []) else ((clGo K N T (rowD (pathE N T s).1) [] []).1, (clGo K N T (rowD (pathE N T s).1) [] []).2.1)
theorem cl_row {K : List ByteArray} {N : List Int} {T : List BlkD} (hc : chkTr N T = 0) (P : List Int) (C : List CoinD) (h : ∀ x ∈ P, x ∈ N) :
    clGo K N T (rowD P) C [] = if (runC K N T P C).1 ≠ 0 then ((runC K N T P C).1, [], []) else (0, (runC K N T P C).2.1, (runC K N T P C).2.2 ++ List.replicate (24 - P.length) []) := by
  unfold rowD
  rw [cl_names hc P _ C [] h]
  have := cl_zeros K N T (24 - P.length) [] (runC K N T P C).2.1 ([] ++ (runC K N T P C).2.2)
  rw [List.append_nil] at this
  rw [this]
  rfl
theorem coins_ok {K : List ByteArray} {N : List Int} {T : List BlkD} {s : Int} {A : List CoinD} (h : coinsE K N T s = (0, A)) : Bk.bkChk K = 0 ∧ chkTr N T = 0 ∧ (s = 0 ∨ s ∈ N) ∧ ∃ U, runC K N T (pthD N T s) [] = (0, A, U) := by
  unfold coinsE at h
  split at h
  · rename_i q; injection h with h _; exact absurd h q
  rename_i q1
  split at h
  · rename_i q; injection h with h _; exact absurd h q
  rename_i q2
  obtain ⟨hc, hs, hp⟩ := Tr.pathE_ok (Decidable.not_not.1 q2)
  refine ⟨Decidable.not_not.1 q1, hc, hs, ?_⟩
  rw [hp, cl_row hc _ _ ((TrOk.of hc).pth_sub hs)] at h
  split at h
  · rename_i q; injection h with h _; exact absurd h q
  rename_i q3
  injection h with _ h
  exact ⟨_, Prod.ext (Decidable.not_not.1 q3) (Prod.ext h rfl)⟩
theorem path_mk {N : List Int} {T : List BlkD} {s : Int} (hc : chkTr N T = 0) (hs : s = 0 ∨ s ∈ N) : pathE N T s = (pthD N T s, 0) := by
  unfold Tr.pathE
  rw [if_neg (fun q => q hc), if_neg]
  rintro ⟨h1, h2⟩
  rcases hs with h | h
  · exact h1 h
  · simp [h] at h2
theorem coins_mk {K : List ByteArray} {N : List Int} {T : List BlkD} {s : Int} {A : List CoinD} {U : List (List (List CoinD))} (hk : Bk.bkChk K = 0) (hc : chkTr N T = 0) (hs : s = 0 ∨ s ∈ N) (h : runC K N T (pthD N T s) [] = (0, A, U)) : coinsE K N T s = (0, A) := by
  unfold coinsE
  rw [if_neg (fun q => q hk), path_mk hc hs, if_neg (fun q => q rfl), cl_row hc _ _ ((TrOk.of hc).pth_sub hs), h, if_neg (fun q => q rfl)]

/-! Two rows apart. -/
def offD (A B : List Int) : List Int := List.zipWith (fun x y => if x = y then 0 else x) A B
/-- What leaves a path is disconnected, the highest one first. -/
def dsGo (K : List ByteArray) (N : List Int) (T : List BlkD) (L : List Int) (U : List (List (List CoinD))) : Nat → List CoinD → Int × List CoinD
  | 0, C => (0, C)
  | k + 1, C => if L.getD k 0 = 0 then dsGo K N T L U k C else
      if (blockE N T (L.getD k 0)).2 ≠ 0 then ((blockE N T (L.getD k 0)).2, []) else
      if (disD K C (blockE N T (L.getD k 0)).1 (U.getD k [])).1 ≠ 0 then ((disD K C (blockE N T (L.getD k 0)).1 (U.getD k [])).1, []) else dsGo K N T L U k (disD K C (blockE N T (L.getD k 0)).1 (U.getD k [])).2
def descE (K : List ByteArray) (N : List Int) (T : List BlkD) (C : List CoinD) (W L : List Int) : Int × List CoinD :=
  if L = List.replicate 24 0 then (0, C) else if (clGo K N T W [] []).1 ≠ 0 then ((clGo K N T W [] []).1, []) else dsGo K N T L (clGo K N T W [] []).2.2 24 C
def moveE (K : List ByteArray) (N : List Int) (T : List BlkD) (C : List CoinD) (s t : Int) : Int × List CoinD :=
  if Bk.bkChk K ≠ 0 then (Bk.bkChk K, []) else if (pathE N T s).2 ≠ 0 then ((pathE N T s).2, []) else if (pathE N T t).2 ≠ 0 then ((pathE N T t).2, []) else
  if (descE K N T C (rowD (pathE N T s).1) (offD (rowD (pathE N T s).1) (rowD (pathE N T t).1))).1 ≠ 0 then ((descE K N T C (rowD (pathE N T s).1) (offD (rowD (pathE N T s).1) (rowD (pathE N T t).1))).1, []) else
  ((clGo K N T (offD (rowD (pathE N T t).1) (rowD (pathE N T s).1)) (descE K N T C (rowD (pathE N T s).1) (offD (rowD (pathE N T s).1) (rowD (pathE N T t).1))).2 []).1,
   (clGo K N T (offD (rowD (pathE N T t).1) (rowD (pathE N T s).1)) (descE K N T C (rowD (pathE N T s).1) (offD (rowD (pathE N T s).1) (rowD (pathE N T t).1))).2 []).2.1)

/-- Paths are at most 24 long, and part once. -/
theorem pth_24 {N : List Int} {T : List BlkD} {s : Int} (hc : chkTr N T = 0) (hs : s = 0 ∨ s ∈ N) : (pthD N T s).length ≤ 24 := by
  have h := TrOk.of hc
  have h1 := Tr.nd_len (pthD N T s) N (h.pth_nd hs) (h.pth_sub hs)
  have h2 : N.length ≤ 24 := by
    unfold Tr.chkTr at hc
    split at hc
    · cases hc
    split at hc
    · cases hc
    omega
  omega
theorem parts {P Q : List Int} (hc : Tr.Coh P Q) : ∃ X A B, P = X ++ A ∧ Q = X ++ B ∧ ∀ i, i < A.length → i < B.length → A.getD i 0 ≠ B.getD i 0 := by
  have key : ∀ (P Q X : List Int), Tr.Coh (X ++ P) (X ++ Q) → ∃ Y A B, P = Y ++ A ∧ Q = Y ++ B ∧ ∀ i, i < A.length → i < B.length → A.getD i 0 ≠ B.getD i 0 := by
    intro P
    induction P with
    | nil => intro Q X _; exact ⟨[], [], Q, rfl, rfl, fun i h => absurd h (by simp)⟩
    | cons x P ih =>
      intro Q X hc
      cases Q with
      | nil => exact ⟨[], x :: P, [], rfl, rfl, fun i _ h => absurd h (by simp)⟩
      | cons y Q =>
        by_cases e : x = y
        · subst e
          obtain ⟨Y, A, B, h1, h2, h3⟩ := ih Q (X ++ [x]) (by simpa using hc)
          exact ⟨x :: Y, A, B, by rw [h1]; rfl, by rw [h2]; rfl, h3⟩
        · refine ⟨[], x :: P, y :: Q, rfl, rfl, fun i h1 h2 q => ?_⟩
          have := hc (X.length + i) (by simp at h1 ⊢; omega) (by simp at h2 ⊢; omega) (by
            simp only [List.getD_eq_getElem?_getD] at q ⊢
            rw [List.getElem?_append_right (by omega), List.getElem?_append_right (by omega), Nat.add_sub_cancel_left]
            exact q)
          have h4 := congrArg (fun l : List Int => l[X.length]?) this
          rw [List.getElem?_take_of_lt (by omega), List.getElem?_take_of_lt (by omega), List.getElem?_append_right (by omega), List.getElem?_append_right (by omega)] at h4
          simp at h4
          exact e h4
  exact key P Q [] hc
theorem zip_same {α : Type} (f : α → α → α) : ∀ (X A B : List α), List.zipWith f (X ++ A) (X ++ B) = List.zipWith f X X ++ List.zipWith f A B
  | [], _, _ => by simp
  | x :: X, A, B => by simp [zip_same f X A B]
theorem off_same : ∀ (X : List Int), offD X X = List.replicate X.length 0
  | [] => rfl
  | x :: X => by
    have := off_same X
    unfold offD at this ⊢
    rw [List.zipWith_cons_cons, this, if_pos rfl]; rfl
theorem off_rest : ∀ (A B : List Int) (z : Nat), (∀ i, i < A.length → i < B.length → A.getD i 0 ≠ B.getD i 0) → (∀ x ∈ A, x ≠ 0) → A.length ≤ z → B.length ≤ z →
    offD (A ++ List.replicate (z - A.length) 0) (B ++ List.replicate (z - B.length) 0) = A ++ List.replicate (z - A.length) 0
  | [], [], z, _, _, _, _ => by
    have := off_same (List.replicate z 0)
    simpa using this
  | [], b :: B, z, _, _, _, h2 => by
    obtain ⟨z, rfl⟩ : ∃ y, z = y + 1 := ⟨z - 1, by simp at h2; omega⟩
    have := off_rest [] B z (fun i h => absurd h (by simp)) (fun x h => by cases h) (by simp) (by simpa using h2)
    unfold offD at this ⊢
    simp only [List.nil_append, List.length_nil, Nat.sub_zero, List.length_cons, Nat.add_sub_add_right, List.cons_append, List.replicate_succ, List.zipWith_cons_cons] at this ⊢
    rw [this]
    simp
  | a :: A, [], z, _, h0, h1, _ => by
    obtain ⟨z, rfl⟩ : ∃ y, z = y + 1 := ⟨z - 1, by simp at h1; omega⟩
    have := off_rest A [] z (fun i _ h => absurd h (by simp)) (fun x h => h0 x (by simp [h])) (by simpa using h1) (by simp)
    have ha := h0 a (by simp)
    unfold offD at this ⊢
    simp only [List.nil_append, List.length_nil, Nat.sub_zero, List.length_cons, Nat.add_sub_add_right, List.cons_append, List.replicate_succ, List.zipWith_cons_cons] at this ⊢
    rw [this, if_neg ha]
  | a :: A, b :: B, z, hd, h0, h1, h2 => by
    obtain ⟨z, rfl⟩ : ∃ y, z = y + 1 := ⟨z - 1, by simp at h1; omega⟩
    have := off_rest A B z (fun i q r => hd (i + 1) (by simpa using q) (by simpa using r)) (fun x h => h0 x (by simp [h])) (by simpa using h1) (by simpa using h2)
    have ha : a ≠ b := hd 0 (by simp) (by simp)
    unfold offD at this ⊢
    simp only [List.length_cons, Nat.add_sub_add_right, List.cons_append, List.zipWith_cons_cons] at this ⊢
    rw [this, if_neg ha]
/-- What is left of a row beside another one: the part behind where they part, at its place. -/
theorem off_row {X A B : List Int} (hd : ∀ i, i < A.length → i < B.length → A.getD i 0 ≠ B.getD i 0) (h0 : ∀ x ∈ A, x ≠ 0) (h1 : (X ++ A).length ≤ 24) (h2 : (X ++ B).length ≤ 24) :
    offD (rowD (X ++ A)) (rowD (X ++ B)) = List.replicate X.length 0 ++ (A ++ List.replicate (24 - (X ++ A).length) 0) := by
  unfold rowD
  rw [List.append_assoc, List.append_assoc]
  have e1 := zip_same (fun x y : Int => if x = y then 0 else x) X (A ++ List.replicate (24 - (X ++ A).length) 0) (B ++ List.replicate (24 - (X ++ B).length) 0)
  unfold offD
  rw [e1]
  have e2 := off_same X
  unfold offD at e2
  rw [e2]
  have e3 := off_rest A B (24 - X.length) hd h0 (by simp at h1; omega) (by simp at h2; omega)
  unfold offD at e3
  rw [List.length_append, List.length_append, Nat.sub_add_eq, Nat.sub_add_eq]
  rw [e3]
theorem ds_skip {K : List ByteArray} {N : List Int} {T : List BlkD} {L : List Int} {U : List (List (List CoinD))} {lo : Nat} (C : List CoinD) : ∀ (k : Nat), (∀ i, lo ≤ i → i < lo + k → L.getD i 0 = 0) → dsGo K N T L U (lo + k) C = dsGo K N T L U lo C
  | 0, _ => rfl
  | k + 1, h => by
    rw [← Nat.add_assoc, dsGo, if_pos (h (lo + k) (by omega) (by omega)), ds_skip C k (fun i h1 h2 => h i h1 (by omega))]
/-- What was climbed is gone down again. -/
theorem ds_back {K : List ByteArray} {N : List Int} {T : List BlkD} {L : List Int} {U : List (List (List CoinD))} (hc : chkTr N T = 0) : ∀ (A : List Int) (lo : Nat) (C M : List CoinD) (V : List (List (List CoinD))), (∀ x ∈ A, x ∈ N) → runC K N T A C = (0, M, V) →
    (∀ i, i < A.length → L.getD (lo + i) 0 = A.getD i 0 ∧ U.getD (lo + i) [] = V.getD i []) → dsGo K N T L U (lo + A.length) M = dsGo K N T L U lo C
  | [], lo, C, M, V, _, h, _ => by
    injection h with _ h
    injection h with h _
    rw [h]; rfl
  | x :: A, lo, C, M, V, hA, h, hL => by
    obtain ⟨C', S, V', h1, h2, rfl⟩ := runC_cons h
    have hx := hA x (by simp)
    have h0 : x ≠ 0 := fun q => (TrOk.of hc).zero (q ▸ hx)
    have e := ds_back hc A (lo + 1) C' M V' (fun y hy => hA y (by simp [hy])) h2 (fun i hi => by
      have := hL (i + 1) (by simpa using hi)
      rw [show lo + 1 + i = lo + (i + 1) by omega]
      simpa using this)
    rw [List.length_cons, show lo + (A.length + 1) = lo + 1 + A.length by omega, e, dsGo]
    obtain ⟨e1, e2⟩ := hL 0 (by simp)
    have e1 : L.getD lo 0 = x := e1
    have e2 : U.getD lo [] = S := e2
    rw [e1, e2, if_neg h0, block_in hc hx, if_neg (fun q => q rfl), (con_all h1).2.2.2.2.1, if_neg (fun q => q rfl)]

theorem getD_app_r {α : Type} (X Y : List α) (i : Nat) (d : α) : (X ++ Y).getD (X.length + i) d = Y.getD i d := by
  simp only [List.getD_eq_getElem?_getD]
  rw [List.getElem?_append_right (by omega), Nat.add_sub_cancel_left]
theorem getD_app_l {α : Type} (X Y : List α) (i : Nat) (d : α) (h : i < X.length) : (X ++ Y).getD i d = X.getD i d := by
  simp only [List.getD_eq_getElem?_getD]
  rw [List.getElem?_append_left h]
theorem getD_rep {α : Type} (n i : Nat) (d : α) : (List.replicate n d).getD i d = d := by
  simp only [List.getD_eq_getElem?_getD]
  rcases Nat.lt_or_ge i n with h | h
  · rw [List.getElem?_replicate, if_pos h]; rfl
  · rw [List.getElem?_eq_none (by simpa using h)]; rfl

/-- From the coins of a block Move goes down to where the paths part, and up. -/
theorem move_parts {K : List ByteArray} {N : List Int} {T : List BlkD} {s t : Int} {X A B : List Int} {C M : List CoinD} {U V : List (List (List CoinD))} (hk : Bk.bkChk K = 0) (hc : chkTr N T = 0) (hs : s = 0 ∨ s ∈ N) (ht : t = 0 ∨ t ∈ N)
    (hP : pthD N T s = X ++ A) (hQ : pthD N T t = X ++ B) (hd : ∀ i, i < A.length → i < B.length → A.getD i 0 ≠ B.getD i 0) (h1 : runC K N T X [] = (0, C, U)) (h2 : runC K N T A C = (0, M, V)) :
    moveE K N T M s t = ((runC K N T B C).1, if (runC K N T B C).1 ≠ 0 then [] else (runC K N T B C).2.1) := by
  have hT := TrOk.of hc
  have sP := hT.pth_sub hs
  have sQ := hT.pth_sub ht
  have l1 := pth_24 hc hs
  have l2 := pth_24 hc ht
  rw [hP] at sP l1
  rw [hQ] at sQ l2
  have nA : ∀ x ∈ A, x ≠ 0 := fun x hx q => hT.zero (q ▸ sP x (by simp [hx]))
  have nB : ∀ x ∈ B, x ≠ 0 := fun x hx q => hT.zero (q ▸ sQ x (by simp [hx]))
  have o1 := off_row hd nA l1 l2
  have o2 := off_row (fun i q r e => hd i r q e.symm) nB l2 l1
  have hrun := runC_join X A [] C M U V h1 h2
  have hcl := cl_row (K := K) hc (X ++ A) [] sP
  rw [hrun, if_neg (fun q => q rfl)] at hcl
  have lU := runC_len _ _ _ _ h1
  have lV := runC_len _ _ _ _ h2
  have hdesc : descE K N T M (rowD (X ++ A)) (offD (rowD (X ++ A)) (rowD (X ++ B))) = (0, C) := by
    unfold descE
    rw [o1]
    by_cases hA : A = []
    · subst hA
      rw [if_pos]
      · injection h2 with _ h2
        injection h2 with h2 _
        rw [h2]
      · rw [List.nil_append, List.append_nil, List.replicate_append_replicate]
        simp at l1
        rw [show X.length + (24 - X.length) = 24 by omega]
    · rw [if_neg]
      · rw [hcl, if_neg (fun q => q rfl)]
        simp only
        have e1 := ds_skip (K := K) (N := N) (T := T) (L := List.replicate X.length 0 ++ (A ++ List.replicate (24 - (X ++ A).length) 0)) (U := U ++ V ++ List.replicate (24 - (X ++ A).length) []) (lo := X.length + A.length) M (24 - (X ++ A).length) (fun i q r => by
          have := getD_app_r (List.replicate X.length 0) (A ++ List.replicate (24 - (X ++ A).length) 0) (i - X.length) (0 : Int)
          rw [List.length_replicate, show X.length + (i - X.length) = i by omega] at this
          rw [this]
          have := getD_app_r A (List.replicate (24 - (X ++ A).length) 0) (i - X.length - A.length) (0 : Int)
          rw [show A.length + (i - X.length - A.length) = i - X.length by omega] at this
          rw [this, getD_rep])
        rw [show X.length + A.length + (24 - (X ++ A).length) = 24 by simp at l1 ⊢; omega] at e1
        rw [e1, ds_back hc A X.length C M V (fun x hx => sP x (by simp [hx])) h2 (fun i hi => ⟨?_, ?_⟩)]
        · have e2 := ds_skip (K := K) (N := N) (T := T) (L := List.replicate X.length 0 ++ (A ++ List.replicate (24 - (X ++ A).length) 0)) (U := U ++ V ++ List.replicate (24 - (X ++ A).length) []) (lo := 0) C X.length (fun i _ r => by
            rw [getD_app_l _ _ _ _ (by simp; omega), getD_rep])
          rw [Nat.zero_add] at e2
          rw [e2]; rfl
        · have := getD_app_r (List.replicate X.length 0) (A ++ List.replicate (24 - (X ++ A).length) 0) i (0 : Int)
          rw [List.length_replicate] at this
          rw [this, getD_app_l _ _ _ _ hi]
        · rw [List.append_assoc]
          have := getD_app_r U (V ++ List.replicate (24 - (X ++ A).length) []) i ([] : List (List CoinD))
          rw [lU] at this
          rw [this, getD_app_l _ _ _ _ (by omega)]
      · intro q
        obtain ⟨x, hx⟩ := List.exists_mem_of_ne_nil A hA
        have : x ∈ List.replicate 24 (0 : Int) := by rw [← q]; simp [hx]
        exact nA x hx (List.eq_of_mem_replicate this)
  unfold moveE
  rw [if_neg (fun q => q hk), path_mk hc hs, path_mk hc ht, if_neg (fun q => q rfl), if_neg (fun q => q rfl), hP, hQ, hdesc, if_neg (fun q => q rfl), o2, cl_zeros, cl_names hc B _ C _ (fun x hx => sQ x (by simp [hx]))]
  by_cases q : (runC K N T B C).1 = 0
  · rw [if_neg (fun r => r q), if_neg (fun r => r q)]
    have := cl_zeros K N T (24 - (X ++ B).length) [] (runC K N T B C).2.1 ([] ++ List.replicate X.length [] ++ (runC K N T B C).2.2)
    rw [List.append_nil] at this
    rw [this, q]; rfl
  · rw [if_pos q, if_pos q]

/-- From the coins of one block one comes to those of another one, if there are such; else Move has an error. -/
theorem move_coins {K : List ByteArray} {N : List Int} {T : List BlkD} {s t : Int} {A : List CoinD} (ha : coinsE K N T s = (0, A)) (ht : t = 0 ∨ t ∈ N) : ∀ B, moveE K N T A s t = (0, B) ↔ coinsE K N T t = (0, B) := by
  obtain ⟨hk, hc, hs, U, hU⟩ := coins_ok ha
  obtain ⟨X, P, Q, hP, hQ, hd⟩ := parts (Tr.upD_coh N T (fnd s N T).2.1.toNat (fnd t N T).2.1.toNat s t)
  have hP : pthD N T s = X ++ P := hP
  have hQ : pthD N T t = X ++ Q := hQ
  have hU2 := hU
  rw [hP] at hU2
  obtain ⟨C, V, W, h1, h2, _⟩ := runC_app X P [] A U hU2
  have hm := move_parts hk hc hs ht hP hQ hd h1 h2
  intro B
  rw [hm]
  constructor
  · intro e
    injection e with e1 e2
    rw [if_neg (fun q => q e1)] at e2
    refine coins_mk (U := V ++ (runC K N T Q C).2.2) hk hc ht ?_
    rw [hQ]
    exact runC_join X Q [] C B V _ h1 (Prod.ext e1 (Prod.ext e2 rfl))
  · intro e
    obtain ⟨_, _, _, Y, hY⟩ := coins_ok e
    rw [hQ] at hY
    obtain ⟨C2, V2, W2, h3, h4, _⟩ := runC_app X Q [] B Y hY
    rw [h1] at h3
    injection h3 with _ h3
    injection h3 with h3 _
    subst h3
    rw [h4, if_neg (fun q => q rfl)]
theorem move_name {K : List ByteArray} {N : List Int} {T : List BlkD} {s t : Int} {A B : List CoinD} (h : moveE K N T A s t = (0, B)) : t = 0 ∨ t ∈ N := by
  unfold moveE at h
  split at h
  · rename_i q; injection h with h _; exact absurd h q
  split at h
  · rename_i q; injection h with h _; exact absurd h q
  split at h
  · rename_i q; injection h with h _; exact absurd h q
  rename_i q
  exact (Tr.pathE_ok (Decidable.not_not.1 q)).2.1

/-- The law ChainWays. -/
theorem ways {K : List ByteArray} {N : List Int} {T : List BlkD} {a b c : Int} {L X Y : List CoinD} (h : coinsE K N T a = (0, L)) (hx : moveE K N T L a b = (0, X)) (hy : moveE K N T L a c = (0, Y)) : moveE K N T Y c b = (0, X) := by
  have hb := move_name hx
  have hc := move_name hy
  exact (move_coins ((move_coins h hc Y).1 hy) hb X).2 ((move_coins h hb X).1 hx)
/-- The law ChainMoves. -/
theorem moves {K : List ByteArray} {N : List Int} {T : List BlkD} {a b : Int} {A B : List CoinD} (h : coinsE K N T a = (0, A)) (hb : coinsE K N T b = (0, B)) : moveE K N T A a b = (0, B) :=
  (move_coins h (coins_ok hb).2.2.1 B).2 hb

/-! Depths. -/
def depthE (N : List Int) (T : List BlkD) (s t : Int) : Int × Int :=
  if (pathE N T t).2 ≠ 0 then (0, (pathE N T t).2) else if Tr.idxI s (pathE N T t).1 0 < 0 then (0, 5) else (((pathE N T t).1.length : Int) - 1 - Tr.idxI s (pathE N T t).1 0, 0)
theorem idx_at : ∀ (L : List Int) (s : Int) (k : Nat), (Tr.idxI s L k = -1) ∨ ∃ i, Tr.idxI s L k = (k + i : Nat) ∧ L[i]? = some s
  | [], _, _ => .inl rfl
  | a :: L, s, k => by
    by_cases e : s = a
    · exact .inr ⟨0, by simp [Tr.idxI, e], by simp [e]⟩
    · rcases idx_at L s (k + 1) with h | ⟨i, h1, h2⟩
      · exact .inl (by simp [Tr.idxI, e, h])
      · exact .inr ⟨i + 1, by simp [Tr.idxI, e, h1]; omega, by simpa using h2⟩
end Go.Proofs.YtmomfkikogbdeaaGreatDoor

/- The contract of rowOf: a path as a row of 24. -/
namespace Go.Proofs.YtmomfkikogbdeaaGreatDoor
open Go.RowKit

def rowV (R : List Int) : List Value := R.map (Value.int .i64)
theorem rowV_len (R : List Int) : (rowV R).length = R.length := by simp [rowV]
theorem rowD_len {P : List Int} (h : P.length ≤ 24) : (rowD P).length = 24 := by simp [rowD]; omega
theorem rowV_one (R : List Int) : (rowV R).toArray.all (·.oneCell') = true := by
  rw [Array.all_eq_true_iff_forall_mem]
  intro v hv
  simp [rowV] at hv
  obtain ⟨x, _, rfl⟩ := hv
  rfl
theorem Tryz.infoRow : (Tryz.prog.info? 129).map (·.size) = some 24 := by kernel_rfl
theorem row_info {R : List Int} (h : R.length = 24) : (Tryz.prog.info? 129).map (·.size) = some (rowV R).toArray.size := by rw [Tryz.infoRow]; simp [rowV, h]
theorem zero24 : (#[.int .i64 0, .int .i64 0, .int .i64 0, .int .i64 0, .int .i64 0, .int .i64 0, .int .i64 0, .int .i64 0, .int .i64 0, .int .i64 0, .int .i64 0, .int .i64 0, .int .i64 0, .int .i64 0, .int .i64 0, .int .i64 0, .int .i64 0, .int .i64 0, .int .i64 0, .int .i64 0, .int .i64 0, .int .i64 0, .int .i64 0, .int .i64 0] : Array Value) = (rowV (List.replicate 24 0)).toArray := by kernel_rfl
theorem laid_row {P : List Int} : laid (rowV (List.replicate 24 0)) 0 (rowV P) = rowV (rowD P) := by
  have e : rowV (List.replicate 24 0) = List.replicate 24 (.int .i64 0) := by unfold rowV; rw [List.map_replicate]
  have e2 : rowV (rowD P) = rowV P ++ List.replicate (24 - P.length) (.int .i64 0) := by unfold rowV rowD; rw [List.map_append, List.map_replicate]
  rw [e, e2]
  have hl := rowV_len P
  generalize rowV P = L at hl
  unfold laid
  rw [List.take_zero, List.nil_append, Nat.zero_add, List.drop_replicate, hl]

set_option maxRecDepth 10000 in
set_option maxHeartbeats 3200000 in
theorem rowOf_is (a b : Option Addr) (n c m d : Nat) (N : List Int) (T : List BlkD) (s : Int) (P : List Int) (x : Int) (w : World) (hN : Tr.IntsAt w a n N) (hT : Tr.BlksAt w b m T) (sN : SlOk a n c) (sT : SlOk b m d) (hx : Tr.pathE N T s = (P, x)) (hP : P.length ≤ 24) :
    Calls Tryz.prog 60 #[.agg #[.slice a n c, .slice b m d], .int .i64 s] w fun e w' => e = .returned (.tuple #[.agg (rowV (rowD P)).toArray, .int .i64 x]) ∧ Below w.heap.size w w' := by
  obtain ⟨X, hX⟩ : ∃ X, X = (w.alloc (.cells #[.slice a n c, .slice b m d] 28)).alloc (.cells #[.int .i64 0, .int .i64 0, .int .i64 0, .int .i64 0, .int .i64 0, .int .i64 0, .int .i64 0, .int .i64 0, .int .i64 0, .int .i64 0, .int .i64 0, .int .i64 0, .int .i64 0, .int .i64 0, .int .i64 0, .int .i64 0, .int .i64 0, .int .i64 0, .int .i64 0, .int .i64 0, .int .i64 0, .int .i64 0, .int .i64 0, .int .i64 0] 129) := ⟨_, rfl⟩
  have hbX : Below w.heap.size w X := by rw [hX]; exact bel_on (bel_new _ _) (bel_new _ _)
  have hX0 : X.heap[w.heap.size]? = some (.cells [.slice a n c, .slice b m d].toArray 28 (0, 0)) := by rw [hX, Below.heap_alloc _ _ _ (by simp)]; exact Tr.two_heap _ _ _ _
  have hX1 : X.heap[w.heap.size + 1]? = some (.cells (rowV (List.replicate 24 0)).toArray 129 (0, 0)) := by
    rw [hX, zero24]
    have := heap_alloc_new (w.alloc (.cells #[.slice a n c, .slice b m d] 28)) (.cells (rowV (List.replicate 24 0)).toArray 129)
    rw [show (w.alloc (.cells #[.slice a n c, .slice b m d] 28)).heap.size = w.heap.size + 1 by simp] at this
    exact this
  obtain ⟨pn, hpn⟩ : ∃ pn, P.length = pn := ⟨_, rfl⟩
  have C1 := hide (Tr.path_is a b n c m d N T s P pn x X (hN.later hbX) (hT.later hbX) sN sT hx hpn)
  have x0 := cell_of hX0 0 _ rfl
  have x1 := cell_of hX0 1 _ rfl
  have xl := lt_of_block hX0
  have HBX := hide hbX
  have HX1 := hide hX1
  have HPN := hide hpn
  clear hN hT sN sT hx hbX hX0 hX1 hpn
  go_enter Tryz.func60, Tryz.ntmps60
  go_wp2_with fail
  rw [← hX]
  clear hX
  (try go_wp2_with fail)
  refine (unhide C1).mono ?_
  rintro e w1 ⟨v, rfl, ho, hb1⟩
  obtain ⟨pa, pc, rfl, sP, hPI⟩ := Tr.ints_of_own ho
  obtain ⟨Y, hY⟩ : ∃ Y, Y = w1.alloc (.cells #[.int .i64 0, .int .i64 0, .int .i64 0, .int .i64 0, .int .i64 0, .int .i64 0, .int .i64 0, .int .i64 0, .int .i64 0, .int .i64 0, .int .i64 0, .int .i64 0, .int .i64 0, .int .i64 0, .int .i64 0, .int .i64 0, .int .i64 0, .int .i64 0, .int .i64 0, .int .i64 0, .int .i64 0, .int .i64 0, .int .i64 0, .int .i64 0] 129) := ⟨_, rfl⟩
  have hbY : Below w1.heap.size w1 Y := by rw [hY]; exact bel_new _ _
  have hYr : Y.heap[w1.heap.size]? = some (.cells (rowV (List.replicate 24 0)).toArray 129 (0, 0)) := by rw [hY, zero24]; exact heap_alloc_new _ _
  have hPY := hPI.later hbY
  have hlen := unhide HPN
  have CP : Hid ((Builtin.copy_ #[25, 25] 3 #[.slice (some ⟨w1.heap.size, 0, none⟩) 24 24, .slice pa pn pc]).run Tryz.prog Y = .ok (.int .i64 pn) (Y.setRow w1.heap.size (rowV (rowD P)).toArray)) := by
    show _ = _
    rcases Nat.eq_zero_or_pos pn with q | q
    · subst q
      have hP0 : P = [] := List.length_eq_zero_iff.1 hlen
      subst hP0
      have e : Y.setRow w1.heap.size (rowV (rowD [])).toArray = Y := setRow_self _ _ _ _ _ hYr
      rw [e]
      cases pa with
      | none => rfl
      | some ad =>
        have := run_copy_wide (P := Tryz.prog) Y 25 25 3 3 w1.heap.size 0 24 24 ad 0 pc 1 (rowV (List.replicate 24 0)).toArray 129 [] Tryz.underlying25 (by kernel_rfl) hYr (by simp) (fun j u hj => by simp at hj) (by simp) (fun u hu => by cases hu)
        rw [this]
        have e2 : laid (rowV (List.replicate 24 0)).toArray.toList 0 [] = rowV (rowD []) := laid_row (P := [])
        rw [e2, e]
        rfl
    · obtain ⟨pb, po, rfl, _, hc⟩ := hPY.2 q
      have hmin : Nat.min pn 24 = pn := Nat.min_eq_left (by omega)
      have := run_copy_wide (P := Tryz.prog) Y 25 25 3 3 w1.heap.size 0 24 24 ⟨pb, po, none⟩ pn pc 1 (rowV (List.replicate 24 0)).toArray 129 (rowV P) Tryz.underlying25 (by kernel_rfl) hYr (by rw [rowV_len, hlen, hmin]; omega) (fun j u hj => by
        rw [rowV, List.getElem?_map] at hj
        cases hq : P[j]? with
        | none => rw [hq] at hj; cases hj
        | some z =>
          rw [hq] at hj
          cases hj
          obtain ⟨h1, h2⟩ := List.getElem?_eq_some_iff.1 hq
          have := hc j h1
          rw [h2] at this
          rw [show (⟨pb, po, none⟩ : Addr).add j = ⟨pb, po + j, none⟩ from Addr.add_mid _ _ _]
          exact this) (by simp [rowV]; omega) (fun u hu => by simp [rowV] at hu; obtain ⟨z, _, rfl⟩ := hu; rfl)
      rw [this]
      have e2 : laid (rowV (List.replicate 24 0)).toArray.toList 0 (rowV P) = rowV (rowD P) := laid_row
      rw [e2, hmin]
      rfl
  have HB1 := hide (bel_on (unhide HBX) (bel_on hb1 hbY))
  have hl1 := lt_of_block (unhide HX1)
  have hs1 := hb1.size
  have HX1Y := hide ((hbY.block _ (Nat.lt_of_lt_of_le hl1 hs1)).trans ((hb1.block _ hl1).trans (unhide HX1)))
  have HYR := hide hYr
  obtain ⟨Z, hZ⟩ : ∃ Z, Z = Y.setRow w1.heap.size (rowV (rowD P)).toArray := ⟨_, rfl⟩
  have hZr : Z.heap[w1.heap.size]? = some (.cells (rowV (rowD P)).toArray 129 (0, 0)) := by rw [hZ]; exact setRow_heap _ _ _ _ _ _ hYr
  have hZ1 : Z.heap[w.heap.size + 1]? = some (.cells (rowV (List.replicate 24 0)).toArray 129 (0, 0)) := by
    rw [hZ, setRow_other _ _ _ _ (by omega)]; exact unhide HX1Y
  have hbZ : Below w.heap.size w Z := by rw [hZ]; exact below_setRow (unhide HB1) (by omega) _
  rw [← hZ] at CP
  have HZR := hide hZr
  have HZ1 := hide hZ1
  have HBZ := hide hbZ
  have hR := row_info (rowD_len hP)
  have hR2 : ((rowV (List.replicate 24 0)).toArray : Array Value).size = (rowV (rowD P)).toArray.size := by simp [rowV, rowD_len hP]
  obtain ⟨R, hRR⟩ : ∃ R, (rowV (rowD P)).toArray = R := ⟨_, rfl⟩
  have hone : R.all (·.oneCell') = true := by rw [← hRR]; exact rowV_one _
  rw [hRR] at HZR hR hR2
  clear ho hPI hPY hb1 hbY hYr hZr hZ1 hbZ hZ hlen HB1 HX1Y HYR C1 HX1 x0 x1
  go_wp2_with fail
  rw [← hY]
  clear hY
  rw [unhide CP]
  go_wp2_with (first | (refine wpList_load_row rfl 129 _ rfl _ rfl _ _ (unhide HZR) _ _ Tryz.underlying129 hR ?_) | (refine wpList_store_row rfl 129 _ _ rfl _ rfl _ _ rfl _ (unhide HZ1) hR hR2 hone ?_))
  (try simp only [Exit.inBlock, Exit.then])
  have hF : (Z.setRow (w.heap.size + 1) R).heap[w.heap.size + 1]? = some (.cells R 129 (0, 0)) := setRow_heap _ _ _ _ _ _ (unhide HZ1)
  have HL := run_loadVar_row (P := Tryz.prog) (Z.setRow (w.heap.size + 1) R) (w.heap.size + 1) 129 129 R (0, 0) _ hF Tryz.underlying129 rfl hR
  refine bodyPost_ret (v := .tuple #[.agg R, .int .i64 x]) ?_ rfl ⟨by rw [hRR], below_setRow (unhide HBZ) (by omega) _⟩
  rw [results_cell_tmp1 rfl]
  simp [asAddr, Result.andThen, HL]

end Go.Proofs.YtmomfkikogbdeaaGreatDoor
