/- Mathematics of the law TreePaths: paths step by step, work summed over all names, the best of sorted names, where paths part. -/
import Derived.Test.YtmomfkikogbdeaaGreatDoorTrBlockToTrOrderM
import Derived.Test.YtmomfkikogbdeaaGreatDoorBlkConMToLockFlat
import Derived.Test.YtmomfkikogbdeaaGreatDoorBlkNamesToBlkTurns
import Derived.Test.YtmomfkikogbdeaaGreatDoorTxStateToTrMem
import Derived.Test.YtmomfkikogbdeaaGreatDoorCoinFactsToCoinApplyB
import Derived.Test.YtmomfkikogbdeaaGreatDoorCoinCopyBToChnKit
import Derived.Test.YtmomfkikogbdeaaGreatDoorTrBestToTrStep
namespace Go.Proofs.YtmomfkikogbdeaaGreatDoor.Tr
open Go.RowKit

theorem TrOk.pth_step {N : List Int} {T : List BlkD} (h : TrOk N T) {x : Int} (hx : x ∈ N) : pthD N T x = pthD N T (fnd x N T).1 ++ [x] := by
  have e := h.hgt x hx
  have h0 := (fnd_ok h.heads (fnd x N T).1 N).1
  unfold pthD
  rw [show (fnd x N T).2.1.toNat = (fnd (fnd x N T).1 N T).2.1.toNat + 1 by omega]
  rfl
theorem pth_length (N : List Int) (T : List BlkD) (x : Int) : (pthD N T x).length = (fnd x N T).2.1.toNat := upD_len _ _ _ _
/-- Each place of a path is the height of the block there. -/
theorem TrOk.pth_at {N : List Int} {T : List BlkD} (h : TrOk N T) : ∀ (d : Nat) (x : Int), (x = 0 ∨ x ∈ N) → (fnd x N T).2.1.toNat = d → ∀ (i : Nat) (z : Int), (pthD N T x)[i]? = some z → z ∈ N ∧ (fnd z N T).2.1 = i + 1 := by
  intro d
  induction d with
  | zero =>
    intro x _ hd i z hz
    have hl := pth_length N T x
    have := (List.getElem?_eq_some_iff.1 hz).1
    omega
  | succ d ih =>
    intro x hx hd i z hz
    have hxN : x ∈ N := by
      rcases hx with rfl | hx
      · rw [fnd_out h.len h.zero] at hd
        simp [zeroB] at hd
      · exact hx
    have e := h.hgt x hxN
    have h0 := (fnd_ok h.heads (fnd x N T).1 N).1
    have hl := pth_length N T (fnd x N T).1
    rw [h.pth_step hxN, List.getElem?_append] at hz
    split at hz
    · exact ih _ (h.par x hxN) (by omega) i z hz
    · next q =>
      obtain ⟨hlt, hz⟩ := List.getElem?_eq_some_iff.1 hz
      simp only [List.length_cons, List.length_nil] at hlt
      have hi : i = (pthD N T (fnd x N T).1).length := by omega
      have hzx : x = z := by simpa using hz
      subst hzx
      exact ⟨hxN, by omega⟩
theorem TrOk.pth_in {N : List Int} {T : List BlkD} (h : TrOk N T) {x : Int} (hx : x = 0 ∨ x ∈ N) {i : Nat} {z : Int} (hz : (pthD N T x)[i]? = some z) : z ∈ N ∧ (fnd z N T).2.1 = i + 1 := h.pth_at _ x hx rfl i z hz
theorem TrOk.pth_nd {N : List Int} {T : List BlkD} (h : TrOk N T) {x : Int} (hx : x = 0 ∨ x ∈ N) : (pthD N T x).Nodup := by
  rw [List.nodup_iff_pairwise_ne, List.pairwise_iff_getElem]
  intro i j hi hj hij e
  have h1 := (h.pth_in hx (List.getElem?_eq_getElem hi)).2
  have h2 := (h.pth_in hx (List.getElem?_eq_getElem hj)).2
  rw [e] at h1
  omega
theorem TrOk.pth_sub {N : List Int} {T : List BlkD} (h : TrOk N T) {x : Int} (hx : x = 0 ∨ x ∈ N) : ∀ z ∈ pthD N T x, z ∈ N := by
  intro z hz
  obtain ⟨i, hi, rfl⟩ := List.getElem_of_mem hz
  exact (h.pth_in hx (List.getElem?_eq_getElem hi)).1

/-! Work: summed over all names that are on a path. -/
/-! The best one: of sorted names the first of those that have most. -/
def srt (N : List Int) : List Int := N.mergeSort fun x y => decide (x ≤ y)
/-! Where two paths part: the last one of the first that is on the other. -/
end Go.Proofs.YtmomfkikogbdeaaGreatDoor.Tr

/- Coins behind blocks, moves from one block to another one: mathematics. -/
namespace Go.Proofs.YtmomfkikogbdeaaGreatDoor
open Tr (fnd chkTr pthD pathE blockE TrOk)

/-- Blocks connected one after the other: the coins then, what undoes each. -/
def runC (K : List ByteArray) (N : List Int) (T : List BlkD) : List Int → List CoinD → Int × List CoinD × List (List (List CoinD))
  | [], C => (0, C, [])
  | x :: R, C => if (conD K C (fnd x N T)).1 ≠ 0 then ((conD K C (fnd x N T)).1, [], []) else
      if (runC K N T R (conD K C (fnd x N T)).2.1).1 ≠ 0 then ((runC K N T R (conD K C (fnd x N T)).2.1).1, [], []) else
      (0, (runC K N T R (conD K C (fnd x N T)).2.1).2.1, (conD K C (fnd x N T)).2.2 :: (runC K N T R (conD K C (fnd x N T)).2.1).2.2)

theorem runC_cons {K : List ByteArray} {N : List Int} {T : List BlkD} {x : Int} {R : List Int} {C M : List CoinD} {U : List (List (List CoinD))} (h : runC K N T (x :: R) C = (0, M, U)) :
    ∃ C' S V, conD K C (fnd x N T) = (0, C', S) ∧ runC K N T R C' = (0, M, V) ∧ U = S :: V := by
  rw [runC] at h
  split at h
  · rename_i q; injection h with h _; exact absurd h q
  rename_i q
  split at h
  · rename_i q; injection h with h _; exact absurd h q
  rename_i q2
  injection h with h1 h2
  injection h2 with h2 h3
  refine ⟨_, _, _, Prod.ext (Decidable.not_not.1 q) rfl, Prod.ext (Decidable.not_not.1 q2) (Prod.ext h2 rfl), h3.symm⟩
theorem runC_mk {K : List ByteArray} {N : List Int} {T : List BlkD} {x : Int} {R : List Int} {C C' M : List CoinD} {S : List (List CoinD)} {V : List (List (List CoinD))} (h1 : conD K C (fnd x N T) = (0, C', S)) (h2 : runC K N T R C' = (0, M, V)) : runC K N T (x :: R) C = (0, M, S :: V) := by
  rw [runC, h1, if_neg (fun q => q rfl), h2, if_neg (fun q => q rfl)]
theorem runC_app {K : List ByteArray} {N : List Int} {T : List BlkD} : ∀ (P Q : List Int) (C M : List CoinD) (U : List (List (List CoinD))), runC K N T (P ++ Q) C = (0, M, U) → ∃ C' V W, runC K N T P C = (0, C', V) ∧ runC K N T Q C' = (0, M, W) ∧ U = V ++ W
  | [], _, C, _, U, h => ⟨C, [], U, rfl, h, rfl⟩
  | x :: P, Q, C, M, U, h => by
    obtain ⟨C1, S, V1, h1, h2, rfl⟩ := runC_cons (R := P ++ Q) h
    obtain ⟨C', V, W, h3, h4, rfl⟩ := runC_app P Q C1 M V1 h2
    exact ⟨C', S :: V, W, runC_mk h1 h3, h4, rfl⟩
/-- A row of names climbed: 0 stands for none. What undoes each lies at its place. -/
def clGo (K : List ByteArray) (N : List Int) (T : List BlkD) : List Int → List CoinD → List (List (List CoinD)) → Int × List CoinD × List (List (List CoinD))
  | [], C, U => (0, C, U)
  | x :: R, C, U => if x = 0 then clGo K N T R C (U ++ [[]]) else
      if (blockE N T x).2 ≠ 0 then ((blockE N T x).2, [], []) else
      if (conD K C (blockE N T x).1).1 ≠ 0 then ((conD K C (blockE N T x).1).1, [], []) else
      clGo K N T R (conD K C (blockE N T x).1).2.1 (U ++ [(conD K C (blockE N T x).1).2.2])
theorem block_in {N : List Int} {T : List BlkD} {x : Int} (hc : chkTr N T = 0) (hx : x ∈ N) : blockE N T x = (fnd x N T, 0) := by
  unfold Tr.blockE
  rw [if_neg (fun q => q hc), if_pos (by simpa using hx)]
theorem cl_zeros (K : List ByteArray) (N : List Int) (T : List BlkD) : ∀ (z : Nat) (R : List Int) (C : List CoinD) (U : List (List (List CoinD))), clGo K N T (List.replicate z 0 ++ R) C U = clGo K N T R C (U ++ List.replicate z [])
  | 0, R, C, U => by simp
  | z + 1, R, C, U => by
    rw [List.replicate_succ, List.cons_append, clGo, if_pos rfl, cl_zeros K N T z, List.replicate_succ, List.append_assoc]; rfl
/-- Names of a tree climbed. -/
theorem cl_names {K : List ByteArray} {N : List Int} {T : List BlkD} (hc : chkTr N T = 0) : ∀ (P R : List Int) (C : List CoinD) (U : List (List (List CoinD))), (∀ x ∈ P, x ∈ N) →
    clGo K N T (P ++ R) C U = if (runC K N T P C).1 ≠ 0 then ((runC K N T P C).1, [], []) else clGo K N T R (runC K N T P C).2.1 (U ++ (runC K N T P C).2.2)
  | [], R, C, U, _ => by simp [runC]
  | x :: P, R, C, U, h => by
    have hx := h x (by simp)
    have h0 : x ≠ 0 := fun q => (TrOk.of hc).zero (q ▸ hx)
    rw [List.cons_append, clGo, if_neg h0, block_in hc hx, if_neg (fun q => q rfl)]
    by_cases q : (conD K C (fnd x N T)).1 = 0
    · rw [if_neg (fun r => r q), cl_names hc P R _ _ (fun y hy => h y (by simp [hy]))]
      by_cases q2 : (runC K N T P (conD K C (fnd x N T)).2.1).1 = 0
      · have e : runC K N T (x :: P) C = (0, (runC K N T P (conD K C (fnd x N T)).2.1).2.1, (conD K C (fnd x N T)).2.2 :: (runC K N T P (conD K C (fnd x N T)).2.1).2.2) := by rw [runC, if_neg (fun r => r q), if_neg (fun r => r q2)]
        rw [if_neg (fun r => r q2), e, if_neg (fun r => r rfl), List.append_assoc]; rfl
      · have e : runC K N T (x :: P) C = ((runC K N T P (conD K C (fnd x N T)).2.1).1, [], []) := by rw [runC, if_neg (fun r => r q), if_pos q2]
        rw [if_pos q2, e, if_pos q2]
    · have e : runC K N T (x :: P) C = ((conD K C (fnd x N T)).1, [], []) := by rw [runC, if_pos q]
      rw [if_pos q, e, if_pos q]

/-- The path of a block, as a row of 24. -/
def rowD (P : List Int) : List Int := P ++ List.replicate (24 - P.length) 0
def coinsE (K : List ByteArray) (N : List Int) (T : List BlkD) (s : Int) : Int × List CoinD :=
  if Bk.bkChk K ≠ 0 then (Bk.bkChk K, []) else if (pathE N T s).2 ≠ 0 then ((pathE N T s).2, []) else ((clGo K N T (rowD (pathE N T s).1) [] []).1, (clGo K N T (rowD (pathE N T s).1) [] []).2.1)
theorem cl_row {K : List ByteArray} {N : List Int} {T : List BlkD} (hc : chkTr N T = 0) (P : List Int) (C : List CoinD) (h : ∀ x ∈ P, x ∈ N) :
    clGo K N T (rowD P) C [] = if (runC K N T P C).1 ≠ 0 then ((runC K N T P C).1, [], []) else (0, (runC K N T P C).2.1, (runC K N T P C).2.2 ++ List.replicate (24 - P.length) []) := by
  unfold rowD
  rw [cl_names hc P _ C [] h]
  have := cl_zeros K N T (24 - P.length) [] (runC K N T P C).2.1 ([] ++ (runC K N T P C).2.2)
  rw [List.append_nil] at this
  rw [this]
  rfl
theorem coins_ok {K : List ByteArray} {N : List Int} {T : List BlkD} {s : Int} {A : List CoinD} (h : coinsE K N T s = (0, A)) : Bk.bkChk K = 0 ∧ chkTr N T = 0 ∧ (s = 0 ∨ s ∈ N) ∧ ∃ U, runC K N T (pthD N T s) [] = (0, A, U) := by
  unfold coinsE at h
  split at h
  · rename_i q; injection h with h _; exact absurd h q
  rename_i q1
  split at h
  · rename_i q; injection h with h _; exact absurd h q
  rename_i q2
  obtain ⟨hc, hs, hp⟩ := Tr.pathE_ok (Decidable.not_not.1 q2)
  refine ⟨Decidable.not_not.1 q1, hc, hs, ?_⟩
  rw [hp, cl_row hc _ _ ((TrOk.of hc).pth_sub hs)] at h
  split at h
  · rename_i q; injection h with h _; exact absurd h q
  rename_i q3
  injection h with _ h
  exact ⟨_, Prod.ext (Decidable.not_not.1 q3) (Prod.ext h rfl)⟩
theorem path_mk {N : List Int} {T : List BlkD} {s : Int} (hc : chkTr N T = 0) (hs : s = 0 ∨ s ∈ N) : pathE N T s = (pthD N T s, 0) := by
  unfold Tr.pathE
  rw [if_neg (fun q => q hc), if_neg]
  rintro ⟨h1, h2⟩
  rcases hs with h | h
  · exact h1 h
  · simp [h] at h2
theorem coins_mk {K : List ByteArray} {N : List Int} {T : List BlkD} {s : Int} {A : List CoinD} {U : List (List (List CoinD))} (hk : Bk.bkChk K = 0) (hc : chkTr N T = 0) (hs : s = 0 ∨ s ∈ N) (h : runC K N T (pthD N T s) [] = (0, A, U)) : coinsE K N T s = (0, A) := by
  unfold coinsE
  rw [if_neg (fun q => q hk), path_mk hc hs, if_neg (fun q => q rfl), cl_row hc _ _ ((TrOk.of hc).pth_sub hs), h, if_neg (fun q => q rfl)]

/-! Two rows apart. -/
/-- Paths are at most 24 long, and part once. -/
theorem pth_24 {N : List Int} {T : List BlkD} {s : Int} (hc : chkTr N T = 0) (hs : s = 0 ∨ s ∈ N) : (pthD N T s).length ≤ 24 := by
  have h := TrOk.of hc
  have h1 := Tr.nd_len (pthD N T s) N (h.pth_nd hs) (h.pth_sub hs)
  have h2 : N.length ≤ 24 := by
    unfold Tr.chkTr at hc
    split at hc
    · cases hc
    split at hc
    · cases hc
    omega
  omega
theorem parts {P Q : List Int} (hc : Tr.Coh P Q) : ∃ X A B, P = X ++ A ∧ Q = X ++ B ∧ ∀ i, i < A.length → i < B.length → A.getD i 0 ≠ B.getD i 0 := by
  have key : ∀ (P Q X : List Int), Tr.Coh (X ++ P) (X ++ Q) → ∃ Y A B, P = Y ++ A ∧ Q = Y ++ B ∧ ∀ i, i < A.length → i < B.length → A.getD i 0 ≠ B.getD i 0 := by
    intro P
    induction P with
    | nil => intro Q X _; exact ⟨[], [], Q, rfl, rfl, fun i h => absurd h (by simp)⟩
    | cons x P ih =>
      intro Q X hc
      cases Q with
      | nil => exact ⟨[], x :: P, [], rfl, rfl, fun i _ h => absurd h (by simp)⟩
      | cons y Q =>
        by_cases e : x = y
        · subst e
          obtain ⟨Y, A, B, h1, h2, h3⟩ := ih Q (X ++ [x]) (by simpa using hc)
          exact ⟨x :: Y, A, B, by rw [h1]; rfl, by rw [h2]; rfl, h3⟩
        · refine ⟨[], x :: P, y :: Q, rfl, rfl, fun i h1 h2 q => ?_⟩
          have := hc (X.length + i) (by simp at h1 ⊢; omega) (by simp at h2 ⊢; omega) (by
            simp only [List.getD_eq_getElem?_getD] at q ⊢
            rw [List.getElem?_append_right (by omega), List.getElem?_append_right (by omega), Nat.add_sub_cancel_left]
            exact q)
          have h4 := congrArg (fun l : List Int => l[X.length]?) this
          rw [List.getElem?_take_of_lt (by omega), List.getElem?_take_of_lt (by omega), List.getElem?_append_right (by omega), List.getElem?_append_right (by omega)] at h4
          simp at h4
          exact e h4
  exact key P Q [] hc
theorem getD_app_l {α : Type} (X Y : List α) (i : Nat) (d : α) (h : i < X.length) : (X ++ Y).getD i d = X.getD i d := by
  simp only [List.getD_eq_getElem?_getD]
  rw [List.getElem?_append_left h]
/-! Depths. -/
def depthE (N : List Int) (T : List BlkD) (s t : Int) : Int × Int :=
  if (pathE N T t).2 ≠ 0 then (0, (pathE N T t).2) else if Tr.idxI s (pathE N T t).1 0 < 0 then (0, 5) else (((pathE N T t).1.length : Int) - 1 - Tr.idxI s (pathE N T t).1 0, 0)
/-- Behind a block are the coins that Connect makes of those behind its parent. -/
theorem coins_up {K : List ByteArray} {N : List Int} {T : List BlkD} {t : Int} {A : List CoinD} (h : coinsE K N T t = (0, A)) (ht : t ∈ N) : ∃ C S, coinsE K N T (fnd t N T).1 = (0, C) ∧ conD K C (fnd t N T) = (0, A, S) := by
  obtain ⟨hk, hc, _, U, hU⟩ := coins_ok h
  have hT := TrOk.of hc
  rw [hT.pth_step ht] at hU
  obtain ⟨C, V, W, h1, h2, _⟩ := runC_app _ _ [] A U hU
  obtain ⟨C', S, V', h3, h4, _⟩ := runC_cons h2
  injection h4 with _ h4
  injection h4 with h4 _
  subst h4
  exact ⟨C, S, coins_mk hk hc (hT.up t) h1, h3⟩
theorem idx_at : ∀ (L : List Int) (s : Int) (k : Nat), (Tr.idxI s L k = -1) ∨ ∃ i, Tr.idxI s L k = (k + i : Nat) ∧ L[i]? = some s
  | [], _, _ => .inl rfl
  | a :: L, s, k => by
    by_cases e : s = a
    · exact .inr ⟨0, by simp [Tr.idxI, e], by simp [e]⟩
    · rcases idx_at L s (k + 1) with h | ⟨i, h1, h2⟩
      · exact .inl (by simp [Tr.idxI, e, h])
      · exact .inr ⟨i + 1, by simp [Tr.idxI, e, h1]; omega, by simpa using h2⟩
theorem depth_is {N : List Int} {T : List BlkD} {s t : Int} (hc : chkTr N T = 0) (ht : t ∈ N) : depthE N T s t = (0, 5) ∨ (s ∈ N ∧ depthE N T s t = ((fnd t N T).2.1 - (fnd s N T).2.1, 0)) := by
  have hT := TrOk.of hc
  unfold depthE
  rw [path_mk hc (.inr ht), if_neg (fun q => q rfl)]
  simp only
  rcases idx_at (pthD N T t) s 0 with h | ⟨i, h1, h2⟩
  · exact .inl (by rw [h, if_pos (by decide)])
  · obtain ⟨h3, h4⟩ := hT.pth_in (.inr ht) h2
    refine .inr ⟨h3, ?_⟩
    rw [h1, if_neg (by omega), Tr.pth_length, h4]
    have := hT.heads _ (Tr.fnd_in hT.len ht)
    congr 1
    omega

end Go.Proofs.YtmomfkikogbdeaaGreatDoor

/- The contract of rowOf: a path as a row of 24. -/
namespace Go.Proofs.YtmomfkikogbdeaaGreatDoor
open Go.RowKit

def rowV (R : List Int) : List Value := R.map (Value.int .i64)
theorem rowV_len (R : List Int) : (rowV R).length = R.length := by simp [rowV]
theorem rowD_len {P : List Int} (h : P.length ≤ 24) : (rowD P).length = 24 := by simp [rowD]; omega
theorem rowV_one (R : List Int) : (rowV R).toArray.all (·.oneCell') = true := by
  rw [Array.all_eq_true_iff_forall_mem]
  intro v hv
  simp [rowV] at hv
  obtain ⟨x, _, rfl⟩ := hv
  rfl
theorem Tryz.infoRow : (Tryz.prog.info? 129).map (·.size) = some 24 := by kernel_rfl
theorem row_info {R : List Int} (h : R.length = 24) : (Tryz.prog.info? 129).map (·.size) = some (rowV R).toArray.size := by rw [Tryz.infoRow]; simp [rowV, h]
theorem zero24 : (#[.int .i64 0, .int .i64 0, .int .i64 0, .int .i64 0, .int .i64 0, .int .i64 0, .int .i64 0, .int .i64 0, .int .i64 0, .int .i64 0, .int .i64 0, .int .i64 0, .int .i64 0, .int .i64 0, .int .i64 0, .int .i64 0, .int .i64 0, .int .i64 0, .int .i64 0, .int .i64 0, .int .i64 0, .int .i64 0, .int .i64 0, .int .i64 0] : Array Value) = (rowV (List.replicate 24 0)).toArray := by kernel_rfl
theorem laid_row {P : List Int} : laid (rowV (List.replicate 24 0)) 0 (rowV P) = rowV (rowD P) := by
  have e : rowV (List.replicate 24 0) = List.replicate 24 (.int .i64 0) := by unfold rowV; rw [List.map_replicate]
  have e2 : rowV (rowD P) = rowV P ++ List.replicate (24 - P.length) (.int .i64 0) := by unfold rowV rowD; rw [List.map_append, List.map_replicate]
  rw [e, e2]
  have hl := rowV_len P
  generalize rowV P = L at hl
  unfold laid
  rw [List.take_zero, List.nil_append, Nat.zero_add, List.drop_replicate, hl]

set_option maxRecDepth 10000 in
set_option maxHeartbeats 3200000 in
theorem rowOf_is (a b : Option Addr) (n c m d : Nat) (N : List Int) (T : List BlkD) (s : Int) (P : List Int) (x : Int) (w : World) (hN : Tr.IntsAt w a n N) (hT : Tr.BlksAt w b m T) (sN : SlOk a n c) (sT : SlOk b m d) (hx : Tr.pathE N T s = (P, x)) (hP : P.length ≤ 24) :
    Calls Tryz.prog 60 #[.agg #[.slice a n c, .slice b m d], .int .i64 s] w fun e w' => e = .returned (.tuple #[.agg (rowV (rowD P)).toArray, .int .i64 x]) ∧ Below w.heap.size w w' := by
  obtain ⟨X, hX⟩ : ∃ X, X = (w.alloc (.cells #[.slice a n c, .slice b m d] 28)).alloc (.cells #[.int .i64 0, .int .i64 0, .int .i64 0, .int .i64 0, .int .i64 0, .int .i64 0, .int .i64 0, .int .i64 0, .int .i64 0, .int .i64 0, .int .i64 0, .int .i64 0, .int .i64 0, .int .i64 0, .int .i64 0, .int .i64 0, .int .i64 0, .int .i64 0, .int .i64 0, .int .i64 0, .int .i64 0, .int .i64 0, .int .i64 0, .int .i64 0] 129) := ⟨_, rfl⟩
  have hbX : Below w.heap.size w X := by rw [hX]; exact bel_on (bel_new _ _) (bel_new _ _)
  have hX0 : X.heap[w.heap.size]? = some (.cells [.slice a n c, .slice b m d].toArray 28 (0, 0)) := by rw [hX, Below.heap_alloc _ _ _ (by simp)]; exact Tr.two_heap _ _ _ _
  have hX1 : X.heap[w.heap.size + 1]? = some (.cells (rowV (List.replicate 24 0)).toArray 129 (0, 0)) := by
    rw [hX, zero24]
    have := heap_alloc_new (w.alloc (.cells #[.slice a n c, .slice b m d] 28)) (.cells (rowV (List.replicate 24 0)).toArray 129)
    rw [show (w.alloc (.cells #[.slice a n c, .slice b m d] 28)).heap.size = w.heap.size + 1 by simp] at this
    exact this
  obtain ⟨pn, hpn⟩ : ∃ pn, P.length = pn := ⟨_, rfl⟩
  have C1 := hide (Tr.path_is a b n c m d N T s P pn x X (hN.later hbX) (hT.later hbX) sN sT hx hpn)
  have x0 := cell_of hX0 0 _ rfl
  have x1 := cell_of hX0 1 _ rfl
  have xl := lt_of_block hX0
  have HBX := hide hbX
  have HX1 := hide hX1
  have HPN := hide hpn
  clear hN hT sN sT hx hbX hX0 hX1 hpn
  go_enter Tryz.func60, Tryz.ntmps60
  go_wp2_with fail
  rw [← hX]
  clear hX
  (try go_wp2_with fail)
  refine (unhide C1).mono ?_
  rintro e w1 ⟨v, rfl, ho, hb1⟩
  obtain ⟨pa, pc, rfl, sP, hPI⟩ := Tr.ints_of_own ho
  obtain ⟨Y, hY⟩ : ∃ Y, Y = w1.alloc (.cells #[.int .i64 0, .int .i64 0, .int .i64 0, .int .i64 0, .int .i64 0, .int .i64 0, .int .i64 0, .int .i64 0, .int .i64 0, .int .i64 0, .int .i64 0, .int .i64 0, .int .i64 0, .int .i64 0, .int .i64 0, .int .i64 0, .int .i64 0, .int .i64 0, .int .i64 0, .int .i64 0, .int .i64 0, .int .i64 0, .int .i64 0, .int .i64 0] 129) := ⟨_, rfl⟩
  have hbY : Below w1.heap.size w1 Y := by rw [hY]; exact bel_new _ _
  have hYr : Y.heap[w1.heap.size]? = some (.cells (rowV (List.replicate 24 0)).toArray 129 (0, 0)) := by rw [hY, zero24]; exact heap_alloc_new _ _
  have hPY := hPI.later hbY
  have hlen := unhide HPN
  have CP : Hid ((Builtin.copy_ #[25, 25] 3 #[.slice (some ⟨w1.heap.size, 0, none⟩) 24 24, .slice pa pn pc]).run Tryz.prog Y = .ok (.int .i64 pn) (Y.setRow w1.heap.size (rowV (rowD P)).toArray)) := by
    show _ = _
    rcases Nat.eq_zero_or_pos pn with q | q
    · subst q
      have hP0 : P = [] := List.length_eq_zero_iff.1 hlen
      subst hP0
      have e : Y.setRow w1.heap.size (rowV (rowD [])).toArray = Y := setRow_self _ _ _ _ _ hYr
      rw [e]
      cases pa with
      | none => rfl
      | some ad =>
        have := run_copy_wide (P := Tryz.prog) Y 25 25 3 3 w1.heap.size 0 24 24 ad 0 pc 1 (rowV (List.replicate 24 0)).toArray 129 [] Tryz.underlying25 (by kernel_rfl) hYr (by simp) (fun j u hj => by simp at hj) (by simp) (fun u hu => by cases hu)
        rw [this]
        have e2 : laid (rowV (List.replicate 24 0)).toArray.toList 0 [] = rowV (rowD []) := laid_row (P := [])
        rw [e2, e]
        rfl
    · obtain ⟨pb, po, rfl, _, hc⟩ := hPY.2 q
      have hmin : Nat.min pn 24 = pn := Nat.min_eq_left (by omega)
      have := run_copy_wide (P := Tryz.prog) Y 25 25 3 3 w1.heap.size 0 24 24 ⟨pb, po, none⟩ pn pc 1 (rowV (List.replicate 24 0)).toArray 129 (rowV P) Tryz.underlying25 (by kernel_rfl) hYr (by rw [rowV_len, hlen, hmin]; omega) (fun j u hj => by
        rw [rowV, List.getElem?_map] at hj
        cases hq : P[j]? with
        | none => rw [hq] at hj; cases hj
        | some z =>
          rw [hq] at hj
          cases hj
          obtain ⟨h1, h2⟩ := List.getElem?_eq_some_iff.1 hq
          have := hc j h1
          rw [h2] at this
          rw [show (⟨pb, po, none⟩ : Addr).add j = ⟨pb, po + j, none⟩ from Addr.add_mid _ _ _]
          exact this) (by simp [rowV]; omega) (fun u hu => by simp [rowV] at hu; obtain ⟨z, _, rfl⟩ := hu; rfl)
      rw [this]
      have e2 : laid (rowV (List.replicate 24 0)).toArray.toList 0 (rowV P) = rowV (rowD P) := laid_row
      rw [e2, hmin]
      rfl
  have HB1 := hide (bel_on (unhide HBX) (bel_on hb1 hbY))
  have hl1 := lt_of_block (unhide HX1)
  have hs1 := hb1.size
  have HX1Y := hide ((hbY.block _ (Nat.lt_of_lt_of_le hl1 hs1)).trans ((hb1.block _ hl1).trans (unhide HX1)))
  have HYR := hide hYr
  obtain ⟨Z, hZ⟩ : ∃ Z, Z = Y.setRow w1.heap.size (rowV (rowD P)).toArray := ⟨_, rfl⟩
  have hZr : Z.heap[w1.heap.size]? = some (.cells (rowV (rowD P)).toArray 129 (0, 0)) := by rw [hZ]; exact setRow_heap _ _ _ _ _ _ hYr
  have hZ1 : Z.heap[w.heap.size + 1]? = some (.cells (rowV (List.replicate 24 0)).toArray 129 (0, 0)) := by
    rw [hZ, setRow_other _ _ _ _ (by omega)]; exact unhide HX1Y
  have hbZ : Below w.heap.size w Z := by rw [hZ]; exact below_setRow (unhide HB1) (by omega) _
  rw [← hZ] at CP
  have HZR := hide hZr
  have HZ1 := hide hZ1
  have HBZ := hide hbZ
  have hR := row_info (rowD_len hP)
  have hR2 : ((rowV (List.replicate 24 0)).toArray : Array Value).size = (rowV (rowD P)).toArray.size := by simp [rowV, rowD_len hP]
  obtain ⟨R, hRR⟩ : ∃ R, (rowV (rowD P)).toArray = R := ⟨_, rfl⟩
  have hone : R.all (·.oneCell') = true := by rw [← hRR]; exact rowV_one _
  rw [hRR] at HZR hR hR2
  clear ho hPI hPY hb1 hbY hYr hZr hZ1 hbZ hZ hlen HB1 HX1Y HYR C1 HX1 x0 x1
  go_wp2_with fail
  rw [← hY]
  clear hY
  rw [unhide CP]
  go_wp2_with (first | (refine wpList_load_row rfl 129 _ rfl _ rfl _ _ (unhide HZR) _ _ Tryz.underlying129 hR ?_) | (refine wpList_store_row rfl 129 _ _ rfl _ rfl _ _ rfl _ (unhide HZ1) hR hR2 hone ?_))
  (try simp only [Exit.inBlock, Exit.then])
  have hF : (Z.setRow (w.heap.size + 1) R).heap[w.heap.size + 1]? = some (.cells R 129 (0, 0)) := setRow_heap _ _ _ _ _ _ (unhide HZ1)
  have HL := run_loadVar_row (P := Tryz.prog) (Z.setRow (w.heap.size + 1) R) (w.heap.size + 1) 129 129 R (0, 0) _ hF Tryz.underlying129 rfl hR
  refine bodyPost_ret (v := .tuple #[.agg R, .int .i64 x]) ?_ rfl ⟨by rw [hRR], below_setRow (unhide HBZ) (by omega) _⟩
  rw [results_cell_tmp1 rfl]
  simp [asAddr, Result.andThen, HL]

end Go.Proofs.YtmomfkikogbdeaaGreatDoor
