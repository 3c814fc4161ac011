/- The walk of the law TreeGrows. -/
import Derived.Test.YtklekpbladmjhaaTrGrowM
import Derived.Test.YtklekpbladmjhaaTrGrown
namespace Go.Proofs.Ytklekpbladmjhaa
open Go.RowKit

theorem addE_ok {N : List Int} {T : List BlkD} {x : Int} {b : BlkD} {N' : List Int} {T' : List BlkD} (h : addE N T x b = (N', T', 0)) : chkTr N T = 0 ∧ nextD N T x b = 0 ∧ N.length ≠ 24 ∧ N' = N ++ [x] ∧ T' = T ++ [b] := by
  unfold addE at h
  split at h
  · next q => exact absurd (congrArg (·.2.2) h) q
  · next q =>
    split at h
    · next q2 => exact absurd (congrArg (·.2.2) h) q2
    · next q2 =>
      split at h
      · next q3 => have := congrArg (·.2.2) h; simp at this
      · next q3 => exact ⟨Classical.not_not.1 q, Classical.not_not.1 q2, q3, (congrArg (·.1) h).symm, (congrArg (·.2.1) h).symm⟩
theorem pathE_mk {N : List Int} {T : List BlkD} {y : Int} (h : chkTr N T = 0) (hy : y = 0 ∨ y ∈ N) : pathE N T y = (pthD N T y, 0) := by
  unfold pathE
  rw [if_neg (by simp [h]), if_neg (by
    rintro ⟨e, e2⟩
    rcases hy with q | q
    · exact e q
    · simp [q] at e2)]
theorem workE_mk {N : List Int} {T : List BlkD} {y : Int} (h : chkTr N T = 0) (hy : y = 0 ∨ y ∈ N) : workE N T y = (wrkD N T y, 0) := by
  unfold workE
  rw [pathE_mk h hy, if_neg (by simp)]
  rfl
theorem bstD_mk {N : List Int} {T : List BlkD} (h : chkTr N T = 0) : bstD N T = (bstGo N T 0 0 N, 0) := by
  unfold bstD
  rw [if_neg (by simp [h])]
theorem wrk_bd {N : List Int} {T : List BlkD} (hH : HeadsOk T) (y : Int) : 0 ≤ wrkD N T y ∧ wrkD N T y ≤ 1000000 := by
  have h1 := wk_bound hH (pthD N T y) 0 (N := N)
  have h2 := pth_len (N := N) hH y
  unfold wrkD
  omega
theorem grow_facts {N : List Int} {T : List BlkD} {x : Int} {b : BlkD} {N' : List Int} {T' : List BlkD} (h : addE N T x b = (N', T', 0)) :
    ∃ m n v u own up P, bstD N T = (m, 0) ∧ bstD N' T' = (n, 0) ∧ workE N T m = (v, 0) ∧ workE N' T' n = (u, 0) ∧ pathE N T b.1 = (P, 0) ∧ pathE N' T' x = (P ++ [x], 0) ∧ workE N' T' x = (own, 0) ∧ workE N T b.1 = (up, 0) ∧
      v ≤ u ∧ own ≤ u ∧ own = up + b.2.2.1 ∧ (n = m ∨ n = x) ∧ 0 ≤ up ∧ up ≤ 1000000 ∧ 1 ≤ b.2.2.1 ∧ b.2.2.1 ≤ 1000 ∧ P.length ≤ 1000 ∧ N'.take N.length = N ∧ N'.length = N.length + 1 := by
  obtain ⟨h1, h2, h3, rfl, rfl⟩ := addE_ok h
  have ok := TrOk.of h1
  obtain ⟨g1, g2, g3, g4, g5⟩ := nextD_ok h2
  have h1' := chkTr_snoc h1 h2 h3
  obtain ⟨f1, f2, f3, f4, f5⟩ := best_more ok h2 _ _ rfl rfl
  have hb := chkB_head g2
  have hw := wrk_bd (N := N) ok.heads b.1
  refine ⟨_, _, _, _, _, _, _, bstD_mk h1, bstD_mk h1', workE_mk h1 f1, workE_mk h1' f3, pathE_mk h1 g4, by rw [pathE_mk h1' (.inr (by simp)), ok.pth_new h2], workE_mk h1' (.inr (by simp)), workE_mk h1 g4, f4, f5, ok.wrk_new h2, f2, hw.1, hw.2, hb.2.2.1, hb.2.2.2, pth_len ok.heads b.1, by simp, by simp⟩

end Go.Proofs.Ytklekpbladmjhaa
