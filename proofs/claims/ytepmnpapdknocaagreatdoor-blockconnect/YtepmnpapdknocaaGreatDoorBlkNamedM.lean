/- Mathematics of the law BlockNamed: names stay in a later book; unlike blocks have unlike names. -/
import Derived.Test.YtepmnpapdknocaaGreatDoorBlkNamesB
import Derived.Test.YtepmnpapdknocaaGreatDoorBlkTextM
namespace Go.Proofs.YtepmnpapdknocaaGreatDoor
open Go.RowKit

theorem nmGo_places : ∀ (l L : List ByteArray) (N : List Int) (M : List ByteArray) (N' : List Int), Bk.nmGo L N l = (M, N', 0) → N' = N ++ l.map (fun s => (Bk.place s M : Int)) ∧ ∀ s ∈ l, 0 < Bk.place s M ∧ s.size ≤ 4000
  | [], L, N, M, N', h => by
    unfold Bk.nmGo at h
    injection h with _ h
    injection h with h _
    exact ⟨by simp [h], fun s hs => by cases hs⟩
  | s :: r, L, N, M, N', h => by
    rw [Bk.nmGo] at h
    split at h
    · next q =>
      obtain ⟨p1, p2, p3⟩ := Bk.nm_place q
      obtain ⟨X, hX⟩ := Bk.nmGo_grows r (Bk.nm L s).1 (N ++ [(Bk.nm L s).2.1]) (by rw [h])
      rw [h] at hX
      simp only at hX
      obtain ⟨h1, h2⟩ := nmGo_places r _ _ M N' h
      have e : Bk.place s M = Bk.place s (Bk.nm L s).1 := by rw [hX]; exact Bk.place_stays X p2
      refine ⟨?_, fun z hz => ?_⟩
      · rw [h1, List.append_assoc, p1, ← e]
        rfl
      · rcases List.mem_cons.1 hz with rfl | hz
        · exact ⟨by rw [e]; exact p2, p3⟩
        · exact h2 z hz
    · next q =>
      injection h with _ h
      injection h with _ h
      exact absurd h q
theorem allR_zero {K l X : List ByteArray} {N : List Int} (h : Bk.allR K l = (X, N, 0)) : Bk.Right K ∧ Bk.nmGo K [] l = (X, N, 0) := by
  unfold Bk.allR at h
  split at h
  · next q => exact ⟨(Bk.right_iff K).1 q, h⟩
  · next q =>
    injection h with _ h
    injection h with _ h
    exact absurd h q
theorem allR_right {K l X : List ByteArray} {N : List Int} (h : Bk.allR K l = (X, N, 0)) : Bk.Right X ∧ ∃ M, X = K ++ M := by
  obtain ⟨h1, h2⟩ := allR_zero h
  have r := Bk.nmGo_right l K [] h1 (by rw [h2])
  have g := Bk.nmGo_grows l K [] (by rw [h2])
  rw [h2] at r g
  exact ⟨r, g⟩
theorem nms_zero {K : List ByteArray} {b : BlkD} {X : List ByteArray} {n : Int} {ns : List Int} (h : nmsB K b = (X, n, ns, 0)) : chkB b = 0 ∧ Bk.Right X ∧ (∀ s ∈ txtsOf b, 0 < Bk.place s X ∧ s.size ≤ 4000) ∧ n = (Bk.place (blkText b) X : Int) ∧ ns = b.2.2.2.2.map (fun t => (Bk.place (txText t) X : Int)) ∧ ∃ M, X = K ++ M := by
  unfold nmsB at h
  split at h
  · next q =>
    injection h with _ h
    injection h with _ h
    injection h with _ h
    exact absurd h q
  · next q =>
    split at h
    · next q2 =>
      injection h with _ h
      injection h with _ h
      injection h with _ h
      exact absurd h q2
    · next q2 =>
      obtain ⟨X', N, x, e⟩ : ∃ X' N x, Bk.allR K (txtsOf b) = (X', N, x) := ⟨_, _, _, rfl⟩
      rw [e] at h q2
      obtain rfl : x = 0 := Decidable.not_not.1 q2
      injection h with h1 h
      injection h with h2 h
      injection h with h3 _
      simp only at h1 h2 h3
      subst h1
      obtain ⟨r, g⟩ := allR_right e
      obtain ⟨p1, p2⟩ := nmGo_places _ _ _ _ _ (allR_zero e).2
      rw [List.nil_append] at p1
      refine ⟨Decidable.not_not.1 q, r, p2, ?_, ?_, g⟩
      · rw [← h2, p1]
        simp [txtsOf]
      · rw [← h3, p1]
        simp [txtsOf]
end Go.Proofs.YtepmnpapdknocaaGreatDoor
