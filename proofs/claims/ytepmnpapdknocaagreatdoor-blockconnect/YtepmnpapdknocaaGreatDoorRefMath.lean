/- An order on a list, in the reference's way: what it takes, what it puts. No program is spoken of. -/
import Derived.Test.YtepmnpapdknocaaGreatDoorLockMath
namespace Go.Proofs.YtepmnpapdknocaaGreatDoor
open Go.RowKit

theorem dropL_snoc (M : List Int) (a : Int) : dropL (M ++ [a]) = some M := by simp [dropL]
theorem topL_snoc (M : List Int) (a : Int) : topL (M ++ [a]) = a := by simp [topL]
theorem dropL_two (M : List Int) (a b : Int) : dropL (M ++ [a, b]) = some (M ++ [a]) := by
  rw [show M ++ [a, b] = (M ++ [a]) ++ [b] by simp]; exact dropL_snoc _ _
theorem topL_two (M : List Int) (a b : Int) : topL (M ++ [a, b]) = b := by
  rw [show M ++ [a, b] = (M ++ [a]) ++ [b] by simp]; exact topL_snoc _ _

theorem step_push (h n : Int) (L : List Int) : stepL h 1 n L = putsL L [n] := by simp [stepL, putsL]
theorem step_height (h n : Int) (L : List Int) : stepL h 12 n L = putsL L [h] := by simp [stepL, putsL]
theorem step_dup (h n : Int) (M : List Int) (a : Int) : stepL h 2 n (M ++ [a]) = putsL M [a, a] := by
  simp [stepL, putsL, dropL_snoc, topL_snoc]
theorem step_drop (h n : Int) (M : List Int) (a : Int) : stepL h 4 n (M ++ [a]) = some M := by simp [stepL, dropL_snoc]
theorem step_not (h n : Int) (M : List Int) (a : Int) : stepL h 9 n (M ++ [a]) = putsL M [b01 (a == 0)] := by
  simp [stepL, putsL, dropL_snoc, topL_snoc, g1]
theorem step_mix (h n : Int) (M : List Int) (a : Int) : stepL h 13 n (M ++ [a]) = putsL M [mixOf a] := by
  simp [stepL, putsL, dropL_snoc, topL_snoc, g1]
theorem step_verify (h n : Int) (M : List Int) (a : Int) : stepL h 11 n (M ++ [a]) = if a = 0 then none else some M := by
  simp [stepL, dropL_snoc, topL_snoc]
theorem step_swap (h n : Int) (M : List Int) (a b : Int) : stepL h 3 n (M ++ [a, b]) = putsL M [b, a] := by
  simp [stepL, putsL, dropL_two, topL_two, dropL_snoc, topL_snoc]
theorem step_add (h n : Int) (M : List Int) (a b : Int) : stepL h 5 n (M ++ [a, b]) = putsL M [a + b] := by
  simp [stepL, putsL, dropL_two, topL_two, dropL_snoc, topL_snoc, g2]
theorem step_sub (h n : Int) (M : List Int) (a b : Int) : stepL h 6 n (M ++ [a, b]) = putsL M [a - b] := by
  simp [stepL, putsL, dropL_two, topL_two, dropL_snoc, topL_snoc, g2]
theorem step_same (h n : Int) (M : List Int) (a b : Int) : stepL h 7 n (M ++ [a, b]) = putsL M [b01 (a == b)] := by
  simp [stepL, putsL, dropL_two, topL_two, dropL_snoc, topL_snoc, g2]
theorem step_less (h n : Int) (M : List Int) (a b : Int) : stepL h 8 n (M ++ [a, b]) = putsL M [b01 (decide (a < b))] := by
  simp [stepL, putsL, dropL_two, topL_two, dropL_snoc, topL_snoc, g2]
theorem step_and (h n : Int) (M : List Int) (a b : Int) : stepL h 10 n (M ++ [a, b]) = putsL M [b01 (a != 0 && b != 0)] := by
  simp [stepL, putsL, dropL_two, topL_two, dropL_snoc, topL_snoc, g2]

theorem dropL_nil : dropL [] = none := rfl
theorem step_nil (h k n : Int) (hk : k ≠ 1) (hk' : k ≠ 12) : stepL h k n [] = none := by
  simp [stepL, dropL_nil, hk, hk']
theorem step_one (h k n a : Int) (hk : k = 3 ∨ k = 5 ∨ k = 6 ∨ k = 7 ∨ k = 8 ∨ k = 10) : stepL h k n [a] = none := by
  have e : dropL [a] = some [] := rfl
  rcases hk with rfl | rfl | rfl | rfl | rfl | rfl <;> simp [stepL, e, dropL_nil]

/-- A list parted at its end. -/
theorem part_one {L : List Int} (h : 1 ≤ L.length) : ∃ M a, L = M ++ [a] := by
  have hn : L ≠ [] := fun e => by subst e; simp at h
  exact ⟨L.dropLast, L.getLast hn, (List.dropLast_concat_getLast hn).symm⟩
theorem part_two {L : List Int} (h : 2 ≤ L.length) : ∃ M a b, L = M ++ [a, b] := by
  obtain ⟨M, b, rfl⟩ := part_one (L := L) (by omega)
  obtain ⟨N, a, rfl⟩ := part_one (L := M) (by simp at h; omega)
  exact ⟨N, a, b, by simp⟩

theorem puts1_yes {M : List Int} {x : Int} (h1 : M.length < 16) (h2 : fit x = true) : putsL M [x] = some (M ++ [x]) := by
  have : ¬ M.length = 16 := by omega
  simp [putsL, putL, this, h2]
theorem puts1_full {M : List Int} {x : Int} {r : List Int} (h1 : M.length = 16) : putsL M (x :: r) = none := by simp [putsL, putL, h1]
theorem puts1_unfit {M : List Int} {x : Int} {r : List Int} (h2 : fit x = false) : putsL M (x :: r) = none := by simp [putsL, putL, h2]
theorem puts2_is {M : List Int} {x y : Int} (h1 : M.length < 16) (h2 : fit x = true) : putsL M [x, y] = putsL (M ++ [x]) [y] := by
  have : ¬ M.length = 16 := by omega
  simp [putsL, putL, this, h2]

theorem stack_parts {L : List Int} (h : stackOk L = true) : L.length ≤ 16 ∧ ∀ x ∈ L, fit x = true := by
  simpa [stackOk] using h

end Go.Proofs.YtepmnpapdknocaaGreatDoor
