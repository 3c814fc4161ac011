/- What two scans and an exchange do to a row. Nothing of the program. -/
import Derived.Test.YtepmnpapdknocaaGreatDoorSortBase
namespace Go.Proofs.YtepmnpapdknocaaGreatDoor
open Go.RowKit

/-- Left of i all are q, right of j none is; the first is as it was. -/
structure Pt {α : Type} [Inhabited α] (q : α → Bool) (a b : Nat) (d1 : Array α) (i j : Nat) (dk : Array α) : Prop where
  perm : Sort.PermIn (a + 1) b d1 dk
  left : ∀ x, a < x → x < i → q dk[x]! = true
  right : ∀ x, j < x → x < b → q dk[x]! = false

variable {α : Type} [Inhabited α] {q : α → Bool} {a b : Nat} {d1 : Array α} {i j : Nat} {dk : Array α}
theorem Pt.start (q : α → Bool) (a b : Nat) (d1 : Array α) (j : Nat) (hj : b ≤ j + 1) : Pt q a b d1 (a + 1) j d1 :=
  ⟨Sort.permIn_refl _ _ _, fun x h1 h2 => by omega, fun x h1 h2 => by omega⟩
theorem Pt.piv (h : Pt q a b d1 i j dk) : dk[a]! = d1[a]! := h.perm.2.1 a (Or.inl (by omega))
theorem Pt.up (h : Pt q a b d1 i j dk) (hq : q dk[i]! = true) : Pt q a b d1 (i + 1) j dk :=
  ⟨h.perm, fun x h1 h2 => by
    by_cases e : x = i
    · rw [e]; exact hq
    · exact h.left x h1 (by omega), h.right⟩
theorem Pt.down (h : Pt q a b d1 i j dk) (hq : q dk[j]! = false) : Pt q a b d1 i (j - 1) dk :=
  ⟨h.perm, h.left, fun x h1 h2 => by
    by_cases e : x = j
    · rw [e]; exact hq
    · exact h.right x (by omega) h2⟩
theorem Pt.swap (h : Pt q a b d1 i j dk) (hai : a < i) (hij : i < j) (hjb : j < b) (hb : b ≤ d1.size) (hi : q dk[i]! = false) (hj : q dk[j]! = true) : Pt q a b d1 (i + 1) (j - 1) (Sort.swp dk i j) := by
  have hs : dk.size = d1.size := h.perm.1
  have g := Sort.swp_get dk (show i < dk.size by omega) (show j < dk.size by omega)
  refine ⟨Sort.permIn_trans _ _ _ _ _ h.perm (Sort.swp_permIn dk (a + 1) b i j (by omega) (by omega) (by omega) hjb (by omega)), fun x h1 h2 => ?_, fun x h1 h2 => ?_⟩
  · by_cases e : x = i
    · subst e
      rw [Sort.swp_left dk x j (by omega) (by omega)]
      exact hj
    · rw [Sort.swp_other dk i j x e (by omega)]
      exact h.left x h1 (by omega)
  · by_cases e : x = j
    · subst e
      rw [Sort.swp_right dk i x (by omega)]
      exact hi
    · rw [Sort.swp_other dk i j x (by omega) e]
      exact h.right x (by omega) h2

theorem swp_head (d : Array α) (a p : Nat) (ha : a < d.size) (hp : p < d.size) : (Sort.swp d a p)[a]! = d[p]! := by
  by_cases e : a = p
  · subst e
    exact Sort.swp_right d a a ha
  · exact Sort.swp_left d a p ha e

/-- What partitionEqual answers. -/
structure EqOk (lt : α → α → Bool) (d : Array α) (a b pivot m : Nat) (d' : Array α) : Prop where
  lo : a < m
  hi : m ≤ b
  perm : Sort.PermIn a b d d'
  left : ∀ x, a ≤ x → x < m → lt d[pivot]! d'[x]! = false
  right : ∀ x, m ≤ x → x < b → lt d[pivot]! d'[x]! = true

theorem Pt.eqok {lt : α → α → Bool} {d : Array α} {pivot : Nat} (hO : Sort.SWO lt) (hpa : a ≤ pivot) (hpb : pivot < b) (hb : b ≤ d.size) (h : Pt (fun x => !lt d[pivot]! x) a b (Sort.swp d a pivot) i j dk) (hai : a < i) (hij : i = j + 1) (hjb : j < b) : EqOk lt d a b pivot i dk := by
  have hp := h.piv
  rw [swp_head d a pivot (by omega) (by omega)] at hp
  refine ⟨hai, by omega, Sort.permIn_trans _ _ _ _ _ (Sort.swp_permIn d a b a pivot (Nat.le_refl _) (by omega) hpa hpb hb) (Sort.permIn_mono _ _ _ _ _ _ (by omega) (Nat.le_refl _) (by rw [Sort.size_swp]; exact hb) h.perm), fun x h1 h2 => ?_, fun x h1 h2 => ?_⟩
  · by_cases e : x = a
    · subst e
      rw [hp]
      exact hO.irrefl _
    · have := h.left x (by omega) h2
      simpa using this
  · have := h.right x (by omega) h2
    simpa using this

/-- What partition answers. -/
structure PaOk (lt : α → α → Bool) (d : Array α) (a b m : Nat) (d' : Array α) : Prop where
  lo : a ≤ m
  hi : m < b
  perm : Sort.PermIn a b d d'
  left : ∀ x, a ≤ x → x < m → lt d'[x]! d'[m]! = true
  right : ∀ x, m < x → x < b → lt d'[x]! d'[m]! = false

theorem Pt.paok {lt : α → α → Bool} {d : Array α} {pivot : Nat} (hpa : a ≤ pivot) (hpb : pivot < b) (hb : b ≤ d.size) (h : Pt (fun x => lt x d[pivot]!) a b (Sort.swp d a pivot) i j dk) (hai : a < i) (hij : i = j + 1) (hjb : j < b) : PaOk lt d a b j (Sort.swp dk j a) := by
  have hp := h.piv
  rw [swp_head d a pivot (by omega) (by omega)] at hp
  have hs : dk.size = d.size := by rw [h.perm.1, Sort.size_swp]
  have g := Sort.swp_get dk (show j < dk.size by omega) (show a < dk.size by omega)
  have gj : (Sort.swp dk j a)[j]! = d[pivot]! := by
    by_cases e : j = a
    · subst e
      rw [Sort.swp_right dk j j (by omega)]
      exact hp
    · rw [Sort.swp_left dk j a (by omega) e]
      exact hp
  refine ⟨by omega, hjb, Sort.permIn_trans _ _ _ _ _ (Sort.permIn_trans _ _ _ _ _ (Sort.swp_permIn d a b a pivot (Nat.le_refl _) (by omega) hpa hpb hb) (Sort.permIn_mono _ _ _ _ _ _ (by omega) (Nat.le_refl _) (by rw [Sort.size_swp]; exact hb) h.perm)) (Sort.swp_permIn dk a b j a (by omega) hjb (Nat.le_refl _) (by omega) (by omega)), fun x h1 h2 => ?_, fun x h1 h2 => ?_⟩
  · rw [gj]
    by_cases e : x = a
    · subst e
      rw [Sort.swp_right dk j x (by omega)]
      exact h.left j (by omega) (by omega)
    · rw [Sort.swp_other dk j a x (by omega) e]
      exact h.left x (by omega) (by omega)
  · rw [gj, Sort.swp_other dk j a x (by omega) (by omega)]
    exact h.right x h1 h2

end Go.Proofs.YtepmnpapdknocaaGreatDoor
