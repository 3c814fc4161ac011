/- The rounds of pdqsort, as mathematics. Nothing of the program. -/
import Derived.Test.YtepmnpapdknocaaGreatDoorSortPtM
namespace Go.Proofs.YtepmnpapdknocaaGreatDoor
open Go.RowKit

variable {α : Type} [Inhabited α] {lt : α → α → Bool} {a b a' b' m pivot : Nat} {d dk d2 d4 d5 d' : Array α}

theorem below_perm (h : Sort.Below lt a b d) (p : Sort.PermIn a b d d') (hb : b ≤ d.size) : Sort.Below lt a b d' := Sort.Below.permA Sort.permIn_all hb h p

/-- What a round hands on. -/
def Ends (lt : α → α → Bool) (a b : Nat) (d : Array α) (a' b' : Nat) (dk : Array α) : Prop :=
  ∀ d', Sort.PermIn a' b' dk d' → Sort.SortedIn lt a' b' d' → Sort.PermIn a b d d' ∧ Sort.SortedIn lt a b d'
theorem Ends.perm (h : Ends lt a b d a' b' dk) (p : Sort.PermIn a' b' dk d2) : Ends lt a b d a' b' d2 := fun d' h1 h2 => h d' (Sort.permIn_trans _ _ _ _ _ p h1) h2
theorem Ends.start (lt : α → α → Bool) (a b : Nat) (d : Array α) : Ends lt a b d a b d := fun _ h1 h2 => ⟨h1, h2⟩
theorem Ends.on (h : Ends lt a b d a' b' dk) {a2 b2 : Nat} (k : Ends lt a' b' dk a2 b2 d2) : Ends lt a b d a2 b2 d2 := fun d' h1 h2 => h d' (k d' h1 h2).1 (k d' h1 h2).2

theorem less_asym {β : Type} {lt : β → β → Bool} (hO : Sort.SWO lt) {x y : β} (h : lt x y = true) : lt y x = false := by
  rw [← Bool.not_eq_true]
  intro k
  have := hO.trans _ _ _ h k
  rw [hO.irrefl] at this
  exact Bool.noConfusion this

theorem eq_step (hO : Sort.SWO lt) (hB : Sort.Below lt a b d) (ha : 0 < a) (hl : lt d[a - 1]! d[pivot]! = false) (h : EqOk lt d a b pivot m d4) (hb : b ≤ d.size) :
    Sort.Below lt m b d4 ∧ Ends lt a b d m b d4 := by
  have hs4 : d4.size = d.size := h.perm.1
  have hlo := h.lo
  have hq : ∀ x, a ≤ x → x < b → lt d4[x]! d[a - 1]! = false := by
    refine Sort.permIn_all d d4 a b (fun v => lt v d[a - 1]! = false) hb h.perm (fun i h1 h2 => ?_)
    rcases hB with q | q
    · omega
    · exact q i h1 h2
  refine ⟨Or.inr fun i h1 h2 => ?_, fun d' h1 h2 => ⟨Sort.permIn_trans _ _ _ _ _ h.perm (Sort.permIn_mono _ _ _ _ _ _ (by omega) (Nat.le_refl _) (by omega) h1), fun i j hi hij hj => ?_⟩⟩
  · rw [← Bool.not_eq_true]
    intro k
    have := hO.trans _ _ _ (h.right i h1 h2) k
    rw [h.left (m - 1) (by omega) (by omega)] at this
    exact Bool.noConfusion this
  · have hr : ∀ x, m ≤ x → x < b → lt d[pivot]! d'[x]! = true := Sort.permIn_all d4 d' m b (fun v => lt d[pivot]! v = true) (by omega) h1 h.right
    have ho : ∀ x, x < m → d'[x]! = d4[x]! := fun x hx => h1.2.1 x (Or.inl hx)
    by_cases hjm : j < m
    · rw [ho j hjm, ho i (by omega)]
      exact hO.ntrans _ _ _ (hO.ntrans _ _ _ (hq j (by omega) hj) hl) (h.left i hi (by omega))
    · by_cases him : i < m
      · rw [ho i him, ← Bool.not_eq_true]
        intro k
        have := hO.trans _ _ _ (hr j (by omega) hj) k
        rw [h.left i hi him] at this
        exact Bool.noConfusion this
      · exact h2 i j (by omega) hij hj

theorem pa_join (hO : Sort.SWO lt) {P : α} (hm : d'[m]! = P) (hl : ∀ x, a ≤ x → x < m → lt d'[x]! P = true) (hr : ∀ x, m < x → x < b → lt d'[x]! P = false) (h1 : Sort.SortedIn lt a m d') (h2 : Sort.SortedIn lt (m + 1) b d') : Sort.SortedIn lt a b d' := by
  intro i j hi hij hj
  by_cases hjm : j < m
  · exact h1 i j hi hij hjm
  · by_cases hje : j = m
    · subst hje
      rw [hm]
      exact less_asym hO (hl i hi hij)
    · by_cases him : i < m
      · exact hO.ntrans _ _ _ (hr j (by omega) hj) (less_asym hO (hl i hi him))
      · by_cases hie : i = m
        · subst hie
          rw [hm]
          exact hr j hij hj
        · exact h2 i j (by omega) hij hj

theorem pa_below (hB : Sort.Below lt a b d) (h : PaOk lt d a b m d4) (hb : b ≤ d.size) : Sort.Below lt a m d4 ∧ Sort.Below lt (m + 1) b d4 := by
  have hh := h.hi
  refine ⟨?_, Or.inr fun i h1 h2 => ?_⟩
  · rcases below_perm hB h.perm hb with q | q
    · exact Or.inl q
    · exact Or.inr fun i h1 h2 => q i h1 (by omega)
  · rw [Nat.add_sub_cancel]
    exact h.right i (by omega) h2

theorem pa_left (hO : Sort.SWO lt) (h : PaOk lt d a b m d4) (hb : b ≤ d.size) (p : Sort.PermIn a m d4 d5) (s : Sort.SortedIn lt a m d5) :
    Sort.Below lt (m + 1) b d5 ∧ Ends lt a b d (m + 1) b d5 := by
  have hlo := h.lo
  have hhi := h.hi
  have hs4 : d4.size = d.size := h.perm.1
  have hs5 : d5.size = d4.size := p.1
  have ho : ∀ x, m ≤ x → d5[x]! = d4[x]! := fun x hx => p.2.1 x (Or.inr hx)
  have hl5 : ∀ x, a ≤ x → x < m → lt d5[x]! d4[m]! = true := Sort.permIn_all d4 d5 a m (fun v => lt v d4[m]! = true) (by omega) p h.left
  refine ⟨Or.inr fun i h1 h2 => ?_, fun d' h1 h2 => ⟨Sort.permIn_trans _ _ _ _ _ (Sort.permIn_trans _ _ _ _ _ h.perm (Sort.permIn_mono _ _ _ _ _ _ (Nat.le_refl _) (by omega) (by omega) p)) (Sort.permIn_mono _ _ _ _ _ _ (by omega) (Nat.le_refl _) (by omega) h1), ?_⟩⟩
  · rw [Nat.add_sub_cancel, ho m (Nat.le_refl _), ho i (by omega)]
    exact h.right i (by omega) h2
  · have ho' : ∀ x, x < m + 1 → d'[x]! = d5[x]! := fun x hx => h1.2.1 x (Or.inl hx)
    refine pa_join hO (P := d4[m]!) (by rw [ho' m (by omega), ho m (Nat.le_refl _)]) (fun x hx1 hx2 => by rw [ho' x (by omega)]; exact hl5 x hx1 hx2) ?_ (fun i j hi hij hj => by rw [ho' i (by omega), ho' j (by omega)]; exact s i j hi hij hj) h2
    have := Sort.permIn_all d5 d' (m + 1) b (fun v => lt v d4[m]! = false) (by omega) h1 (fun i hi1 hi2 => by rw [ho i (by omega)]; exact h.right i (by omega) hi2)
    exact fun x hx1 hx2 => this x (by omega) hx2

theorem pa_right (hO : Sort.SWO lt) (hB : Sort.Below lt a b d) (h : PaOk lt d a b m d4) (hb : b ≤ d.size) (p : Sort.PermIn (m + 1) b d4 d5) (s : Sort.SortedIn lt (m + 1) b d5) :
    Sort.Below lt a m d5 ∧ Ends lt a b d a m d5 := by
  have hlo := h.lo
  have hhi := h.hi
  have hs4 : d4.size = d.size := h.perm.1
  have hs5 : d5.size = d4.size := p.1
  have ho : ∀ x, x < m + 1 → d5[x]! = d4[x]! := fun x hx => p.2.1 x (Or.inl hx)
  have hr5 : ∀ x, m + 1 ≤ x → x < b → lt d5[x]! d4[m]! = false := Sort.permIn_all d4 d5 (m + 1) b (fun v => lt v d4[m]! = false) (by omega) p (fun i h1 h2 => h.right i (by omega) h2)
  refine ⟨?_, fun d' h1 h2 => ⟨Sort.permIn_trans _ _ _ _ _ (Sort.permIn_trans _ _ _ _ _ h.perm (Sort.permIn_mono _ _ _ _ _ _ (by omega) (Nat.le_refl _) (by omega) p)) (Sort.permIn_mono _ _ _ _ _ _ (Nat.le_refl _) (by omega) (by omega) h1), ?_⟩⟩
  · rcases (pa_below hB h hb).1 with q | q
    · exact Or.inl q
    · exact Or.inr fun i h1 h2 => by rw [ho i (by omega), ho (a - 1) (by omega)]; exact q i h1 h2
  · have ho' : ∀ x, m ≤ x → d'[x]! = d5[x]! := fun x hx => h1.2.1 x (Or.inr hx)
    have hl := Sort.permIn_all d5 d' a m (fun v => lt v d4[m]! = true) (by omega) h1 (fun i hi1 hi2 => by rw [ho i (by omega)]; exact h.left i hi1 hi2)
    exact pa_join hO (P := d4[m]!) (by rw [ho' m (Nat.le_refl _), ho m (by omega)]) hl (fun x hx1 hx2 => by rw [ho' x (by omega)]; exact hr5 x (by omega) hx2) h2 (fun i j hi hij hj => by rw [ho' i (by omega), ho' j (by omega)]; exact s i j hi hij hj)

end Go.Proofs.YtepmnpapdknocaaGreatDoor
