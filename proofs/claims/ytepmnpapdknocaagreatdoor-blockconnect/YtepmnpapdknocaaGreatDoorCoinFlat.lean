/- Coins that a call has laid: their cells in a row. -/
import Derived.Test.YtepmnpapdknocaaGreatDoorCoinCheckB
import Derived.Test.YtepmnpapdknocaaGreatDoorRowLaws
namespace Go.Proofs.YtepmnpapdknocaaGreatDoor
open Go.RowKit

/-- A coin with the head of its lock's slice. -/
abbrev CV := CoinD × Option Addr × Nat × Nat
def flatC : List CV → List Value
  | [] => []
  | x :: r => .int .i64 x.1.1 :: .int .i64 x.1.2.1 :: .int .i64 (cv x.1) :: .slice x.2.1 x.2.2.1 x.2.2.2 :: .int .i64 (ch x.1) :: .bool (cr x.1) :: flatC r
theorem flatC_len : ∀ l : List CV, (flatC l).length = l.length * 6
  | [] => rfl
  | _ :: r => by simp only [flatC, List.length_cons, flatC_len r]; omega
theorem flatC_append : ∀ l m : List CV, flatC (l ++ m) = flatC l ++ flatC m
  | [], _ => rfl
  | _ :: r, m => by simp only [List.cons_append, flatC, flatC_append r m]
theorem flatC_at : ∀ (l : List CV) (i : Nat) (h : i < l.length), (flatC l)[i * 6]? = some (.int .i64 (l[i]).1.1) ∧ (flatC l)[i * 6 + 1]? = some (.int .i64 (l[i]).1.2.1) ∧ (flatC l)[i * 6 + 2]? = some (.int .i64 (cv (l[i]).1)) ∧ (flatC l)[i * 6 + 3]? = some (.slice (l[i]).2.1 (l[i]).2.2.1 (l[i]).2.2.2) ∧ (flatC l)[i * 6 + 4]? = some (.int .i64 (ch (l[i]).1)) ∧ (flatC l)[i * 6 + 5]? = some (.bool (cr (l[i]).1))
  | [], _, h => absurd h (by simp)
  | x :: r, 0, _ => ⟨rfl, rfl, rfl, rfl, rfl, rfl⟩
  | x :: r, i + 1, h => by
    have := flatC_at r i (by simpa using h)
    have e : (i + 1) * 6 = i * 6 + 6 := by omega
    rw [e]
    exact this
theorem flatC_one : ∀ (l : List CV) (u : Value), u ∈ flatC l → u.oneCell' = true
  | [], u, h => by cases h
  | x :: r, u, h => by
    simp only [flatC, List.mem_cons] at h
    rcases h with rfl | rfl | rfl | rfl | rfl | rfl | h
    · rfl
    · rfl
    · rfl
    · rfl
    · rfl
    · rfl
    · exact flatC_one r u h
theorem flatC_take : ∀ (l : List CV) (i : Nat), (flatC l).take (i * 6) = flatC (l.take i)
  | [], i => by simp [flatC]
  | x :: r, 0 => by simp [flatC]
  | x :: r, i + 1 => by
    rw [show (i + 1) * 6 = i * 6 + 6 by omega, List.take_succ_cons]
    simp only [flatC, List.take_succ_cons, flatC_take r i]
theorem flatC_drop : ∀ (l : List CV) (i : Nat), (flatC l).drop (i * 6) = flatC (l.drop i)
  | [], i => by simp [flatC]
  | x :: r, 0 => by simp [flatC]
  | x :: r, i + 1 => by
    rw [show (i + 1) * 6 = i * 6 + 6 by omega, List.drop_succ_cons]
    simp only [flatC, List.drop_succ_cons, flatC_drop r i]

/-- A coin's lock lies in memory. -/
def LkAt (w : World) (x : CV) : Prop := OpsAt w x.2.1 x.2.2.1 (ck x.1) ∧ SlOk x.2.1 x.2.2.1 x.2.2.2
theorem LkAt.later {w w' : World} {x : CV} (h : LkAt w x) (hb : Below w.heap.size w w') : LkAt w' x := ⟨h.1.later hb, h.2⟩

/-- What a row of coins that a call has laid is to a reader. -/
theorem coins_of_own {w : World} {base : Nat} {v : Value} {K : List CV} (h : w.ownsRow base 88 6 v K.length (flatC K)) (hl : ∀ x ∈ K, LkAt w x) : ∃ a c, v = .slice a K.length c ∧ CoinsAt w a K.length (K.map (·.1)) ∧ SlOk a K.length c := by
  rcases h.2 with ⟨rfl, hn⟩ | ⟨g, cap, cur, rfl, hg, hh, h1, h2, h3, h4⟩
  · rw [hn]
    have e : K = [] := List.length_eq_zero_iff.1 hn
    subst e
    exact ⟨none, 0, rfl, RowsAt.nil _ _, Nat.le_refl _, Nat.zero_le _, fun _ => ⟨rfl, rfl⟩⟩
  · refine ⟨_, cap, rfl, ⟨by simp, fun _ => ⟨g, 0, rfl, lt_of_block hh, fun i hi => ?_⟩⟩, h1, h2, fun e => by cases e⟩
    rw [List.length_map] at hi
    obtain ⟨f0, f1, f2, f3, f4, f5⟩ := flatC_at K i hi
    rw [List.getElem_map]
    refine ⟨?_, ?_, ?_, ⟨_, _, _, ?_, (hl _ (List.getElem_mem hi)).1, (hl _ (List.getElem_mem hi)).2⟩, ?_, ?_⟩
    all_goals rw [Nat.zero_add, World.ownsRow.cellAt h _ (by omega)]
    · exact f0
    · exact f1
    · exact f2
    · exact f3
    · exact f4
    · exact f5

/-- Coins in memory are coins with heads, and their cells are those. -/
theorem heads_of {w : World} {b off : Nat} : ∀ {L : List CoinD}, (∀ i (h : i < L.length), CoinAt w b (off + i * 6) L[i]) → ∃ K : List CV, K.map (·.1) = L ∧ (∀ x ∈ K, LkAt w x) ∧ ∀ j u, (flatC K)[j]? = some u → w.cell? ⟨b, off + j, none⟩ = some u := by
  intro L h
  have h2 : ∀ k, k ≤ L.length → ∃ K : List CV, K.map (·.1) = L.take k ∧ (∀ x ∈ K, LkAt w x) ∧ ∀ j u, (flatC K)[j]? = some u → w.cell? ⟨b, off + j, none⟩ = some u := by
    intro k
    induction k with
    | zero => intro _; exact ⟨[], by simp, fun x hx => (by cases hx), fun j u hj => by simp [flatC] at hj⟩
    | succ k ih =>
      intro hk
      obtain ⟨K, h1, h2, h3⟩ := ih (by omega)
      obtain ⟨a, n, c, g1, g2, g3, g4, g5, g6, h5, h6⟩ := (h k (by omega)).val
      have hlen : K.length = k := by have := congrArg List.length h1; simpa [Nat.min_eq_left (show k ≤ L.length by omega)] using this
      refine ⟨K ++ [(L[k], a, n, c)], by rw [List.map_append, h1, List.take_succ_eq_append_getElem (by omega)]; rfl, fun x hx => ?_, fun j u hj => ?_⟩
      · rcases List.mem_append.1 hx with hx | hx
        · exact h2 x hx
        · rw [List.mem_singleton.1 hx]; exact ⟨h5, h6⟩
      · rw [flatC_append] at hj
        rcases Nat.lt_or_ge j (k * 6) with q | q
        · rw [List.getElem?_append_left (by rw [flatC_len, hlen]; exact q)] at hj
          exact h3 j u hj
        · rw [List.getElem?_append_right (by rw [flatC_len, hlen]; exact q), flatC_len, hlen] at hj
          obtain ⟨r, rfl⟩ : ∃ r, j = k * 6 + r := ⟨j - k * 6, by omega⟩
          rw [Nat.add_sub_cancel_left] at hj
          rw [show off + (k * 6 + r) = off + k * 6 + r by omega]
          match r, hj with
          | 0, hj => simp only [flatC, List.getElem?_cons_zero, Option.some.injEq] at hj; subst hj; exact g1
          | 1, hj => simp only [flatC, List.getElem?_cons_zero, List.getElem?_cons_succ, Option.some.injEq] at hj; subst hj; exact g2
          | 2, hj => simp only [flatC, List.getElem?_cons_zero, List.getElem?_cons_succ, Option.some.injEq] at hj; subst hj; exact g3
          | 3, hj => simp only [flatC, List.getElem?_cons_zero, List.getElem?_cons_succ, Option.some.injEq] at hj; subst hj; exact g4
          | 4, hj => simp only [flatC, List.getElem?_cons_zero, List.getElem?_cons_succ, Option.some.injEq] at hj; subst hj; exact g5
          | 5, hj => simp only [flatC, List.getElem?_cons_zero, List.getElem?_cons_succ, Option.some.injEq] at hj; subst hj; exact g6
          | r + 6, hj => simp [flatC] at hj
  obtain ⟨K, h1, h3⟩ := h2 L.length (Nat.le_refl _)
  exact ⟨K, by rw [h1, List.take_length], h3⟩

end Go.Proofs.YtepmnpapdknocaaGreatDoor
