/- Names of texts: what Check, Name and All answer; plain mathematics. -/
import Derived.Test.YtepmnpapdknocaaGreatDoorRows
namespace Go.Proofs.YtepmnpapdknocaaGreatDoor.Bk

/-- The place of a text in a list, from 1 on; 0: it is not there. -/
def place (s : ByteArray) : List ByteArray → Nat
  | [] => 0
  | x :: r => if x = s then 1 else if place s r = 0 then 0 else place s r + 1

theorem place_zero {s : ByteArray} : ∀ {L : List ByteArray}, place s L = 0 ↔ s ∉ L
  | [] => by simp [place]
  | x :: r => by
    unfold place
    have ih := place_zero (s := s) (L := r)
    by_cases h : x = s
    · simp [h]
    · have h' : ¬ s = x := fun e => h e.symm
      rw [if_neg h]
      by_cases hr : place s r = 0
      · rw [if_pos hr]; simp [h', ih.1 hr]
      · rw [if_neg hr]
        have : s ∈ r := by
          rcases Classical.em (s ∈ r) with m | m
          · exact m
          · exact absurd (ih.2 m) hr
        simp [this]
theorem place_le (s : ByteArray) : ∀ L : List ByteArray, place s L ≤ L.length
  | [] => by simp [place]
  | x :: r => by
    unfold place
    have := place_le s r
    split
    · simp
    · split
      · simp
      · simp; exact this
theorem place_append (s : ByteArray) : ∀ (L M : List ByteArray), place s (L ++ M) = if place s L = 0 then (if place s M = 0 then 0 else L.length + place s M) else place s L
  | [], M => by
    have e : place s [] = 0 := rfl
    rw [e, if_pos rfl, List.nil_append]
    by_cases hM : place s M = 0
    · rw [if_pos hM]; exact hM
    · rw [if_neg hM]; simp
  | x :: r, M => by
    have e1 : place s (x :: r) = if x = s then 1 else if place s r = 0 then 0 else place s r + 1 := rfl
    have e2 : place s ((x :: r) ++ M) = if x = s then 1 else if place s (r ++ M) = 0 then 0 else place s (r ++ M) + 1 := rfl
    rw [e2, place_append s r M]
    by_cases hx : x = s
    · rw [if_pos hx] at *
      rw [e1]; simp
    · rw [if_neg hx] at *
      by_cases hr : place s r = 0
      · rw [if_pos hr] at e1
        rw [e1, hr]
        by_cases hM : place s M = 0
        · simp [hM]
        · simp only [hM, if_true, if_false, List.length_cons]
          rw [if_neg (by omega)]; omega
      · rw [if_neg hr] at e1
        rw [e1, if_neg hr, if_neg hr, if_neg (by omega)]
theorem place_snoc {s : ByteArray} {L : List ByteArray} (h : s ∉ L) : place s (L ++ [s]) = L.length + 1 := by
  rw [place_append, if_pos (place_zero.2 h)]; simp [place]
theorem place_other {s t : ByteArray} (L : List ByteArray) (h : s ≠ t) : place s (L ++ [t]) = place s L := by
  rw [place_append]
  have e : place s [t] = 0 := by rw [place_zero]; simp [h]
  rw [e]
  split
  · rw [if_pos rfl]; rename_i e2; exact e2.symm
  · rfl
theorem place_take (s : ByteArray) : ∀ (L : List ByteArray) (k : Nat), place s (L.take k) = if place s L ≤ k then place s L else 0
  | [], k => by simp [place]
  | x :: r, 0 => by
    have e : place s (List.take 0 (x :: r)) = 0 := rfl
    rw [e]; split <;> omega
  | x :: r, k + 1 => by
    have e1 : place s (x :: r) = if x = s then 1 else if place s r = 0 then 0 else place s r + 1 := rfl
    have e2 : place s ((x :: r).take (k + 1)) = if x = s then 1 else if place s (r.take k) = 0 then 0 else place s (r.take k) + 1 := rfl
    rw [e2, place_take s r k]
    by_cases hx : x = s
    · rw [if_pos hx] at *
      rw [e1, if_pos (by omega)]
    · rw [if_neg hx] at *
      by_cases hr : place s r = 0
      · rw [if_pos hr] at e1
        rw [e1, hr]; simp
      · rw [if_neg hr] at e1
        rw [e1]
        by_cases hk : place s r ≤ k
        · rw [if_pos hk, if_neg hr, if_pos (by omega)]
        · rw [if_neg hk, if_pos rfl, if_neg (by omega)]
theorem place_at {L : List ByteArray} {k : Nat} (h : k < L.length) : 0 < place L[k] L ∧ place L[k] L ≤ k + 1 := by
  have h1 : 0 < place L[k] L := by
    rcases Nat.eq_zero_or_pos (place L[k] L) with e | e
    · exact absurd (List.getElem_mem h) (place_zero.1 e)
    · exact e
  refine ⟨h1, ?_⟩
  have h2 := place_take L[k] L (k + 1)
  by_cases h3 : place L[k] L ≤ k + 1
  · exact h3
  · rw [if_neg h3, place_zero] at h2
    exact absurd (List.mem_take_iff_getElem.2 ⟨k, Nat.lt_min.2 ⟨Nat.lt_succ_self k, h⟩, rfl⟩) h2

/-- What Check answers, text by text. -/
def bkGo (seen : List ByteArray) : List ByteArray → Int
  | [] => 0
  | s :: r => if 4000 < s.size then 2 else if place s seen ≠ 0 then 6 else bkGo (seen ++ [s]) r
def bkChk (L : List ByteArray) : Int := if 120 < L.length then 2 else bkGo [] L

theorem bk_at {L : List ByteArray} {k : Nat} (h : k < L.length) : bkGo (L.take k) (L.drop k) = if 4000 < L[k].size then 2 else if place L[k] (L.take k) ≠ 0 then 6 else bkGo (L.take (k + 1)) (L.drop (k + 1)) := by
  rw [List.drop_eq_getElem_cons h, bkGo, List.take_succ_eq_append_getElem h]
theorem bk_end {L : List ByteArray} {k : Nat} (h : L.length ≤ k) : bkGo (L.take k) (L.drop k) = 0 := by
  rw [List.drop_of_length_le h]; rfl

theorem bkGo_zero : ∀ (L seen : List ByteArray), bkGo seen L = 0 → seen.Nodup → (seen ++ L).Nodup ∧ ∀ s ∈ L, s.size ≤ 4000
  | [], seen, _, hs => by simpa using hs
  | s :: r, seen, h, hs => by
    unfold bkGo at h
    by_cases h1 : 4000 < s.size
    · rw [if_pos h1] at h; omega
    · rw [if_neg h1] at h
      by_cases h2 : place s seen ≠ 0
      · rw [if_pos h2] at h; omega
      · rw [if_neg h2] at h
        have h3 : s ∉ seen := place_zero.1 (by omega)
        have hn : (seen ++ [s]).Nodup := by
          rw [List.nodup_append]
          exact ⟨hs, by simp, fun a ha b hb => by simp at hb; subst hb; exact fun e => h3 (e ▸ ha)⟩
        have ih := bkGo_zero r (seen ++ [s]) h hn
        rw [List.append_assoc] at ih
        refine ⟨ih.1, fun x hx => ?_⟩
        rcases List.mem_cons.1 hx with rfl | hx
        · omega
        · exact ih.2 x hx
theorem bkGo_right : ∀ (L seen : List ByteArray), (seen ++ L).Nodup → (∀ s ∈ L, s.size ≤ 4000) → bkGo seen L = 0
  | [], _, _, _ => rfl
  | s :: r, seen, hn, hs => by
    unfold bkGo
    have h1 : ¬ 4000 < s.size := by have := hs s (by simp); omega
    have h2 : s ∉ seen := by
      intro hm
      rw [List.nodup_append] at hn
      exact hn.2.2 s hm s (by simp) rfl
    rw [if_neg h1, if_neg (by rw [place_zero.2 h2]; decide)]
    refine bkGo_right r (seen ++ [s]) (by rw [List.append_assoc]; exact hn) (fun x hx => hs x (by simp [hx]))

/-- A right book. -/
def Right (L : List ByteArray) : Prop := L.length ≤ 120 ∧ L.Nodup ∧ ∀ s ∈ L, s.size ≤ 4000
theorem right_iff (L : List ByteArray) : bkChk L = 0 ↔ Right L := by
  unfold bkChk Right
  by_cases h : 120 < L.length
  · rw [if_pos h]; constructor
    · intro e; omega
    · intro ⟨e, _⟩; omega
  · rw [if_neg h]
    constructor
    · intro e
      have := bkGo_zero L [] e List.nodup_nil
      exact ⟨by omega, this.1, this.2⟩
    · intro ⟨_, h1, h2⟩
      exact bkGo_right L [] h1 h2

/-- What a text's name is, and the book then. -/
def nm (L : List ByteArray) (s : ByteArray) : List ByteArray × Int × Int :=
  if 4000 < s.size then ([], 0, 2) else if place s L ≠ 0 then (L, (place s L : Int), 0) else if 120 ≤ L.length then ([], 0, 12) else (L ++ [s], L.length + 1, 0)
def nmGo (L : List ByteArray) (N : List Int) : List ByteArray → List ByteArray × List Int × Int
  | [] => (L, N, 0)
  | s :: r => if (nm L s).2.2 = 0 then nmGo (nm L s).1 (N ++ [(nm L s).2.1]) r else ([], [], (nm L s).2.2)

theorem nm_right {L : List ByteArray} {s : ByteArray} (h : Right L) (h0 : (nm L s).2.2 = 0) : Right (nm L s).1 := by
  unfold nm at *
  by_cases h1 : 4000 < s.size
  · rw [if_pos h1] at h0; cases h0
  · rw [if_neg h1] at *
    by_cases h2 : place s L ≠ 0
    · rw [if_pos h2] at *; exact h
    · rw [if_neg h2] at *
      by_cases h3 : 120 ≤ L.length
      · rw [if_pos h3] at h0; cases h0
      · rw [if_neg h3] at *
        have h4 : s ∉ L := place_zero.1 (by omega)
        refine ⟨by simp; omega, ?_, fun x hx => ?_⟩
        · rw [List.nodup_append]
          exact ⟨h.2.1, by simp, fun a ha b hb => by simp at hb; subst hb; exact fun e => h4 (e ▸ ha)⟩
        · rcases List.mem_append.1 hx with hx | hx
          · exact h.2.2 x hx
          · simp at hx; subst hx; omega
theorem nm_grows {L : List ByteArray} {s : ByteArray} (h0 : (nm L s).2.2 = 0) : ∃ M, (nm L s).1 = L ++ M := by
  unfold nm at *
  by_cases h1 : 4000 < s.size
  · rw [if_pos h1] at h0; cases h0
  · rw [if_neg h1] at *
    by_cases h2 : place s L ≠ 0
    · rw [if_pos h2]; exact ⟨[], by simp⟩
    · rw [if_neg h2] at *
      by_cases h3 : 120 ≤ L.length
      · rw [if_pos h3] at h0; cases h0
      · rw [if_neg h3]; exact ⟨[s], rfl⟩
/-- The name is the text's place in the book then. -/
theorem nm_place {L : List ByteArray} {s : ByteArray} (h0 : (nm L s).2.2 = 0) : (nm L s).2.1 = (place s (nm L s).1 : Int) ∧ 0 < place s (nm L s).1 ∧ s.size ≤ 4000 := by
  unfold nm at *
  by_cases h1 : 4000 < s.size
  · rw [if_pos h1] at h0; cases h0
  · rw [if_neg h1] at *
    by_cases h2 : place s L ≠ 0
    · rw [if_pos h2]; exact ⟨rfl, by show 0 < place s L; omega, by omega⟩
    · rw [if_neg h2] at *
      by_cases h3 : 120 ≤ L.length
      · rw [if_pos h3] at h0; cases h0
      · rw [if_neg h3]
        have h4 : s ∉ L := place_zero.1 (by omega)
        show (L.length : Int) + 1 = _ ∧ _
        simp only [place_snoc h4]
        exact ⟨by simp, by omega, by omega⟩
theorem nmGo_grows : ∀ (l : List ByteArray) (L : List ByteArray) (N : List Int), (nmGo L N l).2.2 = 0 → ∃ M, (nmGo L N l).1 = L ++ M
  | [], L, N, _ => ⟨[], by simp [nmGo]⟩
  | s :: r, L, N, h => by
    unfold nmGo at *
    by_cases h0 : (nm L s).2.2 = 0
    · rw [if_pos h0] at *
      obtain ⟨M, hM⟩ := nm_grows h0
      obtain ⟨K, hK⟩ := nmGo_grows r _ _ h
      exact ⟨M ++ K, by rw [hK, hM, List.append_assoc]⟩
    · rw [if_neg h0] at *; exact absurd h h0
theorem nmGo_right : ∀ (l : List ByteArray) (L : List ByteArray) (N : List Int), Right L → (nmGo L N l).2.2 = 0 → Right (nmGo L N l).1
  | [], L, N, hR, _ => hR
  | s :: r, L, N, hR, h => by
    unfold nmGo at *
    by_cases h0 : (nm L s).2.2 = 0
    · rw [if_pos h0] at *
      exact nmGo_right r _ _ (nm_right hR h0) h
    · rw [if_neg h0] at *; exact absurd h h0
theorem place_stays {s : ByteArray} {L : List ByteArray} (M : List ByteArray) (h : 0 < place s L) : place s (L ++ M) = place s L := by
  rw [place_append, if_neg (by omega)]
end Go.Proofs.YtepmnpapdknocaaGreatDoor.Bk
