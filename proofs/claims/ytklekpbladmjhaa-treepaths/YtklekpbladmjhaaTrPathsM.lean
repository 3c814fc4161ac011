/- Mathematics of the law TreePaths: paths step by step, work summed over all names, the best of sorted names, where paths part. -/
import Derived.Test.YtklekpbladmjhaaTrOrderM
namespace Go.Proofs.Ytklekpbladmjhaa
open Go.RowKit

theorem TrOk.pth_zero {N : List Int} {T : List BlkD} (h : TrOk N T) : pthD N T 0 = [] := by
  unfold pthD
  rw [fnd_out h.len h.zero]
  rfl
theorem TrOk.pth_step {N : List Int} {T : List BlkD} (h : TrOk N T) {x : Int} (hx : x ∈ N) : pthD N T x = pthD N T (fnd x N T).1 ++ [x] := by
  have e := h.hgt x hx
  have h0 := (fnd_ok h.heads (fnd x N T).1 N).1
  unfold pthD
  rw [show (fnd x N T).2.1.toNat = (fnd (fnd x N T).1 N T).2.1.toNat + 1 by omega]
  rfl
theorem pth_length (N : List Int) (T : List BlkD) (x : Int) : (pthD N T x).length = (fnd x N T).2.1.toNat := upD_len _ _ _ _
/-- Each place of a path is the height of the block there. -/
theorem TrOk.pth_at {N : List Int} {T : List BlkD} (h : TrOk N T) : ∀ (d : Nat) (x : Int), (x = 0 ∨ x ∈ N) → (fnd x N T).2.1.toNat = d → ∀ (i : Nat) (z : Int), (pthD N T x)[i]? = some z → z ∈ N ∧ (fnd z N T).2.1 = i + 1 := by
  intro d
  induction d with
  | zero =>
    intro x _ hd i z hz
    have hl := pth_length N T x
    have := (List.getElem?_eq_some_iff.1 hz).1
    omega
  | succ d ih =>
    intro x hx hd i z hz
    have hxN : x ∈ N := by
      rcases hx with rfl | hx
      · rw [fnd_out h.len h.zero] at hd
        simp [zeroB] at hd
      · exact hx
    have e := h.hgt x hxN
    have h0 := (fnd_ok h.heads (fnd x N T).1 N).1
    have hl := pth_length N T (fnd x N T).1
    rw [h.pth_step hxN, List.getElem?_append] at hz
    split at hz
    · exact ih _ (h.par x hxN) (by omega) i z hz
    · next q =>
      obtain ⟨hlt, hz⟩ := List.getElem?_eq_some_iff.1 hz
      simp only [List.length_cons, List.length_nil] at hlt
      have hi : i = (pthD N T (fnd x N T).1).length := by omega
      have hzx : x = z := by simpa using hz
      subst hzx
      exact ⟨hxN, by omega⟩
theorem TrOk.pth_in {N : List Int} {T : List BlkD} (h : TrOk N T) {x : Int} (hx : x = 0 ∨ x ∈ N) {i : Nat} {z : Int} (hz : (pthD N T x)[i]? = some z) : z ∈ N ∧ (fnd z N T).2.1 = i + 1 := h.pth_at _ x hx rfl i z hz
theorem TrOk.pth_nd {N : List Int} {T : List BlkD} (h : TrOk N T) {x : Int} (hx : x = 0 ∨ x ∈ N) : (pthD N T x).Nodup := by
  rw [List.nodup_iff_pairwise_ne, List.pairwise_iff_getElem]
  intro i j hi hj hij e
  have h1 := (h.pth_in hx (List.getElem?_eq_getElem hi)).2
  have h2 := (h.pth_in hx (List.getElem?_eq_getElem hj)).2
  rw [e] at h1
  omega
theorem TrOk.pth_sub {N : List Int} {T : List BlkD} (h : TrOk N T) {x : Int} (hx : x = 0 ∨ x ∈ N) : ∀ z ∈ pthD N T x, z ∈ N := by
  intro z hz
  obtain ⟨i, hi, rfl⟩ := List.getElem_of_mem hz
  exact (h.pth_in hx (List.getElem?_eq_getElem hi)).1

/-! Work: summed over all names that are on a path. -/
def rwGo (P : List Int) (s : Int) : List Int → List BlkD → Int
  | x :: N, b :: T => rwGo P (if decide (x ∈ P) = true then s + b.2.2.1 else s) N T
  | _, _ => s
theorem rwGo_at (P : List Int) (s : Int) (N : List Int) (T : List BlkD) (k : Nat) (h : k < N.length) (h' : k < T.length) : rwGo P s (N.drop k) (T.drop k) = rwGo P (if decide (N[k] ∈ P) = true then s + T[k].2.2.1 else s) (N.drop (k + 1)) (T.drop (k + 1)) := by
  rw [List.drop_eq_getElem_cons h, List.drop_eq_getElem_cons h']; rfl
theorem rwGo_end (P : List Int) (s : Int) (N : List Int) (T : List BlkD) (k : Nat) (h : N.length ≤ k) : rwGo P s (N.drop k) (T.drop k) = s := by
  rw [List.drop_of_length_le h]; unfold rwGo; rfl
theorem rw_shift (P : List Int) : ∀ (N : List Int) (T : List BlkD) (s t : Int), rwGo P (s + t) N T = rwGo P s N T + t
  | [], _, _, _ => by simp [rwGo]
  | _ :: _, [], _, _ => by simp [rwGo]
  | x :: N, b :: T, s, t => by
    simp only [rwGo]
    split
    · rw [show s + t + b.2.2.1 = s + b.2.2.1 + t by omega]; exact rw_shift P N T _ t
    · exact rw_shift P N T s t
theorem rw_nil : ∀ (N : List Int) (T : List BlkD) (s : Int), rwGo [] s N T = s
  | [], _, _ => by simp [rwGo]
  | _ :: _, [], _ => by simp [rwGo]
  | x :: N, b :: T, s => by
    simp only [rwGo]
    rw [if_neg (by simp)]
    exact rw_nil N T s
theorem rw_skip {x : Int} {Q : List Int} : ∀ (N : List Int) (T : List BlkD) (s : Int), x ∉ N → rwGo (x :: Q) s N T = rwGo Q s N T
  | [], _, _, _ => by simp [rwGo]
  | _ :: _, [], _, _ => by simp [rwGo]
  | a :: N, b :: T, s, h => by
    simp only [List.mem_cons, not_or] at h
    simp only [rwGo]
    rw [show decide (a ∈ x :: Q) = decide (a ∈ Q) by simp [Ne.symm h.1]]
    exact rw_skip N T _ h.2
theorem rw_cons {x : Int} {Q : List Int} : ∀ (N : List Int) (T : List BlkD) (s : Int), N.Nodup → N.length = T.length → x ∈ N → x ∉ Q → rwGo (x :: Q) s N T = rwGo Q s N T + (fnd x N T).2.2.1
  | [], _, _, _, _, h, _ => by cases h
  | _ :: _, [], _, _, h, _, _ => by cases h
  | a :: N, b :: T, s, hd, hl, hx, hq => by
    rw [List.nodup_cons] at hd
    simp only [rwGo, fnd]
    by_cases e : x = a
    · subst e
      rw [if_pos (by simp), if_neg (by simp [hq]), if_pos rfl, rw_skip N T _ hd.1, rw_shift]
    · rw [if_neg e, show decide (a ∈ x :: Q) = decide (a ∈ Q) by simp [Ne.symm e]]
      exact rw_cons N T _ hd.2 (by simpa using hl) (by simpa [e] using hx) hq
theorem rw_work {N : List Int} {T : List BlkD} (hd : N.Nodup) (hl : N.length = T.length) : ∀ (P : List Int) (s : Int), P.Nodup → (∀ z ∈ P, z ∈ N) → rwGo P s N T = wkGo N T s P
  | [], s, _, _ => rw_nil N T s
  | x :: P, s, hn, hs => by
    rw [List.nodup_cons] at hn
    rw [rw_cons N T s hd hl (hs x (by simp)) hn.1, ← rw_shift]
    exact rw_work hd hl P _ hn.2 (fun z hz => hs z (by simp [hz]))
theorem TrOk.rw_wrk {N : List Int} {T : List BlkD} (h : TrOk N T) {x : Int} (hx : x = 0 ∨ x ∈ N) : rwGo (pthD N T x) 0 N T = wrkD N T x := rw_work h.nd h.len _ 0 (h.pth_nd hx) (h.pth_sub hx)
/-! The best one: of sorted names the first of those that have most. -/
def rbGo (W : Int → Int) (b : Int) : List Int → Int
  | [] => b
  | x :: S => rbGo W (if b = 0 ∨ W b < W x then x else b) S
theorem rbGo_at (W : Int → Int) (b : Int) (S : List Int) (k : Nat) (h : k < S.length) : rbGo W b (S.drop k) = rbGo W (if b = 0 ∨ W b < W S[k] then S[k] else b) (S.drop (k + 1)) := by
  rw [List.drop_eq_getElem_cons h]; rfl
theorem rbGo_end (W : Int → Int) (b : Int) (S : List Int) (k : Nat) (h : S.length ≤ k) : rbGo W b (S.drop k) = b := by
  rw [List.drop_of_length_le h]; rfl
def BestIn (W : Int → Int) (D : List Int) (b : Int) : Prop := (D = [] ∧ b = 0) ∨ (b ∈ D ∧ ∀ y ∈ D, W y < W b ∨ W y = W b ∧ b ≤ y)
theorem rb_best (W : Int → Int) : ∀ (S D : List Int) (b : Int), BestIn W D b → S.Pairwise (· ≤ ·) → (∀ d ∈ D, ∀ x ∈ S, d ≤ x) → (∀ d ∈ D, d ≠ 0) → (∀ x ∈ S, x ≠ 0) → BestIn W (D ++ S) (rbGo W b S)
  | [], D, b, h, _, _, _, _ => by simpa [rbGo] using h
  | x :: S, D, b, h, hp, hd, hD, hS => by
    rw [List.pairwise_cons] at hp
    have hx := hS x (by simp)
    have key : BestIn W (D ++ [x]) (if b = 0 ∨ W b < W x then x else b) := by
      rcases h with ⟨rfl, rfl⟩ | ⟨h1, h2⟩
      · rw [if_pos (.inl rfl)]
        exact .inr ⟨by simp, fun y hy => .inr (by simp at hy; subst hy; exact ⟨rfl, Int.le_refl _⟩)⟩
      · have hb := hD b h1
        have hbx := hd b h1 x (by simp)
        by_cases q : W b < W x
        · rw [if_pos (.inr q)]
          refine .inr ⟨by simp, fun y hy => ?_⟩
          rcases List.mem_append.1 hy with hy | hy
          · have := h2 y hy; omega
          · simp at hy; subst hy; exact .inr ⟨rfl, Int.le_refl _⟩
        · rw [if_neg (fun e => e.elim hb q)]
          refine .inr ⟨by simp [h1], fun y hy => ?_⟩
          rcases List.mem_append.1 hy with hy | hy
          · exact h2 y hy
          · simp at hy; subst hy; omega
    have := rb_best W S (D ++ [x]) _ key hp.2 (fun d hd2 y hy => by
        rcases List.mem_append.1 hd2 with q | q
        · exact hd d q y (by simp [hy])
        · simp at q; subst q; exact hp.1 y hy) (fun d hd2 => by
        rcases List.mem_append.1 hd2 with q | q
        · exact hD d q
        · simp at q; subst q; exact hx) (fun y hy => hS y (by simp [hy]))
    rw [List.append_assoc] at this
    exact this
def srt (N : List Int) : List Int := N.mergeSort fun x y => decide (x ≤ y)
theorem srt_perm (N : List Int) : (srt N).Perm N := List.mergeSort_perm _ _
theorem srt_len (N : List Int) : (srt N).length = N.length := (srt_perm N).length_eq
theorem srt_sorted (N : List Int) : (srt N).Pairwise (· ≤ ·) := by
  have := List.pairwise_mergeSort (le := fun x y : Int => decide (x ≤ y)) (fun a b c h1 h2 => by simp at h1 h2 ⊢; omega) (fun a b => by simp; omega) N
  exact this.imp (fun h => by simpa using h)
theorem TrOk.best_rb {N : List Int} {T : List BlkD} (h : TrOk N T) : rbGo (wrkD N T) 0 (srt N) = bstGo N T 0 0 N := by
  have hm : ∀ x, x ∈ srt N ↔ x ∈ N := fun x => (srt_perm N).mem_iff
  have hb := rb_best (wrkD N T) (srt N) [] 0 (.inl ⟨rfl, rfl⟩) (srt_sorted N) (fun d hd => by cases hd) (fun d hd => by cases hd) (fun x hx => by have := (h.nm x ((hm x).1 hx)).1; omega)
  obtain ⟨h1, h2⟩ := best_max h
  simp only [List.nil_append] at hb
  rcases hb with ⟨e, e0⟩ | ⟨b1, b2⟩
  · rw [e0]
    have hl := srt_len N
    rw [e] at hl
    have : N = [] := List.length_eq_zero_iff.1 hl.symm
    subst this
    rfl
  · have r := h2 _ ((hm _).1 b1)
    have hp := h.wrk_pos ((hm _).1 b1)
    rcases h1 with e | e
    · rw [e, h.wrk_zero] at r
      omega
    · have q := b2 _ ((hm _).2 e)
      omega

/-! Where two paths part: the last one of the first that is on the other. -/
def lastGo (Q : List Int) (l : Int) : List Int → Int
  | [] => l
  | x :: P => lastGo Q (if decide (x ∈ Q) = true then x else l) P
theorem lastGo_at (Q : List Int) (l : Int) (P : List Int) (k : Nat) (h : k < P.length) : lastGo Q l (P.drop k) = lastGo Q (if decide (P[k] ∈ Q) = true then P[k] else l) (P.drop (k + 1)) := by
  rw [List.drop_eq_getElem_cons h]; rfl
theorem lastGo_end (Q : List Int) (l : Int) (P : List Int) (k : Nat) (h : P.length ≤ k) : lastGo Q l (P.drop k) = l := by
  rw [List.drop_of_length_le h]; rfl
theorem last_frk {P Q : List Int} (H : ∀ (i j : Nat) (z : Int), P[i]? = some z → Q[j]? = some z → i = j) : ∀ (m k : Nat) (l : Int), P.length - k = m → lastGo Q l (P.drop k) = frkGo l (P.drop k) (Q.drop k) := by
  intro m
  induction m with
  | zero =>
    intro k l hm
    rw [lastGo_end Q l P k (by omega), frkGo_end l P Q k (.inl (by omega))]
  | succ m ih =>
    intro k l hm
    have hk : k < P.length := by omega
    rw [lastGo_at Q l P k hk]
    by_cases hq : k < Q.length
    · rw [frkGo_at l P Q k hk hq, ih (k + 1) _ (by omega)]
      congr 1
      have : decide (P[k] ∈ Q) = decide (P[k] = Q[k]) := by
        rw [decide_eq_decide]
        constructor
        · intro h
          obtain ⟨j, hj, e⟩ := List.getElem_of_mem h
          have := H k j P[k] (List.getElem?_eq_getElem hk) (by rw [List.getElem?_eq_getElem hj, e])
          subst this
          exact e.symm
        · intro h
          rw [h]
          exact List.getElem_mem hq
      rw [this]
      by_cases e : P[k] = Q[k] <;> simp [e]
    · have : decide (P[k] ∈ Q) = false := by
        rw [decide_eq_false_iff_not]
        intro h
        obtain ⟨j, hj, e⟩ := List.getElem_of_mem h
        have := H k j P[k] (List.getElem?_eq_getElem hk) (by rw [List.getElem?_eq_getElem hj, e])
        omega
      rw [this, if_neg (by decide), ih (k + 1) _ (by omega), frkGo_end l P Q k (.inr (by omega)), frkGo_end l P Q (k + 1) (.inr (by omega))]
theorem TrOk.fork_last {N : List Int} {T : List BlkD} (h : TrOk N T) {a b : Int} (ha : a = 0 ∨ a ∈ N) (hb : b = 0 ∨ b ∈ N) : lastGo (pthD N T b) 0 (pthD N T a) = frkGo 0 (pthD N T a) (pthD N T b) := by
  have := last_frk (P := pthD N T a) (Q := pthD N T b) (fun i j z h1 h2 => by
    have e1 := (h.pth_in ha h1).2
    have e2 := (h.pth_in hb h2).2
    omega) _ 0 0 rfl
  simpa using this

end Go.Proofs.Ytklekpbladmjhaa
