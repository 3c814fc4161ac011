/- What a right tree is, and what it is with a block more: mathematics. Nothing of the program. -/
import Derived.Test.YtklekpbladmjhaaTrForkM
import Derived.Test.YtklekpbladmjhaaTrAdd
namespace Go.Proofs.Ytklekpbladmjhaa
open Go.RowKit

theorem nextD_ok {N : List Int} {T : List BlkD} {x : Int} {b : BlkD} (h : nextD N T x b = 0) : (1 ≤ x ∧ x ≤ 120) ∧ chkB b = 0 ∧ x ∉ N ∧ (b.1 = 0 ∨ b.1 ∈ N) ∧ b.2.1 = (fnd b.1 N T).2.1 + 1 := by
  unfold nextD at h
  split at h
  · cases h
  · next q1 =>
    split at h
    · next q2 => exact absurd h q2
    · next q2 =>
      split at h
      · cases h
      · next q3 =>
        split at h
        · cases h
        · next q4 =>
          split at h
          · cases h
          · next q5 =>
            refine ⟨by simpa using q1, Classical.not_not.1 q2, by simpa using q3, ?_, Classical.not_not.1 q5⟩
            by_cases e : b.1 = 0
            · exact .inl e
            · right
              by_cases e2 : b.1 ∈ N
              · exact e2
              · exact absurd ⟨e, by simp [e2]⟩ q4
theorem nextD_mk {N : List Int} {T : List BlkD} {x : Int} {b : BlkD} (h1 : 1 ≤ x ∧ x ≤ 120) (h2 : chkB b = 0) (h3 : x ∉ N) (h4 : b.1 = 0 ∨ b.1 ∈ N) (h5 : b.2.1 = (fnd b.1 N T).2.1 + 1) : nextD N T x b = 0 := by
  unfold nextD
  rw [if_neg (by simp [h1]), if_neg (by simp [h2]), if_neg (by simp [h3]), if_neg (by
    rintro ⟨e, e2⟩
    rcases h4 with h | h
    · exact e h
    · simp [h] at e2), if_neg (by simp [h5])]

theorem fnd_app_l {N M : List Int} {T U : List BlkD} {y : Int} : N.length = T.length → y ∈ N → fnd y (N ++ M) (T ++ U) = fnd y N T := by
  induction N generalizing T with
  | nil => intro _ h; cases h
  | cons a N ih =>
    intro hl h
    cases T with
    | nil => cases hl
    | cons b T =>
      simp only [List.cons_append, fnd]
      by_cases e : y = a
      · simp [e]
      · rw [if_neg e, if_neg e]
        refine ih (by simpa using hl) ?_
        rcases List.mem_cons.1 h with h | h
        · exact absurd h e
        · exact h
theorem fnd_app_r {N M : List Int} {T U : List BlkD} {y : Int} : N.length = T.length → y ∉ N → fnd y (N ++ M) (T ++ U) = fnd y M U := by
  induction N generalizing T with
  | nil =>
    intro hl _
    cases T with
    | nil => rfl
    | cons _ _ => cases hl
  | cons a N ih =>
    intro hl h
    cases T with
    | nil => cases hl
    | cons b T =>
      simp only [List.cons_append, fnd]
      rw [if_neg (fun e => h (by simp [e]))]
      exact ih (by simpa using hl) (fun q => h (by simp [q]))
theorem fnd_one (x : Int) (b : BlkD) : fnd x [x] [b] = b := by simp [fnd]

/-- A right tree. -/
structure TrOk (N : List Int) (T : List BlkD) : Prop where
  len : N.length = T.length
  nd : N.Nodup
  nm : ∀ x ∈ N, 1 ≤ x ∧ x ≤ 120
  par : ∀ x ∈ N, (fnd x N T).1 = 0 ∨ (fnd x N T).1 ∈ N
  hgt : ∀ x ∈ N, (fnd x N T).2.1 = (fnd (fnd x N T).1 N T).2.1 + 1
  chk : ∀ b ∈ T, chkB b = 0
theorem TrOk.nil : TrOk [] [] := ⟨rfl, List.nodup_nil, fun _ h => (by cases h), fun _ h => (by cases h), fun _ h => (by cases h), fun _ h => (by cases h)⟩
theorem TrOk.zero {N : List Int} {T : List BlkD} (h : TrOk N T) : (0 : Int) ∉ N := fun q => by have := (h.nm 0 q).1; omega
theorem TrOk.heads {N : List Int} {T : List BlkD} (h : TrOk N T) : HeadsOk T := fun b hb => chkB_head (h.chk b hb)
/-- Whoever is in the tree, or nothing, is found in the greater one as here. -/
theorem TrOk.same {N : List Int} {T : List BlkD} {x : Int} {b : BlkD} (h : TrOk N T) (hx : 1 ≤ x) {y : Int} (hy : y = 0 ∨ y ∈ N) : fnd y (N ++ [x]) (T ++ [b]) = fnd y N T := by
  by_cases e : y ∈ N
  · exact fnd_app_l h.len e
  · have hy0 : y = 0 := by rcases hy with q | q; exact q; exact absurd q e
    rw [fnd_app_r h.len e, fnd_out h.len e]
    unfold fnd
    rw [if_neg (by omega)]
    unfold fnd
    rfl
theorem TrOk.new {N : List Int} {T : List BlkD} {x : Int} {b : BlkD} (h : TrOk N T) (hx : x ∉ N) : fnd x (N ++ [x]) (T ++ [b]) = b := by
  rw [fnd_app_r h.len hx, fnd_one]
theorem TrOk.add {N : List Int} {T : List BlkD} {x : Int} {b : BlkD} (h : TrOk N T) (hn : nextD N T x b = 0) : TrOk (N ++ [x]) (T ++ [b]) := by
  obtain ⟨h1, h2, h3, h4, h5⟩ := nextD_ok hn
  refine ⟨by simp [h.len], ?_, fun y hy => ?_, fun y hy => ?_, fun y hy => ?_, fun c hc => ?_⟩
  · rw [List.nodup_append]
    exact ⟨h.nd, by simp, fun a ha c hc => by rw [List.mem_singleton.1 hc]; exact fun e => h3 (e ▸ ha)⟩
  · rcases List.mem_append.1 hy with q | q
    · exact h.nm y q
    · rw [List.mem_singleton.1 q]; exact h1
  · rcases List.mem_append.1 hy with q | q
    · rw [h.same h1.1 (.inr q)]
      rcases h.par y q with e | e
      · exact .inl e
      · exact .inr (by simp [e])
    · rw [List.mem_singleton.1 q, h.new h3]
      rcases h4 with e | e
      · exact .inl e
      · exact .inr (by simp [e])
  · rcases List.mem_append.1 hy with q | q
    · rw [h.same h1.1 (.inr q), h.same h1.1 (h.par y q)]
      exact h.hgt y q
    · rw [List.mem_singleton.1 q, h.new h3, h.same h1.1 h4]
      exact h5
  · rcases List.mem_append.1 hc with q | q
    · exact h.chk c q
    · rw [List.mem_singleton.1 q]; exact h2
theorem chkGo_trok : ∀ (M : List Int) (U : List BlkD) (N : List Int) (T : List BlkD), M.length = U.length → TrOk N T → chkGo N T M U = 0 → TrOk (N ++ M) (T ++ U)
  | [], [], N, T, _, h, _ => by simpa using h
  | [], _ :: _, _, _, h, _, _ => by cases h
  | _ :: _, [], _, _, h, _, _ => by cases h
  | x :: M, b :: U, N, T, hl, h, hc => by
    rw [chkGo] at hc
    split at hc
    · next q => exact absurd hc q
    · next q =>
      have := chkGo_trok M U _ _ (by simpa using hl) (h.add (Classical.not_not.1 q)) hc
      simpa using this
theorem TrOk.of {N : List Int} {T : List BlkD} (h : chkTr N T = 0) : TrOk N T := by
  obtain ⟨h1, _, _, h4⟩ := chkTr_ok h
  simpa using chkGo_trok N T [] [] h1 TrOk.nil h4
theorem chkGo_snoc : ∀ (M : List Int) (U : List BlkD) (N : List Int) (T : List BlkD) (x : Int) (b : BlkD), M.length = U.length → chkGo N T M U = 0 → nextD (N ++ M) (T ++ U) x b = 0 → chkGo N T (M ++ [x]) (U ++ [b]) = 0
  | [], [], N, T, x, b, _, _, h => by
    rw [List.append_nil, List.append_nil] at h
    simp [chkGo, h]
  | [], _ :: _, _, _, _, _, h, _, _ => by cases h
  | _ :: _, [], _, _, _, _, h, _, _ => by cases h
  | y :: M, c :: U, N, T, x, b, h, hc, hn => by
    rw [chkGo] at hc
    split at hc
    · next q => exact absurd hc q
    · next q =>
      rw [List.cons_append, List.cons_append, chkGo, if_neg q]
      exact chkGo_snoc M U _ _ x b (by simpa using h) hc (by simpa using hn)
theorem chkTr_snoc {N : List Int} {T : List BlkD} {x : Int} {b : BlkD} (h : chkTr N T = 0) (hn : nextD N T x b = 0) (hl : N.length ≠ 24) : chkTr (N ++ [x]) (T ++ [b]) = 0 := by
  obtain ⟨h1, h2, _, h4⟩ := chkTr_ok h
  unfold chkTr
  rw [if_neg (by simp [h1]), if_neg (by simp; omega)]
  exact chkGo_snoc N T [] [] x b h1 h4 (by simpa using hn)

/-- A set that holds a block's parents with it. -/
theorem TrOk.up {N : List Int} {T : List BlkD} (h : TrOk N T) (y : Int) : (fnd y N T).1 = 0 ∨ (fnd y N T).1 ∈ N := by
  by_cases e : y ∈ N
  · exact h.par y e
  · rw [fnd_out h.len e]; exact .inl rfl
theorem TrOk.upD_same {N : List Int} {T : List BlkD} {x : Int} {b : BlkD} (h : TrOk N T) (hx : 1 ≤ x) : ∀ (d : Nat) (y : Int), (y = 0 ∨ y ∈ N) → upD (N ++ [x]) (T ++ [b]) d y = upD N T d y
  | 0, _, _ => rfl
  | d + 1, y, hy => by
    rw [upD, upD, h.same hx hy, h.upD_same hx d _ (h.up y)]
theorem TrOk.pth_same {N : List Int} {T : List BlkD} {x : Int} {b : BlkD} (h : TrOk N T) (hx : 1 ≤ x) {y : Int} (hy : y = 0 ∨ y ∈ N) : pthD (N ++ [x]) (T ++ [b]) y = pthD N T y := by
  unfold pthD
  rw [h.same hx hy, h.upD_same hx _ y hy]
theorem TrOk.pth_new {N : List Int} {T : List BlkD} {x : Int} {b : BlkD} (h : TrOk N T) (hn : nextD N T x b = 0) : pthD (N ++ [x]) (T ++ [b]) x = pthD N T b.1 ++ [x] := by
  obtain ⟨h1, h2, h3, h4, h5⟩ := nextD_ok hn
  unfold pthD
  have h0 := (fnd_ok h.heads b.1 N).1
  rw [h.new h3, h5, show ((fnd b.1 N T).2.1 + 1).toNat = (fnd b.1 N T).2.1.toNat + 1 by omega, upD, h.new h3, h.upD_same h1.1 _ b.1 h4]
theorem TrOk.up_mem {N : List Int} {T : List BlkD} (h : TrOk N T) : ∀ (d : Nat) (y : Int), (y = 0 ∨ y ∈ N) → ∀ z ∈ upD N T d y, z = 0 ∨ z ∈ N
  | 0, _, _, z, hz => by cases hz
  | d + 1, y, hy, z, hz => by
    rw [upD] at hz
    rcases List.mem_append.1 hz with q | q
    · exact h.up_mem d _ (h.up y) z q
    · rw [List.mem_singleton.1 q]; exact hy
theorem TrOk.wk_same {N : List Int} {T : List BlkD} {x : Int} {b : BlkD} (h : TrOk N T) (hx : 1 ≤ x) : ∀ (P : List Int) (s : Int), (∀ z ∈ P, z = 0 ∨ z ∈ N) → wkGo (N ++ [x]) (T ++ [b]) s P = wkGo N T s P
  | [], _, _ => rfl
  | y :: P, s, hP => by
    rw [wkGo, wkGo, h.same hx (hP y (by simp)), h.wk_same hx P _ (fun z hz => hP z (by simp [hz]))]
theorem wk_app (N : List Int) (T : List BlkD) : ∀ (P Q : List Int) (s : Int), wkGo N T s (P ++ Q) = wkGo N T (wkGo N T s P) Q
  | [], _, _ => rfl
  | y :: P, Q, s => by rw [List.cons_append, wkGo, wkGo, wk_app N T P Q]
theorem TrOk.wrk_same {N : List Int} {T : List BlkD} {x : Int} {b : BlkD} (h : TrOk N T) (hx : 1 ≤ x) {y : Int} (hy : y = 0 ∨ y ∈ N) : wrkD (N ++ [x]) (T ++ [b]) y = wrkD N T y := by
  unfold wrkD
  rw [h.pth_same hx hy]
  exact h.wk_same hx (pthD N T y) 0 (h.up_mem _ y hy)
theorem TrOk.wrk_new {N : List Int} {T : List BlkD} {x : Int} {b : BlkD} (h : TrOk N T) (hn : nextD N T x b = 0) : wrkD (N ++ [x]) (T ++ [b]) x = wrkD N T b.1 + b.2.2.1 := by
  obtain ⟨h1, h2, h3, h4, h5⟩ := nextD_ok hn
  unfold wrkD
  rw [h.pth_new hn, wk_app, h.wk_same h1.1 (pthD N T b.1) 0 (h.up_mem _ b.1 h4), wkGo, wkGo, h.new h3]

/-- The best one, with its work. -/
def bstQ (N : List Int) (T : List BlkD) (q : Int × Int) (P : List Int) : Int × Int := P.foldl (fun q x => if q.2 < wrkD N T x ∨ wrkD N T x = q.2 ∧ x < q.1 then (x, wrkD N T x) else q) q
theorem bstQ_go (N : List Int) (T : List BlkD) : ∀ (P : List Int) (b m : Int), bstGo N T b m P = (bstQ N T (b, m) P).1
  | [], _, _ => rfl
  | x :: P, b, m => by
    rw [bstGo]
    unfold bstQ
    rw [List.foldl_cons]
    split
    · rw [bstQ_go N T P]; rfl
    · rw [bstQ_go N T P]; rfl
theorem bstQ_wrk (N : List Int) (T : List BlkD) : ∀ (P : List Int) (q : Int × Int), q.2 = wrkD N T q.1 → (bstQ N T q P).2 = wrkD N T (bstQ N T q P).1
  | [], _, h => h
  | x :: P, q, h => by
    unfold bstQ
    rw [List.foldl_cons]
    split
    · exact bstQ_wrk N T P _ rfl
    · exact bstQ_wrk N T P _ h
theorem bstQ_mem (N : List Int) (T : List BlkD) : ∀ (P : List Int) (q : Int × Int), (bstQ N T q P).1 = q.1 ∨ (bstQ N T q P).1 ∈ P
  | [], _ => .inl rfl
  | x :: P, q => by
    unfold bstQ
    rw [List.foldl_cons]
    split
    · rcases bstQ_mem N T P (x, wrkD N T x) with h | h
      · exact .inr (by unfold bstQ at h; rw [h]; simp)
      · exact .inr (by unfold bstQ at h; simp [h])
    · rcases bstQ_mem N T P q with h | h
      · exact .inl h
      · exact .inr (by unfold bstQ at h; simp [h])
theorem bstQ_same {N : List Int} {T : List BlkD} {x : Int} {b : BlkD} (h : TrOk N T) (hx : 1 ≤ x) : ∀ (P : List Int) (q : Int × Int), (∀ z ∈ P, z ∈ N) → bstQ (N ++ [x]) (T ++ [b]) q P = bstQ N T q P
  | [], _, _ => rfl
  | y :: P, q, hP => by
    have e := h.wrk_same (b := b) hx (.inr (hP y (by simp)))
    have r := fun q => bstQ_same (b := b) h hx P q (fun z hz => hP z (by simp [hz]))
    unfold bstQ at r ⊢
    rw [List.foldl_cons, List.foldl_cons, e]
    split
    · exact r _
    · exact r _
theorem TrOk.wrk_zero {N : List Int} {T : List BlkD} (h : TrOk N T) : wrkD N T 0 = 0 := by
  unfold wrkD pthD
  rw [fnd_out h.len h.zero]
  rfl
/-- The best of all is in the tree, or nothing; of a tree with a block more it is that or the new one. -/
theorem best_more {N : List Int} {T : List BlkD} {x : Int} {b : BlkD} (h : TrOk N T) (hn : nextD N T x b = 0) (m n : Int) (hm : bstGo N T 0 0 N = m) (hn' : bstGo (N ++ [x]) (T ++ [b]) 0 0 (N ++ [x]) = n) :
    (m = 0 ∨ m ∈ N) ∧ (n = m ∨ n = x) ∧ (n = 0 ∨ n ∈ N ++ [x]) ∧ wrkD N T m ≤ wrkD (N ++ [x]) (T ++ [b]) n ∧ wrkD (N ++ [x]) (T ++ [b]) x ≤ wrkD (N ++ [x]) (T ++ [b]) n := by
  obtain ⟨h1, h2, h3, h4, h5⟩ := nextD_ok hn
  rw [bstQ_go] at hm hn'
  have e : bstQ (N ++ [x]) (T ++ [b]) (0, 0) (N ++ [x]) = bstQ (N ++ [x]) (T ++ [b]) (bstQ N T (0, 0) N) [x] := by
    have := bstQ_same (b := b) h h1.1 N (0, 0) (fun z hz => hz)
    unfold bstQ at this ⊢
    rw [List.foldl_append, this]
  have hw := bstQ_wrk N T N (0, 0) h.wrk_zero.symm
  have hmem := bstQ_mem N T N (0, 0)
  rw [e] at hn'
  obtain ⟨mm, hq⟩ : ∃ mm, bstQ N T (0, 0) N = (m, mm) := ⟨_, Prod.ext hm rfl⟩
  rw [hq] at hw hmem hn'
  simp only at hw hmem
  have hmS : m = 0 ∨ m ∈ N := hmem
  have hsame := h.wrk_same (b := b) h1.1 hmS
  unfold bstQ at hn'
  rw [List.foldl_cons, List.foldl_nil] at hn'
  simp only at hn'
  split at hn'
  · next q =>
    have : x = n := hn'
    subst this
    refine ⟨hmS, .inr rfl, .inr (by simp), ?_, Int.le_refl _⟩
    rw [hw] at q
    omega
  · next q =>
    have : m = n := hn'
    subst this
    refine ⟨hmS, .inl rfl, ?_, by rw [hsame]; exact Int.le_refl _, ?_⟩
    · rcases hmS with q | q
      · exact .inl q
      · exact .inr (by simp [q])
    · rw [hsame]
      rw [hw] at q
      omega

end Go.Proofs.Ytklekpbladmjhaa
