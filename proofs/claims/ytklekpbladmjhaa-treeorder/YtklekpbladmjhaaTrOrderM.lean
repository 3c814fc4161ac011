/- Trees of the same blocks, in whatever order they came: mathematics. Nothing of the program. -/
import Derived.Test.YtklekpbladmjhaaTrGrowsW
namespace Go.Proofs.Ytklekpbladmjhaa
open Go.RowKit

theorem nd_len : ∀ (U N : List Int), U.Nodup → (∀ x ∈ U, x ∈ N) → U.length ≤ N.length
  | [], _, _, _ => Nat.zero_le _
  | x :: U, N, h, hs => by
    have hx : x ∈ N := hs x (by simp)
    have hn := List.nodup_cons.1 h
    have h1 := nd_len U (N.erase x) hn.2 (fun y hy => (List.mem_erase_of_ne (fun (e : y = x) => hn.1 (e ▸ hy))).2 (hs y (by simp [hy])))
    rw [List.length_erase_of_mem hx] at h1
    have : 0 < N.length := List.length_pos_of_mem hx
    simp only [List.length_cons]
    omega

theorem chkGo_each : ∀ (M : List Int) (U : List BlkD) (N : List Int) (T : List BlkD), M.length = U.length → chkGo N T M U = 0 → ∀ i (h : i < M.length) (h' : i < U.length), nextD (N ++ M.take i) (T ++ U.take i) M[i] U[i] = 0
  | [], _, _, _, _, _, _, h, _ => absurd h (by simp)
  | _ :: _, [], _, _, h, _, _, _, _ => by cases h
  | x :: M, b :: U, N, T, hl, hc, 0, _, _ => by
    rw [chkGo] at hc
    split at hc
    · next q => exact absurd hc q
    · next q => simpa using Classical.not_not.1 q
  | x :: M, b :: U, N, T, hl, hc, i + 1, h, h' => by
    rw [chkGo] at hc
    split at hc
    · next q => exact absurd hc q
    · next q =>
      have := chkGo_each M U _ _ (by simpa using hl) hc i (by simpa using h) (by simpa using h')
      simpa using this
/-- Each block stands on nothing or on one ahead of it. -/
theorem ahead {N : List Int} {T : List BlkD} (hc : chkTr N T = 0) (i : Nat) (h : i < N.length) (h' : i < T.length) : fnd N[i] N T = T[i] ∧ (T[i].1 = 0 ∨ T[i].1 ∈ N.take i) := by
  obtain ⟨hl, _, _, hgo⟩ := chkTr_ok hc
  have h1 := chkGo_each N T [] [] hl hgo i h h'
  simp only [List.nil_append] at h1
  obtain ⟨_, _, q3, q4, _⟩ := nextD_ok h1
  refine ⟨?_, q4⟩
  have e1 : N = N.take i ++ (N[i] :: N.drop (i + 1)) := by rw [← List.drop_eq_getElem_cons h, List.take_append_drop]
  have e2 : T = T.take i ++ (T[i] :: T.drop (i + 1)) := by rw [← List.drop_eq_getElem_cons h', List.take_append_drop]
  have := fnd_app_r (N := N.take i) (M := N[i] :: N.drop (i + 1)) (T := T.take i) (U := T[i] :: T.drop (i + 1)) (by rw [List.length_take, List.length_take]; omega) q3
  rw [← e1, ← e2] at this
  rw [this]
  simp [fnd]

/-- A right tree of some of the blocks. -/
structure Sub (U : List Int) (V : List BlkD) (N : List Int) (T : List BlkD) : Prop where
  chk : chkTr U V = 0
  mem : ∀ y ∈ U, y ∈ N
  same : ∀ y ∈ U, fnd y U V = fnd y N T
theorem Sub.nil (N : List Int) (T : List BlkD) : Sub [] [] N T := ⟨rfl, fun _ h => (by cases h), fun _ h => (by cases h)⟩
theorem Sub.all {U : List Int} {V : List BlkD} {N : List Int} {T : List BlkD} (h : Sub U V N T) (hc : chkTr N T = 0) {y : Int} (hy : y = 0 ∨ y ∈ U) : fnd y U V = fnd y N T := by
  by_cases e : y ∈ U
  · exact h.same y e
  · have hy0 : y = 0 := by rcases hy with q | q; exact q; exact absurd q e
    subst hy0
    rw [fnd_out (TrOk.of h.chk).len e, fnd_out (TrOk.of hc).len (TrOk.of hc).zero]
theorem Sub.step {U : List Int} {V : List BlkD} {N : List Int} {T : List BlkD} (h : Sub U V N T) (hc : chkTr N T = 0) {k : Nat} (hk : k < N.length) (hk' : k < T.length) {U' : List Int} {V' : List BlkD} (ha : addE U V N[k] T[k] = (U', V', 0)) : Sub U' V' N T ∧ U' = U ++ [N[k]] := by
  obtain ⟨h1, h2, h3, rfl, rfl⟩ := addE_ok ha
  have ok := TrOk.of h1
  obtain ⟨g1, _, g3, _, _⟩ := nextD_ok h2
  refine ⟨⟨chkTr_snoc h1 h2 h3, fun y hy => ?_, fun y hy => ?_⟩, rfl⟩
  · rcases List.mem_append.1 hy with q | q
    · exact h.mem y q
    · rw [List.mem_singleton.1 q]; exact List.getElem_mem hk
  · rcases List.mem_append.1 hy with q | q
    · rw [ok.same g1.1 (.inr q)]; exact h.same y q
    · rw [List.mem_singleton.1 q, ok.new g3, (ahead hc k hk hk').1]
/-- Whose forerunners are all there can be added. -/
theorem Sub.must {U : List Int} {V : List BlkD} {N : List Int} {T : List BlkD} (h : Sub U V N T) (hc : chkTr N T = 0) {i : Nat} (hi : i < N.length) (hi' : i < T.length) (ha : ∀ j (hj : j < N.length), j < i → N[j] ∈ U) (hn : N[i] ∉ U) : ∃ U' V', addE U V N[i] T[i] = (U', V', 0) := by
  have okN := TrOk.of hc
  have okU := TrOk.of h.chk
  obtain ⟨e1, e2⟩ := ahead hc i hi hi'
  have hmem : N[i] ∈ N := List.getElem_mem hi
  have hpar : T[i].1 = 0 ∨ T[i].1 ∈ U := by
    rcases e2 with q | q
    · exact .inl q
    · obtain ⟨j, hj, ej⟩ := List.getElem_of_mem q
      rw [List.length_take] at hj
      rw [List.getElem_take] at ej
      rw [← ej]
      exact .inr (ha j (by omega) (by omega))
  have hh := okN.hgt _ hmem
  rw [e1, ← h.all hc hpar] at hh
  have hnx : nextD U V N[i] T[i] = 0 := nextD_mk (okN.nm _ hmem) (okN.chk _ (List.getElem_mem hi')) hn hpar hh
  have hlen : U.length ≠ 24 := by
    have h1 := nd_len (N[i] :: U) N (List.nodup_cons.2 ⟨hn, okU.nd⟩) (fun x hx => by
      rcases List.mem_cons.1 hx with rfl | hx
      · exact hmem
      · exact h.mem x hx)
    have h2 := (chkTr_ok hc).2.1
    simp only [List.length_cons] at h1
    omega
  refine ⟨U ++ [N[i]], V ++ [T[i]], ?_⟩
  unfold addE
  rw [if_neg (by simp [h.chk]), if_neg (by simp [hnx]), if_neg hlen]
theorem Sub.full {U : List Int} {V : List BlkD} {N : List Int} {T : List BlkD} (h : Sub U V N T) (hc : chkTr N T = 0) (ha : ∀ j (hj : j < N.length), N[j] ∈ U) : U.length = N.length ∧ ∀ y ∈ N, y ∈ U := by
  have hs : ∀ y ∈ N, y ∈ U := fun y hy => by
    obtain ⟨j, hj, rfl⟩ := List.getElem_of_mem hy
    exact ha j hj
  have h1 := nd_len U N (TrOk.of h.chk).nd h.mem
  have h2 := nd_len N U (TrOk.of hc).nd hs
  exact ⟨by omega, hs⟩

theorem Sub.up {U : List Int} {V : List BlkD} {N : List Int} {T : List BlkD} (h : Sub U V N T) (hc : chkTr N T = 0) : ∀ (d : Nat) (y : Int), (y = 0 ∨ y ∈ U) → upD U V d y = upD N T d y
  | 0, _, _ => rfl
  | d + 1, y, hy => by
    rw [upD, upD, ← h.all hc hy, h.up hc d _ ((TrOk.of h.chk).up y)]
theorem Sub.pth {U : List Int} {V : List BlkD} {N : List Int} {T : List BlkD} (h : Sub U V N T) (hc : chkTr N T = 0) {y : Int} (hy : y = 0 ∨ y ∈ U) : pthD U V y = pthD N T y := by
  unfold pthD
  rw [h.all hc hy, h.up hc _ y hy]
theorem Sub.wk {U : List Int} {V : List BlkD} {N : List Int} {T : List BlkD} (h : Sub U V N T) (hc : chkTr N T = 0) : ∀ (P : List Int) (s : Int), (∀ z ∈ P, z = 0 ∨ z ∈ U) → wkGo U V s P = wkGo N T s P
  | [], _, _ => rfl
  | y :: P, s, hP => by
    rw [wkGo, wkGo, h.all hc (hP y (by simp)), h.wk hc P _ (fun z hz => hP z (by simp [hz]))]
theorem Sub.wrk {U : List Int} {V : List BlkD} {N : List Int} {T : List BlkD} (h : Sub U V N T) (hc : chkTr N T = 0) {y : Int} (hy : y = 0 ∨ y ∈ U) : wrkD U V y = wrkD N T y := by
  unfold wrkD
  rw [h.wk hc (pthD U V y) 0 ((TrOk.of h.chk).up_mem _ y hy), h.pth hc hy]

theorem TrOk.wrk_pos {N : List Int} {T : List BlkD} (h : TrOk N T) {y : Int} (hy : y ∈ N) : 1 ≤ wrkD N T y := by
  have hb := h.heads _ (fnd_in h.len hy)
  obtain ⟨d, hd⟩ : ∃ d, (fnd y N T).2.1.toNat = d + 1 := ⟨(fnd y N T).2.1.toNat - 1, by omega⟩
  unfold wrkD pthD
  rw [hd, upD, wk_app, wkGo, wkGo]
  have := (wk_bound h.heads (upD N T d (fnd y N T).1) 0 (N := N)).1
  omega
theorem bstQ_max (N : List Int) (T : List BlkD) : ∀ (P D : List Int) (q : Int × Int), (∀ y ∈ D, wrkD N T y < q.2 ∨ wrkD N T y = q.2 ∧ q.1 ≤ y) → ∀ y, y ∈ D ∨ y ∈ P → wrkD N T y < (bstQ N T q P).2 ∨ wrkD N T y = (bstQ N T q P).2 ∧ (bstQ N T q P).1 ≤ y
  | [], D, q, h, y, hy => by
    rcases hy with hy | hy
    · exact h y hy
    · cases hy
  | x :: P, D, q, h, y, hy => by
    have hstep : bstQ N T q (x :: P) = bstQ N T (if q.2 < wrkD N T x ∨ wrkD N T x = q.2 ∧ x < q.1 then (x, wrkD N T x) else q) P := rfl
    rw [hstep]
    refine bstQ_max N T P (x :: D) _ (fun z hz => ?_) y (by
      rcases hy with hy | hy
      · exact .inl (by simp [hy])
      · rcases List.mem_cons.1 hy with rfl | hy
        · exact .inl (by simp)
        · exact .inr hy)
    rcases List.mem_cons.1 hz with rfl | hz
    · split
      · exact .inr ⟨rfl, Int.le_refl _⟩
      · next q1 => omega
    · have := h z hz
      split
      · next q1 => simp only; omega
      · exact this
/-- The best one has most work, the lowest name of such. -/
theorem best_max {N : List Int} {T : List BlkD} (h : TrOk N T) : (bstGo N T 0 0 N = 0 ∨ bstGo N T 0 0 N ∈ N) ∧ (∀ y ∈ N, wrkD N T y < wrkD N T (bstGo N T 0 0 N) ∨ wrkD N T y = wrkD N T (bstGo N T 0 0 N) ∧ bstGo N T 0 0 N ≤ y) := by
  rw [bstQ_go]
  have hw := bstQ_wrk N T N (0, 0) h.wrk_zero.symm
  rw [← hw]
  exact ⟨bstQ_mem N T N (0, 0), fun y hy => bstQ_max N T N [] (0, 0) (fun _ q => by cases q) y (.inr hy)⟩
theorem best_same {U : List Int} {V : List BlkD} {N : List Int} {T : List BlkD} (h : Sub U V N T) (hc : chkTr N T = 0) (hs : ∀ y ∈ N, y ∈ U) : bstGo U V 0 0 U = bstGo N T 0 0 N := by
  have okN := TrOk.of hc
  have okU := TrOk.of h.chk
  obtain ⟨a1, a2⟩ := best_max okN
  obtain ⟨b1, b2⟩ := best_max okU
  obtain ⟨p, hp⟩ : ∃ p, bstGo N T 0 0 N = p := ⟨_, rfl⟩
  obtain ⟨q, hq⟩ : ∃ q, bstGo U V 0 0 U = q := ⟨_, rfl⟩
  rw [hp] at a1 a2 ⊢
  rw [hq] at b1 b2 ⊢
  have hwq : wrkD U V q = wrkD N T q := h.wrk hc b1
  rcases a1 with a1 | a1
  · rcases b1 with b1 | b1
    · rw [a1, b1]
    · have e := a2 q (h.mem q b1)
      rw [a1, okN.wrk_zero] at e
      have := okN.wrk_pos (h.mem q b1)
      omega
  · have e1 := b2 p (hs p a1)
    rw [h.wrk hc (.inr (hs p a1)), hwq] at e1
    rcases b1 with b1 | b1
    · rw [b1, okN.wrk_zero] at e1
      have := okN.wrk_pos a1
      omega
    · have e2 := a2 q (h.mem q b1)
      omega

end Go.Proofs.Ytklekpbladmjhaa
