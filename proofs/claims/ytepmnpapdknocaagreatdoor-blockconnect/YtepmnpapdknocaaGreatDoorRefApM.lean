/- The reference does in whatever order what the program does in order: mathematics. Nothing of the program. -/
import Derived.Test.YtepmnpapdknocaaGreatDoorRefPlace
import Derived.Test.YtepmnpapdknocaaGreatDoorCoinDo
import Derived.Test.YtepmnpapdknocaaGreatDoorSortCoinC
namespace Go.Proofs.YtepmnpapdknocaaGreatDoor

theorem takeD_idx : ∀ {L : List CoinD} {p : PtD} (_ : Srt L) (i : Nat) (hi : i < L.length), pt L[i] = p → takeD p L = some (L[i], L.take i ++ L.drop (i + 1))
  | c :: L, p, h, 0, _, e => by
    have e' : pt c = p := e
    have hf : L.filter (fun d => decide (pt d ≠ p)) = L := by
      rw [List.filter_eq_self]
      intro x hx
      rw [decide_eq_true_eq, ← e']
      exact fun q => lt_ne (h.head x hx) q.symm
    unfold takeD
    rw [List.find?_cons_of_pos (by simpa using e')]
    simp only [List.filter_cons, e', ne_eq, not_true, decide_false, Bool.false_eq_true, if_false]
    simp only [ne_eq] at hf
    rw [hf]
    rfl
  | c :: L, p, h, i + 1, hi, e => by
    have hi' : i < L.length := by simpa using hi
    have e' : pt L[i] = p := by simpa using e
    have hne : pt c ≠ p := fun q => by
      have := lt_ne (h.head L[i] (List.getElem_mem hi'))
      rw [e', q] at this
      exact this rfl
    have ih := takeD_idx h.tail i hi' e'
    unfold takeD at ih ⊢
    rw [List.find?_cons_of_neg (by simpa using hne)]
    cases hq : L.find? (fun c => decide (pt c = p)) with
    | none => rw [hq] at ih; cases ih
    | some d =>
      rw [hq] at ih
      simp only [Option.some.injEq, Prod.mk.injEq] at ih ⊢
      rw [List.filter_cons_of_pos (by simpa using hne), ih.2]
      exact ⟨by rw [ih.1]; simp, by simp⟩
theorem takeD_no {L : List CoinD} {p : PtD} (h : hasP p L = false) : takeD p L = none := by
  unfold takeD
  have : L.find? (fun c => decide (pt c = p)) = none := by
    rw [List.find?_eq_none]
    intro x hx q
    rw [← Bool.not_eq_true, hasP_iff] at h
    exact h ⟨x, hx, by simpa using q⟩
  rw [this]

theorem plc_ways (p : PtD) : ∀ (L : List CoinD) (k : Nat), (plc p L k = -1 ∧ hasP p L = false) ∨ ∃ i, ∃ h : i < L.length, plc p L k = ((k + i : Nat) : Int) ∧ pt L[i] = p ∧ hasP p L = true
  | [], _ => .inl ⟨rfl, rfl⟩
  | c :: L, k => by
    by_cases h : pt c = p
    · exact .inr ⟨0, by simp, by unfold plc; rw [if_pos h]; rfl, h, by simp [hasP, h]⟩
    · rcases plc_ways p L (k + 1) with ⟨h1, h2⟩ | ⟨i, hi, h1, h2, h3⟩
      · refine .inl ⟨by unfold plc; rw [if_neg h]; exact h1, ?_⟩
        unfold hasP at h2 ⊢
        rw [List.any_cons, h2]
        simp [h]
      · refine .inr ⟨i + 1, by simp; omega, ?_, by simpa using h2, ?_⟩
        · unfold plc
          rw [if_neg h, h1]
          congr 1
          omega
        · unfold hasP at h3 ⊢
          rw [List.any_cons, h3]
          simp

theorem Srt.nodup {L : List CoinD} (h : Srt L) : L.Nodup := by
  unfold List.Nodup
  refine List.Pairwise.imp (fun {x y} q => ?_) h
  intro e
  exact lt_ne q (by rw [e])
theorem wk_unique {L G : List CoinD} (hw : Wk L) (hp : L.Perm G) (hs : Srt G) : L = G := by
  have hn : L.Nodup := hp.nodup_iff.2 hs.nodup
  have hm : ∀ x, x ∈ L ↔ x ∈ G := fun x => hp.mem_iff
  refine Srt.ext ?_ hs hm
  unfold Srt
  have hb : L.Pairwise fun x y => lt (pt y) (pt x) = false ∧ x ≠ y := List.pairwise_and_iff.2 ⟨hw, hn⟩
  refine List.Pairwise.imp_of_mem (fun {x y} hx hy q => ?_) hb
  rcases lt_tri (pt x) (pt y) with r | r | r
  · exact r
  · exact absurd (hs.inj ((hm x).1 hx) ((hm y).1 hy) r) q.2
  · rw [q.1] at r
    exact Bool.noConfusion r

theorem hasP_perm {L M : List CoinD} (h : L.Perm M) (p : PtD) : hasP p L = hasP p M := by
  rw [Bool.eq_iff_iff, hasP_iff, hasP_iff]
  exact ⟨fun ⟨c, hc, e⟩ => ⟨c, h.mem_iff.1 hc, e⟩, fun ⟨c, hc, e⟩ => ⟨c, h.mem_iff.2 hc, e⟩⟩
theorem putC_perm {R L : List CoinD} {c : CoinD} (h : R.Perm L) (hn : hasP (pt c) L = false) : (R ++ [c]).Perm (putC c L) := by
  have hf : L.filter (fun x => lt (pt c) (pt x)) = L.filter (fun x => !lt (pt x) (pt c)) := by
    apply List.filter_congr
    intro x hx
    rcases lt_tri (pt x) (pt c) with q | q | q
    · rw [q, lt_asymm q]; rfl
    · exact absurd ((hasP_iff _ _).2 ⟨x, hx, q⟩) (by rw [hn]; decide)
    · rw [q, lt_asymm q]; rfl
  unfold putC
  rw [hf]
  refine ((List.perm_append_comm).trans ?_).trans (List.perm_middle.symm)
  exact (h.trans (List.filter_append_perm _ L).symm).cons c

end Go.Proofs.YtepmnpapdknocaaGreatDoor
