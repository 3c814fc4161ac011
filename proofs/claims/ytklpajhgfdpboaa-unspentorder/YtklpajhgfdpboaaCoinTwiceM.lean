/- Nothing is spent twice: in plain functions. Nothing of the program. -/
import Derived.Test.YtklpajhgfdpboaaCoinFacts
namespace Go.Proofs.Ytklpajhgfdpboaa

theorem hasP_no {p : PtD} {L : List CoinD} : hasP p L = false ↔ ∀ c ∈ L, pt c ≠ p := by
  rw [← Bool.not_eq_true, hasP_iff]
  exact ⟨fun h c hc e => h ⟨c, hc, e⟩, fun h ⟨c, hc, e⟩ => h c hc e⟩
theorem takeD_has {p : PtD} {L M : List CoinD} {c : CoinD} (h : takeD p L = some (c, M)) : hasP p L = true := by
  obtain ⟨h1, h2, _⟩ := takeD_some h
  exact (hasP_iff p L).2 ⟨c, h1, h2⟩

/-- What spend takes: each was there, none is there any more, and nothing comes. -/
theorem spendGo_ok (h : Int) : ∀ (I : List InD) (S0 L S M : List CoinD), spendGo h I S0 L = (0, S, M) → (∀ c ∈ M, c ∈ L) ∧ (∀ x ∈ I, hasP (x.1, x.2.1) L = true) ∧ (∀ x ∈ I, hasP (x.1, x.2.1) M = false)
  | [], S0, L, S, M, e => by
    unfold spendGo at e
    injection e with _ e
    injection e with _ e
    subst e
    exact ⟨fun _ hc => hc, fun _ hx => (by cases hx), fun _ hx => (by cases hx)⟩
  | x :: r, S0, L, S, M, e => by
    unfold spendGo at e
    split at e
    · injection e with e _; cases e
    · rename_i c L' ht
      split at e
      · injection e with e _; cases e
      · split at e
        · injection e with e _; cases e
        · obtain ⟨a1, a2, a3⟩ := spendGo_ok h r _ L' S M e
          obtain ⟨t1, t2, t3⟩ := takeD_some ht
          have hsub : ∀ c ∈ L', c ∈ L := fun c hc => by rw [t3] at hc; exact (List.mem_filter.1 hc).1
          refine ⟨fun c hc => hsub c (a1 c hc), fun y hy => ?_, fun y hy => ?_⟩
          · rcases List.mem_cons.1 hy with rfl | hy
            · exact takeD_has ht
            · obtain ⟨d, hd, e⟩ := (hasP_iff _ _).1 (a2 y hy)
              exact (hasP_iff _ _).2 ⟨d, hsub d hd, e⟩
          · rcases List.mem_cons.1 hy with rfl | hy
            · refine hasP_no.2 fun d hd e => ?_
              have := a1 d hd
              rw [t3, List.mem_filter] at this
              exact absurd e (of_decide_eq_true this.2)
            · exact a3 y hy
theorem giveGo_ok (name h : Int) (r : Bool) : ∀ (O : List OutD) (i : Nat) (L M : List CoinD), giveGo name h r i O L = (0, M) → ∀ c ∈ M, c ∈ L ∨ c.1 = name
  | [], i, L, M, e => by
    unfold giveGo at e
    injection e with _ e
    subst e
    exact fun c hc => .inl hc
  | o :: q, i, L, M, e => by
    unfold giveGo at e
    split at e
    · injection e with e _; cases e
    · rename_i hf
      intro c hc
      rcases giveGo_ok name h r q (i + 1) _ M e c hc with g | g
      · rcases (mem_putC (c := newC name i o h r) (by simpa [newC, pt] using hf)).1 g with rfl | g
        · exact .inr rfl
        · exact .inl g
      · exact .inr g
theorem apD_zero {L M S : List CoinD} {t : TxD} {name h : Int} (e : apD L t name h = (0, M, S)) : ckApply L t name h = 0 ∧ ∃ M2, spendGo h t.2.1 [] L = (0, S, M2) ∧ covD S t = 0 ∧ giveGo name h (isR t) 0 t.2.2 M2 = (0, M) ∧ ckCoins M = 0 := by
  obtain ⟨x1, h1⟩ : ∃ x1, ckApply L t name h = x1 := ⟨_, rfl⟩
  obtain ⟨⟨x2, S2, M2⟩, h2⟩ : ∃ r, spendGo h t.2.1 [] L = r := ⟨_, rfl⟩
  obtain ⟨x3, h3⟩ : ∃ x3, covD S2 t = x3 := ⟨_, rfl⟩
  obtain ⟨⟨x4, M4⟩, h4⟩ : ∃ r, giveGo name h (isR t) 0 t.2.2 M2 = r := ⟨_, rfl⟩
  obtain ⟨x5, h5⟩ : ∃ x5, ckCoins M4 = x5 := ⟨_, rfl⟩
  rw [apD_eq h1 h2 h3 h4 h5] at e
  split at e
  · rename_i q; injection e with e _; exact absurd e q
  rename_i q1
  split at e
  · rename_i q; injection e with e _; exact absurd e q
  rename_i q2
  split at e
  · rename_i q; injection e with e _; exact absurd e q
  rename_i q3
  split at e
  · rename_i q; injection e with e _; exact absurd e q
  rename_i q4
  split at e
  · rename_i q; injection e with e _; exact absurd e q
  rename_i q5
  have e1 : x1 = 0 := by omega
  have e2 : x2 = 0 := by omega
  have e3 : x3 = 0 := by omega
  have e4 : x4 = 0 := by omega
  have e5 : x5 = 0 := by omega
  injection e with _ e
  injection e with ea eb
  subst e1 e2 e3 e4 e5 ea eb
  exact ⟨h1, M2, h2, h3, h4, h5⟩

/-- What was spent isn't there any more, where no in is of the name itself. -/
theorem apD_gone {L M S : List CoinD} {t : TxD} {name h : Int} (e : apD L t name h = (0, M, S)) (x : InD) (hx : x ∈ t.2.1) (hn : x.1 ≠ name) : hasP (x.1, x.2.1) M = false := by
  obtain ⟨_, M2, h2, _, h4, _⟩ := apD_zero e
  obtain ⟨_, _, a3⟩ := spendGo_ok h _ _ _ _ _ h2
  refine hasP_no.2 fun c hc q => ?_
  rcases giveGo_ok name h _ _ _ _ _ h4 c hc with g | g
  · exact (hasP_no.1 (a3 x hx)) c g q
  · have : c.1 = x.1 := congrArg Prod.fst q
    exact hn (by rw [← this, g])
theorem apD_needs {L M S : List CoinD} {t : TxD} {name h : Int} (e : apD L t name h = (0, M, S)) (x : InD) (hx : x ∈ t.2.1) : hasP (x.1, x.2.1) L = true := by
  obtain ⟨_, M2, h2, _, _, _⟩ := apD_zero e
  exact (spendGo_ok h _ _ _ _ _ h2).2.1 x hx

def sameP2 (x y : InD) : Bool := decide (y.1 = x.1 ∧ y.2.1 = x.2.1)
theorem twice_self {L M S M' S' : List CoinD} {t : TxD} {name h other later x : Int} (e : apD L t name h = (0, M, S)) (hl : t.2.1.length ≠ 0) (hn : (t.2.1.any fun y => decide (y.1 = name)) = false) (f : apD M t other later = (x, M', S')) : x ≠ 0 := by
  intro q
  subst q
  obtain ⟨y, hy⟩ : ∃ y, y ∈ t.2.1 := by
    cases h : t.2.1 with
    | nil => rw [h] at hl; exact absurd rfl hl
    | cons y r => exact ⟨y, List.mem_cons_self ..⟩
  have h1 := apD_needs f y hy
  have h2 : y.1 ≠ name := fun q => by
    have := List.any_eq_false.1 hn y hy
    simp [q] at this
  rw [apD_gone e y hy h2] at h1
  exact Bool.noConfusion h1
theorem twice_other {L M S M' S' : List CoinD} {t u : TxD} {name h other later : Int} (e : apD L t name h = (0, M, S)) (hn : (t.2.1.any fun y => decide (y.1 = name)) = false) (f : apD M u other later = (0, M', S')) : (u.2.1.any fun x => t.2.1.any (sameP2 x)) = false := by
  rw [List.any_eq_false]
  intro x hx
  rw [Bool.not_eq_true, List.any_eq_false]
  intro y hy q
  unfold sameP2 at q
  have q2 := of_decide_eq_true q
  have h1 := apD_needs f x hx
  have h2 : y.1 ≠ name := fun q => by
    have := List.any_eq_false.1 hn y hy
    simp [q] at this
  have h3 := apD_gone e y hy h2
  rw [q2.1, q2.2] at h3
  rw [h3] at h1
  exact Bool.noConfusion h1

end Go.Proofs.Ytklpajhgfdpboaa
