/- Nothing is spent twice: in plain functions. Nothing of the program. -/
import Derived.Test.YtepmnpapdknocaaGreatDoorCoinFacts
namespace Go.Proofs.YtepmnpapdknocaaGreatDoor

theorem hasP_no {p : PtD} {L : List CoinD} : hasP p L = false ↔ ∀ c ∈ L, pt c ≠ p := by
  rw [← Bool.not_eq_true, hasP_iff]
  exact ⟨fun h c hc e => h ⟨c, hc, e⟩, fun h ⟨c, hc, e⟩ => h c hc e⟩
theorem apD_zero {L M S : List CoinD} {t : TxD} {name h : Int} (e : apD L t name h = (0, M, S)) : ckApply L t name h = 0 ∧ ∃ M2, spendGo h t.2.1 [] L = (0, S, M2) ∧ covD S t = 0 ∧ giveGo name h (isR t) 0 t.2.2 M2 = (0, M) ∧ ckCoins M = 0 := by
  obtain ⟨x1, h1⟩ : ∃ x1, ckApply L t name h = x1 := ⟨_, rfl⟩
  obtain ⟨⟨x2, S2, M2⟩, h2⟩ : ∃ r, spendGo h t.2.1 [] L = r := ⟨_, rfl⟩
  obtain ⟨x3, h3⟩ : ∃ x3, covD S2 t = x3 := ⟨_, rfl⟩
  obtain ⟨⟨x4, M4⟩, h4⟩ : ∃ r, giveGo name h (isR t) 0 t.2.2 M2 = r := ⟨_, rfl⟩
  obtain ⟨x5, h5⟩ : ∃ x5, ckCoins M4 = x5 := ⟨_, rfl⟩
  rw [apD_eq h1 h2 h3 h4 h5] at e
  split at e
  · rename_i q; injection e with e _; exact absurd e q
  rename_i q1
  split at e
  · rename_i q; injection e with e _; exact absurd e q
  rename_i q2
  split at e
  · rename_i q; injection e with e _; exact absurd e q
  rename_i q3
  split at e
  · rename_i q; injection e with e _; exact absurd e q
  rename_i q4
  split at e
  · rename_i q; injection e with e _; exact absurd e q
  rename_i q5
  have e1 : x1 = 0 := by omega
  have e2 : x2 = 0 := by omega
  have e3 : x3 = 0 := by omega
  have e4 : x4 = 0 := by omega
  have e5 : x5 = 0 := by omega
  injection e with _ e
  injection e with ea eb
  subst e1 e2 e3 e4 e5 ea eb
  exact ⟨h1, M2, h2, h3, h4, h5⟩

end Go.Proofs.YtepmnpapdknocaaGreatDoor
