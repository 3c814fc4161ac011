/- What a right transaction is made of. Nothing of the program. -/
import Derived.Test.YtepmnpapdknocaaGreatDoorTxMath
namespace Go.Proofs.YtepmnpapdknocaaGreatDoor

theorem chkIns_all : ∀ (L pre : List InD), chkIns pre L = 0 → ∀ x ∈ L, ptOk x = true ∧ chk x.2.2 = 0
  | [], _, _, x, hx => by cases hx
  | y :: r, pre, h, x, hx => by
    unfold chkIns at h
    split at h
    · rename_i h1
      rcases List.mem_cons.1 hx with rfl | hx
      · unfold chkIn1 at h1
        split at h1
        · cases h1
        · rename_i h2
          split at h1
          · rename_i h3; exact absurd h1 h3
          · rename_i h3
            exact ⟨by simpa using h2, by simpa using h3⟩
      · exact chkIns_all r _ h x hx
    · contradiction
theorem chkOuts_all : ∀ (L : List OutD), chkOuts L = 0 → ∀ x ∈ L, 1 ≤ x.1 ∧ chk x.2 = 0
  | [], _, x, hx => by cases hx
  | y :: r, h, x, hx => by
    unfold chkOuts at h
    split at h
    · rename_i h1
      rcases List.mem_cons.1 hx with rfl | hx
      · unfold chkOut1 at h1
        split at h1
        · cases h1
        · rename_i h2
          exact ⟨by omega, h1⟩
      · exact chkOuts_all r h x hx
    · contradiction
theorem sm_all : ∀ (Z : List Int) (s : Int), (sm s Z).2 = 0 → ∀ z ∈ Z, 0 ≤ z ∧ z ≤ 1000000000
  | [], _, _, z, hz => by cases hz
  | y :: r, s, h, z, hz => by
    unfold sm at h
    split at h
    · rename_i h1
      split at h
      · rcases List.mem_cons.1 hz with rfl | hz
        · exact h1
        · exact sm_all r _ h z hz
      · cases h
    · cases h

structure TxOk (t : TxD) : Prop where
  ins6 : t.2.1.length ≤ 6
  outs6 : t.2.2.length ≤ 6
  some : 0 < t.2.2.length
  hgt : 0 ≤ t.1 ∧ t.1 ≤ 1000
  fit : hFit t = true
  chkI : chkIns [] t.2.1 = 0
  ins : ∀ x ∈ t.2.1, ptOk x = true ∧ chk x.2.2 = 0
  outs : ∀ x ∈ t.2.2, (1 ≤ x.1 ∧ x.1 ≤ 1000000000) ∧ chk x.2 = 0

theorem TxOk.of {t : TxD} (h : chkTx t = 0) : TxOk t := by
  unfold chkTx at h
  split at h
  · cases h
  · rename_i h1
    split at h
    · cases h
    · rename_i h2
      split at h
      · cases h
      · rename_i h3
        split at h
        · rename_i h4; exact absurd h h4
        · rename_i h4
          have h4' : chkIns [] t.2.1 = 0 := by simpa using h4
          have h3' : hFit t = true := by simpa using h3
          unfold chkOutsAll at h
          split at h
          · rename_i h5
            refine ⟨by omega, by omega, by omega, ?_, h3', h4', chkIns_all _ _ h4', fun x hx => ?_⟩
            · unfold hFit at h3'
              split at h3'
              · simp only [Bool.and_eq_true, decide_eq_true_eq] at h3'; omega
              · have : t.1 = 0 := by simpa using h3'
                omega
            · have a := chkOuts_all _ h5 x hx
              have b := sm_all _ _ h x.1 (List.mem_map.2 ⟨x, hx, rfl⟩)
              exact ⟨⟨a.1, b.2⟩, a.2⟩
          · contradiction

theorem ptOk_iff (x : InD) : ptOk x = true ↔ (1 ≤ x.1 ∧ x.1 ≤ 120) ∧ (0 ≤ x.2.1 ∧ x.2.1 ≤ 5) := by
  unfold ptOk; simp only [Bool.and_eq_true, decide_eq_true_eq]

end Go.Proofs.YtepmnpapdknocaaGreatDoor
