/- What is done is undone: in plain functions. Nothing of the program. -/
import Derived.Test.YtepmnpapdknocaaGreatDoorCoinTwiceM
namespace Go.Proofs.YtepmnpapdknocaaGreatDoor

/-- What give makes: what was there, and the new ones; each at a point that was free; in order. -/
theorem giveGo_mem (name h : Int) (r : Bool) : ∀ (O : List OutD) (i : Nat) (L M : List CoinD), Srt L → giveGo name h r i O L = (0, M) →
    Srt M ∧ (∀ x, x ∈ M ↔ x ∈ L ∨ ∃ j, ∃ hj : j < O.length, x = newC name (i + j) O[j] h r) ∧ (∀ j, j < O.length → hasP (name, ((i + j : Nat) : Int)) L = false)
  | [], i, L, M, hs, e => by
    unfold giveGo at e
    injection e with _ e
    subst e
    exact ⟨hs, fun x => ⟨.inl, fun q => q.elim id fun ⟨j, hj, _⟩ => absurd hj (by simp)⟩, fun j hj => absurd hj (by simp)⟩
  | o :: q, i, L, M, hs, e => by
    unfold giveGo at e
    split at e
    · injection e with e _; cases e
    · rename_i hf
      have hf' : hasP (pt (newC name i o h r)) L = false := by simpa [newC, pt] using hf
      obtain ⟨h1, h2, h3⟩ := giveGo_mem name h r q (i + 1) _ M (putC_srt hs) e
      refine ⟨h1, fun x => ?_, fun j hj => ?_⟩
      · rw [h2 x, mem_putC hf']
        constructor
        · rintro ((rfl | g) | ⟨j, hj, rfl⟩)
          · exact .inr ⟨0, by simp, by simp⟩
          · exact .inl g
          · exact .inr ⟨j + 1, by simpa using hj, by simp [Nat.add_assoc, Nat.add_comm 1 j]⟩
        · rintro (g | ⟨j, hj, rfl⟩)
          · exact .inl (.inr g)
          · cases j with
            | zero => exact .inl (.inl (by simp))
            | succ j => exact .inr ⟨j, by simpa using hj, by simp [Nat.add_assoc, Nat.add_comm 1 j]⟩
      · cases j with
        | zero => simpa [newC, pt] using hf'
        | succ j =>
          have := h3 j (by simpa using hj)
          rw [show i + 1 + j = i + (j + 1) by omega] at this
          refine hasP_no.2 fun c hc => (hasP_no.1 this) c ((mem_putC hf').2 (.inr hc))

theorem back_mem (name h : Int) (r : Bool) (O : List OutD) (L : List CoinD) (hL : Srt L) (hfree : ∀ j, j < O.length → hasP (name, ((j : Nat) : Int)) L = false) : ∀ (m k : Nat) (N : List CoinD), m + k = O.length → Srt N → (∀ x, x ∈ N ↔ x ∈ L ∨ ∃ j, ∃ hj : j < O.length, k ≤ j ∧ x = newC name j O[j] h r) → backGo name k (O.drop k) N = (0, L)
  | 0, k, N, hm, hN, hx => by
    rw [List.drop_of_length_le (by omega), backGo]
    rw [Srt.ext hN hL fun x => by
      rw [hx x]
      exact ⟨fun q => q.elim id fun ⟨j, hj, hk, _⟩ => absurd hj (by omega), .inl⟩]
  | m + 1, k, N, hm, hN, hx => by
    have hk : k < O.length := by omega
    have hmem : newC name k O[k] h r ∈ N := (hx _).2 (.inr ⟨k, hk, Nat.le_refl _, rfl⟩)
    have ht := takeD_mem (p := (name, (k : Int))) hN hmem rfl
    rw [List.drop_eq_getElem_cons hk, backGo, ht]
    simp only
    rw [if_pos (by rfl)]
    refine back_mem name h r O L hL hfree m (k + 1) _ (by omega) (hN.filter _) fun x => ?_
    rw [List.mem_filter, hx x, decide_eq_true_eq]
    constructor
    · rintro ⟨g | ⟨j, hj, hkj, rfl⟩, hne⟩
      · exact .inl g
      · refine .inr ⟨j, hj, ?_, rfl⟩
        rcases Nat.lt_or_ge k j with q | q
        · exact q
        · obtain rfl : j = k := by omega
          exact absurd rfl hne
    · rintro (g | ⟨j, hj, hkj, rfl⟩)
      · exact ⟨.inl g, (hasP_no.1 (hfree k hk)) x g⟩
      · refine ⟨.inr ⟨j, hj, by omega, rfl⟩, fun q => ?_⟩
        have q2 : ((j : Nat) : Int) = ((k : Nat) : Int) := congrArg Prod.snd q
        omega

theorem sum_take {p : PtD} {c : CoinD} : ∀ {L : List CoinD}, Srt L → c ∈ L → pt c = p → sumC L = cv c + sumC (L.filter fun d => decide (pt d ≠ p))
  | [], _, hc, _ => by cases hc
  | d :: r, hs, hc, e => by
    rw [sumC_cons]
    rcases List.mem_cons.1 hc with rfl | hc
    · rw [List.filter_cons_of_neg (by simp [e])]
      have : r.filter (fun d => decide (pt d ≠ p)) = r := by
        rw [List.filter_eq_self]
        intro y hy
        exact decide_eq_true (fun q => lt_ne (hs.head y hy) (by rw [e, q]))
      rw [this]
    · have hne : pt d ≠ p := fun q => lt_ne (hs.head c hc) (by rw [e, q])
      rw [List.filter_cons_of_pos (by simp [hne]), sumC_cons, sum_take hs.tail hc e]
      omega

/-- What spend takes stands in the ins' order, and with what is left it is what was. -/
theorem spendGo_mem (h : Int) : ∀ (I : List InD) (S0 L S M : List CoinD), Srt L → spendGo h I S0 L = (0, S, M) →
    Srt M ∧ ∃ T, S = S0 ++ T ∧ T.length = I.length ∧ (∀ j (h1 : j < T.length) (h2 : j < I.length), pt T[j] = (I[j].1, I[j].2.1)) ∧ (∀ x, x ∈ L ↔ x ∈ M ∨ x ∈ T) ∧ (∀ x ∈ T, hasP (pt x) M = false) ∧ T.Pairwise (fun a b => pt a ≠ pt b) ∧ sumC L = sumC M + sumC T
  | [], S0, L, S, M, hs, e => by
    unfold spendGo at e
    injection e with _ e
    injection e with e1 e2
    subst e1 e2
    exact ⟨hs, [], by simp, rfl, fun j h1 => absurd h1 (by simp), fun x => by simp, fun x hx => (by cases hx), List.Pairwise.nil, by simp [sumC]⟩
  | x :: r, S0, L, S, M, hs, e => by
    unfold spendGo at e
    split at e
    · injection e with e _; cases e
    · rename_i c L' ht
      split at e
      · injection e with e _; cases e
      · split at e
        · injection e with e _; cases e
        · obtain ⟨t1, t2, t3⟩ := takeD_some ht
          obtain ⟨h1, T, h2, h3, h4, h5, h6, h7, h8⟩ := spendGo_mem h r _ L' S M (by rw [t3]; exact hs.filter _) e
          have hin : ∀ y, y ∈ L' ↔ y ∈ L ∧ pt y ≠ (x.1, x.2.1) := fun y => by rw [t3, List.mem_filter, decide_eq_true_eq]
          refine ⟨h1, c :: T, by rw [h2, List.append_assoc]; rfl, by simp [h3], fun j h1 h2 => ?_, fun y => ?_, fun y hy => ?_, ?_, ?_⟩
          · cases j with
            | zero => exact t2
            | succ j => exact h4 j (by simpa using h1) (by simpa using h2)
          · constructor
            · intro hy
              by_cases q : pt y = (x.1, x.2.1)
              · exact .inr (by rw [hs.inj hy t1 (by rw [q, t2])]; exact List.mem_cons_self ..)
              · rcases (h5 y).1 ((hin y).2 ⟨hy, q⟩) with g | g
                · exact .inl g
                · exact .inr (List.mem_cons_of_mem _ g)
            · rintro (g | g)
              · exact ((hin y).1 ((h5 y).2 (.inl g))).1
              · rcases List.mem_cons.1 g with rfl | g
                · exact t1
                · exact ((hin y).1 ((h5 y).2 (.inr g))).1
          · rcases List.mem_cons.1 hy with rfl | hy
            · refine hasP_no.2 fun d hd e => ?_
              exact ((hin d).1 ((h5 d).2 (.inl hd))).2 (by rw [e, t2])
            · exact h6 y hy
          · refine List.pairwise_cons.2 ⟨fun y hy e => ?_, h7⟩
            exact ((hin y).1 ((h5 y).2 (.inr hy))).2 (by rw [← e, t2])
          · have h9 := sum_take hs t1 t2
            rw [← t3] at h9
            rw [h9, h8, sumC_cons]
            omega

/-- What was taken is put back, whatever was put ahead of it. -/
theorem putb_mem (I : List InD) (S M2 L : List CoinD) (hlen : S.length = I.length) (hL : Srt L) (hpt : ∀ j (h1 : j < S.length) (h2 : j < I.length), pt S[j] = (I[j].1, I[j].2.1)) (hmem : ∀ x, x ∈ L ↔ x ∈ M2 ∨ x ∈ S) (hfree : ∀ x ∈ S, hasP (pt x) M2 = false) (hpw : S.Pairwise (fun a b => pt a ≠ pt b)) :
    ∀ (m k : Nat) (N : List CoinD), m + k = S.length → Srt N → (∀ x, x ∈ N ↔ x ∈ M2 ∨ x ∈ S.take k) → putbGo (I.drop k) (S.drop k) N = (0, L)
  | 0, k, N, hm, hN, hx => by
    rw [List.drop_of_length_le (by omega), List.drop_of_length_le (by omega), putbGo]
    · rw [Srt.ext hN hL fun x => by rw [hx x, hmem x, List.take_of_length_le (by omega)]]
    · intro _ _ _ _ h; cases h
  | m + 1, k, N, hm, hN, hx => by
    have hk : k < S.length := by omega
    have hk2 : k < I.length := by omega
    have hno : hasP (pt S[k]) N = false := hasP_no.2 fun c hc e => by
      rcases (hx c).1 hc with g | g
      · exact (hasP_no.1 (hfree _ (List.getElem_mem hk))) c g e
      · obtain ⟨j, hj, rfl⟩ := List.mem_take_iff_getElem.1 g
        have hjk : j < k := by omega
        exact (List.pairwise_iff_getElem.1 hpw j k (by omega) hk hjk) e
    rw [List.drop_eq_getElem_cons hk, List.drop_eq_getElem_cons hk2, putbGo, if_neg (by
      rintro (q | q)
      · exact q (hpt k hk hk2)
      · rw [hno] at q; cases q)]
    refine putb_mem I S M2 L hlen hL hpt hmem hfree hpw m (k + 1) _ (by omega) (putC_srt hN) fun x => ?_
    rw [mem_putC hno, hx x, List.take_succ_eq_append_getElem hk, List.mem_append, List.mem_singleton]
    constructor
    · rintro (rfl | g | g)
      · exact .inr (.inr rfl)
      · exact .inl g
      · exact .inr (.inl g)
    · rintro (g | g | rfl)
      · exact .inr (.inl g)
      · exact .inr (.inr g)
      · exact .inl rfl

/-- What is done is undone. -/
theorem back_ok {L M S : List CoinD} {t : TxD} {name h : Int} (e : apD L t name h = (0, M, S)) : rvD M t name S = (0, L) := by
  obtain ⟨h1, M2, h2, h3, h4, h5⟩ := apD_zero e
  obtain ⟨hR, hT, _, _, _⟩ := ckApply_zero h1
  obtain ⟨s1, T, s2, s3, s4, s5, s6, s7, s8⟩ := spendGo_mem h _ _ _ _ _ hR.srt h2
  rw [List.nil_append] at s2
  subst s2
  obtain ⟨g1, g2, g3⟩ := giveGo_mem name h _ _ _ _ _ s1 h4
  have hb : backGo name 0 t.2.2 M = (0, M2) := by
    have := back_mem name h (isR t) t.2.2 M2 s1 (fun j hj => by have := g3 j hj; rwa [Nat.zero_add] at this) t.2.2.length 0 M (by omega) g1 (fun x => by
      rw [g2 x]
      constructor
      · rintro (q | ⟨j, hj, rfl⟩)
        · exact .inl q
        · exact .inr ⟨j, hj, Nat.zero_le _, by rw [Nat.zero_add]⟩
      · rintro (q | ⟨j, hj, _, rfl⟩)
        · exact .inl q
        · exact .inr ⟨j, hj, by rw [Nat.zero_add]⟩)
    simpa using this
  have hp : putbGo t.2.1 S M2 = (0, L) := by
    have := putb_mem t.2.1 S M2 L s3 hR.srt s4 s5 s6 s7 S.length 0 M2 (by omega) s1 (fun x => by simp)
    simpa using this
  have hc : ckCoins L = 0 := (ckCoins_zero L).2 hR
  have hb0 : ckBoth M t = 0 := by unfold ckBoth; rw [if_neg (by rw [h5]; decide)]; exact hT
  rw [rvD_eq hb0 hb hp hc, if_neg (by decide), if_neg (by rw [s3]; simp), if_neg (by decide), if_neg (by decide), if_neg (by decide)]

end Go.Proofs.YtepmnpapdknocaaGreatDoor
