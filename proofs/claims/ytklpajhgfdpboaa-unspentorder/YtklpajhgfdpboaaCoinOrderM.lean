/- Two transactions that spend other coins: either order leaves the same. In plain functions, nothing of the program. -/
import Derived.Test.YtklpajhgfdpboaaCoinBackM
namespace Go.Proofs.Ytklpajhgfdpboaa

/-- Coins that are right one by one and stand in order: what can be wrong is how many they are, and how much. -/
theorem ckGo_only : ∀ (L : List CoinD) (p : Option PtD) (s : Int), (∀ c ∈ L, ck1 c = 0) → Srt L → (∀ c ∈ L, above p c = true) → ckGo p s L = 0 ∨ ckGo p s L = 12
  | [], _, _, _, _, _ => .inl rfl
  | c :: r, p, s, h1, h2, h3 => by
    by_cases e : 1000000000 < s + cv c
    · exact .inr (ckGo_full (h1 c (List.mem_cons_self ..)) (h3 c (List.mem_cons_self ..)) e)
    · rw [ckGo_on (h1 c (List.mem_cons_self ..)) (h3 c (List.mem_cons_self ..)) e]
      exact ckGo_only r _ _ (fun d hd => h1 d (List.mem_cons_of_mem _ hd)) h2.tail (fun d hd => h2.head d hd)
theorem ckCoins_only {L : List CoinD} (h1 : ∀ c ∈ L, ck1 c = 0) (h2 : Srt L) : ckCoins L = 0 ∨ ckCoins L = 12 ∨ ckCoins L = 2 := by
  unfold ckCoins
  split
  · exact .inr (.inr rfl)
  · rcases ckGo_only L none 0 h1 h2 (fun _ _ => rfl) with h | h
    · exact .inl h
    · exact .inr (.inl h)

/-- What is spent of some coins is spent of others that have the same of these points. -/
theorem spendGo_like (h : Int) : ∀ (I : List InD) (S0 L X S M : List CoinD), Srt X → (∀ x ∈ I, ∀ c, pt c = (x.1, x.2.1) → c ∈ L → c ∈ X) → spendGo h I S0 L = (0, S, M) → ∃ N, spendGo h I S0 X = (0, S, N)
  | [], S0, L, X, S, M, hX, hs, e => by
    unfold spendGo at e
    injection e with _ e
    injection e with e1 e2
    subst e1 e2
    exact ⟨X, rfl⟩
  | x :: r, S0, L, X, S, M, hX, hs, e => by
    unfold spendGo at e
    split at e
    · injection e with e _; cases e
    rename_i c L' ht
    obtain ⟨t1, t2, t3⟩ := takeD_some ht
    split at e
    · injection e with e _; cases e
    rename_i q1
    split at e
    · injection e with e _; cases e
    rename_i q2
    have hc := hs x (List.mem_cons_self ..) c t2 t1
    have hx := takeD_mem hX hc t2
    obtain ⟨N, hN⟩ := spendGo_like h r (S0 ++ [c]) L' (X.filter fun d => decide (pt d ≠ (x.1, x.2.1))) S M (hX.filter _) (fun y hy d hd hm => by
      rw [t3] at hm
      obtain ⟨m1, m2⟩ := List.mem_filter.1 hm
      exact List.mem_filter.2 ⟨hs y (List.mem_cons_of_mem _ hy) d hd m1, m2⟩) e
    refine ⟨N, ?_⟩
    rw [spendGo, hx]
    simp only
    rw [if_neg q1, if_neg q2]
    exact hN

/-- Where no coin of these points is there, all are given. -/
theorem giveGo_free (name h : Int) (r : Bool) : ∀ (O : List OutD) (i : Nat) (L : List CoinD), (∀ j, i ≤ j → j < i + O.length → hasP (name, (j : Int)) L = false) → ∃ M, giveGo name h r i O L = (0, M)
  | [], i, L, _ => ⟨L, rfl⟩
  | o :: q, i, L, hf => by
    have h0 : hasP (name, (i : Int)) L = false := hf i (Nat.le_refl _) (by simp)
    obtain ⟨M, hM⟩ := giveGo_free name h r q (i + 1) (putC (newC name i o h r) L) (fun j h1 h2 => by
      refine hasP_no.2 fun c hc e => ?_
      rcases (mem_putC (c := newC name i o h r) (by simpa [newC, pt] using h0)).1 hc with rfl | hc
      · injection e with _ e
        simp only [newC] at e
        omega
      · exact hasP_no.1 (hf j (by omega) (by simp; omega)) c hc e)
    refine ⟨M, ?_⟩
    rw [giveGo, if_neg (by rw [h0]; decide)]
    exact hM

/-- What a transaction leaves. -/
theorem ap_mem {L M S : List CoinD} {t : TxD} {name h : Int} (e : apD L t name h = (0, M, S)) :
    Srt L ∧ Srt M ∧ (∀ c ∈ M, ck1 c = 0) ∧ (∀ x ∈ S, ∃ y ∈ t.2.1, pt x = (y.1, y.2.1)) ∧ (∀ x, x ∈ M ↔ (x ∈ L ∧ x ∉ S) ∨ ∃ j, ∃ hj : j < t.2.2.length, x = newC name j t.2.2[j] h (isR t)) := by
  obtain ⟨h1, M2, h2, h3, h4, h5⟩ := apD_zero e
  obtain ⟨hR, hT, _, _, _⟩ := ckApply_zero h1
  obtain ⟨s1, T, s2, s3, s4, s5, s6, s7, s8⟩ := spendGo_mem h _ _ _ _ _ hR.srt h2
  rw [List.nil_append] at s2
  subst s2
  obtain ⟨g1, g2, g3⟩ := giveGo_mem name h _ _ _ _ _ s1 h4
  have hM := (ckCoins_zero M).1 h5
  refine ⟨hR.srt, g1, hM.one, fun x hx => ?_, fun x => ?_⟩
  · obtain ⟨j, hj, rfl⟩ := List.mem_iff_getElem.1 hx
    exact ⟨t.2.1[j]'(by omega), List.getElem_mem _, s4 j hj (by omega)⟩
  · rw [g2 x, s5 x]
    constructor
    · rintro (q | ⟨j, hj, q⟩)
      · exact .inl ⟨.inl q, fun hx => hasP_no.1 (s6 x hx) x q rfl⟩
      · exact .inr ⟨j, hj, by rw [q, Nat.zero_add]⟩
    · rintro (⟨q | q, r⟩ | ⟨j, hj, q⟩)
      · exact .inl q
      · exact absurd q r
      · exact .inr ⟨j, hj, by rw [q, Nat.zero_add]⟩

/-- A second one can be done behind the first, but that there may be too many, or too much; and it spends what it would. -/
theorem ap_second {L X Y S S' : List CoinD} {t u : TxD} {a b h : Int} (e : apD L t a h = (0, X, S)) (f : apD L u b h = (0, Y, S')) (hab : a ≠ b)
    (h1 : ∀ x ∈ t.2.1, ∀ y ∈ u.2.1, (x.1, x.2.1) ≠ (y.1, y.2.1)) :
    ∃ x V Z, apD X u b h = (x, V, Z) ∧ (x = 0 ∨ x = 12 ∨ x = 2) ∧ (x = 0 → Z = S') := by
  obtain ⟨p1, p2, p3, p4, p5⟩ := ap_mem e
  obtain ⟨q1, q2, q3, q4, q5⟩ := ap_mem f
  obtain ⟨_, M2, k2, _, k4, k5⟩ := apD_zero e
  obtain ⟨f1, N2, f2, f3, f4, f5⟩ := apD_zero f
  have hc : ckApply X u b h = 0 := by
    unfold ckApply ckBoth at f1 ⊢
    rw [k5]
    obtain ⟨hR, hT, c3, c4, c5⟩ := ckApply_zero (by unfold ckApply ckBoth; exact f1 : ckApply L u b h = 0)
    rw [hT, c3, c4]
    simp only [isR, decide_eq_true_eq]
    simp
    exact fun q => c5 (by rw [q]; rfl)
  obtain ⟨N, hN⟩ := spendGo_like h u.2.1 [] L X S' N2 p2 (fun x hx c hp hl => by
    rw [p5 c]
    refine .inl ⟨hl, fun hs => ?_⟩
    obtain ⟨y, hy, hq⟩ := p4 c hs
    exact h1 y hy x hx (by rw [← hq, hp])) f2
  obtain ⟨s1, T, s2, s3, s4, s5, s6, s7, s8⟩ := spendGo_mem h _ _ _ _ _ p2 hN
  rw [List.nil_append] at s2
  subst s2
  have hfr : ∀ j, 0 ≤ j → j < 0 + u.2.2.length → hasP (b, (j : Int)) N = false := by
    intro j _ hj
    refine hasP_no.2 fun c hcn hp => ?_
    have hX := (s5 c).2 (.inl hcn)
    have hnS : c ∉ S' := fun hx => hasP_no.1 (s6 c hx) c hcn rfl
    rcases (p5 c).1 hX with ⟨hl, _⟩ | ⟨i, hi, rfl⟩
    · obtain ⟨_, T2, z2, z3, z4, z5, z6, z7, z8⟩ := spendGo_mem h _ _ _ _ _ p1 f2
      rw [List.nil_append] at z2
      subst z2
      obtain ⟨g1, g2, g3⟩ := giveGo_mem b h _ _ _ _ _ ‹Srt N2› f4
      have hn := g3 j (by omega)
      rw [Nat.zero_add] at hn
      rcases (z5 c).1 hl with hm | hm
      · exact hasP_no.1 hn c hm hp
      · exact hnS hm
    · injection hp with hp _
      simp only [newC] at hp
      exact hab hp
  obtain ⟨V, hV⟩ := giveGo_free b h (isR u) u.2.2 0 N hfr
  obtain ⟨g1, g2, g3⟩ := giveGo_mem b h _ _ _ _ _ s1 hV
  have hone : ∀ c ∈ V, ck1 c = 0 := by
    intro c hc
    rcases (g2 c).1 hc with hm | ⟨j, hj, rfl⟩
    · exact p3 c ((s5 c).2 (.inl hm))
    · exact q3 _ ((q5 _).2 (.inr ⟨j, hj, by rw [Nat.zero_add]⟩))
  obtain ⟨x5, hx5⟩ : ∃ x5, ckCoins V = x5 := ⟨_, rfl⟩
  have hE := apD_eq hc hN f3 hV hx5
  simp only [ne_eq, not_true_eq_false, if_false] at hE
  rcases ckCoins_only hone g1 with r | r | r
  · rw [r] at hx5
    subst hx5
    exact ⟨0, V, S', by rw [hE]; rfl, .inl rfl, fun _ => rfl⟩
  · rw [r] at hx5
    subst hx5
    exact ⟨12, [], [], by rw [hE]; rfl, .inr (.inl rfl), fun q => by cases q⟩
  · rw [r] at hx5
    subst hx5
    exact ⟨2, [], [], by rw [hE]; rfl, .inr (.inr rfl), fun q => by cases q⟩

theorem ap_order {L X Y S S' V W Z Z' : List CoinD} {t u : TxD} {a b h x y : Int} (e : apD L t a h = (0, X, S)) (f : apD L u b h = (0, Y, S')) (hab : a ≠ b)
    (h1 : ∀ x ∈ t.2.1, ∀ y ∈ u.2.1, (x.1, x.2.1) ≠ (y.1, y.2.1)) (h2 : ∀ y ∈ u.2.1, y.1 ≠ a) (h5 : ∀ y ∈ t.2.1, y.1 ≠ b)
    (hv : apD X u b h = (x, V, Z)) (hw : apD Y t a h = (y, W, Z')) : (x = 0 ∨ x = 12 ∨ x = 2) ∧ (y = 0 ∨ y = 12 ∨ y = 2) ∧ (x = 0 → y = 0 → V = W) := by
  obtain ⟨x', V', z', a1, a2, a3⟩ := ap_second e f hab h1
  obtain ⟨y', W', z2', b1, b2, b3⟩ := ap_second f e (fun q => hab q.symm) (fun x hx y hy q => h1 y hy x hx q.symm)
  rw [hv] at a1
  rw [hw] at b1
  injection a1 with a11 a12
  injection a12 with a12 a13
  injection b1 with b11 b12
  injection b12 with b12 b13
  subst a11 a12 a13 b11 b12 b13
  refine ⟨a2, b2, fun hx hy => ?_⟩
  have hz := a3 hx
  have hz' := b3 hy
  subst hx hy hz hz'
  obtain ⟨p1, p2, p3, p4, p5⟩ := ap_mem e
  obtain ⟨q1, q2, q3, q4, q5⟩ := ap_mem f
  obtain ⟨_, v2, _, _, v5⟩ := ap_mem hv
  obtain ⟨_, w2, _, _, w5⟩ := ap_mem hw
  refine Srt.ext v2 w2 fun c => ?_
  rw [v5 c, w5 c, p5 c, q5 c]
  constructor
  · rintro (⟨⟨l1, l2⟩ | ⟨j, hj, l⟩, l3⟩ | ⟨j, hj, l⟩)
    · exact .inl ⟨.inl ⟨l1, l3⟩, l2⟩
    · exact .inr ⟨j, hj, l⟩
    · refine .inl ⟨.inr ⟨j, hj, l⟩, fun hs => ?_⟩
      obtain ⟨y, hy, hq⟩ := p4 c hs
      rw [l] at hq
      injection hq with hq _
      exact h5 y hy hq.symm
  · rintro (⟨⟨l1, l2⟩ | ⟨j, hj, l⟩, l3⟩ | ⟨j, hj, l⟩)
    · exact .inl ⟨.inl ⟨l1, l3⟩, l2⟩
    · exact .inr ⟨j, hj, l⟩
    · refine .inl ⟨.inr ⟨j, hj, l⟩, fun hs => ?_⟩
      obtain ⟨y, hy, hq⟩ := q4 c hs
      rw [l] at hq
      injection hq with hq _
      exact h2 y hy hq.symm

end Go.Proofs.Ytklpajhgfdpboaa
