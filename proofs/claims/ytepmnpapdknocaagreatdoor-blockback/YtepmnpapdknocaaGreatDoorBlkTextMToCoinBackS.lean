/- Blocks that are right and unlike have unlike texts. -/
import Derived.Test.YtepmnpapdknocaaGreatDoorBlkNamesToBlkTurns
import Derived.Test.YtepmnpapdknocaaGreatDoorLockBackToTxBackO
import Derived.Test.YtepmnpapdknocaaGreatDoorCoinFactsToCoinApplyB
namespace Go.Proofs.YtepmnpapdknocaaGreatDoor
open Go.RowKit

/-- Lines, each with its end. -/
def unl (ls : List (List UInt8)) : List UInt8 := (ls.map (· ++ [10])).flatten
theorem unl_cons (x : List UInt8) (ls : List (List UInt8)) : unl (x :: ls) = x ++ 10 :: unl ls := by simp [unl]
theorem unl_append (a b : List (List UInt8)) : unl (a ++ b) = unl a ++ unl b := by simp [unl]
theorem join_unl : ∀ (x : List UInt8) (ls : List (List UInt8)), Lib.join (x :: ls) [10] ++ [10] = unl (x :: ls)
  | x, [] => by simp [Lib.join, unl]
  | x, y :: ls => by
    have := join_unl y ls
    rw [unl_cons, ← this]
    simp [Lib.join]

/-- The lines of a transaction's text. -/
def lnsT (t : TxD) : List (List UInt8) := (rowB txB [t.1] :: (t.2.1.map inL ++ t.2.2.map outL)).map (·.data.toList)
theorem tx_unl (t : TxD) : (txText t).data.toList = unl (lnsT t) := by
  obtain ⟨h, I, O⟩ := t
  rw [txText_lines]
  show (joinB 10 (rowB txB [h] :: (I.map inL ++ O.map outL)) ++ ⟨#[10]⟩ : ByteArray).data.toList = _
  have e : (joinB 10 (rowB txB [h] :: (I.map inL ++ O.map outL)) ++ ⟨#[10]⟩ : ByteArray).data.toList = (joinB 10 (rowB txB [h] :: (I.map inL ++ O.map outL))).data.toList ++ [10] := by simp [ByteArray.data_append]
  rw [e, joinB_data]
  exact join_unl _ _
def hd1 (x : List UInt8) : Option UInt8 := x.head?
theorem row_head (word : ByteArray) (Z : List Int) (c : UInt8) (h : word.data.toList.head? = some c) : (rowB word Z).data.toList.head? = some c := by
  rw [row_fold]
  cases hw : word.data.toList with
  | nil => rw [hw] at h; cases h
  | cons a r => rw [hw] at h; simpa using h
theorem line_head (word : ByteArray) (Z : List Int) (l : List (Int × Int)) (c : UInt8) (h : word.data.toList.head? = some c) : (lineT word Z l).data.toList.head? = some c := by
  have := row_head word Z c h
  unfold lineT
  cases hr : (rowB word Z).data.toList with
  | nil => rw [hr] at this; cases this
  | cons a r =>
    rw [hr] at this
    simp [ByteArray.data_append, hr] at this ⊢
    exact this
/-- The first line, and the others: none of them opens as it does. -/
theorem lns_split (t : TxD) : ∃ x r, lnsT t = x :: r ∧ x.head? = some 116 ∧ ∀ y ∈ r, y.head? ≠ some 116 := by
  refine ⟨_, _, rfl, row_head txB _ 116 rfl, fun y hy => ?_⟩
  obtain ⟨z, hz, rfl⟩ := List.mem_map.1 hy
  rcases List.mem_append.1 hz with hz | hz
  · obtain ⟨i, _, rfl⟩ := List.mem_map.1 hz
    rw [show (inL i).data.toList.head? = some 105 from line_head inB _ _ 105 rfl]
    decide
  · obtain ⟨i, _, rfl⟩ := List.mem_map.1 hz
    rw [show (outL i).data.toList.head? = some 111 from line_head outB _ _ 111 rfl]
    decide
def lnsTs (T : List TxD) : List (List UInt8) := (T.map lnsT).flatten
theorem txs_unl : ∀ (T : List TxD), (txsText T).data.toList = unl (lnsTs T)
  | [] => rfl
  | t :: T => by
    rw [txsText, show lnsTs (t :: T) = lnsT t ++ lnsTs T from rfl, unl_append]
    simp [ByteArray.data_append, tx_unl, txs_unl T]
theorem lns_free {t : TxD} (h : chkTx t = 0) : ∀ x ∈ lnsT t, ∀ c ∈ x, c ≠ 10 := by
  intro x hx
  obtain ⟨z, hz, rfl⟩ := List.mem_map.1 hx
  have ok := TxOk.of h
  rcases List.mem_cons.1 hz with rfl | hz
  · exact row_free txB _ 10 (fun b hb => (tx_signs.1 b hb).2.2) (.inr rfl)
  · rcases List.mem_append.1 hz with hz | hz
    · obtain ⟨i, hi, rfl⟩ := List.mem_map.1 hz
      exact line_free inB _ _ (fun b hb => (tx_signs.2.1 b hb).2.2) (ok.ins i hi).2
    · obtain ⟨i, hi, rfl⟩ := List.mem_map.1 hz
      exact line_free outB _ _ (fun b hb => (tx_signs.2.2 b hb).2.2) (ok.outs i hi).2
theorem block_signs : ∀ b ∈ blockB.data.toList, b ≠ 32 ∧ b ≠ 58 ∧ b ≠ 10 := by decide +kernel
theorem head_fits {p h k n : Int} (f : headOk p h k n = true) : ∀ z ∈ [p, h, k, n], -10000000000 ≤ z ∧ z ≤ 10000000000 := by
  simp only [headOk, Bool.and_eq_true, decide_eq_true_eq] at f
  intro z hz
  simp only [List.mem_cons, List.not_mem_nil, or_false] at hz
  rcases hz with rfl | rfl | rfl | rfl <;> omega
end Go.Proofs.YtepmnpapdknocaaGreatDoor

/- Mathematics of the law BlockNamed: names stay in a later book; unlike blocks have unlike names. -/
namespace Go.Proofs.YtepmnpapdknocaaGreatDoor
open Go.RowKit

theorem nmGo_places : ∀ (l L : List ByteArray) (N : List Int) (M : List ByteArray) (N' : List Int), Bk.nmGo L N l = (M, N', 0) → N' = N ++ l.map (fun s => (Bk.place s M : Int)) ∧ ∀ s ∈ l, 0 < Bk.place s M ∧ s.size ≤ 4000
  | [], L, N, M, N', h => by
    unfold Bk.nmGo at h
    injection h with _ h
    injection h with h _
    exact ⟨by simp [h], fun s hs => by cases hs⟩
  | s :: r, L, N, M, N', h => by
    rw [Bk.nmGo] at h
    split at h
    · next q =>
      obtain ⟨p1, p2, p3⟩ := Bk.nm_place q
      obtain ⟨X, hX⟩ := Bk.nmGo_grows r (Bk.nm L s).1 (N ++ [(Bk.nm L s).2.1]) (by rw [h])
      rw [h] at hX
      simp only at hX
      obtain ⟨h1, h2⟩ := nmGo_places r _ _ M N' h
      have e : Bk.place s M = Bk.place s (Bk.nm L s).1 := by rw [hX]; exact Bk.place_stays X p2
      refine ⟨?_, fun z hz => ?_⟩
      · rw [h1, List.append_assoc, p1, ← e]
        rfl
      · rcases List.mem_cons.1 hz with rfl | hz
        · exact ⟨by rw [e]; exact p2, p3⟩
        · exact h2 z hz
    · next q =>
      injection h with _ h
      injection h with _ h
      exact absurd h q
theorem allR_zero {K l X : List ByteArray} {N : List Int} (h : Bk.allR K l = (X, N, 0)) : Bk.Right K ∧ Bk.nmGo K [] l = (X, N, 0) := by
  unfold Bk.allR at h
  split at h
  · next q => exact ⟨(Bk.right_iff K).1 q, h⟩
  · next q =>
    injection h with _ h
    injection h with _ h
    exact absurd h q
theorem allR_right {K l X : List ByteArray} {N : List Int} (h : Bk.allR K l = (X, N, 0)) : Bk.Right X ∧ ∃ M, X = K ++ M := by
  obtain ⟨h1, h2⟩ := allR_zero h
  have r := Bk.nmGo_right l K [] h1 (by rw [h2])
  have g := Bk.nmGo_grows l K [] (by rw [h2])
  rw [h2] at r g
  exact ⟨r, g⟩
theorem nms_zero {K : List ByteArray} {b : BlkD} {X : List ByteArray} {n : Int} {ns : List Int} (h : nmsB K b = (X, n, ns, 0)) : chkB b = 0 ∧ Bk.Right X ∧ (∀ s ∈ txtsOf b, 0 < Bk.place s X ∧ s.size ≤ 4000) ∧ n = (Bk.place (blkText b) X : Int) ∧ ns = b.2.2.2.2.map (fun t => (Bk.place (txText t) X : Int)) ∧ ∃ M, X = K ++ M := by
  unfold nmsB at h
  split at h
  · next q =>
    injection h with _ h
    injection h with _ h
    injection h with _ h
    exact absurd h q
  · next q =>
    split at h
    · next q2 =>
      injection h with _ h
      injection h with _ h
      injection h with _ h
      exact absurd h q2
    · next q2 =>
      obtain ⟨X', N, x, e⟩ : ∃ X' N x, Bk.allR K (txtsOf b) = (X', N, x) := ⟨_, _, _, rfl⟩
      rw [e] at h q2
      obtain rfl : x = 0 := Decidable.not_not.1 q2
      injection h with h1 h
      injection h with h2 h
      injection h with h3 _
      simp only at h1 h2 h3
      subst h1
      obtain ⟨r, g⟩ := allR_right e
      obtain ⟨p1, p2⟩ := nmGo_places _ _ _ _ _ (allR_zero e).2
      rw [List.nil_append] at p1
      refine ⟨Decidable.not_not.1 q, r, p2, ?_, ?_, g⟩
      · rw [← h2, p1]
        simp [txtsOf]
      · rw [← h3, p1]
        simp [txtsOf]
end Go.Proofs.YtepmnpapdknocaaGreatDoor

/- Nothing is spent twice: in plain functions. Nothing of the program. -/
namespace Go.Proofs.YtepmnpapdknocaaGreatDoor

theorem hasP_no {p : PtD} {L : List CoinD} : hasP p L = false ↔ ∀ c ∈ L, pt c ≠ p := by
  rw [← Bool.not_eq_true, hasP_iff]
  exact ⟨fun h c hc e => h ⟨c, hc, e⟩, fun h ⟨c, hc, e⟩ => h c hc e⟩
theorem apD_zero {L M S : List CoinD} {t : TxD} {name h : Int} (e : apD L t name h = (0, M, S)) : ckApply L t name h = 0 ∧ ∃ M2, spendGo h t.2.1 [] L = (0, S, M2) ∧ covD S t = 0 ∧ giveGo name h (isR t) 0 t.2.2 M2 = (0, M) ∧ ckCoins M = 0 := by
  obtain ⟨x1, h1⟩ : ∃ x1, ckApply L t name h = x1 := ⟨_, rfl⟩
  obtain ⟨⟨x2, S2, M2⟩, h2⟩ : ∃ r, spendGo h t.2.1 [] L = r := ⟨_, rfl⟩
  obtain ⟨x3, h3⟩ : ∃ x3, covD S2 t = x3 := ⟨_, rfl⟩
  obtain ⟨⟨x4, M4⟩, h4⟩ : ∃ r, giveGo name h (isR t) 0 t.2.2 M2 = r := ⟨_, rfl⟩
  obtain ⟨x5, h5⟩ : ∃ x5, ckCoins M4 = x5 := ⟨_, rfl⟩
  rw [apD_eq h1 h2 h3 h4 h5] at e
  split at e
  · rename_i q; injection e with e _; exact absurd e q
  rename_i q1
  split at e
  · rename_i q; injection e with e _; exact absurd e q
  rename_i q2
  split at e
  · rename_i q; injection e with e _; exact absurd e q
  rename_i q3
  split at e
  · rename_i q; injection e with e _; exact absurd e q
  rename_i q4
  split at e
  · rename_i q; injection e with e _; exact absurd e q
  rename_i q5
  have e1 : x1 = 0 := by omega
  have e2 : x2 = 0 := by omega
  have e3 : x3 = 0 := by omega
  have e4 : x4 = 0 := by omega
  have e5 : x5 = 0 := by omega
  injection e with _ e
  injection e with ea eb
  subst e1 e2 e3 e4 e5 ea eb
  exact ⟨h1, M2, h2, h3, h4, h5⟩

end Go.Proofs.YtepmnpapdknocaaGreatDoor

/- What is done is undone: in plain functions. Nothing of the program. -/
namespace Go.Proofs.YtepmnpapdknocaaGreatDoor

/-- What give makes: what was there, and the new ones; each at a point that was free; in order. -/
theorem giveGo_mem (name h : Int) (r : Bool) : ∀ (O : List OutD) (i : Nat) (L M : List CoinD), Srt L → giveGo name h r i O L = (0, M) →
    Srt M ∧ (∀ x, x ∈ M ↔ x ∈ L ∨ ∃ j, ∃ hj : j < O.length, x = newC name (i + j) O[j] h r) ∧ (∀ j, j < O.length → hasP (name, ((i + j : Nat) : Int)) L = false)
  | [], i, L, M, hs, e => by
    unfold giveGo at e
    injection e with _ e
    subst e
    exact ⟨hs, fun x => ⟨.inl, fun q => q.elim id fun ⟨j, hj, _⟩ => absurd hj (by simp)⟩, fun j hj => absurd hj (by simp)⟩
  | o :: q, i, L, M, hs, e => by
    unfold giveGo at e
    split at e
    · injection e with e _; cases e
    · rename_i hf
      have hf' : hasP (pt (newC name i o h r)) L = false := by simpa [newC, pt] using hf
      obtain ⟨h1, h2, h3⟩ := giveGo_mem name h r q (i + 1) _ M (putC_srt hs) e
      refine ⟨h1, fun x => ?_, fun j hj => ?_⟩
      · rw [h2 x, mem_putC hf']
        constructor
        · rintro ((rfl | g) | ⟨j, hj, rfl⟩)
          · exact .inr ⟨0, by simp, by simp⟩
          · exact .inl g
          · exact .inr ⟨j + 1, by simpa using hj, by simp [Nat.add_assoc, Nat.add_comm 1 j]⟩
        · rintro (g | ⟨j, hj, rfl⟩)
          · exact .inl (.inr g)
          · cases j with
            | zero => exact .inl (.inl (by simp))
            | succ j => exact .inr ⟨j, by simpa using hj, by simp [Nat.add_assoc, Nat.add_comm 1 j]⟩
      · cases j with
        | zero => simpa [newC, pt] using hf'
        | succ j =>
          have := h3 j (by simpa using hj)
          rw [show i + 1 + j = i + (j + 1) by omega] at this
          refine hasP_no.2 fun c hc => (hasP_no.1 this) c ((mem_putC hf').2 (.inr hc))

theorem back_mem (name h : Int) (r : Bool) (O : List OutD) (L : List CoinD) (hL : Srt L) (hfree : ∀ j, j < O.length → hasP (name, ((j : Nat) : Int)) L = false) : ∀ (m k : Nat) (N : List CoinD), m + k = O.length → Srt N → (∀ x, x ∈ N ↔ x ∈ L ∨ ∃ j, ∃ hj : j < O.length, k ≤ j ∧ x = newC name j O[j] h r) → backGo name k (O.drop k) N = (0, L)
  | 0, k, N, hm, hN, hx => by
    rw [List.drop_of_length_le (by omega), backGo]
    rw [Srt.ext hN hL fun x => by
      rw [hx x]
      exact ⟨fun q => q.elim id fun ⟨j, hj, hk, _⟩ => absurd hj (by omega), .inl⟩]
  | m + 1, k, N, hm, hN, hx => by
    have hk : k < O.length := by omega
    have hmem : newC name k O[k] h r ∈ N := (hx _).2 (.inr ⟨k, hk, Nat.le_refl _, rfl⟩)
    have ht := takeD_mem (p := (name, (k : Int))) hN hmem rfl
    rw [List.drop_eq_getElem_cons hk, backGo, ht]
    simp only
    rw [if_pos (by rfl)]
    refine back_mem name h r O L hL hfree m (k + 1) _ (by omega) (hN.filter _) fun x => ?_
    rw [List.mem_filter, hx x, decide_eq_true_eq]
    constructor
    · rintro ⟨g | ⟨j, hj, hkj, rfl⟩, hne⟩
      · exact .inl g
      · refine .inr ⟨j, hj, ?_, rfl⟩
        rcases Nat.lt_or_ge k j with q | q
        · exact q
        · obtain rfl : j = k := by omega
          exact absurd rfl hne
    · rintro (g | ⟨j, hj, hkj, rfl⟩)
      · exact ⟨.inl g, (hasP_no.1 (hfree k hk)) x g⟩
      · refine ⟨.inr ⟨j, hj, by omega, rfl⟩, fun q => ?_⟩
        have q2 : ((j : Nat) : Int) = ((k : Nat) : Int) := congrArg Prod.snd q
        omega

theorem sum_take {p : PtD} {c : CoinD} : ∀ {L : List CoinD}, Srt L → c ∈ L → pt c = p → sumC L = cv c + sumC (L.filter fun d => decide (pt d ≠ p))
  | [], _, hc, _ => by cases hc
  | d :: r, hs, hc, e => by
    rw [sumC_cons]
    rcases List.mem_cons.1 hc with rfl | hc
    · rw [List.filter_cons_of_neg (by simp [e])]
      have : r.filter (fun d => decide (pt d ≠ p)) = r := by
        rw [List.filter_eq_self]
        intro y hy
        exact decide_eq_true (fun q => lt_ne (hs.head y hy) (by rw [e, q]))
      rw [this]
    · have hne : pt d ≠ p := fun q => lt_ne (hs.head c hc) (by rw [e, q])
      rw [List.filter_cons_of_pos (by simp [hne]), sumC_cons, sum_take hs.tail hc e]
      omega

/-- What spend takes stands in the ins' order, and with what is left it is what was. -/
theorem spendGo_mem (h : Int) : ∀ (I : List InD) (S0 L S M : List CoinD), Srt L → spendGo h I S0 L = (0, S, M) →
    Srt M ∧ ∃ T, S = S0 ++ T ∧ T.length = I.length ∧ (∀ j (h1 : j < T.length) (h2 : j < I.length), pt T[j] = (I[j].1, I[j].2.1)) ∧ (∀ x, x ∈ L ↔ x ∈ M ∨ x ∈ T) ∧ (∀ x ∈ T, hasP (pt x) M = false) ∧ T.Pairwise (fun a b => pt a ≠ pt b) ∧ sumC L = sumC M + sumC T
  | [], S0, L, S, M, hs, e => by
    unfold spendGo at e
    injection e with _ e
    injection e with e1 e2
    subst e1 e2
    exact ⟨hs, [], by simp, rfl, fun j h1 => absurd h1 (by simp), fun x => by simp, fun x hx => (by cases hx), List.Pairwise.nil, by simp [sumC]⟩
  | x :: r, S0, L, S, M, hs, e => by
    unfold spendGo at e
    split at e
    · injection e with e _; cases e
    · rename_i c L' ht
      split at e
      · injection e with e _; cases e
      · split at e
        · injection e with e _; cases e
        · obtain ⟨t1, t2, t3⟩ := takeD_some ht
          obtain ⟨h1, T, h2, h3, h4, h5, h6, h7, h8⟩ := spendGo_mem h r _ L' S M (by rw [t3]; exact hs.filter _) e
          have hin : ∀ y, y ∈ L' ↔ y ∈ L ∧ pt y ≠ (x.1, x.2.1) := fun y => by rw [t3, List.mem_filter, decide_eq_true_eq]
          refine ⟨h1, c :: T, by rw [h2, List.append_assoc]; rfl, by simp [h3], fun j h1 h2 => ?_, fun y => ?_, fun y hy => ?_, ?_, ?_⟩
          · cases j with
            | zero => exact t2
            | succ j => exact h4 j (by simpa using h1) (by simpa using h2)
          · constructor
            · intro hy
              by_cases q : pt y = (x.1, x.2.1)
              · exact .inr (by rw [hs.inj hy t1 (by rw [q, t2])]; exact List.mem_cons_self ..)
              · rcases (h5 y).1 ((hin y).2 ⟨hy, q⟩) with g | g
                · exact .inl g
                · exact .inr (List.mem_cons_of_mem _ g)
            · rintro (g | g)
              · exact ((hin y).1 ((h5 y).2 (.inl g))).1
              · rcases List.mem_cons.1 g with rfl | g
                · exact t1
                · exact ((hin y).1 ((h5 y).2 (.inr g))).1
          · rcases List.mem_cons.1 hy with rfl | hy
            · refine hasP_no.2 fun d hd e => ?_
              exact ((hin d).1 ((h5 d).2 (.inl hd))).2 (by rw [e, t2])
            · exact h6 y hy
          · refine List.pairwise_cons.2 ⟨fun y hy e => ?_, h7⟩
            exact ((hin y).1 ((h5 y).2 (.inr hy))).2 (by rw [← e, t2])
          · have h9 := sum_take hs t1 t2
            rw [← t3] at h9
            rw [h9, h8, sumC_cons]
            omega

/-- What was taken is put back, whatever was put ahead of it. -/
theorem putb_mem (I : List InD) (S M2 L : List CoinD) (hlen : S.length = I.length) (hL : Srt L) (hpt : ∀ j (h1 : j < S.length) (h2 : j < I.length), pt S[j] = (I[j].1, I[j].2.1)) (hmem : ∀ x, x ∈ L ↔ x ∈ M2 ∨ x ∈ S) (hfree : ∀ x ∈ S, hasP (pt x) M2 = false) (hpw : S.Pairwise (fun a b => pt a ≠ pt b)) :
    ∀ (m k : Nat) (N : List CoinD), m + k = S.length → Srt N → (∀ x, x ∈ N ↔ x ∈ M2 ∨ x ∈ S.take k) → putbGo (I.drop k) (S.drop k) N = (0, L)
  | 0, k, N, hm, hN, hx => by
    rw [List.drop_of_length_le (by omega), List.drop_of_length_le (by omega), putbGo]
    · rw [Srt.ext hN hL fun x => by rw [hx x, hmem x, List.take_of_length_le (by omega)]]
    · intro _ _ _ _ h; cases h
  | m + 1, k, N, hm, hN, hx => by
    have hk : k < S.length := by omega
    have hk2 : k < I.length := by omega
    have hno : hasP (pt S[k]) N = false := hasP_no.2 fun c hc e => by
      rcases (hx c).1 hc with g | g
      · exact (hasP_no.1 (hfree _ (List.getElem_mem hk))) c g e
      · obtain ⟨j, hj, rfl⟩ := List.mem_take_iff_getElem.1 g
        have hjk : j < k := by omega
        exact (List.pairwise_iff_getElem.1 hpw j k (by omega) hk hjk) e
    rw [List.drop_eq_getElem_cons hk, List.drop_eq_getElem_cons hk2, putbGo, if_neg (by
      rintro (q | q)
      · exact q (hpt k hk hk2)
      · rw [hno] at q; cases q)]
    refine putb_mem I S M2 L hlen hL hpt hmem hfree hpw m (k + 1) _ (by omega) (putC_srt hN) fun x => ?_
    rw [mem_putC hno, hx x, List.take_succ_eq_append_getElem hk, List.mem_append, List.mem_singleton]
    constructor
    · rintro (rfl | g | g)
      · exact .inr (.inr rfl)
      · exact .inl g
      · exact .inr (.inl g)
    · rintro (g | g | rfl)
      · exact .inr (.inl g)
      · exact .inr (.inr g)
      · exact .inl rfl

/-- What is done is undone. -/
theorem back_ok {L M S : List CoinD} {t : TxD} {name h : Int} (e : apD L t name h = (0, M, S)) : rvD M t name S = (0, L) := by
  obtain ⟨h1, M2, h2, h3, h4, h5⟩ := apD_zero e
  obtain ⟨hR, hT, _, _, _⟩ := ckApply_zero h1
  obtain ⟨s1, T, s2, s3, s4, s5, s6, s7, s8⟩ := spendGo_mem h _ _ _ _ _ hR.srt h2
  rw [List.nil_append] at s2
  subst s2
  obtain ⟨g1, g2, g3⟩ := giveGo_mem name h _ _ _ _ _ s1 h4
  have hb : backGo name 0 t.2.2 M = (0, M2) := by
    have := back_mem name h (isR t) t.2.2 M2 s1 (fun j hj => by have := g3 j hj; rwa [Nat.zero_add] at this) t.2.2.length 0 M (by omega) g1 (fun x => by
      rw [g2 x]
      constructor
      · rintro (q | ⟨j, hj, rfl⟩)
        · exact .inl q
        · exact .inr ⟨j, hj, Nat.zero_le _, by rw [Nat.zero_add]⟩
      · rintro (q | ⟨j, hj, _, rfl⟩)
        · exact .inl q
        · exact .inr ⟨j, hj, by rw [Nat.zero_add]⟩)
    simpa using this
  have hp : putbGo t.2.1 S M2 = (0, L) := by
    have := putb_mem t.2.1 S M2 L s3 hR.srt s4 s5 s6 s7 S.length 0 M2 (by omega) s1 (fun x => by simp)
    simpa using this
  have hc : ckCoins L = 0 := (ckCoins_zero L).2 hR
  have hb0 : ckBoth M t = 0 := by unfold ckBoth; rw [if_neg (by rw [h5]; decide)]; exact hT
  rw [rvD_eq hb0 hb hp hc, if_neg (by decide), if_neg (by rw [s3]; simp), if_neg (by decide), if_neg (by decide), if_neg (by decide)]

end Go.Proofs.YtepmnpapdknocaaGreatDoor

/- But for rewards nothing is made: in plain functions. Nothing of the program. -/
namespace Go.Proofs.YtepmnpapdknocaaGreatDoor

theorem sum_put {c : CoinD} {L : List CoinD} (hs : Srt L) (hn : hasP (pt c) L = false) : sumC (putC c L) = cv c + sumC L := by
  rw [putC_at hs hn, sumC_append, sumC_cons]
  have : sumC L = sumC (L.take (pos (pt c) L)) + sumC (L.drop (pos (pt c) L)) := by rw [← sumC_append, List.take_append_drop]
  omega
theorem giveGo_sum (name h : Int) (r : Bool) : ∀ (O : List OutD) (i : Nat) (L M : List CoinD), Srt L → giveGo name h r i O L = (0, M) → sumC M = sumC L + sumO O
  | [], i, L, M, hs, e => by
    unfold giveGo at e
    injection e with _ e
    subst e
    simp [sumO]
  | o :: q, i, L, M, hs, e => by
    unfold giveGo at e
    split at e
    · injection e with e _; cases e
    · rename_i hf
      have hf' : hasP (pt (newC name i o h r)) L = false := by simpa [newC, pt] using hf
      have h1 := giveGo_sum name h r q (i + 1) _ M (putC_srt hs) e
      rw [sum_put hs hf'] at h1
      have h2 : cv (newC name i o h r) = o.1 := rfl
      have h3 : sumO (o :: q) = o.1 + sumO q := by simp [sumO]
      rw [h1, h2, h3]
      omega
end Go.Proofs.YtepmnpapdknocaaGreatDoor
