/- What the reading of a transaction's lines builds: its box, its rows of ins and outs, their orders; told apart by their types. -/
import Derived.Test.YtmomfkikogbdeaaGreatDoorTxCheckBToBlkMem
import Derived.Test.YtmomfkikogbdeaaGreatDoorLockRead
import Derived.Test.YtmomfkikogbdeaaGreatDoorLockPrintToTxPrintB
import Derived.Deep.AppendLies
import Derived.OwnWalk
import Derived.Test.YtmomfkikogbdeaaGreatDoorBlkNamesToBlkReward
import Derived.Lib.IndexBytes
import Derived.Test.YtmomfkikogbdeaaGreatDoorCoinCoversToCoinFacts
import Derived.Test.YtmomfkikogbdeaaGreatDoorCoinApplyBToLockFlat
namespace Go.Proofs.YtmomfkikogbdeaaGreatDoor
open Go.RowKit

/-! What lines say. -/
/-! Rows of ins and outs, with the values of their orders. -/
def inCells : List (InD × Value) → List Value
  | [] => []
  | x :: r => .int .i64 x.1.1 :: .int .i64 x.1.2.1 :: x.2 :: inCells r
def outCells : List (OutD × Value) → List Value
  | [] => []
  | x :: r => .int .i64 x.1.1 :: x.2 :: outCells r
/-- A row stays where blocks of its type stay. -/
theorem own_type {w w' : World} {base : Nat} {e : TypeId} {size : Nat} {v : Value} {n : Nat} {xs : List Value} (h : w.ownsRow base e size v n xs) (hk : ∀ (k : Nat) (cs : Array Value), w.heap[k]? = some (.cells cs e (0, 0)) → w'.heap[k]? = w.heap[k]?) : w'.ownsRow base e size v n xs := by
  obtain ⟨hl, h0 | ⟨g, cap, cur, hv, hg, hh, r⟩⟩ := h
  · exact ⟨hl, .inl h0⟩
  · exact ⟨hl, .inr ⟨g, cap, cur, hv, hg, (hk g cur hh).trans hh, r⟩⟩

structure PL (w : World) (q p lb : Nat) (A : Array Value) (h : Int) (wr : World) (v1 v2 : Value) (L1 : List (InD × Value)) (L2 : List (OutD × Value)) : Prop where
  box : wr.heap[p]? = some (.cells #[.int .i64 h, v1, v2] 59 (0, 0))
  res : wr.heap[q]? = some (.cells #[.int .i64 0, .slice none 0 0, .slice none 0 0] 59 (0, 0))
  pq : p ≠ q
  lin : wr.heap[lb]? = some (.cells A 9 (0, 0))
  own1 : wr.ownsRow w.heap.size 119 3 v1 L1.length (inCells L1)
  own2 : wr.ownsRow w.heap.size 122 2 v2 L2.length (outCells L2)
  keys1 : ∀ x ∈ L1, wr.ownsRow w.heap.size 164 2 x.2 x.1.2.2.length (flat x.1.2.2)
  keys2 : ∀ x ∈ L2, wr.ownsRow w.heap.size 164 2 x.2 x.1.2.length (flat x.1.2)
  bel : Below w.heap.size w wr
  pge : w.heap.size ≤ p

theorem PL.later {w : World} {q p lb : Nat} {A : Array Value} {h : Int} {wr w' : World} {v1 v2 : Value} {L1 : List (InD × Value)} {L2 : List (OutD × Value)} (s : PL w q p lb A h wr v1 v2 L1 L2) (hb : Below wr.heap.size wr w') : PL w q p lb A h w' v1 v2 L1 L2 where
  box := (hb.block _ (lt_of_block s.box)).trans s.box
  res := (hb.block _ (lt_of_block s.res)).trans s.res
  pq := s.pq
  lin := (hb.block _ (lt_of_block s.lin)).trans s.lin
  own1 := own_keep s.own1 hb
  own2 := own_keep s.own2 hb
  keys1 := fun x hx => own_keep (s.keys1 x hx) hb
  keys2 := fun x hx => own_keep (s.keys2 x hx) hb
  bel := bel_on s.bel hb
  pge := s.pge

/-- What an append to a row leaves alone: all blocks of other types. -/
theorem grow_type {w w' : World} {base : Nat} {e : TypeId} {size : Nat} {v : Value} {n : Nat} {xs : List Value} (h : w.ownsRow base e size v n xs) (hg : w.grownBy w' v.ownBlock) (k : Nat) (cs : Array Value) (t : TypeId) (hk : w.heap[k]? = some (.cells cs t (0, 0))) (ht : t ≠ e) : w'.heap[k]? = w.heap[k]? := by
  refine hg.block k (lt_of_block hk) (fun e1 => ?_)
  obtain ⟨_, ⟨rfl, _⟩ | ⟨g, cap, cur, rfl, _, hh, _⟩⟩ := h
  · cases e1
  · have e2 : k = g := by injection e1
    subst e2
    rw [hk] at hh
    injection hh with hh
    injection hh with _ hh
    exact ht hh

theorem PL.alloc {w : World} {q p lb : Nat} {A : Array Value} {h : Int} {wr : World} {v1 v2 : Value} {L1 : List (InD × Value)} {L2 : List (OutD × Value)} (s : PL w q p lb A h wr v1 v2 L1 L2) (o : Obj) : PL w q p lb A h (wr.alloc o) v1 v2 L1 L2 := s.later (bel_new wr o)
theorem PL.drewN {w : World} {q p lb : Nat} {A : Array Value} {h : Int} {wr : World} {v1 v2 : Value} {L1 : List (InD × Value)} {L2 : List (OutD × Value)} (s : PL w q p lb A h wr v1 v2 L1 L2) (n : Nat) : PL w q p lb A h (wr.drewN n) v1 v2 L1 L2 :=
  s.later ⟨rfl, rfl, rfl, Nat.le_refl _, fun _ _ => rfl⟩

end Go.Proofs.YtmomfkikogbdeaaGreatDoor

/- Blocks that are right and unlike have unlike texts. -/
namespace Go.Proofs.YtmomfkikogbdeaaGreatDoor
open Go.RowKit

def hd1 (x : List UInt8) : Option UInt8 := x.head?
end Go.Proofs.YtmomfkikogbdeaaGreatDoor

/- Mathematics of the law BlockNamed: names stay in a later book; unlike blocks have unlike names. -/
namespace Go.Proofs.YtmomfkikogbdeaaGreatDoor
open Go.RowKit

theorem nmGo_places : ∀ (l L : List ByteArray) (N : List Int) (M : List ByteArray) (N' : List Int), Bk.nmGo L N l = (M, N', 0) → N' = N ++ l.map (fun s => (Bk.place s M : Int)) ∧ ∀ s ∈ l, 0 < Bk.place s M ∧ s.size ≤ 4000
  | [], L, N, M, N', h => by
    unfold Bk.nmGo at h
    injection h with _ h
    injection h with h _
    exact ⟨by simp [h], fun s hs => by cases hs⟩
  | s :: r, L, N, M, N', h => by
    rw [Bk.nmGo] at h
    split at h
    · next q =>
      obtain ⟨p1, p2, p3⟩ := Bk.nm_place q
      obtain ⟨X, hX⟩ := Bk.nmGo_grows r (Bk.nm L s).1 (N ++ [(Bk.nm L s).2.1]) (by rw [h])
      rw [h] at hX
      simp only at hX
      obtain ⟨h1, h2⟩ := nmGo_places r _ _ M N' h
      have e : Bk.place s M = Bk.place s (Bk.nm L s).1 := by rw [hX]; exact Bk.place_stays X p2
      refine ⟨?_, fun z hz => ?_⟩
      · rw [h1, List.append_assoc, p1, ← e]
        rfl
      · rcases List.mem_cons.1 hz with rfl | hz
        · exact ⟨by rw [e]; exact p2, p3⟩
        · exact h2 z hz
    · next q =>
      injection h with _ h
      injection h with _ h
      exact absurd h q
theorem allR_zero {K l X : List ByteArray} {N : List Int} (h : Bk.allR K l = (X, N, 0)) : Bk.Right K ∧ Bk.nmGo K [] l = (X, N, 0) := by
  unfold Bk.allR at h
  split at h
  · next q => exact ⟨(Bk.right_iff K).1 q, h⟩
  · next q =>
    injection h with _ h
    injection h with _ h
    exact absurd h q
theorem allR_right {K l X : List ByteArray} {N : List Int} (h : Bk.allR K l = (X, N, 0)) : Bk.Right X ∧ ∃ M, X = K ++ M := by
  obtain ⟨h1, h2⟩ := allR_zero h
  have r := Bk.nmGo_right l K [] h1 (by rw [h2])
  have g := Bk.nmGo_grows l K [] (by rw [h2])
  rw [h2] at r g
  exact ⟨r, g⟩
theorem nms_zero {K : List ByteArray} {b : BlkD} {X : List ByteArray} {n : Int} {ns : List Int} (h : nmsB K b = (X, n, ns, 0)) : chkB b = 0 ∧ Bk.Right X ∧ (∀ s ∈ txtsOf b, 0 < Bk.place s X ∧ s.size ≤ 4000) ∧ n = (Bk.place (blkText b) X : Int) ∧ ns = b.2.2.2.2.map (fun t => (Bk.place (txText t) X : Int)) ∧ ∃ M, X = K ++ M := by
  unfold nmsB at h
  split at h
  · next q =>
    injection h with _ h
    injection h with _ h
    injection h with _ h
    exact absurd h q
  · next q =>
    split at h
    · next q2 =>
      injection h with _ h
      injection h with _ h
      injection h with _ h
      exact absurd h q2
    · next q2 =>
      obtain ⟨X', N, x, e⟩ : ∃ X' N x, Bk.allR K (txtsOf b) = (X', N, x) := ⟨_, _, _, rfl⟩
      rw [e] at h q2
      obtain rfl : x = 0 := Decidable.not_not.1 q2
      injection h with h1 h
      injection h with h2 h
      injection h with h3 _
      simp only at h1 h2 h3
      subst h1
      obtain ⟨r, g⟩ := allR_right e
      obtain ⟨p1, p2⟩ := nmGo_places _ _ _ _ _ (allR_zero e).2
      rw [List.nil_append] at p1
      refine ⟨Decidable.not_not.1 q, r, p2, ?_, ?_, g⟩
      · rw [← h2, p1]
        simp [txtsOf]
      · rw [← h3, p1]
        simp [txtsOf]
end Go.Proofs.YtmomfkikogbdeaaGreatDoor

/- Nothing is spent twice: in plain functions. Nothing of the program. -/
namespace Go.Proofs.YtmomfkikogbdeaaGreatDoor

theorem hasP_no {p : PtD} {L : List CoinD} : hasP p L = false ↔ ∀ c ∈ L, pt c ≠ p := by
  rw [← Bool.not_eq_true, hasP_iff]
  exact ⟨fun h c hc e => h ⟨c, hc, e⟩, fun h ⟨c, hc, e⟩ => h c hc e⟩
theorem apD_zero {L M S : List CoinD} {t : TxD} {name h : Int} (e : apD L t name h = (0, M, S)) : ckApply L t name h = 0 ∧ ∃ M2, spendGo h t.2.1 [] L = (0, S, M2) ∧ covD S t = 0 ∧ giveGo name h (isR t) 0 t.2.2 M2 = (0, M) ∧ ckCoins M = 0 := by
  obtain ⟨x1, h1⟩ : ∃ x1, ckApply L t name h = x1 := ⟨_, rfl⟩
  obtain ⟨⟨x2, S2, M2⟩, h2⟩ : ∃ r, spendGo h t.2.1 [] L = r := ⟨_, rfl⟩
  obtain ⟨x3, h3⟩ : ∃ x3, covD S2 t = x3 := ⟨_, rfl⟩
  obtain ⟨⟨x4, M4⟩, h4⟩ : ∃ r, giveGo name h (isR t) 0 t.2.2 M2 = r := ⟨_, rfl⟩
  obtain ⟨x5, h5⟩ : ∃ x5, ckCoins M4 = x5 := ⟨_, rfl⟩
  rw [apD_eq h1 h2 h3 h4 h5] at e
  split at e
  · rename_i q; injection e with e _; exact absurd e q
  rename_i q1
  split at e
  · rename_i q; injection e with e _; exact absurd e q
  rename_i q2
  split at e
  · rename_i q; injection e with e _; exact absurd e q
  rename_i q3
  split at e
  · rename_i q; injection e with e _; exact absurd e q
  rename_i q4
  split at e
  · rename_i q; injection e with e _; exact absurd e q
  rename_i q5
  have e1 : x1 = 0 := by omega
  have e2 : x2 = 0 := by omega
  have e3 : x3 = 0 := by omega
  have e4 : x4 = 0 := by omega
  have e5 : x5 = 0 := by omega
  injection e with _ e
  injection e with ea eb
  subst e1 e2 e3 e4 e5 ea eb
  exact ⟨h1, M2, h2, h3, h4, h5⟩

end Go.Proofs.YtmomfkikogbdeaaGreatDoor

/- What is done is undone: in plain functions. Nothing of the program. -/
namespace Go.Proofs.YtmomfkikogbdeaaGreatDoor

/-- What give makes: what was there, and the new ones; each at a point that was free; in order. -/
theorem giveGo_mem (name h : Int) (r : Bool) : ∀ (O : List OutD) (i : Nat) (L M : List CoinD), Srt L → giveGo name h r i O L = (0, M) →
    Srt M ∧ (∀ x, x ∈ M ↔ x ∈ L ∨ ∃ j, ∃ hj : j < O.length, x = newC name (i + j) O[j] h r) ∧ (∀ j, j < O.length → hasP (name, ((i + j : Nat) : Int)) L = false)
  | [], i, L, M, hs, e => by
    unfold giveGo at e
    injection e with _ e
    subst e
    exact ⟨hs, fun x => ⟨.inl, fun q => q.elim id fun ⟨j, hj, _⟩ => absurd hj (by simp)⟩, fun j hj => absurd hj (by simp)⟩
  | o :: q, i, L, M, hs, e => by
    unfold giveGo at e
    split at e
    · injection e with e _; cases e
    · rename_i hf
      have hf' : hasP (pt (newC name i o h r)) L = false := by simpa [newC, pt] using hf
      obtain ⟨h1, h2, h3⟩ := giveGo_mem name h r q (i + 1) _ M (putC_srt hs) e
      refine ⟨h1, fun x => ?_, fun j hj => ?_⟩
      · rw [h2 x, mem_putC hf']
        constructor
        · rintro ((rfl | g) | ⟨j, hj, rfl⟩)
          · exact .inr ⟨0, by simp, by simp⟩
          · exact .inl g
          · exact .inr ⟨j + 1, by simpa using hj, by simp [Nat.add_assoc, Nat.add_comm 1 j]⟩
        · rintro (g | ⟨j, hj, rfl⟩)
          · exact .inl (.inr g)
          · cases j with
            | zero => exact .inl (.inl (by simp))
            | succ j => exact .inr ⟨j, by simpa using hj, by simp [Nat.add_assoc, Nat.add_comm 1 j]⟩
      · cases j with
        | zero => simpa [newC, pt] using hf'
        | succ j =>
          have := h3 j (by simpa using hj)
          rw [show i + 1 + j = i + (j + 1) by omega] at this
          refine hasP_no.2 fun c hc => (hasP_no.1 this) c ((mem_putC hf').2 (.inr hc))

theorem back_mem (name h : Int) (r : Bool) (O : List OutD) (L : List CoinD) (hL : Srt L) (hfree : ∀ j, j < O.length → hasP (name, ((j : Nat) : Int)) L = false) : ∀ (m k : Nat) (N : List CoinD), m + k = O.length → Srt N → (∀ x, x ∈ N ↔ x ∈ L ∨ ∃ j, ∃ hj : j < O.length, k ≤ j ∧ x = newC name j O[j] h r) → backGo name k (O.drop k) N = (0, L)
  | 0, k, N, hm, hN, hx => by
    rw [List.drop_of_length_le (by omega), backGo]
    rw [Srt.ext hN hL fun x => by
      rw [hx x]
      exact ⟨fun q => q.elim id fun ⟨j, hj, hk, _⟩ => absurd hj (by omega), .inl⟩]
  | m + 1, k, N, hm, hN, hx => by
    have hk : k < O.length := by omega
    have hmem : newC name k O[k] h r ∈ N := (hx _).2 (.inr ⟨k, hk, Nat.le_refl _, rfl⟩)
    have ht := takeD_mem (p := (name, (k : Int))) hN hmem rfl
    rw [List.drop_eq_getElem_cons hk, backGo, ht]
    simp only
    rw [if_pos (by rfl)]
    refine back_mem name h r O L hL hfree m (k + 1) _ (by omega) (hN.filter _) fun x => ?_
    rw [List.mem_filter, hx x, decide_eq_true_eq]
    constructor
    · rintro ⟨g | ⟨j, hj, hkj, rfl⟩, hne⟩
      · exact .inl g
      · refine .inr ⟨j, hj, ?_, rfl⟩
        rcases Nat.lt_or_ge k j with q | q
        · exact q
        · obtain rfl : j = k := by omega
          exact absurd rfl hne
    · rintro (g | ⟨j, hj, hkj, rfl⟩)
      · exact ⟨.inl g, (hasP_no.1 (hfree k hk)) x g⟩
      · refine ⟨.inr ⟨j, hj, by omega, rfl⟩, fun q => ?_⟩
        have q2 : ((j : Nat) : Int) = ((k : Nat) : Int) := congrArg Prod.snd q
        omega

theorem sum_take {p : PtD} {c : CoinD} : ∀ {L : List CoinD}, Srt L → c ∈ L → pt c = p → sumC L = cv c + sumC (L.filter fun d => decide (pt d ≠ p))
  | [], _, hc, _ => by cases hc
  | d :: r, hs, hc, e => by
    rw [sumC_cons]
    rcases List.mem_cons.1 hc with rfl | hc
    · rw [List.filter_cons_of_neg (by simp [e])]
      have : r.filter (fun d => decide (pt d ≠ p)) = r := by
        rw [List.filter_eq_self]
        intro y hy
        exact decide_eq_true (fun q => lt_ne (hs.head y hy) (by rw [e, q]))
      rw [this]
    · have hne : pt d ≠ p := fun q => lt_ne (hs.head c hc) (by rw [e, q])
      rw [List.filter_cons_of_pos (by simp [hne]), sumC_cons, sum_take hs.tail hc e]
      omega

/-- What spend takes stands in the ins' order, and with what is left it is what was. -/
theorem spendGo_mem (h : Int) : ∀ (I : List InD) (S0 L S M : List CoinD), Srt L → spendGo h I S0 L = (0, S, M) →
    Srt M ∧ ∃ T, S = S0 ++ T ∧ T.length = I.length ∧ (∀ j (h1 : j < T.length) (h2 : j < I.length), pt T[j] = (I[j].1, I[j].2.1)) ∧ (∀ x, x ∈ L ↔ x ∈ M ∨ x ∈ T) ∧ (∀ x ∈ T, hasP (pt x) M = false) ∧ T.Pairwise (fun a b => pt a ≠ pt b) ∧ sumC L = sumC M + sumC T
  | [], S0, L, S, M, hs, e => by
    unfold spendGo at e
    injection e with _ e
    injection e with e1 e2
    subst e1 e2
    exact ⟨hs, [], by simp, rfl, fun j h1 => absurd h1 (by simp), fun x => by simp, fun x hx => (by cases hx), List.Pairwise.nil, by simp [sumC]⟩
  | x :: r, S0, L, S, M, hs, e => by
    unfold spendGo at e
    split at e
    · injection e with e _; cases e
    · rename_i c L' ht
      split at e
      · injection e with e _; cases e
      · split at e
        · injection e with e _; cases e
        · obtain ⟨t1, t2, t3⟩ := takeD_some ht
          obtain ⟨h1, T, h2, h3, h4, h5, h6, h7, h8⟩ := spendGo_mem h r _ L' S M (by rw [t3]; exact hs.filter _) e
          have hin : ∀ y, y ∈ L' ↔ y ∈ L ∧ pt y ≠ (x.1, x.2.1) := fun y => by rw [t3, List.mem_filter, decide_eq_true_eq]
          refine ⟨h1, c :: T, by rw [h2, List.append_assoc]; rfl, by simp [h3], fun j h1 h2 => ?_, fun y => ?_, fun y hy => ?_, ?_, ?_⟩
          · cases j with
            | zero => exact t2
            | succ j => exact h4 j (by simpa using h1) (by simpa using h2)
          · constructor
            · intro hy
              by_cases q : pt y = (x.1, x.2.1)
              · exact .inr (by rw [hs.inj hy t1 (by rw [q, t2])]; exact List.mem_cons_self ..)
              · rcases (h5 y).1 ((hin y).2 ⟨hy, q⟩) with g | g
                · exact .inl g
                · exact .inr (List.mem_cons_of_mem _ g)
            · rintro (g | g)
              · exact ((hin y).1 ((h5 y).2 (.inl g))).1
              · rcases List.mem_cons.1 g with rfl | g
                · exact t1
                · exact ((hin y).1 ((h5 y).2 (.inr g))).1
          · rcases List.mem_cons.1 hy with rfl | hy
            · refine hasP_no.2 fun d hd e => ?_
              exact ((hin d).1 ((h5 d).2 (.inl hd))).2 (by rw [e, t2])
            · exact h6 y hy
          · refine List.pairwise_cons.2 ⟨fun y hy e => ?_, h7⟩
            exact ((hin y).1 ((h5 y).2 (.inr hy))).2 (by rw [← e, t2])
          · have h9 := sum_take hs t1 t2
            rw [← t3] at h9
            rw [h9, h8, sumC_cons]
            omega

/-- What was taken is put back, whatever was put ahead of it. -/
theorem putb_mem (I : List InD) (S M2 L : List CoinD) (hlen : S.length = I.length) (hL : Srt L) (hpt : ∀ j (h1 : j < S.length) (h2 : j < I.length), pt S[j] = (I[j].1, I[j].2.1)) (hmem : ∀ x, x ∈ L ↔ x ∈ M2 ∨ x ∈ S) (hfree : ∀ x ∈ S, hasP (pt x) M2 = false) (hpw : S.Pairwise (fun a b => pt a ≠ pt b)) :
    ∀ (m k : Nat) (N : List CoinD), m + k = S.length → Srt N → (∀ x, x ∈ N ↔ x ∈ M2 ∨ x ∈ S.take k) → putbGo (I.drop k) (S.drop k) N = (0, L)
  | 0, k, N, hm, hN, hx => by
    rw [List.drop_of_length_le (by omega), List.drop_of_length_le (by omega), putbGo]
    · rw [Srt.ext hN hL fun x => by rw [hx x, hmem x, List.take_of_length_le (by omega)]]
    · intro _ _ _ _ h; cases h
  | m + 1, k, N, hm, hN, hx => by
    have hk : k < S.length := by omega
    have hk2 : k < I.length := by omega
    have hno : hasP (pt S[k]) N = false := hasP_no.2 fun c hc e => by
      rcases (hx c).1 hc with g | g
      · exact (hasP_no.1 (hfree _ (List.getElem_mem hk))) c g e
      · obtain ⟨j, hj, rfl⟩ := List.mem_take_iff_getElem.1 g
        have hjk : j < k := by omega
        exact (List.pairwise_iff_getElem.1 hpw j k (by omega) hk hjk) e
    rw [List.drop_eq_getElem_cons hk, List.drop_eq_getElem_cons hk2, putbGo, if_neg (by
      rintro (q | q)
      · exact q (hpt k hk hk2)
      · rw [hno] at q; cases q)]
    refine putb_mem I S M2 L hlen hL hpt hmem hfree hpw m (k + 1) _ (by omega) (putC_srt hN) fun x => ?_
    rw [mem_putC hno, hx x, List.take_succ_eq_append_getElem hk, List.mem_append, List.mem_singleton]
    constructor
    · rintro (rfl | g | g)
      · exact .inr (.inr rfl)
      · exact .inl g
      · exact .inr (.inl g)
    · rintro (g | g | rfl)
      · exact .inr (.inl g)
      · exact .inr (.inr g)
      · exact .inl rfl

/-- What is done is undone. -/
theorem back_ok {L M S : List CoinD} {t : TxD} {name h : Int} (e : apD L t name h = (0, M, S)) : rvD M t name S = (0, L) := by
  obtain ⟨h1, M2, h2, h3, h4, h5⟩ := apD_zero e
  obtain ⟨hR, hT, _, _, _⟩ := ckApply_zero h1
  obtain ⟨s1, T, s2, s3, s4, s5, s6, s7, s8⟩ := spendGo_mem h _ _ _ _ _ hR.srt h2
  rw [List.nil_append] at s2
  subst s2
  obtain ⟨g1, g2, g3⟩ := giveGo_mem name h _ _ _ _ _ s1 h4
  have hb : backGo name 0 t.2.2 M = (0, M2) := by
    have := back_mem name h (isR t) t.2.2 M2 s1 (fun j hj => by have := g3 j hj; rwa [Nat.zero_add] at this) t.2.2.length 0 M (by omega) g1 (fun x => by
      rw [g2 x]
      constructor
      · rintro (q | ⟨j, hj, rfl⟩)
        · exact .inl q
        · exact .inr ⟨j, hj, Nat.zero_le _, by rw [Nat.zero_add]⟩
      · rintro (q | ⟨j, hj, _, rfl⟩)
        · exact .inl q
        · exact .inr ⟨j, hj, by rw [Nat.zero_add]⟩)
    simpa using this
  have hp : putbGo t.2.1 S M2 = (0, L) := by
    have := putb_mem t.2.1 S M2 L s3 hR.srt s4 s5 s6 s7 S.length 0 M2 (by omega) s1 (fun x => by simp)
    simpa using this
  have hc : ckCoins L = 0 := (ckCoins_zero L).2 hR
  have hb0 : ckBoth M t = 0 := by unfold ckBoth; rw [if_neg (by rw [h5]; decide)]; exact hT
  rw [rvD_eq hb0 hb hp hc, if_neg (by decide), if_neg (by rw [s3]; simp), if_neg (by decide), if_neg (by decide), if_neg (by decide)]

end Go.Proofs.YtmomfkikogbdeaaGreatDoor

/- But for rewards nothing is made: in plain functions. Nothing of the program. -/
namespace Go.Proofs.YtmomfkikogbdeaaGreatDoor

theorem sum_put {c : CoinD} {L : List CoinD} (hs : Srt L) (hn : hasP (pt c) L = false) : sumC (putC c L) = cv c + sumC L := by
  rw [putC_at hs hn, sumC_append, sumC_cons]
  have : sumC L = sumC (L.take (pos (pt c) L)) + sumC (L.drop (pos (pt c) L)) := by rw [← sumC_append, List.take_append_drop]
  omega
theorem giveGo_sum (name h : Int) (r : Bool) : ∀ (O : List OutD) (i : Nat) (L M : List CoinD), Srt L → giveGo name h r i O L = (0, M) → sumC M = sumC L + sumO O
  | [], i, L, M, hs, e => by
    unfold giveGo at e
    injection e with _ e
    subst e
    simp [sumO]
  | o :: q, i, L, M, hs, e => by
    unfold giveGo at e
    split at e
    · injection e with e _; cases e
    · rename_i hf
      have hf' : hasP (pt (newC name i o h r)) L = false := by simpa [newC, pt] using hf
      have h1 := giveGo_sum name h r q (i + 1) _ M (putC_srt hs) e
      rw [sum_put hs hf'] at h1
      have h2 : cv (newC name i o h r) = o.1 := rfl
      have h3 : sumO (o :: q) = o.1 + sumO q := by simp [sumO]
      rw [h1, h2, h3]
      omega
end Go.Proofs.YtmomfkikogbdeaaGreatDoor

/- Undoing a block, as a plain function; it undoes what Connect did; no more is there than ahead, and the reward. Nothing of the program. -/
namespace Go.Proofs.YtmomfkikogbdeaaGreatDoor
open Go.RowKit

theorem ap_sum {L M S : List CoinD} {t : TxD} {name h : Int} (e : apD L t name h = (0, M, S)) : sumC M = sumC L - sumC S + sumO t.2.2 ∧ 0 ≤ sumC S := by
  obtain ⟨h1, M2, h2, h3, h4, h5⟩ := apD_zero e
  obtain ⟨hR, hT, _, _, _⟩ := ckApply_zero h1
  obtain ⟨s1, T, s2, s3, s4, s5, s6, s7, s8⟩ := spendGo_mem h _ _ _ _ _ hR.srt h2
  rw [List.nil_append] at s2
  subst s2
  have hg := giveGo_sum name h _ _ _ _ _ s1 h4
  refine ⟨by omega, sumC_nonneg S fun c hc => ?_⟩
  have := ck1_zero (hR.one c ((s5 c).2 (.inr hc)))
  omega
theorem ap_right {L M S : List CoinD} {t : TxD} {name h : Int} (e : apD L t name h = (0, M, S)) : RightC L ∧ RightC M ∧ chkTx t = 0 := by
  obtain ⟨h1, M2, h2, h3, h4, h5⟩ := apD_zero e
  obtain ⟨hR, hT, _, _, _⟩ := ckApply_zero h1
  exact ⟨hR, (ckCoins_zero M).1 h5, hT⟩

/-- Undoing, from the q-th turn down. -/
def disGo (T : List TxD) (N : List Int) (S : List (List CoinD)) : Nat → List CoinD → Int × List CoinD
  | 0, C => (0, C)
  | q + 1, C =>
    if (rvD C (T.getD ((q + 1) % T.length) zeroT) (N.getD ((q + 1) % T.length) 0) (S.getD ((q + 1) % T.length) [])).1 ≠ 0 then ((rvD C (T.getD ((q + 1) % T.length) zeroT) (N.getD ((q + 1) % T.length) 0) (S.getD ((q + 1) % T.length) [])).1, [])
    else disGo T N S q (rvD C (T.getD ((q + 1) % T.length) zeroT) (N.getD ((q + 1) % T.length) 0) (S.getD ((q + 1) % T.length) [])).2
theorem disGo_at {T : List TxD} {N : List Int} {S : List (List CoinD)} {q i : Nat} {C : List CoinD} (hi : (q + 1) % T.length = i) {t : TxD} (ht : T.getD i zeroT = t) {nm : Int} (hn : N.getD i 0 = nm) {s : List CoinD} (hs : S.getD i [] = s) {y : Int} {M : List CoinD} (ha : rvD C t nm s = (y, M)) :
    disGo T N S (q + 1) C = if y ≠ 0 then (y, []) else disGo T N S q M := by
  rw [disGo, hi, ht, hn, hs, ha]

theorem turn_ne {m j k : Nat} (hj : j < k) (hk : k < m) : (j + 1) % m ≠ (k + 1) % m := by
  rw [Nat.mod_eq_of_lt (show j + 1 < m by omega)]
  by_cases e : k + 1 = m
  · rw [e, Nat.mod_self]; omega
  · rw [Nat.mod_eq_of_lt (show k + 1 < m by omega)]; omega
theorem getD_set_self {α : Type} (l : List α) (i : Nat) (x d : α) (h : i < l.length) : (l.set i x).getD i d = x := by simp [List.getD, h]
theorem getD_set_ne {α : Type} (l : List α) {i j : Nat} (x d : α) (h : i ≠ j) : (l.set i x).getD j d = l.getD j d := by simp [List.getD, List.getElem?_set_ne h]

/-- One turn that went well. -/
theorem conGo_step {h r : Int} {T : List TxD} {N : List Int} {q k : Nat} {C M : List CoinD} {S S' : List (List CoinD)} (e : conGo h r T N (q + 1) k C S = (0, M, S')) :
    ¬ ((k + 1) % T.length = 0 ∧ leftD r T S T.length < 0) ∧ ∃ C1 s, apD C (T.getD ((k + 1) % T.length) zeroT) (N.getD ((k + 1) % T.length) 0) h = (0, C1, s) ∧ conGo h r T N q (k + 1) C1 (S.set ((k + 1) % T.length) s) = (0, M, S') := by
  obtain ⟨⟨y, C1, s⟩, ha⟩ : ∃ a, apD C (T.getD ((k + 1) % T.length) zeroT) (N.getD ((k + 1) % T.length) 0) h = a := ⟨_, rfl⟩
  rw [conGo_at rfl rfl rfl ha] at e
  split at e
  · injection e with e1 _; exact absurd e1 (by decide)
  · rename_i hc
    split at e
    · rename_i hy; injection e with e1 _; exact absurd e1 hy
    · rename_i hy
      have hy : y = 0 := Decidable.not_not.1 hy
      subst hy
      exact ⟨hc, C1, s, ha, e⟩

theorem con_back {h r : Int} {T : List TxD} {N : List Int} : ∀ (q k : Nat) (C M : List CoinD) (S S' : List (List CoinD)), conGo h r T N q k C S = (0, M, S') → q + k = T.length → S.length = T.length →
    S'.length = T.length ∧ (∀ j, j < k → S'.getD ((j + 1) % T.length) [] = S.getD ((j + 1) % T.length) []) ∧ disGo T N S' T.length M = disGo T N S' k C
  | 0, k, C, M, S, S', e, hk, hS => by
    rw [conGo] at e
    injection e with _ e
    injection e with e1 e2
    subst e1 e2
    have : k = T.length := by omega
    subst this
    exact ⟨hS, fun _ _ => rfl, rfl⟩
  | q + 1, k, C, M, S, S', e, hk, hS => by
    obtain ⟨_, C1, s, ha, e⟩ := conGo_step e
    obtain ⟨i1, i2, i3⟩ := con_back q (k + 1) C1 M _ S' e (by omega) (by simpa using hS)
    have hm : (k + 1) % T.length < S.length := by rw [hS]; exact Nat.mod_lt _ (by omega)
    refine ⟨i1, fun j hj => ?_, ?_⟩
    · rw [i2 j (by omega)]
      exact getD_set_ne S s [] (fun e => turn_ne hj (show k < T.length by omega) e.symm)
    · rw [i3]
      have hs : S'.getD ((k + 1) % T.length) [] = s := by
        rw [i2 k (Nat.lt_succ_self k)]
        exact getD_set_self S _ s [] hm
      rw [disGo_at rfl rfl rfl hs (back_ok ha), if_neg (by decide)]
theorem con_right {h r : Int} {T : List TxD} {N : List Int} : ∀ (q k : Nat) (C M : List CoinD) (S S' : List (List CoinD)), conGo h r T N q k C S = (0, M, S') → RightC C → RightC M
  | 0, k, C, M, S, S', e, hC => by
    rw [conGo] at e
    injection e with _ e
    injection e with e1 e2
    subst e1
    exact hC
  | q + 1, k, C, M, S, S', e, hC => by
    obtain ⟨_, C1, s, ha, e⟩ := conGo_step e
    exact con_right q (k + 1) C1 M _ S' e (ap_right ha).2.1

/-- No more is there than ahead, and the reward. -/
theorem con_sum {h r : Int} {T : List TxD} {N : List Int} {C M : List CoinD} {S' : List (List CoinD)} (h0 : 0 < T.length) (h4 : T.length ≤ 4) (e : conGo h r T N T.length 0 C (List.replicate T.length []) = (0, M, S')) : sumC M ≤ sumC C + r := by
  match T, h0, h4, e with
  | [t0], _, _, e =>
    obtain ⟨c0, C1, s0, a0, e⟩ := conGo_step (q := 0) e
    rw [conGo] at e
    injection e with _ e
    injection e with e _
    subst e
    have i0 : (0 + 1) % [t0].length = 0 := by simp
    rw [i0] at a0
    have a0 : apD C t0 (N.getD 0 0) h = (0, C1, s0) := a0
    obtain ⟨b0, d0⟩ := ap_sum a0
    have c0 : ¬ (leftD r [t0] [[]] 1 < 0) := fun q => c0 ⟨i0, q⟩
    simp only [leftD, List.take_succ_cons, List.take_zero, List.map_cons, List.map_nil, List.flatten_cons, List.flatten_nil, List.append_nil, sumC_nil] at c0
    omega
  | [t0, t1], _, _, e =>
    obtain ⟨_, C1, s1, a1, e⟩ := conGo_step (q := 1) e
    obtain ⟨c0, C2, s0, a0, e⟩ := conGo_step (q := 0) e
    rw [conGo] at e
    injection e with _ e
    injection e with e _
    subst e
    have a1 : apD C t1 (N.getD 1 0) h = (0, C1, s1) := a1
    have i0 : (0 + 1 + 1) % [t0, t1].length = 0 := by simp
    rw [i0] at a0
    have a0 : apD C1 t0 (N.getD 0 0) h = (0, C2, s0) := a0
    obtain ⟨b1, d1⟩ := ap_sum a1
    obtain ⟨b0, d0⟩ := ap_sum a0
    have c0 : ¬ (leftD r [t0, t1] [[], s1] 2 < 0) := fun q => c0 ⟨i0, q⟩
    simp only [leftD, List.take_succ_cons, List.take_zero, List.map_cons, List.map_nil, List.flatten_cons, List.flatten_nil, List.append_nil, List.nil_append, sumO_append] at c0
    omega
  | [t0, t1, t2], _, _, e =>
    obtain ⟨_, C1, s1, a1, e⟩ := conGo_step (q := 2) e
    obtain ⟨_, C2, s2, a2, e⟩ := conGo_step (q := 1) e
    obtain ⟨c0, C3, s0, a0, e⟩ := conGo_step (q := 0) e
    rw [conGo] at e
    injection e with _ e
    injection e with e _
    subst e
    have a1 : apD C t1 (N.getD 1 0) h = (0, C1, s1) := a1
    have a2 : apD C1 t2 (N.getD 2 0) h = (0, C2, s2) := a2
    have i0 : (0 + 1 + 1 + 1) % [t0, t1, t2].length = 0 := by simp
    rw [i0] at a0
    have a0 : apD C2 t0 (N.getD 0 0) h = (0, C3, s0) := a0
    obtain ⟨b1, d1⟩ := ap_sum a1
    obtain ⟨b2, d2⟩ := ap_sum a2
    obtain ⟨b0, d0⟩ := ap_sum a0
    have c0 : ¬ (leftD r [t0, t1, t2] [[], s1, s2] 3 < 0) := fun q => c0 ⟨i0, q⟩
    simp only [leftD, List.take_succ_cons, List.take_zero, List.map_cons, List.map_nil, List.flatten_cons, List.flatten_nil, List.append_nil, List.nil_append, sumO_append, sumC_append] at c0
    omega
  | [t0, t1, t2, t3], _, _, e =>
    obtain ⟨_, C1, s1, a1, e⟩ := conGo_step (q := 3) e
    obtain ⟨_, C2, s2, a2, e⟩ := conGo_step (q := 2) e
    obtain ⟨_, C3, s3, a3, e⟩ := conGo_step (q := 1) e
    obtain ⟨c0, C4, s0, a0, e⟩ := conGo_step (q := 0) e
    rw [conGo] at e
    injection e with _ e
    injection e with e _
    subst e
    have a1 : apD C t1 (N.getD 1 0) h = (0, C1, s1) := a1
    have a2 : apD C1 t2 (N.getD 2 0) h = (0, C2, s2) := a2
    have a3 : apD C2 t3 (N.getD 3 0) h = (0, C3, s3) := a3
    have i0 : (0 + 1 + 1 + 1 + 1) % [t0, t1, t2, t3].length = 0 := by simp
    rw [i0] at a0
    have a0 : apD C3 t0 (N.getD 0 0) h = (0, C4, s0) := a0
    obtain ⟨b1, d1⟩ := ap_sum a1
    obtain ⟨b2, d2⟩ := ap_sum a2
    obtain ⟨b3, d3⟩ := ap_sum a3
    obtain ⟨b0, d0⟩ := ap_sum a0
    have c0 : ¬ (leftD r [t0, t1, t2, t3] [[], s1, s2, s3] 4 < 0) := fun q => c0 ⟨i0, q⟩
    simp only [leftD, List.take_succ_cons, List.take_zero, List.map_cons, List.map_nil, List.flatten_cons, List.flatten_nil, List.append_nil, List.nil_append, sumO_append, sumC_append] at c0
    omega

/-- What is wrong, what comes. -/
def disD (K : List ByteArray) (C : List CoinD) (b : BlkD) (S : List (List CoinD)) : Int × List CoinD :=
  if (nfD K C b).2 ≠ 0 then ((nfD K C b).2, []) else if S.length ≠ b.2.2.2.2.length then (4, []) else disGo b.2.2.2.2 (nfD K C b).1 S b.2.2.2.2.length C

theorem chkB_few {b : BlkD} (h : chkB b = 0) : 0 < b.2.2.2.2.length ∧ b.2.2.2.2.length ≤ 4 ∧ 1 ≤ b.2.1 ∧ b.2.1 ≤ 1000 := by
  unfold chkB at h
  split at h
  · cases h
  rename_i h1
  split at h
  · cases h
  split at h
  · cases h
  unfold headOk at h1
  simp only [Bool.not_eq_false, Bool.and_eq_true, decide_eq_true_eq] at h1
  omega
theorem nfD_zero {K : List ByteArray} {C : List CoinD} {b : BlkD} (h : (nfD K C b).2 = 0) : RightC C ∧ chkB b = 0 ∧ ∃ X n N, nmsB K b = (X, n, N, 0) ∧ (nfD K C b).1 = N := by
  unfold nfD at h ⊢
  split at h
  · rename_i q; exact absurd h q
  rename_i q
  obtain ⟨⟨X, n, N, x⟩, hx⟩ : ∃ r, nmsB K b = r := ⟨_, rfl⟩
  rw [hx] at h
  have h : x = 0 := h
  subst h
  rw [if_neg q, hx]
  exact ⟨(ckCoins_zero C).1 (Decidable.not_not.1 q), (nms_zero hx).1, X, n, N, rfl, rfl⟩
theorem nfD_of {K : List ByteArray} {C : List CoinD} {b : BlkD} {X : List ByteArray} {n : Int} {N : List Int} (hC : RightC C) (h : nmsB K b = (X, n, N, 0)) : nfD K C b = (N, 0) := by
  unfold nfD
  rw [(ckCoins_zero C).2 hC, if_neg (by decide), h]

/-- What was connected: it is undone, and no more is there than ahead, and the reward. -/
theorem con_all {K : List ByteArray} {C M : List CoinD} {b : BlkD} {S : List (List CoinD)} (e : conD K C b = (0, M, S)) :
    RightC C ∧ RightC M ∧ chkB b = 0 ∧ S.length = b.2.2.2.2.length ∧ disD K M b S = (0, C) ∧ sumC M ≤ sumC C + (rwD b.2.1).1 ∧ (rwD b.2.1).2 = 0 := by
  unfold conD at e
  split at e
  · rename_i q
    injection e with e _
    exact absurd e q
  rename_i q
  obtain ⟨hC, hb, X, n, N, hN, hN2⟩ := nfD_zero (Decidable.not_not.1 q)
  rw [hN2] at e
  obtain ⟨h0, h4, h1, h2⟩ := chkB_few hb
  have hM := con_right _ _ _ _ _ _ e hC
  obtain ⟨b1, b2, b3⟩ := con_back _ _ _ _ _ _ e (by omega) (by simp)
  refine ⟨hC, hM, hb, b1, ?_, con_sum h0 h4 e, ?_⟩
  · unfold disD
    rw [nfD_of hM hN, if_neg (fun q => q rfl), if_neg (fun q => q b1)]
    exact b3
  · unfold rwD
    rw [if_pos (by simp only [Bool.and_eq_true, decide_eq_true_eq]; omega)]

end Go.Proofs.YtmomfkikogbdeaaGreatDoor
