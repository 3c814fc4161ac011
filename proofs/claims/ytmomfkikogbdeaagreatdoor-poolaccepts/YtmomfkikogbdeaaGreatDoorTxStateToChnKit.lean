/- What the reading of a transaction's lines builds: its box, its rows of ins and outs, their orders; told apart by their types. -/
import Derived.Test.YtmomfkikogbdeaaGreatDoorTxCheckBToTxCheckD
import Derived.Test.YtmomfkikogbdeaaGreatDoorLockRead
import Derived.Test.YtmomfkikogbdeaaGreatDoorTxPartsToTxPrint
import Derived.Deep.AppendLies
import Derived.OwnWalk
import Derived.Test.YtmomfkikogbdeaaGreatDoorBookAllWToBlkReward
import Derived.Lib.IndexBytes
import Derived.Test.YtmomfkikogbdeaaGreatDoorCoinCoversToCoinFacts
import Derived.Test.YtmomfkikogbdeaaGreatDoorCoinApplyBToLockFlat
import Derived.Test.YtmomfkikogbdeaaGreatDoorCoinCheckToRowLaws
import Derived.Test.YtmomfkikogbdeaaGreatDoorCoinCopyToCoinCopyC
import Derived.Test.YtmomfkikogbdeaaGreatDoorCoinSpendBToBlkCheck
import Derived.Test.YtmomfkikogbdeaaGreatDoorCoinInsertBToCoinGr
import Derived.Test.YtmomfkikogbdeaaGreatDoorCoinPlaceToCoinTake
import Derived.Deep.RegionHeld3
import Derived.Lib.SliceRun
import Derived.Lib.OwnKind
import Derived.Deep.WholeRow
import Derived.Laws.CopyOwn
namespace Go.Proofs.YtmomfkikogbdeaaGreatDoor
open Go.RowKit

/-! What lines say. -/
/-! Rows of ins and outs, with the values of their orders. -/
def inCells : List (InD × Value) → List Value
  | [] => []
  | x :: r => .int .i64 x.1.1 :: .int .i64 x.1.2.1 :: x.2 :: inCells r
def outCells : List (OutD × Value) → List Value
  | [] => []
  | x :: r => .int .i64 x.1.1 :: x.2 :: outCells r
/-- A row stays where blocks of its type stay. -/
theorem own_type {w w' : World} {base : Nat} {e : TypeId} {size : Nat} {v : Value} {n : Nat} {xs : List Value} (h : w.ownsRow base e size v n xs) (hk : ∀ (k : Nat) (cs : Array Value), w.heap[k]? = some (.cells cs e (0, 0)) → w'.heap[k]? = w.heap[k]?) : w'.ownsRow base e size v n xs := by
  obtain ⟨hl, h0 | ⟨g, cap, cur, hv, hg, hh, r⟩⟩ := h
  · exact ⟨hl, .inl h0⟩
  · exact ⟨hl, .inr ⟨g, cap, cur, hv, hg, (hk g cur hh).trans hh, r⟩⟩

structure PL (w : World) (q p lb : Nat) (A : Array Value) (h : Int) (wr : World) (v1 v2 : Value) (L1 : List (InD × Value)) (L2 : List (OutD × Value)) : Prop where
  box : wr.heap[p]? = some (.cells #[.int .i64 h, v1, v2] 59 (0, 0))
  res : wr.heap[q]? = some (.cells #[.int .i64 0, .slice none 0 0, .slice none 0 0] 59 (0, 0))
  pq : p ≠ q
  lin : wr.heap[lb]? = some (.cells A 9 (0, 0))
  own1 : wr.ownsRow w.heap.size 119 3 v1 L1.length (inCells L1)
  own2 : wr.ownsRow w.heap.size 122 2 v2 L2.length (outCells L2)
  keys1 : ∀ x ∈ L1, wr.ownsRow w.heap.size 164 2 x.2 x.1.2.2.length (flat x.1.2.2)
  keys2 : ∀ x ∈ L2, wr.ownsRow w.heap.size 164 2 x.2 x.1.2.length (flat x.1.2)
  bel : Below w.heap.size w wr
  pge : w.heap.size ≤ p

theorem PL.later {w : World} {q p lb : Nat} {A : Array Value} {h : Int} {wr w' : World} {v1 v2 : Value} {L1 : List (InD × Value)} {L2 : List (OutD × Value)} (s : PL w q p lb A h wr v1 v2 L1 L2) (hb : Below wr.heap.size wr w') : PL w q p lb A h w' v1 v2 L1 L2 where
  box := (hb.block _ (lt_of_block s.box)).trans s.box
  res := (hb.block _ (lt_of_block s.res)).trans s.res
  pq := s.pq
  lin := (hb.block _ (lt_of_block s.lin)).trans s.lin
  own1 := own_keep s.own1 hb
  own2 := own_keep s.own2 hb
  keys1 := fun x hx => own_keep (s.keys1 x hx) hb
  keys2 := fun x hx => own_keep (s.keys2 x hx) hb
  bel := bel_on s.bel hb
  pge := s.pge

/-- What an append to a row leaves alone: all blocks of other types. -/
theorem grow_type {w w' : World} {base : Nat} {e : TypeId} {size : Nat} {v : Value} {n : Nat} {xs : List Value} (h : w.ownsRow base e size v n xs) (hg : w.grownBy w' v.ownBlock) (k : Nat) (cs : Array Value) (t : TypeId) (hk : w.heap[k]? = some (.cells cs t (0, 0))) (ht : t ≠ e) : w'.heap[k]? = w.heap[k]? := by
  refine hg.block k (lt_of_block hk) (fun e1 => ?_)
  obtain ⟨_, ⟨rfl, _⟩ | ⟨g, cap, cur, rfl, _, hh, _⟩⟩ := h
  · cases e1
  · have e2 : k = g := by injection e1
    subst e2
    rw [hk] at hh
    injection hh with hh
    injection hh with _ hh
    exact ht hh

theorem PL.alloc {w : World} {q p lb : Nat} {A : Array Value} {h : Int} {wr : World} {v1 v2 : Value} {L1 : List (InD × Value)} {L2 : List (OutD × Value)} (s : PL w q p lb A h wr v1 v2 L1 L2) (o : Obj) : PL w q p lb A h (wr.alloc o) v1 v2 L1 L2 := s.later (bel_new wr o)
theorem PL.drewN {w : World} {q p lb : Nat} {A : Array Value} {h : Int} {wr : World} {v1 v2 : Value} {L1 : List (InD × Value)} {L2 : List (OutD × Value)} (s : PL w q p lb A h wr v1 v2 L1 L2) (n : Nat) : PL w q p lb A h (wr.drewN n) v1 v2 L1 L2 :=
  s.later ⟨rfl, rfl, rfl, Nat.le_refl _, fun _ _ => rfl⟩

end Go.Proofs.YtmomfkikogbdeaaGreatDoor

/- Blocks that are right and unlike have unlike texts. -/
namespace Go.Proofs.YtmomfkikogbdeaaGreatDoor
open Go.RowKit

def hd1 (x : List UInt8) : Option UInt8 := x.head?
end Go.Proofs.YtmomfkikogbdeaaGreatDoor

/- Nothing is spent twice: in plain functions. Nothing of the program. -/
namespace Go.Proofs.YtmomfkikogbdeaaGreatDoor

theorem hasP_no {p : PtD} {L : List CoinD} : hasP p L = false ↔ ∀ c ∈ L, pt c ≠ p := by
  rw [← Bool.not_eq_true, hasP_iff]
  exact ⟨fun h c hc e => h ⟨c, hc, e⟩, fun h ⟨c, hc, e⟩ => h c hc e⟩
theorem apD_zero {L M S : List CoinD} {t : TxD} {name h : Int} (e : apD L t name h = (0, M, S)) : ckApply L t name h = 0 ∧ ∃ M2, spendGo h t.2.1 [] L = (0, S, M2) ∧ covD S t = 0 ∧ giveGo name h (isR t) 0 t.2.2 M2 = (0, M) ∧ ckCoins M = 0 := by
  obtain ⟨x1, h1⟩ : ∃ x1, ckApply L t name h = x1 := ⟨_, rfl⟩
  obtain ⟨⟨x2, S2, M2⟩, h2⟩ : ∃ r, spendGo h t.2.1 [] L = r := ⟨_, rfl⟩
  obtain ⟨x3, h3⟩ : ∃ x3, covD S2 t = x3 := ⟨_, rfl⟩
  obtain ⟨⟨x4, M4⟩, h4⟩ : ∃ r, giveGo name h (isR t) 0 t.2.2 M2 = r := ⟨_, rfl⟩
  obtain ⟨x5, h5⟩ : ∃ x5, ckCoins M4 = x5 := ⟨_, rfl⟩
  rw [apD_eq h1 h2 h3 h4 h5] at e
  split at e
  · rename_i q; injection e with e _; exact absurd e q
  rename_i q1
  split at e
  · rename_i q; injection e with e _; exact absurd e q
  rename_i q2
  split at e
  · rename_i q; injection e with e _; exact absurd e q
  rename_i q3
  split at e
  · rename_i q; injection e with e _; exact absurd e q
  rename_i q4
  split at e
  · rename_i q; injection e with e _; exact absurd e q
  rename_i q5
  have e1 : x1 = 0 := by omega
  have e2 : x2 = 0 := by omega
  have e3 : x3 = 0 := by omega
  have e4 : x4 = 0 := by omega
  have e5 : x5 = 0 := by omega
  injection e with _ e
  injection e with ea eb
  subst e1 e2 e3 e4 e5 ea eb
  exact ⟨h1, M2, h2, h3, h4, h5⟩

end Go.Proofs.YtmomfkikogbdeaaGreatDoor

/- What is done is undone: in plain functions. Nothing of the program. -/
namespace Go.Proofs.YtmomfkikogbdeaaGreatDoor

theorem sum_take {p : PtD} {c : CoinD} : ∀ {L : List CoinD}, Srt L → c ∈ L → pt c = p → sumC L = cv c + sumC (L.filter fun d => decide (pt d ≠ p))
  | [], _, hc, _ => by cases hc
  | d :: r, hs, hc, e => by
    rw [sumC_cons]
    rcases List.mem_cons.1 hc with rfl | hc
    · rw [List.filter_cons_of_neg (by simp [e])]
      have : r.filter (fun d => decide (pt d ≠ p)) = r := by
        rw [List.filter_eq_self]
        intro y hy
        exact decide_eq_true (fun q => lt_ne (hs.head y hy) (by rw [e, q]))
      rw [this]
    · have hne : pt d ≠ p := fun q => lt_ne (hs.head c hc) (by rw [e, q])
      rw [List.filter_cons_of_pos (by simp [hne]), sumC_cons, sum_take hs.tail hc e]
      omega

/-- What spend takes stands in the ins' order, and with what is left it is what was. -/
theorem spendGo_mem (h : Int) : ∀ (I : List InD) (S0 L S M : List CoinD), Srt L → spendGo h I S0 L = (0, S, M) →
    Srt M ∧ ∃ T, S = S0 ++ T ∧ T.length = I.length ∧ (∀ j (h1 : j < T.length) (h2 : j < I.length), pt T[j] = (I[j].1, I[j].2.1)) ∧ (∀ x, x ∈ L ↔ x ∈ M ∨ x ∈ T) ∧ (∀ x ∈ T, hasP (pt x) M = false) ∧ T.Pairwise (fun a b => pt a ≠ pt b) ∧ sumC L = sumC M + sumC T
  | [], S0, L, S, M, hs, e => by
    unfold spendGo at e
    injection e with _ e
    injection e with e1 e2
    subst e1 e2
    exact ⟨hs, [], by simp, rfl, fun j h1 => absurd h1 (by simp), fun x => by simp, fun x hx => (by cases hx), List.Pairwise.nil, by simp [sumC]⟩
  | x :: r, S0, L, S, M, hs, e => by
    unfold spendGo at e
    split at e
    · injection e with e _; cases e
    · rename_i c L' ht
      split at e
      · injection e with e _; cases e
      · split at e
        · injection e with e _; cases e
        · obtain ⟨t1, t2, t3⟩ := takeD_some ht
          obtain ⟨h1, T, h2, h3, h4, h5, h6, h7, h8⟩ := spendGo_mem h r _ L' S M (by rw [t3]; exact hs.filter _) e
          have hin : ∀ y, y ∈ L' ↔ y ∈ L ∧ pt y ≠ (x.1, x.2.1) := fun y => by rw [t3, List.mem_filter, decide_eq_true_eq]
          refine ⟨h1, c :: T, by rw [h2, List.append_assoc]; rfl, by simp [h3], fun j h1 h2 => ?_, fun y => ?_, fun y hy => ?_, ?_, ?_⟩
          · cases j with
            | zero => exact t2
            | succ j => exact h4 j (by simpa using h1) (by simpa using h2)
          · constructor
            · intro hy
              by_cases q : pt y = (x.1, x.2.1)
              · exact .inr (by rw [hs.inj hy t1 (by rw [q, t2])]; exact List.mem_cons_self ..)
              · rcases (h5 y).1 ((hin y).2 ⟨hy, q⟩) with g | g
                · exact .inl g
                · exact .inr (List.mem_cons_of_mem _ g)
            · rintro (g | g)
              · exact ((hin y).1 ((h5 y).2 (.inl g))).1
              · rcases List.mem_cons.1 g with rfl | g
                · exact t1
                · exact ((hin y).1 ((h5 y).2 (.inr g))).1
          · rcases List.mem_cons.1 hy with rfl | hy
            · refine hasP_no.2 fun d hd e => ?_
              exact ((hin d).1 ((h5 d).2 (.inl hd))).2 (by rw [e, t2])
            · exact h6 y hy
          · refine List.pairwise_cons.2 ⟨fun y hy e => ?_, h7⟩
            exact ((hin y).1 ((h5 y).2 (.inr hy))).2 (by rw [← e, t2])
          · have h9 := sum_take hs t1 t2
            rw [← t3] at h9
            rw [h9, h8, sumC_cons]
            omega

end Go.Proofs.YtmomfkikogbdeaaGreatDoor

/- But for rewards nothing is made: in plain functions. Nothing of the program. -/
namespace Go.Proofs.YtmomfkikogbdeaaGreatDoor

theorem sum_put {c : CoinD} {L : List CoinD} (hs : Srt L) (hn : hasP (pt c) L = false) : sumC (putC c L) = cv c + sumC L := by
  rw [putC_at hs hn, sumC_append, sumC_cons]
  have : sumC L = sumC (L.take (pos (pt c) L)) + sumC (L.drop (pos (pt c) L)) := by rw [← sumC_append, List.take_append_drop]
  omega
theorem giveGo_sum (name h : Int) (r : Bool) : ∀ (O : List OutD) (i : Nat) (L M : List CoinD), Srt L → giveGo name h r i O L = (0, M) → sumC M = sumC L + sumO O
  | [], i, L, M, hs, e => by
    unfold giveGo at e
    injection e with _ e
    subst e
    simp [sumO]
  | o :: q, i, L, M, hs, e => by
    unfold giveGo at e
    split at e
    · injection e with e _; cases e
    · rename_i hf
      have hf' : hasP (pt (newC name i o h r)) L = false := by simpa [newC, pt] using hf
      have h1 := giveGo_sum name h r q (i + 1) _ M (putC_srt hs) e
      rw [sum_put hs hf'] at h1
      have h2 : cv (newC name i o h r) = o.1 := rfl
      have h3 : sumO (o :: q) = o.1 + sumO q := by simp [sumO]
      rw [h1, h2, h3]
      omega
theorem chkOuts_pos : ∀ (O : List OutD), chkOuts O = 0 → ∀ o ∈ O, 1 ≤ o.1
  | [], _ => by simp
  | x :: r, h => by
    intro o ho
    unfold chkOuts at h
    split at h
    · rename_i h1
      rcases List.mem_cons.1 ho with rfl | ho
      · unfold chkOut1 at h1
        split at h1
        · cases h1
        · omega
      · exact chkOuts_pos r h o ho
    · rename_i h1; exact absurd h h1
theorem sumO_pos : ∀ (O : List OutD), O ≠ [] → (∀ o ∈ O, 1 ≤ o.1) → 0 < sumO O
  | [], h, _ => absurd rfl h
  | x :: r, _, h => by
    have h3 : sumO (x :: r) = x.1 + sumO r := by simp [sumO]
    have h1 := h x (List.mem_cons_self ..)
    cases r with
    | nil => rw [h3]; simp [sumO]; omega
    | cons y q =>
      have := sumO_pos (y :: q) (by simp) (fun o ho => h o (List.mem_cons_of_mem _ ho))
      omega
theorem back_sum {L M S : List CoinD} {t : TxD} {name h : Int} (e : apD L t name h = (0, M, S)) : (t.2.1.length = 0 → sumC L < sumC M) ∧ (t.2.1.length ≠ 0 → sumC M ≤ sumC L) := by
  obtain ⟨h1, M2, h2, h3, h4, h5⟩ := apD_zero e
  obtain ⟨hR, hT, _, _, _⟩ := ckApply_zero h1
  obtain ⟨s1, T, s2, s3, s4, s5, s6, s7, s8⟩ := spendGo_mem h _ _ _ _ _ hR.srt h2
  rw [List.nil_append] at s2
  subst s2
  have hg := giveGo_sum name h _ _ _ _ _ s1 h4
  obtain ⟨t1, t2, t3, t4, t5, t6, t7⟩ := chkTx_zero hT
  constructor
  · intro h0
    have hS : S = [] := List.length_eq_zero_iff.1 (by rw [s3, h0])
    have := sumO_pos t.2.2 (fun q => by rw [q] at t3; simp at t3) (chkOuts_pos _ t6)
    rw [hS, sumC_nil] at s8
    omega
  · intro h0
    unfold covD isR at h3
    split at h3
    · cases h3
    · rename_i q
      have : ¬ (sumC S - sumO t.2.2 < 0) := fun r => q ⟨r, decide_eq_false h0⟩
      omega

end Go.Proofs.YtmomfkikogbdeaaGreatDoor

/- Undoing a block, as a plain function; it undoes what Connect did; no more is there than ahead, and the reward. Nothing of the program. -/
namespace Go.Proofs.YtmomfkikogbdeaaGreatDoor
open Go.RowKit

theorem ap_right {L M S : List CoinD} {t : TxD} {name h : Int} (e : apD L t name h = (0, M, S)) : RightC L ∧ RightC M ∧ chkTx t = 0 := by
  obtain ⟨h1, M2, h2, h3, h4, h5⟩ := apD_zero e
  obtain ⟨hR, hT, _, _, _⟩ := ckApply_zero h1
  exact ⟨hR, (ckCoins_zero M).1 h5, hT⟩

end Go.Proofs.YtmomfkikogbdeaaGreatDoor

/- What waits: mathematics. Doing one behind the other, by a book and coins; what was done is done again by every book that grew from the one that came out. -/
namespace Go.Proofs.YtmomfkikogbdeaaGreatDoor
open Bk (Right nm nameR)

/-- One that is no reward, done by a book and coins at a height. -/
def doD (h : Int) (s : List ByteArray × List CoinD) (t : TxD) : Int × List ByteArray × List CoinD :=
  if chkTx t ≠ 0 then (chkTx t, s) else if t.2.1.length = 0 then (4, s) else
  if (nameR s.1 (txT t)).2.2 ≠ 0 then ((nameR s.1 (txT t)).2.2, s) else
  if (apD s.2 t (nameR s.1 (txT t)).2.1 h).1 ≠ 0 then ((apD s.2 t (nameR s.1 (txT t)).2.1 h).1, s) else
  (0, (nameR s.1 (txT t)).1, (apD s.2 t (nameR s.1 (txT t)).2.1 h).2.1)
/-- All that can be done: which stay, the book and the coins then. -/
def swGo (h : Int) : List TxD → List ByteArray × List CoinD → List TxD × List ByteArray × List CoinD
  | [], s => ([], s)
  | t :: l, s => if (doD h s t).1 = 0 then (t :: (swGo h l (doD h s t).2).1, (swGo h l (doD h s t).2).2) else swGo h l s

theorem name_again {K : List ByteArray} {s : ByteArray} (hK : Right K) (h0 : (nameR K s).2.2 = 0) : Right (nameR K s).1 ∧ (∃ M, (nameR K s).1 = K ++ M) ∧ ∀ M, Right ((nameR K s).1 ++ M) → nameR ((nameR K s).1 ++ M) s = ((nameR K s).1 ++ M, (nameR K s).2.1, 0) := by
  have e : nameR K s = nm K s := by unfold nameR; rw [if_pos ((Bk.right_iff K).2 hK)]
  rw [e] at h0 ⊢
  refine ⟨Bk.nm_right hK h0, Bk.nm_grows h0, fun M hM => ?_⟩
  obtain ⟨h1, h2, h3⟩ := Bk.nm_place h0
  have e2 : nameR ((nm K s).1 ++ M) s = nm ((nm K s).1 ++ M) s := by unfold nameR; rw [if_pos ((Bk.right_iff _).2 hM)]
  have h4 := Bk.place_stays M h2
  rw [e2, Bk.nm_there h3 (by rw [h4]; exact h2), h4, h1]
theorem do_again {h : Int} {K : List ByteArray} {C : List CoinD} {t : TxD} (hK : Right K) (h0 : (doD h (K, C) t).1 = 0) :
    Right (doD h (K, C) t).2.1 ∧ (∃ M, (doD h (K, C) t).2.1 = K ++ M) ∧ ∀ M, Right ((doD h (K, C) t).2.1 ++ M) → doD h ((doD h (K, C) t).2.1 ++ M, C) t = (0, (doD h (K, C) t).2.1 ++ M, (doD h (K, C) t).2.2) := by
  by_cases q1 : chkTx t ≠ 0
  · unfold doD at h0; rw [if_pos q1] at h0; exact absurd h0 q1
  by_cases q2 : t.2.1.length = 0
  · unfold doD at h0; rw [if_neg q1, if_pos q2] at h0; exact absurd (show (4 : Int) = 0 from h0) (by decide)
  by_cases q3 : (nameR K (txT t)).2.2 ≠ 0
  · unfold doD at h0; rw [if_neg q1, if_neg q2, if_pos q3] at h0; exact absurd h0 q3
  by_cases q4 : (apD C t (nameR K (txT t)).2.1 h).1 ≠ 0
  · unfold doD at h0; rw [if_neg q1, if_neg q2, if_neg q3, if_pos q4] at h0; exact absurd h0 q4
  have e : doD h (K, C) t = (0, (nameR K (txT t)).1, (apD C t (nameR K (txT t)).2.1 h).2.1) := by
    unfold doD; rw [if_neg q1, if_neg q2, if_neg q3, if_neg q4]
  obtain ⟨n1, n2, n3⟩ := name_again hK (Decidable.not_not.1 q3)
  rw [e]
  refine ⟨n1, n2, fun M hM => ?_⟩
  have e2 := n3 M hM
  unfold doD
  rw [if_neg q1, if_neg q2]
  simp only
  rw [e2]
  simp only
  rw [if_neg (fun r => r rfl), if_neg q4]
theorem sw_right {h : Int} : ∀ (l : List TxD) (K : List ByteArray) (C : List CoinD), Right K → Right (swGo h l (K, C)).2.1 ∧ ∃ M, (swGo h l (K, C)).2.1 = K ++ M
  | [], K, C, hK => ⟨hK, [], by simp [swGo]⟩
  | t :: l, K, C, hK => by
    rw [swGo]
    by_cases q : (doD h (K, C) t).1 = 0
    · rw [if_pos q]
      obtain ⟨d1, ⟨M, d2⟩, _⟩ := do_again hK q
      obtain ⟨s1, M2, s2⟩ := sw_right l (doD h (K, C) t).2.1 (doD h (K, C) t).2.2 d1
      exact ⟨s1, M ++ M2, by rw [s2, d2, List.append_assoc]⟩
    · rw [if_neg q]
      exact sw_right l K C hK
/-- What stayed stays again, all of it, by every book that grew from the one that came out. -/
theorem sw_again {h : Int} : ∀ (l : List TxD) (K : List ByteArray) (C : List CoinD) (M : List ByteArray), Right K → Right ((swGo h l (K, C)).2.1 ++ M) →
    swGo h (swGo h l (K, C)).1 ((swGo h l (K, C)).2.1 ++ M, C) = ((swGo h l (K, C)).1, (swGo h l (K, C)).2.1 ++ M, (swGo h l (K, C)).2.2)
  | [], K, C, M, _, _ => rfl
  | t :: l, K, C, M, hK, hM => by
    by_cases q : (doD h (K, C) t).1 = 0
    · have e : swGo h (t :: l) (K, C) = (t :: (swGo h l (doD h (K, C) t).2).1, (swGo h l (doD h (K, C) t).2).2) := by rw [swGo, if_pos q]
      rw [e] at hM ⊢
      obtain ⟨d1, _, d3⟩ := do_again hK q
      obtain ⟨M2, s2⟩ := (sw_right (h := h) l (doD h (K, C) t).2.1 (doD h (K, C) t).2.2 d1).2
      have s2' : (swGo h l (doD h (K, C) t).2).2.1 = (doD h (K, C) t).2.1 ++ M2 := s2
      have hd := d3 (M2 ++ M) (by rw [← List.append_assoc, ← s2']; exact hM)
      rw [← List.append_assoc, ← s2'] at hd
      have ih := sw_again l (doD h (K, C) t).2.1 (doD h (K, C) t).2.2 M d1 hM
      show swGo h (t :: (swGo h l (doD h (K, C) t).2).1) ((swGo h l (doD h (K, C) t).2).2.1 ++ M, C) = _
      rw [swGo, hd, if_pos (show (0 : Int) = 0 from rfl)]
      exact congrArg (fun r : List TxD × List ByteArray × List CoinD => (t :: r.1, r.2)) ih
    · have e : swGo h (t :: l) (K, C) = swGo h l (K, C) := by rw [swGo, if_neg q]
      rw [e] at hM ⊢
      exact sw_again l K C M hK hM
theorem sw_snoc {h : Int} {t : TxD} : ∀ (l : List TxD) (s s1 s2 : List ByteArray × List CoinD), swGo h l s = (l, s1) → doD h s1 t = (0, s2) → swGo h (l ++ [t]) s = (l ++ [t], s2)
  | [], s, s1, s2, hl, hd => by
    rw [swGo] at hl
    obtain ⟨_, rfl⟩ := Prod.mk.inj hl
    rw [List.nil_append, swGo, hd]
    rfl
  | x :: l, s, s1, s2, hl, hd => by
    rw [swGo] at hl
    by_cases q : (doD h s x).1 = 0
    · rw [if_pos q] at hl
      obtain ⟨h1, h2⟩ := Prod.mk.inj hl
      have h3 := (List.cons.inj h1).2
      have ih := sw_snoc l (doD h s x).2 s1 s2 (Prod.ext h3 h2) hd
      rw [List.cons_append, swGo, if_pos q, ih]
    · rw [if_neg q] at hl
      exact absurd (congrArg (fun r => r.1.length) hl) (by have := sw_few (h := h) l s; simp only [List.length_cons]; omega)
 where
  sw_few {h : Int} : ∀ (l : List TxD) (s : List ByteArray × List CoinD), (swGo h l s).1.length ≤ l.length
  | [], s => by simp [swGo]
  | t :: l, s => by
    rw [swGo]
    split
    · simp only [List.length_cons]; have := sw_few (h := h) l (doD h s t).2; omega
    · have := sw_few (h := h) l s; simp only [List.length_cons]; omega
/-- The law PoolAccepts: what is accepted can wait, all of it. -/
theorem accepts {h : Int} {l : List TxD} {K K2 : List ByteArray} {C C2 : List CoinD} {t : TxD} (hK : Right K) (hd : doD h (swGo h l (K, C)).2 t = (0, K2, C2)) :
    swGo h ((swGo h l (K, C)).1 ++ [t]) (K2, C) = ((swGo h l (K, C)).1 ++ [t], K2, C2) := by
  obtain ⟨s1, _⟩ := sw_right (h := h) l K C hK
  have hd' : doD h ((swGo h l (K, C)).2.1, (swGo h l (K, C)).2.2) t = (0, K2, C2) := hd
  obtain ⟨d1, ⟨M, d2⟩, d3⟩ := do_again s1 (by rw [hd'])
  rw [hd'] at d1 d2 d3
  simp only at d1 d2 d3
  have hw := sw_again (h := h) l K C M hK (by rw [← d2]; exact d1)
  rw [← d2] at hw
  have h3 := d3 [] (by rw [List.append_nil]; exact d1)
  rw [List.append_nil] at h3
  exact sw_snoc _ _ _ _ hw h3

end Go.Proofs.YtmomfkikogbdeaaGreatDoor

/- Worlds that have grown; boxes and rows that a call has made. Nothing of the program. -/
namespace Go.Proofs.YtmomfkikogbdeaaGreatDoor
open Go.RowKit
theorem Gr.cell {w w' : World} {S : Nat → Prop} (h : Gr w w' S) {p : Addr} {v : Value} (hc : w.cell? p = some v) (hn : ¬ S p.block) : w'.cell? p = some v :=
  (World.cell?_of_block (h.block p.block (World.block_lt_of_cell? _ _ hc) hn)).trans hc

theorem Fresh.now {B : Nat} {w : World} {Q : World → Prop} (h : Fresh B w Q) : Q w := h w (Gr.refl _ _)
theorem Fresh.on {B : Nat} {w w' : World} {Q : World → Prop} (h : Fresh B w Q) (g : Gr w w' (fun k => k < B)) : Fresh B w' Q := fun w2 g2 => h w2 (g.trans g2)
theorem Fresh.later {B : Nat} {w w' : World} {Q : World → Prop} (h : Fresh B w Q) (g : Below w.heap.size w w') : Fresh B w' Q := h.on (Gr.of g)
theorem Fresh.less {B B' : Nat} {w : World} {Q : World → Prop} (h : Fresh B' w Q) (hb : B ≤ B') : Fresh B w Q := fun w2 g2 => h w2 (g2.mono fun _ _ hk => Nat.lt_of_lt_of_le hk hb)
theorem Fresh.imp {B : Nat} {w : World} {Q R : World → Prop} (h : Fresh B w Q) (f : ∀ w2, Q w2 → R w2) : Fresh B w R := fun w2 g2 => f w2 (h w2 g2)

end Go.Proofs.YtmomfkikogbdeaaGreatDoor
namespace Go.Proofs.YtmomfkikogbdeaaGreatDoor.Tr
open Go.RowKit

theorem two_heap (w : World) (a b : Value) (t : TypeId) : (w.alloc (.cells #[a, b] t)).heap[w.heap.size]? = some (.cells [a, b].toArray t (0, 0)) := heap_alloc_new w _
theorem own_slice {w : World} {base : Nat} {e : TypeId} {size : Nat} {v : Value} {n : Nat} {xs : List Value} (h : w.ownsRow base e size v n xs) : ∃ a c, v = .slice a n c ∧ SlOk a n c ∧ ∀ ad, a = some ad → base ≤ ad.block ∧ ad.block < w.heap.size := by
  rcases h.2 with ⟨rfl, rfl⟩ | ⟨g, cap, cur, rfl, hg, hh, h1, h2, _⟩
  · exact ⟨none, 0, rfl, ⟨Nat.le_refl _, Nat.zero_le _, fun _ => ⟨rfl, rfl⟩⟩, fun ad e => by cases e⟩
  · exact ⟨_, cap, rfl, ⟨h1, h2, fun e => by cases e⟩, fun ad e => by cases e; exact ⟨hg, lt_of_block hh⟩⟩
/-! Records: cells in a row, their contents elsewhere. -/
def CellsAt (w : World) (b o : Nat) (cs : List Value) : Prop := ∀ j u, cs[j]? = some u → w.cell? ⟨b, o + j, none⟩ = some u

/-- What a record's cells say, and how wide it is. -/
structure Rec (α : Type) where
  sz : Nat
  C : World → List Value → α → Prop
  R : World → Nat → Nat → α → Prop
  wide : ∀ w cs x, C w cs x → cs.length = sz
  one : ∀ w cs x, C w cs x → ∀ v ∈ cs, v.oneCell' = true
  kept : ∀ w w' cs x, Below w.heap.size w w' → C w cs x → C w' cs x
  rc : ∀ w b o x, R w b o x → ∃ cs, CellsAt w b o cs ∧ C w cs x
  cr : ∀ w b o cs x, CellsAt w b o cs → C w cs x → R w b o x

def AllC {α : Type} (Z : Rec α) (w : World) (K : List (List Value)) (L : List α) : Prop := K.length = L.length ∧ ∀ i (h : i < L.length) (h' : i < K.length), Z.C w K[i] L[i]

theorem flat_len {α : Type} {Z : Rec α} {w : World} : ∀ {K : List (List Value)} {L : List α}, AllC Z w K L → K.flatten.length = L.length * Z.sz
  | [], [], _ => by simp
  | [], _ :: _, h => by cases h.1
  | _ :: _, [], h => by cases h.1
  | k :: K, x :: L, h => by
    have h1 : AllC Z w K L := ⟨by simpa using h.1, fun i h1 h2 => h.2 (i + 1) (by simpa using h1) (by simpa using h2)⟩
    have h2 := Z.wide _ _ _ (h.2 0 (by simp) (by simp))
    simp only [List.getElem_cons_zero] at h2
    rw [List.flatten_cons, List.length_append, flat_len h1, h2, List.length_cons, Nat.succ_mul]; omega
theorem flat_one {α : Type} {Z : Rec α} {w : World} {K : List (List Value)} {L : List α} (h : AllC Z w K L) : ∀ u ∈ K.flatten, u.oneCell' = true := by
  intro u hu
  obtain ⟨k, hk, hu⟩ := List.mem_flatten.1 hu
  obtain ⟨i, hi, rfl⟩ := List.getElem_of_mem hk
  exact Z.one _ _ _ (h.2 i (by rw [← h.1]; exact hi) hi) u hu
theorem AllC.later {α : Type} {Z : Rec α} {w w' : World} {K : List (List Value)} {L : List α} (h : AllC Z w K L) (hb : Below w.heap.size w w') : AllC Z w' K L :=
  ⟨h.1, fun i h1 h2 => Z.kept _ _ _ _ hb (h.2 i h1 h2)⟩
theorem AllC.snoc {α : Type} {Z : Rec α} {w : World} {K : List (List Value)} {L : List α} (h : AllC Z w K L) {k : List Value} {x : α} (hx : Z.C w k x) : AllC Z w (K ++ [k]) (L ++ [x]) := by
  refine ⟨by simp [h.1], fun i h1 h2 => ?_⟩
  rcases Nat.lt_or_ge i L.length with q | q
  · rw [List.getElem_append_left (h := by rw [h.1]; exact q), List.getElem_append_left (h := q)]
    exact h.2 i q (by rw [h.1]; exact q)
  · have e : i = L.length := by simp at h1; omega
    subst e
    rw [List.getElem_append_right (by rw [h.1]; exact Nat.le_refl _), List.getElem_append_right (Nat.le_refl _)]
    simpa [h.1] using hx
/-- The cells of record i in the row of all. -/
theorem flat_at {α : Type} {Z : Rec α} {w : World} : ∀ {K : List (List Value)} {L : List α} (_ : AllC Z w K L) (i : Nat) (h' : i < K.length) (j : Nat) (_ : j < Z.sz), K.flatten[i * Z.sz + j]? = (K[i])[j]?
  | [], _, _, _, h', _, _ => absurd h' (by simp)
  | _ :: _, [], h, _, _, _, _ => by cases h.1
  | k :: K, x :: L, h, 0, _, j, hj => by
    have h2 := Z.wide _ _ _ (h.2 0 (by simp) (by simp))
    simp only [List.getElem_cons_zero] at h2
    rw [List.flatten_cons, List.getElem?_append_left (by omega)]
    simp
  | k :: K, x :: L, h, i + 1, h', j, hj => by
    have h1 : AllC Z w K L := ⟨by simpa using h.1, fun i h1 h2 => h.2 (i + 1) (by simpa using h1) (by simpa using h2)⟩
    have h2 := Z.wide _ _ _ (h.2 0 (by simp) (by simp))
    simp only [List.getElem_cons_zero] at h2
    rw [List.flatten_cons, List.getElem?_append_right (by rw [h2, Nat.succ_mul]; omega), h2]
    rw [show (i + 1) * Z.sz + j - Z.sz = i * Z.sz + j by rw [Nat.succ_mul]; omega]
    rw [flat_at h1 i (by simpa using h') j hj]
    simp

/-- Records in memory have cells. -/
theorem heads_of {α : Type} (Z : Rec α) {w : World} {b off : Nat} {L : List α} (h : ∀ i (h : i < L.length), Z.R w b (off + i * Z.sz) L[i]) : ∃ K, AllC Z w K L ∧ CellsAt w b off K.flatten := by
  have h2 : ∀ k, k ≤ L.length → ∃ K, AllC Z w K (L.take k) ∧ CellsAt w b off K.flatten := by
    intro k
    induction k with
    | zero => intro _; exact ⟨[], ⟨by simp, fun i h1 h2 => absurd h2 (by simp)⟩, fun j u hj => by simp at hj⟩
    | succ k ih =>
      intro hk
      obtain ⟨K, h1, h3⟩ := ih (by omega)
      obtain ⟨cs, h4, h5⟩ := Z.rc _ _ _ _ (h k (by omega))
      refine ⟨K ++ [cs], by rw [List.take_succ_eq_append_getElem (by omega)]; exact h1.snoc h5, fun j u hj => ?_⟩
      have hl := flat_len h1
      rw [List.length_take, Nat.min_eq_left (by omega)] at hl
      rw [List.flatten_append] at hj
      rcases Nat.lt_or_ge j K.flatten.length with q | q
      · rw [List.getElem?_append_left q] at hj; exact h3 j u hj
      · rw [List.getElem?_append_right q] at hj
        have := h4 (j - K.flatten.length) u (by simpa using hj)
        rw [show off + k * Z.sz + (j - K.flatten.length) = off + j by omega] at this
        exact this
  obtain ⟨K, h1, h3⟩ := h2 L.length (Nat.le_refl _)
  rw [List.take_length] at h1
  exact ⟨K, h1, h3⟩

/-- A row of records that a call has laid is one to a reader. -/
theorem rows_of_own {α : Type} (Z : Rec α) {w : World} {base n : Nat} {e : TypeId} {v : Value} {K : List (List Value)} {L : List α} (h : w.ownsRow base e Z.sz v n K.flatten) (hc : AllC Z w K L) (hn : L.length = n) : ∃ a c, v = .slice a n c ∧ RowsAt Z.R Z.sz w a n L ∧ SlOk a n c := by
  rcases h.2 with ⟨rfl, rfl⟩ | ⟨g, cap, cur, rfl, hg, hh, h1, h2, h3, h4⟩
  · exact ⟨none, 0, rfl, ⟨hn, fun h => absurd h (by omega)⟩, Nat.le_refl _, Nat.zero_le _, fun _ => ⟨rfl, rfl⟩⟩
  · refine ⟨_, cap, rfl, ⟨hn, fun _ => ⟨g, 0, rfl, lt_of_block hh, fun i hi => ?_⟩⟩, h1, h2, fun e => by cases e⟩
    have hi' : i < K.length := by rw [hc.1]; exact hi
    refine Z.cr _ _ _ (K[i]) _ (fun j u hj => ?_) (hc.2 i hi hi')
    have hw := Z.wide _ _ _ (hc.2 i hi hi')
    have hjl : j < Z.sz := by rw [← hw]; exact (List.getElem?_eq_some_iff.1 hj).1
    rw [Nat.zero_add, World.ownsRow.cellAt h _ (by
      have : (i + 1) * Z.sz ≤ n * Z.sz := Nat.mul_le_mul_right _ (by omega)
      rw [Nat.succ_mul] at this; omega), flat_at hc i hi' j hjl]
    exact hj

end Go.Proofs.YtmomfkikogbdeaaGreatDoor.Tr

/- Whole rows by value, out of and into blocks of their own. Nothing of the program. -/
namespace Go.Proofs.YtmomfkikogbdeaaGreatDoor
open Go.RowKit

theorem Gr.row {w w1 : World} {S : Nat → Prop} (h : Gr w w1 S) {g : Nat} (hg : S g ∨ w.heap.size ≤ g) (cs : Array Value) : Gr w (w1.setRow g cs) S :=
  ⟨h.os, h.tape, h.output, by rw [setRow_size]; exact h.size, fun i hi hn => (setRow_other w1 g i cs (fun e => by
    subst e
    rcases hg with q | q
    · exact hn q
    · omega)).trans (h.block i hi hn)⟩
section
variable {P : Program}
end
end Go.Proofs.YtmomfkikogbdeaaGreatDoor
