/- What orders do, in plain functions: on a stack told as a list, and on the sixteen places of the machine; that the second does what the first says. No program is spoken of. -/
import Derived.WalkKit
import Derived.Test.YtmomfkikogbdeaaGreatDoorRows
import Derived.WalkLawsBesides
import Derived.Deep.QuietTactic
import Derived.BigQuiet
import Derived.Deep.RegionWith
namespace Go.Proofs.YtmomfkikogbdeaaGreatDoor
open Go.RowKit

/-- A number of a stack. -/
def fit (n : Int) : Bool := decide (-1000000 ≤ n) && decide (n ≤ 1000000)

theorem fit_iff (n : Int) : fit n = true ↔ -1000000 ≤ n ∧ n ≤ 1000000 := by simp [fit]
def b01 (b : Bool) : Int := if b then 1 else 0

/-- Mix, after k rounds. -/
def mixN (a : Int) : Nat → Int
  | 0 => a + 1000000
  | k + 1 => (7919 * mixN a k + 104729) % 1000003

theorem mixN_bd (a : Int) (h : fit a = true) : ∀ k, 0 ≤ mixN a k ∧ mixN a k ≤ 2000000
  | 0 => by have := (fit_iff a).1 h; simp only [mixN]; omega
  | k + 1 => by simp only [mixN]; omega

def mixOf (a : Int) : Int := mixN a 3 % 1000001

/-- What an order that takes two puts. -/
def g2 (k : Int) (a b : Int) : Int :=
  if k = 5 then a + b else if k = 6 then a - b else if k = 7 then b01 (a == b) else if k = 8 then b01 (decide (a < b)) else b01 (a != 0 && b != 0)
/-- What an order that takes one puts. -/
def g1 (k : Int) (a : Int) : Int := if k = 9 then b01 (a == 0) else mixOf a

/-! On a list, the top the last. -/
def putL (L : List Int) (x : Int) : Option (List Int) := if L.length = 16 ∨ fit x = false then none else some (L ++ [x])
def dropL (L : List Int) : Option (List Int) := if L.length = 0 then none else some L.dropLast
def topL (L : List Int) : Int := L.getLastD 0

def stepL (h : Int) (k n : Int) (L : List Int) : Option (List Int) :=
  if k = 1 then putL L n
  else if k = 2 then (dropL L).bind fun M => (putL M (topL L)).bind fun M => putL M (topL L)
  else if k = 3 then (dropL L).bind fun M => (dropL M).bind fun N => (putL N (topL L)).bind fun Q => putL Q (topL M)
  else if k = 4 then dropL L
  else if k = 9 ∨ k = 13 then (dropL L).bind fun M => putL M (g1 k (topL L))
  else if k = 11 then (dropL L).bind fun M => if topL L = 0 then none else some M
  else if k = 12 then putL L h
  else (dropL L).bind fun M => (dropL M).bind fun N => putL N (g2 k (topL M) (topL L))

def runL (h : Int) : List (Int × Int) → List Int → Option (List Int)
  | [], L => some L
  | o :: r, L => (stepL h o.1 o.2 L).bind (runL h r)

theorem runL_append (h : Int) : ∀ (l m : List (Int × Int)) (L : List Int), runL h (l ++ m) L = (runL h l L).bind (runL h m)
  | [], m, L => by simp [runL]
  | o :: r, m, L => by
    simp only [List.cons_append, runL]
    cases stepL h o.1 o.2 L with
    | none => rfl
    | some M => simp only [Option.bind]; exact runL_append h r m M

/-! On the machine. -/
structure MS where
  cs : List Int
  n : Nat
  h : Int
  f : Bool

def MS.ok (s : MS) : Prop := s.cs.length = 16 ∧ s.n ≤ 16 ∧ ∀ x ∈ s.cs, fit x = true
def MS.rep (s : MS) : Option (List Int) := if s.f then none else some (s.cs.take s.n)
def MS.put (s : MS) (x : Int) : MS := if s.n = 16 ∨ fit x = false then { s with f := true } else { s with cs := s.cs.set s.n x, n := s.n + 1 }
def MS.top (s : MS) : Int := if s.n = 0 then 0 else s.cs.getD (s.n - 1) 0
def MS.take (s : MS) : MS := if s.n = 0 then { s with f := true } else { s with n := s.n - 1 }
def MS.fail (s : MS) : MS := { s with f := true }

def MS.step (s : MS) (k n : Int) : MS :=
  if k = 1 then s.put n
  else if k = 2 then (s.take.put s.top).put s.top
  else if k = 3 then (s.take.take.put s.top).put s.take.top
  else if k = 4 then s.take
  else if k = 9 ∨ k = 13 then s.take.put (g1 k s.top)
  else if k = 11 then (if s.top = 0 then s.take.fail else s.take)
  else if k = 12 then s.put s.h
  else s.take.take.put (g2 k s.take.top s.top)

theorem MS.put_h (s : MS) (x : Int) : (s.put x).h = s.h := by unfold MS.put; split <;> rfl
theorem MS.take_h (s : MS) : s.take.h = s.h := by unfold MS.take; split <;> rfl
theorem MS.fail_h (s : MS) : s.fail.h = s.h := rfl
theorem MS.step_h (s : MS) (k n : Int) : (s.step k n).h = s.h := by
  unfold MS.step; repeat' split
  all_goals simp only [MS.put_h, MS.take_h, MS.fail_h]

theorem MS.ok.put_ok {s : MS} (hs : s.ok) (x : Int) : (s.put x).ok := by
  obtain ⟨h1, h2, h3⟩ := hs
  unfold MS.put
  split
  · exact ⟨h1, h2, h3⟩
  · rename_i h
    simp only [not_or, Bool.not_eq_false] at h
    refine ⟨by simpa using h1, by show s.n + 1 ≤ 16; omega, fun y hy => ?_⟩
    rcases List.mem_or_eq_of_mem_set hy with hy | rfl
    · exact h3 y hy
    · exact h.2
theorem MS.ok.take_ok {s : MS} (hs : s.ok) : s.take.ok := by
  obtain ⟨h1, h2, h3⟩ := hs
  unfold MS.take
  split
  · exact ⟨h1, h2, h3⟩
  · exact ⟨h1, by show s.n - 1 ≤ 16; omega, h3⟩
theorem MS.ok.fail_ok {s : MS} (hs : s.ok) : s.fail.ok := hs
theorem MS.ok.top_fit {s : MS} (hs : s.ok) : fit s.top = true := by
  obtain ⟨h1, h2, h3⟩ := hs
  unfold MS.top
  split
  · decide
  · rename_i h
    have hl : s.n - 1 < s.cs.length := by omega
    rw [List.getD_eq_getElem?_getD, List.getElem?_eq_getElem hl, Option.getD_some]
    exact h3 _ (List.getElem_mem hl)

theorem MS.rep_put {s : MS} (hs : s.ok) (x : Int) : (s.put x).rep = s.rep.bind (putL · x) := by
  obtain ⟨h1, h2, _⟩ := hs
  unfold MS.rep
  cases hf : s.f with
  | true =>
    have : (s.put x).f = true := by unfold MS.put; split <;> simp [hf]
    rw [this]; rfl
  | false =>
    simp only [Bool.false_eq_true, if_false, Option.bind_some]
    have hlen : (s.cs.take s.n).length = s.n := by simp; omega
    unfold MS.put putL
    rw [hlen]
    split
    · rfl
    · rename_i h
      simp only [not_or, Bool.not_eq_false] at h
      simp only [hf, Bool.false_eq_true, if_false]
      have hn : s.n < s.cs.length := by omega
      rw [List.take_succ_eq_append_getElem (by simpa using hn)]
      simp [List.take_set_of_le]

theorem MS.rep_take {s : MS} (hs : s.ok) : s.take.rep = s.rep.bind dropL := by
  obtain ⟨h1, h2, _⟩ := hs
  unfold MS.rep
  cases hf : s.f with
  | true =>
    have : s.take.f = true := by unfold MS.take; split <;> simp [hf]
    rw [this]; rfl
  | false =>
    simp only [Bool.false_eq_true, if_false, Option.bind_some]
    have hlen : (s.cs.take s.n).length = s.n := by simp; omega
    unfold MS.take dropL
    rw [hlen]
    split
    · rfl
    · simp only [hf, Bool.false_eq_true, if_false]
      show some (s.cs.take (s.n - 1)) = _
      rw [List.dropLast_eq_take, List.take_take, hlen]
      congr 2
      omega

theorem MS.rep_top {s : MS} (hs : s.ok) {L : List Int} (h : s.rep = some L) : s.top = topL L := by
  obtain ⟨h1, h2, _⟩ := hs
  unfold MS.rep at h
  split at h
  · cases h
  · simp only [Option.some.injEq] at h
    subst h
    unfold MS.top topL
    split
    · rename_i e; rw [e]; rfl
    · have hl : s.n - 1 < s.cs.length := by omega
      rw [List.getLastD_eq_getLast?, List.getLast?_eq_getElem?, List.length_take, List.getD_eq_getElem?_getD]
      have e : min s.n s.cs.length - 1 = s.n - 1 := by omega
      rw [e, List.getElem?_take_of_lt (by omega)]

theorem MS.rep_none_take {s : MS} (hs : s.ok) (h : s.rep = none) : s.take.rep = none := by rw [MS.rep_take hs, h]; rfl
theorem MS.rep_none_put {s : MS} (hs : s.ok) (h : s.rep = none) (x : Int) : (s.put x).rep = none := by rw [MS.rep_put hs, h]; rfl

theorem MS.rep_step {s : MS} (hs : s.ok) (k n : Int) : (s.step k n).rep = s.rep.bind (stepL s.h k n) := by
  have ht := hs.take_ok
  have htt := ht.take_ok
  cases hr : s.rep with
  | none =>
    have h1 := MS.rep_none_take hs hr
    have h2 := MS.rep_none_take ht h1
    show _ = none
    unfold MS.step
    split
    · exact MS.rep_none_put hs hr _
    split
    · exact MS.rep_none_put (ht.put_ok _) (MS.rep_none_put ht h1 _) _
    split
    · exact MS.rep_none_put (htt.put_ok _) (MS.rep_none_put htt h2 _) _
    split
    · exact h1
    split
    · exact MS.rep_none_put ht h1 _
    split
    · split
      · rfl
      · exact h1
    split
    · exact MS.rep_none_put hs hr _
    · exact MS.rep_none_put htt h2 _
  | some L =>
    have e0 := MS.rep_top hs hr
    have e1 : s.take.rep = dropL L := by rw [MS.rep_take hs, hr]; rfl
    have e2 : s.take.take.rep = (dropL L).bind dropL := by rw [MS.rep_take ht, e1]
    have e3 : ∀ M, dropL L = some M → s.take.top = topL M := fun M hM => MS.rep_top ht (e1.trans hM)
    show _ = stepL s.h k n L
    unfold MS.step stepL
    split
    · rw [MS.rep_put hs, hr]; rfl
    split
    · rw [MS.rep_put (ht.put_ok _), MS.rep_put ht, e1, e0]
      cases dropL L with
      | none => rfl
      | some M => rfl
    split
    · rw [MS.rep_put (htt.put_ok _), MS.rep_put htt, e2, e0]
      cases hM : dropL L with
      | none => rfl
      | some M =>
        rw [e3 M hM]
        show ((dropL M).bind (putL · (topL L))).bind _ = (dropL M).bind _
        cases dropL M <;> rfl
    split
    · exact e1
    split
    · rw [MS.rep_put ht, e1, e0]
    split
    · rw [e0]
      cases hM : dropL L with
      | none =>
        show _ = none
        split
        · rfl
        · rw [e1, hM]
      | some M =>
        show _ = (if topL L = 0 then none else some M)
        split
        · rfl
        · rw [e1, hM]
    split
    · rw [MS.rep_put hs, hr]; rfl
    · rw [MS.rep_put htt, e2, e0]
      cases hM : dropL L with
      | none => rfl
      | some M =>
        rw [e3 M hM]
        show ((dropL M).bind _) = (dropL M).bind _
        rfl

/-! A stack that may be. -/
def stackOk (Z : List Int) : Bool := decide (Z.length ≤ 16) && Z.all fit

def putsL : List Int → List Int → Option (List Int)
  | L, [] => some L
  | L, x :: r => (putL L x).bind fun M => putsL M r

theorem putsL_snoc : ∀ (Z L : List Int) (x : Int), putsL L (Z ++ [x]) = (putsL L Z).bind (putL · x)
  | [], L, x => by simp [putsL]
  | y :: r, L, x => by
    simp only [List.cons_append, putsL]
    cases putL L y with
    | none => rfl
    | some M => exact putsL_snoc r M x

theorem putsL_is : ∀ (Z L : List Int), L.length ≤ 16 → putsL L Z = if decide ((L ++ Z).length ≤ 16) && Z.all fit then some (L ++ Z) else none
  | [], L, h => by simp [putsL, h]
  | x :: r, L, h => by
    simp only [putsL, putL]
    by_cases h1 : L.length = 16
    · rw [if_pos (Or.inl h1), if_neg]; rfl
      simp only [List.length_append, List.length_cons, Bool.and_eq_true, decide_eq_true_eq]; omega
    · by_cases h2 : fit x = false
      · rw [if_pos (Or.inr h2), if_neg]; rfl
        simp [h2]
      · rw [if_neg (by simp [h1]; simpa using h2)]
        show putsL (L ++ [x]) r = _
        rw [putsL_is r (L ++ [x]) (by simp; omega)]
        have h3 : fit x = true := by simpa using h2
        simp [h3]

theorem putsL_nil (Z : List Int) : putsL [] Z = if stackOk Z then some Z else none := by
  rw [putsL_is Z [] (by simp)]; rfl

theorem putL_ok {L M : List Int} {x : Int} (hL : stackOk L = true) (h : putL L x = some M) : stackOk M = true := by
  unfold putL at h
  split at h
  · cases h
  · rename_i hc
    simp only [Option.some.injEq] at h
    subst h
    simp only [not_or, Bool.not_eq_false] at hc
    simp only [stackOk, Bool.and_eq_true, decide_eq_true_eq] at hL ⊢
    refine ⟨by simp; omega, ?_⟩
    rw [List.all_append]
    simp [hL.2, hc.2]

theorem dropL_ok {L M : List Int} (hL : stackOk L = true) (h : dropL L = some M) : stackOk M = true := by
  unfold dropL at h
  split at h
  · cases h
  · simp only [Option.some.injEq] at h
    subst h
    simp only [stackOk, Bool.and_eq_true, decide_eq_true_eq, List.all_eq_true] at hL ⊢
    exact ⟨by simp; omega, fun x hx => hL.2 x (List.dropLast_subset _ hx)⟩

theorem bind_ok {α β : Type} {o : Option α} {f : α → Option β} {b : β} (h : o.bind f = some b) : ∃ a, o = some a ∧ f a = some b := by
  cases o with
  | none => cases h
  | some a => exact ⟨a, rfl, h⟩

theorem stepL_ok {h k n : Int} {L M : List Int} (hL : stackOk L = true) (e : stepL h k n L = some M) : stackOk M = true := by
  unfold stepL at e
  split at e
  · exact putL_ok hL e
  split at e
  · obtain ⟨A, hA, e⟩ := bind_ok e; obtain ⟨B, hB, e⟩ := bind_ok e
    exact putL_ok (putL_ok (dropL_ok hL hA) hB) e
  split at e
  · obtain ⟨A, hA, e⟩ := bind_ok e; obtain ⟨B, hB, e⟩ := bind_ok e; obtain ⟨C, hC, e⟩ := bind_ok e
    exact putL_ok (putL_ok (dropL_ok (dropL_ok hL hA) hB) hC) e
  split at e
  · exact dropL_ok hL e
  split at e
  · obtain ⟨A, hA, e⟩ := bind_ok e
    exact putL_ok (dropL_ok hL hA) e
  split at e
  · obtain ⟨A, hA, e⟩ := bind_ok e
    split at e
    · cases e
    · cases e; exact dropL_ok hL hA
  split at e
  · exact putL_ok hL e
  · obtain ⟨A, hA, e⟩ := bind_ok e; obtain ⟨B, hB, e⟩ := bind_ok e
    exact putL_ok (dropL_ok (dropL_ok hL hA) hB) e

theorem runL_ok {h : Int} : ∀ {l : List (Int × Int)} {L M : List Int}, stackOk L = true → runL h l L = some M → stackOk M = true
  | [], L, M, hL, e => by cases e; exact hL
  | o :: r, L, M, hL, e => by
    obtain ⟨A, hA, e⟩ := bind_ok e
    exact runL_ok (stepL_ok hL hA) e

/-! What Check, Run and Opens answer. -/
def chk1 (o : Int × Int) : Int := if o.1 < 1 ∨ 13 < o.1 then 4 else if (o.1 ≠ 1 ∧ o.2 ≠ 0) ∨ fit o.2 = false then 3 else 0
def chkL : List (Int × Int) → Int
  | [] => 0
  | o :: r => if chk1 o = 0 then chkL r else chk1 o
def chk (l : List (Int × Int)) : Int := if 16 < l.length then 2 else chkL l

theorem chkL_take (l : List (Int × Int)) (k : Nat) (h : k < l.length) (h0 : chkL (l.take k) = 0) : chkL (l.take (k + 1)) = if chk1 (l[k]) = 0 then 0 else chk1 (l[k]) := by
  induction l generalizing k with
  | nil => simp at h
  | cons o r ih =>
    cases k with
    | zero => simp [chkL]
    | succ k =>
      simp only [List.take_succ_cons, chkL, List.getElem_cons_succ] at h0 ⊢
      split at h0
      · rename_i e
        rw [if_pos e]
        exact ih k (by simpa using h) h0
      · contradiction

theorem chkL_stop (l : List (Int × Int)) (k : Nat) (h : k < l.length) (h0 : chkL (l.take k) = 0) (h1 : chk1 (l[k]) ≠ 0) : chkL l = chk1 (l[k]) := by
  induction l generalizing k with
  | nil => simp at h
  | cons o r ih =>
    cases k with
    | zero => simp only [List.getElem_cons_zero] at h1 ⊢; simp [chkL, h1]
    | succ k =>
      simp only [List.take_succ_cons, chkL, List.getElem_cons_succ] at h0 h1 ⊢
      split at h0
      · rename_i e
        rw [if_pos e]
        exact ih k (by simpa using h) h0 h1
      · contradiction

theorem chkL_all {l : List (Int × Int)} (h : chkL l = 0) : ∀ (k : Nat) (hk : k < l.length), chk1 (l[k]) = 0 := by
  induction l with
  | nil => intro k hk; simp at hk
  | cons o r ih =>
    simp only [chkL] at h
    split at h
    · rename_i e
      intro k hk
      cases k with
      | zero => exact e
      | succ k => exact ih h k (by simpa using hk)
    · contradiction

def hOk (h : Int) : Bool := decide (0 ≤ h) && decide (h ≤ 1000)
def runE (l : List (Int × Int)) (Z : List Int) (h : Int) : Int :=
  if chk l = 0 then (if stackOk Z && hOk h then (if (runL h l Z).isSome then 0 else 8) else 3) else chk l
def runS (l : List (Int × Int)) (Z : List Int) (h : Int) : List Int := if runE l Z h = 0 then (runL h l Z).getD [] else []

def opensE (l k : List (Int × Int)) (h : Int) : Int := if chk l = 0 then (if chk k = 0 then (if hOk h then 0 else 3) else chk k) else chk l
def one1 (L : List Int) : Bool := decide (L.length = 1) && (topL L != 0)
def opensB (l k : List (Int × Int)) (h : Int) : Bool := decide (opensE l k h = 0) && (match (runL h k []).bind (runL h l) with | some L => one1 L | none => false)

end Go.Proofs.YtmomfkikogbdeaaGreatDoor

/- Transactions as plain data: what is wrong with one, and sums of amounts. Nothing of the program. -/
namespace Go.Proofs.YtmomfkikogbdeaaGreatDoor

/-- An in: the transaction's name, the place, the key; an out: the coin, the lock; a transaction: its height, its ins, its outs. -/
abbrev InD := Int × Int × List (Int × Int)
abbrev OutD := Int × List (Int × Int)
abbrev TxD := Int × List InD × List OutD

def ptOk (x : InD) : Bool := (decide (1 ≤ x.1) && decide (x.1 ≤ 120)) && (decide (0 ≤ x.2.1) && decide (x.2.1 ≤ 5))
def samePt (x y : InD) : Bool := decide (y.1 = x.1) && decide (y.2.1 = x.2.1)
def chkIn1 (pre : List InD) (x : InD) : Int := if ptOk x = false then 3 else if chk x.2.2 ≠ 0 then chk x.2.2 else if pre.any (samePt x) then 6 else 0
def chkIns (pre : List InD) : List InD → Int
  | [] => 0
  | x :: r => if chkIn1 pre x = 0 then chkIns (pre ++ [x]) r else chkIn1 pre x
def chkOut1 (x : OutD) : Int := if x.1 < 1 then 3 else chk x.2
def chkOuts : List OutD → Int
  | [] => 0
  | x :: r => if chkOut1 x = 0 then chkOuts r else chkOut1 x

/-- The sum of amounts, one by one from s on: the sum and 0, or 0 and what is wrong. -/
def sm : Int → List Int → Int × Int
  | s, [] => (s, 0)
  | s, x :: l => if 0 ≤ x ∧ x ≤ 1000000000 then (if s + x ≤ 1000000000 then sm (s + x) l else (0, 12)) else (0, 3)

theorem sm_step (s : Int) (Z : List Int) (k : Nat) (hk : k < Z.length) (h1 : 0 ≤ Z.getD k 0) (h2 : Z.getD k 0 ≤ 1000000000) (h3 : s + Z.getD k 0 ≤ 1000000000) :
    sm s (Z.drop k) = sm (s + Z.getD k 0) (Z.drop (k + 1)) := by
  have e : Z.drop k = Z.getD k 0 :: Z.drop (k + 1) := by
    rw [List.drop_eq_getElem_cons hk]; simp [List.getD, hk]
  rw [e, sm, if_pos ⟨h1, h2⟩, if_pos h3]
theorem sm_full (s : Int) (Z : List Int) (k : Nat) (hk : k < Z.length) (h1 : 0 ≤ Z.getD k 0) (h2 : Z.getD k 0 ≤ 1000000000) (h3 : 1000000000 < s + Z.getD k 0) :
    sm s (Z.drop k) = (0, 12) := by
  have e : Z.drop k = Z.getD k 0 :: Z.drop (k + 1) := by
    rw [List.drop_eq_getElem_cons hk]; simp [List.getD, hk]
  rw [e, sm, if_pos ⟨h1, h2⟩, if_neg (by omega)]
theorem sm_range (s : Int) (Z : List Int) (k : Nat) (hk : k < Z.length) (h : Z.getD k 0 < 0 ∨ 1000000000 < Z.getD k 0) :
    sm s (Z.drop k) = (0, 3) := by
  have e : Z.drop k = Z.getD k 0 :: Z.drop (k + 1) := by
    rw [List.drop_eq_getElem_cons hk]; simp [List.getD, hk]
  rw [e, sm, if_neg (by omega)]
theorem sm_end (s : Int) (Z : List Int) (k : Nat) (hk : Z.length ≤ k) : sm s (Z.drop k) = (s, 0) := by
  rw [List.drop_of_length_le hk]; rfl

def hFit (t : TxD) : Bool := if t.2.1.length = 0 then decide (1 ≤ t.1) && decide (t.1 ≤ 1000) else decide (t.1 = 0)
def chkOutsAll (l : List OutD) : Int := if chkOuts l = 0 then (sm 0 (l.map (·.1))).2 else chkOuts l
def chkTx (t : TxD) : Int :=
  if 6 < t.2.1.length ∨ 6 < t.2.2.length then 2 else if t.2.2.length = 0 then 4 else if hFit t = false then 3
  else if chkIns [] t.2.1 ≠ 0 then chkIns [] t.2.1 else chkOutsAll t.2.2

theorem chkIns_step (L : List InD) (k : Nat) (hk : k < L.length) (h : chkIn1 (L.take k) L[k] = 0) : chkIns (L.take k) (L.drop k) = chkIns (L.take (k + 1)) (L.drop (k + 1)) := by
  rw [List.drop_eq_getElem_cons hk, chkIns, if_pos h, List.take_succ_eq_append_getElem hk]
theorem chkIns_stop (L : List InD) (k : Nat) (hk : k < L.length) (h : chkIn1 (L.take k) L[k] ≠ 0) : chkIns (L.take k) (L.drop k) = chkIn1 (L.take k) L[k] := by
  rw [List.drop_eq_getElem_cons hk, chkIns, if_neg h]
theorem chkIns_end (L : List InD) (k : Nat) (hk : L.length ≤ k) : chkIns (L.take k) (L.drop k) = 0 := by
  rw [List.drop_of_length_le hk]; rfl
theorem chkOuts_step (L : List OutD) (k : Nat) (hk : k < L.length) (h : chkOut1 L[k] = 0) : chkOuts (L.drop k) = chkOuts (L.drop (k + 1)) := by
  rw [List.drop_eq_getElem_cons hk, chkOuts, if_pos h]
theorem chkOuts_stop (L : List OutD) (k : Nat) (hk : k < L.length) (h : chkOut1 L[k] ≠ 0) : chkOuts (L.drop k) = chkOut1 L[k] := by
  rw [List.drop_eq_getElem_cons hk, chkOuts, if_neg h]
theorem chkOuts_end (L : List OutD) (k : Nat) (hk : L.length ≤ k) : chkOuts (L.drop k) = 0 := by
  rw [List.drop_of_length_le hk]; rfl

theorem chkIn1_pt {pre : List InD} {x : InD} (h : ptOk x = false) : chkIn1 pre x = 3 := by unfold chkIn1; rw [if_pos h]
theorem chkIn1_key {pre : List InD} {x : InD} (h : ptOk x = true) (hk : chk x.2.2 ≠ 0) : chkIn1 pre x = chk x.2.2 := by
  unfold chkIn1; rw [if_neg (by rw [h]; decide), if_pos hk]
theorem chkIn1_twice {pre : List InD} {x : InD} (h : ptOk x = true) (hk : chk x.2.2 = 0) (ht : pre.any (samePt x) = true) : chkIn1 pre x = 6 := by
  unfold chkIn1; rw [if_neg (by rw [h]; decide), if_neg (by rw [hk]; decide), if_pos ht]
theorem chkIn1_ok {pre : List InD} {x : InD} (h : ptOk x = true) (hk : chk x.2.2 = 0) (ht : pre.any (samePt x) = false) : chkIn1 pre x = 0 := by
  unfold chkIn1; rw [if_neg (by rw [h]; decide), if_neg (by rw [hk]; decide), if_neg (by rw [ht]; decide)]

/-- Are two transactions alike? -/
def sameT (t u : TxD) : Bool := decide (t.1 = u.1) && (decide (t.2.1 = u.2.1) && decide (t.2.2 = u.2.2))
end Go.Proofs.YtmomfkikogbdeaaGreatDoor

/- What the walks have in common. -/
namespace Go.Proofs.YtmomfkikogbdeaaGreatDoor
open Go.RowKit

theorem hide {p : Prop} (h : p) : Hid p := h
theorem unhide {p : Prop} (h : Hid p) : p := h

end Go.Proofs.YtmomfkikogbdeaaGreatDoor

/- Contracts of what tells whether a number is within bounds. -/
namespace Go.Proofs.YtmomfkikogbdeaaGreatDoor
open Go.RowKit

set_option maxHeartbeats 400000 in
theorem within_yes (n lo hi : Int) (w : World) (h1 : lo ≤ n) (h2 : n ≤ hi) :
    Calls Tryz.prog 103 #[.int .i64 n, .int .i64 lo, .int .i64 hi] w fun e w' => e = .returned (.bool true) ∧ w = w' := by
  go_enter Tryz.func103, Tryz.ntmps103
  go_wp2
  go_ret
  exact ⟨rfl, rfl⟩

set_option maxHeartbeats 400000 in
theorem within_no (n lo hi : Int) (w : World) (h : n < lo ∨ hi < n) :
    Calls Tryz.prog 103 #[.int .i64 n, .int .i64 lo, .int .i64 hi] w fun e w' => e = .returned (.bool false) ∧ w = w' := by
  by_cases h1 : n < lo
  · go_enter Tryz.func103, Tryz.ntmps103
    go_wp2
    go_ret
    exact ⟨rfl, rfl⟩
  · have h2 : hi < n := by omega
    have h3 : lo ≤ n := by omega
    have h4 : decide (n ≤ hi) = false := by simp; omega
    clear h
    go_enter Tryz.func103, Tryz.ntmps103
    go_wp2
    go_ret
    exact ⟨rfl, rfl⟩

theorem within_is (n lo hi : Int) (b : Bool) (w : World) (hb : b = (decide (lo ≤ n) && decide (n ≤ hi))) :
    Calls Tryz.prog 103 #[.int .i64 n, .int .i64 lo, .int .i64 hi] w fun e w' => e = .returned (.bool b) ∧ w = w' := by
  subst hb
  by_cases h1 : lo ≤ n
  · by_cases h2 : n ≤ hi
    · simpa [h1, h2] using within_yes n lo hi w h1 h2
    · simpa [h1, h2] using within_no n lo hi w (by omega)
  · simpa [h1] using within_no n lo hi w (by omega)

set_option maxHeartbeats 400000 in
theorem fits_is (n : Int) (b : Bool) (w : World) (hb : b = fit n) :
    Calls Tryz.prog 302 #[.int .i64 n] w fun e w' => e = .returned (.bool b) ∧ w = w' := by
  have HB := hide hb
  clear hb
  go_enter Tryz.func302, Tryz.ntmps302
  go_wp2_with (go_at_call 103; refine (within_is _ _ _ b _ (unhide HB)).mono ?_; rintro e w' ⟨rfl, rfl⟩)
  go_ret
  exact ⟨rfl, rfl⟩

end Go.Proofs.YtmomfkikogbdeaaGreatDoor

/- Contracts of Check and of what it asks of one order. -/
namespace Go.Proofs.YtmomfkikogbdeaaGreatDoor
open Go.RowKit

theorem ret_same {a b : Int} (h : a = b) : Ending.returned (.int .i64 a) = .returned (.int .i64 b) := by rw [h]

set_option maxHeartbeats 400000 in
theorem checkOrder_any (k n : Int) (w : World) :
    Calls Tryz.prog 277 #[.agg #[.int .i64 k, .int .i64 n]] w fun e w' => e = .returned (.int .i64 (chk1 (k, n))) ∧ Below w.heap.size w w' := by
  have hb : ∀ o, Below w.heap.size w (w.alloc o) := fun o => (Below.refl _ _).alloc (Nat.le_refl _) _
  have HB := hide hb
  clear hb
  by_cases h1 : k < 1 ∨ 13 < k
  · have e : chk1 (k, n) = 4 := by simp [chk1, h1]
    rw [e]
    clear e
    go_enter Tryz.func277, Tryz.ntmps277
    go_wp2_with (go_at_call 103; refine (within_no _ _ _ _ h1).mono ?_; rintro e w' ⟨rfl, rfl⟩)
    go_ret
    exact ⟨rfl, (unhide HB) _⟩
  · have g1 : 1 ≤ k := by omega
    have g2 : k ≤ 13 := by omega
    by_cases h2 : k = 1
    · subst h2
      clear h1
      cases h3 : fit n with
      | false =>
        have e : chk1 (1, n) = 3 := by simp [chk1, h3]
        rw [e]
        have H3 := hide h3
        clear e h3
        go_enter Tryz.func277, Tryz.ntmps277
        go_wp2_with (first | (go_at_call 103; refine (within_yes _ _ _ _ (by decide) (by decide)).mono ?_; rintro e w' ⟨rfl, rfl⟩) | (go_at_call 302; refine (fits_is _ false _ (unhide H3).symm).mono ?_; rintro e w' ⟨rfl, rfl⟩))
        go_ret
        exact ⟨rfl, (unhide HB) _⟩
      | true =>
        have e : chk1 (1, n) = 0 := by simp [chk1, h3]
        rw [e]
        have H3 := hide h3
        clear e h3
        go_enter Tryz.func277, Tryz.ntmps277
        go_wp2_with (first | (go_at_call 103; refine (within_yes _ _ _ _ (by decide) (by decide)).mono ?_; rintro e w' ⟨rfl, rfl⟩) | (go_at_call 302; refine (fits_is _ true _ (unhide H3).symm).mono ?_; rintro e w' ⟨rfl, rfl⟩))
        go_ret
        exact ⟨rfl, (unhide HB) _⟩
    · have g3 : (k != 1) = true := by simp [h2]
      by_cases h4 : n = 0
      · subst h4
        have h3 : fit 0 = true := by decide
        have e : chk1 (k, 0) = 0 := by simp [chk1, h3, h1]
        rw [e]
        have H3 := hide h3
        clear e h3 h1 h2
        go_enter Tryz.func277, Tryz.ntmps277
        go_wp2_with (first | (go_at_call 103; refine (within_yes _ _ _ _ g1 g2).mono ?_; rintro e w' ⟨rfl, rfl⟩) | (go_at_call 302; refine (fits_is _ true _ (unhide H3).symm).mono ?_; rintro e w' ⟨rfl, rfl⟩))
        go_ret
        exact ⟨rfl, (unhide HB) _⟩
      · have g4 : (n != 0) = true := by simp [h4]
        have e : chk1 (k, n) = 3 := by simp [chk1, h1, h2, h4]
        rw [e]
        clear e h1 h2 h4
        go_enter Tryz.func277, Tryz.ntmps277
        go_wp2_with (go_at_call 103; refine (within_yes _ _ _ _ g1 g2).mono ?_; rintro e w' ⟨rfl, rfl⟩)
        go_ret
        exact ⟨rfl, (unhide HB) _⟩

/-- A slice of orders in memory. -/
def OpsAt (w : World) (a : Option Addr) (len : Nat) (l : List (Int × Int)) : Prop :=
  l.length = len ∧ (0 < len → ∃ b off, a = some ⟨b, off, none⟩ ∧ ∀ i, i < len → w.cell? ⟨b, off + i * 2, none⟩ = some (.int .i64 (l.getD i (0, 0)).1) ∧ w.cell? ⟨b, off + i * 2 + 1, none⟩ = some (.int .i64 (l.getD i (0, 0)).2))

theorem OpsAt.later {w w' : World} {a : Option Addr} {len : Nat} {l : List (Int × Int)} (h : OpsAt w a len l) (hb : Below w.heap.size w w') : OpsAt w' a len l := by
  obtain ⟨hz, hc⟩ := h
  refine ⟨hz, fun h => ?_⟩
  obtain ⟨b, off, rfl, hcell⟩ := hc h
  refine ⟨b, off, rfl, fun i hi => ?_⟩
  obtain ⟨h1, h2⟩ := hcell i hi
  refine ⟨?_, ?_⟩
  · rw [hb.cell (p := ⟨b, off + i * 2, none⟩) (World.block_lt_of_cell? _ _ h1)]; exact h1
  · rw [hb.cell (p := ⟨b, off + i * 2 + 1, none⟩) (World.block_lt_of_cell? _ _ h2)]; exact h2

set_option maxHeartbeats 400000 in
theorem check_many (a : Option Addr) (len cap : Nat) (w : World) (h : 16 < len) :
    Calls Tryz.prog 249 #[.slice a len cap] w fun e w' => e = .returned (.int .i64 2) ∧ w = w' := by
  go_enter Tryz.func249, Tryz.ntmps249
  go_wp2
  go_ret
  exact ⟨rfl, rfl⟩

set_option maxHeartbeats 400000 in
theorem check_none (a : Option Addr) (cap : Nat) (w : World) :
    Calls Tryz.prog 249 #[.slice a 0 cap] w fun e w' => e = .returned (.int .i64 0) ∧ w = w' := by
  go_enter Tryz.func249, Tryz.ntmps249
  go_wp2
  refine wp_loop_rounds 1 ?_
  rw [rounds_succ]
  go_wp2
  go_ret
  exact ⟨rfl, rfl⟩

set_option maxHeartbeats 800000 in
theorem check_some (b off len cap : Nat) (l : List (Int × Int)) (w : World) (h0 : len ≤ 16) (hz : l.length = len)
    (hc : ∀ i, i < len → w.cell? ⟨b, off + i * 2, none⟩ = some (.int .i64 (l.getD i (0, 0)).1) ∧ w.cell? ⟨b, off + i * 2 + 1, none⟩ = some (.int .i64 (l.getD i (0, 0)).2)) (hl : b < w.heap.size) :
    Calls Tryz.prog 249 #[.slice (some ⟨b, off, none⟩) len cap] w fun e w' => e = .returned (.int .i64 (chkL l)) ∧ Below w.heap.size w w' := by
  have HC := hide hc
  have HZ := hide hz
  clear hc hz
  go_enter Tryz.func249, Tryz.ntmps249
  go_wp2
  go_loopw [11] (fun i wr => ∃ k : Nat, k ≤ len ∧ i = .int .i64 k ∧ chkL (l.take k) = 0 ∧ Below w.heap.size w wr) (fun i _ => len - (intOf i).toNat)
  case atStart => exact ⟨0, Nat.zero_le _, rfl, rfl, Below.refl _ _⟩
  case round =>
    obtain ⟨k, hk, rfl, hok, hb⟩ := hrel
    have HOK := hide hok
    have HB := hide hb
    clear hok
    by_cases hlt : k < len
    · obtain ⟨c1, c2⟩ := (unhide HC) k hlt
      rw [← hb.cell (p := ⟨b, off + k * 2, none⟩) hl] at c1
      rw [← hb.cell (p := ⟨b, off + k * 2 + 1, none⟩) hl] at c2
      obtain ⟨q, hq⟩ : ∃ q, q = l.getD k (0, 0) := ⟨_, rfl⟩
      rw [← hq] at c1 c2
      have hlk : k < l.length := by rw [unhide HZ]; exact hlt
      have hq' : q = l[k] := by rw [hq]; simp [hlk]
      have HQ := hide hq'
      clear hb hq hq'
      obtain ⟨q1, q2⟩ := q
      have CO := hide (checkOrder_any q1 q2)
      obtain ⟨x, hx⟩ : ∃ x, x = chk1 (q1, q2) := ⟨_, rfl⟩
      rw [← hx] at CO
      have HX := hide hx
      clear hx
      by_cases hx0 : x = 0
      · subst hx0
        go_wp2_with fail
        refine ((unhide CO) _).mono ?_
        rintro e w1 ⟨rfl, hb1⟩
        have hb2 := (unhide HB).trans (((Below.refl wr.heap.size wr).alloc (Nat.le_refl _) _).trans (hb1.mono (by simp)) |>.mono (unhide HB).size)
        have HB2 := hide hb2
        clear hb1 hb2
        go_wp2
        go_roundw
        case rel =>
          refine ⟨k + 1, by omega, by go_num, ?_, unhide HB2⟩
          rw [chkL_take l k hlk (unhide HOK), ← unhide HQ, ← unhide HX]; rfl
        case measure => simp [intOf]; omega
      · have hx1 : (x != 0) = true := by simp [hx0]
        have HX0 := hide hx0
        clear hx0
        go_wp2_with fail
        refine ((unhide CO) _).mono ?_
        rintro e w1 ⟨rfl, hb1⟩
        have hb2 := (unhide HB).trans (((Below.refl wr.heap.size wr).alloc (Nat.le_refl _) _).trans (hb1.mono (by simp)) |>.mono (unhide HB).size)
        have HB2 := hide hb2
        clear hb1 hb2
        go_wp2
        go_ret
        refine ⟨ret_same ?_, unhide HB2⟩
        rw [chkL_stop l k hlk (unhide HOK) (by rw [← unhide HQ, ← unhide HX]; exact unhide HX0), ← unhide HQ, ← unhide HX]
    · clear hb
      go_wp2
      go_ret
      have e : k = len := by omega
      subst e
      refine ⟨ret_same ?_, unhide HB⟩
      have h1 := unhide HOK
      rw [← unhide HZ, List.take_length] at h1
      exact h1.symm

theorem check_any (a : Option Addr) (len cap : Nat) (l : List (Int × Int)) (w : World) (h : OpsAt w a len l) :
    Calls Tryz.prog 249 #[.slice a len cap] w fun e w' => e = .returned (.int .i64 (chk l)) ∧ Below w.heap.size w w' := by
  obtain ⟨hz, hc⟩ := h
  unfold chk
  rw [hz]
  by_cases h1 : 16 < len
  · rw [if_pos h1]
    exact (check_many a len cap w h1).mono fun e w' ⟨x, y⟩ => ⟨x, y ▸ Below.refl _ _⟩
  · rw [if_neg h1]
    by_cases h2 : len = 0
    · subst h2
      have e : l = [] := List.length_eq_zero_iff.1 hz
      subst e
      exact (check_none a cap w).mono fun e w' ⟨x, y⟩ => ⟨x, y ▸ Below.refl _ _⟩
    · obtain ⟨b, off, rfl, hcell⟩ := hc (by omega)
      exact check_some b off len cap l w (by omega) hz hcell (World.block_lt_of_cell? _ _ (hcell 0 (by omega)).1)

end Go.Proofs.YtmomfkikogbdeaaGreatDoor

/- A slice of ints in memory. -/
namespace Go.Proofs.YtmomfkikogbdeaaGreatDoor
open Go.RowKit

/-- A slice of ints in memory. -/
def RowAt (w : World) (a : Option Addr) (len : Nat) (Z : List Int) : Prop :=
  Z.length = len ∧ len ≤ maxLen ∧ (0 < len → ∃ b off, a = some ⟨b, off, none⟩ ∧ ∀ i, i < len → w.cell? ⟨b, off + i, none⟩ = some (.int .i64 (Z.getD i 0)))

theorem RowAt.later {w w' : World} {a : Option Addr} {len : Nat} {Z : List Int} (h : RowAt w a len Z) (hb : Below w.heap.size w w') : RowAt w' a len Z := by
  obtain ⟨hz, hm, hc⟩ := h
  refine ⟨hz, hm, fun h => ?_⟩
  obtain ⟨b, off, rfl, hcell⟩ := hc h
  refine ⟨b, off, rfl, fun i hi => ?_⟩
  have h1 := hcell i hi
  rw [hb.cell (p := ⟨b, off + i, none⟩) (World.block_lt_of_cell? _ _ h1)]; exact h1

theorem RowAt.nil (w : World) (a : Option Addr) : RowAt w a 0 [] := ⟨rfl, Nat.zero_le _, fun h => absurd h (by omega)⟩

end Go.Proofs.YtmomfkikogbdeaaGreatDoor
