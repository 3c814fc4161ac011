/- Transactions as plain data: what is wrong with one, and sums of amounts. Nothing of the program. -/
import Derived.Test.YtepmnpapdknocaaGreatDoorLockMath
namespace Go.Proofs.YtepmnpapdknocaaGreatDoor

/-- An in: the transaction's name, the place, the key; an out: the coin, the lock; a transaction: its height, its ins, its outs. -/
abbrev InD := Int × Int × List (Int × Int)
abbrev OutD := Int × List (Int × Int)
abbrev TxD := Int × List InD × List OutD

def ptOk (x : InD) : Bool := (decide (1 ≤ x.1) && decide (x.1 ≤ 120)) && (decide (0 ≤ x.2.1) && decide (x.2.1 ≤ 5))
def samePt (x y : InD) : Bool := decide (y.1 = x.1) && decide (y.2.1 = x.2.1)
def chkIn1 (pre : List InD) (x : InD) : Int := if ptOk x = false then 3 else if chk x.2.2 ≠ 0 then chk x.2.2 else if pre.any (samePt x) then 6 else 0
def chkIns (pre : List InD) : List InD → Int
  | [] => 0
  | x :: r => if chkIn1 pre x = 0 then chkIns (pre ++ [x]) r else chkIn1 pre x
def chkOut1 (x : OutD) : Int := if x.1 < 1 then 3 else chk x.2
def chkOuts : List OutD → Int
  | [] => 0
  | x :: r => if chkOut1 x = 0 then chkOuts r else chkOut1 x

/-- The sum of amounts, one by one from s on: the sum and 0, or 0 and what is wrong. -/
def sm : Int → List Int → Int × Int
  | s, [] => (s, 0)
  | s, x :: l => if 0 ≤ x ∧ x ≤ 1000000000 then (if s + x ≤ 1000000000 then sm (s + x) l else (0, 12)) else (0, 3)

theorem sm_step (s : Int) (Z : List Int) (k : Nat) (hk : k < Z.length) (h1 : 0 ≤ Z.getD k 0) (h2 : Z.getD k 0 ≤ 1000000000) (h3 : s + Z.getD k 0 ≤ 1000000000) :
    sm s (Z.drop k) = sm (s + Z.getD k 0) (Z.drop (k + 1)) := by
  have e : Z.drop k = Z.getD k 0 :: Z.drop (k + 1) := by
    rw [List.drop_eq_getElem_cons hk]; simp [List.getD, hk]
  rw [e, sm, if_pos ⟨h1, h2⟩, if_pos h3]
theorem sm_full (s : Int) (Z : List Int) (k : Nat) (hk : k < Z.length) (h1 : 0 ≤ Z.getD k 0) (h2 : Z.getD k 0 ≤ 1000000000) (h3 : 1000000000 < s + Z.getD k 0) :
    sm s (Z.drop k) = (0, 12) := by
  have e : Z.drop k = Z.getD k 0 :: Z.drop (k + 1) := by
    rw [List.drop_eq_getElem_cons hk]; simp [List.getD, hk]
  rw [e, sm, if_pos ⟨h1, h2⟩, if_neg (by omega)]
theorem sm_range (s : Int) (Z : List Int) (k : Nat) (hk : k < Z.length) (h : Z.getD k 0 < 0 ∨ 1000000000 < Z.getD k 0) :
    sm s (Z.drop k) = (0, 3) := by
  have e : Z.drop k = Z.getD k 0 :: Z.drop (k + 1) := by
    rw [List.drop_eq_getElem_cons hk]; simp [List.getD, hk]
  rw [e, sm, if_neg (by omega)]
theorem sm_end (s : Int) (Z : List Int) (k : Nat) (hk : Z.length ≤ k) : sm s (Z.drop k) = (s, 0) := by
  rw [List.drop_of_length_le hk]; rfl

def hFit (t : TxD) : Bool := if t.2.1.length = 0 then decide (1 ≤ t.1) && decide (t.1 ≤ 1000) else decide (t.1 = 0)
def chkOutsAll (l : List OutD) : Int := if chkOuts l = 0 then (sm 0 (l.map (·.1))).2 else chkOuts l
def chkTx (t : TxD) : Int :=
  if 6 < t.2.1.length ∨ 6 < t.2.2.length then 2 else if t.2.2.length = 0 then 4 else if hFit t = false then 3
  else if chkIns [] t.2.1 ≠ 0 then chkIns [] t.2.1 else chkOutsAll t.2.2

theorem chkIns_step (L : List InD) (k : Nat) (hk : k < L.length) (h : chkIn1 (L.take k) L[k] = 0) : chkIns (L.take k) (L.drop k) = chkIns (L.take (k + 1)) (L.drop (k + 1)) := by
  rw [List.drop_eq_getElem_cons hk, chkIns, if_pos h, List.take_succ_eq_append_getElem hk]
theorem chkIns_stop (L : List InD) (k : Nat) (hk : k < L.length) (h : chkIn1 (L.take k) L[k] ≠ 0) : chkIns (L.take k) (L.drop k) = chkIn1 (L.take k) L[k] := by
  rw [List.drop_eq_getElem_cons hk, chkIns, if_neg h]
theorem chkIns_end (L : List InD) (k : Nat) (hk : L.length ≤ k) : chkIns (L.take k) (L.drop k) = 0 := by
  rw [List.drop_of_length_le hk]; rfl
theorem chkOuts_step (L : List OutD) (k : Nat) (hk : k < L.length) (h : chkOut1 L[k] = 0) : chkOuts (L.drop k) = chkOuts (L.drop (k + 1)) := by
  rw [List.drop_eq_getElem_cons hk, chkOuts, if_pos h]
theorem chkOuts_stop (L : List OutD) (k : Nat) (hk : k < L.length) (h : chkOut1 L[k] ≠ 0) : chkOuts (L.drop k) = chkOut1 L[k] := by
  rw [List.drop_eq_getElem_cons hk, chkOuts, if_neg h]
theorem chkOuts_end (L : List OutD) (k : Nat) (hk : L.length ≤ k) : chkOuts (L.drop k) = 0 := by
  rw [List.drop_of_length_le hk]; rfl

theorem chkIn1_pt {pre : List InD} {x : InD} (h : ptOk x = false) : chkIn1 pre x = 3 := by unfold chkIn1; rw [if_pos h]
theorem chkIn1_key {pre : List InD} {x : InD} (h : ptOk x = true) (hk : chk x.2.2 ≠ 0) : chkIn1 pre x = chk x.2.2 := by
  unfold chkIn1; rw [if_neg (by rw [h]; decide), if_pos hk]
theorem chkIn1_twice {pre : List InD} {x : InD} (h : ptOk x = true) (hk : chk x.2.2 = 0) (ht : pre.any (samePt x) = true) : chkIn1 pre x = 6 := by
  unfold chkIn1; rw [if_neg (by rw [h]; decide), if_neg (by rw [hk]; decide), if_pos ht]
theorem chkIn1_ok {pre : List InD} {x : InD} (h : ptOk x = true) (hk : chk x.2.2 = 0) (ht : pre.any (samePt x) = false) : chkIn1 pre x = 0 := by
  unfold chkIn1; rw [if_neg (by rw [h]; decide), if_neg (by rw [hk]; decide), if_neg (by rw [ht]; decide)]

end Go.Proofs.YtepmnpapdknocaaGreatDoor
