/- Transactions as plain data: what is wrong with one, and sums of amounts. Nothing of the program. -/
import Derived.Test.YtakcleadfcelmaaGreatLockMath
import Derived.Test.YtakcleadfcelmaaGreatRows
import Derived.WalkKit
import Derived.WalkLawsBesides
import Derived.Deep.QuietTactic
import Derived.BigQuiet
import Derived.Deep.RegionWith
namespace Go.Proofs.YtakcleadfcelmaaGreat

/-- An in: the transaction's name, the place, the key; an out: the coin, the lock; a transaction: its height, its ins, its outs. -/
abbrev InD := Int × Int × List (Int × Int)
abbrev OutD := Int × List (Int × Int)
abbrev TxD := Int × List InD × List OutD

def ptOk (x : InD) : Bool := (decide (1 ≤ x.1) && decide (x.1 ≤ 120)) && (decide (0 ≤ x.2.1) && decide (x.2.1 ≤ 5))
def samePt (x y : InD) : Bool := decide (y.1 = x.1) && decide (y.2.1 = x.2.1)
def chkIn1 (pre : List InD) (x : InD) : Int := if ptOk x = false then 3 else if chk x.2.2 ≠ 0 then chk x.2.2 else if pre.any (samePt x) then 6 else 0
def chkIns (pre : List InD) : List InD → Int
  | [] => 0
  | x :: r => if chkIn1 pre x = 0 then chkIns (pre ++ [x]) r else chkIn1 pre x
def chkOut1 (x : OutD) : Int := if x.1 < 1 then 3 else chk x.2
def chkOuts : List OutD → Int
  | [] => 0
  | x :: r => if chkOut1 x = 0 then chkOuts r else chkOut1 x

/-- The sum of amounts, one by one from s on: the sum and 0, or 0 and what is wrong. -/
def sm : Int → List Int → Int × Int
  | s, [] => (s, 0)
  | s, x :: l => if 0 ≤ x ∧ x ≤ 1000000000 then (if s + x ≤ 1000000000 then sm (s + x) l else (0, 12)) else (0, 3)

theorem sm_step (s : Int) (Z : List Int) (k : Nat) (hk : k < Z.length) (h1 : 0 ≤ Z.getD k 0) (h2 : Z.getD k 0 ≤ 1000000000) (h3 : s + Z.getD k 0 ≤ 1000000000) :
    sm s (Z.drop k) = sm (s + Z.getD k 0) (Z.drop (k + 1)) := by
  have e : Z.drop k = Z.getD k 0 :: Z.drop (k + 1) := by
    rw [List.drop_eq_getElem_cons hk]; simp [List.getD, hk]
  rw [e, sm, if_pos ⟨h1, h2⟩, if_pos h3]
theorem sm_full (s : Int) (Z : List Int) (k : Nat) (hk : k < Z.length) (h1 : 0 ≤ Z.getD k 0) (h2 : Z.getD k 0 ≤ 1000000000) (h3 : 1000000000 < s + Z.getD k 0) :
    sm s (Z.drop k) = (0, 12) := by
  have e : Z.drop k = Z.getD k 0 :: Z.drop (k + 1) := by
    rw [List.drop_eq_getElem_cons hk]; simp [List.getD, hk]
  rw [e, sm, if_pos ⟨h1, h2⟩, if_neg (by omega)]
theorem sm_range (s : Int) (Z : List Int) (k : Nat) (hk : k < Z.length) (h : Z.getD k 0 < 0 ∨ 1000000000 < Z.getD k 0) :
    sm s (Z.drop k) = (0, 3) := by
  have e : Z.drop k = Z.getD k 0 :: Z.drop (k + 1) := by
    rw [List.drop_eq_getElem_cons hk]; simp [List.getD, hk]
  rw [e, sm, if_neg (by omega)]
theorem sm_end (s : Int) (Z : List Int) (k : Nat) (hk : Z.length ≤ k) : sm s (Z.drop k) = (s, 0) := by
  rw [List.drop_of_length_le hk]; rfl

def hFit (t : TxD) : Bool := if t.2.1.length = 0 then decide (1 ≤ t.1) && decide (t.1 ≤ 1000) else decide (t.1 = 0)
def chkOutsAll (l : List OutD) : Int := if chkOuts l = 0 then (sm 0 (l.map (·.1))).2 else chkOuts l
def chkTx (t : TxD) : Int :=
  if 6 < t.2.1.length ∨ 6 < t.2.2.length then 2 else if t.2.2.length = 0 then 4 else if hFit t = false then 3
  else if chkIns [] t.2.1 ≠ 0 then chkIns [] t.2.1 else chkOutsAll t.2.2

theorem chkIns_step (L : List InD) (k : Nat) (hk : k < L.length) (h : chkIn1 (L.take k) L[k] = 0) : chkIns (L.take k) (L.drop k) = chkIns (L.take (k + 1)) (L.drop (k + 1)) := by
  rw [List.drop_eq_getElem_cons hk, chkIns, if_pos h, List.take_succ_eq_append_getElem hk]
theorem chkIns_stop (L : List InD) (k : Nat) (hk : k < L.length) (h : chkIn1 (L.take k) L[k] ≠ 0) : chkIns (L.take k) (L.drop k) = chkIn1 (L.take k) L[k] := by
  rw [List.drop_eq_getElem_cons hk, chkIns, if_neg h]
theorem chkIns_end (L : List InD) (k : Nat) (hk : L.length ≤ k) : chkIns (L.take k) (L.drop k) = 0 := by
  rw [List.drop_of_length_le hk]; rfl
theorem chkOuts_step (L : List OutD) (k : Nat) (hk : k < L.length) (h : chkOut1 L[k] = 0) : chkOuts (L.drop k) = chkOuts (L.drop (k + 1)) := by
  rw [List.drop_eq_getElem_cons hk, chkOuts, if_pos h]
theorem chkOuts_stop (L : List OutD) (k : Nat) (hk : k < L.length) (h : chkOut1 L[k] ≠ 0) : chkOuts (L.drop k) = chkOut1 L[k] := by
  rw [List.drop_eq_getElem_cons hk, chkOuts, if_neg h]
theorem chkOuts_end (L : List OutD) (k : Nat) (hk : L.length ≤ k) : chkOuts (L.drop k) = 0 := by
  rw [List.drop_of_length_le hk]; rfl

theorem chkIn1_pt {pre : List InD} {x : InD} (h : ptOk x = false) : chkIn1 pre x = 3 := by unfold chkIn1; rw [if_pos h]
theorem chkIn1_key {pre : List InD} {x : InD} (h : ptOk x = true) (hk : chk x.2.2 ≠ 0) : chkIn1 pre x = chk x.2.2 := by
  unfold chkIn1; rw [if_neg (by rw [h]; decide), if_pos hk]
theorem chkIn1_twice {pre : List InD} {x : InD} (h : ptOk x = true) (hk : chk x.2.2 = 0) (ht : pre.any (samePt x) = true) : chkIn1 pre x = 6 := by
  unfold chkIn1; rw [if_neg (by rw [h]; decide), if_neg (by rw [hk]; decide), if_pos ht]
theorem chkIn1_ok {pre : List InD} {x : InD} (h : ptOk x = true) (hk : chk x.2.2 = 0) (ht : pre.any (samePt x) = false) : chkIn1 pre x = 0 := by
  unfold chkIn1; rw [if_neg (by rw [h]; decide), if_neg (by rw [hk]; decide), if_neg (by rw [ht]; decide)]

end Go.Proofs.YtakcleadfcelmaaGreat

/- What the walks have in common. -/
namespace Go.Proofs.YtakcleadfcelmaaGreat
open Go.RowKit

theorem hide {p : Prop} (h : p) : Hid p := h
theorem unhide {p : Prop} (h : Hid p) : p := h

end Go.Proofs.YtakcleadfcelmaaGreat

/- Contracts of what tells whether a number is within bounds. -/
namespace Go.Proofs.YtakcleadfcelmaaGreat
open Go.RowKit

set_option maxHeartbeats 400000 in
theorem within_yes (n lo hi : Int) (w : World) (h1 : lo ≤ n) (h2 : n ≤ hi) :
    Calls Tryz.prog 41 #[.int .i64 n, .int .i64 lo, .int .i64 hi] w fun e w' => e = .returned (.bool true) ∧ w = w' := by
  go_enter Tryz.func41, Tryz.ntmps41
  go_wp2
  go_ret
  exact ⟨rfl, rfl⟩

set_option maxHeartbeats 400000 in
theorem within_no (n lo hi : Int) (w : World) (h : n < lo ∨ hi < n) :
    Calls Tryz.prog 41 #[.int .i64 n, .int .i64 lo, .int .i64 hi] w fun e w' => e = .returned (.bool false) ∧ w = w' := by
  by_cases h1 : n < lo
  · go_enter Tryz.func41, Tryz.ntmps41
    go_wp2
    go_ret
    exact ⟨rfl, rfl⟩
  · have h2 : hi < n := by omega
    have h3 : lo ≤ n := by omega
    have h4 : decide (n ≤ hi) = false := by simp; omega
    clear h
    go_enter Tryz.func41, Tryz.ntmps41
    go_wp2
    go_ret
    exact ⟨rfl, rfl⟩

theorem within_is (n lo hi : Int) (b : Bool) (w : World) (hb : b = (decide (lo ≤ n) && decide (n ≤ hi))) :
    Calls Tryz.prog 41 #[.int .i64 n, .int .i64 lo, .int .i64 hi] w fun e w' => e = .returned (.bool b) ∧ w = w' := by
  subst hb
  by_cases h1 : lo ≤ n
  · by_cases h2 : n ≤ hi
    · simpa [h1, h2] using within_yes n lo hi w h1 h2
    · simpa [h1, h2] using within_no n lo hi w (by omega)
  · simpa [h1] using within_no n lo hi w (by omega)

set_option maxHeartbeats 400000 in
theorem fits_is (n : Int) (b : Bool) (w : World) (hb : b = fit n) :
    Calls Tryz.prog 90 #[.int .i64 n] w fun e w' => e = .returned (.bool b) ∧ w = w' := by
  have HB := hide hb
  clear hb
  go_enter Tryz.func90, Tryz.ntmps90
  go_wp2_with (go_at_call 41; refine (within_is _ _ _ b _ (unhide HB)).mono ?_; rintro e w' ⟨rfl, rfl⟩)
  go_ret
  exact ⟨rfl, rfl⟩

end Go.Proofs.YtakcleadfcelmaaGreat

/- Contracts of Check and of what it asks of one order. -/
namespace Go.Proofs.YtakcleadfcelmaaGreat
open Go.RowKit

theorem ret_same {a b : Int} (h : a = b) : Ending.returned (.int .i64 a) = .returned (.int .i64 b) := by rw [h]

set_option maxHeartbeats 400000 in
theorem checkOrder_any (k n : Int) (w : World) :
    Calls Tryz.prog 70 #[.agg #[.int .i64 k, .int .i64 n]] w fun e w' => e = .returned (.int .i64 (chk1 (k, n))) ∧ Below w.heap.size w w' := by
  have hb : ∀ o, Below w.heap.size w (w.alloc o) := fun o => (Below.refl _ _).alloc (Nat.le_refl _) _
  have HB := hide hb
  clear hb
  by_cases h1 : k < 1 ∨ 13 < k
  · have e : chk1 (k, n) = 4 := by simp [chk1, h1]
    rw [e]
    clear e
    go_enter Tryz.func70, Tryz.ntmps70
    go_wp2_with (go_at_call 41; refine (within_no _ _ _ _ h1).mono ?_; rintro e w' ⟨rfl, rfl⟩)
    go_ret
    exact ⟨rfl, (unhide HB) _⟩
  · have g1 : 1 ≤ k := by omega
    have g2 : k ≤ 13 := by omega
    by_cases h2 : k = 1
    · subst h2
      clear h1
      cases h3 : fit n with
      | false =>
        have e : chk1 (1, n) = 3 := by simp [chk1, h3]
        rw [e]
        have H3 := hide h3
        clear e h3
        go_enter Tryz.func70, Tryz.ntmps70
        go_wp2_with (first | (go_at_call 41; refine (within_yes _ _ _ _ (by decide) (by decide)).mono ?_; rintro e w' ⟨rfl, rfl⟩) | (go_at_call 90; refine (fits_is _ false _ (unhide H3).symm).mono ?_; rintro e w' ⟨rfl, rfl⟩))
        go_ret
        exact ⟨rfl, (unhide HB) _⟩
      | true =>
        have e : chk1 (1, n) = 0 := by simp [chk1, h3]
        rw [e]
        have H3 := hide h3
        clear e h3
        go_enter Tryz.func70, Tryz.ntmps70
        go_wp2_with (first | (go_at_call 41; refine (within_yes _ _ _ _ (by decide) (by decide)).mono ?_; rintro e w' ⟨rfl, rfl⟩) | (go_at_call 90; refine (fits_is _ true _ (unhide H3).symm).mono ?_; rintro e w' ⟨rfl, rfl⟩))
        go_ret
        exact ⟨rfl, (unhide HB) _⟩
    · have g3 : (k != 1) = true := by simp [h2]
      by_cases h4 : n = 0
      · subst h4
        have h3 : fit 0 = true := by decide
        have e : chk1 (k, 0) = 0 := by simp [chk1, h3, h1]
        rw [e]
        have H3 := hide h3
        clear e h3 h1 h2
        go_enter Tryz.func70, Tryz.ntmps70
        go_wp2_with (first | (go_at_call 41; refine (within_yes _ _ _ _ g1 g2).mono ?_; rintro e w' ⟨rfl, rfl⟩) | (go_at_call 90; refine (fits_is _ true _ (unhide H3).symm).mono ?_; rintro e w' ⟨rfl, rfl⟩))
        go_ret
        exact ⟨rfl, (unhide HB) _⟩
      · have g4 : (n != 0) = true := by simp [h4]
        have e : chk1 (k, n) = 3 := by simp [chk1, h1, h2, h4]
        rw [e]
        clear e h1 h2 h4
        go_enter Tryz.func70, Tryz.ntmps70
        go_wp2_with (go_at_call 41; refine (within_yes _ _ _ _ g1 g2).mono ?_; rintro e w' ⟨rfl, rfl⟩)
        go_ret
        exact ⟨rfl, (unhide HB) _⟩

/-- A slice of orders in memory. -/
def OpsAt (w : World) (a : Option Addr) (len : Nat) (l : List (Int × Int)) : Prop :=
  l.length = len ∧ (0 < len → ∃ b off, a = some ⟨b, off, none⟩ ∧ ∀ i, i < len → w.cell? ⟨b, off + i * 2, none⟩ = some (.int .i64 (l.getD i (0, 0)).1) ∧ w.cell? ⟨b, off + i * 2 + 1, none⟩ = some (.int .i64 (l.getD i (0, 0)).2))

theorem OpsAt.later {w w' : World} {a : Option Addr} {len : Nat} {l : List (Int × Int)} (h : OpsAt w a len l) (hb : Below w.heap.size w w') : OpsAt w' a len l := by
  obtain ⟨hz, hc⟩ := h
  refine ⟨hz, fun h => ?_⟩
  obtain ⟨b, off, rfl, hcell⟩ := hc h
  refine ⟨b, off, rfl, fun i hi => ?_⟩
  obtain ⟨h1, h2⟩ := hcell i hi
  refine ⟨?_, ?_⟩
  · rw [hb.cell (p := ⟨b, off + i * 2, none⟩) (World.block_lt_of_cell? _ _ h1)]; exact h1
  · rw [hb.cell (p := ⟨b, off + i * 2 + 1, none⟩) (World.block_lt_of_cell? _ _ h2)]; exact h2

set_option maxHeartbeats 400000 in
theorem check_many (a : Option Addr) (len cap : Nat) (w : World) (h : 16 < len) :
    Calls Tryz.prog 51 #[.slice a len cap] w fun e w' => e = .returned (.int .i64 2) ∧ w = w' := by
  go_enter Tryz.func51, Tryz.ntmps51
  go_wp2
  go_ret
  exact ⟨rfl, rfl⟩

set_option maxHeartbeats 400000 in
theorem check_none (a : Option Addr) (cap : Nat) (w : World) :
    Calls Tryz.prog 51 #[.slice a 0 cap] w fun e w' => e = .returned (.int .i64 0) ∧ w = w' := by
  go_enter Tryz.func51, Tryz.ntmps51
  go_wp2
  refine wp_loop_rounds 1 ?_
  rw [rounds_succ]
  go_wp2
  go_ret
  exact ⟨rfl, rfl⟩

set_option maxHeartbeats 800000 in
theorem check_some (b off len cap : Nat) (l : List (Int × Int)) (w : World) (h0 : len ≤ 16) (hz : l.length = len)
    (hc : ∀ i, i < len → w.cell? ⟨b, off + i * 2, none⟩ = some (.int .i64 (l.getD i (0, 0)).1) ∧ w.cell? ⟨b, off + i * 2 + 1, none⟩ = some (.int .i64 (l.getD i (0, 0)).2)) (hl : b < w.heap.size) :
    Calls Tryz.prog 51 #[.slice (some ⟨b, off, none⟩) len cap] w fun e w' => e = .returned (.int .i64 (chkL l)) ∧ Below w.heap.size w w' := by
  have HC := hide hc
  have HZ := hide hz
  clear hc hz
  go_enter Tryz.func51, Tryz.ntmps51
  go_wp2
  go_loopw [11] (fun i wr => ∃ k : Nat, k ≤ len ∧ i = .int .i64 k ∧ chkL (l.take k) = 0 ∧ Below w.heap.size w wr) (fun i _ => len - (intOf i).toNat)
  case atStart => exact ⟨0, Nat.zero_le _, rfl, rfl, Below.refl _ _⟩
  case round =>
    obtain ⟨k, hk, rfl, hok, hb⟩ := hrel
    have HOK := hide hok
    have HB := hide hb
    clear hok
    by_cases hlt : k < len
    · obtain ⟨c1, c2⟩ := (unhide HC) k hlt
      rw [← hb.cell (p := ⟨b, off + k * 2, none⟩) hl] at c1
      rw [← hb.cell (p := ⟨b, off + k * 2 + 1, none⟩) hl] at c2
      obtain ⟨q, hq⟩ : ∃ q, q = l.getD k (0, 0) := ⟨_, rfl⟩
      rw [← hq] at c1 c2
      have hlk : k < l.length := by rw [unhide HZ]; exact hlt
      have hq' : q = l[k] := by rw [hq]; simp [hlk]
      have HQ := hide hq'
      clear hb hq hq'
      obtain ⟨q1, q2⟩ := q
      have CO := hide (checkOrder_any q1 q2)
      obtain ⟨x, hx⟩ : ∃ x, x = chk1 (q1, q2) := ⟨_, rfl⟩
      rw [← hx] at CO
      have HX := hide hx
      clear hx
      by_cases hx0 : x = 0
      · subst hx0
        go_wp2_with fail
        refine ((unhide CO) _).mono ?_
        rintro e w1 ⟨rfl, hb1⟩
        have hb2 := (unhide HB).trans (((Below.refl wr.heap.size wr).alloc (Nat.le_refl _) _).trans (hb1.mono (by simp)) |>.mono (unhide HB).size)
        have HB2 := hide hb2
        clear hb1 hb2
        go_wp2
        go_roundw
        case rel =>
          refine ⟨k + 1, by omega, by go_num, ?_, unhide HB2⟩
          rw [chkL_take l k hlk (unhide HOK), ← unhide HQ, ← unhide HX]; rfl
        case measure => simp [intOf]; omega
      · have hx1 : (x != 0) = true := by simp [hx0]
        have HX0 := hide hx0
        clear hx0
        go_wp2_with fail
        refine ((unhide CO) _).mono ?_
        rintro e w1 ⟨rfl, hb1⟩
        have hb2 := (unhide HB).trans (((Below.refl wr.heap.size wr).alloc (Nat.le_refl _) _).trans (hb1.mono (by simp)) |>.mono (unhide HB).size)
        have HB2 := hide hb2
        clear hb1 hb2
        go_wp2
        go_ret
        refine ⟨ret_same ?_, unhide HB2⟩
        rw [chkL_stop l k hlk (unhide HOK) (by rw [← unhide HQ, ← unhide HX]; exact unhide HX0), ← unhide HQ, ← unhide HX]
    · clear hb
      go_wp2
      go_ret
      have e : k = len := by omega
      subst e
      refine ⟨ret_same ?_, unhide HB⟩
      have h1 := unhide HOK
      rw [← unhide HZ, List.take_length] at h1
      exact h1.symm

theorem check_any (a : Option Addr) (len cap : Nat) (l : List (Int × Int)) (w : World) (h : OpsAt w a len l) :
    Calls Tryz.prog 51 #[.slice a len cap] w fun e w' => e = .returned (.int .i64 (chk l)) ∧ Below w.heap.size w w' := by
  obtain ⟨hz, hc⟩ := h
  unfold chk
  rw [hz]
  by_cases h1 : 16 < len
  · rw [if_pos h1]
    exact (check_many a len cap w h1).mono fun e w' ⟨x, y⟩ => ⟨x, y ▸ Below.refl _ _⟩
  · rw [if_neg h1]
    by_cases h2 : len = 0
    · subst h2
      have e : l = [] := List.length_eq_zero_iff.1 hz
      subst e
      exact (check_none a cap w).mono fun e w' ⟨x, y⟩ => ⟨x, y ▸ Below.refl _ _⟩
    · obtain ⟨b, off, rfl, hcell⟩ := hc (by omega)
      exact check_some b off len cap l w (by omega) hz hcell (World.block_lt_of_cell? _ _ (hcell 0 (by omega)).1)

end Go.Proofs.YtakcleadfcelmaaGreat

/- A slice of ints in memory. -/
namespace Go.Proofs.YtakcleadfcelmaaGreat
open Go.RowKit

/-- A slice of ints in memory. -/
def RowAt (w : World) (a : Option Addr) (len : Nat) (Z : List Int) : Prop :=
  Z.length = len ∧ len ≤ maxLen ∧ (0 < len → ∃ b off, a = some ⟨b, off, none⟩ ∧ ∀ i, i < len → w.cell? ⟨b, off + i, none⟩ = some (.int .i64 (Z.getD i 0)))

theorem RowAt.later {w w' : World} {a : Option Addr} {len : Nat} {Z : List Int} (h : RowAt w a len Z) (hb : Below w.heap.size w w') : RowAt w' a len Z := by
  obtain ⟨hz, hm, hc⟩ := h
  refine ⟨hz, hm, fun h => ?_⟩
  obtain ⟨b, off, rfl, hcell⟩ := hc h
  refine ⟨b, off, rfl, fun i hi => ?_⟩
  have h1 := hcell i hi
  rw [hb.cell (p := ⟨b, off + i, none⟩) (World.block_lt_of_cell? _ _ h1)]; exact h1

theorem RowAt.nil (w : World) (a : Option Addr) : RowAt w a 0 [] := ⟨rfl, Nat.zero_le _, fun h => absurd h (by omega)⟩

end Go.Proofs.YtakcleadfcelmaaGreat
