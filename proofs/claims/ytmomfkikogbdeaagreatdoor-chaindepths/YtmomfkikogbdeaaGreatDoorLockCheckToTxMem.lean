/- Contracts of Check and of what it asks of one order. -/
import Derived.Test.YtmomfkikogbdeaaGreatDoorLockMathToLockIn
namespace Go.Proofs.YtmomfkikogbdeaaGreatDoor
open Go.RowKit

theorem ret_same {a b : Int} (h : a = b) : Ending.returned (.int .i64 a) = .returned (.int .i64 b) := by rw [h]

set_option maxHeartbeats 400000 in
theorem checkOrder_any (k n : Int) (w : World) :
    Calls Tryz.prog 277 #[.agg #[.int .i64 k, .int .i64 n]] w fun e w' => e = .returned (.int .i64 (chk1 (k, n))) ∧ Below w.heap.size w w' := by
  have hb : ∀ o, Below w.heap.size w (w.alloc o) := fun o => (Below.refl _ _).alloc (Nat.le_refl _) _
  have HB := hide hb
  clear hb
  by_cases h1 : k < 1 ∨ 13 < k
  · have e : chk1 (k, n) = 4 := by simp [chk1, h1]
    rw [e]
    clear e
    go_enter Tryz.func277, Tryz.ntmps277
    go_wp2_with (go_at_call 103; refine (within_no _ _ _ _ h1).mono ?_; rintro e w' ⟨rfl, rfl⟩)
    go_ret
    exact ⟨rfl, (unhide HB) _⟩
  · have g1 : 1 ≤ k := by omega
    have g2 : k ≤ 13 := by omega
    by_cases h2 : k = 1
    · subst h2
      clear h1
      cases h3 : fit n with
      | false =>
        have e : chk1 (1, n) = 3 := by simp [chk1, h3]
        rw [e]
        have H3 := hide h3
        clear e h3
        go_enter Tryz.func277, Tryz.ntmps277
        go_wp2_with (first | (go_at_call 103; refine (within_yes _ _ _ _ (by decide) (by decide)).mono ?_; rintro e w' ⟨rfl, rfl⟩) | (go_at_call 302; refine (fits_is _ false _ (unhide H3).symm).mono ?_; rintro e w' ⟨rfl, rfl⟩))
        go_ret
        exact ⟨rfl, (unhide HB) _⟩
      | true =>
        have e : chk1 (1, n) = 0 := by simp [chk1, h3]
        rw [e]
        have H3 := hide h3
        clear e h3
        go_enter Tryz.func277, Tryz.ntmps277
        go_wp2_with (first | (go_at_call 103; refine (within_yes _ _ _ _ (by decide) (by decide)).mono ?_; rintro e w' ⟨rfl, rfl⟩) | (go_at_call 302; refine (fits_is _ true _ (unhide H3).symm).mono ?_; rintro e w' ⟨rfl, rfl⟩))
        go_ret
        exact ⟨rfl, (unhide HB) _⟩
    · have g3 : (k != 1) = true := by simp [h2]
      by_cases h4 : n = 0
      · subst h4
        have h3 : fit 0 = true := by decide
        have e : chk1 (k, 0) = 0 := by simp [chk1, h3, h1]
        rw [e]
        have H3 := hide h3
        clear e h3 h1 h2
        go_enter Tryz.func277, Tryz.ntmps277
        go_wp2_with (first | (go_at_call 103; refine (within_yes _ _ _ _ g1 g2).mono ?_; rintro e w' ⟨rfl, rfl⟩) | (go_at_call 302; refine (fits_is _ true _ (unhide H3).symm).mono ?_; rintro e w' ⟨rfl, rfl⟩))
        go_ret
        exact ⟨rfl, (unhide HB) _⟩
      · have g4 : (n != 0) = true := by simp [h4]
        have e : chk1 (k, n) = 3 := by simp [chk1, h1, h2, h4]
        rw [e]
        clear e h1 h2 h4
        go_enter Tryz.func277, Tryz.ntmps277
        go_wp2_with (go_at_call 103; refine (within_yes _ _ _ _ g1 g2).mono ?_; rintro e w' ⟨rfl, rfl⟩)
        go_ret
        exact ⟨rfl, (unhide HB) _⟩

/-- A slice of orders in memory. -/
def OpsAt (w : World) (a : Option Addr) (len : Nat) (l : List (Int × Int)) : Prop :=
  l.length = len ∧ (0 < len → ∃ b off, a = some ⟨b, off, none⟩ ∧ ∀ i, i < len → w.cell? ⟨b, off + i * 2, none⟩ = some (.int .i64 (l.getD i (0, 0)).1) ∧ w.cell? ⟨b, off + i * 2 + 1, none⟩ = some (.int .i64 (l.getD i (0, 0)).2))

theorem OpsAt.later {w w' : World} {a : Option Addr} {len : Nat} {l : List (Int × Int)} (h : OpsAt w a len l) (hb : Below w.heap.size w w') : OpsAt w' a len l := by
  obtain ⟨hz, hc⟩ := h
  refine ⟨hz, fun h => ?_⟩
  obtain ⟨b, off, rfl, hcell⟩ := hc h
  refine ⟨b, off, rfl, fun i hi => ?_⟩
  obtain ⟨h1, h2⟩ := hcell i hi
  refine ⟨?_, ?_⟩
  · rw [hb.cell (p := ⟨b, off + i * 2, none⟩) (World.block_lt_of_cell? _ _ h1)]; exact h1
  · rw [hb.cell (p := ⟨b, off + i * 2 + 1, none⟩) (World.block_lt_of_cell? _ _ h2)]; exact h2

set_option maxHeartbeats 400000 in
theorem check_many (a : Option Addr) (len cap : Nat) (w : World) (h : 16 < len) :
    Calls Tryz.prog 249 #[.slice a len cap] w fun e w' => e = .returned (.int .i64 2) ∧ w = w' := by
  go_enter Tryz.func249, Tryz.ntmps249
  go_wp2
  go_ret
  exact ⟨rfl, rfl⟩

set_option maxHeartbeats 400000 in
theorem check_none (a : Option Addr) (cap : Nat) (w : World) :
    Calls Tryz.prog 249 #[.slice a 0 cap] w fun e w' => e = .returned (.int .i64 0) ∧ w = w' := by
  go_enter Tryz.func249, Tryz.ntmps249
  go_wp2
  refine wp_loop_rounds 1 ?_
  rw [rounds_succ]
  go_wp2
  go_ret
  exact ⟨rfl, rfl⟩

set_option maxHeartbeats 800000 in
theorem check_some (b off len cap : Nat) (l : List (Int × Int)) (w : World) (h0 : len ≤ 16) (hz : l.length = len)
    (hc : ∀ i, i < len → w.cell? ⟨b, off + i * 2, none⟩ = some (.int .i64 (l.getD i (0, 0)).1) ∧ w.cell? ⟨b, off + i * 2 + 1, none⟩ = some (.int .i64 (l.getD i (0, 0)).2)) (hl : b < w.heap.size) :
    Calls Tryz.prog 249 #[.slice (some ⟨b, off, none⟩) len cap] w fun e w' => e = .returned (.int .i64 (chkL l)) ∧ Below w.heap.size w w' := by
  have HC := hide hc
  have HZ := hide hz
  clear hc hz
  go_enter Tryz.func249, Tryz.ntmps249
  go_wp2
  go_loopw [11] (fun i wr => ∃ k : Nat, k ≤ len ∧ i = .int .i64 k ∧ chkL (l.take k) = 0 ∧ Below w.heap.size w wr) (fun i _ => len - (intOf i).toNat)
  case atStart => exact ⟨0, Nat.zero_le _, rfl, rfl, Below.refl _ _⟩
  case round =>
    obtain ⟨k, hk, rfl, hok, hb⟩ := hrel
    have HOK := hide hok
    have HB := hide hb
    clear hok
    by_cases hlt : k < len
    · obtain ⟨c1, c2⟩ := (unhide HC) k hlt
      rw [← hb.cell (p := ⟨b, off + k * 2, none⟩) hl] at c1
      rw [← hb.cell (p := ⟨b, off + k * 2 + 1, none⟩) hl] at c2
      obtain ⟨q, hq⟩ : ∃ q, q = l.getD k (0, 0) := ⟨_, rfl⟩
      rw [← hq] at c1 c2
      have hlk : k < l.length := by rw [unhide HZ]; exact hlt
      have hq' : q = l[k] := by rw [hq]; simp [hlk]
      have HQ := hide hq'
      clear hb hq hq'
      obtain ⟨q1, q2⟩ := q
      have CO := hide (checkOrder_any q1 q2)
      obtain ⟨x, hx⟩ : ∃ x, x = chk1 (q1, q2) := ⟨_, rfl⟩
      rw [← hx] at CO
      have HX := hide hx
      clear hx
      by_cases hx0 : x = 0
      · subst hx0
        go_wp2_with fail
        refine ((unhide CO) _).mono ?_
        rintro e w1 ⟨rfl, hb1⟩
        have hb2 := (unhide HB).trans (((Below.refl wr.heap.size wr).alloc (Nat.le_refl _) _).trans (hb1.mono (by simp)) |>.mono (unhide HB).size)
        have HB2 := hide hb2
        clear hb1 hb2
        go_wp2
        go_roundw
        case rel =>
          refine ⟨k + 1, by omega, by go_num, ?_, unhide HB2⟩
          rw [chkL_take l k hlk (unhide HOK), ← unhide HQ, ← unhide HX]; rfl
        case measure => simp [intOf]; omega
      · have hx1 : (x != 0) = true := by simp [hx0]
        have HX0 := hide hx0
        clear hx0
        go_wp2_with fail
        refine ((unhide CO) _).mono ?_
        rintro e w1 ⟨rfl, hb1⟩
        have hb2 := (unhide HB).trans (((Below.refl wr.heap.size wr).alloc (Nat.le_refl _) _).trans (hb1.mono (by simp)) |>.mono (unhide HB).size)
        have HB2 := hide hb2
        clear hb1 hb2
        go_wp2
        go_ret
        refine ⟨ret_same ?_, unhide HB2⟩
        rw [chkL_stop l k hlk (unhide HOK) (by rw [← unhide HQ, ← unhide HX]; exact unhide HX0), ← unhide HQ, ← unhide HX]
    · clear hb
      go_wp2
      go_ret
      have e : k = len := by omega
      subst e
      refine ⟨ret_same ?_, unhide HB⟩
      have h1 := unhide HOK
      rw [← unhide HZ, List.take_length] at h1
      exact h1.symm

theorem check_any (a : Option Addr) (len cap : Nat) (l : List (Int × Int)) (w : World) (h : OpsAt w a len l) :
    Calls Tryz.prog 249 #[.slice a len cap] w fun e w' => e = .returned (.int .i64 (chk l)) ∧ Below w.heap.size w w' := by
  obtain ⟨hz, hc⟩ := h
  unfold chk
  rw [hz]
  by_cases h1 : 16 < len
  · rw [if_pos h1]
    exact (check_many a len cap w h1).mono fun e w' ⟨x, y⟩ => ⟨x, y ▸ Below.refl _ _⟩
  · rw [if_neg h1]
    by_cases h2 : len = 0
    · subst h2
      have e : l = [] := List.length_eq_zero_iff.1 hz
      subst e
      exact (check_none a cap w).mono fun e w' ⟨x, y⟩ => ⟨x, y ▸ Below.refl _ _⟩
    · obtain ⟨b, off, rfl, hcell⟩ := hc (by omega)
      exact check_some b off len cap l w (by omega) hz hcell (World.block_lt_of_cell? _ _ (hcell 0 (by omega)).1)

end Go.Proofs.YtmomfkikogbdeaaGreatDoor

/- A slice of ints in memory. -/
namespace Go.Proofs.YtmomfkikogbdeaaGreatDoor
open Go.RowKit

/-- A slice of ints in memory. -/
def RowAt (w : World) (a : Option Addr) (len : Nat) (Z : List Int) : Prop :=
  Z.length = len ∧ len ≤ maxLen ∧ (0 < len → ∃ b off, a = some ⟨b, off, none⟩ ∧ ∀ i, i < len → w.cell? ⟨b, off + i, none⟩ = some (.int .i64 (Z.getD i 0)))

theorem RowAt.later {w w' : World} {a : Option Addr} {len : Nat} {Z : List Int} (h : RowAt w a len Z) (hb : Below w.heap.size w w') : RowAt w' a len Z := by
  obtain ⟨hz, hm, hc⟩ := h
  refine ⟨hz, hm, fun h => ?_⟩
  obtain ⟨b, off, rfl, hcell⟩ := hc h
  refine ⟨b, off, rfl, fun i hi => ?_⟩
  have h1 := hcell i hi
  rw [hb.cell (p := ⟨b, off + i, none⟩) (World.block_lt_of_cell? _ _ h1)]; exact h1

theorem RowAt.nil (w : World) (a : Option Addr) : RowAt w a 0 [] := ⟨rfl, Nat.zero_le _, fun h => absurd h (by omega)⟩

end Go.Proofs.YtmomfkikogbdeaaGreatDoor

/- Transactions in memory: rows of records, whose slices lead on to rows. -/
namespace Go.Proofs.YtmomfkikogbdeaaGreatDoor
open Go.RowKit

/-- A slice of records of sz cells each, place by place. -/
def RowsAt {α : Type} (R : World → Nat → Nat → α → Prop) (sz : Nat) (w : World) (a : Option Addr) (len : Nat) (l : List α) : Prop :=
  l.length = len ∧ (0 < len → ∃ b off, a = some ⟨b, off, none⟩ ∧ b < w.heap.size ∧ ∀ i (h : i < l.length), R w b (off + i * sz) l[i])

def KeptR {α : Type} (R : World → Nat → Nat → α → Prop) : Prop := ∀ (w w' : World) (b o : Nat) (x : α), Below w.heap.size w w' → R w b o x → R w' b o x

theorem RowsAt.later {α : Type} {R : World → Nat → Nat → α → Prop} (hR : KeptR R) {sz : Nat} {w w' : World} {a : Option Addr} {len : Nat} {l : List α} (h : RowsAt R sz w a len l) (hb : Below w.heap.size w w') : RowsAt R sz w' a len l := by
  refine ⟨h.1, fun h0 => ?_⟩
  obtain ⟨b, off, e, hl, hc⟩ := h.2 h0
  exact ⟨b, off, e, Nat.lt_of_lt_of_le hl hb.size, fun i hi => hR w w' b _ _ hb (hc i hi)⟩
theorem RowsAt.nil {α : Type} {R : World → Nat → Nat → α → Prop} {sz : Nat} (w : World) (a : Option Addr) : RowsAt R sz w a 0 [] := ⟨rfl, fun h => absurd h (by omega)⟩

theorem cell_later {w w' : World} {p : Addr} {v : Value} (hb : Below w.heap.size w w') (h : w.cell? p = some v) : w'.cell? p = some v := by
  rw [hb.cell (p := p) (World.block_lt_of_cell? _ _ h)]; exact h

/-- The head of a slice that a program can hold. -/
def SlOk (a : Option Addr) (n c : Nat) : Prop := n ≤ c ∧ c ≤ maxLen ∧ (a = none → n = 0 ∧ c = 0)
theorem SlOk.len {a : Option Addr} {n c : Nat} (h : SlOk a n c) : n ≤ maxLen := Nat.le_trans h.1 h.2.1

def InAt (w : World) (b o : Nat) (x : InD) : Prop :=
  w.cell? ⟨b, o, none⟩ = some (.int .i64 x.1) ∧ w.cell? ⟨b, o + 1, none⟩ = some (.int .i64 x.2.1) ∧ ∃ a n c, w.cell? ⟨b, o + 2, none⟩ = some (.slice a n c) ∧ OpsAt w a n x.2.2 ∧ SlOk a n c
def OutAt (w : World) (b o : Nat) (x : OutD) : Prop :=
  w.cell? ⟨b, o, none⟩ = some (.int .i64 x.1) ∧ ∃ a n c, w.cell? ⟨b, o + 1, none⟩ = some (.slice a n c) ∧ OpsAt w a n x.2 ∧ SlOk a n c

theorem InAt.kept : KeptR InAt := fun _ _ _ _ _ hb h => by
  obtain ⟨h1, h2, a, n, c, h3, h4, h5⟩ := h
  exact ⟨cell_later hb h1, cell_later hb h2, a, n, c, cell_later hb h3, h4.later hb, h5⟩
theorem OutAt.kept : KeptR OutAt := fun _ _ _ _ _ hb h => by
  obtain ⟨h1, a, n, c, h3, h4, h5⟩ := h
  exact ⟨cell_later hb h1, a, n, c, cell_later hb h3, h4.later hb, h5⟩

def InsAt (w : World) (a : Option Addr) (len : Nat) (l : List InD) : Prop := RowsAt InAt 3 w a len l
def OutsAt (w : World) (a : Option Addr) (len : Nat) (l : List OutD) : Prop := RowsAt OutAt 2 w a len l
theorem InsAt.later {w w' : World} {a : Option Addr} {len : Nat} {l : List InD} (h : InsAt w a len l) (hb : Below w.heap.size w w') : InsAt w' a len l := RowsAt.later InAt.kept h hb
theorem OutsAt.later {w w' : World} {a : Option Addr} {len : Nat} {l : List OutD} (h : OutsAt w a len l) (hb : Below w.heap.size w w') : OutsAt w' a len l := RowsAt.later OutAt.kept h hb

/-- The first k places of a row are a row. -/
theorem RowsAt.take {α : Type} {R : World → Nat → Nat → α → Prop} {sz : Nat} {w : World} {a : Option Addr} {len : Nat} {l : List α} (h : RowsAt R sz w a len l) (k : Nat) (hk : k ≤ len) : RowsAt R sz w a k (l.take k) := by
  have hl := h.1
  refine ⟨by rw [List.length_take]; omega, fun h0 => ?_⟩
  obtain ⟨b, off, e, hb, hc⟩ := h.2 (by omega)
  refine ⟨b, off, e, hb, fun i hi => ?_⟩
  rw [List.length_take] at hi
  rw [List.getElem_take]
  exact hc i (by omega)

theorem bel_on {w w1 w2 : World} (h1 : Below w.heap.size w w1) (h2 : Below w1.heap.size w1 w2) : Below w.heap.size w w2 := h1.trans (h2.mono h1.size)
theorem bel_new (w : World) (o : Obj) : Below w.heap.size w (w.alloc o) := (Below.refl _ _).alloc (Nat.le_refl _) _

end Go.Proofs.YtmomfkikogbdeaaGreatDoor
