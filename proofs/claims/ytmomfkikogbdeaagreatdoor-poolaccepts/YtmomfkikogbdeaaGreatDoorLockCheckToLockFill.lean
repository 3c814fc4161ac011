/- Contracts of Check and of what it asks of one order. -/
import Derived.Test.YtmomfkikogbdeaaGreatDoorLockMathToLockIn
namespace Go.Proofs.YtmomfkikogbdeaaGreatDoor
open Go.RowKit

theorem ret_same {a b : Int} (h : a = b) : Ending.returned (.int .i64 a) = .returned (.int .i64 b) := by rw [h]

set_option maxHeartbeats 400000 in
theorem checkOrder_any (k n : Int) (w : World) :
    Calls Tryz.prog 277 #[.agg #[.int .i64 k, .int .i64 n]] w fun e w' => e = .returned (.int .i64 (chk1 (k, n))) ∧ Below w.heap.size w w' := by
  have hb : ∀ o, Below w.heap.size w (w.alloc o) := fun o => (Below.refl _ _).alloc (Nat.le_refl _) _
  have HB := hide hb
  clear hb
  by_cases h1 : k < 1 ∨ 13 < k
  · have e : chk1 (k, n) = 4 := by simp [chk1, h1]
    rw [e]
    clear e
    go_enter Tryz.func277, Tryz.ntmps277
    go_wp2_with (go_at_call 103; refine (within_no _ _ _ _ h1).mono ?_; rintro e w' ⟨rfl, rfl⟩)
    go_ret
    exact ⟨rfl, (unhide HB) _⟩
  · have g1 : 1 ≤ k := by omega
    have g2 : k ≤ 13 := by omega
    by_cases h2 : k = 1
    · subst h2
      clear h1
      cases h3 : fit n with
      | false =>
        have e : chk1 (1, n) = 3 := by simp [chk1, h3]
        rw [e]
        have H3 := hide h3
        clear e h3
        go_enter Tryz.func277, Tryz.ntmps277
        go_wp2_with (first | (go_at_call 103; refine (within_yes _ _ _ _ (by decide) (by decide)).mono ?_; rintro e w' ⟨rfl, rfl⟩) | (go_at_call 302; refine (fits_is _ false _ (unhide H3).symm).mono ?_; rintro e w' ⟨rfl, rfl⟩))
        go_ret
        exact ⟨rfl, (unhide HB) _⟩
      | true =>
        have e : chk1 (1, n) = 0 := by simp [chk1, h3]
        rw [e]
        have H3 := hide h3
        clear e h3
        go_enter Tryz.func277, Tryz.ntmps277
        go_wp2_with (first | (go_at_call 103; refine (within_yes _ _ _ _ (by decide) (by decide)).mono ?_; rintro e w' ⟨rfl, rfl⟩) | (go_at_call 302; refine (fits_is _ true _ (unhide H3).symm).mono ?_; rintro e w' ⟨rfl, rfl⟩))
        go_ret
        exact ⟨rfl, (unhide HB) _⟩
    · have g3 : (k != 1) = true := by simp [h2]
      by_cases h4 : n = 0
      · subst h4
        have h3 : fit 0 = true := by decide
        have e : chk1 (k, 0) = 0 := by simp [chk1, h3, h1]
        rw [e]
        have H3 := hide h3
        clear e h3 h1 h2
        go_enter Tryz.func277, Tryz.ntmps277
        go_wp2_with (first | (go_at_call 103; refine (within_yes _ _ _ _ g1 g2).mono ?_; rintro e w' ⟨rfl, rfl⟩) | (go_at_call 302; refine (fits_is _ true _ (unhide H3).symm).mono ?_; rintro e w' ⟨rfl, rfl⟩))
        go_ret
        exact ⟨rfl, (unhide HB) _⟩
      · have g4 : (n != 0) = true := by simp [h4]
        have e : chk1 (k, n) = 3 := by simp [chk1, h1, h2, h4]
        rw [e]
        clear e h1 h2 h4
        go_enter Tryz.func277, Tryz.ntmps277
        go_wp2_with (go_at_call 103; refine (within_yes _ _ _ _ g1 g2).mono ?_; rintro e w' ⟨rfl, rfl⟩)
        go_ret
        exact ⟨rfl, (unhide HB) _⟩

/-- A slice of orders in memory. -/
def OpsAt (w : World) (a : Option Addr) (len : Nat) (l : List (Int × Int)) : Prop :=
  l.length = len ∧ (0 < len → ∃ b off, a = some ⟨b, off, none⟩ ∧ ∀ i, i < len → w.cell? ⟨b, off + i * 2, none⟩ = some (.int .i64 (l.getD i (0, 0)).1) ∧ w.cell? ⟨b, off + i * 2 + 1, none⟩ = some (.int .i64 (l.getD i (0, 0)).2))

theorem OpsAt.later {w w' : World} {a : Option Addr} {len : Nat} {l : List (Int × Int)} (h : OpsAt w a len l) (hb : Below w.heap.size w w') : OpsAt w' a len l := by
  obtain ⟨hz, hc⟩ := h
  refine ⟨hz, fun h => ?_⟩
  obtain ⟨b, off, rfl, hcell⟩ := hc h
  refine ⟨b, off, rfl, fun i hi => ?_⟩
  obtain ⟨h1, h2⟩ := hcell i hi
  refine ⟨?_, ?_⟩
  · rw [hb.cell (p := ⟨b, off + i * 2, none⟩) (World.block_lt_of_cell? _ _ h1)]; exact h1
  · rw [hb.cell (p := ⟨b, off + i * 2 + 1, none⟩) (World.block_lt_of_cell? _ _ h2)]; exact h2

set_option maxHeartbeats 400000 in
theorem check_many (a : Option Addr) (len cap : Nat) (w : World) (h : 16 < len) :
    Calls Tryz.prog 249 #[.slice a len cap] w fun e w' => e = .returned (.int .i64 2) ∧ w = w' := by
  go_enter Tryz.func249, Tryz.ntmps249
  go_wp2
  go_ret
  exact ⟨rfl, rfl⟩

set_option maxHeartbeats 400000 in
theorem check_none (a : Option Addr) (cap : Nat) (w : World) :
    Calls Tryz.prog 249 #[.slice a 0 cap] w fun e w' => e = .returned (.int .i64 0) ∧ w = w' := by
  go_enter Tryz.func249, Tryz.ntmps249
  go_wp2
  refine wp_loop_rounds 1 ?_
  rw [rounds_succ]
  go_wp2
  go_ret
  exact ⟨rfl, rfl⟩

set_option maxHeartbeats 800000 in
theorem check_some (b off len cap : Nat) (l : List (Int × Int)) (w : World) (h0 : len ≤ 16) (hz : l.length = len)
    (hc : ∀ i, i < len → w.cell? ⟨b, off + i * 2, none⟩ = some (.int .i64 (l.getD i (0, 0)).1) ∧ w.cell? ⟨b, off + i * 2 + 1, none⟩ = some (.int .i64 (l.getD i (0, 0)).2)) (hl : b < w.heap.size) :
    Calls Tryz.prog 249 #[.slice (some ⟨b, off, none⟩) len cap] w fun e w' => e = .returned (.int .i64 (chkL l)) ∧ Below w.heap.size w w' := by
  have HC := hide hc
  have HZ := hide hz
  clear hc hz
  go_enter Tryz.func249, Tryz.ntmps249
  go_wp2
  go_loopw [11] (fun i wr => ∃ k : Nat, k ≤ len ∧ i = .int .i64 k ∧ chkL (l.take k) = 0 ∧ Below w.heap.size w wr) (fun i _ => len - (intOf i).toNat)
  case atStart => exact ⟨0, Nat.zero_le _, rfl, rfl, Below.refl _ _⟩
  case round =>
    obtain ⟨k, hk, rfl, hok, hb⟩ := hrel
    have HOK := hide hok
    have HB := hide hb
    clear hok
    by_cases hlt : k < len
    · obtain ⟨c1, c2⟩ := (unhide HC) k hlt
      rw [← hb.cell (p := ⟨b, off + k * 2, none⟩) hl] at c1
      rw [← hb.cell (p := ⟨b, off + k * 2 + 1, none⟩) hl] at c2
      obtain ⟨q, hq⟩ : ∃ q, q = l.getD k (0, 0) := ⟨_, rfl⟩
      rw [← hq] at c1 c2
      have hlk : k < l.length := by rw [unhide HZ]; exact hlt
      have hq' : q = l[k] := by rw [hq]; simp [hlk]
      have HQ := hide hq'
      clear hb hq hq'
      obtain ⟨q1, q2⟩ := q
      have CO := hide (checkOrder_any q1 q2)
      obtain ⟨x, hx⟩ : ∃ x, x = chk1 (q1, q2) := ⟨_, rfl⟩
      rw [← hx] at CO
      have HX := hide hx
      clear hx
      by_cases hx0 : x = 0
      · subst hx0
        go_wp2_with fail
        refine ((unhide CO) _).mono ?_
        rintro e w1 ⟨rfl, hb1⟩
        have hb2 := (unhide HB).trans (((Below.refl wr.heap.size wr).alloc (Nat.le_refl _) _).trans (hb1.mono (by simp)) |>.mono (unhide HB).size)
        have HB2 := hide hb2
        clear hb1 hb2
        go_wp2
        go_roundw
        case rel =>
          refine ⟨k + 1, by omega, by go_num, ?_, unhide HB2⟩
          rw [chkL_take l k hlk (unhide HOK), ← unhide HQ, ← unhide HX]; rfl
        case measure => simp [intOf]; omega
      · have hx1 : (x != 0) = true := by simp [hx0]
        have HX0 := hide hx0
        clear hx0
        go_wp2_with fail
        refine ((unhide CO) _).mono ?_
        rintro e w1 ⟨rfl, hb1⟩
        have hb2 := (unhide HB).trans (((Below.refl wr.heap.size wr).alloc (Nat.le_refl _) _).trans (hb1.mono (by simp)) |>.mono (unhide HB).size)
        have HB2 := hide hb2
        clear hb1 hb2
        go_wp2
        go_ret
        refine ⟨ret_same ?_, unhide HB2⟩
        rw [chkL_stop l k hlk (unhide HOK) (by rw [← unhide HQ, ← unhide HX]; exact unhide HX0), ← unhide HQ, ← unhide HX]
    · clear hb
      go_wp2
      go_ret
      have e : k = len := by omega
      subst e
      refine ⟨ret_same ?_, unhide HB⟩
      have h1 := unhide HOK
      rw [← unhide HZ, List.take_length] at h1
      exact h1.symm

theorem check_any (a : Option Addr) (len cap : Nat) (l : List (Int × Int)) (w : World) (h : OpsAt w a len l) :
    Calls Tryz.prog 249 #[.slice a len cap] w fun e w' => e = .returned (.int .i64 (chk l)) ∧ Below w.heap.size w w' := by
  obtain ⟨hz, hc⟩ := h
  unfold chk
  rw [hz]
  by_cases h1 : 16 < len
  · rw [if_pos h1]
    exact (check_many a len cap w h1).mono fun e w' ⟨x, y⟩ => ⟨x, y ▸ Below.refl _ _⟩
  · rw [if_neg h1]
    by_cases h2 : len = 0
    · subst h2
      have e : l = [] := List.length_eq_zero_iff.1 hz
      subst e
      exact (check_none a cap w).mono fun e w' ⟨x, y⟩ => ⟨x, y ▸ Below.refl _ _⟩
    · obtain ⟨b, off, rfl, hcell⟩ := hc (by omega)
      exact check_some b off len cap l w (by omega) hz hcell (World.block_lt_of_cell? _ _ (hcell 0 (by omega)).1)

end Go.Proofs.YtmomfkikogbdeaaGreatDoor

/- A slice of ints in memory. -/
namespace Go.Proofs.YtmomfkikogbdeaaGreatDoor
open Go.RowKit

/-- A slice of ints in memory. -/
def RowAt (w : World) (a : Option Addr) (len : Nat) (Z : List Int) : Prop :=
  Z.length = len ∧ len ≤ maxLen ∧ (0 < len → ∃ b off, a = some ⟨b, off, none⟩ ∧ ∀ i, i < len → w.cell? ⟨b, off + i, none⟩ = some (.int .i64 (Z.getD i 0)))

theorem RowAt.later {w w' : World} {a : Option Addr} {len : Nat} {Z : List Int} (h : RowAt w a len Z) (hb : Below w.heap.size w w') : RowAt w' a len Z := by
  obtain ⟨hz, hm, hc⟩ := h
  refine ⟨hz, hm, fun h => ?_⟩
  obtain ⟨b, off, rfl, hcell⟩ := hc h
  refine ⟨b, off, rfl, fun i hi => ?_⟩
  have h1 := hcell i hi
  rw [hb.cell (p := ⟨b, off + i, none⟩) (World.block_lt_of_cell? _ _ h1)]; exact h1

theorem RowAt.nil (w : World) (a : Option Addr) : RowAt w a 0 [] := ⟨rfl, Nat.zero_le _, fun h => absurd h (by omega)⟩

end Go.Proofs.YtmomfkikogbdeaaGreatDoor

/- Transactions in memory: rows of records, whose slices lead on to rows. -/
namespace Go.Proofs.YtmomfkikogbdeaaGreatDoor
open Go.RowKit

/-- A slice of records of sz cells each, place by place. -/
def RowsAt {α : Type} (R : World → Nat → Nat → α → Prop) (sz : Nat) (w : World) (a : Option Addr) (len : Nat) (l : List α) : Prop :=
  l.length = len ∧ (0 < len → ∃ b off, a = some ⟨b, off, none⟩ ∧ b < w.heap.size ∧ ∀ i (h : i < l.length), R w b (off + i * sz) l[i])

def KeptR {α : Type} (R : World → Nat → Nat → α → Prop) : Prop := ∀ (w w' : World) (b o : Nat) (x : α), Below w.heap.size w w' → R w b o x → R w' b o x

theorem RowsAt.later {α : Type} {R : World → Nat → Nat → α → Prop} (hR : KeptR R) {sz : Nat} {w w' : World} {a : Option Addr} {len : Nat} {l : List α} (h : RowsAt R sz w a len l) (hb : Below w.heap.size w w') : RowsAt R sz w' a len l := by
  refine ⟨h.1, fun h0 => ?_⟩
  obtain ⟨b, off, e, hl, hc⟩ := h.2 h0
  exact ⟨b, off, e, Nat.lt_of_lt_of_le hl hb.size, fun i hi => hR w w' b _ _ hb (hc i hi)⟩
theorem RowsAt.nil {α : Type} {R : World → Nat → Nat → α → Prop} {sz : Nat} (w : World) (a : Option Addr) : RowsAt R sz w a 0 [] := ⟨rfl, fun h => absurd h (by omega)⟩

theorem cell_later {w w' : World} {p : Addr} {v : Value} (hb : Below w.heap.size w w') (h : w.cell? p = some v) : w'.cell? p = some v := by
  rw [hb.cell (p := p) (World.block_lt_of_cell? _ _ h)]; exact h

/-- The head of a slice that a program can hold. -/
def SlOk (a : Option Addr) (n c : Nat) : Prop := n ≤ c ∧ c ≤ maxLen ∧ (a = none → n = 0 ∧ c = 0)
theorem SlOk.len {a : Option Addr} {n c : Nat} (h : SlOk a n c) : n ≤ maxLen := Nat.le_trans h.1 h.2.1

def InAt (w : World) (b o : Nat) (x : InD) : Prop :=
  w.cell? ⟨b, o, none⟩ = some (.int .i64 x.1) ∧ w.cell? ⟨b, o + 1, none⟩ = some (.int .i64 x.2.1) ∧ ∃ a n c, w.cell? ⟨b, o + 2, none⟩ = some (.slice a n c) ∧ OpsAt w a n x.2.2 ∧ SlOk a n c
def OutAt (w : World) (b o : Nat) (x : OutD) : Prop :=
  w.cell? ⟨b, o, none⟩ = some (.int .i64 x.1) ∧ ∃ a n c, w.cell? ⟨b, o + 1, none⟩ = some (.slice a n c) ∧ OpsAt w a n x.2 ∧ SlOk a n c

theorem InAt.kept : KeptR InAt := fun _ _ _ _ _ hb h => by
  obtain ⟨h1, h2, a, n, c, h3, h4, h5⟩ := h
  exact ⟨cell_later hb h1, cell_later hb h2, a, n, c, cell_later hb h3, h4.later hb, h5⟩
theorem OutAt.kept : KeptR OutAt := fun _ _ _ _ _ hb h => by
  obtain ⟨h1, a, n, c, h3, h4, h5⟩ := h
  exact ⟨cell_later hb h1, a, n, c, cell_later hb h3, h4.later hb, h5⟩

def InsAt (w : World) (a : Option Addr) (len : Nat) (l : List InD) : Prop := RowsAt InAt 3 w a len l
def OutsAt (w : World) (a : Option Addr) (len : Nat) (l : List OutD) : Prop := RowsAt OutAt 2 w a len l
theorem InsAt.later {w w' : World} {a : Option Addr} {len : Nat} {l : List InD} (h : InsAt w a len l) (hb : Below w.heap.size w w') : InsAt w' a len l := RowsAt.later InAt.kept h hb
theorem OutsAt.later {w w' : World} {a : Option Addr} {len : Nat} {l : List OutD} (h : OutsAt w a len l) (hb : Below w.heap.size w w') : OutsAt w' a len l := RowsAt.later OutAt.kept h hb

/-- The first k places of a row are a row. -/
theorem RowsAt.take {α : Type} {R : World → Nat → Nat → α → Prop} {sz : Nat} {w : World} {a : Option Addr} {len : Nat} {l : List α} (h : RowsAt R sz w a len l) (k : Nat) (hk : k ≤ len) : RowsAt R sz w a k (l.take k) := by
  have hl := h.1
  refine ⟨by rw [List.length_take]; omega, fun h0 => ?_⟩
  obtain ⟨b, off, e, hb, hc⟩ := h.2 (by omega)
  refine ⟨b, off, e, hb, fun i hi => ?_⟩
  rw [List.length_take] at hi
  rw [List.getElem_take]
  exact hc i (by omega)

theorem bel_on {w w1 w2 : World} (h1 : Below w.heap.size w w1) (h2 : Below w1.heap.size w1 w2) : Below w.heap.size w w2 := h1.trans (h2.mono h1.size)
theorem bel_new (w : World) (o : Obj) : Below w.heap.size w (w.alloc o) := (Below.refl _ _).alloc (Nat.le_refl _) _

end Go.Proofs.YtmomfkikogbdeaaGreatDoor

/- The contracts of coin.Check and coin.Sum. -/
namespace Go.Proofs.YtmomfkikogbdeaaGreatDoor
open Go.RowKit

set_option maxHeartbeats 400000 in
theorem amount_yes (n : Int) (w : World) (h1 : 0 ≤ n) (h2 : n ≤ 1000000000) :
    Calls Tryz.prog 174 #[.int .i64 n] w fun e w' => e = .returned (.int .i64 0) ∧ w = w' := by
  go_enter Tryz.func174, Tryz.ntmps174
  go_wp2_with (go_at_call 103; refine (within_yes _ _ _ _ h1 h2).mono ?_; rintro e w' ⟨rfl, rfl⟩)
  go_ret
  exact ⟨rfl, rfl⟩
set_option maxHeartbeats 400000 in
theorem amount_no (n : Int) (w : World) (h : n < 0 ∨ 1000000000 < n) :
    Calls Tryz.prog 174 #[.int .i64 n] w fun e w' => e = .returned (.int .i64 3) ∧ w = w' := by
  go_enter Tryz.func174, Tryz.ntmps174
  go_wp2_with (go_at_call 103; refine (within_no _ _ _ _ h).mono ?_; rintro e w' ⟨rfl, rfl⟩)
  go_ret
  exact ⟨rfl, rfl⟩

set_option maxHeartbeats 800000 in
theorem sum_any (a : Option Addr) (len cap : Nat) (Z : List Int) (w : World) (h : RowAt w a len Z) :
    Calls Tryz.prog 109 #[.slice a len cap] w fun e w' => e = .returned (.tuple #[.int .i64 (sm 0 Z).1, .int .i64 (sm 0 Z).2]) ∧ w = w' := by
  obtain ⟨hz, hm, hc⟩ := h
  unfold maxLen at hm
  rcases Nat.eq_zero_or_pos len with h0 | h0
  · subst h0
    have HZ : Hid (Z = []) := List.eq_nil_of_length_eq_zero hz
    clear hz hc hm
    go_enter Tryz.func109, Tryz.ntmps109
    go_wp2
    refine wp_loop_rounds 1 ?_
    rw [rounds_succ]
    go_wp2
    go_ret2
    rw [HZ.out]
    exact ⟨rfl, rfl⟩
  · obtain ⟨b, off, rfl, hcell⟩ := hc h0
    have HC : Hid (∀ i, i < len → w.cell? ⟨b, off + i, none⟩ = some (.int .i64 (Z.getD i 0))) := hcell
    clear hc hcell
    go_enter Tryz.func109, Tryz.ntmps109
    go_wp2
    go_loop [4, 10] (fun s i => ∃ (k : Nat) (x : Int), k ≤ len ∧ i = .int .i64 k ∧ s = .int .i64 x ∧ 0 ≤ x ∧ x ≤ 1000000000 ∧ Hid (sm 0 Z = sm x (Z.drop k))) (fun _ i => len - (intOf i).toNat)
    case atStart => exact ⟨0, 0, Nat.zero_le _, rfl, rfl, by decide, by decide, by exact rfl⟩
    case round =>
      obtain ⟨k, x, hk, rfl, rfl, hx0, hx1, HS⟩ := hrel
      by_cases hlt : k < len
      · have hck := HC.out k hlt
        generalize hv : Z.getD k 0 = v at hck
        have HV : Hid (Z.getD k 0 = v) := hv
        clear hv
        by_cases hr : v < 0 ∨ 1000000000 < v
        · go_wp2_with (go_at_call 174; refine (amount_no _ _ hr).mono ?_; rintro e w' ⟨rfl, rfl⟩)
          go_ret2
          rw [HS.out, sm_range x Z k (by omega) (by rw [HV.out]; exact hr)]
          exact ⟨rfl, rfl⟩
        · have hr1 : 0 ≤ v := by omega
          have hr2 : v ≤ 1000000000 := by omega
          clear hr
          by_cases hf : 1000000000 < x + v
          · go_wp2_with fail
            refine (amount_yes _ _ hr1 hr2).mono ?_
            rintro e w' ⟨rfl, rfl⟩
            go_wp2_with fail
            refine (amount_no _ _ (.inr hf)).mono ?_
            rintro e w' ⟨rfl, rfl⟩
            go_wp2
            go_ret2
            rw [HS.out, sm_full x Z k (by omega) (by rw [HV.out]; exact hr1) (by rw [HV.out]; exact hr2) (by rw [HV.out]; exact hf)]
            exact ⟨rfl, rfl⟩
          · have hf2 : x + v ≤ 1000000000 := by omega
            have hf1 : 0 ≤ x + v := by omega
            clear hf
            go_wp2_with fail
            refine (amount_yes _ _ hr1 hr2).mono ?_
            rintro e w' ⟨rfl, rfl⟩
            go_wp2_with fail
            refine (amount_yes _ _ hf1 hf2).mono ?_
            rintro e w' ⟨rfl, rfl⟩
            go_wp2
            go_round
            case rel =>
              refine ⟨k + 1, x + v, by omega, by go_num, rfl, by omega, by omega, ?_⟩
              show sm 0 Z = _
              rw [HS.out, sm_step x Z k (by omega) (by rw [HV.out]; exact hr1) (by rw [HV.out]; exact hr2) (by rw [HV.out]; exact hf2), HV.out]
            case measure => simp [intOf]; omega
      · go_wp2
        go_ret2
        rw [HS.out, sm_end x Z k (by omega)]
        exact ⟨rfl, rfl⟩

end Go.Proofs.YtmomfkikogbdeaaGreatDoor

/- Contracts of what checks a transaction: its points, its ins, its outs. -/
namespace Go.Proofs.YtmomfkikogbdeaaGreatDoor
open Go.RowKit

set_option maxHeartbeats 800000 in
theorem isPoint_is (x y : Int) (b : Bool) (w : World) (hb : ((decide (1 ≤ x) && decide (x ≤ 120)) && (decide (0 ≤ y) && decide (y ≤ 5))) = b) :
    Calls Tryz.prog 248 #[.agg #[.int .i64 x, .int .i64 y]] w fun e w' => e = .returned (.bool b) ∧ Below w.heap.size w w' := by
  have HB := hide (bel_new w (.cells #[.int .i64 x, .int .i64 y] 117))
  by_cases h1 : 1 ≤ x ∧ x ≤ 120
  · have e1 : (decide (1 ≤ x) && decide (x ≤ 120)) = true := by simp [h1.1, h1.2]
    obtain ⟨c, hc⟩ : ∃ c, (decide (0 ≤ y) && decide (y ≤ 5)) = c := ⟨_, rfl⟩
    rw [e1, hc, Bool.true_and] at hb
    subst hb
    have C1 : Hid (∀ w, Calls Tryz.prog 103 #[.int .i64 x, .int .i64 1, .int .i64 120] w fun e w' => e = .returned (.bool true) ∧ w = w') := fun w => within_is x 1 120 true w e1.symm
    have C2 : Hid (∀ w, Calls Tryz.prog 103 #[.int .i64 y, .int .i64 0, .int .i64 5] w fun e w' => e = .returned (.bool c) ∧ w = w') := fun w => within_is y 0 5 c w hc.symm
    clear e1 hc h1
    go_enter Tryz.func248, Tryz.ntmps248
    go_wp2_with fail
    refine ((unhide C1) _).mono ?_
    rintro e w' ⟨rfl, rfl⟩
    go_wp2_with fail
    refine ((unhide C2) _).mono ?_
    rintro e w' ⟨rfl, rfl⟩
    go_wp2
    go_ret
    exact ⟨rfl, unhide HB⟩
  · have e1 : (decide (1 ≤ x) && decide (x ≤ 120)) = false := by
      rw [Bool.and_eq_false_iff, decide_eq_false_iff_not, decide_eq_false_iff_not]; omega
    rw [e1, Bool.false_and] at hb
    subst hb
    have C1 : Hid (∀ w, Calls Tryz.prog 103 #[.int .i64 x, .int .i64 1, .int .i64 120] w fun e w' => e = .returned (.bool false) ∧ w = w') := fun w => within_is x 1 120 false w e1.symm
    clear e1 h1
    go_enter Tryz.func248, Tryz.ntmps248
    go_wp2_with fail
    refine ((unhide C1) _).mono ?_
    rintro e w' ⟨rfl, rfl⟩
    go_wp2
    go_ret
    exact ⟨rfl, unhide HB⟩

set_option maxRecDepth 10000 in
set_option maxHeartbeats 800000 in
theorem sameP_is (x y x' y' : Int) (a : Option Addr) (n c : Nat) (p : Nat) (b : Bool) (w : World) (h1 : w.cell? ⟨p, 0, none⟩ = some (.int .i64 x')) (h2 : w.cell? ⟨p, 1, none⟩ = some (.int .i64 y')) (hp : p < w.heap.size)
    (hb : (decide (x = x') && decide (y = y')) = b) :
    Calls Tryz.prog 256 #[.agg #[.int .i64 x, .int .i64 y, .slice a n c], .pointer (some ⟨p, 0, none⟩)] w fun e w' => e = .returned (.bool b) ∧ Below w.heap.size w w' := by
  subst hb
  have HB := hide (bel_new w (.cells #[.int .i64 x, .int .i64 y, .slice a n c] 119))
  by_cases hx : x = x'
  · subst hx
    by_cases hy : y = y'
    · subst hy
      rw [decide_eq_true rfl, decide_eq_true rfl]
      go_enter Tryz.func256, Tryz.ntmps256
      go_wp2
      go_ret
      exact ⟨rfl, unhide HB⟩
    · rw [decide_eq_true rfl, decide_eq_false hy]
      go_enter Tryz.func256, Tryz.ntmps256
      go_wp2
      go_ret
      exact ⟨rfl, unhide HB⟩
  · rw [decide_eq_false hx, Bool.false_and]
    go_enter Tryz.func256, Tryz.ntmps256
    go_wp2
    go_ret
    exact ⟨rfl, unhide HB⟩

/-- The first place of a row at which an in has this point, or -1. -/
def ptAt (x : InD) : List InD → Nat → Int
  | [], _ => -1
  | y :: r, k => if samePt x y then k else ptAt x r (k + 1)
theorem ptAt_ge (x : InD) : ∀ (l : List InD) (k : Nat), decide (0 ≤ ptAt x l k) = l.any (samePt x)
  | [], _ => rfl
  | y :: r, k => by
    unfold ptAt
    by_cases h : samePt x y = true
    · rw [if_pos h]; simp [h]
    · rw [if_neg h, ptAt_ge x r (k + 1)]; simp [h]
theorem ptAt_drop (x : InD) (l : List InD) (k : Nat) (h : k < l.length) : ptAt x (l.drop k) k = if samePt x l[k] then (k : Int) else ptAt x (l.drop (k + 1)) (k + 1) := by
  rw [List.drop_eq_getElem_cons h]; rfl

set_option maxRecDepth 10000 in
set_option maxHeartbeats 1600000 in
theorem indexIn_some (b off n c : Nat) (l : List InD) (x : InD) (p : Nat) (w : World) (hz : l.length = n) (hn : n ≤ 6) (hc : ∀ i (h : i < l.length), InAt w b (off + i * 3) l[i])
    (h1 : w.cell? ⟨p, 0, none⟩ = some (.int .i64 x.1)) (h2 : w.cell? ⟨p, 1, none⟩ = some (.int .i64 x.2.1)) :
    Calls Tryz.prog 285 #[.slice (some ⟨b, off, none⟩) n c, .func (.func 256) #[] #[.pointer (some ⟨p, 0, none⟩)]] w fun e w' => e = .returned (.int .i64 (ptAt x l 0)) ∧ Below w.heap.size w w' := by
  have HC := hide hc
  have HZ := hide hz
  have H1 := hide h1
  have H2 := hide h2
  clear hc hz h1 h2
  go_enter Tryz.func285, Tryz.ntmps285
  go_wp2
  go_loopw [5, 8] (fun _ i wr => ∃ k : Nat, k ≤ n ∧ i = .int .i64 k ∧ Hid (ptAt x l 0 = ptAt x (l.drop k) k) ∧ Below w.heap.size w wr) (fun _ i _ => n - (intOf i).toNat)
  case atStart => exact ⟨0, Nat.zero_le _, rfl, rfl, Below.refl _ _⟩
  case round =>
    obtain ⟨k, hk, rfl, A, hb⟩ := hrel
    have HB := hide hb
    by_cases hlt : k < n
    · have hlk : k < l.length := by rw [unhide HZ]; exact hlt
      have hin := InAt.kept _ _ _ _ _ hb ((unhide HC) k hlk)
      have S := hide (ptAt_drop x l k hlk)
      obtain ⟨y, hy⟩ : ∃ y, l[k] = y := ⟨_, rfl⟩
      rw [hy] at hin S
      obtain ⟨g1, g2, ka, kn, kc, g3, _, _⟩ := hin
      have C1 : Hid (∀ q, samePt x y = q → Calls Tryz.prog 256 #[.agg #[.int .i64 y.1, .int .i64 y.2.1, .slice ka kn kc], .pointer (some ⟨p, 0, none⟩)] wr fun e w' => e = .returned (.bool q) ∧ Below wr.heap.size wr w') :=
        fun q hq => sameP_is y.1 y.2.1 x.1 x.2.1 ka kn kc p q wr (cell_later hb (unhide H1)) (cell_later hb (unhide H2)) (World.block_lt_of_cell? _ _ (cell_later hb (unhide H1))) hq
      by_cases hs : samePt x y = true
      · have S2 : Hid (ptAt x l 0 = k) := by show _ = _; rw [unhide A, unhide S, if_pos hs]
        have C2 := hide ((unhide C1) true hs)
        clear S A hs C1 hb hy
        go_wp2_with fail
        refine (unhide C2).mono ?_
        rintro e w' ⟨rfl, hb'⟩
        have HB' := hide (bel_on (unhide HB) hb')
        clear hb'
        go_wp2
        go_ret
        exact ⟨by rw [unhide S2]; rfl, unhide HB'⟩
      · have hs' : samePt x y = false := by simpa using hs
        have S2 : Hid (ptAt x l 0 = ptAt x (l.drop (k + 1)) (k + 1)) := by show _ = _; rw [unhide A, unhide S, if_neg hs]
        have C2 := hide ((unhide C1) false hs')
        clear S A hs hs' C1 hb hy
        go_wp2_with fail
        refine (unhide C2).mono ?_
        rintro e w' ⟨rfl, hb'⟩
        have HB' := hide (bel_on (unhide HB) hb')
        clear hb'
        go_wp2
        go_roundw
        case rel => exact ⟨k + 1, by omega, by go_num, S2, unhide HB'⟩
        case measure => simp [intOf]; omega
    · have S2 : Hid (ptAt x l 0 = -1) := by
        show _ = _
        rw [unhide A, List.drop_of_length_le (by rw [unhide HZ]; omega)]; rfl
      clear A hb
      go_wp2
      go_ret
      exact ⟨by rw [unhide S2]; rfl, unhide HB⟩

set_option maxHeartbeats 400000 in
theorem indexIn_none (a : Option Addr) (c : Nat) (v : Value) (w : World) :
    Calls Tryz.prog 285 #[.slice a 0 c, v] w fun e w' => e = .returned (.int .i64 (-1)) ∧ w = w' := by
  go_enter Tryz.func285, Tryz.ntmps285
  go_wp2
  refine wp_loop_rounds 1 ?_
  rw [rounds_succ]
  go_wp2
  go_ret
  exact ⟨rfl, rfl⟩

theorem indexIn_any (a : Option Addr) (n c : Nat) (l : List InD) (x : InD) (p : Nat) (w : World) (hn : n ≤ 6) (h : InsAt w a n l)
    (h1 : w.cell? ⟨p, 0, none⟩ = some (.int .i64 x.1)) (h2 : w.cell? ⟨p, 1, none⟩ = some (.int .i64 x.2.1)) :
    Calls Tryz.prog 285 #[.slice a n c, .func (.func 256) #[] #[.pointer (some ⟨p, 0, none⟩)]] w fun e w' => e = .returned (.int .i64 (ptAt x l 0)) ∧ Below w.heap.size w w' := by
  obtain ⟨hz, hc⟩ := h
  by_cases h0 : n = 0
  · subst h0
    have e : l = [] := List.length_eq_zero_iff.1 hz
    subst e
    exact (indexIn_none a c _ w).mono fun e w' ⟨q1, q2⟩ => ⟨q1, q2 ▸ Below.refl _ _⟩
  · obtain ⟨b, off, rfl, _, hcell⟩ := hc (by omega)
    exact indexIn_some b off n c l x p w hz hn hcell h1 h2

set_option maxHeartbeats 400000 in
theorem containsIn_is (a : Option Addr) (n c : Nat) (l : List InD) (x : InD) (p : Nat) (o : Bool) (w : World) (hn : n ≤ 6) (h : InsAt w a n l)
    (h1 : w.cell? ⟨p, 0, none⟩ = some (.int .i64 x.1)) (h2 : w.cell? ⟨p, 1, none⟩ = some (.int .i64 x.2.1)) (ho : l.any (samePt x) = o) :
    Calls Tryz.prog 255 #[.slice a n c, .func (.func 256) #[] #[.pointer (some ⟨p, 0, none⟩)]] w fun e w' => e = .returned (.bool o) ∧ Below w.heap.size w w' := by
  have E : Hid (decide (0 ≤ ptAt x l 0) = o) := by show _ = _; rw [ptAt_ge, ho]
  have C := indexIn_any a n c l x p w hn h h1 h2
  obtain ⟨z, hz⟩ : ∃ z, ptAt x l 0 = z := ⟨_, rfl⟩
  rw [hz] at C E
  have CC := hide C
  clear C hz h ho h1 h2
  cases o with
  | true =>
    have h0 : 0 ≤ z := of_decide_eq_true (unhide E)
    go_enter Tryz.func255, Tryz.ntmps255
    go_wp2_with fail
    refine (unhide CC).mono ?_
    rintro e w' ⟨rfl, hb⟩
    have HB := hide hb
    clear hb
    go_wp2
    go_ret
    exact ⟨rfl, unhide HB⟩
  | false =>
    have h2 : decide (0 ≤ z) = false := unhide E
    have h1 : z < 0 := by have := of_decide_eq_false h2; omega
    go_enter Tryz.func255, Tryz.ntmps255
    go_wp2_with fail
    refine (unhide CC).mono ?_
    rintro e w' ⟨rfl, hb⟩
    have HB := hide hb
    clear hb
    go_wp2
    go_ret
    exact ⟨rfl, unhide HB⟩

end Go.Proofs.YtmomfkikogbdeaaGreatDoor

/- A row of values that the call made, filled place by place. -/
namespace Go.Proofs.YtmomfkikogbdeaaGreatDoor
open Go.RowKit

theorem bel_tw {w w1 w2 : World} (h1 : Below w.heap.size w w1) (h2 : Below w1.heap.size w1 w2) : Below w.heap.size w w2 := h1.trans (h2.mono h1.size)

/-! A row of values that the call made, filled place by place. -/
structure FillV (B : Nat) (e : TypeId) (p : Nat) (f : Nat → Value) (w wr : World) (k : Nat) : Prop where
  ex : ∃ xs : List Value, wr.ownsRow B e 1 (.slice (some ⟨B, 0, none⟩) p p) p xs ∧ ∀ j, j < k → xs[j]? = some (f j)
  bel : Below B w wr

theorem FillV.lt {B : Nat} {e : TypeId} {p : Nat} {f : Nat → Value} {w wr : World} {k : Nat} (h : FillV B e p f w wr k) : B < wr.heap.size := by
  obtain ⟨_, ho, _⟩ := h.ex
  exact (ho.lt B rfl).2
theorem FillV.old {B : Nat} {e : TypeId} {p : Nat} {f : Nat → Value} {w wr : World} {k : Nat} (h : FillV B e p f w wr k) (hk : k < p) : ∃ v, wr.cell? ⟨B, k, none⟩ = some v := by
  obtain ⟨xs, ho, _⟩ := h.ex
  have hl : xs.length = p := by simpa using ho.1
  exact ⟨xs[k]'(by omega), by rw [ho.cellAt k (by omega)]; simp [hl, hk]⟩
theorem FillV.free {B : Nat} {e : TypeId} {p : Nat} {f : Nat → Value} {w wr : World} {k : Nat} (h : FillV B e p f w wr k) (j : Nat) : wr.frozen? ⟨B, j, none⟩ = false := by
  obtain ⟨xs, ho, _⟩ := h.ex
  exact ho.frozenAt j
theorem FillV.step {B : Nat} {e : TypeId} {p : Nat} {f : Nat → Value} {w wr : World} {k : Nat} (h : FillV B e p f w wr k) (hk : k < p) {v : Value} (hv : v = f k) : FillV B e p f w (wr.setCell ⟨B, k, none⟩ v) (k + 1) := by
  obtain ⟨xs, ho, hf⟩ := h.ex
  have hl : xs.length = p := by simpa using ho.1
  refine ⟨⟨xs.set k v, (ho.stored k _).1, fun j hj => ?_⟩, h.bel.setCell (Nat.le_refl _) _⟩
  by_cases e : j = k
  · subst e; simp [hl, hk, hv]
  · rw [List.getElem?_set_ne (by omega)]; exact hf j (by omega)
theorem FillV.keep {B : Nat} {e : TypeId} {p : Nat} {f : Nat → Value} {w wr w' : World} {k : Nat} (h : FillV B e p f w wr k) (hb : Below wr.heap.size wr w') : FillV B e p f w w' k := by
  obtain ⟨xs, ho, hf⟩ := h.ex
  refine ⟨⟨xs, ?_, hf⟩, h.bel.trans (hb.mono (Nat.le_of_lt h.lt))⟩
  obtain ⟨hl, h0 | ⟨g, cap, cur, hv, hg, hh, r⟩⟩ := ho
  · exact ⟨hl, .inl h0⟩
  · exact ⟨hl, .inr ⟨g, cap, cur, hv, hg, (hb.block g (lt_of_block hh)).trans hh, r⟩⟩
theorem FillV.cells {B : Nat} {e : TypeId} {p : Nat} {f : Nat → Value} {w wr : World} {k : Nat} (h : FillV B e p f w wr k) (hk : k ≤ p) (i : Nat) (hi : i < k) : wr.cell? ⟨B, i, none⟩ = some (f i) := by
  obtain ⟨xs, ho, hf⟩ := h.ex
  rw [ho.cellAt i (by omega)]
  exact hf i hi

end Go.Proofs.YtmomfkikogbdeaaGreatDoor
