/- Transactions in memory: rows of records, whose slices lead on to rows. -/
import Derived.Test.YtmomfkikogbdeaaGreatDoorLockMathToLockRow
namespace Go.Proofs.YtmomfkikogbdeaaGreatDoor
open Go.RowKit

/-- A slice of records of sz cells each, place by place. -/
def RowsAt {α : Type} (R : World → Nat → Nat → α → Prop) (sz : Nat) (w : World) (a : Option Addr) (len : Nat) (l : List α) : Prop :=
  l.length = len ∧ (0 < len → ∃ b off, a = some ⟨b, off, none⟩ ∧ b < w.heap.size ∧ ∀ i (h : i < l.length), R w b (off + i * sz) l[i])

def KeptR {α : Type} (R : World → Nat → Nat → α → Prop) : Prop := ∀ (w w' : World) (b o : Nat) (x : α), Below w.heap.size w w' → R w b o x → R w' b o x

theorem RowsAt.later {α : Type} {R : World → Nat → Nat → α → Prop} (hR : KeptR R) {sz : Nat} {w w' : World} {a : Option Addr} {len : Nat} {l : List α} (h : RowsAt R sz w a len l) (hb : Below w.heap.size w w') : RowsAt R sz w' a len l := by
  refine ⟨h.1, fun h0 => ?_⟩
  obtain ⟨b, off, e, hl, hc⟩ := h.2 h0
  exact ⟨b, off, e, Nat.lt_of_lt_of_le hl hb.size, fun i hi => hR w w' b _ _ hb (hc i hi)⟩
theorem RowsAt.nil {α : Type} {R : World → Nat → Nat → α → Prop} {sz : Nat} (w : World) (a : Option Addr) : RowsAt R sz w a 0 [] := ⟨rfl, fun h => absurd h (by omega)⟩

theorem cell_later {w w' : World} {p : Addr} {v : Value} (hb : Below w.heap.size w w') (h : w.cell? p = some v) : w'.cell? p = some v := by
  rw [hb.cell (p := p) (World.block_lt_of_cell? _ _ h)]; exact h

/-- The head of a slice that a program can hold. -/
def SlOk (a : Option Addr) (n c : Nat) : Prop := n ≤ c ∧ c ≤ maxLen ∧ (a = none → n = 0 ∧ c = 0)
theorem SlOk.len {a : Option Addr} {n c : Nat} (h : SlOk a n c) : n ≤ maxLen := Nat.le_trans h.1 h.2.1

def InAt (w : World) (b o : Nat) (x : InD) : Prop :=
  w.cell? ⟨b, o, none⟩ = some (.int .i64 x.1) ∧ w.cell? ⟨b, o + 1, none⟩ = some (.int .i64 x.2.1) ∧ ∃ a n c, w.cell? ⟨b, o + 2, none⟩ = some (.slice a n c) ∧ OpsAt w a n x.2.2 ∧ SlOk a n c
def OutAt (w : World) (b o : Nat) (x : OutD) : Prop :=
  w.cell? ⟨b, o, none⟩ = some (.int .i64 x.1) ∧ ∃ a n c, w.cell? ⟨b, o + 1, none⟩ = some (.slice a n c) ∧ OpsAt w a n x.2 ∧ SlOk a n c

theorem InAt.kept : KeptR InAt := fun _ _ _ _ _ hb h => by
  obtain ⟨h1, h2, a, n, c, h3, h4, h5⟩ := h
  exact ⟨cell_later hb h1, cell_later hb h2, a, n, c, cell_later hb h3, h4.later hb, h5⟩
theorem OutAt.kept : KeptR OutAt := fun _ _ _ _ _ hb h => by
  obtain ⟨h1, a, n, c, h3, h4, h5⟩ := h
  exact ⟨cell_later hb h1, a, n, c, cell_later hb h3, h4.later hb, h5⟩

def InsAt (w : World) (a : Option Addr) (len : Nat) (l : List InD) : Prop := RowsAt InAt 3 w a len l
def OutsAt (w : World) (a : Option Addr) (len : Nat) (l : List OutD) : Prop := RowsAt OutAt 2 w a len l
theorem InsAt.later {w w' : World} {a : Option Addr} {len : Nat} {l : List InD} (h : InsAt w a len l) (hb : Below w.heap.size w w') : InsAt w' a len l := RowsAt.later InAt.kept h hb
theorem OutsAt.later {w w' : World} {a : Option Addr} {len : Nat} {l : List OutD} (h : OutsAt w a len l) (hb : Below w.heap.size w w') : OutsAt w' a len l := RowsAt.later OutAt.kept h hb

/-- The first k places of a row are a row. -/
theorem RowsAt.take {α : Type} {R : World → Nat → Nat → α → Prop} {sz : Nat} {w : World} {a : Option Addr} {len : Nat} {l : List α} (h : RowsAt R sz w a len l) (k : Nat) (hk : k ≤ len) : RowsAt R sz w a k (l.take k) := by
  have hl := h.1
  refine ⟨by rw [List.length_take]; omega, fun h0 => ?_⟩
  obtain ⟨b, off, e, hb, hc⟩ := h.2 (by omega)
  refine ⟨b, off, e, hb, fun i hi => ?_⟩
  rw [List.length_take] at hi
  rw [List.getElem_take]
  exact hc i (by omega)

theorem bel_on {w w1 w2 : World} (h1 : Below w.heap.size w w1) (h2 : Below w1.heap.size w1 w2) : Below w.heap.size w w2 := h1.trans (h2.mono h1.size)
theorem bel_new (w : World) (o : Obj) : Below w.heap.size w (w.alloc o) := (Below.refl _ _).alloc (Nat.le_refl _) _

end Go.Proofs.YtmomfkikogbdeaaGreatDoor

/- The contracts of coin.Check and coin.Sum. -/
namespace Go.Proofs.YtmomfkikogbdeaaGreatDoor
open Go.RowKit

set_option maxHeartbeats 400000 in
theorem amount_yes (n : Int) (w : World) (h1 : 0 ≤ n) (h2 : n ≤ 1000000000) :
    Calls Tryz.prog 174 #[.int .i64 n] w fun e w' => e = .returned (.int .i64 0) ∧ w = w' := by
  go_enter Tryz.func174, Tryz.ntmps174
  go_wp2_with (go_at_call 103; refine (within_yes _ _ _ _ h1 h2).mono ?_; rintro e w' ⟨rfl, rfl⟩)
  go_ret
  exact ⟨rfl, rfl⟩
set_option maxHeartbeats 400000 in
theorem amount_no (n : Int) (w : World) (h : n < 0 ∨ 1000000000 < n) :
    Calls Tryz.prog 174 #[.int .i64 n] w fun e w' => e = .returned (.int .i64 3) ∧ w = w' := by
  go_enter Tryz.func174, Tryz.ntmps174
  go_wp2_with (go_at_call 103; refine (within_no _ _ _ _ h).mono ?_; rintro e w' ⟨rfl, rfl⟩)
  go_ret
  exact ⟨rfl, rfl⟩

set_option maxHeartbeats 800000 in
theorem sum_any (a : Option Addr) (len cap : Nat) (Z : List Int) (w : World) (h : RowAt w a len Z) :
    Calls Tryz.prog 109 #[.slice a len cap] w fun e w' => e = .returned (.tuple #[.int .i64 (sm 0 Z).1, .int .i64 (sm 0 Z).2]) ∧ w = w' := by
  obtain ⟨hz, hm, hc⟩ := h
  unfold maxLen at hm
  rcases Nat.eq_zero_or_pos len with h0 | h0
  · subst h0
    have HZ : Hid (Z = []) := List.eq_nil_of_length_eq_zero hz
    clear hz hc hm
    go_enter Tryz.func109, Tryz.ntmps109
    go_wp2
    refine wp_loop_rounds 1 ?_
    rw [rounds_succ]
    go_wp2
    go_ret2
    rw [HZ.out]
    exact ⟨rfl, rfl⟩
  · obtain ⟨b, off, rfl, hcell⟩ := hc h0
    have HC : Hid (∀ i, i < len → w.cell? ⟨b, off + i, none⟩ = some (.int .i64 (Z.getD i 0))) := hcell
    clear hc hcell
    go_enter Tryz.func109, Tryz.ntmps109
    go_wp2
    go_loop [4, 10] (fun s i => ∃ (k : Nat) (x : Int), k ≤ len ∧ i = .int .i64 k ∧ s = .int .i64 x ∧ 0 ≤ x ∧ x ≤ 1000000000 ∧ Hid (sm 0 Z = sm x (Z.drop k))) (fun _ i => len - (intOf i).toNat)
    case atStart => exact ⟨0, 0, Nat.zero_le _, rfl, rfl, by decide, by decide, by exact rfl⟩
    case round =>
      obtain ⟨k, x, hk, rfl, rfl, hx0, hx1, HS⟩ := hrel
      by_cases hlt : k < len
      · have hck := HC.out k hlt
        generalize hv : Z.getD k 0 = v at hck
        have HV : Hid (Z.getD k 0 = v) := hv
        clear hv
        by_cases hr : v < 0 ∨ 1000000000 < v
        · go_wp2_with (go_at_call 174; refine (amount_no _ _ hr).mono ?_; rintro e w' ⟨rfl, rfl⟩)
          go_ret2
          rw [HS.out, sm_range x Z k (by omega) (by rw [HV.out]; exact hr)]
          exact ⟨rfl, rfl⟩
        · have hr1 : 0 ≤ v := by omega
          have hr2 : v ≤ 1000000000 := by omega
          clear hr
          by_cases hf : 1000000000 < x + v
          · go_wp2_with fail
            refine (amount_yes _ _ hr1 hr2).mono ?_
            rintro e w' ⟨rfl, rfl⟩
            go_wp2_with fail
            refine (amount_no _ _ (.inr hf)).mono ?_
            rintro e w' ⟨rfl, rfl⟩
            go_wp2
            go_ret2
            rw [HS.out, sm_full x Z k (by omega) (by rw [HV.out]; exact hr1) (by rw [HV.out]; exact hr2) (by rw [HV.out]; exact hf)]
            exact ⟨rfl, rfl⟩
          · have hf2 : x + v ≤ 1000000000 := by omega
            have hf1 : 0 ≤ x + v := by omega
            clear hf
            go_wp2_with fail
            refine (amount_yes _ _ hr1 hr2).mono ?_
            rintro e w' ⟨rfl, rfl⟩
            go_wp2_with fail
            refine (amount_yes _ _ hf1 hf2).mono ?_
            rintro e w' ⟨rfl, rfl⟩
            go_wp2
            go_round
            case rel =>
              refine ⟨k + 1, x + v, by omega, by go_num, rfl, by omega, by omega, ?_⟩
              show sm 0 Z = _
              rw [HS.out, sm_step x Z k (by omega) (by rw [HV.out]; exact hr1) (by rw [HV.out]; exact hr2) (by rw [HV.out]; exact hf2), HV.out]
            case measure => simp [intOf]; omega
      · go_wp2
        go_ret2
        rw [HS.out, sm_end x Z k (by omega)]
        exact ⟨rfl, rfl⟩

end Go.Proofs.YtmomfkikogbdeaaGreatDoor

/- Contracts of what checks a transaction: its points, its ins, its outs. -/
namespace Go.Proofs.YtmomfkikogbdeaaGreatDoor
open Go.RowKit

set_option maxHeartbeats 800000 in
theorem isPoint_is (x y : Int) (b : Bool) (w : World) (hb : ((decide (1 ≤ x) && decide (x ≤ 120)) && (decide (0 ≤ y) && decide (y ≤ 5))) = b) :
    Calls Tryz.prog 248 #[.agg #[.int .i64 x, .int .i64 y]] w fun e w' => e = .returned (.bool b) ∧ Below w.heap.size w w' := by
  have HB := hide (bel_new w (.cells #[.int .i64 x, .int .i64 y] 117))
  by_cases h1 : 1 ≤ x ∧ x ≤ 120
  · have e1 : (decide (1 ≤ x) && decide (x ≤ 120)) = true := by simp [h1.1, h1.2]
    obtain ⟨c, hc⟩ : ∃ c, (decide (0 ≤ y) && decide (y ≤ 5)) = c := ⟨_, rfl⟩
    rw [e1, hc, Bool.true_and] at hb
    subst hb
    have C1 : Hid (∀ w, Calls Tryz.prog 103 #[.int .i64 x, .int .i64 1, .int .i64 120] w fun e w' => e = .returned (.bool true) ∧ w = w') := fun w => within_is x 1 120 true w e1.symm
    have C2 : Hid (∀ w, Calls Tryz.prog 103 #[.int .i64 y, .int .i64 0, .int .i64 5] w fun e w' => e = .returned (.bool c) ∧ w = w') := fun w => within_is y 0 5 c w hc.symm
    clear e1 hc h1
    go_enter Tryz.func248, Tryz.ntmps248
    go_wp2_with fail
    refine ((unhide C1) _).mono ?_
    rintro e w' ⟨rfl, rfl⟩
    go_wp2_with fail
    refine ((unhide C2) _).mono ?_
    rintro e w' ⟨rfl, rfl⟩
    go_wp2
    go_ret
    exact ⟨rfl, unhide HB⟩
  · have e1 : (decide (1 ≤ x) && decide (x ≤ 120)) = false := by
      rw [Bool.and_eq_false_iff, decide_eq_false_iff_not, decide_eq_false_iff_not]; omega
    rw [e1, Bool.false_and] at hb
    subst hb
    have C1 : Hid (∀ w, Calls Tryz.prog 103 #[.int .i64 x, .int .i64 1, .int .i64 120] w fun e w' => e = .returned (.bool false) ∧ w = w') := fun w => within_is x 1 120 false w e1.symm
    clear e1 h1
    go_enter Tryz.func248, Tryz.ntmps248
    go_wp2_with fail
    refine ((unhide C1) _).mono ?_
    rintro e w' ⟨rfl, rfl⟩
    go_wp2
    go_ret
    exact ⟨rfl, unhide HB⟩

set_option maxRecDepth 10000 in
set_option maxHeartbeats 800000 in
theorem sameP_is (x y x' y' : Int) (a : Option Addr) (n c : Nat) (p : Nat) (b : Bool) (w : World) (h1 : w.cell? ⟨p, 0, none⟩ = some (.int .i64 x')) (h2 : w.cell? ⟨p, 1, none⟩ = some (.int .i64 y')) (hp : p < w.heap.size)
    (hb : (decide (x = x') && decide (y = y')) = b) :
    Calls Tryz.prog 256 #[.agg #[.int .i64 x, .int .i64 y, .slice a n c], .pointer (some ⟨p, 0, none⟩)] w fun e w' => e = .returned (.bool b) ∧ Below w.heap.size w w' := by
  subst hb
  have HB := hide (bel_new w (.cells #[.int .i64 x, .int .i64 y, .slice a n c] 119))
  by_cases hx : x = x'
  · subst hx
    by_cases hy : y = y'
    · subst hy
      rw [decide_eq_true rfl, decide_eq_true rfl]
      go_enter Tryz.func256, Tryz.ntmps256
      go_wp2
      go_ret
      exact ⟨rfl, unhide HB⟩
    · rw [decide_eq_true rfl, decide_eq_false hy]
      go_enter Tryz.func256, Tryz.ntmps256
      go_wp2
      go_ret
      exact ⟨rfl, unhide HB⟩
  · rw [decide_eq_false hx, Bool.false_and]
    go_enter Tryz.func256, Tryz.ntmps256
    go_wp2
    go_ret
    exact ⟨rfl, unhide HB⟩

/-- The first place of a row at which an in has this point, or -1. -/
def ptAt (x : InD) : List InD → Nat → Int
  | [], _ => -1
  | y :: r, k => if samePt x y then k else ptAt x r (k + 1)
theorem ptAt_ge (x : InD) : ∀ (l : List InD) (k : Nat), decide (0 ≤ ptAt x l k) = l.any (samePt x)
  | [], _ => rfl
  | y :: r, k => by
    unfold ptAt
    by_cases h : samePt x y = true
    · rw [if_pos h]; simp [h]
    · rw [if_neg h, ptAt_ge x r (k + 1)]; simp [h]
theorem ptAt_drop (x : InD) (l : List InD) (k : Nat) (h : k < l.length) : ptAt x (l.drop k) k = if samePt x l[k] then (k : Int) else ptAt x (l.drop (k + 1)) (k + 1) := by
  rw [List.drop_eq_getElem_cons h]; rfl

set_option maxRecDepth 10000 in
set_option maxHeartbeats 1600000 in
theorem indexIn_some (b off n c : Nat) (l : List InD) (x : InD) (p : Nat) (w : World) (hz : l.length = n) (hn : n ≤ 6) (hc : ∀ i (h : i < l.length), InAt w b (off + i * 3) l[i])
    (h1 : w.cell? ⟨p, 0, none⟩ = some (.int .i64 x.1)) (h2 : w.cell? ⟨p, 1, none⟩ = some (.int .i64 x.2.1)) :
    Calls Tryz.prog 285 #[.slice (some ⟨b, off, none⟩) n c, .func (.func 256) #[] #[.pointer (some ⟨p, 0, none⟩)]] w fun e w' => e = .returned (.int .i64 (ptAt x l 0)) ∧ Below w.heap.size w w' := by
  have HC := hide hc
  have HZ := hide hz
  have H1 := hide h1
  have H2 := hide h2
  clear hc hz h1 h2
  go_enter Tryz.func285, Tryz.ntmps285
  go_wp2
  go_loopw [5, 8] (fun _ i wr => ∃ k : Nat, k ≤ n ∧ i = .int .i64 k ∧ Hid (ptAt x l 0 = ptAt x (l.drop k) k) ∧ Below w.heap.size w wr) (fun _ i _ => n - (intOf i).toNat)
  case atStart => exact ⟨0, Nat.zero_le _, rfl, rfl, Below.refl _ _⟩
  case round =>
    obtain ⟨k, hk, rfl, A, hb⟩ := hrel
    have HB := hide hb
    by_cases hlt : k < n
    · have hlk : k < l.length := by rw [unhide HZ]; exact hlt
      have hin := InAt.kept _ _ _ _ _ hb ((unhide HC) k hlk)
      have S := hide (ptAt_drop x l k hlk)
      obtain ⟨y, hy⟩ : ∃ y, l[k] = y := ⟨_, rfl⟩
      rw [hy] at hin S
      obtain ⟨g1, g2, ka, kn, kc, g3, _, _⟩ := hin
      have C1 : Hid (∀ q, samePt x y = q → Calls Tryz.prog 256 #[.agg #[.int .i64 y.1, .int .i64 y.2.1, .slice ka kn kc], .pointer (some ⟨p, 0, none⟩)] wr fun e w' => e = .returned (.bool q) ∧ Below wr.heap.size wr w') :=
        fun q hq => sameP_is y.1 y.2.1 x.1 x.2.1 ka kn kc p q wr (cell_later hb (unhide H1)) (cell_later hb (unhide H2)) (World.block_lt_of_cell? _ _ (cell_later hb (unhide H1))) hq
      by_cases hs : samePt x y = true
      · have S2 : Hid (ptAt x l 0 = k) := by show _ = _; rw [unhide A, unhide S, if_pos hs]
        have C2 := hide ((unhide C1) true hs)
        clear S A hs C1 hb hy
        go_wp2_with fail
        refine (unhide C2).mono ?_
        rintro e w' ⟨rfl, hb'⟩
        have HB' := hide (bel_on (unhide HB) hb')
        clear hb'
        go_wp2
        go_ret
        exact ⟨by rw [unhide S2]; rfl, unhide HB'⟩
      · have hs' : samePt x y = false := by simpa using hs
        have S2 : Hid (ptAt x l 0 = ptAt x (l.drop (k + 1)) (k + 1)) := by show _ = _; rw [unhide A, unhide S, if_neg hs]
        have C2 := hide ((unhide C1) false hs')
        clear S A hs hs' C1 hb hy
        go_wp2_with fail
        refine (unhide C2).mono ?_
        rintro e w' ⟨rfl, hb'⟩
        have HB' := hide (bel_on (unhide HB) hb')
        clear hb'
        go_wp2
        go_roundw
        case rel => exact ⟨k + 1, by omega, by go_num, S2, unhide HB'⟩
        case measure => simp [intOf]; omega
    · have S2 : Hid (ptAt x l 0 = -1) := by
        show _ = _
        rw [unhide A, List.drop_of_length_le (by rw [unhide HZ]; omega)]; rfl
      clear A hb
      go_wp2
      go_ret
      exact ⟨by rw [unhide S2]; rfl, unhide HB⟩

set_option maxHeartbeats 400000 in
theorem indexIn_none (a : Option Addr) (c : Nat) (v : Value) (w : World) :
    Calls Tryz.prog 285 #[.slice a 0 c, v] w fun e w' => e = .returned (.int .i64 (-1)) ∧ w = w' := by
  go_enter Tryz.func285, Tryz.ntmps285
  go_wp2
  refine wp_loop_rounds 1 ?_
  rw [rounds_succ]
  go_wp2
  go_ret
  exact ⟨rfl, rfl⟩

theorem indexIn_any (a : Option Addr) (n c : Nat) (l : List InD) (x : InD) (p : Nat) (w : World) (hn : n ≤ 6) (h : InsAt w a n l)
    (h1 : w.cell? ⟨p, 0, none⟩ = some (.int .i64 x.1)) (h2 : w.cell? ⟨p, 1, none⟩ = some (.int .i64 x.2.1)) :
    Calls Tryz.prog 285 #[.slice a n c, .func (.func 256) #[] #[.pointer (some ⟨p, 0, none⟩)]] w fun e w' => e = .returned (.int .i64 (ptAt x l 0)) ∧ Below w.heap.size w w' := by
  obtain ⟨hz, hc⟩ := h
  by_cases h0 : n = 0
  · subst h0
    have e : l = [] := List.length_eq_zero_iff.1 hz
    subst e
    exact (indexIn_none a c _ w).mono fun e w' ⟨q1, q2⟩ => ⟨q1, q2 ▸ Below.refl _ _⟩
  · obtain ⟨b, off, rfl, _, hcell⟩ := hc (by omega)
    exact indexIn_some b off n c l x p w hz hn hcell h1 h2

set_option maxHeartbeats 400000 in
theorem containsIn_is (a : Option Addr) (n c : Nat) (l : List InD) (x : InD) (p : Nat) (o : Bool) (w : World) (hn : n ≤ 6) (h : InsAt w a n l)
    (h1 : w.cell? ⟨p, 0, none⟩ = some (.int .i64 x.1)) (h2 : w.cell? ⟨p, 1, none⟩ = some (.int .i64 x.2.1)) (ho : l.any (samePt x) = o) :
    Calls Tryz.prog 255 #[.slice a n c, .func (.func 256) #[] #[.pointer (some ⟨p, 0, none⟩)]] w fun e w' => e = .returned (.bool o) ∧ Below w.heap.size w w' := by
  have E : Hid (decide (0 ≤ ptAt x l 0) = o) := by show _ = _; rw [ptAt_ge, ho]
  have C := indexIn_any a n c l x p w hn h h1 h2
  obtain ⟨z, hz⟩ : ∃ z, ptAt x l 0 = z := ⟨_, rfl⟩
  rw [hz] at C E
  have CC := hide C
  clear C hz h ho h1 h2
  cases o with
  | true =>
    have h0 : 0 ≤ z := of_decide_eq_true (unhide E)
    go_enter Tryz.func255, Tryz.ntmps255
    go_wp2_with fail
    refine (unhide CC).mono ?_
    rintro e w' ⟨rfl, hb⟩
    have HB := hide hb
    clear hb
    go_wp2
    go_ret
    exact ⟨rfl, unhide HB⟩
  | false =>
    have h2 : decide (0 ≤ z) = false := unhide E
    have h1 : z < 0 := by have := of_decide_eq_false h2; omega
    go_enter Tryz.func255, Tryz.ntmps255
    go_wp2_with fail
    refine (unhide CC).mono ?_
    rintro e w' ⟨rfl, hb⟩
    have HB := hide hb
    clear hb
    go_wp2
    go_ret
    exact ⟨rfl, unhide HB⟩

end Go.Proofs.YtmomfkikogbdeaaGreatDoor

/- A row of values that the call made, filled place by place. -/
namespace Go.Proofs.YtmomfkikogbdeaaGreatDoor
open Go.RowKit

theorem bel_tw {w w1 w2 : World} (h1 : Below w.heap.size w w1) (h2 : Below w1.heap.size w1 w2) : Below w.heap.size w w2 := h1.trans (h2.mono h1.size)

/-! A row of values that the call made, filled place by place. -/
structure FillV (B : Nat) (e : TypeId) (p : Nat) (f : Nat → Value) (w wr : World) (k : Nat) : Prop where
  ex : ∃ xs : List Value, wr.ownsRow B e 1 (.slice (some ⟨B, 0, none⟩) p p) p xs ∧ ∀ j, j < k → xs[j]? = some (f j)
  bel : Below B w wr

theorem FillV.lt {B : Nat} {e : TypeId} {p : Nat} {f : Nat → Value} {w wr : World} {k : Nat} (h : FillV B e p f w wr k) : B < wr.heap.size := by
  obtain ⟨_, ho, _⟩ := h.ex
  exact (ho.lt B rfl).2
theorem FillV.old {B : Nat} {e : TypeId} {p : Nat} {f : Nat → Value} {w wr : World} {k : Nat} (h : FillV B e p f w wr k) (hk : k < p) : ∃ v, wr.cell? ⟨B, k, none⟩ = some v := by
  obtain ⟨xs, ho, _⟩ := h.ex
  have hl : xs.length = p := by simpa using ho.1
  exact ⟨xs[k]'(by omega), by rw [ho.cellAt k (by omega)]; simp [hl, hk]⟩
theorem FillV.free {B : Nat} {e : TypeId} {p : Nat} {f : Nat → Value} {w wr : World} {k : Nat} (h : FillV B e p f w wr k) (j : Nat) : wr.frozen? ⟨B, j, none⟩ = false := by
  obtain ⟨xs, ho, _⟩ := h.ex
  exact ho.frozenAt j
theorem FillV.step {B : Nat} {e : TypeId} {p : Nat} {f : Nat → Value} {w wr : World} {k : Nat} (h : FillV B e p f w wr k) (hk : k < p) {v : Value} (hv : v = f k) : FillV B e p f w (wr.setCell ⟨B, k, none⟩ v) (k + 1) := by
  obtain ⟨xs, ho, hf⟩ := h.ex
  have hl : xs.length = p := by simpa using ho.1
  refine ⟨⟨xs.set k v, (ho.stored k _).1, fun j hj => ?_⟩, h.bel.setCell (Nat.le_refl _) _⟩
  by_cases e : j = k
  · subst e; simp [hl, hk, hv]
  · rw [List.getElem?_set_ne (by omega)]; exact hf j (by omega)
theorem FillV.keep {B : Nat} {e : TypeId} {p : Nat} {f : Nat → Value} {w wr w' : World} {k : Nat} (h : FillV B e p f w wr k) (hb : Below wr.heap.size wr w') : FillV B e p f w w' k := by
  obtain ⟨xs, ho, hf⟩ := h.ex
  refine ⟨⟨xs, ?_, hf⟩, h.bel.trans (hb.mono (Nat.le_of_lt h.lt))⟩
  obtain ⟨hl, h0 | ⟨g, cap, cur, hv, hg, hh, r⟩⟩ := ho
  · exact ⟨hl, .inl h0⟩
  · exact ⟨hl, .inr ⟨g, cap, cur, hv, hg, (hb.block g (lt_of_block hh)).trans hh, r⟩⟩
theorem FillV.cells {B : Nat} {e : TypeId} {p : Nat} {f : Nat → Value} {w wr : World} {k : Nat} (h : FillV B e p f w wr k) (hk : k ≤ p) (i : Nat) (hi : i < k) : wr.cell? ⟨B, i, none⟩ = some (f i) := by
  obtain ⟨xs, ho, hf⟩ := h.ex
  rw [ho.cellAt i (by omega)]
  exact hf i hi

end Go.Proofs.YtmomfkikogbdeaaGreatDoor

/- Contracts of what checks a transaction: the ins one by one, the outs one by one, and all of it. -/
namespace Go.Proofs.YtmomfkikogbdeaaGreatDoor
open Go.RowKit

theorem three_new (w : World) (x y z : Value) (t : TypeId) : (w.alloc (.cells #[x, y, z] t)).cell? ⟨w.heap.size, 0, none⟩ = some x ∧ (w.alloc (.cells #[x, y, z] t)).cell? ⟨w.heap.size, 1, none⟩ = some y ∧ (w.alloc (.cells #[x, y, z] t)).cell? ⟨w.heap.size, 2, none⟩ = some z :=
  ⟨by rw [World.cell?_alloc_at _ _ _ _ rfl]; rfl, by rw [World.cell?_alloc_at _ _ _ _ rfl]; rfl, by rw [World.cell?_alloc_at _ _ _ _ rfl]; rfl⟩
theorem two_fresh (w : World) (x y : Value) (t : TypeId) : (w.alloc (.cells #[x, y] t)).cell? ⟨w.heap.size, 0, none⟩ = some x ∧ (w.alloc (.cells #[x, y] t)).cell? ⟨w.heap.size, 1, none⟩ = some y :=
  ⟨by rw [World.cell?_alloc_at _ _ _ _ rfl]; rfl, by rw [World.cell?_alloc_at _ _ _ _ rfl]; rfl⟩
theorem chk_at (a : Option Addr) (len cap : Nat) (l : List (Int × Int)) (x : Int) (w : World) (hx : chk l = x) (h : OpsAt w a len l) :
    Calls Tryz.prog 249 #[.slice a len cap] w fun e w' => e = .returned (.int .i64 x) ∧ Below w.heap.size w w' := by
  subst hx; exact check_any a len cap l w h

set_option maxRecDepth 10000 in
set_option maxHeartbeats 3200000 in
theorem checkIns_some (b off n c : Nat) (L : List InD) (w : World) (hn : n ≤ 6) (hcap : n ≤ c) (hz : L.length = n) (hlb : b < w.heap.size) (hc : ∀ i (h : i < L.length), InAt w b (off + i * 3) L[i]) :
    Calls Tryz.prog 209 #[.slice (some ⟨b, off, none⟩) n c] w fun e w' => e = .returned (.int .i64 (chkIns [] L)) ∧ Below w.heap.size w w' := by
  have HC := hide hc
  have HZ := hide hz
  clear hc hz
  go_enter Tryz.func209, Tryz.ntmps209
  go_wp2
  go_loopw [8] (fun i wr => ∃ k : Nat, k ≤ n ∧ i = .int .i64 k ∧ Hid (chkIns [] L = chkIns (L.take k) (L.drop k)) ∧ Below w.heap.size w wr) (fun i _ => n - (intOf i).toNat)
  case atStart => exact ⟨0, Nat.zero_le _, rfl, rfl, Below.refl _ _⟩
  case round =>
    obtain ⟨k, hk, rfl, A, hb⟩ := hrel
    have HB := hide hb
    by_cases hlt : k < n
    · have hlk : k < L.length := by rw [unhide HZ]; exact hlt
      have hin := InAt.kept _ _ _ _ _ hb ((unhide HC) k hlk)
      have IA : Hid (InsAt wr (some ⟨b, off, none⟩) k (L.take k)) := by
        have h0 : InsAt wr (some ⟨b, off, none⟩) n L := ⟨unhide HZ, fun _ => ⟨b, off, rfl, Nat.lt_of_lt_of_le hlb hb.size, fun i hi => InAt.kept _ _ _ _ _ hb ((unhide HC) i hi)⟩⟩
        exact RowsAt.take h0 k hk
      have ST := hide (chkIns_stop L k hlk)
      have SS := hide (chkIns_step L k hlk)
      obtain ⟨x, hx⟩ : ∃ x, L[k] = x := ⟨_, rfl⟩
      rw [hx] at hin ST SS
      obtain ⟨x1, x2, key⟩ := x
      obtain ⟨g1, g2, ka, kn, kc, g3, g4, _⟩ := hin
      simp only at g1 g2 g3 g4
      have hba := bel_new wr (.cells #[.int .i64 x1, .int .i64 x2, .slice ka kn kc] 119)
      obtain ⟨n1, n2, n3⟩ := three_new wr (.int .i64 x1) (.int .i64 x2) (.slice ka kn kc) 119
      have HBA := hide hba
      have KO := hide (g4.later hba)
      have N1 := hide n1
      have N2 := hide n2
      have N3 := hide n3
      clear hb hx g4 hba n1 n2 n3
      cases hp : ptOk (x1, x2, key) with
      | false =>
        have C1 := hide (isPoint_is x1 x2 false _ hp : Calls Tryz.prog 248 _ (wr.alloc (.cells #[.int .i64 x1, .int .i64 x2, .slice ka kn kc] 119)) _)
        have R : Hid (chkIns [] L = 3) := by
          have e := chkIn1_pt (pre := L.take k) hp
          show _ = _
          rw [unhide A, (unhide ST) (by rw [e]; decide), e]
        clear A ST SS hp IA
        go_wp2_with fail
        refine (unhide C1).mono ?_
        rintro e w2 ⟨rfl, hb2⟩
        have HB2 := hide (bel_on (bel_on (unhide HB) (unhide HBA)) hb2)
        clear hb2
        go_wp2
        go_ret
        exact ⟨by rw [unhide R]; rfl, unhide HB2⟩
      | true =>
        have C1 := hide (isPoint_is x1 x2 true _ hp : Calls Tryz.prog 248 _ (wr.alloc (.cells #[.int .i64 x1, .int .i64 x2, .slice ka kn kc] 119)) _)
        have HP := hide hp
        clear hp
        by_cases hk0 : chk key = 0
        · cases ht : (L.take k).any (samePt (x1, x2, key)) with
          | true =>
            have R : Hid (chkIns [] L = 6) := by
              have e := chkIn1_twice (pre := L.take k) (unhide HP) hk0 ht
              show _ = _
              rw [unhide A, (unhide ST) (by rw [e]; decide), e]
            have HT := hide ht
            have HK := hide hk0
            clear A ST SS ht hk0
            go_wp2_with fail
            refine (unhide C1).mono ?_
            rintro e w2 ⟨rfl, hb2⟩
            have m3 := cell_later hb2 (unhide N3)
            have HB2 := hide hb2
            have HB2' := hide (bel_on (unhide HBA) hb2)
            have hs2 : wr.heap.size < w2.heap.size := World.block_lt_of_cell? _ _ m3
            clear hb2
            go_wp2_with fail
            refine (chk_at ka kn kc key 0 _ (unhide HK) ((unhide KO).later (unhide HB2))).mono ?_
            rintro e w3 ⟨rfl, hb3⟩
            have HB3 := hide (bel_on (unhide HB2') hb3)
            have CT := hide (containsIn_is (some ⟨b, off, none⟩) k c (L.take k) (x1, x2, key) wr.heap.size true w3 (by omega) ((unhide IA).later (unhide HB3)) (cell_later hb3 (cell_later (unhide HB2) (unhide N1))) (cell_later hb3 (cell_later (unhide HB2) (unhide N2))) (unhide HT))
            clear hb3 m3
            go_wp2_with fail
            refine (unhide CT).mono ?_
            rintro e w4 ⟨rfl, hb4⟩
            have HB4 := hide (bel_on (bel_on (unhide HB) (unhide HB3)) hb4)
            clear hb4
            go_wp2
            go_ret
            exact ⟨by rw [unhide R]; rfl, unhide HB4⟩
          | false =>
            have R : Hid (chkIns [] L = chkIns (L.take (k + 1)) (L.drop (k + 1))) := by
              have e := chkIn1_ok (pre := L.take k) (unhide HP) hk0 ht
              show _ = _
              rw [unhide A, (unhide SS) e]
            have HT := hide ht
            have HK := hide hk0
            clear A ST SS ht hk0
            go_wp2_with fail
            refine (unhide C1).mono ?_
            rintro e w2 ⟨rfl, hb2⟩
            have m3 := cell_later hb2 (unhide N3)
            have HB2 := hide hb2
            have HB2' := hide (bel_on (unhide HBA) hb2)
            have hs2 : wr.heap.size < w2.heap.size := World.block_lt_of_cell? _ _ m3
            clear hb2
            go_wp2_with fail
            refine (chk_at ka kn kc key 0 _ (unhide HK) ((unhide KO).later (unhide HB2))).mono ?_
            rintro e w3 ⟨rfl, hb3⟩
            have HB3 := hide (bel_on (unhide HB2') hb3)
            have CT := hide (containsIn_is (some ⟨b, off, none⟩) k c (L.take k) (x1, x2, key) wr.heap.size false w3 (by omega) ((unhide IA).later (unhide HB3)) (cell_later hb3 (cell_later (unhide HB2) (unhide N1))) (cell_later hb3 (cell_later (unhide HB2) (unhide N2))) (unhide HT))
            clear hb3 m3
            go_wp2_with fail
            refine (unhide CT).mono ?_
            rintro e w4 ⟨rfl, hb4⟩
            have HB4 := hide (bel_on (bel_on (unhide HB) (unhide HB3)) hb4)
            clear hb4
            go_wp2
            go_roundw
            case rel => exact ⟨k + 1, by omega, by go_num, R, unhide HB4⟩
            case measure => simp [intOf]; omega
        · obtain ⟨z, hz⟩ : ∃ z, chk key = z := ⟨_, rfl⟩
          have R : Hid (chkIns [] L = z) := by
            have e := chkIn1_key (pre := L.take k) (unhide HP) hk0
            show _ = _
            rw [unhide A, (unhide ST) (by rw [e]; exact hk0), e]; exact hz
          have HK := hide hz
          rw [hz] at hk0
          have gz : (z != 0) = true := by simp [hk0]
          clear A ST SS hz hk0 IA
          go_wp2_with fail
          refine (unhide C1).mono ?_
          rintro e w2 ⟨rfl, hb2⟩
          have m3 := cell_later hb2 (unhide N3)
          have HB2 := hide hb2
          have HB2' := hide (bel_on (unhide HBA) hb2)
          have hs2 : wr.heap.size < w2.heap.size := World.block_lt_of_cell? _ _ m3
          clear hb2
          go_wp2_with fail
          refine (chk_at ka kn kc key z _ (unhide HK) ((unhide KO).later (unhide HB2))).mono ?_
          rintro e w3 ⟨rfl, hb3⟩
          have HB3 := hide (bel_on (bel_on (unhide HB) (unhide HB2')) hb3)
          clear hb3 m3
          go_wp2
          go_ret
          exact ⟨by rw [unhide R]; rfl, unhide HB3⟩
    · have R : Hid (chkIns [] L = 0) := by show _ = _; rw [unhide A, chkIns_end L k (by rw [unhide HZ]; omega)]
      clear A hb
      go_wp2
      go_ret
      exact ⟨by rw [unhide R]; rfl, unhide HB⟩

end Go.Proofs.YtmomfkikogbdeaaGreatDoor
