/- The contract of Total. -/
import Derived.Test.YtakcleadfcelmaaGreatCoinApplyB
import Derived.Test.YtakcleadfcelmaaGreatCoinInsertCToCoinGr
import Derived.Test.YtakcleadfcelmaaGreatTxMathToLockRow
import Derived.BigCall
import Derived.BigGuard
import Derived.Deep.CutBlock
import Derived.Shelf.Abstract
import Derived.Sort.AssemblyPlain
namespace Go.Proofs.YtakcleadfcelmaaGreat
open Go.RowKit

set_option maxHeartbeats 400000 in
theorem total1_is (x : CoinD) (a : Option Addr) (n c : Nat) (w : World) : Calls Tryz.prog 49 #[cnV x a n c] w fun e w' => e = .returned (.bool true) ∧ Below w.heap.size w w' := by
  unfold cnV
  have HB := hide (bel_new w (.cells #[.int .i64 x.1, .int .i64 x.2.1, .int .i64 (cv x), .slice a n c, .int .i64 (ch x), .bool (cr x)] 55))
  go_enter Tryz.func49, Tryz.ntmps49
  go_wp2
  go_ret
  exact ⟨rfl, unhide HB⟩

set_option maxRecDepth 10000 in
set_option maxHeartbeats 3200000 in
theorem sumOf_total (a : Option Addr) (n c : Nat) (L : List CoinD) (x s : Int) (w : World) (h : CoinsAt w a n L) (hx : ckCoins L = x) (hs : (if x = 0 then sumC L else 0) = s) :
    Calls Tryz.prog 48 #[.slice a n c, .func (.func 49) #[] #[]] w fun e w' => e = .returned (.tuple #[.int .i64 s, .int .i64 x]) ∧ Below w.heap.size w w' := by
  have C1 := hide (uCheck_any a n c L x w h hx)
  by_cases e1 : x = 0
  · subst e1
    rw [if_pos rfl] at hs
    have hR := (ckCoins_zero L).1 hx
    have hn : n ≤ 720 := by rw [← h.1]; exact hR.len
    have HSB := hide (fun k => sumC_bd L k (fun z hz => by have := ck1_zero (hR.one z hz); omega))
    have HL := hide h
    have HZ := hide h.1
    have HS := hide hs
    clear hR h hx hs
    go_enter Tryz.func48, Tryz.ntmps48
    go_wp2_with fail
    refine (unhide C1).mono ?_
    rintro e w2 ⟨rfl, hb2⟩
    have HB2 := hide hb2
    clear hb2 C1
    go_wp2
    go_loopw [7, 17] (fun sv i wr => ∃ (k : Nat) (d : Int), k ≤ n ∧ sv = .int .i64 d ∧ i = .int .i64 k ∧ Hid (d = sumC (L.take k)) ∧ Hid (Below w.heap.size w wr)) (fun _ i _ => n - (intOf i).toNat)
    case atStart => exact ⟨0, 0, Nat.zero_le _, rfl, rfl, rfl, HB2⟩
    case round =>
      obtain ⟨k, d, hk, rfl, rfl, A, HB⟩ := hrel
      by_cases hlt : k < n
      · have hlk : k < L.length := by rw [unhide HZ]; exact hlt
        obtain ⟨b, off, rfl, hbl, hcell⟩ := (unhide HL).2 (by omega)
        have hin := CoinAt.kept _ _ _ _ _ (unhide HB) (hcell k hlk)
        have b1 := (unhide HSB) k
        have b2 := (unhide HSB) (k + 1)
        have hst := sumC_take L k hlk
        obtain ⟨y, hy⟩ : ∃ y, L[k] = y := ⟨_, rfl⟩
        rw [hy] at hin hst
        obtain ⟨la, ln, lc, g0, g1, g2, g3, g4, g5, _, _⟩ := hin.val
        obtain ⟨v, hv⟩ : ∃ v, cv y = v := ⟨_, rfl⟩
        have T1 := fun w => total1_is y la ln lc w
        unfold cnV at T1
        rw [hv] at g2 hst T1
        have HT1 := hide T1
        rw [← unhide A] at b1 hst
        rw [hst] at b2
        have A2 : Hid (d + v = sumC (L.take (k + 1))) := hst.symm
        obtain ⟨X, hX⟩ : ∃ X, X = wr.alloc (.cells #[.int .i64 y.1, .int .i64 y.2.1, .int .i64 v, .slice la ln lc, .int .i64 (ch y), .bool (cr y)] 55) := ⟨_, rfl⟩
        have hbX : Below wr.heap.size wr X := by rw [hX]; exact bel_new _ _
        have hX1 : X.heap[wr.heap.size]? = some (.cells [.int .i64 y.1, .int .i64 y.2.1, .int .i64 v, .slice la ln lc, .int .i64 (ch y), .bool (cr y)].toArray 55 (0, 0)) := by rw [hX]; exact six_heap _ _ _ _ _ _ _ _
        have m2 := cell_of hX1 2 _ rfl
        have HBX := hide (bel_on (unhide HB) hbX)
        have hw1 : IntKind.i64.wrap (d + v) = d + v := by rw [IntKind.wrap_i64]; omega
        clear hin hy hst A HB T1 hv hX1 hbX
        go_wp2_with fail
        rw [← hX]
        clear hX
        refine ((unhide HT1) _).mono ?_
        rintro e w3 ⟨rfl, hb3⟩
        have n2 := cell_later hb3 m2
        have hl3 := World.block_lt_of_cell? _ _ n2
        have HB3 := hide (bel_on (unhide HBX) hb3)
        clear hb3 m2
        go_wp2
        go_roundw
        case rel => exact ⟨k + 1, d + v, by omega, rfl, by go_num, A2, HB3⟩
        case measure => simp [intOf]; omega
      · have e : k = n := by omega
        subst e
        have R : Hid (d = s) := by
          show _ = _
          rw [unhide A, List.take_of_length_le (by rw [unhide HZ]; exact Nat.le_refl _)]
          exact unhide HS
        clear A
        go_wp2
        go_ret2
        exact ⟨by rw [← unhide R]; rfl, unhide HB⟩
  · rw [if_neg e1] at hs
    subst hs
    have g : (x != 0) = true := by simp [e1]
    clear h hx e1
    go_enter Tryz.func48, Tryz.ntmps48
    go_wp2_with fail
    refine (unhide C1).mono ?_
    rintro e w2 ⟨rfl, hb2⟩
    have HB2 := hide hb2
    clear hb2 C1
    go_wp2
    go_ret2
    exact ⟨rfl, unhide HB2⟩

set_option maxHeartbeats 400000 in
theorem total_is (a : Option Addr) (n c : Nat) (L : List CoinD) (x s : Int) (w : World) (h : CoinsAt w a n L) (hx : ckCoins L = x) (hs : (if x = 0 then sumC L else 0) = s) :
    Calls Tryz.prog 22 #[.slice a n c] w fun e w' => e = .returned (.tuple #[.int .i64 s, .int .i64 x]) ∧ Below w.heap.size w w' := by
  have C := hide (sumOf_total a n c L x s w h hx hs)
  clear h hx hs
  go_enter Tryz.func22, Tryz.ntmps22
  go_wp2_with fail
  refine (unhide C).mono ?_
  rintro e w2 ⟨rfl, hb2⟩
  have HB2 := hide hb2
  clear hb2
  go_wp2
  go_ret2
  exact ⟨rfl, unhide HB2⟩

end Go.Proofs.YtakcleadfcelmaaGreat

/- The contracts of the reference's place (where a point stands among coins, in whatever order) and FeeOf. -/
namespace Go.Proofs.YtakcleadfcelmaaGreat
open Go.RowKit

/-- The first place of a point among coins, or -1. -/
def plc (p : PtD) : List CoinD → Nat → Int
  | [], _ => -1
  | y :: r, k => if pt y = p then k else plc p r (k + 1)
theorem plc_drop (p : PtD) (l : List CoinD) (k : Nat) (h : k < l.length) : plc p (l.drop k) k = if pt l[k] = p then (k : Int) else plc p (l.drop (k + 1)) (k + 1) := by
  rw [List.drop_eq_getElem_cons h]; rfl

set_option maxRecDepth 10000 in
set_option maxHeartbeats 800000 in
theorem rplace1_is (x : CoinD) (a : Option Addr) (n c : Nat) (q : PtD) (p : Nat) (o : Bool) (w : World) (h1 : w.cell? ⟨p, 0, none⟩ = some (.int .i64 q.1)) (h2 : w.cell? ⟨p, 1, none⟩ = some (.int .i64 q.2)) (ho : decide (pt x = q) = o) :
    Calls Tryz.prog 57 #[cnV x a n c, .pointer (some ⟨p, 0, none⟩)] w fun e w' => e = .returned (.bool o) ∧ Below w.heap.size w w' := by
  subst ho
  obtain ⟨x1, x2, v, lk, hh, rr⟩ := x
  obtain ⟨q1, q2⟩ := q
  have hp := World.block_lt_of_cell? _ _ h1
  unfold cnV pt cv ch cr
  simp only at h1 h2 ⊢
  have HB := hide (bel_new w (.cells #[.int .i64 x1, .int .i64 x2, .int .i64 v, .slice a n c, .int .i64 hh, .bool rr] 55))
  by_cases hx : x1 = q1
  · subst hx
    by_cases hy : x2 = q2
    · subst hy
      rw [decide_eq_true rfl]
      go_enter Tryz.func57, Tryz.ntmps57
      go_wp2
      go_ret
      exact ⟨rfl, unhide HB⟩
    · rw [decide_eq_false (fun e => hy (Prod.mk.inj e).2)]
      go_enter Tryz.func57, Tryz.ntmps57
      go_wp2
      go_ret
      exact ⟨rfl, unhide HB⟩
  · rw [decide_eq_false (fun e => hx (Prod.mk.inj e).1)]
    go_enter Tryz.func57, Tryz.ntmps57
    go_wp2
    go_ret
    exact ⟨rfl, unhide HB⟩

set_option maxRecDepth 10000 in
set_option maxHeartbeats 1600000 in
theorem indexCoin_some (b off n c : Nat) (l : List CoinD) (q : PtD) (p : Nat) (w : World) (hz : l.length = n) (hn : n ≤ 4096) (hc : ∀ i (h : i < l.length), CoinAt w b (off + i * 6) l[i])
    (h1 : w.cell? ⟨p, 0, none⟩ = some (.int .i64 q.1)) (h2 : w.cell? ⟨p, 1, none⟩ = some (.int .i64 q.2)) :
    Calls Tryz.prog 56 #[.slice (some ⟨b, off, none⟩) n c, .func (.func 57) #[] #[.pointer (some ⟨p, 0, none⟩)]] w fun e w' => e = .returned (.int .i64 (plc q l 0)) ∧ Below w.heap.size w w' := by
  have HC := hide hc
  have HZ := hide hz
  have H1 := hide h1
  have H2 := hide h2
  clear hc hz h1 h2
  go_enter Tryz.func56, Tryz.ntmps56
  go_wp2
  go_loopw [5, 8] (fun _ i wr => ∃ k : Nat, k ≤ n ∧ i = .int .i64 k ∧ Hid (plc q l 0 = plc q (l.drop k) k) ∧ Below w.heap.size w wr) (fun _ i _ => n - (intOf i).toNat)
  case atStart => exact ⟨0, Nat.zero_le _, rfl, rfl, Below.refl _ _⟩
  case round =>
    obtain ⟨k, hk, rfl, A, hb⟩ := hrel
    have HB := hide hb
    by_cases hlt : k < n
    · have hlk : k < l.length := by rw [unhide HZ]; exact hlt
      have hin := CoinAt.kept _ _ _ _ _ hb ((unhide HC) k hlk)
      have S := hide (plc_drop q l k hlk)
      obtain ⟨y, hy⟩ : ∃ y, l[k] = y := ⟨_, rfl⟩
      rw [hy] at hin S
      obtain ⟨ka, kn, kc, g1, g2, g3, g4, g5, g6, _, _⟩ := hin.val
      have C1 : Hid (∀ o, decide (pt y = q) = o → Calls Tryz.prog 57 #[cnV y ka kn kc, .pointer (some ⟨p, 0, none⟩)] wr fun e w' => e = .returned (.bool o) ∧ Below wr.heap.size wr w') :=
        fun o ho => rplace1_is y ka kn kc q p o wr (cell_later hb (unhide H1)) (cell_later hb (unhide H2)) ho
      unfold cnV at C1
      by_cases hs : pt y = q
      · have S2 : Hid (plc q l 0 = k) := by show _ = _; rw [unhide A, unhide S, if_pos hs]
        have C2 := hide ((unhide C1) true (decide_eq_true hs))
        clear S A hs C1 hb hy
        go_wp2_with fail
        refine (unhide C2).mono ?_
        rintro e w' ⟨rfl, hb'⟩
        have HB' := hide (bel_on (unhide HB) hb')
        clear hb'
        go_wp2
        go_ret
        exact ⟨by rw [unhide S2]; rfl, unhide HB'⟩
      · have S2 : Hid (plc q l 0 = plc q (l.drop (k + 1)) (k + 1)) := by show _ = _; rw [unhide A, unhide S, if_neg hs]
        have C2 := hide ((unhide C1) false (decide_eq_false hs))
        clear S A hs C1 hb hy
        go_wp2_with fail
        refine (unhide C2).mono ?_
        rintro e w' ⟨rfl, hb'⟩
        have HB' := hide (bel_on (unhide HB) hb')
        clear hb'
        go_wp2
        go_roundw
        case rel => exact ⟨k + 1, by omega, by go_num, S2, unhide HB'⟩
        case measure => simp [intOf]; omega
    · have S2 : Hid (plc q l 0 = -1) := by
        show _ = _
        rw [unhide A, List.drop_of_length_le (by rw [unhide HZ]; omega)]; rfl
      clear A hb
      go_wp2
      go_ret
      exact ⟨by rw [unhide S2]; rfl, unhide HB⟩

set_option maxHeartbeats 400000 in
theorem indexCoin_none (a : Option Addr) (c : Nat) (v : Value) (w : World) :
    Calls Tryz.prog 56 #[.slice a 0 c, v] w fun e w' => e = .returned (.int .i64 (-1)) ∧ w = w' := by
  go_enter Tryz.func56, Tryz.ntmps56
  go_wp2
  refine wp_loop_rounds 1 ?_
  rw [rounds_succ]
  go_wp2
  go_ret
  exact ⟨rfl, rfl⟩

theorem indexCoin_any (a : Option Addr) (n c : Nat) (l : List CoinD) (q : PtD) (p : Nat) (w : World) (hn : n ≤ 4096) (h : CoinsAt w a n l)
    (h1 : w.cell? ⟨p, 0, none⟩ = some (.int .i64 q.1)) (h2 : w.cell? ⟨p, 1, none⟩ = some (.int .i64 q.2)) :
    Calls Tryz.prog 56 #[.slice a n c, .func (.func 57) #[] #[.pointer (some ⟨p, 0, none⟩)]] w fun e w' => e = .returned (.int .i64 (plc q l 0)) ∧ Below w.heap.size w w' := by
  obtain ⟨hz, hc⟩ := h
  by_cases h0 : n = 0
  · subst h0
    have e : l = [] := List.length_eq_zero_iff.1 hz
    subst e
    exact (indexCoin_none a c _ w).mono fun e w' ⟨q1, q2⟩ => ⟨q1, q2 ▸ Below.refl _ _⟩
  · obtain ⟨b, off, rfl, _, hcell⟩ := hc (by omega)
    exact indexCoin_some b off n c l q p w hz hn hcell h1 h2

set_option maxHeartbeats 800000 in
theorem rplace_any (a : Option Addr) (n c : Nat) (l : List CoinD) (q : PtD) (z : Int) (w : World) (hn : n ≤ 4096) (h : CoinsAt w a n l) (hz : plc q l 0 = z) :
    Calls Tryz.prog 29 #[.slice a n c, .agg #[.int .i64 q.1, .int .i64 q.2]] w fun e w' => e = .returned (.int .i64 z) ∧ Below w.heap.size w w' := by
  subst hz
  have hb := bel_new w (.cells #[.int .i64 q.1, .int .i64 q.2] 50)
  obtain ⟨n0, n1⟩ := two_cells w (.int .i64 q.1) (.int .i64 q.2) 50
  have C := hide (indexCoin_any a n c l q w.heap.size _ hn (h.later hb) n0 n1)
  have HB := hide hb
  clear h hb n0 n1
  go_enter Tryz.func29, Tryz.ntmps29
  go_wp2_with fail
  refine (unhide C).mono ?_
  rintro e w2 ⟨rfl, hb2⟩
  have HB2 := hide (bel_on (unhide HB) hb2)
  clear hb2
  go_wp2
  go_ret
  exact ⟨rfl, unhide HB2⟩

end Go.Proofs.YtakcleadfcelmaaGreat

/- What a sort asks of a comparison and of an exchange that may lay blocks of their own. Nothing of the program. -/
namespace Go.Proofs.YtakcleadfcelmaaGreat
open Go.RowKit

/-- The blocks from B on that were there are as they were. -/
structure Kp (B : Nat) (w w' : World) : Prop where
  size : w.heap.size ≤ w'.heap.size
  same : ∀ b, B ≤ b → b < w.heap.size → w'.heap[b]? = w.heap[b]?
theorem Kp.refl (B : Nat) (w : World) : Kp B w w := ⟨Nat.le_refl _, fun _ _ _ => rfl⟩
theorem Kp.trans {B : Nat} {w1 w2 w3 : World} (h : Kp B w1 w2) (k : Kp B w2 w3) : Kp B w1 w3 :=
  ⟨Nat.le_trans h.size k.size, fun b hb hl => (k.same b hb (Nat.lt_of_lt_of_le hl h.size)).trans (h.same b hb hl)⟩
theorem Kp.alloc (B : Nat) (w : World) (o : Obj) : Kp B w (w.alloc o) :=
  ⟨((Below.refl _ _).alloc (Nat.le_refl _) o : Below w.heap.size w (w.alloc o)).size, fun b _ hl => ((Below.refl _ _).alloc (Nat.le_refl _) o : Below w.heap.size w (w.alloc o)).block b hl⟩
theorem Kp.cell {B : Nat} {w w' : World} (h : Kp B w w') {p : Addr} {v : Value} (hb : B ≤ p.block) (hc : w.cell? p = some v) : w'.cell? p = some v := by
  have hl := World.block_lt_of_cell? w p hc
  have e := h.same p.block hb hl
  simp only [World.cell?] at hc ⊢
  rw [e]
  exact hc

/-- What is asked: the comparison is function g bound to lb, the exchange sf bound to sb; St tells what the row holds. -/
structure Sr {α : Type} [Inhabited α] (P : Program) (g : Nat) (lb : Array Value) (sf : Nat) (sb : Array Value) (lt : α → α → Bool) (n B : Nat) (St : World → Array α → Prop) : Prop where
  order : Sort.SWO lt
  small : n ≤ 4096
  enters : ∀ args w, (callFunc g args).run P w = .ok (.enter g args) w
  less : ∀ w d (i j : Nat), St w d → i < n → j < n → Calls P g (#[.int .i64 i, .int .i64 j] ++ lb) w fun e w' => e = .returned (.bool (lt d[i]! d[j]!)) ∧ St w' d ∧ Kp B w w'
  swap : ∀ w d (i j : Nat), St w d → i < n → j < n → ∃ w', (callFunc sf (#[.int .i64 i, .int .i64 j] ++ sb)).run P w = .ok (.value (.tuple #[])) w' ∧ St w' (Sort.swp d i j) ∧ Kp B w w'
  size : ∀ w d, St w d → d.size = n
  low : ∀ w d, St w d → B ≤ w.heap.size
  alloc : ∀ w d o, St w d → St (w.alloc o) d
  store : ∀ w d b o v, St w d → B ≤ b → St (w.setCell ⟨b, o, none⟩ v) d

def lsV (g : Nat) (lb : Array Value) (sf : Nat) (sb : Array Value) : Value := .agg #[.func (.func g) #[] lb, .func (.func sf) #[] sb]

/-- A box of two cells that has just been laid. -/
theorem box_two (w : World) (x y : Value) (t : TypeId) : (w.alloc (.cells #[x, y] t)).cell? ⟨w.heap.size, 0, none⟩ = some x ∧ (w.alloc (.cells #[x, y] t)).cell? ⟨w.heap.size, 1, none⟩ = some y :=
  ⟨by rw [World.cell?_alloc_at _ _ _ _ rfl]; rfl, by rw [World.cell?_alloc_at _ _ _ _ rfl]; rfl⟩

theorem insOuter_on {α : Type} [Inhabited α] (lt : α → α → Bool) (a b i : Nat) (d : Array α) (h : i < b) : Sort.insOuter lt a b i d = Sort.insOuter lt a b (i + 1) (Sort.insInner lt a i d) := by
  rw [Sort.insOuter, if_pos h]
theorem insOuter_end {α : Type} [Inhabited α] (lt : α → α → Bool) (a b i : Nat) (d : Array α) (h : ¬ i < b) : Sort.insOuter lt a b i d = d := by
  rw [Sort.insOuter, if_neg h]
theorem insInner_on {α : Type} [Inhabited α] (lt : α → α → Bool) (a j : Nat) (d : Array α) (h : a < j) (hl : lt d[j]! d[j - 1]! = true) : Sort.insInner lt a j d = Sort.insInner lt a (j - 1) (Sort.swp d j (j - 1)) := by
  obtain ⟨k, rfl⟩ : ∃ k, j = k + 1 := ⟨j - 1, by omega⟩
  rw [Nat.add_sub_cancel] at hl ⊢
  rw [Sort.insInner, if_pos (by simp [hl, h])]
theorem insInner_end {α : Type} [Inhabited α] (lt : α → α → Bool) (a j : Nat) (d : Array α) (h : j ≤ a ∨ lt d[j]! d[j - 1]! = false) : Sort.insInner lt a j d = d := by
  cases j with
  | zero => rfl
  | succ k =>
    rw [Sort.insInner, if_neg]
    rcases h with h | h
    · simp; omega
    · rw [Nat.add_sub_cancel] at h
      simp [h]

end Go.Proofs.YtakcleadfcelmaaGreat
