/- Contracts of what puts points in order. -/
import Derived.Test.YtakcleadfcelmaaGreatCoinMathToCoinMem
import Derived.Deep.RegionHeld3
import Derived.Test.YtakcleadfcelmaaGreatLockMathToTxMath
import Derived.Test.YtakcleadfcelmaaGreatLockBaseToTxMem
namespace Go.Proofs.YtakcleadfcelmaaGreat
open Go.RowKit

def cmpI (x y : Int) : Int := if x < y then -1 else if y < x then 1 else 0

set_option maxHeartbeats 400000 in
theorem isNaN_is (x : Int) (w : World) : Calls Tryz.prog 71 #[.int .i64 x] w fun e w' => e = .returned (.bool false) ∧ w = w' := by
  go_enter Tryz.func71, Tryz.ntmps71
  go_wp2
  go_ret
  exact ⟨rfl, rfl⟩

set_option maxHeartbeats 800000 in
theorem cmpCompare_is (x y : Int) (w : World) : Calls Tryz.prog 53 #[.int .i64 x, .int .i64 y] w fun e w' => e = .returned (.int .i64 (cmpI x y)) ∧ w = w' := by
  have C1 := hide (isNaN_is x)
  have C2 := hide (isNaN_is y)
  by_cases h1 : x < y
  · have e : cmpI x y = -1 := by simp [cmpI, h1]
    rw [e]
    clear e
    go_enter Tryz.func53, Tryz.ntmps53
    go_wp2_with fail
    refine ((unhide C1) _).mono ?_
    rintro e w' ⟨rfl, rfl⟩
    go_wp2_with fail
    refine ((unhide C2) _).mono ?_
    rintro e w' ⟨rfl, rfl⟩
    go_wp2
    go_ret
    exact ⟨rfl, rfl⟩
  · by_cases h2 : y < x
    · have e : cmpI x y = 1 := by simp [cmpI, h1, h2]
      rw [e]
      clear e
      go_enter Tryz.func53, Tryz.ntmps53
      go_wp2_with fail
      refine ((unhide C1) _).mono ?_
      rintro e w' ⟨rfl, rfl⟩
      go_wp2_with fail
      refine ((unhide C2) _).mono ?_
      rintro e w' ⟨rfl, rfl⟩
      go_wp2
      go_ret
      exact ⟨rfl, rfl⟩
    · have e : cmpI x y = 0 := by simp [cmpI, h1, h2]
      rw [e]
      clear e
      go_enter Tryz.func53, Tryz.ntmps53
      go_wp2_with fail
      refine ((unhide C1) _).mono ?_
      rintro e w' ⟨rfl, rfl⟩
      go_wp2_with fail
      refine ((unhide C2) _).mono ?_
      rintro e w' ⟨rfl, rfl⟩
      go_wp2
      go_ret
      exact ⟨rfl, rfl⟩

def orI (x y : Int) : Int := if x = 0 then y else x

set_option maxHeartbeats 800000 in
theorem cmpOr_is (x y : Int) (b c : Nat) (w : World) (h1 : w.cell? ⟨b, 0, none⟩ = some (.int .i64 x)) (h2 : w.cell? ⟨b, 1, none⟩ = some (.int .i64 y)) :
    Calls Tryz.prog 52 #[.slice (some ⟨b, 0, none⟩) 2 c] w fun e w' => e = .returned (.int .i64 (orI x y)) ∧ w = w' := by
  by_cases hx : x = 0
  · subst hx
    by_cases hy : y = 0
    · subst hy
      have e : orI 0 0 = 0 := rfl
      rw [e]
      clear e
      go_enter Tryz.func52, Tryz.ntmps52
      go_wp2
      refine wp_loop_rounds 3 ?_
      rw [rounds_succ]
      go_wp2
      rw [rounds_succ]
      go_wp2
      rw [rounds_succ]
      go_wp2
      go_ret
      exact ⟨rfl, rfl⟩
    · have e : orI 0 y = y := rfl
      rw [e]
      have gy : (y != 0) = true := by simp [hy]
      clear e hy
      go_enter Tryz.func52, Tryz.ntmps52
      go_wp2
      refine wp_loop_rounds 2 ?_
      rw [rounds_succ]
      go_wp2
      rw [rounds_succ]
      go_wp2
      go_ret
      exact ⟨rfl, rfl⟩
  · have e : orI x y = x := by simp [orI, hx]
    rw [e]
    have gx : (x != 0) = true := by simp [hx]
    clear e hx
    go_enter Tryz.func52, Tryz.ntmps52
    go_wp2
    refine wp_loop_rounds 1 ?_
    rw [rounds_succ]
    go_wp2
    go_ret
    exact ⟨rfl, rfl⟩

theorem cmpP_or (p q : PtD) : orI (cmpI p.1 q.1) (cmpI p.2 q.2) = cmpP p q := by
  obtain ⟨a, b⟩ := p
  obtain ⟨c, d⟩ := q
  unfold orI cmpI cmpP lt
  simp only [Bool.or_eq_true, Bool.and_eq_true, decide_eq_true_eq, Prod.mk.injEq]
  repeat' split
  all_goals omega

theorem two_cells (w : World) (x y : Value) (t : TypeId) : (w.alloc (.cells #[x, y] t)).cell? ⟨w.heap.size, 0, none⟩ = some x ∧ (w.alloc (.cells #[x, y] t)).cell? ⟨w.heap.size, 1, none⟩ = some y :=
  ⟨by rw [World.cell?_alloc_at _ _ _ _ rfl]; rfl, by rw [World.cell?_alloc_at _ _ _ _ rfl]; rfl⟩
theorem bel_draw1 (w : World) : Below w.heap.size w w.drew := ⟨rfl, rfl, rfl, Nat.le_refl _, fun _ _ => rfl⟩

set_option maxRecDepth 10000 in
set_option maxHeartbeats 1600000 in
theorem compare_is (p q : PtD) (z : Int) (w : World) (hz : cmpP p q = z) :
    Calls Tryz.prog 24 #[.agg #[.int .i64 p.1, .int .i64 p.2], .agg #[.int .i64 q.1, .int .i64 q.2]] w fun e w' => e = .returned (.int .i64 z) ∧ Below w.heap.size w w' := by
  obtain ⟨a, b⟩ := p
  obtain ⟨c, d⟩ := q
  have e := cmpP_or (a, b) (c, d)
  rw [hz] at e
  simp only at e ⊢
  have E := hide e
  obtain ⟨X, hX⟩ : ∃ X, X = (w.alloc (.cells #[.int .i64 a, .int .i64 b] 50)).alloc (.cells #[.int .i64 c, .int .i64 d] 50) := ⟨_, rfl⟩
  have HB : Hid (Below w.heap.size w X) := by rw [hX]; exact (bel_on (bel_new w (.cells #[.int .i64 a, .int .i64 b] 50)) (bel_new _ (.cells #[.int .i64 c, .int .i64 d] 50)))
  have x0 : X.cell? ⟨w.heap.size, 0, none⟩ = some (.int .i64 a) := by rw [hX]; exact cell_later (bel_new _ _) (two_cells w _ _ _).1
  have x1 : X.cell? ⟨w.heap.size, 1, none⟩ = some (.int .i64 b) := by rw [hX]; exact cell_later (bel_new _ _) (two_cells w _ _ _).2
  have x2 : X.cell? ⟨w.heap.size + 1, 0, none⟩ = some (.int .i64 c) := by rw [hX]; have := (two_cells (w.alloc (.cells #[.int .i64 a, .int .i64 b] 50)) (.int .i64 c) (.int .i64 d) 50).1; simp at this ⊢
  have x3 : X.cell? ⟨w.heap.size + 1, 1, none⟩ = some (.int .i64 d) := by rw [hX]; have := (two_cells (w.alloc (.cells #[.int .i64 a, .int .i64 b] 50)) (.int .i64 c) (.int .i64 d) 50).2; simp at this ⊢
  clear hz e
  go_enter Tryz.func24, Tryz.ntmps24
  go_wp2_with fail
  rw [← hX]
  clear hX
  go_region_held3 (fun w' => Below X.heap.size X w' ∧ w'.cell? ⟨w.heap.size, 0, none⟩ = some (.int .i64 a) ∧ w'.cell? ⟨w.heap.size, 1, none⟩ = some (.int .i64 b) ∧ w'.cell? ⟨w.heap.size + 1, 0, none⟩ = some (.int .i64 c) ∧ w'.cell? ⟨w.heap.size + 1, 1, none⟩ = some (.int .i64 d))
    (first
    | exact ⟨bel_draw1 _, x0, x1, x2, x3⟩
    | (go_split_ands
       exact ⟨by assumption, by assumption, by assumption, by assumption, by assumption⟩)
    | (go_split_ands
       exact ⟨bel_on (by assumption) (bel_new _ _), cell_later (bel_new _ _) (by assumption), cell_later (bel_new _ _) (by assumption), cell_later (bel_new _ _) (by assumption), cell_later (bel_new _ _) (by assumption)⟩))
    (first
    | (go_at_call 53; refine (cmpCompare_is _ _ _).mono ?_; rintro e w' ⟨rfl, rfl⟩)
    | (go_at_call 52; refine (cmpOr_is (cmpI a c) (cmpI b d) _ 2 _ ?_ ?_).mono ?_; exact (two_cells _ _ _ _).1; exact (two_cells _ _ _ _).2; rintro e w' ⟨rfl, rfl⟩))
  rename_i hH
  have HH := hide (bel_on (unhide HB) hH.1)
  clear hH
  go_wp2
  go_ret
  exact ⟨by rw [← unhide E]; rfl, unhide HH⟩

end Go.Proofs.YtakcleadfcelmaaGreat

/- The contracts of coin.Check and coin.Sum. -/
namespace Go.Proofs.YtakcleadfcelmaaGreat
open Go.RowKit

set_option maxHeartbeats 400000 in
theorem amount_yes (n : Int) (w : World) (h1 : 0 ≤ n) (h2 : n ≤ 1000000000) :
    Calls Tryz.prog 123 #[.int .i64 n] w fun e w' => e = .returned (.int .i64 0) ∧ w = w' := by
  go_enter Tryz.func123, Tryz.ntmps123
  go_wp2_with (go_at_call 41; refine (within_yes _ _ _ _ h1 h2).mono ?_; rintro e w' ⟨rfl, rfl⟩)
  go_ret
  exact ⟨rfl, rfl⟩
set_option maxHeartbeats 400000 in
theorem amount_no (n : Int) (w : World) (h : n < 0 ∨ 1000000000 < n) :
    Calls Tryz.prog 123 #[.int .i64 n] w fun e w' => e = .returned (.int .i64 3) ∧ w = w' := by
  go_enter Tryz.func123, Tryz.ntmps123
  go_wp2_with (go_at_call 41; refine (within_no _ _ _ _ h).mono ?_; rintro e w' ⟨rfl, rfl⟩)
  go_ret
  exact ⟨rfl, rfl⟩

set_option maxHeartbeats 800000 in
theorem sum_any (a : Option Addr) (len cap : Nat) (Z : List Int) (w : World) (h : RowAt w a len Z) :
    Calls Tryz.prog 112 #[.slice a len cap] w fun e w' => e = .returned (.tuple #[.int .i64 (sm 0 Z).1, .int .i64 (sm 0 Z).2]) ∧ w = w' := by
  obtain ⟨hz, hm, hc⟩ := h
  unfold maxLen at hm
  rcases Nat.eq_zero_or_pos len with h0 | h0
  · subst h0
    have HZ : Hid (Z = []) := List.eq_nil_of_length_eq_zero hz
    clear hz hc hm
    go_enter Tryz.func112, Tryz.ntmps112
    go_wp2
    refine wp_loop_rounds 1 ?_
    rw [rounds_succ]
    go_wp2
    go_ret2
    rw [HZ.out]
    exact ⟨rfl, rfl⟩
  · obtain ⟨b, off, rfl, hcell⟩ := hc h0
    have HC : Hid (∀ i, i < len → w.cell? ⟨b, off + i, none⟩ = some (.int .i64 (Z.getD i 0))) := hcell
    clear hc hcell
    go_enter Tryz.func112, Tryz.ntmps112
    go_wp2
    go_loop [4, 10] (fun s i => ∃ (k : Nat) (x : Int), k ≤ len ∧ i = .int .i64 k ∧ s = .int .i64 x ∧ 0 ≤ x ∧ x ≤ 1000000000 ∧ Hid (sm 0 Z = sm x (Z.drop k))) (fun _ i => len - (intOf i).toNat)
    case atStart => exact ⟨0, 0, Nat.zero_le _, rfl, rfl, by decide, by decide, by exact rfl⟩
    case round =>
      obtain ⟨k, x, hk, rfl, rfl, hx0, hx1, HS⟩ := hrel
      by_cases hlt : k < len
      · have hck := HC.out k hlt
        generalize hv : Z.getD k 0 = v at hck
        have HV : Hid (Z.getD k 0 = v) := hv
        clear hv
        by_cases hr : v < 0 ∨ 1000000000 < v
        · go_wp2_with (go_at_call 123; refine (amount_no _ _ hr).mono ?_; rintro e w' ⟨rfl, rfl⟩)
          go_ret2
          rw [HS.out, sm_range x Z k (by omega) (by rw [HV.out]; exact hr)]
          exact ⟨rfl, rfl⟩
        · have hr1 : 0 ≤ v := by omega
          have hr2 : v ≤ 1000000000 := by omega
          clear hr
          by_cases hf : 1000000000 < x + v
          · go_wp2_with fail
            refine (amount_yes _ _ hr1 hr2).mono ?_
            rintro e w' ⟨rfl, rfl⟩
            go_wp2_with fail
            refine (amount_no _ _ (.inr hf)).mono ?_
            rintro e w' ⟨rfl, rfl⟩
            go_wp2
            go_ret2
            rw [HS.out, sm_full x Z k (by omega) (by rw [HV.out]; exact hr1) (by rw [HV.out]; exact hr2) (by rw [HV.out]; exact hf)]
            exact ⟨rfl, rfl⟩
          · have hf2 : x + v ≤ 1000000000 := by omega
            have hf1 : 0 ≤ x + v := by omega
            clear hf
            go_wp2_with fail
            refine (amount_yes _ _ hr1 hr2).mono ?_
            rintro e w' ⟨rfl, rfl⟩
            go_wp2_with fail
            refine (amount_yes _ _ hf1 hf2).mono ?_
            rintro e w' ⟨rfl, rfl⟩
            go_wp2
            go_round
            case rel =>
              refine ⟨k + 1, x + v, by omega, by go_num, rfl, by omega, by omega, ?_⟩
              show sm 0 Z = _
              rw [HS.out, sm_step x Z k (by omega) (by rw [HV.out]; exact hr1) (by rw [HV.out]; exact hr2) (by rw [HV.out]; exact hf2), HV.out]
            case measure => simp [intOf]; omega
      · go_wp2
        go_ret2
        rw [HS.out, sm_end x Z k (by omega)]
        exact ⟨rfl, rfl⟩

end Go.Proofs.YtakcleadfcelmaaGreat

/- Contracts of what checks a transaction: its points, its ins, its outs. -/
namespace Go.Proofs.YtakcleadfcelmaaGreat
open Go.RowKit

set_option maxHeartbeats 800000 in
theorem isPoint_is (x y : Int) (b : Bool) (w : World) (hb : ((decide (1 ≤ x) && decide (x ≤ 120)) && (decide (0 ≤ y) && decide (y ≤ 5))) = b) :
    Calls Tryz.prog 50 #[.agg #[.int .i64 x, .int .i64 y]] w fun e w' => e = .returned (.bool b) ∧ Below w.heap.size w w' := by
  have HB := hide (bel_new w (.cells #[.int .i64 x, .int .i64 y] 50))
  by_cases h1 : 1 ≤ x ∧ x ≤ 120
  · have e1 : (decide (1 ≤ x) && decide (x ≤ 120)) = true := by simp [h1.1, h1.2]
    obtain ⟨c, hc⟩ : ∃ c, (decide (0 ≤ y) && decide (y ≤ 5)) = c := ⟨_, rfl⟩
    rw [e1, hc, Bool.true_and] at hb
    subst hb
    have C1 : Hid (∀ w, Calls Tryz.prog 41 #[.int .i64 x, .int .i64 1, .int .i64 120] w fun e w' => e = .returned (.bool true) ∧ w = w') := fun w => within_is x 1 120 true w e1.symm
    have C2 : Hid (∀ w, Calls Tryz.prog 41 #[.int .i64 y, .int .i64 0, .int .i64 5] w fun e w' => e = .returned (.bool c) ∧ w = w') := fun w => within_is y 0 5 c w hc.symm
    clear e1 hc h1
    go_enter Tryz.func50, Tryz.ntmps50
    go_wp2_with fail
    refine ((unhide C1) _).mono ?_
    rintro e w' ⟨rfl, rfl⟩
    go_wp2_with fail
    refine ((unhide C2) _).mono ?_
    rintro e w' ⟨rfl, rfl⟩
    go_wp2
    go_ret
    exact ⟨rfl, unhide HB⟩
  · have e1 : (decide (1 ≤ x) && decide (x ≤ 120)) = false := by
      rw [Bool.and_eq_false_iff, decide_eq_false_iff_not, decide_eq_false_iff_not]; omega
    rw [e1, Bool.false_and] at hb
    subst hb
    have C1 : Hid (∀ w, Calls Tryz.prog 41 #[.int .i64 x, .int .i64 1, .int .i64 120] w fun e w' => e = .returned (.bool false) ∧ w = w') := fun w => within_is x 1 120 false w e1.symm
    clear e1 h1
    go_enter Tryz.func50, Tryz.ntmps50
    go_wp2_with fail
    refine ((unhide C1) _).mono ?_
    rintro e w' ⟨rfl, rfl⟩
    go_wp2
    go_ret
    exact ⟨rfl, unhide HB⟩

set_option maxRecDepth 10000 in
set_option maxHeartbeats 800000 in
theorem sameP_is (x y x' y' : Int) (a : Option Addr) (n c : Nat) (p : Nat) (b : Bool) (w : World) (h1 : w.cell? ⟨p, 0, none⟩ = some (.int .i64 x')) (h2 : w.cell? ⟨p, 1, none⟩ = some (.int .i64 y')) (hp : p < w.heap.size)
    (hb : (decide (x = x') && decide (y = y')) = b) :
    Calls Tryz.prog 111 #[.agg #[.int .i64 x, .int .i64 y, .slice a n c], .pointer (some ⟨p, 0, none⟩)] w fun e w' => e = .returned (.bool b) ∧ Below w.heap.size w w' := by
  subst hb
  have HB := hide (bel_new w (.cells #[.int .i64 x, .int .i64 y, .slice a n c] 61))
  by_cases hx : x = x'
  · subst hx
    by_cases hy : y = y'
    · subst hy
      rw [decide_eq_true rfl, decide_eq_true rfl]
      go_enter Tryz.func111, Tryz.ntmps111
      go_wp2
      go_ret
      exact ⟨rfl, unhide HB⟩
    · rw [decide_eq_true rfl, decide_eq_false hy]
      go_enter Tryz.func111, Tryz.ntmps111
      go_wp2
      go_ret
      exact ⟨rfl, unhide HB⟩
  · rw [decide_eq_false hx, Bool.false_and]
    go_enter Tryz.func111, Tryz.ntmps111
    go_wp2
    go_ret
    exact ⟨rfl, unhide HB⟩

/-- The first place of a row at which an in has this point, or -1. -/
def ptAt (x : InD) : List InD → Nat → Int
  | [], _ => -1
  | y :: r, k => if samePt x y then k else ptAt x r (k + 1)
theorem ptAt_ge (x : InD) : ∀ (l : List InD) (k : Nat), decide (0 ≤ ptAt x l k) = l.any (samePt x)
  | [], _ => rfl
  | y :: r, k => by
    unfold ptAt
    by_cases h : samePt x y = true
    · rw [if_pos h]; simp [h]
    · rw [if_neg h, ptAt_ge x r (k + 1)]; simp [h]
theorem ptAt_drop (x : InD) (l : List InD) (k : Nat) (h : k < l.length) : ptAt x (l.drop k) k = if samePt x l[k] then (k : Int) else ptAt x (l.drop (k + 1)) (k + 1) := by
  rw [List.drop_eq_getElem_cons h]; rfl

set_option maxRecDepth 10000 in
set_option maxHeartbeats 1600000 in
theorem indexIn_some (b off n c : Nat) (l : List InD) (x : InD) (p : Nat) (w : World) (hz : l.length = n) (hn : n ≤ 6) (hc : ∀ i (h : i < l.length), InAt w b (off + i * 3) l[i])
    (h1 : w.cell? ⟨p, 0, none⟩ = some (.int .i64 x.1)) (h2 : w.cell? ⟨p, 1, none⟩ = some (.int .i64 x.2.1)) :
    Calls Tryz.prog 122 #[.slice (some ⟨b, off, none⟩) n c, .func (.func 111) #[] #[.pointer (some ⟨p, 0, none⟩)]] w fun e w' => e = .returned (.int .i64 (ptAt x l 0)) ∧ Below w.heap.size w w' := by
  have HC := hide hc
  have HZ := hide hz
  have H1 := hide h1
  have H2 := hide h2
  clear hc hz h1 h2
  go_enter Tryz.func122, Tryz.ntmps122
  go_wp2
  go_loopw [5, 8] (fun _ i wr => ∃ k : Nat, k ≤ n ∧ i = .int .i64 k ∧ Hid (ptAt x l 0 = ptAt x (l.drop k) k) ∧ Below w.heap.size w wr) (fun _ i _ => n - (intOf i).toNat)
  case atStart => exact ⟨0, Nat.zero_le _, rfl, rfl, Below.refl _ _⟩
  case round =>
    obtain ⟨k, hk, rfl, A, hb⟩ := hrel
    have HB := hide hb
    by_cases hlt : k < n
    · have hlk : k < l.length := by rw [unhide HZ]; exact hlt
      have hin := InAt.kept _ _ _ _ _ hb ((unhide HC) k hlk)
      have S := hide (ptAt_drop x l k hlk)
      obtain ⟨y, hy⟩ : ∃ y, l[k] = y := ⟨_, rfl⟩
      rw [hy] at hin S
      obtain ⟨g1, g2, ka, kn, kc, g3, _, _⟩ := hin
      have C1 : Hid (∀ q, samePt x y = q → Calls Tryz.prog 111 #[.agg #[.int .i64 y.1, .int .i64 y.2.1, .slice ka kn kc], .pointer (some ⟨p, 0, none⟩)] wr fun e w' => e = .returned (.bool q) ∧ Below wr.heap.size wr w') :=
        fun q hq => sameP_is y.1 y.2.1 x.1 x.2.1 ka kn kc p q wr (cell_later hb (unhide H1)) (cell_later hb (unhide H2)) (World.block_lt_of_cell? _ _ (cell_later hb (unhide H1))) hq
      by_cases hs : samePt x y = true
      · have S2 : Hid (ptAt x l 0 = k) := by show _ = _; rw [unhide A, unhide S, if_pos hs]
        have C2 := hide ((unhide C1) true hs)
        clear S A hs C1 hb hy
        go_wp2_with fail
        refine (unhide C2).mono ?_
        rintro e w' ⟨rfl, hb'⟩
        have HB' := hide (bel_on (unhide HB) hb')
        clear hb'
        go_wp2
        go_ret
        exact ⟨by rw [unhide S2]; rfl, unhide HB'⟩
      · have hs' : samePt x y = false := by simpa using hs
        have S2 : Hid (ptAt x l 0 = ptAt x (l.drop (k + 1)) (k + 1)) := by show _ = _; rw [unhide A, unhide S, if_neg hs]
        have C2 := hide ((unhide C1) false hs')
        clear S A hs hs' C1 hb hy
        go_wp2_with fail
        refine (unhide C2).mono ?_
        rintro e w' ⟨rfl, hb'⟩
        have HB' := hide (bel_on (unhide HB) hb')
        clear hb'
        go_wp2
        go_roundw
        case rel => exact ⟨k + 1, by omega, by go_num, S2, unhide HB'⟩
        case measure => simp [intOf]; omega
    · have S2 : Hid (ptAt x l 0 = -1) := by
        show _ = _
        rw [unhide A, List.drop_of_length_le (by rw [unhide HZ]; omega)]; rfl
      clear A hb
      go_wp2
      go_ret
      exact ⟨by rw [unhide S2]; rfl, unhide HB⟩

set_option maxHeartbeats 400000 in
theorem indexIn_none (a : Option Addr) (c : Nat) (v : Value) (w : World) :
    Calls Tryz.prog 122 #[.slice a 0 c, v] w fun e w' => e = .returned (.int .i64 (-1)) ∧ w = w' := by
  go_enter Tryz.func122, Tryz.ntmps122
  go_wp2
  refine wp_loop_rounds 1 ?_
  rw [rounds_succ]
  go_wp2
  go_ret
  exact ⟨rfl, rfl⟩

theorem indexIn_any (a : Option Addr) (n c : Nat) (l : List InD) (x : InD) (p : Nat) (w : World) (hn : n ≤ 6) (h : InsAt w a n l)
    (h1 : w.cell? ⟨p, 0, none⟩ = some (.int .i64 x.1)) (h2 : w.cell? ⟨p, 1, none⟩ = some (.int .i64 x.2.1)) :
    Calls Tryz.prog 122 #[.slice a n c, .func (.func 111) #[] #[.pointer (some ⟨p, 0, none⟩)]] w fun e w' => e = .returned (.int .i64 (ptAt x l 0)) ∧ Below w.heap.size w w' := by
  obtain ⟨hz, hc⟩ := h
  by_cases h0 : n = 0
  · subst h0
    have e : l = [] := List.length_eq_zero_iff.1 hz
    subst e
    exact (indexIn_none a c _ w).mono fun e w' ⟨q1, q2⟩ => ⟨q1, q2 ▸ Below.refl _ _⟩
  · obtain ⟨b, off, rfl, _, hcell⟩ := hc (by omega)
    exact indexIn_some b off n c l x p w hz hn hcell h1 h2

set_option maxHeartbeats 400000 in
theorem containsIn_is (a : Option Addr) (n c : Nat) (l : List InD) (x : InD) (p : Nat) (o : Bool) (w : World) (hn : n ≤ 6) (h : InsAt w a n l)
    (h1 : w.cell? ⟨p, 0, none⟩ = some (.int .i64 x.1)) (h2 : w.cell? ⟨p, 1, none⟩ = some (.int .i64 x.2.1)) (ho : l.any (samePt x) = o) :
    Calls Tryz.prog 110 #[.slice a n c, .func (.func 111) #[] #[.pointer (some ⟨p, 0, none⟩)]] w fun e w' => e = .returned (.bool o) ∧ Below w.heap.size w w' := by
  have E : Hid (decide (0 ≤ ptAt x l 0) = o) := by show _ = _; rw [ptAt_ge, ho]
  have C := indexIn_any a n c l x p w hn h h1 h2
  obtain ⟨z, hz⟩ : ∃ z, ptAt x l 0 = z := ⟨_, rfl⟩
  rw [hz] at C E
  have CC := hide C
  clear C hz h ho h1 h2
  cases o with
  | true =>
    have h0 : 0 ≤ z := of_decide_eq_true (unhide E)
    go_enter Tryz.func110, Tryz.ntmps110
    go_wp2_with fail
    refine (unhide CC).mono ?_
    rintro e w' ⟨rfl, hb⟩
    have HB := hide hb
    clear hb
    go_wp2
    go_ret
    exact ⟨rfl, unhide HB⟩
  | false =>
    have h2 : decide (0 ≤ z) = false := unhide E
    have h1 : z < 0 := by have := of_decide_eq_false h2; omega
    go_enter Tryz.func110, Tryz.ntmps110
    go_wp2_with fail
    refine (unhide CC).mono ?_
    rintro e w' ⟨rfl, hb⟩
    have HB := hide hb
    clear hb
    go_wp2
    go_ret
    exact ⟨rfl, unhide HB⟩

end Go.Proofs.YtakcleadfcelmaaGreat
