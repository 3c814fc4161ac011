/- Contracts of what puts points in order. -/
import Derived.Test.YtakcleadfcelmaaGreatCoinMathToCoinMem
import Derived.Deep.RegionHeld3
import Derived.Test.YtakcleadfcelmaaGreatTxMathToLockRow
namespace Go.Proofs.YtakcleadfcelmaaGreat
open Go.RowKit

def cmpI (x y : Int) : Int := if x < y then -1 else if y < x then 1 else 0

set_option maxHeartbeats 400000 in
theorem isNaN_is (x : Int) (w : World) : Calls Tryz.prog 71 #[.int .i64 x] w fun e w' => e = .returned (.bool false) ∧ w = w' := by
  go_enter Tryz.func71, Tryz.ntmps71
  go_wp2
  go_ret
  exact ⟨rfl, rfl⟩

set_option maxHeartbeats 800000 in
theorem cmpCompare_is (x y : Int) (w : World) : Calls Tryz.prog 53 #[.int .i64 x, .int .i64 y] w fun e w' => e = .returned (.int .i64 (cmpI x y)) ∧ w = w' := by
  have C1 := hide (isNaN_is x)
  have C2 := hide (isNaN_is y)
  by_cases h1 : x < y
  · have e : cmpI x y = -1 := by simp [cmpI, h1]
    rw [e]
    clear e
    go_enter Tryz.func53, Tryz.ntmps53
    go_wp2_with fail
    refine ((unhide C1) _).mono ?_
    rintro e w' ⟨rfl, rfl⟩
    go_wp2_with fail
    refine ((unhide C2) _).mono ?_
    rintro e w' ⟨rfl, rfl⟩
    go_wp2
    go_ret
    exact ⟨rfl, rfl⟩
  · by_cases h2 : y < x
    · have e : cmpI x y = 1 := by simp [cmpI, h1, h2]
      rw [e]
      clear e
      go_enter Tryz.func53, Tryz.ntmps53
      go_wp2_with fail
      refine ((unhide C1) _).mono ?_
      rintro e w' ⟨rfl, rfl⟩
      go_wp2_with fail
      refine ((unhide C2) _).mono ?_
      rintro e w' ⟨rfl, rfl⟩
      go_wp2
      go_ret
      exact ⟨rfl, rfl⟩
    · have e : cmpI x y = 0 := by simp [cmpI, h1, h2]
      rw [e]
      clear e
      go_enter Tryz.func53, Tryz.ntmps53
      go_wp2_with fail
      refine ((unhide C1) _).mono ?_
      rintro e w' ⟨rfl, rfl⟩
      go_wp2_with fail
      refine ((unhide C2) _).mono ?_
      rintro e w' ⟨rfl, rfl⟩
      go_wp2
      go_ret
      exact ⟨rfl, rfl⟩

def orI (x y : Int) : Int := if x = 0 then y else x

set_option maxHeartbeats 800000 in
theorem cmpOr_is (x y : Int) (b c : Nat) (w : World) (h1 : w.cell? ⟨b, 0, none⟩ = some (.int .i64 x)) (h2 : w.cell? ⟨b, 1, none⟩ = some (.int .i64 y)) :
    Calls Tryz.prog 52 #[.slice (some ⟨b, 0, none⟩) 2 c] w fun e w' => e = .returned (.int .i64 (orI x y)) ∧ w = w' := by
  by_cases hx : x = 0
  · subst hx
    by_cases hy : y = 0
    · subst hy
      have e : orI 0 0 = 0 := rfl
      rw [e]
      clear e
      go_enter Tryz.func52, Tryz.ntmps52
      go_wp2
      refine wp_loop_rounds 3 ?_
      rw [rounds_succ]
      go_wp2
      rw [rounds_succ]
      go_wp2
      rw [rounds_succ]
      go_wp2
      go_ret
      exact ⟨rfl, rfl⟩
    · have e : orI 0 y = y := rfl
      rw [e]
      have gy : (y != 0) = true := by simp [hy]
      clear e hy
      go_enter Tryz.func52, Tryz.ntmps52
      go_wp2
      refine wp_loop_rounds 2 ?_
      rw [rounds_succ]
      go_wp2
      rw [rounds_succ]
      go_wp2
      go_ret
      exact ⟨rfl, rfl⟩
  · have e : orI x y = x := by simp [orI, hx]
    rw [e]
    have gx : (x != 0) = true := by simp [hx]
    clear e hx
    go_enter Tryz.func52, Tryz.ntmps52
    go_wp2
    refine wp_loop_rounds 1 ?_
    rw [rounds_succ]
    go_wp2
    go_ret
    exact ⟨rfl, rfl⟩

theorem cmpP_or (p q : PtD) : orI (cmpI p.1 q.1) (cmpI p.2 q.2) = cmpP p q := by
  obtain ⟨a, b⟩ := p
  obtain ⟨c, d⟩ := q
  unfold orI cmpI cmpP lt
  simp only [Bool.or_eq_true, Bool.and_eq_true, decide_eq_true_eq, Prod.mk.injEq]
  repeat' split
  all_goals omega

theorem two_cells (w : World) (x y : Value) (t : TypeId) : (w.alloc (.cells #[x, y] t)).cell? ⟨w.heap.size, 0, none⟩ = some x ∧ (w.alloc (.cells #[x, y] t)).cell? ⟨w.heap.size, 1, none⟩ = some y :=
  ⟨by rw [World.cell?_alloc_at _ _ _ _ rfl]; rfl, by rw [World.cell?_alloc_at _ _ _ _ rfl]; rfl⟩
theorem bel_draw1 (w : World) : Below w.heap.size w w.drew := ⟨rfl, rfl, rfl, Nat.le_refl _, fun _ _ => rfl⟩

set_option maxRecDepth 10000 in
set_option maxHeartbeats 1600000 in
theorem compare_is (p q : PtD) (z : Int) (w : World) (hz : cmpP p q = z) :
    Calls Tryz.prog 24 #[.agg #[.int .i64 p.1, .int .i64 p.2], .agg #[.int .i64 q.1, .int .i64 q.2]] w fun e w' => e = .returned (.int .i64 z) ∧ Below w.heap.size w w' := by
  obtain ⟨a, b⟩ := p
  obtain ⟨c, d⟩ := q
  have e := cmpP_or (a, b) (c, d)
  rw [hz] at e
  simp only at e ⊢
  have E := hide e
  obtain ⟨X, hX⟩ : ∃ X, X = (w.alloc (.cells #[.int .i64 a, .int .i64 b] 50)).alloc (.cells #[.int .i64 c, .int .i64 d] 50) := ⟨_, rfl⟩
  have HB : Hid (Below w.heap.size w X) := by rw [hX]; exact (bel_on (bel_new w (.cells #[.int .i64 a, .int .i64 b] 50)) (bel_new _ (.cells #[.int .i64 c, .int .i64 d] 50)))
  have x0 : X.cell? ⟨w.heap.size, 0, none⟩ = some (.int .i64 a) := by rw [hX]; exact cell_later (bel_new _ _) (two_cells w _ _ _).1
  have x1 : X.cell? ⟨w.heap.size, 1, none⟩ = some (.int .i64 b) := by rw [hX]; exact cell_later (bel_new _ _) (two_cells w _ _ _).2
  have x2 : X.cell? ⟨w.heap.size + 1, 0, none⟩ = some (.int .i64 c) := by rw [hX]; have := (two_cells (w.alloc (.cells #[.int .i64 a, .int .i64 b] 50)) (.int .i64 c) (.int .i64 d) 50).1; simp at this ⊢
  have x3 : X.cell? ⟨w.heap.size + 1, 1, none⟩ = some (.int .i64 d) := by rw [hX]; have := (two_cells (w.alloc (.cells #[.int .i64 a, .int .i64 b] 50)) (.int .i64 c) (.int .i64 d) 50).2; simp at this ⊢
  clear hz e
  go_enter Tryz.func24, Tryz.ntmps24
  go_wp2_with fail
  rw [← hX]
  clear hX
  go_region_held3 (fun w' => Below X.heap.size X w' ∧ w'.cell? ⟨w.heap.size, 0, none⟩ = some (.int .i64 a) ∧ w'.cell? ⟨w.heap.size, 1, none⟩ = some (.int .i64 b) ∧ w'.cell? ⟨w.heap.size + 1, 0, none⟩ = some (.int .i64 c) ∧ w'.cell? ⟨w.heap.size + 1, 1, none⟩ = some (.int .i64 d))
    (first
    | exact ⟨bel_draw1 _, x0, x1, x2, x3⟩
    | (go_split_ands
       exact ⟨by assumption, by assumption, by assumption, by assumption, by assumption⟩)
    | (go_split_ands
       exact ⟨bel_on (by assumption) (bel_new _ _), cell_later (bel_new _ _) (by assumption), cell_later (bel_new _ _) (by assumption), cell_later (bel_new _ _) (by assumption), cell_later (bel_new _ _) (by assumption)⟩))
    (first
    | (go_at_call 53; refine (cmpCompare_is _ _ _).mono ?_; rintro e w' ⟨rfl, rfl⟩)
    | (go_at_call 52; refine (cmpOr_is (cmpI a c) (cmpI b d) _ 2 _ ?_ ?_).mono ?_; exact (two_cells _ _ _ _).1; exact (two_cells _ _ _ _).2; rintro e w' ⟨rfl, rfl⟩))
  rename_i hH
  have HH := hide (bel_on (unhide HB) hH.1)
  clear hH
  go_wp2
  go_ret
  exact ⟨by rw [← unhide E]; rfl, unhide HH⟩

end Go.Proofs.YtakcleadfcelmaaGreat

/- The contracts of coin.Check and coin.Sum. -/
namespace Go.Proofs.YtakcleadfcelmaaGreat
open Go.RowKit

set_option maxHeartbeats 400000 in
theorem amount_yes (n : Int) (w : World) (h1 : 0 ≤ n) (h2 : n ≤ 1000000000) :
    Calls Tryz.prog 123 #[.int .i64 n] w fun e w' => e = .returned (.int .i64 0) ∧ w = w' := by
  go_enter Tryz.func123, Tryz.ntmps123
  go_wp2_with (go_at_call 41; refine (within_yes _ _ _ _ h1 h2).mono ?_; rintro e w' ⟨rfl, rfl⟩)
  go_ret
  exact ⟨rfl, rfl⟩
set_option maxHeartbeats 400000 in
theorem amount_no (n : Int) (w : World) (h : n < 0 ∨ 1000000000 < n) :
    Calls Tryz.prog 123 #[.int .i64 n] w fun e w' => e = .returned (.int .i64 3) ∧ w = w' := by
  go_enter Tryz.func123, Tryz.ntmps123
  go_wp2_with (go_at_call 41; refine (within_no _ _ _ _ h).mono ?_; rintro e w' ⟨rfl, rfl⟩)
  go_ret
  exact ⟨rfl, rfl⟩

set_option maxHeartbeats 800000 in
theorem sum_any (a : Option Addr) (len cap : Nat) (Z : List Int) (w : World) (h : RowAt w a len Z) :
    Calls Tryz.prog 112 #[.slice a len cap] w fun e w' => e = .returned (.tuple #[.int .i64 (sm 0 Z).1, .int .i64 (sm 0 Z).2]) ∧ w = w' := by
  obtain ⟨hz, hm, hc⟩ := h
  unfold maxLen at hm
  rcases Nat.eq_zero_or_pos len with h0 | h0
  · subst h0
    have HZ : Hid (Z = []) := List.eq_nil_of_length_eq_zero hz
    clear hz hc hm
    go_enter Tryz.func112, Tryz.ntmps112
    go_wp2
    refine wp_loop_rounds 1 ?_
    rw [rounds_succ]
    go_wp2
    go_ret2
    rw [HZ.out]
    exact ⟨rfl, rfl⟩
  · obtain ⟨b, off, rfl, hcell⟩ := hc h0
    have HC : Hid (∀ i, i < len → w.cell? ⟨b, off + i, none⟩ = some (.int .i64 (Z.getD i 0))) := hcell
    clear hc hcell
    go_enter Tryz.func112, Tryz.ntmps112
    go_wp2
    go_loop [4, 10] (fun s i => ∃ (k : Nat) (x : Int), k ≤ len ∧ i = .int .i64 k ∧ s = .int .i64 x ∧ 0 ≤ x ∧ x ≤ 1000000000 ∧ Hid (sm 0 Z = sm x (Z.drop k))) (fun _ i => len - (intOf i).toNat)
    case atStart => exact ⟨0, 0, Nat.zero_le _, rfl, rfl, by decide, by decide, by exact rfl⟩
    case round =>
      obtain ⟨k, x, hk, rfl, rfl, hx0, hx1, HS⟩ := hrel
      by_cases hlt : k < len
      · have hck := HC.out k hlt
        generalize hv : Z.getD k 0 = v at hck
        have HV : Hid (Z.getD k 0 = v) := hv
        clear hv
        by_cases hr : v < 0 ∨ 1000000000 < v
        · go_wp2_with (go_at_call 123; refine (amount_no _ _ hr).mono ?_; rintro e w' ⟨rfl, rfl⟩)
          go_ret2
          rw [HS.out, sm_range x Z k (by omega) (by rw [HV.out]; exact hr)]
          exact ⟨rfl, rfl⟩
        · have hr1 : 0 ≤ v := by omega
          have hr2 : v ≤ 1000000000 := by omega
          clear hr
          by_cases hf : 1000000000 < x + v
          · go_wp2_with fail
            refine (amount_yes _ _ hr1 hr2).mono ?_
            rintro e w' ⟨rfl, rfl⟩
            go_wp2_with fail
            refine (amount_no _ _ (.inr hf)).mono ?_
            rintro e w' ⟨rfl, rfl⟩
            go_wp2
            go_ret2
            rw [HS.out, sm_full x Z k (by omega) (by rw [HV.out]; exact hr1) (by rw [HV.out]; exact hr2) (by rw [HV.out]; exact hf)]
            exact ⟨rfl, rfl⟩
          · have hf2 : x + v ≤ 1000000000 := by omega
            have hf1 : 0 ≤ x + v := by omega
            clear hf
            go_wp2_with fail
            refine (amount_yes _ _ hr1 hr2).mono ?_
            rintro e w' ⟨rfl, rfl⟩
            go_wp2_with fail
            refine (amount_yes _ _ hf1 hf2).mono ?_
            rintro e w' ⟨rfl, rfl⟩
            go_wp2
            go_round
            case rel =>
              refine ⟨k + 1, x + v, by omega, by go_num, rfl, by omega, by omega, ?_⟩
              show sm 0 Z = _
              rw [HS.out, sm_step x Z k (by omega) (by rw [HV.out]; exact hr1) (by rw [HV.out]; exact hr2) (by rw [HV.out]; exact hf2), HV.out]
            case measure => simp [intOf]; omega
      · go_wp2
        go_ret2
        rw [HS.out, sm_end x Z k (by omega)]
        exact ⟨rfl, rfl⟩

end Go.Proofs.YtakcleadfcelmaaGreat
