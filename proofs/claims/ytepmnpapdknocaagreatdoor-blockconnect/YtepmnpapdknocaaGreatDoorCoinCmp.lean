/- Contracts of what puts points in order. -/
import Derived.Test.YtepmnpapdknocaaGreatDoorCoinMem
import Derived.Deep.RegionHeld3
namespace Go.Proofs.YtepmnpapdknocaaGreatDoor
open Go.RowKit

def cmpI (x y : Int) : Int := if x < y then -1 else if y < x then 1 else 0

set_option maxHeartbeats 400000 in
theorem isNaN_is (x : Int) (w : World) : Calls Tryz.prog 174 #[.int .i64 x] w fun e w' => e = .returned (.bool false) ∧ w = w' := by
  go_enter Tryz.func174, Tryz.ntmps174
  go_wp2
  go_ret
  exact ⟨rfl, rfl⟩

set_option maxHeartbeats 800000 in
theorem cmpCompare_is (x y : Int) (w : World) : Calls Tryz.prog 140 #[.int .i64 x, .int .i64 y] w fun e w' => e = .returned (.int .i64 (cmpI x y)) ∧ w = w' := by
  have C1 := hide (isNaN_is x)
  have C2 := hide (isNaN_is y)
  by_cases h1 : x < y
  · have e : cmpI x y = -1 := by simp [cmpI, h1]
    rw [e]
    clear e
    go_enter Tryz.func140, Tryz.ntmps140
    go_wp2_with fail
    refine ((unhide C1) _).mono ?_
    rintro e w' ⟨rfl, rfl⟩
    go_wp2_with fail
    refine ((unhide C2) _).mono ?_
    rintro e w' ⟨rfl, rfl⟩
    go_wp2
    go_ret
    exact ⟨rfl, rfl⟩
  · by_cases h2 : y < x
    · have e : cmpI x y = 1 := by simp [cmpI, h1, h2]
      rw [e]
      clear e
      go_enter Tryz.func140, Tryz.ntmps140
      go_wp2_with fail
      refine ((unhide C1) _).mono ?_
      rintro e w' ⟨rfl, rfl⟩
      go_wp2_with fail
      refine ((unhide C2) _).mono ?_
      rintro e w' ⟨rfl, rfl⟩
      go_wp2
      go_ret
      exact ⟨rfl, rfl⟩
    · have e : cmpI x y = 0 := by simp [cmpI, h1, h2]
      rw [e]
      clear e
      go_enter Tryz.func140, Tryz.ntmps140
      go_wp2_with fail
      refine ((unhide C1) _).mono ?_
      rintro e w' ⟨rfl, rfl⟩
      go_wp2_with fail
      refine ((unhide C2) _).mono ?_
      rintro e w' ⟨rfl, rfl⟩
      go_wp2
      go_ret
      exact ⟨rfl, rfl⟩

def orI (x y : Int) : Int := if x = 0 then y else x

set_option maxHeartbeats 800000 in
theorem cmpOr_is (x y : Int) (b c : Nat) (w : World) (h1 : w.cell? ⟨b, 0, none⟩ = some (.int .i64 x)) (h2 : w.cell? ⟨b, 1, none⟩ = some (.int .i64 y)) :
    Calls Tryz.prog 139 #[.slice (some ⟨b, 0, none⟩) 2 c] w fun e w' => e = .returned (.int .i64 (orI x y)) ∧ w = w' := by
  by_cases hx : x = 0
  · subst hx
    by_cases hy : y = 0
    · subst hy
      have e : orI 0 0 = 0 := rfl
      rw [e]
      clear e
      go_enter Tryz.func139, Tryz.ntmps139
      go_wp2
      refine wp_loop_rounds 3 ?_
      rw [rounds_succ]
      go_wp2
      rw [rounds_succ]
      go_wp2
      rw [rounds_succ]
      go_wp2
      go_ret
      exact ⟨rfl, rfl⟩
    · have e : orI 0 y = y := rfl
      rw [e]
      have gy : (y != 0) = true := by simp [hy]
      clear e hy
      go_enter Tryz.func139, Tryz.ntmps139
      go_wp2
      refine wp_loop_rounds 2 ?_
      rw [rounds_succ]
      go_wp2
      rw [rounds_succ]
      go_wp2
      go_ret
      exact ⟨rfl, rfl⟩
  · have e : orI x y = x := by simp [orI, hx]
    rw [e]
    have gx : (x != 0) = true := by simp [hx]
    clear e hx
    go_enter Tryz.func139, Tryz.ntmps139
    go_wp2
    refine wp_loop_rounds 1 ?_
    rw [rounds_succ]
    go_wp2
    go_ret
    exact ⟨rfl, rfl⟩

theorem cmpP_or (p q : PtD) : orI (cmpI p.1 q.1) (cmpI p.2 q.2) = cmpP p q := by
  obtain ⟨a, b⟩ := p
  obtain ⟨c, d⟩ := q
  unfold orI cmpI cmpP lt
  simp only [Bool.or_eq_true, Bool.and_eq_true, decide_eq_true_eq, Prod.mk.injEq]
  repeat' split
  all_goals omega

theorem two_cells (w : World) (x y : Value) (t : TypeId) : (w.alloc (.cells #[x, y] t)).cell? ⟨w.heap.size, 0, none⟩ = some x ∧ (w.alloc (.cells #[x, y] t)).cell? ⟨w.heap.size, 1, none⟩ = some y :=
  ⟨by rw [World.cell?_alloc_at _ _ _ _ rfl]; rfl, by rw [World.cell?_alloc_at _ _ _ _ rfl]; rfl⟩
theorem bel_draw1 (w : World) : Below w.heap.size w w.drew := ⟨rfl, rfl, rfl, Nat.le_refl _, fun _ _ => rfl⟩

set_option maxRecDepth 10000 in
set_option maxHeartbeats 1600000 in
theorem compare_is (p q : PtD) (z : Int) (w : World) (hz : cmpP p q = z) :
    Calls Tryz.prog 109 #[.agg #[.int .i64 p.1, .int .i64 p.2], .agg #[.int .i64 q.1, .int .i64 q.2]] w fun e w' => e = .returned (.int .i64 z) ∧ Below w.heap.size w w' := by
  obtain ⟨a, b⟩ := p
  obtain ⟨c, d⟩ := q
  have e := cmpP_or (a, b) (c, d)
  rw [hz] at e
  simp only at e ⊢
  have E := hide e
  obtain ⟨X, hX⟩ : ∃ X, X = (w.alloc (.cells #[.int .i64 a, .int .i64 b] 86)).alloc (.cells #[.int .i64 c, .int .i64 d] 86) := ⟨_, rfl⟩
  have HB : Hid (Below w.heap.size w X) := by rw [hX]; exact (bel_on (bel_new w (.cells #[.int .i64 a, .int .i64 b] 86)) (bel_new _ (.cells #[.int .i64 c, .int .i64 d] 86)))
  have x0 : X.cell? ⟨w.heap.size, 0, none⟩ = some (.int .i64 a) := by rw [hX]; exact cell_later (bel_new _ _) (two_cells w _ _ _).1
  have x1 : X.cell? ⟨w.heap.size, 1, none⟩ = some (.int .i64 b) := by rw [hX]; exact cell_later (bel_new _ _) (two_cells w _ _ _).2
  have x2 : X.cell? ⟨w.heap.size + 1, 0, none⟩ = some (.int .i64 c) := by rw [hX]; have := (two_cells (w.alloc (.cells #[.int .i64 a, .int .i64 b] 86)) (.int .i64 c) (.int .i64 d) 86).1; simp at this ⊢
  have x3 : X.cell? ⟨w.heap.size + 1, 1, none⟩ = some (.int .i64 d) := by rw [hX]; have := (two_cells (w.alloc (.cells #[.int .i64 a, .int .i64 b] 86)) (.int .i64 c) (.int .i64 d) 86).2; simp at this ⊢
  clear hz e
  go_enter Tryz.func109, Tryz.ntmps109
  go_wp2_with fail
  rw [← hX]
  clear hX
  go_region_held3 (fun w' => Below X.heap.size X w' ∧ w'.cell? ⟨w.heap.size, 0, none⟩ = some (.int .i64 a) ∧ w'.cell? ⟨w.heap.size, 1, none⟩ = some (.int .i64 b) ∧ w'.cell? ⟨w.heap.size + 1, 0, none⟩ = some (.int .i64 c) ∧ w'.cell? ⟨w.heap.size + 1, 1, none⟩ = some (.int .i64 d))
    (first
    | exact ⟨bel_draw1 _, x0, x1, x2, x3⟩
    | (go_split_ands
       exact ⟨by assumption, by assumption, by assumption, by assumption, by assumption⟩)
    | (go_split_ands
       exact ⟨bel_on (by assumption) (bel_new _ _), cell_later (bel_new _ _) (by assumption), cell_later (bel_new _ _) (by assumption), cell_later (bel_new _ _) (by assumption), cell_later (bel_new _ _) (by assumption)⟩))
    (first
    | (go_at_call 140; refine (cmpCompare_is _ _ _).mono ?_; rintro e w' ⟨rfl, rfl⟩)
    | (go_at_call 139; refine (cmpOr_is (cmpI a c) (cmpI b d) _ 2 _ ?_ ?_).mono ?_; exact (two_cells _ _ _ _).1; exact (two_cells _ _ _ _).2; rintro e w' ⟨rfl, rfl⟩))
  rename_i hH
  have HH := hide (bel_on (unhide HB) hH.1)
  clear hH
  go_wp2
  go_ret
  exact ⟨by rw [← unhide E]; rfl, unhide HH⟩

end Go.Proofs.YtepmnpapdknocaaGreatDoor
