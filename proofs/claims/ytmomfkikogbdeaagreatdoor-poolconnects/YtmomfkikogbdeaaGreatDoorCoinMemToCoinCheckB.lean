/- Coins in memory: rows of records of six cells, whose slices lead on to orders. -/
import Derived.Test.YtmomfkikogbdeaaGreatDoorTxMemToTxCheckB
import Derived.Test.YtmomfkikogbdeaaGreatDoorTxCheckCToCoinMath
import Derived.Deep.RegionHeld3
import Derived.BigQuiet
namespace Go.Proofs.YtmomfkikogbdeaaGreatDoor
open Go.RowKit

/-- A coin's cells, its lock's slice given. -/
def cnV (x : CoinD) (a : Option Addr) (n c : Nat) : Value := .agg #[.int .i64 x.1, .int .i64 x.2.1, .int .i64 (cv x), .slice a n c, .int .i64 (ch x), .bool (cr x)]
def CoinAt (w : World) (b o : Nat) (x : CoinD) : Prop :=
  w.cell? ⟨b, o, none⟩ = some (.int .i64 x.1) ∧ w.cell? ⟨b, o + 1, none⟩ = some (.int .i64 x.2.1) ∧ w.cell? ⟨b, o + 2, none⟩ = some (.int .i64 (cv x)) ∧
  (∃ a n c, w.cell? ⟨b, o + 3, none⟩ = some (.slice a n c) ∧ OpsAt w a n (ck x) ∧ SlOk a n c) ∧
  w.cell? ⟨b, o + 4, none⟩ = some (.int .i64 (ch x)) ∧ w.cell? ⟨b, o + 5, none⟩ = some (.bool (cr x))
theorem CoinAt.kept : KeptR CoinAt := fun _ _ _ _ _ hb h => by
  obtain ⟨h1, h2, h3, ⟨a, n, c, h4, h5, h6⟩, h7, h8⟩ := h
  exact ⟨cell_later hb h1, cell_later hb h2, cell_later hb h3, ⟨a, n, c, cell_later hb h4, h5.later hb, h6⟩, cell_later hb h7, cell_later hb h8⟩
def CoinsAt (w : World) (a : Option Addr) (len : Nat) (l : List CoinD) : Prop := RowsAt CoinAt 6 w a len l
theorem CoinsAt.later {w w' : World} {a : Option Addr} {len : Nat} {l : List CoinD} (h : CoinsAt w a len l) (hb : Below w.heap.size w w') : CoinsAt w' a len l := RowsAt.later CoinAt.kept h hb

theorem six_new (w : World) (a b c d e f : Value) (t : TypeId) : (w.alloc (.cells #[a, b, c, d, e, f] t)).cell? ⟨w.heap.size, 0, none⟩ = some a ∧ (w.alloc (.cells #[a, b, c, d, e, f] t)).cell? ⟨w.heap.size, 1, none⟩ = some b ∧ (w.alloc (.cells #[a, b, c, d, e, f] t)).cell? ⟨w.heap.size, 2, none⟩ = some c ∧
    (w.alloc (.cells #[a, b, c, d, e, f] t)).cell? ⟨w.heap.size, 3, none⟩ = some d ∧ (w.alloc (.cells #[a, b, c, d, e, f] t)).cell? ⟨w.heap.size, 4, none⟩ = some e ∧ (w.alloc (.cells #[a, b, c, d, e, f] t)).cell? ⟨w.heap.size, 5, none⟩ = some f := by
  refine ⟨?_, ?_, ?_, ?_, ?_, ?_⟩ <;> (rw [World.cell?_alloc_at _ _ _ _ rfl]; rfl)

end Go.Proofs.YtmomfkikogbdeaaGreatDoor

/- Contracts of what puts points in order. -/
namespace Go.Proofs.YtmomfkikogbdeaaGreatDoor
open Go.RowKit

def cmpI (x y : Int) : Int := if x < y then -1 else if y < x then 1 else 0

set_option maxHeartbeats 400000 in
theorem isNaN_is (x : Int) (w : World) : Calls Tryz.prog 223 #[.int .i64 x] w fun e w' => e = .returned (.bool false) ∧ w = w' := by
  go_enter Tryz.func223, Tryz.ntmps223
  go_wp2
  go_ret
  exact ⟨rfl, rfl⟩

set_option maxHeartbeats 800000 in
theorem cmpCompare_is (x y : Int) (w : World) : Calls Tryz.prog 231 #[.int .i64 x, .int .i64 y] w fun e w' => e = .returned (.int .i64 (cmpI x y)) ∧ w = w' := by
  have C1 := hide (isNaN_is x)
  have C2 := hide (isNaN_is y)
  by_cases h1 : x < y
  · have e : cmpI x y = -1 := by simp [cmpI, h1]
    rw [e]
    clear e
    go_enter Tryz.func231, Tryz.ntmps231
    go_wp2_with fail
    refine ((unhide C1) _).mono ?_
    rintro e w' ⟨rfl, rfl⟩
    go_wp2_with fail
    refine ((unhide C2) _).mono ?_
    rintro e w' ⟨rfl, rfl⟩
    go_wp2
    go_ret
    exact ⟨rfl, rfl⟩
  · by_cases h2 : y < x
    · have e : cmpI x y = 1 := by simp [cmpI, h1, h2]
      rw [e]
      clear e
      go_enter Tryz.func231, Tryz.ntmps231
      go_wp2_with fail
      refine ((unhide C1) _).mono ?_
      rintro e w' ⟨rfl, rfl⟩
      go_wp2_with fail
      refine ((unhide C2) _).mono ?_
      rintro e w' ⟨rfl, rfl⟩
      go_wp2
      go_ret
      exact ⟨rfl, rfl⟩
    · have e : cmpI x y = 0 := by simp [cmpI, h1, h2]
      rw [e]
      clear e
      go_enter Tryz.func231, Tryz.ntmps231
      go_wp2_with fail
      refine ((unhide C1) _).mono ?_
      rintro e w' ⟨rfl, rfl⟩
      go_wp2_with fail
      refine ((unhide C2) _).mono ?_
      rintro e w' ⟨rfl, rfl⟩
      go_wp2
      go_ret
      exact ⟨rfl, rfl⟩

def orI (x y : Int) : Int := if x = 0 then y else x

set_option maxHeartbeats 800000 in
theorem cmpOr_is (x y : Int) (b c : Nat) (w : World) (h1 : w.cell? ⟨b, 0, none⟩ = some (.int .i64 x)) (h2 : w.cell? ⟨b, 1, none⟩ = some (.int .i64 y)) :
    Calls Tryz.prog 230 #[.slice (some ⟨b, 0, none⟩) 2 c] w fun e w' => e = .returned (.int .i64 (orI x y)) ∧ w = w' := by
  by_cases hx : x = 0
  · subst hx
    by_cases hy : y = 0
    · subst hy
      have e : orI 0 0 = 0 := rfl
      rw [e]
      clear e
      go_enter Tryz.func230, Tryz.ntmps230
      go_wp2
      refine wp_loop_rounds 3 ?_
      rw [rounds_succ]
      go_wp2
      rw [rounds_succ]
      go_wp2
      rw [rounds_succ]
      go_wp2
      go_ret
      exact ⟨rfl, rfl⟩
    · have e : orI 0 y = y := rfl
      rw [e]
      have gy : (y != 0) = true := by simp [hy]
      clear e hy
      go_enter Tryz.func230, Tryz.ntmps230
      go_wp2
      refine wp_loop_rounds 2 ?_
      rw [rounds_succ]
      go_wp2
      rw [rounds_succ]
      go_wp2
      go_ret
      exact ⟨rfl, rfl⟩
  · have e : orI x y = x := by simp [orI, hx]
    rw [e]
    have gx : (x != 0) = true := by simp [hx]
    clear e hx
    go_enter Tryz.func230, Tryz.ntmps230
    go_wp2
    refine wp_loop_rounds 1 ?_
    rw [rounds_succ]
    go_wp2
    go_ret
    exact ⟨rfl, rfl⟩

theorem cmpP_or (p q : PtD) : orI (cmpI p.1 q.1) (cmpI p.2 q.2) = cmpP p q := by
  obtain ⟨a, b⟩ := p
  obtain ⟨c, d⟩ := q
  unfold orI cmpI cmpP lt
  simp only [Bool.or_eq_true, Bool.and_eq_true, decide_eq_true_eq, Prod.mk.injEq]
  repeat' split
  all_goals omega

theorem two_cells (w : World) (x y : Value) (t : TypeId) : (w.alloc (.cells #[x, y] t)).cell? ⟨w.heap.size, 0, none⟩ = some x ∧ (w.alloc (.cells #[x, y] t)).cell? ⟨w.heap.size, 1, none⟩ = some y :=
  ⟨by rw [World.cell?_alloc_at _ _ _ _ rfl]; rfl, by rw [World.cell?_alloc_at _ _ _ _ rfl]; rfl⟩
theorem bel_draw1 (w : World) : Below w.heap.size w w.drew := ⟨rfl, rfl, rfl, Nat.le_refl _, fun _ _ => rfl⟩

set_option maxRecDepth 10000 in
set_option maxHeartbeats 1600000 in
theorem compare_is (p q : PtD) (z : Int) (w : World) (hz : cmpP p q = z) :
    Calls Tryz.prog 201 #[.agg #[.int .i64 p.1, .int .i64 p.2], .agg #[.int .i64 q.1, .int .i64 q.2]] w fun e w' => e = .returned (.int .i64 z) ∧ Below w.heap.size w w' := by
  obtain ⟨a, b⟩ := p
  obtain ⟨c, d⟩ := q
  have e := cmpP_or (a, b) (c, d)
  rw [hz] at e
  simp only at e ⊢
  have E := hide e
  obtain ⟨X, hX⟩ : ∃ X, X = (w.alloc (.cells #[.int .i64 a, .int .i64 b] 117)).alloc (.cells #[.int .i64 c, .int .i64 d] 117) := ⟨_, rfl⟩
  have HB : Hid (Below w.heap.size w X) := by rw [hX]; exact (bel_on (bel_new w (.cells #[.int .i64 a, .int .i64 b] 117)) (bel_new _ (.cells #[.int .i64 c, .int .i64 d] 117)))
  have x0 : X.cell? ⟨w.heap.size, 0, none⟩ = some (.int .i64 a) := by rw [hX]; exact cell_later (bel_new _ _) (two_cells w _ _ _).1
  have x1 : X.cell? ⟨w.heap.size, 1, none⟩ = some (.int .i64 b) := by rw [hX]; exact cell_later (bel_new _ _) (two_cells w _ _ _).2
  have x2 : X.cell? ⟨w.heap.size + 1, 0, none⟩ = some (.int .i64 c) := by rw [hX]; have := (two_cells (w.alloc (.cells #[.int .i64 a, .int .i64 b] 117)) (.int .i64 c) (.int .i64 d) 117).1; simp at this ⊢
  have x3 : X.cell? ⟨w.heap.size + 1, 1, none⟩ = some (.int .i64 d) := by rw [hX]; have := (two_cells (w.alloc (.cells #[.int .i64 a, .int .i64 b] 117)) (.int .i64 c) (.int .i64 d) 117).2; simp at this ⊢
  clear hz e
  go_enter Tryz.func201, Tryz.ntmps201
  go_wp2_with fail
  rw [← hX]
  clear hX
  go_region_held3 (fun w' => Below X.heap.size X w' ∧ w'.cell? ⟨w.heap.size, 0, none⟩ = some (.int .i64 a) ∧ w'.cell? ⟨w.heap.size, 1, none⟩ = some (.int .i64 b) ∧ w'.cell? ⟨w.heap.size + 1, 0, none⟩ = some (.int .i64 c) ∧ w'.cell? ⟨w.heap.size + 1, 1, none⟩ = some (.int .i64 d))
    (first
    | exact ⟨bel_draw1 _, x0, x1, x2, x3⟩
    | (go_split_ands
       exact ⟨by assumption, by assumption, by assumption, by assumption, by assumption⟩)
    | (go_split_ands
       exact ⟨bel_on (by assumption) (bel_new _ _), cell_later (bel_new _ _) (by assumption), cell_later (bel_new _ _) (by assumption), cell_later (bel_new _ _) (by assumption), cell_later (bel_new _ _) (by assumption)⟩))
    (first
    | (go_at_call 231; refine (cmpCompare_is _ _ _).mono ?_; rintro e w' ⟨rfl, rfl⟩)
    | (go_at_call 230; refine (cmpOr_is (cmpI a c) (cmpI b d) _ 2 _ ?_ ?_).mono ?_; exact (two_cells _ _ _ _).1; exact (two_cells _ _ _ _).2; rintro e w' ⟨rfl, rfl⟩))
  rename_i hH
  have HH := hide (bel_on (unhide HB) hH.1)
  clear hH
  go_wp2
  go_ret
  exact ⟨by rw [← unhide E]; rfl, unhide HH⟩

end Go.Proofs.YtmomfkikogbdeaaGreatDoor

/- Contracts of what checks coins. -/
namespace Go.Proofs.YtmomfkikogbdeaaGreatDoor
open Go.RowKit

set_option maxHeartbeats 400000 in
theorem uisHeight_is (h : Int) (b : Bool) (w : World) (hb : okH h = b) :
    Calls Tryz.prog 203 #[.int .i64 h] w fun e w' => e = .returned (.bool b) ∧ w = w' := by
  have C := hide (within_is h 1 1000 b w (by rw [← hb]; rfl))
  clear hb
  go_enter Tryz.func203, Tryz.ntmps203
  go_wp2_with fail
  refine (unhide C).mono ?_
  rintro e w' ⟨rfl, rfl⟩
  go_wp2
  go_ret
  exact ⟨rfl, rfl⟩

theorem lockChk_at (a : Option Addr) (len cap : Nat) (l : List (Int × Int)) (x : Int) (w : World) (hx : chk l = x) (h : OpsAt w a len l) :
    Calls Tryz.prog 249 #[.slice a len cap] w fun e w' => e = .returned (.int .i64 x) ∧ Below w.heap.size w w' := by
  subst hx; exact check_any a len cap l w h

set_option maxRecDepth 10000 in
set_option maxHeartbeats 1600000 in
theorem checkCoin_is (x : CoinD) (a : Option Addr) (n c : Nat) (z : Int) (w : World) (hO : OpsAt w a n (ck x)) (hz : ck1 x = z) :
    Calls Tryz.prog 200 #[cnV x a n c] w fun e w' => e = .returned (.int .i64 z) ∧ Below w.heap.size w w' := by
  obtain ⟨x1, x2, x3, k, x4, x5⟩ := x
  unfold cnV
  simp only [cv, ck, ch, cr] at hO ⊢
  obtain ⟨X, hX⟩ : ∃ X, X = w.alloc (.cells #[.int .i64 x1, .int .i64 x2, .int .i64 x3, .slice a n c, .int .i64 x4, .bool x5] 124) := ⟨_, rfl⟩
  obtain ⟨n0, n1, n2, n3, n4, n5⟩ := six_new w (.int .i64 x1) (.int .i64 x2) (.int .i64 x3) (.slice a n c) (.int .i64 x4) (.bool x5) 124
  rw [← hX] at n0 n1 n2 n3 n4 n5
  have hb : Below w.heap.size w X := by rw [hX]; exact bel_new _ _
  have HB := hide hb
  have HO := hide (hO.later hb)
  have N2 := hide n2
  have N3 := hide n3
  have N4 := hide n4
  clear hO hb n5
  cases hp : okPt (x1, x2) with
  | false =>
    have e : z = 3 := by rw [← hz]; unfold ck1; rw [if_pos (by unfold okC pt; rw [hp]; rfl)]
    subst e
    have C1 := hide (isPoint_is x1 x2 false X hp)
    clear hp hz
    go_enter Tryz.func200, Tryz.ntmps200
    go_wp2_with fail
    rw [← hX]
    clear hX
    go_wp2_with fail
    refine (unhide C1).mono ?_
    rintro e w2 ⟨rfl, hb2⟩
    have HB2 := hide (bel_on (unhide HB) hb2)
    clear hb2
    go_wp2
    go_ret
    exact ⟨rfl, unhide HB2⟩
  | true =>
    have C1 := hide (isPoint_is x1 x2 true X hp)
    cases hv : okV x3 with
    | false =>
      have e : z = 3 := by rw [← hz]; unfold ck1; rw [if_pos (by unfold okC pt; rw [hp]; simp only [cv]; rw [hv]; rfl)]
      subst e
      have C2 := hide (fun w => within_is x3 1 1000000000 false w (by rw [← hv]; rfl))
      clear hp hz hv
      go_enter Tryz.func200, Tryz.ntmps200
      go_wp2_with fail
      rw [← hX]
      clear hX
      go_wp2_with fail
      refine (unhide C1).mono ?_
      rintro e w2 ⟨rfl, hb2⟩
      have m2 := cell_later hb2 (unhide N2)
      have hs2 : w.heap.size < w2.heap.size := World.block_lt_of_cell? _ _ m2
      have HB2 := hide (bel_on (unhide HB) hb2)
      clear hb2
      go_wp2_with fail
      refine ((unhide C2) _).mono ?_
      rintro e w3 ⟨rfl, rfl⟩
      go_wp2
      go_ret
      exact ⟨rfl, unhide HB2⟩
    | true =>
      have C2 := hide (fun w => within_is x3 1 1000000000 true w (by rw [← hv]; rfl))
      cases hh : okH x4 with
      | false =>
        have e : z = 3 := by rw [← hz]; unfold ck1; rw [if_pos (by unfold okC pt; rw [hp]; simp only [cv, ch]; rw [hv, hh]; rfl)]
        subst e
        have C3 := hide (fun w => uisHeight_is x4 false w hh)
        clear hp hz hv hh
        go_enter Tryz.func200, Tryz.ntmps200
        go_wp2_with fail
        rw [← hX]
        clear hX
        go_wp2_with fail
        refine (unhide C1).mono ?_
        rintro e w2 ⟨rfl, hb2⟩
        have m2 := cell_later hb2 (unhide N2)
        have m4 := cell_later hb2 (unhide N4)
        have hs2 : w.heap.size < w2.heap.size := World.block_lt_of_cell? _ _ m2
        have HB2 := hide (bel_on (unhide HB) hb2)
        clear hb2
        go_wp2_with fail
        refine ((unhide C2) _).mono ?_
        rintro e w3 ⟨rfl, rfl⟩
        go_wp2_with fail
        refine ((unhide C3) _).mono ?_
        rintro e w3 ⟨rfl, rfl⟩
        go_wp2
        go_ret
        exact ⟨rfl, unhide HB2⟩
      | true =>
        have e : chk k = z := by rw [← hz]; unfold ck1; rw [if_neg (by unfold okC pt; rw [hp]; simp only [cv, ch]; rw [hv, hh]; decide)]; rfl
        have C3 := hide (fun w => uisHeight_is x4 true w hh)
        have E := hide e
        clear hp hz hv hh e
        go_enter Tryz.func200, Tryz.ntmps200
        go_wp2_with fail
        rw [← hX]
        clear hX
        go_wp2_with fail
        refine (unhide C1).mono ?_
        rintro e w2 ⟨rfl, hb2⟩
        have m2 := cell_later hb2 (unhide N2)
        have m3 := cell_later hb2 (unhide N3)
        have m4 := cell_later hb2 (unhide N4)
        have hs2 : w.heap.size < w2.heap.size := World.block_lt_of_cell? _ _ m2
        have C4 := hide (lockChk_at a n c k z w2 (unhide E) ((unhide HO).later hb2))
        have HB2 := hide (bel_on (unhide HB) hb2)
        clear hb2
        go_wp2_with fail
        refine ((unhide C2) _).mono ?_
        rintro e w3 ⟨rfl, rfl⟩
        go_wp2_with fail
        refine ((unhide C3) _).mono ?_
        rintro e w3 ⟨rfl, rfl⟩
        go_wp2_with fail
        refine (unhide C4).mono ?_
        rintro e w4 ⟨rfl, hb4⟩
        have HB4 := hide (bel_on (unhide HB2) hb4)
        clear hb4
        go_wp2
        go_ret
        exact ⟨rfl, unhide HB4⟩

end Go.Proofs.YtmomfkikogbdeaaGreatDoor

/- The contract of Check of coins. -/
namespace Go.Proofs.YtmomfkikogbdeaaGreatDoor
open Go.RowKit

theorem bel_dw (w : World) (n : Nat) : Below w.heap.size w (w.drewN n) := ⟨rfl, rfl, rfl, Nat.le_refl _, fun _ _ => rfl⟩
theorem CoinAt.val {w : World} {b o : Nat} {x : CoinD} (h : CoinAt w b o x) : ∃ a n c, w.cell? ⟨b, o, none⟩ = some (.int .i64 x.1) ∧ w.cell? ⟨b, o + 1, none⟩ = some (.int .i64 x.2.1) ∧ w.cell? ⟨b, o + 2, none⟩ = some (.int .i64 (cv x)) ∧
    w.cell? ⟨b, o + 3, none⟩ = some (.slice a n c) ∧ w.cell? ⟨b, o + 4, none⟩ = some (.int .i64 (ch x)) ∧ w.cell? ⟨b, o + 5, none⟩ = some (.bool (cr x)) ∧ OpsAt w a n (ck x) ∧ SlOk a n c := by
  obtain ⟨h1, h2, h3, ⟨a, n, c, h4, h5, h6⟩, h7, h8⟩ := h
  exact ⟨a, n, c, h1, h2, h3, h4, h7, h8, h5, h6⟩

set_option maxRecDepth 10000 in
set_option maxHeartbeats 6400000 in
theorem uCheck_some (b off n c : Nat) (L : List CoinD) (w : World) (hn : n ≤ 720) (hz : L.length = n) (hc : ∀ i (h : i < L.length), CoinAt w b (off + i * 6) L[i]) :
    Calls Tryz.prog 143 #[.slice (some ⟨b, off, none⟩) n c] w fun e w' => e = .returned (.int .i64 (ckGo none 0 L)) ∧ Below w.heap.size w w' := by
  have HC := hide hc
  have HZ := hide hz
  clear hc hz
  go_enter Tryz.func143, Tryz.ntmps143
  go_wp2
  go_loopw [3, 12] (fun sv i wr => ∃ (k : Nat) (S : Int), k ≤ n ∧ i = .int .i64 k ∧ sv = .int .i64 S ∧ 0 ≤ S ∧ S ≤ 1000000000 ∧ Hid (ckGo none 0 L = ckGo (prevP L k) S (L.drop k)) ∧ Below w.heap.size w wr) (fun _ i _ => n - (intOf i).toNat)
  case atStart => exact ⟨0, 0, Nat.zero_le _, rfl, rfl, by decide, by decide, rfl, Below.refl _ _⟩
  case round =>
    obtain ⟨k, S, hk, rfl, rfl, hS0, hS1, A, hb⟩ := hrel
    have HB := hide hb
    by_cases hlt : k < n
    · have hlk : k < L.length := by rw [unhide HZ]; exact hlt
      have hin := CoinAt.kept _ _ _ _ _ hb ((unhide HC) k hlk)
      have ST := hide (ckGo_at L k hlk (prevP L k) S)
      have HL : Hid (∀ j, k = j + 1 → ∃ q, prevP L k = some (pt q) ∧ CoinAt wr b (off + j * 6) q) := fun j hj => by
        have hj2 : j < L.length := by omega
        exact ⟨L[j], by rw [hj]; exact prevP_succ L j hj2, CoinAt.kept _ _ _ _ _ hb ((unhide HC) j hj2)⟩
      have HN : Hid (k + 1 ≤ L.length → prevP L (k + 1) = some (pt L[k])) := fun _ => prevP_succ L k hlk
      obtain ⟨x, hx⟩ : ∃ x, L[k] = x := ⟨_, rfl⟩
      rw [hx] at hin ST HN
      have A2 : Hid (ckGo none 0 L = if ck1 x ≠ 0 then ck1 x else if above (prevP L k) x = false then 6 else if 1000000000 < S + cv x then 12 else ckGo (some (pt x)) (S + cv x) (L.drop (k + 1))) := by show _ = _; rw [unhide A, unhide ST]
      have PN : Hid (prevP L (k + 1) = some (pt x)) := (unhide HN) hlk
      obtain ⟨a, m, d, g1, g2, g3, g4, g5, g6, hO, _⟩ := hin.val
      obtain ⟨X, hX⟩ : ∃ X, X = wr.alloc (.cells #[.int .i64 x.1, .int .i64 x.2.1, .int .i64 (cv x), .slice a m d, .int .i64 (ch x), .bool (cr x)] 124) := ⟨_, rfl⟩
      obtain ⟨n0, n1, n2, n3, n4, n5⟩ := six_new wr (.int .i64 x.1) (.int .i64 x.2.1) (.int .i64 (cv x)) (.slice a m d) (.int .i64 (ch x)) (.bool (cr x)) 124
      rw [← hX] at n0 n1 n2 n3 n4 n5
      have hbX : Below wr.heap.size wr X := by rw [hX]; exact bel_new _ _
      have hsX : wr.heap.size < X.heap.size := World.block_lt_of_cell? _ _ n0
      have HBX := hide hbX
      have HO := hide (hO.later hbX)
      have N0 := hide n0
      have N1 := hide n1
      have N2 := hide n2
      obtain ⟨z, hz⟩ : ∃ z, ck1 x = z := ⟨_, rfl⟩
      have C1 := hide (checkCoin_is x a m d z X (unhide HO) hz)
      rw [hz] at A2
      have HX := hide hX
      by_cases hz0 : z = 0
      · subst hz0
        have K := ck1_zero hz
        have hv1 : 1 ≤ cv x := K.2.2.2.2.1
        have hv2 : cv x ≤ 1000000000 := K.2.2.2.2.2.1
        have A3 : Hid (ckGo none 0 L = if above (prevP L k) x = false then 6 else if 1000000000 < S + cv x then 12 else ckGo (some (pt x)) (S + cv x) (L.drop (k + 1))) := by
          have h := unhide A2
          rw [if_neg (by decide)] at h
          exact h
        clear K A A2 ST HN hx hin hO hb hz n3 n4 n5 hX
        obtain ⟨v, hv⟩ : ∃ v, cv x = v := ⟨_, rfl⟩
        rw [hv] at hv1 hv2 A3 n2 N2 g3 HX
        unfold cnV at C1
        rw [hv] at C1
        by_cases hk0 : k = 0
        · have A4 : Hid (ckGo none 0 L = if 1000000000 < S + v then 12 else ckGo (some (pt x)) (S + v) (L.drop (k + 1))) := by
            have h := unhide A3
            rw [hk0] at h
            rw [if_neg (by show ¬ true = false; decide)] at h
            rw [hk0]
            exact h
          clear A3 HL
          have hg : decide ((0 : Int) < (k : Int)) = false := by rw [hk0]; decide
          have hg2 : decide (0 < k) = false := by rw [hk0]; decide
          clear hk0
          go_wp2_with fail
          rw [← unhide HX]
          go_wp2_with fail
          refine (unhide C1).mono ?_
          rintro e w2 ⟨rfl, hb2⟩
          have m2 := cell_later hb2 (unhide N2)
          have hs2 : wr.heap.size < w2.heap.size := World.block_lt_of_cell? _ _ m2
          have HB2 := hide (bel_on (bel_on (unhide HB) (unhide HBX)) hb2)
          clear hb2
          go_wp2_with fail
          go_quiet (fail)
          by_cases hf : 1000000000 < S + v
          · have R : Hid (ckGo none 0 L = 12) := by show _ = _; rw [unhide A4, if_pos hf]
            clear A4
            go_wp2
            go_ret
            exact ⟨by rw [unhide R]; rfl, bel_on (unhide HB2) (bel_dw _ _)⟩
          · have R : Hid (ckGo none 0 L = ckGo (prevP L (k + 1)) (S + v) (L.drop (k + 1))) := by show _ = _; rw [unhide A4, if_neg hf, unhide PN]
            clear A4
            go_wp2
            go_roundw
            case rel => exact ⟨k + 1, S + v, by omega, by go_num, rfl, by omega, by omega, R, bel_on (unhide HB2) (bel_dw _ _)⟩
            case measure => simp [intOf]; omega
        · obtain ⟨j, rfl⟩ : ∃ j, k = j + 1 := ⟨k - 1, by omega⟩
          obtain ⟨q, hq, hqa⟩ := (unhide HL) j rfl
          obtain ⟨_, _, _, q1, q2, _, _, _, _, _, _⟩ := hqa.val
          have A5 : Hid (ckGo none 0 L = if lt (pt q) (pt x) = false then 6 else if 1000000000 < S + v then 12 else ckGo (some (pt x)) (S + v) (L.drop (j + 1 + 1))) := by
            have h := unhide A3
            rw [hq] at h
            exact h
          have Q1 := hide (cell_later hbX q1)
          have Q2 := hide (cell_later hbX q2)
          have G : Hid (decide ((0 : Int) < ((j + 1 : Nat) : Int)) = true) := by show _ = _; simp
          have hj1 : (j : Int) < (n : Int) := by omega
          have hw2 : IntKind.i64.wrap (j : Int) = (j : Int) := by rw [IntKind.wrap_i64]; omega
          have hw3 : IntKind.i64.wrap ((j : Int) + 1 - 1) = (j : Int) := by rw [IntKind.wrap_i64]; omega
          have hj2 : j < n := by omega
          have hj0 : (0 : Int) ≤ (j : Int) := by omega
          have hw1 : IntKind.i64.wrap (((j + 1 : Nat) : Int) - 1) = (j : Int) := by rw [IntKind.wrap_i64]; omega
          clear A3 HL hk0 hq hqa q1 q2
          cases hl : lt (pt q) (pt x) with
          | false =>
            have R : Hid (ckGo none 0 L = 6) := by show _ = _; rw [unhide A5, if_pos hl]
            obtain ⟨y, hy⟩ : ∃ y, cmpP (pt q) (pt x) = y := ⟨_, rfl⟩
            have hy0 : 0 ≤ y := by
              rw [← hy]
              refine Int.not_lt.1 fun h => ?_
              rw [cmpP_lt, hl] at h; exact Bool.noConfusion h
            have CC := hide (fun w => compare_is (pt q) (pt x) y w hy)
            unfold pt at CC
            clear A5 hl hy
            go_wp2_with fail
            rw [← unhide HX]
            go_wp2_with fail
            refine (unhide C1).mono ?_
            rintro e w2 ⟨rfl, hb2⟩
            have m0 := cell_later hb2 (unhide N0)
            have m1 := cell_later hb2 (unhide N1)
            have p0 := cell_later hb2 (unhide Q1)
            have p1 := cell_later hb2 (unhide Q2)
            have hs2 : wr.heap.size < w2.heap.size := World.block_lt_of_cell? _ _ m0
            have HB2 := hide (bel_on (bel_on (unhide HB) (unhide HBX)) hb2)
            clear hb2 n0 n1 n2 g1 g2 g3 g4 g5 g6
            have hG := unhide G
            go_wp2_with fail
            go_region_held3 (fun w' => Below w2.heap.size w2 w' ∧ w'.cell? ⟨wr.heap.size, 0, none⟩ = some (.int .i64 x.1) ∧ w'.cell? ⟨wr.heap.size, 1, none⟩ = some (.int .i64 x.2.1) ∧ w'.cell? ⟨b, off + j * 6, none⟩ = some (.int .i64 q.1) ∧ w'.cell? ⟨b, off + j * 6 + 1, none⟩ = some (.int .i64 q.2.1))
              (first
              | exact ⟨bel_draw1 _, m0, m1, p0, p1⟩
              | (go_split_ands
                 refine ⟨bel_on (by assumption) hbc, cell_later hbc (by assumption), cell_later hbc (by assumption), cell_later hbc (by assumption), cell_later hbc (by assumption)⟩))
              (first | (go_at_call 201; refine ((unhide CC) _).mono ?_; rintro e w' ⟨rfl, hbc⟩))
            rename_i hH
            have HH := hide (bel_on (unhide HB2) hH.1)
            clear hH
            go_wp2
            go_ret
            exact ⟨by rw [unhide R]; rfl, unhide HH⟩
          | true =>
            have A4 : Hid (ckGo none 0 L = if 1000000000 < S + v then 12 else ckGo (some (pt x)) (S + v) (L.drop (j + 1 + 1))) := by
              have h := unhide A5
              rw [if_neg (by rw [hl]; decide)] at h
              exact h
            obtain ⟨y, hy⟩ : ∃ y, cmpP (pt q) (pt x) = y := ⟨_, rfl⟩
            have hy0 : y < 0 := by rw [← hy, cmpP_lt]; exact hl
            have CC := hide (fun w => compare_is (pt q) (pt x) y w hy)
            unfold pt at CC
            clear A5 hl hy
            go_wp2_with fail
            rw [← unhide HX]
            go_wp2_with fail
            refine (unhide C1).mono ?_
            rintro e w2 ⟨rfl, hb2⟩
            have m0 := cell_later hb2 (unhide N0)
            have m1 := cell_later hb2 (unhide N1)
            have M2 := hide (cell_later hb2 (unhide N2))
            have p0 := cell_later hb2 (unhide Q1)
            have p1 := cell_later hb2 (unhide Q2)
            have hs2 : wr.heap.size < w2.heap.size := World.block_lt_of_cell? _ _ m0
            have HB2 := hide (bel_on (bel_on (unhide HB) (unhide HBX)) hb2)
            clear hb2 n0 n1 n2 g1 g2 g3 g4 g5 g6
            have hG := unhide G
            go_wp2_with fail
            go_region_held3 (fun w' => Below w2.heap.size w2 w' ∧ w'.cell? ⟨wr.heap.size, 0, none⟩ = some (.int .i64 x.1) ∧ w'.cell? ⟨wr.heap.size, 1, none⟩ = some (.int .i64 x.2.1) ∧ w'.cell? ⟨b, off + j * 6, none⟩ = some (.int .i64 q.1) ∧ w'.cell? ⟨b, off + j * 6 + 1, none⟩ = some (.int .i64 q.2.1))
              (first
              | exact ⟨bel_draw1 _, m0, m1, p0, p1⟩
              | (go_split_ands
                 refine ⟨bel_on (by assumption) hbc, cell_later hbc (by assumption), cell_later hbc (by assumption), cell_later hbc (by assumption), cell_later hbc (by assumption)⟩))
              (first | (go_at_call 201; refine ((unhide CC) _).mono ?_; rintro e w' ⟨rfl, hbc⟩))
            rename_i hH
            have HH := hide (bel_on (unhide HB2) hH.1)
            have m2 := cell_later hH.1 (unhide M2)
            have hs3 := World.block_lt_of_cell? _ _ m2
            clear hH
            by_cases hf : 1000000000 < S + v
            · have R : Hid (ckGo none 0 L = 12) := by show _ = _; rw [unhide A4, if_pos hf]
              clear A4
              go_wp2
              go_ret
              exact ⟨by rw [unhide R]; rfl, unhide HH⟩
            · have R : Hid (ckGo none 0 L = ckGo (prevP L (j + 1 + 1)) (S + v) (L.drop (j + 1 + 1))) := by show _ = _; rw [unhide A4, if_neg hf, unhide PN]
              clear A4
              go_wp2
              go_roundw
              case rel => exact ⟨j + 1 + 1, S + v, by omega, by go_num, rfl, by omega, by omega, R, unhide HH⟩
              case measure => simp [intOf]; omega
      · have R : Hid (ckGo none 0 L = z) := by show _ = _; rw [unhide A2, if_pos hz0]
        have gz : (z != 0) = true := by simp [hz0]
        unfold cnV at C1
        clear A A2 ST HN HL PN hx hin hO hb hz n3 n4 n5 hX hz0
        go_wp2_with fail
        rw [← unhide HX]
        go_wp2_with fail
        refine (unhide C1).mono ?_
        rintro e w2 ⟨rfl, hb2⟩
        have HB2 := hide (bel_on (bel_on (unhide HB) (unhide HBX)) hb2)
        clear hb2
        go_wp2
        go_ret
        exact ⟨by rw [unhide R]; rfl, unhide HB2⟩
    · have R : Hid (ckGo none 0 L = 0) := by show _ = _; rw [unhide A, ckGo_end L k (by rw [unhide HZ]; omega)]
      clear A hb
      go_wp2
      go_ret
      exact ⟨by rw [unhide R]; rfl, unhide HB⟩

set_option maxHeartbeats 400000 in
theorem uCheck_many (a : Option Addr) (n c : Nat) (w : World) (h : 720 < n) :
    Calls Tryz.prog 143 #[.slice a n c] w fun e w' => e = .returned (.int .i64 2) ∧ w = w' := by
  go_enter Tryz.func143, Tryz.ntmps143
  go_wp2
  go_ret
  exact ⟨rfl, rfl⟩

set_option maxHeartbeats 400000 in
theorem uCheck_none (a : Option Addr) (c : Nat) (w : World) :
    Calls Tryz.prog 143 #[.slice a 0 c] w fun e w' => e = .returned (.int .i64 0) ∧ w = w' := by
  go_enter Tryz.func143, Tryz.ntmps143
  go_wp2
  refine wp_loop_rounds 1 ?_
  rw [rounds_succ]
  go_wp2
  go_ret
  exact ⟨rfl, rfl⟩

theorem uCheck_any (a : Option Addr) (n c : Nat) (L : List CoinD) (z : Int) (w : World) (h : CoinsAt w a n L) (hz : ckCoins L = z) :
    Calls Tryz.prog 143 #[.slice a n c] w fun e w' => e = .returned (.int .i64 z) ∧ Below w.heap.size w w' := by
  subst hz
  obtain ⟨hl, hc⟩ := h
  unfold ckCoins
  rw [hl]
  by_cases h1 : 720 < n
  · rw [if_pos h1]
    exact (uCheck_many a n c w h1).mono fun e w' ⟨x, y⟩ => ⟨x, y ▸ Below.refl _ _⟩
  · rw [if_neg h1]
    by_cases h2 : n = 0
    · subst h2
      have e : L = [] := List.length_eq_zero_iff.1 hl
      subst e
      exact (uCheck_none a c w).mono fun e w' ⟨x, y⟩ => ⟨x, y ▸ Below.refl _ _⟩
    · obtain ⟨b, off, rfl, _, hcell⟩ := hc (by omega)
      exact uCheck_some b off n c L w (by omega) hl hcell

end Go.Proofs.YtmomfkikogbdeaaGreatDoor
