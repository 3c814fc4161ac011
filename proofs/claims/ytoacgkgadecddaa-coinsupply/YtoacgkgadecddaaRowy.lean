/- Contracts of slices.Equal (at equal rows) and coin.Split. -/
import Derived.Test.YtoacgkgadecddaaSums
import Derived.Deep.QuietTactic
import Derived.BigQuiet
namespace Go.Proofs.Ytoacgkgadecddaa
open Go.RowKit

set_option maxHeartbeats 400000 in
theorem equal_same (b1 o1 b2 o2 n c1 c2 : Nat) (Z : Nat → Int) (w : World) (hn : n ≤ 1000)
    (h1 : ∀ i, i < n → w.cell? ⟨b1, o1 + i, none⟩ = some (.int .i64 (Z i))) (h2 : ∀ i, i < n → w.cell? ⟨b2, o2 + i, none⟩ = some (.int .i64 (Z i))) :
    Calls Try.prog 7 #[.slice (some ⟨b1, o1, none⟩) n c1, .slice (some ⟨b2, o2, none⟩) n c2] w fun e w' => e = .returned (.bool true) ∧ ∃ m, w' = w.drewN m := by
  have H1 : Hid (∀ i, i < n → w.cell? ⟨b1, o1 + i, none⟩ = some (.int .i64 (Z i))) := h1
  have H2 : Hid (∀ i, i < n → w.cell? ⟨b2, o2 + i, none⟩ = some (.int .i64 (Z i))) := h2
  clear h1 h2
  go_enter Try.func7, Try.ntmps7
  go_wp2
  go_loopw [13] (fun i wr => ∃ k m : Nat, k ≤ n ∧ i = .int .i64 k ∧ wr = w.drewN m) (fun i _ => n - (intOf i).toNat)
  case atStart => exact ⟨0, 0, Nat.zero_le _, rfl, rfl⟩
  case round =>
    obtain ⟨k, m, hk, rfl, rfl⟩ := hrel
    by_cases hlt : k < n
    · have g1 : w.cell? ⟨b1, o1 + k, none⟩ = some (.int .i64 (Z k)) := H1.out k hlt
      have g2 : w.cell? ⟨b2, o2 + k, none⟩ = some (.int .i64 (Z k)) := H2.out k hlt
      go_wp2
      go_quiet (fail)
      go_wp2
      go_roundw
      case rel => exact ⟨k + 1, m + nq, by omega, by go_num, rfl⟩
      case measure => simp [intOf]; omega
    · go_wp2
      go_ret
      exact ⟨rfl, m, rfl⟩

set_option maxHeartbeats 400000 in
theorem split_range (n p : Int) (w : World) (h : n < 0 ∨ 1000000000 < n) :
    Calls Try.prog 9 #[.int .i64 n, .int .i64 p] w fun e w' => e = .returned (.tuple #[.slice none 0 0, .int .i64 3]) ∧ w = w' := by
  go_enter Try.func9, Try.ntmps9
  go_wp2_with (go_at_call 12; refine (check_no _ _ h).mono ?_; rintro e w' ⟨rfl, rfl⟩)
  go_ret2
  exact ⟨rfl, rfl⟩

set_option maxHeartbeats 400000 in
theorem split_parts (n p : Int) (w : World) (h1 : 0 ≤ n) (h2 : n ≤ 1000000000) (h : p < 1 ∨ 6 < p) :
    Calls Try.prog 9 #[.int .i64 n, .int .i64 p] w fun e w' => e = .returned (.tuple #[.slice none 0 0, .int .i64 3]) ∧ w = w' := by
  go_enter Try.func9, Try.ntmps9
  go_wp2_with (first | (go_at_call 12; refine (check_yes _ _ h1 h2).mono ?_; rintro e w' ⟨rfl, rfl⟩) | (go_at_call 17; refine (within_no _ _ _ _ h).mono ?_; rintro e w' ⟨rfl, rfl⟩))
  go_ret2
  exact ⟨rfl, rfl⟩

theorem Try.info3 : (Try.prog.info? 3).map (fun i => (i.zero, i.size, i.bytes)) = some (some (.int .i64 0), 1, 8) := by kernel_rfl

/-- What a row of ints that the call made holds when its first k places are filled. -/
def Filled (B p : Nat) (f : Nat → Int) (w wr : World) (k : Nat) : Prop :=
  ∃ xs : List Value, wr.ownsRow B 3 1 (.slice (some ⟨B, 0, none⟩) p p) p xs ∧ (∀ j, j < k → xs[j]? = some (.int .i64 (f j))) ∧ Below B w wr

theorem Filled.start {B p : Nat} {f : Nat → Int} {w wr : World} {xs : List Value} (h : wr.ownsRow B 3 1 (.slice (some ⟨B, 0, none⟩) p p) p xs) (hb : Below B w wr) : Filled B p f w wr 0 :=
  ⟨xs, h, fun j hj => absurd hj (by omega), hb⟩

theorem Filled.old {B p : Nat} {f : Nat → Int} {w wr : World} {k : Nat} (h : Filled B p f w wr k) (hk : k < p) : ∃ v, wr.cell? ⟨B, k, none⟩ = some v := by
  obtain ⟨xs, ho, _, _⟩ := h
  have hl : xs.length = p := by simpa using ho.1
  exact ⟨xs[k]'(by omega), by rw [ho.cellAt k (by omega)]; simp [hl, hk]⟩

theorem Filled.free {B p : Nat} {f : Nat → Int} {w wr : World} {k : Nat} (h : Filled B p f w wr k) (j : Nat) : wr.frozen? ⟨B, j, none⟩ = false := by
  obtain ⟨xs, ho, _, _⟩ := h
  exact ho.frozenAt j

theorem Filled.step {B p : Nat} {f : Nat → Int} {w wr : World} {k : Nat} (h : Filled B p f w wr k) (hk : k < p) {x : Int} (hx : x = f k) : Filled B p f w (wr.setCell ⟨B, k, none⟩ (.int .i64 x)) (k + 1) := by
  obtain ⟨xs, ho, hf, hb⟩ := h
  have hl : xs.length = p := by simpa using ho.1
  refine ⟨xs.set k (.int .i64 x), (ho.stored k _).1, fun j hj => ?_, hb.setCell (Nat.le_refl _) _⟩
  by_cases e : j = k
  · subst e; simp [hl, hk, hx]
  · rw [List.getElem?_set_ne (by omega)]; exact hf j (by omega)

/-- The place k written twice. -/
theorem Filled.twice {B p : Nat} {f : Nat → Int} {w wr : World} {k : Nat} (h : Filled B p f w wr k) (hk : k < p) (y : Int) {x : Int} (hx : x = f k) : Filled B p f w ((wr.setCell ⟨B, k, none⟩ (.int .i64 y)).setCell ⟨B, k, none⟩ (.int .i64 x)) (k + 1) := by
  obtain ⟨xs, ho, hf, hb⟩ := h
  have hl : xs.length = p := by simpa using ho.1
  refine ⟨(xs.set k (.int .i64 y)).set k (.int .i64 x), ((ho.stored k _).1.stored k _).1, fun j hj => ?_, (hb.setCell (Nat.le_refl _) _).setCell (Nat.le_refl _) _⟩
  by_cases e : j = k
  · subst e; simp [hl, hk, hx]
  · rw [List.getElem?_set_ne (by omega), List.getElem?_set_ne (by omega)]; exact hf j (by omega)

theorem Filled.cells {B p : Nat} {f : Nat → Int} {w wr : World} {k : Nat} (h : Filled B p f w wr k) (hk : k ≤ p) : ∀ i, i < k → wr.cell? ⟨B, 0 + i, none⟩ = some (.int .i64 (f i)) := by
  obtain ⟨xs, ho, hf, _⟩ := h
  intro i hi
  rw [Nat.zero_add, ho.cellAt i (by omega)]
  exact hf i hi

theorem Filled.below {B p : Nat} {f : Nat → Int} {w wr : World} {k : Nat} (h : Filled B p f w wr k) : Below B w wr := by
  obtain ⟨_, _, _, hb⟩ := h
  exact hb

theorem Filled.lt {B p : Nat} {f : Nat → Int} {w wr : World} {k : Nat} (h : Filled B p f w wr k) : B < wr.heap.size := by
  obtain ⟨_, ho, _, _⟩ := h
  exact (ho.lt B rfl).2

theorem share_up (n p k : Nat) (h : k < n % p) : (n : Int) / (p : Int) + 1 = share n p k := by
  unfold share; rw [if_pos h]; rw [Int.natCast_add, Int.natCast_ediv]; rfl
theorem share_low (n p k : Nat) (h : ¬ k < n % p) : (n : Int) / (p : Int) = share n p k := by
  unfold share; rw [if_neg h, Nat.add_zero, Int.natCast_ediv]

set_option maxHeartbeats 800000 in
theorem split_yes (n p : Nat) (w : World) (h2 : n ≤ 1000000000) (h3 : 1 ≤ p) (h4 : p ≤ 6) :
    Calls Try.prog 9 #[.int .i64 n, .int .i64 p] w fun e w' => e = .returned (.tuple #[.slice (some ⟨w.heap.size, 0, none⟩) p p, .int .i64 0]) ∧ (∀ i, i < p → w'.cell? ⟨w.heap.size, 0 + i, none⟩ = some (.int .i64 (share n p i))) ∧ w.heap.size < w'.heap.size ∧ Below w.heap.size w w' := by
  obtain ⟨i0, hi, hz0, hz1, hz2⟩ := info_parts Try.info3
  have hq : (n : Int) / (p : Int) ≤ 1000000000 := by rw [← Int.natCast_ediv]; have := Nat.div_le_self n p; omega
  have hq0 : 0 ≤ (n : Int) / (p : Int) := by rw [← Int.natCast_ediv]; exact Int.natCast_nonneg _
  go_enter Try.func9, Try.ntmps9
  go_wp2_with (first | (go_at_call 12; refine (check_yes _ _ (by omega) (by omega)).mono ?_; rintro e w' ⟨rfl, rfl⟩) | (go_at_call 17; refine (within_yes _ _ _ _ (by omega) (by omega)).mono ?_; rintro e w' ⟨rfl, rfl⟩) | (at_make; refine wpList_make_full _ rfl _ _ 24 rfl w.heap.size 3 i0 (.int .i64 0) 1 Try.underlying24 hi hz0 hz1 .i64 .i64 _ _ p rfl rfl rfl rfl (by rw [hz2]; omega) (by unfold maxLen; omega) (Nat.le_refl _) ?_; intro w0 hown0 hgrow0))
  have hst : Filled w.heap.size p (share n p) w w0 0 := Filled.start hown0 ((Below.refl _ _).grown hgrow0 (Nat.le_refl _) (fun k h => by cases h))
  clear hown0 hgrow0
  go_loopw [20] (fun i wr => ∃ k : Nat, k ≤ p ∧ i = .int .i64 k ∧ Filled w.heap.size p (share n p) w wr k) (fun i _ => p - (intOf i).toNat)
  case atStart => exact ⟨0, Nat.zero_le _, rfl, hst⟩
  case round =>
    obtain ⟨k, hk, rfl, hfil⟩ := hrel
    clear hst
    by_cases hlt : k < p
    · obtain ⟨v, hold⟩ := hfil.old hlt
      have hfree := hfil.free k
      by_cases hr : k < n % p
      · have hr1 : (k : Int) < (n : Int) % (p : Int) := by rw [← Int.natCast_emod]; omega
        go_wp2
        go_roundw
        case rel => exact ⟨k + 1, by omega, by go_num, hfil.twice hlt _ (share_up n p k hr)⟩
        case measure => simp [intOf]; omega
      · have hr1 : decide ((k : Int) < (n : Int) % (p : Int)) = false := by rw [← Int.natCast_emod]; simp; omega
        go_wp2
        go_roundw
        case rel => exact ⟨k + 1, by omega, by go_num, hfil.step hlt (share_low n p k hr)⟩
        case measure => simp [intOf]; omega
    · go_wp2
      go_ret2
      have e : k = p := by omega
      subst e
      exact ⟨rfl, hfil.cells (Nat.le_refl _), hfil.lt, hfil.below⟩

end Go.Proofs.Ytoacgkgadecddaa
