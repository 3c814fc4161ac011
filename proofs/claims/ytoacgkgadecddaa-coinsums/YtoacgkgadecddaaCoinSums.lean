/- Proved: for every slice of ints and every two ints, the law CoinSums returns true and its arguments read behind the call as they did before; no condition.
   The frame of the row is the guide's own shell. -/
import Derived.Test.YtoacgkgadecddaaRows
import Derived.Test.YtoacgkgadecddaaSupply
import Derived.WalkKit
import Derived.ProofKit
import Derived.OpenShut
import Derived.ShutString
import Derived.ChangeOld
import Derived.Below
namespace Go.Proofs.Ytoacgkgadecddaa.coinSums
open Go.ChangeShapes Go.WideShapes Go.ChangeAt Go.RowKit
open Go.ChangeMaps (open_string shut_string)
set_option linter.unusedVariables false

theorem own : ownKnob Try.prog.godebug = none := by kernel_rfl
theorem laidOut : laidOutB Try.prog = true := by kernel_rfl

/-- WHAT THE WALK IS TOLD OF A SLICE OF INTEGERS THAT CAME IN: it is nil; or it leads to a row of 'cap' cells, the numbers 'zs' (the first 'len' are its elements, the rest its spare room), each fitting its kind. -/
def IsRow (k : IntKind) (w : World) (a : Option Addr) (len cap : Nat) (zs : List Int) : Prop :=
  (a = none ∧ len = 0 ∧ cap = 0 ∧ zs = []) ∨
  ∃ x, a = some x ∧ len ≤ cap ∧ cap ≤ maxLen ∧ zs.length = cap ∧ (∀ i, i < zs.length → w.cell? (x.add i) = some (.int k (zs.getD i 0))) ∧ ∀ n ∈ zs, (Lit.int k n).wf = true

/-- What the slice that came in is to Sum. -/
theorem IsRow.rowAt {w : World} {a : Option Addr} {len cap : Nat} {zs : List Int} (h : IsRow .i64 w a len cap zs) : RowAt w a len (zs.take len) := by
  rcases h with ⟨rfl, rfl, rfl, rfl⟩ | ⟨x, rfl, hl, hm, hz, hcell, _⟩
  · exact ⟨rfl, by unfold maxLen; omega, fun h => absurd h (by omega)⟩
  · refine ⟨by simp [hz]; omega, Nat.le_trans hl hm, fun h => ?_⟩
    obtain ⟨b, off, spot⟩ := x
    have hc := hcell 0 (by omega)
    have hspot : spot = none := by simpa [Addr.add] using World.cell?_spot hc
    subst hspot
    refine ⟨b, off, rfl, fun i hi => ?_⟩
    have h3 := hcell i (by omega)
    have h4 : w.cell? ⟨b, off + i, none⟩ = some (.int .i64 (zs.getD i 0)) := by
      rw [← h3]
      by_cases e : i = 0
      · subst e; simp [Addr.add]
      · simp [Addr.add, e]
    rw [h4]
    simp [List.getD, hi]

/-- The slice reads the same in a later world. -/
theorem RowAt.later {w w' : World} {a : Option Addr} {len : Nat} {Z : List Int} (h : RowAt w a len Z) (hb : Below w.heap.size w w') : RowAt w' a len Z := by
  obtain ⟨hz, hm, hc⟩ := h
  refine ⟨hz, hm, fun h => ?_⟩
  obtain ⟨b, off, rfl, hcell⟩ := hc h
  refine ⟨b, off, rfl, fun i hi => ?_⟩
  have hi' := hcell i hi
  rw [hb.cell (p := ⟨b, off + i, none⟩) (World.block_lt_of_cell? _ _ hi')]
  exact hi'

/-- Both sums, under one name. -/
theorem two_sums (a : Option Addr) (len cap : Nat) (Z : List Int) : ∃ s f : Int,
    (∀ w, RowAt w a len Z → Calls Try.prog 8 #[.slice a len cap] w fun e w' => e = .returned (.tuple #[.int .i64 s, .int .i64 f]) ∧ w = w') ∧
    (∀ w, RowAt w a len Z → Calls Try.prog 10 #[.slice a len cap] w fun e w' => e = .returned (.tuple #[.int .i64 s, .int .i64 f]) ∧ w = w') :=
  ⟨(sm 0 Z).1, (sm 0 Z).2, fun w h => sum_any a len cap Z w h, fun w h => sumOf_any a len cap Z w h⟩

set_option maxHeartbeats 800000 in
theorem walk_range (a0 : Option Addr) (len0 cap0 : Nat) (Z : List Int) (a1 a2 : Int) (w : World) (hR : RowAt w a0 len0 Z) (h : a1 < 0 ∨ 1000000000 < a1) :
    Calls Try.prog 4 #[.slice a0 len0 cap0, .int .i64 a1, .int .i64 a2] w fun e w' => e = .returned (.bool true) ∧ Below w.heap.size w w' := by
  obtain ⟨s, f, c8, c10⟩ := two_sums a0 len0 cap0 Z
  have C8 := hide c8
  have C10 := hide c10
  have HR := hide hR
  clear c8 c10 hR
  go_enter Try.func4, Try.ntmps4
  go_wp2_with fail
  refine ((unhide C8) _ (unhide HR)).mono ?_
  rintro e w' ⟨rfl, rfl⟩
  go_wp2_with fail
  refine (split_range _ _ _ h).mono ?_
  rintro e w' ⟨rfl, rfl⟩
  go_wp2_with fail
  refine ((unhide C10) _ (unhide HR)).mono ?_
  rintro e w' ⟨rfl, rfl⟩
  go_wp2_with fail
  refine (summed_yes _).mono ?_
  rintro e w1 ⟨rfl, hb1⟩
  have HB := hide hb1
  clear hb1
  go_wp2_with (first | (go_at_call 12; refine (check_no _ _ h).mono ?_; rintro e w' ⟨rfl, rfl⟩) | (go_at_call 13; refine (isAmount_no _ _ h).mono ?_; rintro e w' ⟨rfl, rfl⟩))
  go_ret
  exact ⟨rfl, unhide HB⟩

set_option maxHeartbeats 800000 in
theorem walk_parts (a0 : Option Addr) (len0 cap0 : Nat) (Z : List Int) (a1 a2 : Int) (w : World) (hR : RowAt w a0 len0 Z) (h1 : 0 ≤ a1) (h2 : a1 ≤ 1000000000) (h : a2 < 1 ∨ 6 < a2) :
    Calls Try.prog 4 #[.slice a0 len0 cap0, .int .i64 a1, .int .i64 a2] w fun e w' => e = .returned (.bool true) ∧ Below w.heap.size w w' := by
  by_cases hp : a2 < 1
  all_goals
    try have hp2 : 6 < a2 := by omega
    obtain ⟨s, f, c8, c10⟩ := two_sums a0 len0 cap0 Z
    have C8 := hide c8
    have C10 := hide c10
    have HR := hide hR
    clear c8 c10 hR
    go_enter Try.func4, Try.ntmps4
    go_wp2_with fail
    refine ((unhide C8) _ (unhide HR)).mono ?_
    rintro e w' ⟨rfl, rfl⟩
    go_wp2_with fail
    refine (split_parts _ _ _ h1 h2 h).mono ?_
    rintro e w' ⟨rfl, rfl⟩
    go_wp2_with fail
    refine ((unhide C10) _ (unhide HR)).mono ?_
    rintro e w' ⟨rfl, rfl⟩
    go_wp2_with fail
    refine (summed_yes _).mono ?_
    rintro e w1 ⟨rfl, hb1⟩
    have HB := hide hb1
    clear hb1
    go_wp2_with (first | (go_at_call 12; refine (check_yes _ _ h1 h2).mono ?_; rintro e w' ⟨rfl, rfl⟩) | (go_at_call 13; refine (isAmount_yes _ _ h1 h2).mono ?_; rintro e w' ⟨rfl, rfl⟩))
    go_ret
    exact ⟨rfl, unhide HB⟩

set_option maxHeartbeats 1600000 in
theorem walk_in (a0 : Option Addr) (len0 cap0 : Nat) (Z : List Int) (n p : Nat) (w : World) (hR : RowAt w a0 len0 Z) (h2 : n ≤ 1000000000) (h3 : 1 ≤ p) (h4 : p ≤ 6) :
    Calls Try.prog 4 #[.slice a0 len0 cap0, .int .i64 n, .int .i64 p] w fun e w' => e = .returned (.bool true) ∧ Below w.heap.size w w' := by
  obtain ⟨s, f, c8, c10⟩ := two_sums a0 len0 cap0 Z
  have C8 := hide c8
  have C10 := hide c10
  have HR := hide hR
  clear c8 c10 hR
  go_enter Try.func4, Try.ntmps4
  go_wp2_with fail
  refine ((unhide C8) _ (unhide HR)).mono ?_
  rintro e w' ⟨rfl, rfl⟩
  go_wp2_with fail
  refine (split_yes n p _ h2 h3 h4).mono ?_
  rintro e w1 ⟨rfl, hc1, hl1, hb1⟩
  have HR1 := hide (RowAt.later (unhide HR) hb1)
  have HC1 := hide hc1
  have HB1 := hide hb1
  clear hc1 hb1
  go_wp2_with fail
  refine ((unhide C10) _ (unhide HR1)).mono ?_
  rintro e w' ⟨rfl, rfl⟩
  go_wp2_with fail
  refine (summed_yes _).mono ?_
  rintro e w2 ⟨rfl, hb2⟩
  have HB := hide ((unhide HB1).trans (hb2.mono (unhide HB1).size))
  have HC : Hid (∀ i, i < p → w2.cell? ⟨w.heap.size, i, none⟩ = some (.int .i64 (share n p i))) := fun i hi => by
    have := (unhide HC1) i hi
    rw [Nat.zero_add] at this
    rw [← this]
    exact hb2.cell (p := ⟨w.heap.size, i, none⟩) hl1
  clear hb2 hl1
  go_wp2_with (first | (go_at_call 12; refine (check_yes _ _ (by omega) (by omega)).mono ?_; rintro e w' ⟨rfl, rfl⟩) | (go_at_call 13; refine (isAmount_yes _ _ (by omega) (by omega)).mono ?_; rintro e w' ⟨rfl, rfl⟩))
  go_loop [13, 82] (fun t i => ∃ k : Nat, k ≤ p ∧ i = .int .i64 k ∧ t = .int .i64 (shares n p k)) (fun _ i => p - (intOf i).toNat)
  case atStart => exact ⟨0, Nat.zero_le _, rfl, rfl⟩
  case round =>
    obtain ⟨k, hk, rfl, rfl⟩ := hrel
    have sb := shares_bd n p k hk
    by_cases hlt : k < p
    · have sb2 := shares_bd n p (k + 1) (by omega)
      have x0 := (share_bd n p k).1
      have x1 : share n p k ≤ 1000000001 := by have := (share_bd n p k).2; omega
      have hck := (unhide HC) k hlt
      by_cases hz : k = 0
      · subst hz
        have hx : share n p 0 - 1 ≤ share n p 0 := by omega
        go_wp2
        go_round
        case rel => exact ⟨1, by omega, by go_num, rfl⟩
        case measure => simp [intOf]; omega
      · have hk0 : 0 < k := by omega
        have hc0 := (unhide HC) 0 (by omega)
        have hcp := (unhide HC) (k - 1) (by omega)
        have hxf := share_first n p k
        have hxp : share n p k ≤ share n p (k - 1) := by
          have := share_le n p (k - 1)
          rw [show k - 1 + 1 = k from by omega] at this
          exact this
        have x2 := share_bd n p 0
        have x3 : share n p 0 ≤ 1000000001 := by omega
        go_wp2
        go_round
        case rel => exact ⟨k + 1, by omega, by go_num, rfl⟩
        case measure => simp [intOf]; omega
    · have e : k = p := by omega
      subst e
      clear hk hlt
      rw [shares_all n k h3]
      go_wp2
      go_ret
      exact ⟨rfl, unhide HB⟩

theorem walk (a0 : Option Addr) (len0 cap0 : Nat) (z0 : List Int) (a1 : Int) (a2 : Int) (w : World) (w0 : IsRow .i64 w a0 len0 cap0 z0) (w1 : (Lit.int .i64 a1).wf = true) (w2 : (Lit.int .i64 a2).wf = true) :
    Calls Try.prog 4 #[.slice a0 len0 cap0, .int .i64 a1, .int .i64 a2] w fun e w' => e = .returned (.bool true) ∧ Below w.heap.size w w' := by
  have hR := IsRow.rowAt w0
  by_cases h : a1 < 0 ∨ 1000000000 < a1
  · exact walk_range a0 len0 cap0 _ a1 a2 w hR h
  · by_cases hp : a2 < 1 ∨ 6 < a2
    · exact walk_parts a0 len0 cap0 _ a1 a2 w hR (by omega) (by omega) hp
    · obtain ⟨n, rfl⟩ := Int.eq_ofNat_of_zero_le (show 0 ≤ a1 by omega)
      obtain ⟨p, rfl⟩ := Int.eq_ofNat_of_zero_le (show 0 ≤ a2 by omega)
      exact walk_in a0 len0 cap0 _ n p w hR (by omega) (by omega) (by omega)

/-! ### THE ROW's STEP: WRITTEN OUT: LEAVE IT -/
set_option maxRecDepth 100000 in
theorem lifted (os : Os) (started : os.Started) (H : Type) (enc : TypeId × Value → H) :
    ReturnsInHanded {} Try.checked os 4 .any (Rows.coinSumsSpec.pre6 enc Try.prog Try.f4 Rows.coinSumsRow.domain false) (Rows.coinSumsSpec.post enc Try.prog Try.f4 false true false false) := by
  refine returnsInHanded_of_change (C := Try.checked) own started (by kernel_rfl) Try.func4
    (ChangeSpec.witness6 (enc := enc) (C := Try.checked) false ⟨#[], #[.slice none 0 0, .int .i64 0, .int .i64 0], []⟩ 8 (by kernel_rfl) (by kernel_rfl) (by kernel_rfl) (by kernel_rfl)) ?_
  intro W base args ds gs before hval0 hW hcnd _
  have hval : ∀ (j : Nat) t v, Try.f4.params[j]? = some t → args[j]? = some v → Value.okWide Try.prog W .any base t v := hval0
  have hW' := hW
  obtain ⟨p, q, hA0, hV, rfl, hfz, hnd⟩ := hW
  have hA : DataW.TrodAll enc Try.prog W 0 (fun _ => true) true Try.f4.params.toList args.toList ds p := hA0
  rw [Try.params4] at hA hval
  obtain ⟨v0, vs0, d0, ds0, p0, q0, hargs, rfl, rfl, h0, r0⟩ := trodAll_cons hA
  obtain ⟨v1, vs1, d1, ds1, p1, q1, rfl, rfl, rfl, h1, r1⟩ := trodAll_cons r0
  obtain ⟨v2, vs2, d2, ds2, p2, q2, rfl, rfl, rfl, h2, r2⟩ := trodAll_cons r1
  obtain ⟨rfl, rfl, rfl⟩ := trodAll_nil r2
  obtain rfl : args = #[v0, v1, v2] := by cases args; simp_all
  obtain ⟨rfl, rfl⟩ := trodVars_none hV
  obtain ⟨a0, len0, cap0, rfl⟩ := okWide_slice Try.underlying24 (hval 0 24 v0 rfl rfl)
  have k0 := h0
  have lt0 : ∀ x ∈ p0, x.block < W.heap.size := by obtain ⟨m, hm⟩ := k0; exact DataW.trod_lt m _ _ _ hm
  obtain ⟨z0, w0⟩ : ∃ zs, IsRow .i64 W a0 len0 cap0 zs := by
    obtain ⟨fuel, hf⟩ := h0
    rcases open_ints Try.underlying24 Try.underlying3 (by kernel_rfl) hf with ⟨hcs, _⟩ | ⟨x, l, c, zs, hcs, _, hl, hm, hz, _, hcell, hwz⟩
    · simp [Value.cells] at hcs
      obtain ⟨rfl, rfl, rfl⟩ := hcs
      exact ⟨[], .inl ⟨rfl, rfl, rfl, rfl⟩⟩
    · simp [Value.cells] at hcs
      obtain ⟨rfl, rfl, rfl⟩ := hcs
      exact ⟨zs, .inr ⟨_, rfl, hl, hm, by simpa using hz, hcell, hwz⟩⟩
  obtain ⟨a1, rfl, rfl, rfl, w1⟩ := open_int Try.underlying3 (hval 1 3 v1 rfl rfl) h1
  obtain ⟨a2, rfl, rfl, rfl, w2⟩ := open_int Try.underlying3 (hval 2 3 v2 rfl rfl) h2
  clear hA0 hval0
  refine (walk a0 len0 cap0 z0 a1 a2 W w0 w1 w2).mono fun e W' ⟨he, bel⟩ => ?_
  subst he
  exact ⟨_, rfl, _, _, _, [], _, [], hW', trodAll_mk1 (shut_bool Try.underlying4 _), (trodAll_cons_mk (Below.trod laidOut (by kernel_rfl) (of_decide_eq_true (by kernel_rfl)) k0 bel lt0) (trodAll_cons_mk (shut_int Try.underlying3 w1) (trodAll_cons_mk (shut_int Try.underlying3 w2) trodAll_mk0))), rfl, bel.frame _, fun h => by cases h⟩

theorem over : Rows.coinSumsRow.holds Try.pinned (OpenSpec.ofChange Rows.coinSumsSpec) :=
  OpenClaim.holds_of_wide 4 Try.f4 rfl rfl rfl rfl rfl rfl rfl ⟨rfl, rfl, rfl, rfl, rfl⟩ rfl rfl rfl rfl rfl (by kernel_rfl) Try.func4 (by kernel_rfl)
    (of_decide_eq_true (by kernel_rfl)) (by unfold Func.isWrapper; first | (rw [if_pos (by decide +kernel)]; kernel_rfl) | (rw [if_neg (by decide +kernel)]; exact ⟨rfl, rfl⟩))
    (fun os started H enc _ => lifted os started H enc)

/-- ████ THE STATEMENT ████ -/
theorem proved : Rows.CoinSumsSaid := over
#print axioms proved
end Go.Proofs.Ytoacgkgadecddaa.coinSums

namespace Go.Proofs.Ytoacgkgadecddaa
theorem coinSums_holds : Rows.CoinSumsSaid := coinSums.proved
end Go.Proofs.Ytoacgkgadecddaa
