/- Proved: the closed law Names returns true; no condition.
   The frame of the row is the guide's own shell. -/
import Derived.Test.YtoacgkgadecddaaRows
import Derived.Test.YtoacgkgadecddaaRowy
import Derived.WalkKit
import Derived.ProofKit
import Derived.OpenShut
import Derived.ShutString
import Derived.Below
namespace Go.Proofs.Ytoacgkgadecddaa.names
open Go.ChangeShapes Go.WideShapes Go.ChangeAt Go.RowKit
open Go.ChangeMaps (open_string shut_string)
set_option linter.unusedVariables false      -- a walk need not use every 'w<i>' (that an integer argument fits its kind)

theorem own : ownKnob Try.prog.godebug = none := by kernel_rfl

/-- The errors' numbers, in a row. -/
theorem errs_at (w : World) (k : Nat) (h : k < 13) : (w.alloc (.cells #[.int .i64 0, .int .i64 1, .int .i64 2, .int .i64 3, .int .i64 4, .int .i64 5, .int .i64 6, .int .i64 7, .int .i64 8, .int .i64 9, .int .i64 10, .int .i64 11, .int .i64 12] 22)).cell? ⟨w.heap.size, k, none⟩ = some (.int .i64 (k : Int)) := by
  match k, h with
  | 0, _ => simp
  | 1, _ => simp
  | 2, _ => simp
  | 3, _ => simp
  | 4, _ => simp
  | 5, _ => simp
  | 6, _ => simp
  | 7, _ => simp
  | 8, _ => simp
  | 9, _ => simp
  | 10, _ => simp
  | 11, _ => simp
  | 12, _ => simp

/-- A row of ints that has just been laid. -/
theorem row_at (L : List Int) (t : TypeId) (w : World) (b : Nat) (hb : b = w.heap.size) (i : Nat) (hi : i < L.length) : (w.alloc (.cells (L.map (Value.int .i64)).toArray t)).cell? ⟨b, 0 + i, none⟩ = some (.int .i64 (L.getD i 0)) := by
  subst hb
  simp [List.getD, hi]

theorem past_at (w : World) (o : Obj) (b i : Nat) (hb : b < w.heap.size) : (w.alloc o).cell? ⟨b, 0 + i, none⟩ = w.cell? ⟨b, 0 + i, none⟩ :=
  World.cell?_of_block (w := w) (Below.heap_alloc w o b hb)

def limZ (i : Nat) : Int := ([1000000000, 16, 16, 6, 6, 4, 4000, 120, 24, 1000, 8, 4, 20, 60, 1000, 64, 8, 2] : List Int).getD i 0
def kinZ (i : Nat) : Int := ([1, 2, 3, 4, 5, 6, 7, 8, 9, 10, 11, 12, 13, 1, 2, 3, 1, 2, 3, 4, 5, 6, 7, 8] : List Int).getD i 0

theorem lim_at (w : World) (b : Nat) (hb : b = w.heap.size) (i : Nat) (hi : i < 18) : (w.alloc (.cells #[.int .i64 1000000000, .int .i64 16, .int .i64 16, .int .i64 6, .int .i64 6, .int .i64 4, .int .i64 4000, .int .i64 120, .int .i64 24, .int .i64 1000, .int .i64 8, .int .i64 4, .int .i64 20, .int .i64 60, .int .i64 1000, .int .i64 64, .int .i64 8, .int .i64 2] 3)).cell? ⟨b, 0 + i, none⟩ = some (.int .i64 (limZ i)) :=
  row_at [1000000000, 16, 16, 6, 6, 4, 4000, 120, 24, 1000, 8, 4, 20, 60, 1000, 64, 8, 2] 3 w b hb i hi
theorem kin_at (w : World) (b : Nat) (hb : b = w.heap.size) (i : Nat) (hi : i < 24) : (w.alloc (.cells #[.int .i64 1, .int .i64 2, .int .i64 3, .int .i64 4, .int .i64 5, .int .i64 6, .int .i64 7, .int .i64 8, .int .i64 9, .int .i64 10, .int .i64 11, .int .i64 12, .int .i64 13, .int .i64 1, .int .i64 2, .int .i64 3, .int .i64 1, .int .i64 2, .int .i64 3, .int .i64 4, .int .i64 5, .int .i64 6, .int .i64 7, .int .i64 8] 3)).cell? ⟨b, 0 + i, none⟩ = some (.int .i64 (kinZ i)) :=
  row_at [1, 2, 3, 4, 5, 6, 7, 8, 9, 10, 11, 12, 13, 1, 2, 3, 1, 2, 3, 4, 5, 6, 7, 8] 3 w b hb i hi

set_option maxHeartbeats 800000 in
theorem walk  (w : World) :
    Calls Try.prog 3 #[] w fun e w' => e = .returned (.bool true) ∧ Below w.heap.size w w' := by
  go_enter Try.func3, Try.ntmps3
  go_wp2
  go_loop [9] (fun i => ∃ k : Nat, k ≤ 13 ∧ i = .int .i64 k) (fun i => 13 - (intOf i).toNat)
  case atStart => exact ⟨0, Nat.zero_le _, rfl⟩
  case round =>
    obtain ⟨k, hk, rfl⟩ := hrel
    by_cases hlt : k < 13
    · have hc := errs_at w k hlt
      go_wp2
      go_round
      case rel => exact ⟨k + 1, by omega, by go_num⟩
      case measure => simp [intOf]; omega
    · go_wp2_with fail
      refine (equal_same (w.heap.size + 1) 0 (w.heap.size + 1 + 1 + 1) 0 18 18 18 limZ _ (by decide) (fun i hi => (past_at _ _ _ _ (by simp)).trans ((past_at _ _ _ _ (by simp)).trans (lim_at _ _ (by simp) i hi))) (fun i hi => lim_at _ _ (by simp) i hi)).mono ?_
      rintro e w1 ⟨rfl, m1, rfl⟩
      go_wp2_with fail
      refine (equal_same (w.heap.size + 1 + 1) 0 (w.heap.size + 1 + 1 + 1 + 1) 0 24 24 24 kinZ _ (by decide) (fun i hi => by rw [past_at _ _ _ _ (by simp), World.cell?_drewN, past_at _ _ _ _ (by simp)]; exact kin_at _ _ (by simp) i hi) (fun i hi => kin_at _ _ (by simp) i hi)).mono ?_
      rintro e w2 ⟨rfl, m2, rfl⟩
      go_wp2
      go_ret
      exact ⟨rfl, by repeat (first | exact Below.refl _ _ | apply below_drewN | refine Below.alloc ?_ (by first | (simp; done) | (simp; omega)) _)⟩

/-! ### THE ROW's STEP: WRITTEN OUT: LEAVE IT -/
set_option maxRecDepth 100000 in
theorem lifted (os : Os) (started : os.Started) (H : Type) (enc : TypeId × Value → H) :
    ReturnsInHanded {} Try.checked os 3 .any (Rows.namesSpec.pre6 enc Try.prog Try.f3 Rows.namesRow.domain false) (Rows.namesSpec.post enc Try.prog Try.f3 false true false false) := by
  refine returnsInHanded_of_change (C := Try.checked) own started (by kernel_rfl) Try.func3
    (ChangeSpec.witness6 (enc := enc) (C := Try.checked) false ⟨#[], #[], []⟩ 8 (by kernel_rfl) (by kernel_rfl) (by kernel_rfl) (by kernel_rfl)) ?_
  intro W base args ds gs before hval0 hW hcnd _
  have hval : ∀ (j : Nat) t v, Try.f3.params[j]? = some t → args[j]? = some v → Value.okWide Try.prog W .any base t v := hval0
  have hW' := hW
  obtain ⟨p, q, hA0, hV, rfl, hfz, hnd⟩ := hW
  have hA : DataW.TrodAll enc Try.prog W 0 (fun _ => true) true Try.f3.params.toList args.toList ds p := hA0
  rw [Try.params3] at hA hval
  obtain ⟨rfl, rfl, rfl⟩ := trodAll_none hA
  obtain ⟨rfl, rfl⟩ := trodVars_none hV
  clear hA0 hval0
  refine (walk  W).mono fun e W' ⟨he, bel⟩ => ?_
  subst he
  exact ⟨_, rfl, _, _, _, [], _, [], hW', trodAll_mk1 (shut_bool Try.underlying4 _), rfl, rfl, bel.frame _, fun h => by cases h⟩

theorem over : Rows.namesRow.holds Try.pinned (OpenSpec.ofChange Rows.namesSpec) :=
  OpenClaim.holds_of_wide 3 Try.f3 rfl rfl rfl rfl rfl rfl rfl ⟨rfl, rfl, rfl, rfl, rfl⟩ rfl rfl rfl rfl rfl (by kernel_rfl) Try.func3 (by kernel_rfl)
    (of_decide_eq_true (by kernel_rfl)) (by unfold Func.isWrapper; first | (rw [if_pos (by decide +kernel)]; kernel_rfl) | (rw [if_neg (by decide +kernel)]; exact ⟨rfl, rfl⟩))
    (fun os started H enc _ => lifted os started H enc)

/-- ████ THE STATEMENT ████ -/
theorem proved : Rows.NamesSaid :=
  over
#print axioms proved
end Go.Proofs.Ytoacgkgadecddaa.names

namespace Go.Proofs.Ytoacgkgadecddaa
theorem names_holds : Rows.NamesSaid := names.proved
end Go.Proofs.Ytoacgkgadecddaa
