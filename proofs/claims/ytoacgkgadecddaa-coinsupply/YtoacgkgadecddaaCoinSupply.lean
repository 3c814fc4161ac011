/- Proved: for every int, the law CoinSupply returns true and its argument reads behind the call as it did before; no condition.
   The frame of the row is the guide's own shell. -/
import Derived.Test.YtoacgkgadecddaaRows
import Derived.Test.YtoacgkgadecddaaSupply
import Derived.WalkKit
import Derived.ProofKit
import Derived.OpenShut
import Derived.ShutString
import Derived.Below
namespace Go.Proofs.Ytoacgkgadecddaa.coinSupply
open Go.ChangeShapes Go.WideShapes Go.ChangeAt Go.RowKit
open Go.ChangeMaps (open_string shut_string)
set_option linter.unusedVariables false      -- a walk need not use every 'w<i>' (that an integer argument fits its kind)

theorem own : ownKnob Try.prog.godebug = none := by kernel_rfl

/-- The three numbers of the law, under names of their own. -/
theorem three (a : Int) (h1 : 1 ≤ a) (h2 : a ≤ 1000) : ∃ n s t : Int, 0 ≤ n ∧ n ≤ 64 ∧ 0 ≤ s ∧ s ≤ 64000 ∧ (t != s + n) = false ∧
    (∀ w, Calls Try.prog 14 #[.int .i64 a] w fun e w' => e = .returned (.tuple #[.int .i64 n, .int .i64 0]) ∧ w = w') ∧
    (∀ w, Calls Try.prog 15 #[.int .i64 (a - 1)] w fun e w' => e = .returned (.tuple #[.int .i64 s, .int .i64 0]) ∧ Below w.heap.size w w') ∧
    (∀ w, Calls Try.prog 15 #[.int .i64 a] w fun e w' => e = .returned (.tuple #[.int .i64 t, .int .i64 0]) ∧ Below w.heap.size w w') ∧
    (a < 1000 → ∃ m : Int, m ≤ n ∧ ∀ w, Calls Try.prog 14 #[.int .i64 (a + 1)] w fun e w' => e = .returned (.tuple #[.int .i64 m, .int .i64 0]) ∧ w = w') := by
  have b1 := rew_bd a.toNat
  have b2 := sup_bd (a - 1).toNat
  refine ⟨rew a.toNat, sup (a - 1).toNat, sup a.toNat, b1.1, b1.2, b2.1, by omega, ?_, fun w => reward_int a w h1 h2, fun w => supply_int (a - 1) w (by omega) (by omega), fun w => supply_int a w (by omega) h2, fun h => ⟨rew (a + 1).toNat, ?_, fun w => reward_int (a + 1) w (by omega) (by omega)⟩⟩
  · obtain ⟨m, rfl⟩ : ∃ m : Nat, a = (m : Int) + 1 := ⟨(a - 1).toNat, by omega⟩
    have e1 : ((m : Int) + 1).toNat = m + 1 := by omega
    have e2 : ((m : Int) + 1 - 1).toNat = m := by omega
    rw [e1, e2, sup]
    simp
  · have e1 : (a + 1).toNat = a.toNat + 1 := by omega
    rw [e1]; exact rew_le _ (by omega)

set_option maxHeartbeats 800000 in
theorem walk (a0 : Int) (w0 : (Lit.int .i64 a0).wf = true) (w : World) :
    Calls Try.prog 6 #[.int .i64 a0] w fun e w' => e = .returned (.bool true) ∧ Below w.heap.size w w' := by
  by_cases hr : a0 < 1 ∨ 1000 < a0
  · go_enter Try.func6, Try.ntmps6
    go_wp2_with fail
    refine (reward_no _ _ hr).mono ?_
    rintro e w' ⟨rfl, rfl⟩
    go_wp2_with fail
    refine (summed_yes _).mono ?_
    rintro e w1 ⟨rfl, hb1⟩
    go_wp2_with fail
    refine (summed_yes _).mono ?_
    rintro e w2 ⟨rfl, hb2⟩
    go_wp2
    go_ret
    exact ⟨rfl, hb1.trans (hb2.mono hb1.size)⟩
  · have r1 : 1 ≤ a0 := by omega
    have r2 : a0 ≤ 1000 := by omega
    clear hr
    obtain ⟨n, s, t, n0, n1, s0, s1, ht, c1, c2, c3, c4⟩ := three a0 r1 r2
    have C1 := hide c1
    have C2 := hide c2
    have C3 := hide c3
    have C4 := hide c4
    clear c1 c2 c3 c4
    by_cases hm : a0 < 1000
    · obtain ⟨m, hmn, c5⟩ := (unhide C4) hm
      have C5 := hide c5
      clear c5
      go_enter Try.func6, Try.ntmps6
      go_wp2_with fail
      refine ((unhide C1) _).mono ?_
      rintro e w' ⟨rfl, rfl⟩
      go_wp2_with fail
      refine (summed_yes _).mono ?_
      rintro e w1 ⟨rfl, hb1⟩
      go_wp2_with fail
      refine ((unhide C2) _).mono ?_
      rintro e w2 ⟨rfl, hb2⟩
      go_wp2_with fail
      refine ((unhide C3) _).mono ?_
      rintro e w3 ⟨rfl, hb3⟩
      go_wp2_with fail
      refine ((unhide C5) _).mono ?_
      rintro e w' ⟨rfl, rfl⟩
      go_wp2
      go_ret
      exact ⟨rfl, (hb1.trans (hb2.mono hb1.size)).trans (hb3.mono (Nat.le_trans hb1.size hb2.size))⟩
    · have e0 : a0 = 1000 := by omega
      subst e0
      clear hm C4
      go_enter Try.func6, Try.ntmps6
      go_wp2_with fail
      refine ((unhide C1) _).mono ?_
      rintro e w' ⟨rfl, rfl⟩
      go_wp2_with fail
      refine (summed_yes _).mono ?_
      rintro e w1 ⟨rfl, hb1⟩
      go_wp2_with fail
      refine ((unhide C2) _).mono ?_
      rintro e w2 ⟨rfl, hb2⟩
      go_wp2_with fail
      refine ((unhide C3) _).mono ?_
      rintro e w3 ⟨rfl, hb3⟩
      go_wp2_with fail
      refine (reward_no _ _ (by decide)).mono ?_
      rintro e w' ⟨rfl, rfl⟩
      go_wp2
      go_ret
      exact ⟨rfl, (hb1.trans (hb2.mono hb1.size)).trans (hb3.mono (Nat.le_trans hb1.size hb2.size))⟩

/-! ### THE ROW's STEP: WRITTEN OUT: LEAVE IT -/
set_option maxRecDepth 100000 in
theorem lifted (os : Os) (started : os.Started) (H : Type) (enc : TypeId × Value → H) :
    ReturnsInHanded {} Try.checked os 6 .any (Rows.coinSupplySpec.pre6 enc Try.prog Try.f6 Rows.coinSupplyRow.domain false) (Rows.coinSupplySpec.post enc Try.prog Try.f6 false true false false) := by
  refine returnsInHanded_of_change (C := Try.checked) own started (by kernel_rfl) Try.func6
    (ChangeSpec.witness6 (enc := enc) (C := Try.checked) false ⟨#[], #[.int .i64 0], []⟩ 8 (by kernel_rfl) (by kernel_rfl) (by kernel_rfl) (by kernel_rfl)) ?_
  intro W base args ds gs before hval0 hW hcnd _
  have hval : ∀ (j : Nat) t v, Try.f6.params[j]? = some t → args[j]? = some v → Value.okWide Try.prog W .any base t v := hval0
  have hW' := hW
  obtain ⟨p, q, hA0, hV, rfl, hfz, hnd⟩ := hW
  have hA : DataW.TrodAll enc Try.prog W 0 (fun _ => true) true Try.f6.params.toList args.toList ds p := hA0
  rw [Try.params6] at hA hval
  obtain ⟨v0, vs0, d0, ds0, p0, q0, hargs, rfl, rfl, h0, r0⟩ := trodAll_cons hA
  obtain ⟨rfl, rfl, rfl⟩ := trodAll_nil r0
  obtain rfl : args = #[v0] := by cases args; simp_all
  obtain ⟨rfl, rfl⟩ := trodVars_none hV
  obtain ⟨a0, rfl, rfl, rfl, w0⟩ := open_int Try.underlying3 (hval 0 3 v0 rfl rfl) h0
  clear hA0 hval0
  refine (walk a0 w0 W).mono fun e W' ⟨he, bel⟩ => ?_
  subst he
  exact ⟨_, rfl, _, _, _, [], _, [], hW', trodAll_mk1 (shut_bool Try.underlying4 _), (trodAll_cons_mk (shut_int Try.underlying3 w0) trodAll_mk0), rfl, bel.frame _, fun h => by cases h⟩

theorem over : Rows.coinSupplyRow.holds Try.pinned (OpenSpec.ofChange Rows.coinSupplySpec) :=
  OpenClaim.holds_of_wide 6 Try.f6 rfl rfl rfl rfl rfl rfl rfl ⟨rfl, rfl, rfl, rfl, rfl⟩ rfl rfl rfl rfl rfl (by kernel_rfl) Try.func6 (by kernel_rfl)
    (of_decide_eq_true (by kernel_rfl)) (by unfold Func.isWrapper; first | (rw [if_pos (by decide +kernel)]; kernel_rfl) | (rw [if_neg (by decide +kernel)]; exact ⟨rfl, rfl⟩))
    (fun os started H enc _ => lifted os started H enc)

/-- ████ THE STATEMENT ████ -/
theorem proved : Rows.CoinSupplySaid :=
  over
#print axioms proved
end Go.Proofs.Ytoacgkgadecddaa.coinSupply

namespace Go.Proofs.Ytoacgkgadecddaa
theorem coinSupply_holds : Rows.CoinSupplySaid := coinSupply.proved
end Go.Proofs.Ytoacgkgadecddaa
