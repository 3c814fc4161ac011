/- Proved: whatever tree and order are handed in, the law TreeOrder returns true, and what was handed in reads as it did before. No condition. -/
import Derived.Test.YtklekpbladmjhaaTrOrderW
import Derived.Test.YtklekpbladmjhaaTrFrame
import Derived.Test.YtklekpbladmjhaaRows
import Derived.Test.YtklekpbladmjhaaChecked
namespace Go.Proofs.Ytklekpbladmjhaa.treeOrder
open Go.ChangeShapes Go.WideShapes Go.ChangeAt Go.RowKit

theorem law_any (a b oa : Option Addr) (n c m d on oc : Nat) (N : List Int) (T : List BlkD) (O : List Int) (w : World) (hN : IntsAt w a n N) (hT : BlksAt w b m T) (sN : SlOk a n c) (sT : SlOk b m d) (hO : IntsAt w oa on O) (sO : SlOk oa on oc) :
    Calls Try.prog 5 #[.agg #[.slice a n c, .slice b m d], .slice oa on oc] w fun e w' => e = .returned (.bool true) ∧ Below w.heap.size w w' := by
  by_cases h0 : chkTr N T = 0
  · obtain rfl : n = m := by rw [← hN.1, ← hT.1, (chkTr_ok h0).1]
    exact order_ok a b oa n c d on oc N T O w hN hT sN sT hO sO h0
  · exact order_bad a b oa n c m d on oc N T _ w hN hT sN sT rfl h0

set_option maxRecDepth 100000 in
theorem lifted (os : Os) (started : os.Started) (H : Type) (enc : TypeId × Value → H) :
    ReturnsInHanded {} Try.checked os 5 .any (Rows.treeOrderSpec.pre6 enc Try.prog Try.f5 Rows.treeOrderRow.domain false) (Rows.treeOrderSpec.post enc Try.prog Try.f5 false true false false) := by
  refine returnsInHanded_of_change_sized (C := Try.checked) own started (by kernel_rfl) Try.func5
    (ChangeSpec.witness6 (enc := enc) (C := Try.checked) false ⟨#[], #[.agg #[.slice none 0 0, .slice none 0 0], .slice none 0 0], []⟩ 8 (by kernel_rfl) (by kernel_rfl) (by kernel_rfl) (by kernel_rfl)) ?_
  intro W base args ds gs before hval0 hW hcnd hsz0 _
  have hval : ∀ (j : Nat) t v, Try.f5.params[j]? = some t → args[j]? = some v → Value.okWide Try.prog W .any base t v := hval0
  have hW' := hW
  obtain ⟨p, q, hA0, hV, rfl, hfz, hnd⟩ := hW
  have hA : DataW.TrodAll enc Try.prog W 0 (fun _ => true) true Try.f5.params.toList args.toList ds p := hA0
  rw [Try.params5] at hA hval
  obtain ⟨v0, vs0, d0, ds0, p0, q0, hargs, rfl, rfl, h0, r0⟩ := trodAll_cons hA
  obtain ⟨v1, vs1, d1, ds1, p1, q1, rfl, rfl, rfl, h1, r1⟩ := trodAll_cons r0
  obtain ⟨rfl, rfl, rfl⟩ := trodAll_nil r1
  obtain rfl : args = #[v0, v1] := by cases args; simp_all
  obtain ⟨rfl, rfl⟩ := trodVars_none hV
  obtain ⟨cs0, rfl, _⟩ := okWide_struct Try.underlying25 (hval 0 25 v0 rfl rfl)
  obtain ⟨a1, n1, c1, rfl⟩ := okWide_slice Try.underlying22 (hval 1 22 v1 rfl rfl)
  have k0 := h0
  have k1 := h1
  have lt0 : ∀ x ∈ p0, x.block < W.heap.size := by obtain ⟨m, hm⟩ := k0; exact DataW.trod_lt m _ _ _ hm
  have lt1 : ∀ x ∈ p1, x.block < W.heap.size := by obtain ⟨m, hm⟩ := k1; exact DataW.trod_lt m _ _ _ hm
  obtain ⟨fu0, hf0⟩ := h0
  obtain ⟨fu1, hf1⟩ := h1
  obtain ⟨a, n, c, b, m, d, N, T, hcs, hN, sN, hT, sT⟩ := tree_full hf0
  obtain ⟨oa, on, oc, O, hcs1, hO, sO⟩ := ints_full (v := .slice a1 n1 c1) (by simpa [Value.cells] using hf1)
  obtain ⟨rfl, rfl, rfl⟩ : a1 = oa ∧ n1 = on ∧ c1 = oc := by injection hcs1 with e1 e2 e3; exact ⟨e1, e2, e3⟩
  obtain rfl : cs0 = #[.slice a n c, .slice b m d] := by
    cases cs0; simpa [Value.cells] using hcs
  clear hA0 hval0
  refine (law_any a b a1 n c m d n1 c1 N T O W hN hT sN sT hO sO).mono fun e W' ⟨he, bel⟩ => ?_
  subst he
  exact ⟨_, rfl, _, _, _, [], _, [], hW', trodAll_mk1 (shut_bool Try.underlying4 _), (trodAll_cons_mk (Below.trod laidOut (by kernel_rfl) (of_decide_eq_true (by kernel_rfl)) k0 bel lt0) (trodAll_cons_mk (Below.trod laidOut (by kernel_rfl) (of_decide_eq_true (by kernel_rfl)) k1 bel lt1) trodAll_mk0)), rfl, bel.frame _, fun h => by cases h⟩

theorem over : Rows.treeOrderRow.holds Try.pinned (OpenSpec.ofChange Rows.treeOrderSpec) :=
  OpenClaim.holds_of_wide 5 Try.f5 rfl rfl rfl rfl rfl rfl rfl ⟨rfl, rfl, rfl, rfl, rfl⟩ rfl rfl rfl rfl rfl (by kernel_rfl) Try.func5 (by kernel_rfl)
    (of_decide_eq_true (by kernel_rfl)) (by unfold Func.isWrapper; first | (rw [if_pos (by decide +kernel)]; kernel_rfl) | (rw [if_neg (by decide +kernel)]; exact ⟨rfl, rfl⟩))
    (fun os started H enc _ => lifted os started H enc)

theorem proved : Rows.TreeOrderSaid := over
#print axioms proved
end Go.Proofs.Ytklekpbladmjhaa.treeOrder

namespace Go.Proofs.Ytklekpbladmjhaa
theorem treeOrder_holds : Rows.TreeOrderSaid := treeOrder.proved
end Go.Proofs.Ytklekpbladmjhaa
