/- Proved: whatever coins, point and lock are handed in, the law UnspentFinds returns true, and what was handed in reads as it did before. No condition. -/
import Derived.Test.YtklpajhgfdpboaaCoinFindsW
import Derived.Test.YtklpajhgfdpboaaCoinFrame
import Derived.Test.YtklpajhgfdpboaaRows
import Derived.Test.YtklpajhgfdpboaaChecked
namespace Go.Proofs.Ytklpajhgfdpboaa.unspentFinds
open Go.ChangeShapes Go.WideShapes Go.ChangeAt Go.RowKit

theorem point_full {H : Type} {enc : TypeId × Value → H} {W : World} {sp : Nat → Bool} {held : Bool} {fuel : Nat} {cs : List Value} {x : DataW H × List MemPlace} (h : DataW.trod enc Try.prog W 0 sp held fuel 24 cs = some x) : ∃ x1 x2, cs = [.int .i64 x1, .int .i64 x2] := by
  obtain ⟨z0, z1, k2, _, hl, g0, g1⟩ := trod_struct2 Try.underlying24 h
  rw [Try.cellsPoint] at hl
  obtain ⟨c0, c1, rfl⟩ := list_two hl
  simp [Try.cells3] at g0 g1
  obtain ⟨x1, e1, _, _⟩ := DataW.trod_int Try.underlying3 g0
  obtain ⟨x2, e2, _, _⟩ := DataW.trod_int Try.underlying3 g1
  simp only [List.cons.injEq, and_true] at e1 e2
  subst e1 e2
  exact ⟨x1, x2, rfl⟩

set_option maxRecDepth 100000 in
theorem lifted (os : Os) (started : os.Started) (H : Type) (enc : TypeId × Value → H) :
    ReturnsInHanded {} Try.checked os 3 .any (Rows.unspentFindsSpec.pre6 enc Try.prog Try.f3 Rows.unspentFindsRow.domain false) (Rows.unspentFindsSpec.post enc Try.prog Try.f3 false true false false) := by
  refine returnsInHanded_of_change_sized (C := Try.checked) own started (by kernel_rfl) Try.func3
    (ChangeSpec.witness6 (enc := enc) (C := Try.checked) false ⟨#[], #[.slice none 0 0, .agg #[.int .i64 0, .int .i64 0], .slice none 0 0, .slice none 0 0], []⟩ 8 (by kernel_rfl) (by kernel_rfl) (by kernel_rfl) (by kernel_rfl)) ?_
  intro W base args ds gs before hval0 hW hcnd hsz0 _
  have hval : ∀ (j : Nat) t v, Try.f3.params[j]? = some t → args[j]? = some v → Value.okWide Try.prog W .any base t v := hval0
  have hW' := hW
  obtain ⟨p, q, hA0, hV, rfl, hfz, hnd⟩ := hW
  have hA : DataW.TrodAll enc Try.prog W 0 (fun _ => true) true Try.f3.params.toList args.toList ds p := hA0
  rw [Try.params3] at hA hval
  obtain ⟨v0, vs0, d0, ds0, p0, q0, hargs, rfl, rfl, h0, r0⟩ := trodAll_cons hA
  obtain ⟨v1, vs1, d1, ds1, p1, q1, rfl, rfl, rfl, h1, r1⟩ := trodAll_cons r0
  obtain ⟨v2, vs2, d2, ds2, p2, q2, rfl, rfl, rfl, h2, r2⟩ := trodAll_cons r1
  obtain ⟨v3, vs3, d3, ds3, p3, q3, rfl, rfl, rfl, h3, r3⟩ := trodAll_cons r2
  obtain ⟨rfl, rfl, rfl⟩ := trodAll_nil r3
  obtain rfl : args = #[v0, v1, v2, v3] := by cases args; simp_all
  obtain ⟨rfl, rfl⟩ := trodVars_none hV
  obtain ⟨a0, n0, c0, rfl⟩ := okWide_slice Try.underlying22 (hval 0 22 v0 rfl rfl)
  obtain ⟨cs1, rfl, _⟩ := okWide_struct Try.underlying24 (hval 1 24 v1 rfl rfl)
  obtain ⟨a2, n2, c2, rfl⟩ := okWide_slice Try.underlying25 (hval 2 25 v2 rfl rfl)
  obtain ⟨a3, n3, c3, rfl⟩ := okWide_slice Try.underlying22 (hval 3 22 v3 rfl rfl)
  have k0 := h0
  have k1 := h1
  have k2 := h2
  have k3 := h3
  have lt0 : ∀ x ∈ p0, x.block < W.heap.size := by obtain ⟨m, hm⟩ := k0; exact DataW.trod_lt m _ _ _ hm
  have lt1 : ∀ x ∈ p1, x.block < W.heap.size := by obtain ⟨m, hm⟩ := k1; exact DataW.trod_lt m _ _ _ hm
  have lt2 : ∀ x ∈ p2, x.block < W.heap.size := by obtain ⟨m, hm⟩ := k2; exact DataW.trod_lt m _ _ _ hm
  have lt3 : ∀ x ∈ p3, x.block < W.heap.size := by obtain ⟨m, hm⟩ := k3; exact DataW.trod_lt m _ _ _ hm
  obtain ⟨fu0, hf0⟩ := h0
  obtain ⟨fu1, hf1⟩ := h1
  obtain ⟨fu2, hf2⟩ := h2
  obtain ⟨fu3, hf3⟩ := h3
  obtain ⟨a, n, c, L, hcs0, hL, sL⟩ := coins_full (v := .slice a0 n0 c0) (by simpa [Value.cells] using hf0)
  obtain ⟨rfl, rfl, rfl⟩ : a0 = a ∧ n0 = n ∧ c0 = c := by injection hcs0 with e1 e2 e3; exact ⟨e1, e2, e3⟩
  obtain ⟨m1, m2, hcs⟩ := point_full hf1
  obtain rfl : cs1 = #[.int .i64 m1, .int .i64 m2] := by
    cases cs1; simpa [Value.cells] using hcs
  obtain ⟨ka, kn, kc, K, hcs2, hK, _⟩ := ops_full (v := .slice a2 n2 c2) (by simpa [Value.cells] using hf2)
  obtain ⟨rfl, rfl, rfl⟩ : a2 = ka ∧ n2 = kn ∧ c2 = kc := by injection hcs2 with e1 e2 e3; exact ⟨e1, e2, e3⟩
  obtain ⟨am, nm, cm, M, hcs3, hM, _⟩ := coins_full (v := .slice a3 n3 c3) (by simpa [Value.cells] using hf3)
  obtain ⟨rfl, rfl, rfl⟩ : a3 = am ∧ n3 = nm ∧ c3 = cm := by injection hcs3 with e1 e2 e3; exact ⟨e1, e2, e3⟩
  clear hA0 hval0
  refine (lawFinds_any a0 n0 c0 L m1 m2 a2 n2 c2 K a3 n3 c3 M W hL sL hK hM).mono fun e W' ⟨he, bel⟩ => ?_
  subst he
  exact ⟨_, rfl, _, _, _, [], _, [], hW', trodAll_mk1 (shut_bool Try.underlying4 _), (trodAll_cons_mk (Below.trod laidOut (by kernel_rfl) (of_decide_eq_true (by kernel_rfl)) k0 bel lt0) (trodAll_cons_mk (Below.trod laidOut (by kernel_rfl) (of_decide_eq_true (by kernel_rfl)) k1 bel lt1) (trodAll_cons_mk (Below.trod laidOut (by kernel_rfl) (of_decide_eq_true (by kernel_rfl)) k2 bel lt2) (trodAll_cons_mk (Below.trod laidOut (by kernel_rfl) (of_decide_eq_true (by kernel_rfl)) k3 bel lt3) trodAll_mk0)))), rfl, bel.frame _, fun h => by cases h⟩

theorem over : Rows.unspentFindsRow.holds Try.pinned (OpenSpec.ofChange Rows.unspentFindsSpec) :=
  OpenClaim.holds_of_wide 3 Try.f3 rfl rfl rfl rfl rfl rfl rfl ⟨rfl, rfl, rfl, rfl, rfl⟩ rfl rfl rfl rfl rfl (by kernel_rfl) Try.func3 (by kernel_rfl)
    (of_decide_eq_true (by kernel_rfl)) (by unfold Func.isWrapper; first | (rw [if_pos (by decide +kernel)]; kernel_rfl) | (rw [if_neg (by decide +kernel)]; exact ⟨rfl, rfl⟩))
    (fun os started H enc _ => lifted os started H enc)

theorem proved : Rows.UnspentFindsSaid := over
#print axioms proved
end Go.Proofs.Ytklpajhgfdpboaa.unspentFinds

namespace Go.Proofs.Ytklpajhgfdpboaa
theorem unspentFinds_holds : Rows.UnspentFindsSaid := unspentFinds.proved
end Go.Proofs.Ytklpajhgfdpboaa
