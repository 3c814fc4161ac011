/- Proved: whatever coins, transaction, name and spent coins are handed in, the law UnspentRevert returns true, and what was handed in reads as it did before. No condition. -/
import Derived.Test.YtakcleadfcelmaaGreatCoinThereToUnRevertW
import Derived.Test.YtakcleadfcelmaaGreatCoinFrame
import Derived.Test.YtakcleadfcelmaaGreatRows
import Derived.Test.YtakcleadfcelmaaGreatChecked
namespace Go.Proofs.YtakcleadfcelmaaGreat.unspentRevert
open Go.ChangeShapes Go.WideShapes Go.ChangeAt Go.RowKit

theorem Tryz.cellsUndo : Tryz.prog.cellsOf 28 = 1 := by kernel_rfl
theorem Tryz.cellsCoins : Tryz.prog.cellsOf 22 = 1 := by kernel_rfl
theorem undo_full {H : Type} {enc : TypeId × Value → H} {W : World} {sp : Nat → Bool} {held : Bool} {fuel : Nat} {cs : List Value} {x : DataW H × List MemPlace} (h : DataW.trod enc Tryz.prog W 0 sp held fuel 28 cs = some x) : ∃ a n c S, cs = [.slice a n c] ∧ CoinsAt W a n S := by
  obtain ⟨y0, k, _, hl, h0⟩ := trod_struct1 Tryz.underlying28 h
  rw [Tryz.cellsUndo] at hl
  obtain ⟨c0, rfl⟩ := List.length_eq_one_iff.1 hl
  simp [Tryz.cellsCoins] at h0
  obtain ⟨a, n, c, S, rfl, hS, _⟩ := coins_full h0
  exact ⟨a, n, c, S, rfl, hS⟩

set_option maxRecDepth 100000 in
theorem lifted (os : Os) (started : os.Started) (H : Type) (enc : TypeId × Value → H) :
    ReturnsInHanded {} Tryz.checked os 4 .any (Rows.unspentRevertSpec.pre6 enc Tryz.prog Tryz.f4 Rows.unspentRevertRow.domain false) (Rows.unspentRevertSpec.post enc Tryz.prog Tryz.f4 false true false false) := by
  refine returnsInHanded_of_change_sized (C := Tryz.checked) own started (by kernel_rfl) Tryz.func4
    (ChangeSpec.witness6 (enc := enc) (C := Tryz.checked) false ⟨#[], #[.slice none 0 0, .agg #[.int .i64 0, .slice none 0 0, .slice none 0 0], .int .i64 0, .agg #[.slice none 0 0]], []⟩ 8 (by kernel_rfl) (by kernel_rfl) (by kernel_rfl) (by kernel_rfl)) ?_
  intro W base args ds gs before hval0 hW hcnd hsz0 _
  have hval : ∀ (j : Nat) t v, Tryz.f4.params[j]? = some t → args[j]? = some v → Value.okWide Tryz.prog W .any base t v := hval0
  have hW' := hW
  obtain ⟨p, q, hA0, hV, rfl, hfz, hnd⟩ := hW
  have hA : DataW.TrodAll enc Tryz.prog W 0 (fun _ => true) true Tryz.f4.params.toList args.toList ds p := hA0
  rw [Tryz.params4] at hA hval
  obtain ⟨v0, vs0, d0, ds0, p0, q0, hargs, rfl, rfl, h0, r0⟩ := trodAll_cons hA
  obtain ⟨v1, vs1, d1, ds1, p1, q1, rfl, rfl, rfl, h1, r1⟩ := trodAll_cons r0
  obtain ⟨v2, vs2, d2, ds2, p2, q2, rfl, rfl, rfl, h2, r2⟩ := trodAll_cons r1
  obtain ⟨v3, vs3, d3, ds3, p3, q3, rfl, rfl, rfl, h3, r3⟩ := trodAll_cons r2
  obtain ⟨rfl, rfl, rfl⟩ := trodAll_nil r3
  obtain rfl : args = #[v0, v1, v2, v3] := by cases args; simp_all
  obtain ⟨rfl, rfl⟩ := trodVars_none hV
  obtain ⟨a0, n0, c0, rfl⟩ := okWide_slice Tryz.underlying22 (hval 0 22 v0 rfl rfl)
  obtain ⟨cs1, rfl, _⟩ := okWide_struct Tryz.underlying26 (hval 1 26 v1 rfl rfl)
  obtain ⟨m2, rfl, rfl, rfl, w2⟩ := open_int Tryz.underlying3 (hval 2 3 v2 rfl rfl) h2
  obtain ⟨cs3, rfl, _⟩ := okWide_struct Tryz.underlying28 (hval 3 28 v3 rfl rfl)
  have k0 := h0
  have k1 := h1
  have k3 := h3
  have lt0 : ∀ x ∈ p0, x.block < W.heap.size := by obtain ⟨m, hm⟩ := k0; exact DataW.trod_lt m _ _ _ hm
  have lt1 : ∀ x ∈ p1, x.block < W.heap.size := by obtain ⟨m, hm⟩ := k1; exact DataW.trod_lt m _ _ _ hm
  have lt3 : ∀ x ∈ p3, x.block < W.heap.size := by obtain ⟨m, hm⟩ := k3; exact DataW.trod_lt m _ _ _ hm
  obtain ⟨fu0, hf0⟩ := h0
  obtain ⟨fu3, hf3⟩ := h3
  obtain ⟨fu1, hf1⟩ := h1
  obtain ⟨a, n, c, L, hcs0, hL, sL⟩ := coins_full (v := .slice a0 n0 c0) (by simpa [Value.cells] using hf0)
  obtain ⟨rfl, rfl, rfl⟩ : a0 = a ∧ n0 = n ∧ c0 = c := by injection hcs0 with e1 e2 e3; exact ⟨e1, e2, e3⟩
  obtain ⟨h, ai, ni, ci, ao, no, co, I, O, hcs, hI, hO, sI, sO⟩ := tx_open hf1
  obtain rfl : cs1 = #[.int .i64 h, .slice ai ni ci, .slice ao no co] := by
    cases cs1; simpa [Value.cells] using hcs
  obtain ⟨sa, ns, cs, S, hcs3, hS⟩ := undo_full hf3
  obtain rfl : cs3 = #[.slice sa ns cs] := by
    cases cs3; simpa [Value.cells] using hcs3
  clear hA0 hval0
  refine (lawRevert_any a0 n0 c0 L h ai ao ni ci no co I O m2 sa ns cs S W hL sL hI hO sI hS).mono fun e W' ⟨he, bel⟩ => ?_
  subst he
  exact ⟨_, rfl, _, _, _, [], _, [], hW', trodAll_mk1 (shut_bool Tryz.underlying4 _), (trodAll_cons_mk (Below.trod laidOut (by kernel_rfl) (of_decide_eq_true (by kernel_rfl)) k0 bel lt0) (trodAll_cons_mk (Below.trod laidOut (by kernel_rfl) (of_decide_eq_true (by kernel_rfl)) k1 bel lt1) (trodAll_cons_mk (shut_int Tryz.underlying3 w2) (trodAll_cons_mk (Below.trod laidOut (by kernel_rfl) (of_decide_eq_true (by kernel_rfl)) k3 bel lt3) trodAll_mk0)))), rfl, bel.frame _, fun h => by cases h⟩

theorem over : Rows.unspentRevertRow.holds Tryz.pinned (OpenSpec.ofChange Rows.unspentRevertSpec) :=
  OpenClaim.holds_of_wide 4 Tryz.f4 rfl rfl rfl rfl rfl rfl rfl ⟨rfl, rfl, rfl, rfl, rfl⟩ rfl rfl rfl rfl rfl (by kernel_rfl) Tryz.func4 (by kernel_rfl)
    (of_decide_eq_true (by kernel_rfl)) (by unfold Func.isWrapper; first | (rw [if_pos (by decide +kernel)]; kernel_rfl) | (rw [if_neg (by decide +kernel)]; exact ⟨rfl, rfl⟩))
    (fun os started H enc _ => lifted os started H enc)

theorem proved : Rows.UnspentRevertSaid := over
#print axioms proved
end Go.Proofs.YtakcleadfcelmaaGreat.unspentRevert

namespace Go.Proofs.YtakcleadfcelmaaGreat
theorem unspentRevert_holds : Rows.UnspentRevertSaid := unspentRevert.proved
end Go.Proofs.YtakcleadfcelmaaGreat
