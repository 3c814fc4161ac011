/- Whatever the book, the texts and the other text: the law BookSame answers true, and what was handed in reads as it did. No condition. -/
import Derived.Test.YtfbckhaimobbmaaBookLawT
import Derived.Test.YtfbckhaimobbmaaBookFrame
namespace Go.Proofs.Ytfbckhaimobbmaa.bookSame
open Go.ChangeShapes Go.WideShapes Go.ChangeAt Go.RowKit

theorem walk (a al : Option Addr) (n c nl cl : Nat) (L l : List ByteArray) (s u : ByteArray) (w : World) (hs : SlOk a n c) (h : TextsAt w a n L) (hl : TextsAt w al nl l) (hnl : nl ≤ 17592186044416) :
    Calls Try.prog 4 #[.agg #[.slice a n c], .string s, .slice al nl cl, .string u] w fun e w' => e = .returned (.bool true) ∧ Below w.heap.size w w' := by
  obtain ⟨r, hr⟩ : ∃ r, nameR L s = r := ⟨_, rfl⟩
  obtain ⟨M, k, e⟩ := r
  by_cases h0 : e = 0
  · subst h0
    have hc : bkChk L = 0 := by
      rcases Decidable.em (bkChk L = 0) with h1 | h1
      · exact h1
      · unfold nameR at hr; rw [if_neg h1] at hr
        injection hr with _ hr
        injection hr with _ hr
    have hM : nm L s = (M, k, 0) := by unfold nameR at hr; rw [if_pos hc] at hr; exact hr
    obtain ⟨q, hq⟩ : ∃ q, allR M l = q := ⟨_, rfl⟩
    obtain ⟨Y, N2, f⟩ := q
    by_cases h1 : f = 0
    · subst h1
      exact same_ok a al n c nl cl L l M Y N2 s u k w hs h hl hnl ((right_iff L).1 hc) hM hq
    · exact same_skip a al n c nl cl L l M Y N2 s u k f w hs h hl hnl ((right_iff L).1 hc) hM hq h1
  · exact same_bad a al n c nl cl L M s u k e w h hr h0

set_option maxRecDepth 100000 in
theorem lifted (os : Os) (started : os.Started) (H : Type) (enc : TypeId × Value → H) :
    ReturnsInHanded {} Try.checked os 4 .any (Rows.bookSameSpec.pre6 enc Try.prog Try.f4 Rows.bookSameRow.domain false) (Rows.bookSameSpec.post enc Try.prog Try.f4 false true false false) := by
  refine returnsInHanded_of_change_sized (C := Try.checked) own started (by kernel_rfl) Try.func4
    (ChangeSpec.witness6 (enc := enc) (C := Try.checked) false ⟨#[], #[.agg #[.slice none 0 0], .string ⟨#[]⟩, .slice none 0 0, .string ⟨#[]⟩], []⟩ 8 (by kernel_rfl) (by kernel_rfl) (by kernel_rfl) (by kernel_rfl)) ?_
  intro W base args ds gs before hval0 hW hcnd hsz0 _
  have hval : ∀ (j : Nat) t v, Try.f4.params[j]? = some t → args[j]? = some v → Value.okWide Try.prog W .any base t v := hval0
  have hsz : (DataW.weightsEach Try.prog (Try.f4.params.toList ++ Rows.bookSameSpec.plain.varTypes Try.prog) (ds ++ gs)).all (· ≤ reachBytes) = true := hsz0
  have hW' := hW
  obtain ⟨p, q, hA0, hV, rfl, hfz, hnd⟩ := hW
  have hA : DataW.TrodAll enc Try.prog W 0 (fun _ => true) true Try.f4.params.toList args.toList ds p := hA0
  rw [Try.params4] at hA hval hsz
  obtain ⟨v0, vs0, d0, ds0, p0, q0, hargs, rfl, rfl, h0, r0⟩ := trodAll_cons hA
  obtain ⟨v1, vs1, d1, ds1, p1, q1, rfl, rfl, rfl, h1, r1⟩ := trodAll_cons r0
  obtain ⟨v2, vs2, d2, ds2, p2, q2, rfl, rfl, rfl, h2, r2⟩ := trodAll_cons r1
  obtain ⟨v3, vs3, d3, ds3, p3, q3, rfl, rfl, rfl, h3, r3⟩ := trodAll_cons r2
  obtain ⟨rfl, rfl, rfl⟩ := trodAll_nil r3
  obtain rfl : args = #[v0, v1, v2, v3] := by cases args; simp_all
  obtain ⟨rfl, rfl⟩ := trodVars_none hV
  obtain ⟨cs0, rfl, _⟩ := okWide_struct Try.underlying24 (hval 0 24 v0 rfl rfl)
  obtain ⟨s, rfl, rfl, rfl, w1⟩ := Go.ChangeMaps.open_string Try.underlying9 (hval 1 9 v1 rfl rfl) h1
  obtain ⟨al0, nl0, cl0, rfl⟩ := okWide_slice Try.underlying22 (hval 2 22 v2 rfl rfl)
  obtain ⟨u, rfl, rfl, rfl, w3⟩ := Go.ChangeMaps.open_string Try.underlying9 (hval 3 9 v3 rfl rfl) h3
  have k0 := h0
  have lt0 : ∀ x ∈ p0, x.block < W.heap.size := by obtain ⟨m, hm⟩ := k0; exact DataW.trod_lt m _ _ _ hm
  have k2 := h2
  have lt2 : ∀ x ∈ p2, x.block < W.heap.size := by obtain ⟨m, hm⟩ := k2; exact DataW.trod_lt m _ _ _ hm
  obtain ⟨fu0, hf0⟩ := h0
  obtain ⟨a, n, c, L, hcs, hT, hS⟩ := book_full hf0
  obtain rfl : cs0 = #[.slice a n c] := by
    cases cs0; simpa [Value.cells] using hcs
  obtain ⟨fu2, hf2⟩ := h2
  obtain ⟨al, nl, cl, l, hcs2, hT2, hS2, hdat⟩ := strs_full (v := .slice al0 nl0 cl0) (by simpa [Value.cells] using hf2)
  obtain ⟨rfl, rfl, rfl⟩ : al0 = al ∧ nl0 = nl ∧ cl0 = cl := by injection hcs2 with e1 e2 e3; exact ⟨e1, e2, e3⟩
  have hnl : nl0 ≤ 17592186044416 := by
    rcases hdat with h | ⟨elems, spare, hd, hl⟩
    · omega
    · simp only at hd
      have := sized_slice hsz (j := 2) (t := 22) (e := 9) (elems := elems) (spare := spare) rfl (by rw [hd]; rfl) Try.underlying22
      rw [Try.bytes9] at this
      unfold reachBytes at this
      omega
  clear hA0 hval0
  refine (walk a al0 n c nl0 cl0 L l s u W hS hT hT2 hnl).mono fun e W' ⟨he, bel⟩ => ?_
  subst he
  exact ⟨_, rfl, _, _, _, [], _, [], hW', trodAll_mk1 (shut_bool Try.underlying4 _), (trodAll_cons_mk (Below.trod laidOut (by kernel_rfl) (of_decide_eq_true (by kernel_rfl)) k0 bel lt0) (trodAll_cons_mk (Go.ChangeMaps.shut_string Try.underlying9 w1) (trodAll_cons_mk (Below.trod laidOut (by kernel_rfl) (of_decide_eq_true (by kernel_rfl)) k2 bel lt2) (trodAll_cons_mk (Go.ChangeMaps.shut_string Try.underlying9 w3) trodAll_mk0)))), rfl, bel.frame _, fun h => by cases h⟩

theorem over : Rows.bookSameRow.holds Try.pinned (OpenSpec.ofChange Rows.bookSameSpec) :=
  OpenClaim.holds_of_wide 4 Try.f4 rfl rfl rfl rfl rfl rfl rfl ⟨rfl, rfl, rfl, rfl, rfl⟩ rfl rfl rfl rfl rfl (by kernel_rfl) Try.func4 (by kernel_rfl)
    (of_decide_eq_true (by kernel_rfl)) (by unfold Func.isWrapper; first | (rw [if_pos (by decide +kernel)]; kernel_rfl) | (rw [if_neg (by decide +kernel)]; exact ⟨rfl, rfl⟩))
    (fun os started H enc _ => lifted os started H enc)

theorem proved : Rows.BookSameSaid := over
#print axioms proved
end Go.Proofs.Ytfbckhaimobbmaa.bookSame

namespace Go.Proofs.Ytfbckhaimobbmaa
theorem bookSame_holds : Rows.BookSameSaid := bookSame.proved
end Go.Proofs.Ytfbckhaimobbmaa
