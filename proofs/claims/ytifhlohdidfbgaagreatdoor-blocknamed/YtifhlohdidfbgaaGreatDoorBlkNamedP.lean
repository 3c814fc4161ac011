/- Proved: for every book, every two blocks and every slice of texts, the law BlockNamed returns true and its arguments read behind the call as they did before: the card, its four listed variables tied to the program's text; no condition else.
   The frame of the row follows the guide's worked examples. -/
import Derived.Test.YtifhlohdidfbgaaGreatDoorLockReadOToBlkNamedW
import Derived.Test.YtifhlohdidfbgaaGreatDoorCoinFrameToLockFrame
import Derived.Test.YtifhlohdidfbgaaGreatDoorCards
import Derived.Test.YtifhlohdidfbgaaGreatDoorTie
import Derived.SevenTiedAt
namespace Go.Proofs.YtifhlohdidfbgaaGreatDoor.blockNamed
open Go.ChangeShapes Go.WideShapes Go.ChangeAt Go.RowKit

set_option maxRecDepth 100000 in
/-- The door's own heap meets the condition. -/
theorem door_met (os : Os) (args : Array Value) : laidMetH Tryz.prog Rows.blockNamedRow.laid ((World.doorLaid Tryz.prog 400 os).forCall (fun _ _ => 0) ⟨#[], args, []⟩).memory :=
  laidMetH_of_parts3 (fuel := 8) (laidMet_of_run' 8 (by kernel_rfl) (by kernel_rfl)) (by kernel_rfl) (by kernel_rfl)

theorem env_of_laid {W : World} (h : laidMetH Tryz.prog Rows.blockNamedRow.laid W) : Env W := by
  rw [MakeChecks.laidMetH_plain _ _ _ (by kernel_rfl)] at h
  obtain ⟨ps, ⟨g0, t0, cs0, f0, p0, q0, hg0, ht0, hv0, hd0, ⟨g1, t1, cs1, f1, p1, q1, hg1, ht1, hv1, hd1, ⟨g2, t2, cs2, f2, p2, q2, hg2, ht2, hv2, hd2, ⟨g3, t3, cs3, f3, p3, q3, hg3, ht3, hv3, hd3, _, _⟩, _⟩, _⟩, _⟩, _, _⟩ := h
  obtain rfl := Option.some.inj (Tryz.gTab.symm.trans hg2)
  obtain rfl := Option.some.inj (Lf.Tryz.tTab.symm.trans ht2)
  obtain rfl := Option.some.inj (Tryz.gNam.symm.trans hg3)
  obtain rfl := Option.some.inj (Lf.Tryz.tNam.symm.trans ht3)
  exact ⟨Lf.tab_of_laid hv2 hd2, Lf.names_of_laid hv3 hd3⟩

theorem walk (ka : Option Addr) (kn kc : Nat) (K : List ByteArray) (p h k n : Int) (a : Option Addr) (m c : Nat) (L : List TxD) (la : Option Addr) (ln lc : Nat) (Q : List ByteArray) (p2 h2 k2 n2 : Int) (a2 : Option Addr) (m2 c2 : Nat) (U : List TxD) (w : World) (hE : Env w) (hK : Bk.TextsAt w ka kn K) (hL : TxsAt w a m L) (hm : m ≤ maxLen) (hQ : Bk.TextsAt w la ln Q) (hln : ln ≤ 17592186044416) (hU : TxsAt w a2 m2 U) :
    Calls Tryz.prog 6 #[.agg #[.slice ka kn kc], .agg #[.int .i64 p, .int .i64 h, .int .i64 k, .int .i64 n, .slice a m c], .slice la ln lc, .agg #[.int .i64 p2, .int .i64 h2, .int .i64 k2, .int .i64 n2, .slice a2 m2 c2]] w fun e w' => e = .returned (.bool true) ∧ Below w.heap.size w w' := by
  obtain ⟨X, nm, ns, e1, hx⟩ : ∃ X nm ns e1, nmsB K (p, h, k, n, L) = (X, nm, ns, e1) := ⟨_, _, _, _, rfl⟩
  by_cases h0 : e1 = 0
  · subst h0
    exact named_ok ka kn kc K p h k n a m c L la ln lc Q p2 h2 k2 n2 a2 m2 c2 U X nm ns w hE hK hL hm hQ hln hU hx
  · exact named_bad ka kn kc K p h k n a m c L la ln lc p2 h2 k2 n2 a2 m2 c2 X nm ns e1 w hE hK hL hx h0

set_option maxRecDepth 100000 in
theorem lifted (os : Os) (started : os.Started) (H : Type) (enc : TypeId × Value → H) :
    ReturnsInHanded {} Tryz.checked os 6 .any (fun w args => (Rows.blockNamedSpec.pre enc Tryz.prog Tryz.f6 [] false w args ∧ laidMetH Tryz.prog Rows.blockNamedRow.laid w) ∧ sizedMet enc Tryz.prog Tryz.f6 (OpenSpec.ofChange Rows.blockNamedSpec) false w args)
      (Rows.blockNamedSpec.post enc Tryz.prog Tryz.f6 false true false false) := by
  refine handed_sized (X := fun w => laidMetH Tryz.prog Rows.blockNamedRow.laid w) (fun _ _ hh h => h.of_heap hh) started (by kernel_rfl) Tryz.func6
    (ChangeSpec.witness_shaped (enc := enc) (C := Tryz.checked) (os := os) (X := fun w _ => laidMetH Tryz.prog Rows.blockNamedRow.laid w) false (World.doorLaid Tryz.prog 400 os) #[.agg #[.slice none 0 0], .agg #[.int .i64 0, .int .i64 0, .int .i64 0, .int .i64 0, .slice none 0 0], .slice none 0 0, .agg #[.int .i64 0, .int .i64 0, .int .i64 0, .int .i64 0, .slice none 0 0]] 8 rfl (World.shaped_of_RefB (by kernel_rfl) (by kernel_rfl)) (by kernel_rfl) (by kernel_rfl) (by kernel_rfl) (door_met os _)) ?_
  intro W base args ds gs before hval0 hW hL hsz0
  have hval : ∀ (j : Nat) t v, Tryz.f6.params[j]? = some t → args[j]? = some v → Value.okWide Tryz.prog W .any base t v := hval0
  have hsz : (DataW.weightsEach Tryz.prog (Tryz.f6.params.toList ++ Rows.blockNamedSpec.plain.varTypes Tryz.prog) (ds ++ gs)).all (· ≤ reachBytes) = true := hsz0
  have hW' := hW
  obtain ⟨p, q, hA0, hV, rfl, hfz, hnd⟩ := hW
  have hA : DataW.TrodAll enc Tryz.prog W 0 (fun _ => true) true Tryz.f6.params.toList args.toList ds p := hA0
  rw [Tryz.params6] at hA hval hsz
  obtain ⟨v0, vs0, d0, ds0, p0, q0, hargs, rfl, rfl, h0, r0⟩ := trodAll_cons hA
  obtain ⟨v1, vs1, d1, ds1, p1, q1, rfl, rfl, rfl, h1, r1⟩ := trodAll_cons r0
  obtain ⟨v2, vs2, d2, ds2, p2, q2, rfl, rfl, rfl, h2, r2⟩ := trodAll_cons r1
  obtain ⟨v3, vs3, d3, ds3, p3, q3, rfl, rfl, rfl, h3, r3⟩ := trodAll_cons r2
  obtain ⟨rfl, rfl, rfl⟩ := trodAll_nil r3
  obtain rfl : args = #[v0, v1, v2, v3] := by cases args; simp_all
  obtain ⟨rfl, rfl⟩ := trodVars_none hV
  obtain ⟨cs0, rfl, _⟩ := okWide_struct Tryz.underlying37 (hval 0 37 v0 rfl rfl)
  obtain ⟨cs1, rfl, _⟩ := okWide_struct Tryz.underlying24 (hval 1 24 v1 rfl rfl)
  obtain ⟨al0, nl0, cl0, rfl⟩ := okWide_slice Tryz.underlying35 (hval 2 35 v2 rfl rfl)
  obtain ⟨cs3, rfl, _⟩ := okWide_struct Tryz.underlying24 (hval 3 24 v3 rfl rfl)
  have k0 := h0
  have lt0 : ∀ x ∈ p0, x.block < W.heap.size := by obtain ⟨m, hm⟩ := k0; exact DataW.trod_lt m _ _ _ hm
  have k1 := h1
  have lt1 : ∀ x ∈ p1, x.block < W.heap.size := by obtain ⟨m, hm⟩ := k1; exact DataW.trod_lt m _ _ _ hm
  have k2 := h2
  have lt2 : ∀ x ∈ p2, x.block < W.heap.size := by obtain ⟨m, hm⟩ := k2; exact DataW.trod_lt m _ _ _ hm
  have k3 := h3
  have lt3 : ∀ x ∈ p3, x.block < W.heap.size := by obtain ⟨m, hm⟩ := k3; exact DataW.trod_lt m _ _ _ hm
  obtain ⟨fu0, hf0⟩ := h0
  obtain ⟨ka, kn, kc, K, hcs, hK, _⟩ := Bk.book_full hf0
  obtain rfl : cs0 = #[.slice ka kn kc] := by
    cases cs0; simpa [Value.cells] using hcs
  obtain ⟨fu1, hf1⟩ := h1
  obtain ⟨bp, bh, bk, bn, a, m, c, L, hcs1, hT, sT⟩ := blk_open hf1
  obtain rfl : cs1 = #[.int .i64 bp, .int .i64 bh, .int .i64 bk, .int .i64 bn, .slice a m c] := by
    cases cs1; simpa [Value.cells] using hcs1
  obtain ⟨fu2, hf2⟩ := h2
  obtain ⟨al, nl, cl, l, hcs2, hT2, hS2, hdat⟩ := Bk.strs_full (v := .slice al0 nl0 cl0) (by simpa [Value.cells] using hf2)
  obtain ⟨rfl, rfl, rfl⟩ : al0 = al ∧ nl0 = nl ∧ cl0 = cl := by injection hcs2 with e1 e2 e3; exact ⟨e1, e2, e3⟩
  obtain ⟨fu3, hf3⟩ := h3
  obtain ⟨cp, chh, ckk, cn, a2, m2, c2, U, hcs3, hU, sU⟩ := blk_open hf3
  obtain rfl : cs3 = #[.int .i64 cp, .int .i64 chh, .int .i64 ckk, .int .i64 cn, .slice a2 m2 c2] := by
    cases cs3; simpa [Value.cells] using hcs3
  have hnl : nl0 ≤ 17592186044416 := by
    rcases hdat with h | ⟨elems, spare, hd, hl⟩
    · omega
    · simp only at hd
      have := sized_slice hsz (j := 2) (t := 35) (e := 9) (elems := elems) (spare := spare) rfl (by rw [hd]; rfl) Tryz.underlying35
      rw [Bk.Tryz.bytes9] at this
      unfold reachBytes at this
      omega
  clear hA0 hval0
  refine (walk ka kn kc K bp bh bk bn a m c L al0 nl0 cl0 l cp chh ckk cn a2 m2 c2 U W (env_of_laid hL) hK hT (Nat.le_trans sT.1 sT.2.1) hT2 hnl hU).mono fun e W' ⟨he, bel⟩ => ?_
  subst he
  exact ⟨_, rfl, _, _, _, [], _, [], hW', trodAll_mk1 (shut_bool Tryz.underlying4 _), (trodAll_cons_mk (Below.trod laidOut (by kernel_rfl) (of_decide_eq_true (by kernel_rfl)) k0 bel lt0) (trodAll_cons_mk (Below.trod laidOut (by kernel_rfl) (of_decide_eq_true (by kernel_rfl)) k1 bel lt1) (trodAll_cons_mk (Below.trod laidOut (by kernel_rfl) (of_decide_eq_true (by kernel_rfl)) k2 bel lt2) (trodAll_cons_mk (Below.trod laidOut (by kernel_rfl) (of_decide_eq_true (by kernel_rfl)) k3 bel lt3) trodAll_mk0)))), rfl, bel.frame _, fun h => by cases h⟩

theorem said : Rows.BlockNamedSaid :=
  OpenClaim.holds_of_wide 6 Tryz.f6 rfl rfl rfl rfl rfl rfl rfl ⟨rfl, rfl, rfl, rfl, rfl⟩ rfl rfl rfl rfl rfl (by kernel_rfl) Tryz.func6 (by kernel_rfl)
    (of_decide_eq_true (by kernel_rfl)) (by unfold Func.isWrapper; first | (rw [if_pos (by decide +kernel)]; kernel_rfl) | (rw [if_neg (by decide +kernel)]; exact ⟨rfl, rfl⟩))
    (fun os started H enc _ => lifted os started H enc)
#print axioms said

theorem card : Rows.BlockNamedCardSaid :=
  Claim7.holds_tied_plain_at .later [] [.data, .data, .data, .data] true Rows.blockNamedCard.stood.harness Rows.blockNamedCard.stood.looks
    said (fun _ h => by cases h) (by kernel_rfl) (fun _ h => by cases h) blockNamed_row_tie rfl ⟨rfl, rfl⟩ (by kernel_rfl) rfl
    (fun f fn hf hfn => by
      obtain rfl : f = 6 := Option.some.inj ((show Tryz.prog.funcNamed "cairn/cairnlaw.BlockNamed" = some 6 by kernel_rfl).symm.trans hf) |>.symm
      obtain rfl : fn = Tryz.f6 := (Option.some.inj (Tryz.func6.symm.trans hfn)).symm
      exact ⟨by kernel_rfl, fun j t ht => by
        rw [Tryz.params6] at ht
        have hm : t ∈ [37, 24, 35, 24] := by simpa using Array.mem_of_getElem? ht
        have hall : ([37, 24, 35, 24].all fun u => !Tryz.prog.wantsStandIn u) = true := by kernel_rfl
        exact (show Tryz.prog.wantsStandIn t = false by simpa using List.all_eq_true.1 hall t hm)⟩)
    (by kernel_rfl)
#print axioms card
end Go.Proofs.YtifhlohdidfbgaaGreatDoor.blockNamed

namespace Go.Proofs.YtifhlohdidfbgaaGreatDoor
theorem blockNamed_holds : Rows.BlockNamedCardSaid := blockNamed.card
end Go.Proofs.YtifhlohdidfbgaaGreatDoor
