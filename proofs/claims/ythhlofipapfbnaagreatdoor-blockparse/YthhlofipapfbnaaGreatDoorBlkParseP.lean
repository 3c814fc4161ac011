/- Proved: for every two blocks and every text, the law BlockParse returns true and its arguments read behind the call as they did before: the card, its ten listed variables tied to the program's text (one of them a great table of the library's); no condition else.
   The frame of the row follows the guide's worked examples. -/
import Derived.Test.YthhlofipapfbnaaGreatDoorBlkParseW
import Derived.Test.YthhlofipapfbnaaGreatDoorRefRb
import Derived.Test.YthhlofipapfbnaaGreatDoorCoinFrameToLockBits
import Derived.Test.YthhlofipapfbnaaGreatDoorBlkDoorZ
import Derived.Test.YthhlofipapfbnaaGreatDoorBlkClosed
import Derived.Test.YthhlofipapfbnaaGreatDoorCards
import Derived.Test.YthhlofipapfbnaaGreatDoorTie
import Derived.SevenTiedAt
namespace Go.Proofs.YthhlofipapfbnaaGreatDoor.blockParse
open Go.ChangeShapes Go.WideShapes Go.ChangeAt Go.RowKit

theorem reads : ReadsB := fun s W hs hE x b hx => readBlock_is s hs W hE x b hx
theorem walk (p h k n : Int) (a : Option Addr) (m c : Nat) (T : List TxD) (p2 h2 k2 n2 : Int) (a2 : Option Addr) (m2 c2 : Nat) (U : List TxD) (s : ByteArray) (w : World) (hE : EnvF w) (hT : TxsAt w a m T) (hm : m ≤ maxLen) (hU : TxsAt w a2 m2 U) :
    Calls Tryz.prog 3 #[.agg #[.int .i64 p, .int .i64 h, .int .i64 k, .int .i64 n, .slice a m c], .agg #[.int .i64 p2, .int .i64 h2, .int .i64 k2, .int .i64 n2, .slice a2 m2 c2], .string s] w fun e w' => e = .returned (.bool true) ∧ Below w.heap.size w w' := by
  obtain ⟨x, hx⟩ : ∃ x, chkB (p, h, k, n, T) = x := ⟨_, rfl⟩
  by_cases h0 : x = 0
  · exact parse_ok p h k n a m c T p2 h2 k2 n2 a2 m2 c2 U s x w hE hT hm hU hx h0 reads
  · exact parse_bad p h k n a m c T p2 h2 k2 n2 a2 m2 c2 U s x w hE hT hm hU hx h0 reads

set_option maxRecDepth 100000 in
theorem lifted (os : Os) (started : os.Started) (H : Type) (enc : TypeId × Value → H) :
    ReturnsInHanded {} Tryz.checked os 3 .any (fun w args => (Rows.blockParseSpec.pre enc Tryz.prog Tryz.f3 [] false w args ∧ laidMetH Tryz.prog Rows.blockParseRow.laid w) ∧ sizedMet enc Tryz.prog Tryz.f3 (OpenSpec.ofChange Rows.blockParseSpec) false w args)
      (Rows.blockParseSpec.post enc Tryz.prog Tryz.f3 false true false false) := by
  refine handed_both (s := Rows.blockParseSpec) (enc := enc) (X := fun w => laidMetH Tryz.prog Rows.blockParseRow.laid w) (fun _ _ hh h => h.of_heap hh) started (by kernel_rfl) Tryz.func3
    (ChangeSpec.witness_shaped (enc := enc) (C := Tryz.checked) (os := os) (X := fun w _ => laidMetH Tryz.prog Rows.blockParseRow.laid w) false (layFirst (World.doorLaid Tryz.prog 400 os)) #[.agg #[.int .i64 0, .int .i64 0, .int .i64 0, .int .i64 0, .slice none 0 0], .agg #[.int .i64 0, .int .i64 0, .int .i64 0, .int .i64 0, .slice none 0 0], .string ⟨#[]⟩] 8 rfl (World.shaped_of_RefB (by kernel_rfl) (by kernel_rfl)) (by kernel_rfl) (by kernel_rfl) (by kernel_rfl) (parse_met os _)) ?_
  intro W base args ds gs before hval0 hW hL hsh
  have hval : ∀ (j : Nat) t v, Tryz.f3.params[j]? = some t → args[j]? = some v → Value.okWide Tryz.prog W .any base t v := hval0
  have hW' := hW
  obtain ⟨p, q, hA0, hV, rfl, hfz, hnd⟩ := hW
  have hA : DataW.TrodAll enc Tryz.prog W 0 (fun _ => true) true Tryz.f3.params.toList args.toList ds p := hA0
  rw [Tryz.params3] at hA hval
  obtain ⟨v0, vs0, d0, ds0, p0, q0, hargs, rfl, rfl, h0, r0⟩ := trodAll_cons hA
  obtain ⟨v1, vs1, d1, ds1, p1, q1, rfl, rfl, rfl, h1, r1⟩ := trodAll_cons r0
  obtain ⟨v2, vs2, d2, ds2, p2, q2, rfl, rfl, rfl, h2, r2⟩ := trodAll_cons r1
  obtain ⟨rfl, rfl, rfl⟩ := trodAll_nil r2
  obtain rfl : args = #[v0, v1, v2] := by cases args; simp_all
  obtain ⟨rfl, rfl⟩ := trodVars_none hV
  obtain ⟨cs0, rfl, _⟩ := okWide_struct Tryz.underlying24 (hval 0 24 v0 rfl rfl)
  obtain ⟨cs1, rfl, _⟩ := okWide_struct Tryz.underlying24 (hval 1 24 v1 rfl rfl)
  obtain ⟨s, rfl, rfl, rfl, w2⟩ := Go.ChangeMaps.open_string Tryz.underlying9 (hval 2 9 v2 rfl rfl) h2
  have k0 := h0
  have lt0 : ∀ x ∈ p0, x.block < W.heap.size := by obtain ⟨m, hm⟩ := k0; exact DataW.trod_lt m _ _ _ hm
  have k1 := h1
  have lt1 : ∀ x ∈ p1, x.block < W.heap.size := by obtain ⟨m, hm⟩ := k1; exact DataW.trod_lt m _ _ _ hm
  obtain ⟨fu0, hf0⟩ := h0
  obtain ⟨bp, bh, bk, bn, a, m, c, L, hcs0, hT, sT⟩ := blk_open hf0
  obtain rfl : cs0 = #[.int .i64 bp, .int .i64 bh, .int .i64 bk, .int .i64 bn, .slice a m c] := by
    cases cs0; simpa [Value.cells] using hcs0
  obtain ⟨fu1, hf1⟩ := h1
  obtain ⟨cp, chh, ckk, cn, a2, m2, c2, U, hcs1, hU, sU⟩ := blk_open hf1
  obtain rfl : cs1 = #[.int .i64 cp, .int .i64 chh, .int .i64 ckk, .int .i64 cn, .slice a2 m2 c2] := by
    cases cs1; simpa [Value.cells] using hcs1
  clear hA0 hval0
  refine (walk bp bh bk bn a m c L cp chh ckk cn a2 m2 c2 U s W (envF_of_laid hL hsh) hT (Nat.le_trans sT.1 sT.2.1) hU).mono fun e W' ⟨he, bel⟩ => ?_
  subst he
  exact ⟨_, rfl, _, _, _, [], _, [], hW', trodAll_mk1 (shut_bool Tryz.underlying4 _), (trodAll_cons_mk (Below.trod laidOut (by kernel_rfl) (of_decide_eq_true (by kernel_rfl)) k0 bel lt0) (trodAll_cons_mk (Below.trod laidOut (by kernel_rfl) (of_decide_eq_true (by kernel_rfl)) k1 bel lt1) (trodAll_cons_mk (Go.ChangeMaps.shut_string Tryz.underlying9 w2) trodAll_mk0))), rfl, bel.frame _, fun h => by cases h⟩

theorem said : Rows.BlockParseSaid :=
  OpenClaim.holds_of_wide 3 Tryz.f3 rfl rfl rfl rfl rfl rfl rfl ⟨rfl, rfl, rfl, rfl, rfl⟩ rfl rfl rfl rfl rfl (by kernel_rfl) Tryz.func3 blk_closed
    (of_decide_eq_true (by kernel_rfl)) (by unfold Func.isWrapper; first | (rw [if_pos (by decide +kernel)]; kernel_rfl) | (rw [if_neg (by decide +kernel)]; exact ⟨rfl, rfl⟩))
    (fun os started H enc _ => lifted os started H enc)
#print axioms said

theorem card : Rows.BlockParseCardSaid :=
  Claim7.holds_tied_plain_at .later [] [.data, .data, .data, .data, .sentinel, .sentinel, .listed, .data, .data, .pinned] true Rows.blockParseCard.stood.harness Rows.blockParseCard.stood.looks
    said (fun _ h => by cases h) (by kernel_rfl) (fun _ h => by cases h) blockParse_row_tie rfl ⟨rfl, rfl⟩ (by kernel_rfl) rfl
    (fun f fn hf hfn => by
      obtain rfl : f = 3 := Option.some.inj ((show Tryz.prog.funcNamed "cairn/cairnlaw.BlockParse" = some 3 by kernel_rfl).symm.trans hf) |>.symm
      obtain rfl : fn = Tryz.f3 := (Option.some.inj (Tryz.func3.symm.trans hfn)).symm
      exact ⟨by kernel_rfl, fun j t ht => by
        rw [Tryz.params3] at ht
        have hm : t ∈ [24, 24, 9] := by simpa using Array.mem_of_getElem? ht
        have hall : ([24, 24, 9].all fun u => !Tryz.prog.wantsStandIn u) = true := by kernel_rfl
        exact (show Tryz.prog.wantsStandIn t = false by simpa using List.all_eq_true.1 hall t hm)⟩)
    (by kernel_rfl)
#print axioms card
end Go.Proofs.YthhlofipapfbnaaGreatDoor.blockParse

namespace Go.Proofs.YthhlofipapfbnaaGreatDoor
theorem blockParse_holds : Rows.BlockParseCardSaid := blockParse.card
end Go.Proofs.YthhlofipapfbnaaGreatDoor
