/- Proved: for every list of orders and every text, the law LockParse returns true and its arguments read behind the call as they did before: the card, its ten listed variables tied to the program's text (one of them a great table of the library's); no condition else.
   The frame of the row follows the guide's worked examples. -/
import Derived.Test.YtodgheppglchcaaGreatDoorLockParseW
import Derived.Test.YtodgheppglchcaaGreatDoorLockDoorZ
import Derived.Test.YtodgheppglchcaaGreatDoorCards
import Derived.Test.YtodgheppglchcaaGreatDoorTie
import Derived.SevenTiedAt
namespace Go.Proofs.YtodgheppglchcaaGreatDoor.lockParse
open Go.ChangeShapes Go.WideShapes Go.ChangeAt Go.RowKit

theorem Tryz.tSpc : (Tryz.prog.globals[1]?).map (·.type) = some 65 := by kernel_rfl
theorem Tryz.cellsSpc : Tryz.prog.cellsOf 65 = 256 := by kernel_rfl
theorem Tryz.cells5 : Tryz.prog.cellsOf 5 = 1 := by kernel_rfl
theorem space_data {H : Type} : (Rows.laid_strings_asciiSpace : DataW H) = Lib.tabData .u8 Lib.asciiSpaceTab := by kernel_rfl

theorem space_of_laid {H : Type} {enc : TypeId × Value → H} {w : World} {base : Nat} {sp : Nat → Bool} {held : Bool} {fuel : Nat} {cs : Array Value} {p : List MemPlace} (hv : w.var? Tryz.prog "strings.asciiSpace" = some cs)
    (h : DataW.trod enc Tryz.prog w base sp held fuel 65 cs.toList = some (Rows.laid_strings_asciiSpace, p)) : Lib.TabIs Tryz.prog w "strings.asciiSpace" .u8 Lib.asciiSpaceTab := by
  rw [space_data] at h
  have e := Lib.cells_of_tab (zs := Lib.asciiSpaceTab) Tryz.underlying65 Tryz.underlying5 Tryz.cells5 Tryz.cellsSpc h
  unfold Lib.TabIs
  rw [hv]
  congr 1
  obtain ⟨l⟩ := cs
  have e' : l = Lib.asciiSpaceTab.map fun z => Value.int .u8 z := e
  rw [e']

theorem env_of_laid {W : World} (h : laidMetH Tryz.prog Rows.lockParseRow.laid W) (hs : W.ShapedOpen Tryz.prog) : EnvF W := by
  rw [MakeChecks.laidMetH_plain _ _ _ (by kernel_rfl)] at h
  obtain ⟨ps, ⟨g0, t0, cs0, f0, p0, q0, hg0, ht0, hv0, hd0, ⟨g1, t1, cs1, f1, p1, q1, hg1, ht1, hv1, hd1, ⟨g2, t2, cs2, f2, p2, q2, hg2, ht2, hv2, hd2, ⟨g3, t3, cs3, f3, p3, q3, hg3, ht3, hv3, hd3, ⟨g4, t4, cs4, f4, p4, q4, hg4, ht4, hv4, hd4, ⟨g5, t5, cs5, f5, p5, q5, hg5, ht5, hv5, hd5, ⟨g6, t6, cs6, f6, p6, q6, hg6, ht6, hv6, hd6, ⟨g7, t7, cs7, f7, p7, q7, hg7, ht7, hv7, hd7, ⟨g8, t8, cs8, f8, p8, q8, hg8, ht8, hv8, hd8, _, _⟩, _⟩, _⟩, _⟩, _⟩, _⟩, _⟩, _⟩, _⟩, _, _⟩ := h
  obtain rfl := Option.some.inj (Tryz.gTab.symm.trans hg2)
  obtain rfl := Option.some.inj (Tryz.tTab.symm.trans ht2)
  obtain rfl := Option.some.inj (Tryz.gRan.symm.trans hg4)
  obtain rfl := Option.some.inj (Tryz.tRan.symm.trans ht4)
  obtain rfl := Option.some.inj (Tryz.gSyn.symm.trans hg5)
  obtain rfl := Option.some.inj (Tryz.tSyn.symm.trans ht5)
  obtain rfl := Option.some.inj (Tryz.gSpc.symm.trans hg7)
  obtain rfl := Option.some.inj (Tryz.tSpc.symm.trans ht7)
  obtain rfl := Option.some.inj (Tryz.gNam.symm.trans hg8)
  obtain rfl := Option.some.inj (Tryz.tNam.symm.trans ht8)
  exact ⟨⟨⟨tab_of_laid hv2 hd2, names_of_laid hv8 hd8⟩, iface_held hv5 hd5, iface_held hv4 hd4, hs⟩, space_of_laid hv7 hd7⟩

set_option maxRecDepth 100000 in
theorem lifted (os : Os) (started : os.Started) (H : Type) (enc : TypeId × Value → H) :
    ReturnsInHanded {} Tryz.checked os 3 .any (fun w args => (Rows.lockParseSpec.pre enc Tryz.prog Tryz.f3 [] false w args ∧ laidMetH Tryz.prog Rows.lockParseRow.laid w) ∧ sizedMet enc Tryz.prog Tryz.f3 (OpenSpec.ofChange Rows.lockParseSpec) false w args)
      (Rows.lockParseSpec.post enc Tryz.prog Tryz.f3 false true false false) := by
  refine handed_both (X := fun w => laidMetH Tryz.prog Rows.lockParseRow.laid w) (fun _ _ hh h => h.of_heap hh) started (by kernel_rfl) Tryz.func3
    (ChangeSpec.witness_shaped (enc := enc) (C := Tryz.checked) (os := os) (X := fun w _ => laidMetH Tryz.prog Rows.lockParseRow.laid w) false (layFirst (World.doorLaid Tryz.prog 400 os)) #[.slice none 0 0, .string ⟨#[]⟩] 8 rfl (World.shaped_of_RefB (by kernel_rfl) (by kernel_rfl)) (by kernel_rfl) (by kernel_rfl) (by kernel_rfl) (parse_met os _)) ?_
  intro W base args ds gs before hval0 hW hL hsh
  have hval : ∀ (j : Nat) t v, Tryz.f3.params[j]? = some t → args[j]? = some v → Value.okWide Tryz.prog W .any base t v := hval0
  have hW' := hW
  obtain ⟨p, q, hA0, hV, rfl, hfz, hnd⟩ := hW
  have hA : DataW.TrodAll enc Tryz.prog W 0 (fun _ => true) true Tryz.f3.params.toList args.toList ds p := hA0
  rw [Tryz.params3] at hA hval
  obtain ⟨v0, vs0, d0, ds0, p0, q0, hargs, rfl, rfl, h0, r0⟩ := trodAll_cons hA
  obtain ⟨v1, vs1, d1, ds1, p1, q1, rfl, rfl, rfl, h1, r1⟩ := trodAll_cons r0
  obtain ⟨rfl, rfl, rfl⟩ := trodAll_nil r1
  obtain rfl : args = #[v0, v1] := by cases args; simp_all
  obtain ⟨rfl, rfl⟩ := trodVars_none hV
  obtain ⟨a0, len0, cap0, rfl⟩ := okWide_slice Tryz.underlying22 (hval 0 22 v0 rfl rfl)
  obtain ⟨s, rfl, rfl, rfl, w1⟩ := Go.ChangeMaps.open_string Tryz.underlying9 (hval 1 9 v1 rfl rfl) h1
  have k0 := h0
  have lt0 : ∀ x ∈ p0, x.block < W.heap.size := by obtain ⟨m, hm⟩ := k0; exact DataW.trod_lt m _ _ _ hm
  obtain ⟨fu0, hf0⟩ := h0
  obtain ⟨⟨l, hO⟩, _⟩ := ops_open hf0
  clear hA0 hval0
  refine (lockParse_any a0 len0 cap0 l s W (env_of_laid hL hsh) hO).mono fun e W' ⟨he, bel⟩ => ?_
  subst he
  exact ⟨_, rfl, _, _, _, [], _, [], hW', trodAll_mk1 (shut_bool Tryz.underlying4 _), (trodAll_cons_mk (Below.trod laidOut (by kernel_rfl) (of_decide_eq_true (by kernel_rfl)) k0 bel lt0) (trodAll_cons_mk (Go.ChangeMaps.shut_string Tryz.underlying9 w1) trodAll_mk0)), rfl, bel.frame _, fun h => by cases h⟩

theorem said : Rows.LockParseSaid :=
  OpenClaim.holds_of_wide 3 Tryz.f3 rfl rfl rfl rfl rfl rfl rfl ⟨rfl, rfl, rfl, rfl, rfl⟩ rfl rfl rfl rfl rfl (by kernel_rfl) Tryz.func3 (by kernel_rfl)
    (of_decide_eq_true (by kernel_rfl)) (by unfold Func.isWrapper; first | (rw [if_pos (by decide +kernel)]; kernel_rfl) | (rw [if_neg (by decide +kernel)]; exact ⟨rfl, rfl⟩))
    (fun os started H enc _ => lifted os started H enc)
#print axioms said

theorem card : Rows.LockParseCardSaid :=
  Claim7.holds_tied_plain_at .later [] [.data, .data, .data, .data, .sentinel, .sentinel, .listed, .data, .data, .pinned] true Rows.lockParseCard.stood.harness Rows.lockParseCard.stood.looks
    said (fun _ h => by cases h) (by kernel_rfl) (fun _ h => by cases h) lockParse_row_tie rfl ⟨rfl, rfl⟩ (by kernel_rfl) rfl
    (fun f fn hf hfn => by
      obtain rfl : f = 3 := Option.some.inj ((show Tryz.prog.funcNamed "cairn/cairnlaw.LockParse" = some 3 by kernel_rfl).symm.trans hf) |>.symm
      obtain rfl : fn = Tryz.f3 := (Option.some.inj (Tryz.func3.symm.trans hfn)).symm
      exact ⟨by kernel_rfl, fun j t ht => by
        rw [Tryz.params3] at ht
        have hm : t ∈ [22, 9] := by simpa using Array.mem_of_getElem? ht
        have hall : ([22, 9].all fun u => !Tryz.prog.wantsStandIn u) = true := by kernel_rfl
        exact (show Tryz.prog.wantsStandIn t = false by simpa using List.all_eq_true.1 hall t hm)⟩)
    (by kernel_rfl)
#print axioms card
end Go.Proofs.YtodgheppglchcaaGreatDoor.lockParse

namespace Go.Proofs.YtodgheppglchcaaGreatDoor
theorem lockParse_holds : Rows.LockParseCardSaid := lockParse.card
end Go.Proofs.YtodgheppglchcaaGreatDoor
