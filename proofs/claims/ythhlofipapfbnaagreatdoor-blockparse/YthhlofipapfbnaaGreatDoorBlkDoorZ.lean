/- The door's own heap, the great table laid, meets the rows' condition on the listed variables; what the walks take of it. -/
import Derived.Test.YthhlofipapfbnaaGreatDoorCoinFrameToLockBits
import Derived.Test.YthhlofipapfbnaaGreatDoorRefWholeToRefSameT
namespace Go.Proofs.YthhlofipapfbnaaGreatDoor
open Go.ChangeShapes Go.WideShapes Go.ChangeAt Go.RowKit

set_option maxRecDepth 100000 in
theorem parse_met (os : Os) (args : Array Value) : laidMetH Tryz.prog Rows.blockParseRow.laid ((layFirst (World.doorLaid Tryz.prog 400 os)).forCall (fun _ _ => 0) ⟨#[], args, []⟩).memory :=
  laidMetH_of_parts3 (fuel := 8) (laidMet_of_bits 8 257 (by kernel_rfl)) (by kernel_rfl) (by kernel_rfl)

theorem Tryz.tSpc : (Tryz.prog.globals[1]?).map (·.type) = some 233 := by kernel_rfl
theorem Tryz.cellsSpc : Tryz.prog.cellsOf 233 = 256 := by kernel_rfl
theorem Tryz.cells5 : Tryz.prog.cellsOf 5 = 1 := by kernel_rfl
theorem space_data {H : Type} : (Rows.laid_strings_asciiSpace : DataW H) = Lib.tabData .u8 Lib.asciiSpaceTab := by kernel_rfl

theorem space_of_laid {H : Type} {enc : TypeId × Value → H} {w : World} {base : Nat} {sp : Nat → Bool} {held : Bool} {fuel : Nat} {cs : Array Value} {p : List MemPlace} (hv : w.var? Tryz.prog "strings.asciiSpace" = some cs)
    (h : DataW.trod enc Tryz.prog w base sp held fuel 233 cs.toList = some (Rows.laid_strings_asciiSpace, p)) : Lib.TabIs Tryz.prog w "strings.asciiSpace" .u8 Lib.asciiSpaceTab := by
  rw [space_data] at h
  have e := Lib.cells_of_tab (zs := Lib.asciiSpaceTab) Tryz.underlying233 Tryz.underlying5 Tryz.cells5 Tryz.cellsSpc h
  unfold Lib.TabIs
  rw [hv]
  congr 1
  obtain ⟨l⟩ := cs
  have e' : l = Lib.asciiSpaceTab.map fun z => Value.int .u8 z := e
  rw [e']

theorem envF_of_laid {W : World} (h : laidMetH Tryz.prog Rows.blockParseRow.laid W) (hs : W.ShapedOpen Tryz.prog) : EnvF W := by
  rw [MakeChecks.laidMetH_plain _ _ _ (by kernel_rfl)] at h
  obtain ⟨ps, ⟨g0, t0, cs0, f0, p0, q0, hg0, ht0, hv0, hd0, ⟨g1, t1, cs1, f1, p1, q1, hg1, ht1, hv1, hd1, ⟨g2, t2, cs2, f2, p2, q2, hg2, ht2, hv2, hd2, ⟨g3, t3, cs3, f3, p3, q3, hg3, ht3, hv3, hd3, ⟨g4, t4, cs4, f4, p4, q4, hg4, ht4, hv4, hd4, ⟨g5, t5, cs5, f5, p5, q5, hg5, ht5, hv5, hd5, ⟨g6, t6, cs6, f6, p6, q6, hg6, ht6, hv6, hd6, ⟨g7, t7, cs7, f7, p7, q7, hg7, ht7, hv7, hd7, ⟨g8, t8, cs8, f8, p8, q8, hg8, ht8, hv8, hd8, _, _⟩, _⟩, _⟩, _⟩, _⟩, _⟩, _⟩, _⟩, _⟩, _, _⟩ := h
  obtain rfl := Option.some.inj (Tryz.gTab.symm.trans hg2)
  obtain rfl := Option.some.inj (Lf.Tryz.tTab.symm.trans ht2)
  obtain rfl := Option.some.inj (Tryz.gRan.symm.trans hg4)
  obtain rfl := Option.some.inj (Tryz.tRan.symm.trans ht4)
  obtain rfl := Option.some.inj (Tryz.gSyn.symm.trans hg5)
  obtain rfl := Option.some.inj (Tryz.tSyn.symm.trans ht5)
  obtain rfl := Option.some.inj (Tryz.gSpc.symm.trans hg7)
  obtain rfl := Option.some.inj (Tryz.tSpc.symm.trans ht7)
  obtain rfl := Option.some.inj (Tryz.gNam.symm.trans hg8)
  obtain rfl := Option.some.inj (Lf.Tryz.tNam.symm.trans ht8)
  exact ⟨⟨⟨Lf.tab_of_laid hv2 hd2, Lf.names_of_laid hv8 hd8⟩, iface_held hv5 hd5, iface_held hv4 hd4, hs⟩, space_of_laid hv7 hd7⟩

end Go.Proofs.YthhlofipapfbnaaGreatDoor
