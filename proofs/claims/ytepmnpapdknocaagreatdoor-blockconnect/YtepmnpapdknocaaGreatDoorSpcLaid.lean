/- The table of blanks, as the row lays it. -/
import Derived.Test.YtepmnpapdknocaaGreatDoorLockBits
import Derived.Test.YtepmnpapdknocaaGreatDoorLockFrame
import Derived.Test.YtepmnpapdknocaaGreatDoorLockNum
import Derived.Test.YtepmnpapdknocaaGreatDoorRefWhole
import Derived.HandedShaped
import Derived.LaidLaws
namespace Go.Proofs.YtepmnpapdknocaaGreatDoor
open Go.ChangeShapes Go.WideShapes Go.ChangeAt Go.RowKit

theorem Tryz.tSpc : (Tryz.prog.globals[0]?).map (·.type) = some 211 := by kernel_rfl
theorem Tryz.cellsSpc : Tryz.prog.cellsOf 211 = 256 := by kernel_rfl
theorem Tryz.cells5 : Tryz.prog.cellsOf 5 = 1 := by kernel_rfl
theorem space_data {H : Type} : (Rows.laid_strings_asciiSpace : DataW H) = Lib.tabData .u8 Lib.asciiSpaceTab := by kernel_rfl

theorem space_of_laid {H : Type} {enc : TypeId × Value → H} {w : World} {base : Nat} {sp : Nat → Bool} {held : Bool} {fuel : Nat} {cs : Array Value} {p : List MemPlace} (hv : w.var? Tryz.prog "strings.asciiSpace" = some cs)
    (h : DataW.trod enc Tryz.prog w base sp held fuel 211 cs.toList = some (Rows.laid_strings_asciiSpace, p)) : Lib.TabIs Tryz.prog w "strings.asciiSpace" .u8 Lib.asciiSpaceTab := by
  rw [space_data] at h
  have e := Lib.cells_of_tab (zs := Lib.asciiSpaceTab) Tryz.underlying211 Tryz.underlying5 Tryz.cells5 Tryz.cellsSpc h
  unfold Lib.TabIs
  rw [hv]
  congr 1
  obtain ⟨l⟩ := cs
  have e' : l = Lib.asciiSpaceTab.map fun z => Value.int .u8 z := e
  rw [e']

end Go.Proofs.YtepmnpapdknocaaGreatDoor
