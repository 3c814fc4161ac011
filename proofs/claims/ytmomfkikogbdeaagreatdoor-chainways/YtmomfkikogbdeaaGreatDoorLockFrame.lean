/- What the rows of the laws of lock have in common: the listed variables, and slices of orders among the arguments. -/
import Derived.Test.YtmomfkikogbdeaaGreatDoorLockPrintToTxPrintB
import Derived.ProofKit
import Derived.LaidMore
import Derived.OpenShut
import Derived.MakeChecks
import Derived.Stop.Joined
import Derived.Deep.SlicePairs
import Derived.ChangeOld
namespace Go.Proofs.YtmomfkikogbdeaaGreatDoor.Lf
open Go.ChangeShapes Go.WideShapes Go.ChangeAt Go.RowKit

theorem own : ownKnob Tryz.prog.godebug = none := by kernel_rfl
theorem laidOut : laidOutB Tryz.prog = true := by kernel_rfl

theorem strs_of_trod {H : Type} {enc : TypeId × Value → H} {w : World} {base : Nat} {sp : Nat → Bool} {held : Bool} {fuel : Nat} {t : TypeId} {n : Nat} {cs : List Value} {ss : List (List UInt8)} {p : List MemPlace}
    (ht : Tryz.prog.underlying t = some (.array n 9)) (hct : Tryz.prog.cellsOf t = n) (h9 : Tryz.prog.cellsOf 9 = 1)
    (h : DataW.trod enc Tryz.prog w base sp held fuel t cs = some (.agg (ss.map fun b => .lit (.string b)), p)) : cs = ss.map fun b => Value.string ⟨b.toArray⟩ := by
  obtain ⟨xs, m, rfl, hx, hl, hn, hel⟩ := DataW.trod_array ht h
  rw [hct] at hl
  simp only [Prod.mk.injEq, DataW.agg.injEq] at hx
  have hsl : ss.length = n := by
    have := congrArg List.length hx.1
    simp at this
    omega
  apply List.ext_getElem?
  intro i
  by_cases hi : i < n
  · have hi' := hel i hi
    rw [h9, Nat.mul_one] at hi'
    have hxi : i < xs.length := by omega
    rw [List.getElem?_eq_getElem hxi] at hi'
    obtain ⟨s, hc, hy, _⟩ := DataW.trod_string Tryz.underlying9 hi'
    have h1 : cs[i]? = some (.string s) := by
      have := congrArg (·[0]?) hc
      simpa [List.getElem?_take, List.getElem?_drop] using this
    have h2 : (xs.map (·.1))[i]? = some (.lit (.string s.data.toList)) := by
      rw [List.getElem?_map, List.getElem?_eq_getElem hxi, hy]; rfl
    rw [← hx.1] at h2
    have hsi : i < ss.length := by omega
    simp only [List.getElem?_map, List.getElem?_eq_getElem hsi, Option.map_some, Option.some.injEq, DataW.lit.injEq, Lit.string.injEq] at h2
    rw [h1, List.getElem?_map, List.getElem?_eq_getElem hsi, h2]
    rfl
  · rw [List.getElem?_eq_none (by omega), List.getElem?_eq_none (by simp; omega)]

def namesBytes : List (List UInt8) := namesL.map (·.data.toList)

theorem Tryz.tNam : (Tryz.prog.globals[1]?).map (·.type) = some 378 := by kernel_rfl
theorem Tryz.tTab : (Tryz.prog.globals[2]?).map (·.type) = some 381 := by kernel_rfl
theorem Tryz.cellsNam : Tryz.prog.cellsOf 378 = 14 := by kernel_rfl
theorem Tryz.cellsTab : Tryz.prog.cellsOf 381 = 20 := by kernel_rfl
theorem Tryz.cells9 : Tryz.prog.cellsOf 9 = 1 := by kernel_rfl
theorem Tryz.cellsU64 : Tryz.prog.cellsOf 284 = 1 := by kernel_rfl

/-- From the reading of the table of names to what it holds. -/
theorem names_of_laid {H : Type} {enc : TypeId × Value → H} {w : World} {base : Nat} {sp : Nat → Bool} {held : Bool} {fuel : Nat} {cs : Array Value} {p : List MemPlace} (hv : w.var? Tryz.prog "cairn/lock.names" = some cs)
    (h : DataW.trod enc Tryz.prog w base sp held fuel 378 cs.toList = some (Rows.laid_cairn_lock_names, p)) : w.var? Tryz.prog "cairn/lock.names" = some namesA := by
  have e := strs_of_trod (ss := namesBytes) Tryz.underlying378 Tryz.cellsNam Tryz.cells9 h
  rw [hv]
  congr 1
  obtain ⟨l⟩ := cs
  have e' : l = namesBytes.map fun b => Value.string ⟨b.toArray⟩ := e
  rw [e']
  rfl

theorem tab_of_laid {H : Type} {enc : TypeId × Value → H} {w : World} {base : Nat} {sp : Nat → Bool} {held : Bool} {fuel : Nat} {cs : Array Value} {p : List MemPlace} (hv : w.var? Tryz.prog "internal/strconv.uint64pow10" = some cs)
    (h : DataW.trod enc Tryz.prog w base sp held fuel 381 cs.toList = some (Rows.laid_internal_strconv_uint64pow10, p)) : Lib.TabIs Tryz.prog w "internal/strconv.uint64pow10" .u64 Lib.pow10Tab := by
  have e := Lib.cells_of_tab (zs := Lib.pow10Tab) Tryz.underlying381 Tryz.underlying284 Tryz.cellsU64 Tryz.cellsTab h
  unfold Lib.TabIs
  rw [hv]
  congr 1
  obtain ⟨l⟩ := cs
  have e' : l = Lib.pow10Tab.map fun z => Value.int .u64 z := e
  rw [e']

theorem Tryz.cellsOp : Tryz.prog.cellsOf 164 = 2 := by kernel_rfl
theorem Tryz.cells3 : Tryz.prog.cellsOf 3 = 1 := by kernel_rfl

/-- What a slice of orders that came in is to the walks. -/
theorem ops_open {H : Type} {enc : TypeId × Value → H} {W : World} {sp : Nat → Bool} {held : Bool} {fuel : Nat} {a : Option Addr} {len cap : Nat} {x : DataW H × List MemPlace}
    (h : DataW.trod enc Tryz.prog W 0 sp held fuel 48 [.slice a len cap] = some x) : (∃ l, OpsAt W a len l) ∧ (a = none → len = 0 ∧ cap = 0) := by
  rcases Deep.open_slice_pairs Tryz.underlying48 Tryz.underlying164 Tryz.cellsOp rfl rfl Tryz.cells3 Tryz.cells3 h with ⟨hcs, _⟩ | ⟨b, l, c, m, n, V0, V1, D0, D1, P0, P1, hcs, _, hl, _, hm, _, hel⟩
  · simp at hcs
    obtain ⟨rfl, rfl, rfl⟩ := hcs
    exact ⟨⟨[], rfl, fun h => absurd h (by omega)⟩, fun _ => ⟨rfl, rfl⟩⟩
  · simp at hcs
    obtain ⟨rfl, rfl, rfl⟩ := hcs
    refine ⟨?_, fun h => by cases h⟩
    have hlm : len ≤ m := by rw [hm]; split <;> omega
    have each : ∀ i, i < len → ∃ q : Int × Int, W.cell? (b.add (i * 2)) = some (.int .i64 q.1) ∧ W.cell? (b.add (i * 2 + 1)) = some (.int .i64 q.2) := fun i hi => by
      obtain ⟨h1, h2, t1, t2⟩ := hel i (by omega)
      obtain ⟨z1, e1, _, _⟩ := DataW.trod_int Tryz.underlying3 t1
      obtain ⟨z2, e2, _, _⟩ := DataW.trod_int Tryz.underlying3 t2
      simp only [List.cons.injEq, and_true] at e1 e2
      exact ⟨(z1, z2), by rw [h1, e1], by rw [h2, e2]⟩
    obtain ⟨f, hf⟩ := Deep.choose_lt each
    refine ⟨(List.range len).map f, by simp, fun hpos => ?_⟩
    obtain ⟨bb, off, spot⟩ := b
    have hspot : spot = none := by simpa [Addr.add] using World.cell?_spot (hf 0 hpos).1
    subst hspot
    refine ⟨bb, off, rfl, fun i hi => ?_⟩
    have hadd : ∀ j, (⟨bb, off, none⟩ : Addr).add j = ⟨bb, off + j, none⟩ := fun j => by unfold Addr.add; split <;> simp_all
    have h1 := hf i hi
    rw [hadd, hadd] at h1
    rw [← Nat.add_assoc] at h1
    simpa [hi] using h1

end Go.Proofs.YtmomfkikogbdeaaGreatDoor.Lf
