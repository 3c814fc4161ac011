/- What the rows of the laws of trees have in common: trees and blocks among the arguments. -/
import Derived.Test.YtklekpbladmjhaaTrMem
import Derived.WalkKit
import Derived.ProofKit
import Derived.OpenShut
import Derived.ShutString
import Derived.ChangeOld
import Derived.Below
import Derived.Carry
import Derived.SizedLaws
import Derived.Deep.Strs
import Derived.Deep.SlicePairs
import Derived.Lib.SmallJoins
namespace Go.Proofs.Ytklekpbladmjhaa
open Go.ChangeShapes Go.WideShapes Go.ChangeAt Go.RowKit

theorem own : ownKnob Try.prog.godebug = none := by kernel_rfl
theorem laidOut : laidOutB Try.prog = true := by kernel_rfl
theorem Try.cells4 : Try.prog.cellsOf 4 = 1 := by kernel_rfl
theorem Try.cellsOp : Try.prog.cellsOf 91 = 2 := by kernel_rfl
theorem Try.cells3 : Try.prog.cellsOf 3 = 1 := by kernel_rfl

/-- What a slice of orders that came in is to the walks. -/
theorem ops_open {H : Type} {enc : TypeId × Value → H} {W : World} {sp : Nat → Bool} {held : Bool} {fuel : Nat} {a : Option Addr} {len cap : Nat} {x : DataW H × List MemPlace}
    (h : DataW.trod enc Try.prog W 0 sp held fuel 82 [.slice a len cap] = some x) : (∃ l, OpsAt W a len l) ∧ (a = none → len = 0 ∧ cap = 0) := by
  rcases Deep.open_slice_pairs Try.underlying82 Try.underlying91 Try.cellsOp rfl rfl Try.cells3 Try.cells3 h with ⟨hcs, _⟩ | ⟨b, l, c, m, n, V0, V1, D0, D1, P0, P1, hcs, _, hl, _, hm, _, hel⟩
  · simp at hcs
    obtain ⟨rfl, rfl, rfl⟩ := hcs
    exact ⟨⟨[], rfl, fun h => absurd h (by omega)⟩, fun _ => ⟨rfl, rfl⟩⟩
  · simp at hcs
    obtain ⟨rfl, rfl, rfl⟩ := hcs
    refine ⟨?_, fun h => by cases h⟩
    have hlm : len ≤ m := by rw [hm]; split <;> omega
    have each : ∀ i, i < len → ∃ q : Int × Int, W.cell? (b.add (i * 2)) = some (.int .i64 q.1) ∧ W.cell? (b.add (i * 2 + 1)) = some (.int .i64 q.2) := fun i hi => by
      obtain ⟨h1, h2, t1, t2⟩ := hel i (by omega)
      obtain ⟨z1, e1, _, _⟩ := DataW.trod_int Try.underlying3 t1
      obtain ⟨z2, e2, _, _⟩ := DataW.trod_int Try.underlying3 t2
      simp only [List.cons.injEq, and_true] at e1 e2
      exact ⟨(z1, z2), by rw [h1, e1], by rw [h2, e2]⟩
    obtain ⟨f, hf⟩ := Deep.choose_lt each
    refine ⟨(List.range len).map f, by simp, fun hpos => ?_⟩
    obtain ⟨bb, off, spot⟩ := b
    have hspot : spot = none := by simpa [Addr.add] using World.cell?_spot (hf 0 hpos).1
    subst hspot
    refine ⟨bb, off, rfl, fun i hi => ?_⟩
    have hadd : ∀ j, (⟨bb, off, none⟩ : Addr).add j = ⟨bb, off + j, none⟩ := fun j => by unfold Addr.add; split <;> simp_all
    have h1 := hf i hi
    rw [hadd, hadd] at h1
    rw [← Nat.add_assoc] at h1
    simpa [hi] using h1

theorem Try.cellsTx : Try.prog.cellsOf 71 = 3 := by kernel_rfl
theorem Try.cellsIn : Try.prog.cellsOf 88 = 3 := by kernel_rfl
theorem Try.cellsOut : Try.prog.cellsOf 84 = 2 := by kernel_rfl
theorem Try.cellsPoint : Try.prog.cellsOf 86 = 2 := by kernel_rfl
theorem Try.cellsOps : Try.prog.cellsOf 82 = 1 := by kernel_rfl
theorem Try.cellsIns : Try.prog.cellsOf 68 = 1 := by kernel_rfl
theorem Try.cellsOuts : Try.prog.cellsOf 69 = 1 := by kernel_rfl

theorem list_two {cs : List Value} (h : cs.length = 2) : ∃ a b, cs = [a, b] := by
  match cs, h with
  | [a, b], _ => exact ⟨a, b, rfl⟩
theorem list_three {cs : List Value} (h : cs.length = 3) : ∃ a b c, cs = [a, b, c] := by
  match cs, h with
  | [a, b, c], _ => exact ⟨a, b, c, rfl⟩

theorem Try.cellsBlk : Try.prog.cellsOf 28 = 5 := by kernel_rfl
theorem Try.cellsTree : Try.prog.cellsOf 25 = 2 := by kernel_rfl
theorem Try.cellsTxs : Try.prog.cellsOf 26 = 1 := by kernel_rfl
theorem Try.cellsBlks : Try.prog.cellsOf 23 = 1 := by kernel_rfl
theorem Try.cellsInts : Try.prog.cellsOf 22 = 1 := by kernel_rfl
theorem list_five {cs : List Value} (h : cs.length = 5) : ∃ a b c d e, cs = [a, b, c, d, e] := by
  match cs, h with
  | [a, b, c, d, e], _ => exact ⟨a, b, c, d, e, rfl⟩

section
variable {H : Type} {enc : TypeId × Value → H} {W : World} {sp : Nat → Bool} {held : Bool} {fuel : Nat}

theorem ops_full {v : Value} {x : DataW H × List MemPlace} (h : DataW.trod enc Try.prog W 0 sp held fuel 82 [v] = some x) : ∃ a n c l, v = .slice a n c ∧ OpsAt W a n l ∧ SlOk a n c := by
  have h' := h
  rcases Deep.open_slice Try.underlying82 h with ⟨hcs, _⟩ | ⟨b, l, c, m, n, D, Pl, hcs, _, hl, hm, _⟩
  · simp at hcs
    subst hcs
    exact ⟨none, 0, 0, [], rfl, ⟨rfl, fun h => absurd h (by omega)⟩, Nat.le_refl _, Nat.zero_le _, fun _ => ⟨rfl, rfl⟩⟩
  · simp at hcs
    subst hcs
    obtain ⟨⟨L, hO⟩, _⟩ := ops_open h'
    exact ⟨some b, l, c, L, rfl, hO, hl, hm, fun h => by cases h⟩

theorem in_full {cs : List Value} {x : DataW H × List MemPlace} (h : DataW.trod enc Try.prog W 0 sp held fuel 88 cs = some x) : ∃ x1 x2 a n c l, cs = [.int .i64 x1, .int .i64 x2, .slice a n c] ∧ OpsAt W a n l ∧ SlOk a n c := by
  obtain ⟨y0, y1, k, _, hl, h0, h1⟩ := trod_struct2 Try.underlying88 h
  rw [Try.cellsIn] at hl
  obtain ⟨c0, c1, c2, rfl⟩ := list_three hl
  simp [Try.cellsPoint, Try.cellsOps] at h0 h1
  obtain ⟨z0, z1, k2, _, _, g0, g1⟩ := trod_struct2 Try.underlying86 h0
  simp [Try.cells3] at g0 g1
  obtain ⟨x1, e1, _, _⟩ := DataW.trod_int Try.underlying3 g0
  obtain ⟨x2, e2, _, _⟩ := DataW.trod_int Try.underlying3 g1
  obtain ⟨a, n, c, l, rfl, hO, hS⟩ := ops_full h1
  simp only [List.cons.injEq, and_true] at e1 e2
  subst e1 e2
  exact ⟨x1, x2, a, n, c, l, rfl, hO, hS⟩
theorem out_full {cs : List Value} {x : DataW H × List MemPlace} (h : DataW.trod enc Try.prog W 0 sp held fuel 84 cs = some x) : ∃ x1 a n c l, cs = [.int .i64 x1, .slice a n c] ∧ OpsAt W a n l ∧ SlOk a n c := by
  obtain ⟨y0, y1, k, _, hl, h0, h1⟩ := trod_struct2 Try.underlying84 h
  rw [Try.cellsOut] at hl
  obtain ⟨c0, c1, rfl⟩ := list_two hl
  simp [Try.cells3, Try.cellsOps] at h0 h1
  obtain ⟨x1, e1, _, _⟩ := DataW.trod_int Try.underlying3 h0
  obtain ⟨a, n, c, l, rfl, hO, hS⟩ := ops_full h1
  simp only [List.cons.injEq, and_true] at e1
  subst e1
  exact ⟨x1, a, n, c, l, rfl, hO, hS⟩


/-- A slice of records that came in. -/
theorem recs_full {α : Type} [Inhabited α] (Z : Rec α) {ts t : TypeId} (hu : Try.prog.underlying ts = some (.slice t)) (hc : Try.prog.cellsOf t = Z.sz) (hpos : 0 < Z.sz)
    (hel : ∀ (fuel : Nat) (cs : List Value) (x : DataW H × List MemPlace), DataW.trod enc Try.prog W 0 sp held fuel t cs = some x → ∃ y, Z.C W cs y)
    {v : Value} {x : DataW H × List MemPlace} (h : DataW.trod enc Try.prog W 0 sp held fuel ts [v] = some x) : ∃ a n c l, v = .slice a n c ∧ RowsAt Z.R Z.sz W a n l ∧ SlOk a n c := by
  rcases Deep.open_slice hu h with ⟨hcs, _⟩ | ⟨b, l, c, m, n, D, Pl, hcs, _, hl, hm, hmm, _, hee⟩
  · simp at hcs
    subst hcs
    exact ⟨none, 0, 0, [], rfl, RowsAt.nil _ _, Nat.le_refl _, Nat.zero_le _, fun _ => ⟨rfl, rfl⟩⟩
  · simp at hcs
    subst hcs
    have hlm : l ≤ m := by rw [hmm]; split <;> omega
    have each : ∀ i, i < l → ∃ q : α, ∃ cs, (∀ j, j < Z.sz → W.cell? (b.add (i * Z.sz + j)) = cs[j]?) ∧ Z.C W cs q := fun i hi => by
      obtain ⟨cs', h1, h2⟩ := hee i (by omega)
      rw [hc] at h1
      obtain ⟨_, _, hcell⟩ := World.cells?_some h1
      obtain ⟨y, hy⟩ := hel _ _ _ h2
      exact ⟨y, cs', fun j hj => by rw [← hcell j hj, Deep.add_add], hy⟩
    obtain ⟨f, hf⟩ := Deep.choose_lt each
    refine ⟨some b, l, c, (List.range l).map f, rfl, ⟨by simp, fun hpos2 => ?_⟩, hl, hm, fun h => by cases h⟩
    obtain ⟨bb, off, spot⟩ := b
    have hadd : ∀ j, (⟨bb, off, none⟩ : Addr).add j = ⟨bb, off + j, none⟩ := fun j => by unfold Addr.add; split <;> simp_all
    obtain ⟨cs0, hc0, hC0⟩ := hf 0 hpos2
    have hw0 := Z.wide _ _ _ hC0
    have z0 := hc0 0 hpos
    have e0 : cs0[0]? = some (cs0[0]'(by omega)) := by simp [hw0, hpos]
    rw [e0] at z0
    have hspot : spot = none := by simpa [Addr.add] using World.cell?_spot z0
    subst hspot
    refine ⟨bb, off, rfl, by rw [hadd] at z0; exact World.block_lt_of_cell? _ _ z0, fun i hi => ?_⟩
    have hi' : i < l := by simpa using hi
    obtain ⟨cs, hcs, hC⟩ := hf i hi'
    rw [List.getElem_map, List.getElem_range]
    refine Z.cr _ _ _ cs _ (fun j u hj => ?_) hC
    have hjl : j < Z.sz := by rw [← Z.wide _ _ _ hC]; exact (List.getElem?_eq_some_iff.1 hj).1
    have := hcs j hjl
    rw [hadd, ← Nat.add_assoc, hj] at this
    exact this

theorem tx_full {cs : List Value} {x : DataW H × List MemPlace} (h : DataW.trod enc Try.prog W 0 sp held fuel 71 cs = some x) : ∃ y, txR.C W cs y := by
  obtain ⟨y0, y1, y2, k, _, hl, h0, h1, h2⟩ := Deep.trod_struct3 Try.underlying71 h
  rw [Try.cellsTx] at hl
  obtain ⟨c0, c1, c2, rfl⟩ := list_three hl
  simp [Try.cells3, Try.cellsIns, Try.cellsOuts] at h0 h1 h2
  obtain ⟨hh, e0, _, _⟩ := DataW.trod_int Try.underlying3 h0
  obtain ⟨ai, ni, ci, I, rfl, hI, sI⟩ := recs_full inR Try.underlying68 Try.cellsIn (by decide) (fun _ _ _ q => by
    obtain ⟨x1, x2, a, n, c, l, rfl, hO, hS⟩ := in_full q
    exact ⟨(x1, x2, l), a, n, c, rfl, hO, hS⟩) h1
  obtain ⟨ao, no, co, O, rfl, hO, sO⟩ := recs_full outR Try.underlying69 Try.cellsOut (by decide) (fun _ _ _ q => by
    obtain ⟨x1, a, n, c, l, rfl, hO, hS⟩ := out_full q
    exact ⟨(x1, l), a, n, c, rfl, hO, hS⟩) h2
  simp only [List.cons.injEq, and_true] at e0
  subst e0
  exact ⟨(hh, I, O), ai, ni, ci, ao, no, co, rfl, hI, sI, hO, sO⟩
theorem trod_struct5 {t : TypeId} {f0 f1 f2 f3 f4 : Field} {cs : List Value} {x : DataW H × List MemPlace} (ht : Try.prog.underlying t = some (.struct #[f0, f1, f2, f3, f4])) (h : DataW.trod enc Try.prog W 0 sp held fuel t cs = some x) :
    ∃ y0 y1 y2 y3 y4 n, cs.length = Try.prog.cellsOf t ∧ DataW.trod enc Try.prog W 0 sp held n f0.type ((cs.drop f0.offset).take (Try.prog.cellsOf f0.type)) = some y0 ∧
      DataW.trod enc Try.prog W 0 sp held n f1.type ((cs.drop f1.offset).take (Try.prog.cellsOf f1.type)) = some y1 ∧ DataW.trod enc Try.prog W 0 sp held n f2.type ((cs.drop f2.offset).take (Try.prog.cellsOf f2.type)) = some y2 ∧
      DataW.trod enc Try.prog W 0 sp held n f3.type ((cs.drop f3.offset).take (Try.prog.cellsOf f3.type)) = some y3 ∧ DataW.trod enc Try.prog W 0 sp held n f4.type ((cs.drop f4.offset).take (Try.prog.cellsOf f4.type)) = some y4 := by
  obtain ⟨xs, n, _, rfl, hl, hlen, hf⟩ := DataW.trod_struct ht h
  match xs, hlen with
  | [y0, y1, y2, y3, y4], _ => exact ⟨y0, y1, y2, y3, y4, n, hl, by simpa using hf 0 f0 rfl, by simpa using hf 1 f1 rfl, by simpa using hf 2 f2 rfl, by simpa using hf 3 f3 rfl, by simpa using hf 4 f4 rfl⟩
theorem blk_full {cs : List Value} {x : DataW H × List MemPlace} (h : DataW.trod enc Try.prog W 0 sp held fuel 28 cs = some x) : ∃ y, blkR.C W cs y := by
  obtain ⟨y0, y1, y2, y3, y4, k, hl, h0, h1, h2, h3, h4⟩ := trod_struct5 Try.underlying28 h
  rw [Try.cellsBlk] at hl
  obtain ⟨c0, c1, c2, c3, c4, rfl⟩ := list_five hl
  simp [Try.cells3, Try.cellsTxs] at h0 h1 h2 h3 h4
  obtain ⟨x0, e0, _, _⟩ := DataW.trod_int Try.underlying3 h0
  obtain ⟨x1, e1, _, _⟩ := DataW.trod_int Try.underlying3 h1
  obtain ⟨x2, e2, _, _⟩ := DataW.trod_int Try.underlying3 h2
  obtain ⟨x3, e3, _, _⟩ := DataW.trod_int Try.underlying3 h3
  obtain ⟨a, n, c, T, rfl, hT, sT⟩ := recs_full txR Try.underlying26 Try.cellsTx (by decide) (fun _ _ _ q => tx_full q) h4
  simp only [List.cons.injEq, and_true] at e0 e1 e2 e3
  subst e0 e1 e2 e3
  exact ⟨(x0, x1, x2, x3, T), a, n, c, rfl, hT, sT⟩
theorem ints_full {v : Value} {x : DataW H × List MemPlace} (h : DataW.trod enc Try.prog W 0 sp held fuel 22 [v] = some x) : ∃ a n c l, v = .slice a n c ∧ IntsAt W a n l ∧ SlOk a n c := by
  rcases open_ints Try.underlying22 Try.underlying3 (by kernel_rfl) h with ⟨hcs, _⟩ | ⟨b, l, c, zs, hcs, _, hl, hm, hz, _, hcell, _⟩
  · simp at hcs
    subst hcs
    exact ⟨none, 0, 0, [], rfl, IntsAt.nil _ _, Nat.le_refl _, Nat.zero_le _, fun _ => ⟨rfl, rfl⟩⟩
  · simp at hcs
    subst hcs
    have hlz : l ≤ zs.length := by rw [hz]; split <;> omega
    refine ⟨some b, l, c, zs.take l, rfl, ⟨by rw [List.length_take]; omega, fun hpos => ?_⟩, hl, hm, fun h => by cases h⟩
    obtain ⟨bb, off, spot⟩ := b
    have z0 := hcell 0 (by omega)
    have hspot : spot = none := by simpa [Addr.add] using World.cell?_spot z0
    subst hspot
    have hadd : ∀ j, (⟨bb, off, none⟩ : Addr).add j = ⟨bb, off + j, none⟩ := fun j => by unfold Addr.add; split <;> simp_all
    refine ⟨bb, off, rfl, by rw [hadd] at z0; exact World.block_lt_of_cell? _ _ z0, fun i hi => ?_⟩
    rw [List.length_take] at hi
    have := hcell i (by omega)
    rw [hadd] at this
    rw [this, List.getElem_take]
    simp [List.getD, (by omega : i < zs.length)]
/-- A tree that came in. -/
theorem tree_full {cs : List Value} {x : DataW H × List MemPlace} (h : DataW.trod enc Try.prog W 0 sp held fuel 25 cs = some x) : ∃ a n c b m d N T, cs = [.slice a n c, .slice b m d] ∧ IntsAt W a n N ∧ SlOk a n c ∧ BlksAt W b m T ∧ SlOk b m d := by
  obtain ⟨y0, y1, k, _, hl, h0, h1⟩ := trod_struct2 Try.underlying25 h
  rw [Try.cellsTree] at hl
  obtain ⟨c0, c1, rfl⟩ := list_two hl
  simp [Try.cellsInts, Try.cellsBlks] at h0 h1
  obtain ⟨a, n, c, N, rfl, hN, sN⟩ := ints_full h0
  obtain ⟨b, m, d, T, rfl, hT, sT⟩ := recs_full blkR Try.underlying23 Try.cellsBlk (by decide) (fun _ _ _ q => blk_full q) h1
  exact ⟨a, n, c, b, m, d, N, T, rfl, hN, sN, hT, sT⟩
end

end Go.Proofs.Ytklekpbladmjhaa
