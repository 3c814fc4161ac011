/- What the rows of the laws of blocks have in common: blocks among the arguments; listed variables, and the sizes of what came in. -/
import Derived.Test.YtepmnpapdknocaaGreatDoorCoinFrame
import Derived.Test.YtepmnpapdknocaaGreatDoorBlkMem
import Derived.Test.YtepmnpapdknocaaGreatDoorBookFrame
import Derived.Test.YtepmnpapdknocaaGreatDoorLockPrint
import Derived.HandedShaped
import Derived.LaidLaws
import Derived.SizedLaws
namespace Go.Proofs.YtepmnpapdknocaaGreatDoor
open Go.ChangeShapes Go.WideShapes Go.ChangeAt Go.RowKit

theorem Tryz.cellsBlk : Tryz.prog.cellsOf 28 = 5 := by kernel_rfl
theorem Tryz.cellsTxs : Tryz.prog.cellsOf 26 = 1 := by kernel_rfl
theorem list_five {cs : List Value} (h : cs.length = 5) : ∃ a b c d e, cs = [a, b, c, d, e] := by
  match cs, h with
  | [a, b, c, d, e], _ => exact ⟨a, b, c, d, e, rfl⟩

section
variable {H : Type} {enc : TypeId × Value → H} {W : World} {sp : Nat → Bool} {held : Bool} {fuel : Nat}
theorem txs_full {v : Value} {x : DataW H × List MemPlace} (h : DataW.trod enc Tryz.prog W 0 sp held fuel 26 [v] = some x) : ∃ a n c l, v = .slice a n c ∧ TxsAt W a n l ∧ SlOk a n c := by
  rcases Deep.open_slice Tryz.underlying26 h with ⟨hcs, _⟩ | ⟨b, l, c, m, n, D, Pl, hcs, _, hl, hm, hmm, _, hel⟩
  · simp at hcs
    subst hcs
    exact ⟨none, 0, 0, [], rfl, RowsAt.nil _ _, Nat.le_refl _, Nat.zero_le _, fun _ => ⟨rfl, rfl⟩⟩
  · simp at hcs
    subst hcs
    have hlm : l ≤ m := by rw [hmm]; split <;> omega
    have each : ∀ i, i < l → ∃ q : TxD, ∃ ai ni ci ao no co, W.cell? (b.add (i * 3)) = some (.int .i64 q.1) ∧ W.cell? (b.add (i * 3 + 1)) = some (.slice ai ni ci) ∧ W.cell? (b.add (i * 3 + 2)) = some (.slice ao no co) ∧ InsAt W ai ni q.2.1 ∧ SlOk ai ni ci ∧ OutsAt W ao no q.2.2 ∧ SlOk ao no co := fun i hi => by
      obtain ⟨cs', h1, h2⟩ := hel i (by omega)
      rw [Tryz.cellsTx] at h1
      obtain ⟨_, _, hcell⟩ := World.cells?_some h1
      obtain ⟨q1, ai, ni, ci, ao, no, co, I, O, rfl, hI, hO, sI, sO⟩ := tx_open h2
      have e0 := hcell 0 (by omega)
      have e1 := hcell 1 (by omega)
      have e2 := hcell 2 (by omega)
      rw [Deep.add_add] at e0 e1 e2
      exact ⟨(q1, I, O), ai, ni, ci, ao, no, co, by simpa using e0, by simpa using e1, by simpa using e2, hI, sI, hO, sO⟩
    obtain ⟨f, hf⟩ := Deep.choose_lt each
    refine ⟨some b, l, c, (List.range l).map f, rfl, ⟨by simp, fun hpos => ?_⟩, hl, hm, fun h => by cases h⟩
    obtain ⟨bb, off, spot⟩ := b
    obtain ⟨_, _, _, _, _, _, z0, _⟩ := hf 0 hpos
    have hspot : spot = none := by simpa [Addr.add] using World.cell?_spot z0
    subst hspot
    have hadd : ∀ j, (⟨bb, off, none⟩ : Addr).add j = ⟨bb, off + j, none⟩ := fun j => by unfold Addr.add; split <;> simp_all
    refine ⟨bb, off, rfl, by rw [hadd] at z0; exact World.block_lt_of_cell? _ _ z0, fun i hi => ?_⟩
    have hi' : i < l := by simpa using hi
    obtain ⟨ai, ni, ci, ao, no, co, q0, q1, q2, hI, sI, hO, sO⟩ := hf i hi'
    rw [hadd] at q0 q1 q2
    rw [← Nat.add_assoc] at q1 q2
    rw [List.getElem_map, List.getElem_range]
    exact ⟨q0, ⟨ai, ni, ci, q1, hI, sI⟩, ao, no, co, q2, hO, sO⟩
theorem trod_struct5 {t : TypeId} {f0 f1 f2 f3 f4 : Field} {cs : List Value} {x : DataW H × List MemPlace} (ht : Tryz.prog.underlying t = some (.struct #[f0, f1, f2, f3, f4])) (h : DataW.trod enc Tryz.prog W 0 sp held fuel t cs = some x) :
    ∃ y0 y1 y2 y3 y4 n, cs.length = Tryz.prog.cellsOf t ∧ DataW.trod enc Tryz.prog W 0 sp held n f0.type ((cs.drop f0.offset).take (Tryz.prog.cellsOf f0.type)) = some y0 ∧
      DataW.trod enc Tryz.prog W 0 sp held n f1.type ((cs.drop f1.offset).take (Tryz.prog.cellsOf f1.type)) = some y1 ∧ DataW.trod enc Tryz.prog W 0 sp held n f2.type ((cs.drop f2.offset).take (Tryz.prog.cellsOf f2.type)) = some y2 ∧
      DataW.trod enc Tryz.prog W 0 sp held n f3.type ((cs.drop f3.offset).take (Tryz.prog.cellsOf f3.type)) = some y3 ∧ DataW.trod enc Tryz.prog W 0 sp held n f4.type ((cs.drop f4.offset).take (Tryz.prog.cellsOf f4.type)) = some y4 := by
  obtain ⟨xs, n, _, rfl, hl, hlen, hf⟩ := DataW.trod_struct ht h
  match xs, hlen with
  | [y0, y1, y2, y3, y4], _ => exact ⟨y0, y1, y2, y3, y4, n, hl, by simpa using hf 0 f0 rfl, by simpa using hf 1 f1 rfl, by simpa using hf 2 f2 rfl, by simpa using hf 3 f3 rfl, by simpa using hf 4 f4 rfl⟩
/-- A block that came in. -/
theorem blk_open {cs : List Value} {x : DataW H × List MemPlace} (h : DataW.trod enc Tryz.prog W 0 sp held fuel 28 cs = some x) : ∃ p h k n a m c T, cs = [.int .i64 p, .int .i64 h, .int .i64 k, .int .i64 n, .slice a m c] ∧ TxsAt W a m T ∧ SlOk a m c := by
  obtain ⟨y0, y1, y2, y3, y4, k, hl, h0, h1, h2, h3, h4⟩ := trod_struct5 Tryz.underlying28 h
  rw [Tryz.cellsBlk] at hl
  obtain ⟨c0, c1, c2, c3, c4, rfl⟩ := list_five hl
  simp [Tryz.cells3, Tryz.cellsTxs] at h0 h1 h2 h3 h4
  obtain ⟨x0, e0, _, _⟩ := DataW.trod_int Tryz.underlying3 h0
  obtain ⟨x1, e1, _, _⟩ := DataW.trod_int Tryz.underlying3 h1
  obtain ⟨x2, e2, _, _⟩ := DataW.trod_int Tryz.underlying3 h2
  obtain ⟨x3, e3, _, _⟩ := DataW.trod_int Tryz.underlying3 h3
  obtain ⟨a, n, c, T, rfl, hT, sT⟩ := txs_full h4
  simp only [List.cons.injEq, and_true] at e0 e1 e2 e3
  subst e0 e1 e2 e3
  exact ⟨x0, x1, x2, x3, a, n, c, T, rfl, hT, sT⟩
end

set_option maxRecDepth 100000 in
/-- A call under a condition on its memory, where what came in has Go's sizes. -/
theorem handed_sized {H : Type} {enc : TypeId × Value → H} {os : Os} {f : FuncId} {fn : Func} {s : ChangeSpec} {X : World → Prop} (hX : ∀ w w' : World, w.heap = w'.heap → X w → X w')
    (started : os.Started) (noInit : Tryz.checked.prog.inits.idxOf? f = none) (hfn : Tryz.checked.prog.funcs[f]? = some fn)
    (witness : ∃ (w : World) (tape : Tape) (i : Input), w.os = os ∧ (w.forCall tape i).Shaped Tryz.checked.prog ∧ i.vars = [] ∧ Input.okWide Tryz.checked.prog (w.forCall tape i) .any w.heap.size f i ∧
      ((s.pre enc Tryz.checked.prog fn [] false (w.forCall tape i).memory i.args ∧ X (w.forCall tape i).memory) ∧ sizedMet enc Tryz.checked.prog fn (OpenSpec.ofChange s) false (w.forCall tape i).memory i.args) ∧ ({} : Assume).holds Tryz.checked.prog (lone (Frame.enter Tryz.checked.prog f i.args .normal) [] (w.forCall tape i)))
    (contract : ∀ (W : World) (base : Nat) (args : Array Value) (ds gs : List (DataW H)) (before : List MemPlace),
      (∀ (j : Nat) t v, fn.params[j]? = some t → args[j]? = some v → Value.okWide Tryz.checked.prog W .any base t v) →
      DataW.Whole enc Tryz.checked.prog fn.params.toList s.vars false W args.toList ds gs before → X W → (DataW.weightsEach Tryz.checked.prog (fn.params.toList ++ s.plain.varTypes Tryz.checked.prog) (ds ++ gs)).all (· ≤ reachBytes) = true →
      Calls Tryz.checked.prog f args W fun e W' => ∃ v, e = .returned v ∧ s.post enc Tryz.checked.prog fn false true false false W args v W') :
    ReturnsInHanded {} Tryz.checked os f .any (fun w args => (s.pre enc Tryz.checked.prog fn [] false w args ∧ X w) ∧ sizedMet enc Tryz.checked.prog fn (OpenSpec.ofChange s) false w args) (s.post enc Tryz.checked.prog fn false true false false) := by
  refine returnsInHanded_of_calls own started noInit witness ?_
  intro w tape i _ _ _ hok hpre _
  obtain ⟨_, _, _, fn', hfn', _, _, _, _, hval⟩ := hok
  obtain rfl : fn' = fn := Option.some.inj (hfn'.symm.trans hfn)
  obtain ⟨⟨⟨ds, gs, before, hw, _⟩, hx⟩, hz⟩ := hpre
  refine (contract (w.forCall tape i) w.heap.size i.args ds gs before hval (DataW.Whole.of_heap (w' := w.forCall tape i) (by rfl) hw) (hX _ _ (by rfl) hx) (hz.weights hw)).mono fun e W' ⟨v, he, hp⟩ => ?_
  subst he
  exact ChangeSpec.post_blind hp

end Go.Proofs.YtepmnpapdknocaaGreatDoor
