/- What the rows of the laws that read a text have in common: the listed variables, and that the world keeps its shape. -/
import Derived.Test.YtepmnpapdknocaaGreatDoorCoinFrameToLockFrame
import Derived.Test.YtepmnpapdknocaaGreatDoorTxPartsToTxRow
import Derived.HandedShaped
import Derived.LaidLaws
import Derived.LaidOnce
import Derived.Test.YtepmnpapdknocaaGreatDoorRows
import Derived.JoinedOf
namespace Go.Proofs.YtepmnpapdknocaaGreatDoor
open Go.ChangeShapes Go.WideShapes Go.ChangeAt Go.RowKit

set_option maxRecDepth 100000 in
/-- A call under a condition on its memory, in a world of the program's shape: the guide's two wraps in one. -/
theorem handed_both {H : Type} {enc : TypeId × Value → H} {os : Os} {f : FuncId} {fn : Func} {s : ChangeSpec} {X : World → Prop} (hX : ∀ w w' : World, w.heap = w'.heap → X w → X w')
    (started : os.Started) (noInit : Tryz.checked.prog.inits.idxOf? f = none) (hfn : Tryz.checked.prog.funcs[f]? = some fn)
    (witness : ∃ (w : World) (tape : Tape) (i : Input), w.os = os ∧ (w.forCall tape i).Shaped Tryz.checked.prog ∧ i.vars = [] ∧ Input.okWide Tryz.checked.prog (w.forCall tape i) .any w.heap.size f i ∧
      ((s.pre enc Tryz.checked.prog fn [] false (w.forCall tape i).memory i.args ∧ X (w.forCall tape i).memory) ∧ sizedMet enc Tryz.checked.prog fn (OpenSpec.ofChange s) false (w.forCall tape i).memory i.args) ∧ ({} : Assume).holds Tryz.checked.prog (lone (Frame.enter Tryz.checked.prog f i.args .normal) [] (w.forCall tape i)))
    (contract : ∀ (W : World) (base : Nat) (args : Array Value) (ds gs : List (DataW H)) (before : List MemPlace),
      (∀ (j : Nat) t v, fn.params[j]? = some t → args[j]? = some v → Value.okWide Tryz.checked.prog W .any base t v) →
      DataW.Whole enc Tryz.checked.prog fn.params.toList s.vars false W args.toList ds gs before → X W → W.ShapedOpen Tryz.checked.prog →
      Calls Tryz.checked.prog f args W fun e W' => ∃ v, e = .returned v ∧ s.post enc Tryz.checked.prog fn false true false false W args v W') :
    ReturnsInHanded {} Tryz.checked os f .any (fun w args => (s.pre enc Tryz.checked.prog fn [] false w args ∧ X w) ∧ sizedMet enc Tryz.checked.prog fn (OpenSpec.ofChange s) false w args) (s.post enc Tryz.checked.prog fn false true false false) := by
  refine returnsInHanded_of_calls Lf.own started noInit witness ?_
  intro w tape i _ hsh _ hok hpre _
  obtain ⟨_, _, _, fn', hfn', _, _, _, _, hval⟩ := hok
  obtain rfl : fn' = fn := Option.some.inj (hfn'.symm.trans hfn)
  obtain ⟨⟨⟨ds, gs, before, hw, _⟩, hx⟩, _⟩ := hpre
  refine (contract (w.forCall tape i) w.heap.size i.args ds gs before hval (DataW.Whole.of_heap (w' := w.forCall tape i) (by rfl) hw) (hX _ _ (by rfl) hx) hsh).mono fun e W' ⟨v, he, hp⟩ => ?_
  subst he
  exact ChangeSpec.post_blind hp

/-- The great table of the library, laid into a world. -/
def firstA : Array Value := (Pinned.utf8FirstZ.map fun (n : Nat) => Value.int .u8 n).toArray
def layFirst (w : World) : World :=
  { w with heap := w.heap.modify 7 fun
      | .cells _ t fr => .cells firstA t fr
      | o => o }

theorem Tryz.tSyn : (Tryz.prog.globals[5]?).map (·.type) = some 163 := by kernel_rfl
theorem Tryz.tRan : (Tryz.prog.globals[6]?).map (·.type) = some 163 := by kernel_rfl

theorem iface_held {H : Type} {enc : TypeId × Value → H} {w : World} {base : Nat} {sp : Nat → Bool} {fuel : Nat} {n : String} {cs : Array Value} {nm : String} {d : DataW H} {p : List MemPlace} (hv : w.var? Tryz.prog n = some cs)
    (h : DataW.trod enc Tryz.prog w base sp false fuel 163 cs.toList = some (.iface nm d, p)) : ∃ tp v, w.var? Tryz.prog n = some #[.iface tp v] := by
  obtain ⟨f1, u, v, hc, _, _⟩ := iface_of_trod Tryz.underlying163 h
  refine ⟨u, v, ?_⟩
  rw [hv]
  obtain ⟨l⟩ := cs
  have hc' : l = [.iface u v] := hc
  rw [hc']

end Go.Proofs.YtepmnpapdknocaaGreatDoor

/- The condition on the listed variables, with 'no place twice' by a set of bits. -/
namespace Go.Proofs.YtepmnpapdknocaaGreatDoor
open Go.ChangeShapes Go.WideShapes Go.ChangeAt Go.RowKit

theorem laidMet_of_bits {P : Program} {w : World} {l : List (String × DataW Unit)} (fuel M : Nat)
    (h : ((DataW.laidRun P w fuel (l.map (·.1))).bind fun x => if nodupBits M x.2 0 && laidRowsB P w x.2 then some x.1 else none) = some l) : laidMet P l w := by
  simp only [Option.bind_eq_some_iff] at h
  obtain ⟨x, hx, d⟩ := h
  split at d
  · rename_i hb
    simp only [Bool.and_eq_true] at hb
    cases d
    exact laidMet_of_run (ps := x.2) fuel (by rw [hx]) (decide_eq_true (nodupBits_sound hb.1).1) hb.2
  · cases d

end Go.Proofs.YtepmnpapdknocaaGreatDoor

/- The closed facts of the row BlockBack, one by one: together they are more than the memory holds. -/
namespace Go.Proofs.YtepmnpapdknocaaGreatDoor.blockBack

theorem cl_inPlace : (Rows.blockBackRow.inPlace == Tryz.pinned.checked.prog.inPlace 4) = true := by kernel_rfl
theorem cl_unfollowed : (Rows.blockBackRow.unfollowed == Tryz.pinned.checked.prog.unfollowed 4) = true := by kernel_rfl
theorem cl_recurses : (Rows.blockBackRow.recurses == Tryz.pinned.checked.prog.recurses 4) = true := by kernel_rfl
theorem cl_named : (Rows.blockBackRow.named == Tryz.pinned.checked.prog.varsNamed 4) = true := by kernel_rfl
theorem cl_a : laidOutB Tryz.pinned.checked.prog = true := by kernel_rfl
theorem cl_b : mapsRowed Tryz.pinned.checked.prog = true := by kernel_rfl
theorem cl_c : Tryz.pinned.checked.prog.stopsHeard = true := by kernel_rfl
theorem cl_d : Tryz.pinned.checked.prog.mayEnter = true := by kernel_rfl
theorem cl_e : Rows.blockBackRow.wf (OpenSpec.ofChange Rows.blockBackSpec) = true := by kernel_rfl
theorem closed : joinedFacts Tryz.pinned.checked.prog 4 Tryz.f4 Rows.blockBackSpec Rows.blockBackRow = true := by
  unfold joinedFacts
  rw [cl_e, cl_a, cl_b, cl_inPlace, cl_unfollowed, cl_recurses, cl_named, cl_c, cl_d]
  kernel_rfl

end Go.Proofs.YtepmnpapdknocaaGreatDoor.blockBack
