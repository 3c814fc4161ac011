/- What the rows of the laws that read a text have in common: the listed variables, and that the world keeps its shape. -/
import Derived.Test.YtadlakolpphgnaaDoorLockFrame
import Derived.Test.YtadlakolpphgnaaDoorLockNum
import Derived.HandedShaped
import Derived.LaidLaws
namespace Go.Proofs.YtadlakolpphgnaaDoor
open Go.ChangeShapes Go.WideShapes Go.ChangeAt Go.RowKit

set_option maxRecDepth 100000 in
/-- A call under a condition on its memory, in a world of the program's shape: the guide's two wraps in one. -/
theorem handed_both {H : Type} {enc : TypeId × Value → H} {os : Os} {f : FuncId} {fn : Func} {s : ChangeSpec} {X : World → Prop} (hX : ∀ w w' : World, w.heap = w'.heap → X w → X w')
    (started : os.Started) (noInit : Tryd.checked.prog.inits.idxOf? f = none) (hfn : Tryd.checked.prog.funcs[f]? = some fn)
    (witness : ∃ (w : World) (tape : Tape) (i : Input), w.os = os ∧ (w.forCall tape i).Shaped Tryd.checked.prog ∧ i.vars = [] ∧ Input.okWide Tryd.checked.prog (w.forCall tape i) .any w.heap.size f i ∧
      ((s.pre enc Tryd.checked.prog fn [] false (w.forCall tape i).memory i.args ∧ X (w.forCall tape i).memory) ∧ sizedMet enc Tryd.checked.prog fn (OpenSpec.ofChange s) false (w.forCall tape i).memory i.args) ∧ ({} : Assume).holds Tryd.checked.prog (lone (Frame.enter Tryd.checked.prog f i.args .normal) [] (w.forCall tape i)))
    (contract : ∀ (W : World) (base : Nat) (args : Array Value) (ds gs : List (DataW H)) (before : List MemPlace),
      (∀ (j : Nat) t v, fn.params[j]? = some t → args[j]? = some v → Value.okWide Tryd.checked.prog W .any base t v) →
      DataW.Whole enc Tryd.checked.prog fn.params.toList s.vars false W args.toList ds gs before → X W → W.ShapedOpen Tryd.checked.prog →
      Calls Tryd.checked.prog f args W fun e W' => ∃ v, e = .returned v ∧ s.post enc Tryd.checked.prog fn false true false false W args v W') :
    ReturnsInHanded {} Tryd.checked os f .any (fun w args => (s.pre enc Tryd.checked.prog fn [] false w args ∧ X w) ∧ sizedMet enc Tryd.checked.prog fn (OpenSpec.ofChange s) false w args) (s.post enc Tryd.checked.prog fn false true false false) := by
  refine returnsInHanded_of_calls own started noInit witness ?_
  intro w tape i _ hsh _ hok hpre _
  obtain ⟨_, _, _, fn', hfn', _, _, _, _, hval⟩ := hok
  obtain rfl : fn' = fn := Option.some.inj (hfn'.symm.trans hfn)
  obtain ⟨⟨⟨ds, gs, before, hw, _⟩, hx⟩, _⟩ := hpre
  refine (contract (w.forCall tape i) w.heap.size i.args ds gs before hval (DataW.Whole.of_heap (w' := w.forCall tape i) (by rfl) hw) (hX _ _ (by rfl) hx) hsh).mono fun e W' ⟨v, he, hp⟩ => ?_
  subst he
  exact ChangeSpec.post_blind hp

/-- The great table of the library, laid into a world. -/
def firstA : Array Value := (Pinned.utf8FirstZ.map fun (n : Nat) => Value.int .u8 n).toArray
def layFirst (w : World) : World :=
  { w with heap := w.heap.modify 3 fun
      | .cells _ t fr => .cells firstA t fr
      | o => o }

theorem Tryd.tSyn : (Tryd.prog.globals[5]?).map (·.type) = some 94 := by kernel_rfl
theorem Tryd.tRan : (Tryd.prog.globals[6]?).map (·.type) = some 94 := by kernel_rfl

theorem iface_held {H : Type} {enc : TypeId × Value → H} {w : World} {base : Nat} {sp : Nat → Bool} {fuel : Nat} {n : String} {cs : Array Value} {nm : String} {d : DataW H} {p : List MemPlace} (hv : w.var? Tryd.prog n = some cs)
    (h : DataW.trod enc Tryd.prog w base sp false fuel 94 cs.toList = some (.iface nm d, p)) : ∃ tp v, w.var? Tryd.prog n = some #[.iface tp v] := by
  obtain ⟨f1, u, v, hc, _, _⟩ := iface_of_trod Tryd.underlying94 h
  refine ⟨u, v, ?_⟩
  rw [hv]
  obtain ⟨l⟩ := cs
  have hc' : l = [.iface u v] := hc
  rw [hc']

end Go.Proofs.YtadlakolpphgnaaDoor
