import Derived.Test.YtbddijbmepdliaaGreatDoorProg
import Derived.Below
import Derived.ProofKit
import Derived.WalkKit
namespace Go.Proofs.YtbddijbmepdliaaGreatDoor
open Go.RowKit
abbrev ZD(w W:World):Prop:=Below w.heap.size w W
theorem ZE{w W:World}{b:Nat}{o:Obj}(h:Below w.heap.size w W)(e:w.heap[b]? = some o):W.heap[b]? = some o:=(h.block _ (lt_of_block e)).trans e
theorem ZF{α:Type}(a:α):∃ x,a=x:=⟨_,rfl⟩
theorem ZG{α:Type}(a:α):∃ x,x=a:=⟨_,rfl⟩
abbrev ZH(f:FuncId)(a:Array Value)(w:World)(v:Value):Prop:=Calls Tryz.prog f a w fun e w'=>e = .returned v∧Below w.heap.size w w'
