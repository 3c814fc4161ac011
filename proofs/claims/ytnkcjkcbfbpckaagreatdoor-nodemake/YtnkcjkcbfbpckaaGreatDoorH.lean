import Derived.Test.YtnkcjkcbfbpckaaGreatDoorProg
import Derived.Below
import Derived.ProofKit
import Derived.WalkKit
import Derived.Deep.RegionHeld
namespace Go.Proofs.YtnkcjkcbfbpckaaGreatDoor
open Go.RowKit
abbrev ZD(w W:World):Prop:=Below w.heap.size w W
theorem ZE{w W:World}{b:Nat}{o:Obj}(h:Below w.heap.size w W)(e:w.heap[b]? = some o):W.heap[b]? = some o:=(h.block _ (lt_of_block e)).trans e
theorem ZF{α:Type}(a:α):∃ x,a=x:=⟨_,rfl⟩
theorem ZG{α:Type}(a:α):∃ x,x=a:=⟨_,rfl⟩
abbrev ZH(f:FuncId)(a:Array Value)(w:World)(v:Value):Prop:=Calls Tryz.prog f a w fun e w'=>e = .returned v∧Below w.heap.size w w'
theorem dQ{P:Program}{f:FuncId}{a:Array Value}{w:World}{v:Value}{R:World->Prop}{Q:Ending->World->Prop}(h:Calls P f a w λe w'=>e = .returned v/\R w')(k:∀ w,R w->Q (.returned v) w):Calls P f a w Q:=h.mono λ_ w ⟨e,r⟩=>e▸k w r
theorem dR{P:Program}{f:FuncId}{a:Array Value}{w:World}{v:Value}{Q:Ending->World->Prop}(h:Calls P f a w λe w'=>e = .returned v/\w = w')(k:Q (.returned v) w):Calls P f a w Q:=h.mono λ_ _ ⟨e,r⟩=>e▸r▸k
abbrev dV(U:World)(b j:Nat)(v:Value):Prop:=U.cell? ⟨b,j,none⟩=some v
theorem dW{P:Program}{ops:Array Oper}{Q:Exit->Act->World->Prop}{id:Nat}{a:Act}{w:World}{R S:World->Prop}(KS:∀ U,R U->S U)(hR:R w.drew)(h:S w.drew->wpAnyH P .any ops Q (S) ops.size (Array.replicate ops.size false) a w.drew)(hm:P.follows .mixedOrders=true:=by kernel_rfl):(Code.region id ops true).wp P Q a w:=wp_region_held_drew (S:=S) hm (KS _ hR) h
theorem dX{P:Program}{ops:Array Oper}{Q:Exit->Act->World->Prop}{id:Nat}{a:Act}{w:World}{R S:World->Prop}(KS:∀ U,R U->S U)(hR:R w.drew)(h:R w.drew/\S w.drew->wpAnyH P .any ops Q (λU=>R U/\S U) ops.size (Array.replicate ops.size false) a w.drew)(hm:P.follows .mixedOrders=true:=by kernel_rfl):(Code.region id ops true).wp P Q a w:=wp_region_held_drew (S:=λU=>R U/\S U) hm ⟨hR,KS _ hR⟩ h
theorem dS{x y:Int}(h:¬x=y):(x != y)=true:=by simp[h]
theorem dU{x y:Int}(h:¬x=y):(x == y)=false:=by simp[h]
