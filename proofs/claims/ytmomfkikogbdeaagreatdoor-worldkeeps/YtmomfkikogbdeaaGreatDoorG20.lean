import Derived.Test.YtmomfkikogbdeaaGreatDoorH
import Derived.Test.YtmomfkikogbdeaaGreatDoorG2
import Derived.Lib.AppendIntMem
import Derived.Lib.AtoiAll
import Derived.Lib.ItoaLen
import Derived.Lib.SmallJoins
import Derived.Lib.SplitLaws
import Derived.Shelf.Slices.Clone
import Derived.Shelf.Small.Bits
import Derived.Shelf.Strconv.Itoa3
import Derived.Shelf.Strings.OnBuilder
namespace Go.Proofs.YtmomfkikogbdeaaGreatDoor
open Go.RowKit
theorem Tm{w w':World}{base:Nat}{e:TypeId}{size:Nat}{v}{n:Nat}{xs}(h:w.ownsRow base e size v n xs)(hb:ZD w w'):w'.ownsRow base e size v n xs:=by
 obtain⟨Q,h0|⟨g,cap,aa,hv,hg,z,r⟩⟩:=h
 ·exact⟨Q,.inl h0⟩
 ·exact⟨Q,.inr ⟨g,cap,aa,hv,hg,(hb.block g (lt_of_block z)).trans z,r⟩⟩
