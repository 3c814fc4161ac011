import Derived.Test.YtpikejjiignchaaGreatDoorH
import Derived.Test.YtpikejjiignchaaGreatDoorG2
namespace Go.Proofs.YtpikejjiignchaaGreatDoor
open Go.RowKit
theorem Xv{w w':World}{base:Nat}{e:TypeId}{size:Nat}{v}{n:Nat}{xs}(h:w.ownsRow base e size v n xs)(hb:ZD w w'):w'.ownsRow base e size v n xs:=by
 obtain⟨O,h0|⟨g,cap,aa,hv,hg,z,r⟩⟩:=h
 ·exact⟨O,.inl h0⟩
 ·exact⟨O,.inr ⟨g,cap,aa,hv,hg,(hb.block g (lt_of_block z)).trans z,r⟩⟩
