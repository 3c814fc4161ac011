import Derived.Test.YtpikejjiignchaaGreatDoorG2
namespace Go.Proofs.YtpikejjiignchaaGreatDoor
open Go.RowKit
theorem Xh{w w':World}{base:Nat}{e:TypeId}{size:Nat}{v:Value}{n:Nat}{xs:List Value}(h:w.ownsRow base e size v n xs)(hb:Below w.heap.size w w'):w'.ownsRow base e size v n xs:=by
 obtain⟨hl,h0|⟨g,cap,cur,hv,hg,hh,r⟩⟩:=h
 ·exact⟨hl,.inl h0⟩
 ·exact⟨hl,.inr ⟨g,cap,cur,hv,hg,(hb.block g (lt_of_block hh)).trans hh,r⟩⟩
end Go.Proofs.YtpikejjiignchaaGreatDoor
