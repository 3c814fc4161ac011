import Derived.Test.YtpikejjiignchaaGreatDoorG2
namespace Go.Proofs.YtpikejjiignchaaGreatDoor
open Go.RowKit
theorem J2{w:World}{base z:Nat}{e:TypeId}{size:Nat}{v}{n:Nat}{xs}(h:w.ownsRow base e size v n xs)(hb:z<=base):w.ownsRow z e size v n xs:=by
 obtain⟨O,h0|⟨g,cap,aa,hv,hg,hh,r⟩⟩:=h
 ·exact⟨O,.inl h0⟩
 ·exact⟨O,.inr ⟨g,cap,aa,hv,Nat.le_trans hb hg,hh,r⟩⟩
