import Derived.Test.YtpikejjiignchaaGreatDoorG2
namespace Go.Proofs.YtpikejjiignchaaGreatDoor
open Go.RowKit
theorem Qr{w:World}{base base':Nat}{e:TypeId}{size:Nat}{v:Value}{n:Nat}{xs:List Value}(h:w.ownsRow base e size v n xs)(hb:base'≤base):w.ownsRow base' e size v n xs:=by
 obtain⟨hl,h0|⟨g,cap,cur,hv,hg,hh,r⟩⟩:=h
 ·exact⟨hl,.inl h0⟩
 ·exact⟨hl,.inr ⟨g,cap,cur,hv,Nat.le_trans hb hg,hh,r⟩⟩
end Go.Proofs.YtpikejjiignchaaGreatDoor
