import Derived.Test.YtmomfkikogbdeaaGreatDoorH
import Derived.Test.YtmomfkikogbdeaaGreatDoorG20
import Derived.Lib.SplitLaws
namespace Go.Proofs.YtmomfkikogbdeaaGreatDoor
open Go.RowKit
def sepB:ByteArray:=⟨#[32]⟩
def Ts(s:ByteArray):List ByteArray:=if s.size=0 then [] else Lib.splitB sepB 0 (Lib.countB s sepB) s
def Qf:List ByteArray->Option (List (Int×Int))
 | []=>some []
 | x :: r=>(Fb x).bind λq=>(Qf r).map (q :: ·)
def prE(s:ByteArray):Int:=if 4000<s.size then 2 else match Qf (Ts s) with|none=>1|some l=>chk l
def prL(s:ByteArray):List (Int×Int):=if 4000<s.size then [] else match Qf (Ts s) with|none=>[]|some l=>if chk l=0 then l else []
theorem Sb{w w':World}{base:Nat}{e:TypeId}{size:Nat}{v}{n:Nat}{xs}(h:w.ownsRow base e size v n xs)(hb:ZD w w'):w'.ownsRow base e size v n xs:=by
 obtain⟨hl,h0|⟨g,cap,ac,hv,hg,hh,r⟩⟩:=h
 ·exact⟨hl,.inl h0⟩
 ·exact⟨hl,.inr ⟨g,cap,ac,hv,hg,(hb.block g (lt_of_block hh)).trans hh,r⟩⟩
