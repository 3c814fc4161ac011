import Derived.Test.YtmomfkikogbdeaaGreatDoorH
import Derived.Test.YtmomfkikogbdeaaGreatDoorG19
import Derived.Lib.SplitLaws
namespace Go.Proofs.YtmomfkikogbdeaaGreatDoor
open Go.RowKit
def sepB:ByteArray:=⟨#[32]⟩
def T6(s:ByteArray):List ByteArray:=if s.size=0 then [] else Lib.splitB sepB 0 (Lib.countB s sepB) s
def Qq:List ByteArray->Option (List (Int×Int))
 | []=>some []
 | x :: r=>(D8 x).bind λq=>(Qq r).map (q :: ·)
def prE(s:ByteArray):Int:=if 4000<s.size then 2 else match Qq (T6 s) with|none=>1|some l=>chk l
def prL(s:ByteArray):List (Int×Int):=if 4000<s.size then [] else match Qq (T6 s) with|none=>[]|some l=>if chk l=0 then l else []
theorem Si{w w':World}{base:Nat}{e:TypeId}{size:Nat}{v}{n:Nat}{xs}(h:w.ownsRow base e size v n xs)(hb:ZD w w'):w'.ownsRow base e size v n xs:=by
 obtain⟨Q,h0|⟨g,cap,aa,hv,hg,z,r⟩⟩:=h
 ·exact⟨Q,.inl h0⟩
 ·exact⟨Q,.inr ⟨g,cap,aa,hv,hg,(hb.block g (lt_of_block z)).trans z,r⟩⟩
