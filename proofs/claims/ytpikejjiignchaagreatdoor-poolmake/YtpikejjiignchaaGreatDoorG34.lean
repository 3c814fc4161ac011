import Derived.Test.YtpikejjiignchaaGreatDoorG6
import Derived.Test.YtpikejjiignchaaGreatDoorG28
import Derived.Test.YtpikejjiignchaaGreatDoorG33
namespace Go.Proofs.YtpikejjiignchaaGreatDoor
open Go.RowKit
def NmR(w w':World)(M:List ByteArray)(nm:Int)(N:List Int)(x:Int)(e:Ending):Prop:=
 ∃ a' n' c' a2 n2 c2,e = .returned (.tuple #[.agg #[.slice a' n' c'],.int .i64 nm,.slice a2 n2 c2,.int .i64 x])∧Bk.TextsAt w' a' n' M∧Bk.SlOk a' n' c'∧Bk.IntsAt w' a2 n2 N∧n2≤c2∧Below w.heap.size w w'
theorem NmR.drew{w w':World}{M:List ByteArray}{nm:Int}{N:List Int}{x:Int}{e:Ending}(h:NmR w w' M nm N x e):NmR w w'.drew M nm N x e:=by
 obtain⟨a,n,c,a2,n2,c2,h1,h2,h3,h4,h5,h6⟩:=h
 exact⟨a,n,c,a2,n2,c2,h1,h2,h3,h4,h5,Ze h6 (Zi _)⟩
theorem Jb(w:World)(a:Value)(t:TypeId):(w.alloc (.cells #[a] t)).heap[w.heap.size]? = some (.cells [a].toArray t (0,0)):=heap_alloc_new w _
def OutOk(ty:TypeId)(o:Nat)(W:World):Prop:=∃ a n c,W.heap[o]? = some (.cells #[.slice a n c] ty (0,0))
theorem OutOk.later{ty:TypeId}{o:Nat}{W V:World}(h:OutOk ty o W)(hb:Below W.heap.size W V):OutOk ty o V:=by
 obtain⟨a,n,c,h⟩:=h
 exact⟨a,n,c,(hb.block _ (lt_of_block h)).trans h⟩
theorem OutOk.grown{ty:TypeId}{o B:Nat}{W V:World}(h:OutOk ty o W)(hg:W.grownBy V (some B))(hn:o≠B):OutOk ty o V:=by
 obtain⟨a,n,c,h⟩:=h
 exact⟨a,n,c,(hg.block _ (lt_of_block h) (fun e=>hn (Option.some.inj e))).trans h⟩
theorem OutOk.put{ty:TypeId}{o:Nat}{W:World}(h:OutOk ty o W)(b:Nat)(e:b=o)(a':Option Addr)(n' c':Nat):OutOk ty o (W.setCell ⟨b,0,none⟩ (.slice a' n' c')):=by
 subst e
 obtain⟨a,n,c,h⟩:=h
 exact⟨a',n',c',Ur h⟩
theorem OutOk.cell{ty:TypeId}{o:Nat}{W:World}(h:OutOk ty o W):∃ z,W.cell? ⟨o,0,none⟩=some z:=by
 obtain⟨a,n,c,h⟩:=h
 exact⟨.slice a n c,by simp[World.cell?,h]⟩
theorem OutOk.free{ty:TypeId}{o:Nat}{W:World}(h:OutOk ty o W):W.frozen? ⟨o,0,none⟩=false:=by
 obtain⟨a,n,c,h⟩:=h
 simp[World.frozen?,h]
theorem OutOk.other{ty:TypeId}{o b j:Nat}{W:World}{v u:Value}(h:OutOk ty o W)(hc:W.cell? ⟨b,j,none⟩=some v)(hv:∀ a n c,v ≠ .slice a n c):(W.setCell ⟨o,0,none⟩ u).cell? ⟨b,j,none⟩=some v:=by
 have hne:b≠o:=fun e=>by
  subst e
  obtain⟨a,n,c,h⟩:=h
  cases j with
  | zero=>simp[World.cell?,h] at hc;exact hv a n c hc.symm
  | succ i=>simp[World.cell?,h] at hc
 rw[←hc]
 exact World.cell?_of_block (a:=⟨b,j,none⟩) (Below.heap_setCell W ⟨o,0,none⟩ u b (fun e=>hne e))
end Go.Proofs.YtpikejjiignchaaGreatDoor
