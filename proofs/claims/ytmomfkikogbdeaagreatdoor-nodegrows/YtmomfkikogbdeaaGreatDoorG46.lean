import Derived.Test.YtmomfkikogbdeaaGreatDoorG23
set_option maxHeartbeats 1600000
namespace Go.Proofs.YtmomfkikogbdeaaGreatDoor.Bk
open Go.RowKit Go.Maps
def lookT(L:List ByteArray)(m:Int):ByteArray:=if 1≤m∧m≤L.length then L.getD (m.toNat - 1) ⟨#[]⟩ else ⟨#[]⟩
def lookE(L:List ByteArray)(m:Int):Int:=if 1≤m∧m≤L.length then 0 else 5
end Go.Proofs.YtmomfkikogbdeaaGreatDoor.Bk
namespace Go.Proofs.YtmomfkikogbdeaaGreatDoor.Tr
open Go.RowKit
theorem Fu(w:World)(n:Nat):Below w.heap.size w (w.drewN n):=⟨rfl,rfl,rfl,Nat.le_refl _,fun _ _=>rfl⟩
theorem Jm{α : Type}{L M:List α}{j:Nat}(h1:j<L.length)(h2:j<M.length)(h:L.take j=M.take j)(e:L[j]=M[j]):L.take (j+1)=M.take (j+1):=by
 rw[List.take_succ_eq_append_getElem h1,List.take_succ_eq_append_getElem h2,h,e]
theorem Rz{α : Type}{L M:List α}{j:Nat}(h1:j<L.length)(h2:j<M.length)(e:L[j]≠M[j]):L≠M:=by
 intro h;subst h;exact e rfl
set_option maxRecDepth 10000 in
theorem Ro(b off b2 off2 n c d:Nat)(L M:List Int)(o:Bool)(w:World)(hn:n≤maxLen)(hz:L.length=n)(hz2:M.length=n)
  (hc:∀ i (h:i<L.length),w.cell? ⟨b,off+i,none⟩=some (.int .i64 L[i])) (hc2:∀ i (h:i<M.length),w.cell? ⟨b2,off2+i,none⟩=some (.int .i64 M[i])) (ho:decide (L=M)=o) :
  Calls Tryz.prog 38 #[.slice (some ⟨b,off,none⟩) n c,.slice (some ⟨b2,off2,none⟩) n d] w fun e w'=>e = .returned (.bool o)∧Below w.heap.size w w':=by
 have HC:=Zb hc
 have HC2:=Zb hc2
 have HZ:=Zb hz
 have HZ2:=Zb hz2
 have HO:=Zb ho
 have g0:((n:Int) != (n:Int))=false:=by simp
 unfold maxLen at hn
 clear hc hc2 hz hz2 ho
 go_enter Tryz.func38,Tryz.ntmps38
 go_wp2
 go_loopw [13] (fun i wr=>∃ j m:Nat,j≤n∧i = .int .i64 j∧wr=w.drewN m∧Hid (L.take j=M.take j)) (fun i _=>n - (intOf i).toNat)
 case atStart=>exact⟨0,0,Nat.zero_le _,rfl,rfl,rfl⟩
 case round=>
  obtain⟨j,m,hk,rfl,rfl,A⟩:=hrel
  by_cases hlt:j<n
  ·have h1:j<L.length:=by rw[Za HZ];exact hlt
   have h2:j<M.length:=by rw[Za HZ2];exact hlt
   have f1:=(Za HC) j h1
   have f2:=(Za HC2) j h2
   have TM:=Zb (Jm h1 h2 (Za A))
   have TN:=Zb (Rz h1 h2)
   obtain⟨s,hs⟩:∃ s,L[j]=s:=⟨_,rfl⟩
   obtain⟨t,ht⟩:∃ t,M[j]=t:=⟨_,rfl⟩
   rw[hs] at f1
   rw[ht] at f2
   rw[hs,ht] at TM TN
   clear hs ht A
   by_cases e:s=t
   ·subst e
    have R:=Zb ((Za TM) rfl)
    have g:(s != s)=false:=by simp
    clear TM TN
    go_wp2
    go_quiet (fail)
    go_wp2
    go_roundw
    case rel=>exact⟨j+1,m+nq,by omega,by go_num,rfl,R⟩
    case measure=>simp[intOf];omega
   ·have R:Hid (o=false):=by show _=_;rw[←Za HO];exact decide_eq_false ((Za TN) e)
    have g:(s != t)=true:=by simp[e]
    clear TM TN
    go_wp2
    go_quiet (fail)
    go_wp2
    go_ret
    exact⟨by rw[Za R];rfl,by simp only[World.drewN_drewN];exact Fu _ _⟩
  ·have R:Hid (o=true):=by
    have h:=Za A
    rw[List.take_of_length_le (by rw[Za HZ];omega),List.take_of_length_le (by rw[Za HZ2];omega)] at h
    show _=_;rw[←Za HO];exact decide_eq_true h
   clear A
   go_wp2
   go_ret
   exact⟨by rw[Za R];rfl,Fu _ _⟩
theorem Rn(a a2:Option Addr)(c d:Nat)(w:World) :
  Calls Tryz.prog 38 #[.slice a 0 c,.slice a2 0 d] w fun e w'=>e = .returned (.bool true)∧Below w.heap.size w w':=by
 go_enter Tryz.func38,Tryz.ntmps38
 go_wp2
 refine wp_loop_rounds 1 ?_
 rw[rounds_succ]
 go_wp2
 go_ret
 exact⟨rfl,Below.refl _ _⟩
theorem Sq(a a2:Option Addr)(n m c d:Nat)(w:World)(h:n≠m) :
  Calls Tryz.prog 38 #[.slice a n c,.slice a2 m d] w fun e w'=>e = .returned (.bool false)∧Below w.heap.size w w':=by
 have g:((n:Int) != (m:Int))=true:=by simp;omega
 go_enter Tryz.func38,Tryz.ntmps38
 go_wp2
 go_ret
 exact⟨rfl,Below.refl _ _⟩
theorem eqInt_is(a a2:Option Addr)(n m c d:Nat)(L M:List Int)(o:Bool)(w:World)(hn:n≤maxLen)(h:IntsAt w a n L)(h2:IntsAt w a2 m M)(ho:decide (L=M)=o) :
  Calls Tryz.prog 38 #[.slice a n c,.slice a2 m d] w fun e w'=>e = .returned (.bool o)∧Below w.heap.size w w':=by
 by_cases e:n=m
 ·subst e
  by_cases h0:n=0
  ·subst h0
   have e1:L=[]:=List.length_eq_zero_iff.1 h.1
   have e2:M=[]:=List.length_eq_zero_iff.1 h2.1
   subst e1 e2
   have:o=true:=by rw[←ho];rfl
   subst this
   exact Rn a a2 c d w
  ·obtain⟨b,off,rfl,_,hc⟩:=h.2 (by omega)
   obtain⟨b2,off2,rfl,_,hc2⟩:=h2.2 (by omega)
   exact Ro b off b2 off2 n c d L M o w hn h.1 h2.1 hc hc2 ho
 ·have:o=false:=by
   rw[←ho]
   exact decide_eq_false (fun e2=>e (by rw[←h.1,←h2.1,e2]))
  subst this
  exact Sq a a2 n m c d w e
end Go.Proofs.YtmomfkikogbdeaaGreatDoor.Tr
