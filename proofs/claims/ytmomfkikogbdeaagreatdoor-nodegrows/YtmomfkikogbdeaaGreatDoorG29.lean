import Derived.Test.YtmomfkikogbdeaaGreatDoorG28
set_option maxHeartbeats 6400000
set_option maxRecDepth 10000
namespace Go.Proofs.YtmomfkikogbdeaaGreatDoor
open Go.RowKit
def Jy(g:TxD→Bool):List TxD→Nat→Int
 | [],_=>-1
 | t :: r,k=>if g t=true then k else Jy g r (k+1)
theorem Zgn(g:TxD→Bool)(L:List TxD)(k:Nat)(h:k<L.length):Jy g (L.drop k) k=if g L[k]=true then (k:Int) else Jy g (L.drop (k+1)) (k+1):=by
 rw[List.drop_eq_getElem_cons h,Jy]
theorem Dw(g:TxD→Bool):∀ (L:List TxD) (k:Nat),decide (0≤Jy g L k)=L.any g
 | [],_=>by simp[Jy]
 | t :: r,k=>by
  rw[Jy,List.any_cons]
  by_cases h:g t=true
  ·rw[if_pos h,h];simp
  ·have h':g t=false:=by simpa using h
   rw[if_neg h,Dw g r,h',Bool.false_or]
structure M9(f:Nat)(caps:Array Value)(W0:World)(g:TxD→Bool):Prop where
 enters:∀ args w,(callFunc f args).run Tryz.prog w = .ok (.enter f args) w
 call:∀ w,Below W0.heap.size W0 w→∀ (th:Int) (ai ao:Option Addr) (ni ci no co:Nat) (I:List InD) (O:List Z0),InsAt w ai ni I→OutsAt w ao no O→SlOk ai ni ci→SlOk ao no co →
  Calls Tryz.prog f (#[.agg #[.int .i64 th,.slice ai ni ci,.slice ao no co]]++caps) w fun e w'=>e = .returned (.bool (g (th,I,O)))∧Below w.heap.size w w'
theorem A0(f:Nat)(caps:Array Value)(g:TxD→Bool)(a:Option Addr)(n c:Nat)(L:List TxD)(w:World)(hT:M9 f caps w g)(hL:TxsAt w a n L)(hn:n≤maxLen) :
  Calls Tryz.prog 156 #[.slice a n c,.func (.func f) #[] caps] w fun e w'=>e = .returned (.int .i64 (Jy g L 0))∧Below w.heap.size w w':=by
 have HT:=Zb hT
 have HL:=Zb hL
 have HZ:=Zb hL.1
 have hn':n≤9223372036854775807:=hn
 clear hT hL hn
 go_enter Tryz.func156,Tryz.ntmps156
 go_wp2
 go_loopw [5,8] (fun _ i wr=>∃ k:Nat,k≤n∧i = .int .i64 k∧Hid (Jy g L 0=Jy g (L.drop k) k)∧Below w.heap.size w wr) (fun _ i _=>n - (intOf i).toNat)
 case atStart=>exact⟨0,Nat.zero_le _,rfl,rfl,Below.refl _ _⟩
 case round=>
  obtain⟨k,hk,rfl,A,hb⟩:=hrel
  have HB:=Zb hb
  by_cases hlt:k<n
  ·have hlk:k<L.length:=by rw[Za HZ];exact hlt
   obtain⟨b,off,rfl,hbl,hrow⟩:=(Za HL).2 (by omega)
   obtain⟨c0,⟨ai,ni,ci,c1,hI1,sI1⟩,ao,no,co,c2,hO1,sO1⟩:=hrow k hlk
   have c0:=Ze hb c0
   have c1:=Ze hb c1
   have c2:=Ze hb c2
   have hbl:b<wr.heap.size:=Nat.lt_of_lt_of_le hbl hb.size
   have S:=Zb (Zgn g L k hlk)
   obtain⟨t,ht⟩:∃ t,L[k]=t:=⟨_,rfl⟩
   rw[ht] at c0 hI1 hO1 S
   obtain⟨th,tI,tO⟩:=t
   have CC:=Zb ((Za HT).call wr hb th ai ao ni ci no co tI tO (hI1.later hb) (hO1.later hb) sI1 sO1)
   have eg:=(Za HT).enters
   simp only at c0
   clear hI1 hO1 sI1 sO1 ht hrow hb
   cases hg:g (th,tI,tO) with
   | true=>
    rw[hg] at CC S
    have S2:Hid (Jy g L 0=k):=by show _=_;rw[Za A,Za S,if_pos rfl]
    clear S A hg
    go_wp2_with fail
    refine (Za CC).mono ?_
    rintro e w2 ⟨rfl,hb2⟩
    have HB2:=Zb (Zf (Za HB) hb2)
    clear hb2 CC
    go_wp2
    go_ret
    exact⟨by rw[Za S2];rfl,Za HB2⟩
   | false=>
    rw[hg] at CC S
    have S2:Hid (Jy g L 0=Jy g (L.drop (k+1)) (k+1)):=by show _=_;rw[Za A,Za S,if_neg (by decide)]
    clear S A hg
    go_wp2_with fail
    refine (Za CC).mono ?_
    rintro e w2 ⟨rfl,hb2⟩
    have HB2:=Zb (Zf (Za HB) hb2)
    clear hb2 CC
    go_wp2
    go_roundw
    case rel=>exact⟨k+1,by omega,by go_num,S2,Za HB2⟩
    case measure=>simp[intOf];omega
  ·have S2:Hid (Jy g L 0 = -1):=by
    show _=_
    rw[Za A,List.drop_of_length_le (by rw[Za HZ];omega)];rfl
   clear A hb
   go_wp2
   go_ret
   exact⟨by rw[Za S2];rfl,Za HB⟩
theorem J7(f:Nat)(caps:Array Value)(g:TxD→Bool)(a:Option Addr)(n c:Nat)(L:List TxD)(o:Bool)(w:World)(hT:M9 f caps w g)(hL:TxsAt w a n L)(hn:n≤maxLen)(ho:L.any g=o) :
  Calls Tryz.prog 89 #[.slice a n c,.func (.func f) #[] caps] w fun e w'=>e = .returned (.bool o)∧Below w.heap.size w w':=by
 have C1:=Zb (A0 f caps g a n c L w hT hL hn)
 have HO:Hid (decide (0≤Jy g L 0)=o):=by show _=_;rw[Dw];exact ho
 obtain⟨i,hi⟩:∃ i,Jy g L 0=i:=⟨_,rfl⟩
 rw[hi] at C1 HO
 clear hT hL hn ho hi
 go_enter Tryz.func89,Tryz.ntmps89
 go_wp2_with fail
 refine (Za C1).mono ?_
 rintro e w1 ⟨rfl,hb⟩
 have HB:=Zb hb
 clear hb C1
 go_wp2
 go_ret
 exact⟨by rw[←Za HO];rfl,Za HB⟩
theorem M8(p:Nat)(th:Int)(ai ao:Option Addr)(ni ci no co:Nat)(I:List InD)(O:List Z0)(w:World)(hp:w.heap[p]? = some (.cells [.int .i64 th,.slice ai ni ci,.slice ao no co].toArray 59 (0,0)))(hI:InsAt w ai ni I)(hO:OutsAt w ao no O) :
  M9 90 #[.pointer (some ⟨p,0,none⟩)] w (fun x=>Vh x (th,I,O)) where
 enters:=enters_of (fn:=Tryz.f90) (by kernel_rfl) (by kernel_rfl) rfl
 call V hV xh bi bo mi di mo eo J P hJ hP sJ sP:=by
  obtain⟨X,hX⟩:∃ X,X=V.alloc (.cells #[.int .i64 xh,.slice bi mi di,.slice bo mo eo] 59):=⟨_,rfl⟩
  have hbX:Below V.heap.size V X:=by rw[hX];exact Zi _ _
  have hX0:X.heap[V.heap.size]? = some (.cells [.int .i64 xh,.slice bi mi di,.slice bo mo eo].toArray 59 (0,0)):=by rw[hX];exact Zu _ _ _ _ _
  have hwX:=Zf hV hbX
  have hpX:=(hwX.block p (lt_of_block hp)).trans hp
  have hpV:=(hV.block p (lt_of_block hp)).trans hp
  have v0:=Zd hpV 0 _ rfl
  have v1:=Zd hpV 1 _ rfl
  have v2:=Zd hpV 2 _ rfl
  have vl:=lt_of_block hpV
  obtain⟨o,ho⟩:∃ o,Vh (xh,J,P) (th,I,O)=o:=⟨_,rfl⟩
  have C1:=Zb (Ky xh th bi bo ai ao mi di mo eo ni ci no co J I P O o X sJ.len sP.len (hJ.later hbX) (hP.later hbX) (hI.later hwX) (hO.later hwX) ho)
  have q0:=Zd hpX 0 _ rfl
  have q1:=Zd hpX 1 _ rfl
  have q2:=Zd hpX 2 _ rfl
  have ql:=lt_of_block hpX
  have t0:=Zd hX0 0 _ rfl
  have t1:=Zd hX0 1 _ rfl
  have t2:=Zd hX0 2 _ rfl
  have tl:=lt_of_block hX0
  have HB:=Zb hbX
  show Calls _ _ _ _ (fun e w'=>e = .returned (.bool (Vh (xh,J,P) (th,I,O)))∧_)
  rw[ho]
  clear hp hI hO hV hJ hP sJ sP hbX hX0 hwX hpX hpV ho
  go_enter Tryz.func90,Tryz.ntmps90
  go_wp2_with fail
  rw[←hX]
  clear hX
  (try go_wp2_with fail)
  refine (Za C1).mono ?_
  rintro e w1 ⟨rfl,hb⟩
  have HB2:=Zb (Zf (Za HB) hb)
  clear hb C1
  go_wp2
  go_ret
  exact⟨rfl,Za HB2⟩
end Go.Proofs.YtmomfkikogbdeaaGreatDoor
namespace Go.Proofs.YtmomfkikogbdeaaGreatDoor.Bk
open Go.RowKit Go.Maps
theorem Jm{α : Type}{L M:List α}{j:Nat}(h1:j<L.length)(h2:j<M.length)(h:L.take j=M.take j)(e:L[j]=M[j]):L.take (j+1)=M.take (j+1):=by
 rw[List.take_succ_eq_append_getElem h1,List.take_succ_eq_append_getElem h2,h,e]
theorem Rz{α : Type}{L M:List α}{j:Nat}(h1:j<L.length)(h2:j<M.length)(e:L[j]≠M[j]):L≠M:=by
 intro h;subst h;exact e rfl
theorem Zfk{s t:ByteArray}(h:s≠t):s.toList≠t.toList:=fun e=>h (by
 rw[ByteArray.toList_eq,ByteArray.toList_eq] at e
 have h4:s.data=t.data:=by rw[←Array.toList_inj];exact e
 cases s;cases t;simp_all)
theorem Zcb{s t:ByteArray}(h:s≠t):(s.toList == t.toList)=false:=by simp[Zfk h]
theorem Ba(b off b2 off2 n c d:Nat)(L M:List ByteArray)(o:Bool)(w:World)(hn:n≤maxLen)(hz:L.length=n)(hz2:M.length=n)
  (hc:∀ i (h:i<L.length),w.cell? ⟨b,off+i,none⟩=some (.string L[i])) (hc2:∀ i (h:i<M.length),w.cell? ⟨b2,off2+i,none⟩=some (.string M[i])) (ho:decide (L=M)=o) :
  Calls Tryz.prog 31 #[.slice (some ⟨b,off,none⟩) n c,.slice (some ⟨b2,off2,none⟩) n d] w fun e w'=>e = .returned (.bool o)∧Below w.heap.size w w':=by
 have HC:=Zb hc
 have HC2:=Zb hc2
 have HZ:=Zb hz
 have HZ2:=Zb hz2
 have HO:=Zb ho
 have g0:((n:Int) != (n:Int))=false:=by simp
 unfold maxLen at hn
 clear hc hc2 hz hz2 ho
 go_enter Tryz.func31,Tryz.ntmps31
 go_wp2
 go_loopw [13] (fun i wr=>∃ j m:Nat,j≤n∧i = .int .i64 j∧wr=w.drewN m∧Hid (L.take j=M.take j)) (fun i _=>n - (intOf i).toNat)
 case atStart=>exact⟨0,0,Nat.zero_le _,rfl,rfl,rfl⟩
 case round=>
  obtain⟨j,m,hk,rfl,rfl,A⟩:=hrel
  by_cases hlt:j<n
  ·have h1:j<L.length:=by rw[Za HZ];exact hlt
   have h2:j<M.length:=by rw[Za HZ2];exact hlt
   have f1:=(Za HC) j h1
   have f2:=(Za HC2) j h2
   have TM:=Zb (Jm h1 h2 (Za A))
   have TN:=Zb (Rz h1 h2)
   obtain⟨s,hs⟩:∃ s,L[j]=s:=⟨_,rfl⟩
   obtain⟨t,ht⟩:∃ t,M[j]=t:=⟨_,rfl⟩
   rw[hs] at f1
   rw[ht] at f2
   rw[hs,ht] at TM TN
   clear hs ht A
   by_cases e:s=t
   ·subst e
    have R:=Zb ((Za TM) rfl)
    clear TM TN
    go_wp2
    go_quiet (fail)
    go_wp2
    go_roundw
    case rel=>exact⟨j+1,m+nq,by omega,by go_num,rfl,R⟩
    case measure=>simp[intOf];omega
   ·have R:Hid (o=false):=by show _=_;rw[←Za HO];exact decide_eq_false ((Za TN) e)
    have g:=Zcb e
    clear TM TN e
    go_wp2
    go_quiet (fail)
    go_wp2
    go_ret
    exact⟨by rw[Za R];rfl,by simp only[World.drewN_drewN];exact Qe _ _⟩
  ·have R:Hid (o=true):=by
    have h:=Za A
    rw[List.take_of_length_le (by rw[Za HZ];omega),List.take_of_length_le (by rw[Za HZ2];omega)] at h
    show _=_;rw[←Za HO];exact decide_eq_true h
   clear A
   go_wp2
   go_ret
   exact⟨by rw[Za R];rfl,Qe _ _⟩
theorem A9(a a2:Option Addr)(c d:Nat)(w:World) :
  Calls Tryz.prog 31 #[.slice a 0 c,.slice a2 0 d] w fun e w'=>e = .returned (.bool true)∧Below w.heap.size w w':=by
 go_enter Tryz.func31,Tryz.ntmps31
 go_wp2
 refine wp_loop_rounds 1 ?_
 rw[rounds_succ]
 go_wp2
 go_ret
 exact⟨rfl,Below.refl _ _⟩
theorem Zau(a a2:Option Addr)(n m c d:Nat)(w:World)(h:n≠m) :
  Calls Tryz.prog 31 #[.slice a n c,.slice a2 m d] w fun e w'=>e = .returned (.bool false)∧Below w.heap.size w w':=by
 have g:((n:Int) != (m:Int))=true:=by simp;omega
 go_enter Tryz.func31,Tryz.ntmps31
 go_wp2
 go_ret
 exact⟨rfl,Below.refl _ _⟩
theorem eqStr_is(a a2:Option Addr)(n m c d:Nat)(L M:List ByteArray)(o:Bool)(w:World)(hn:n≤maxLen)(h:TextsAt w a n L)(h2:TextsAt w a2 m M)(ho:decide (L=M)=o) :
  Calls Tryz.prog 31 #[.slice a n c,.slice a2 m d] w fun e w'=>e = .returned (.bool o)∧Below w.heap.size w w':=by
 by_cases e:n=m
 ·subst e
  by_cases h0:n=0
  ·subst h0
   have e1:L=[]:=List.length_eq_zero_iff.1 h.1
   have e2:M=[]:=List.length_eq_zero_iff.1 h2.1
   subst e1 e2
   have:o=true:=by rw[←ho];rfl
   subst this
   exact A9 a a2 c d w
  ·obtain⟨b,off,rfl,hc⟩:=h.2 (by omega)
   obtain⟨b2,off2,rfl,hc2⟩:=h2.2 (by omega)
   exact Ba b off b2 off2 n c d L M o w hn h.1 h2.1 hc hc2 ho
 ·have:o=false:=by
   rw[←ho]
   exact decide_eq_false (fun e2=>e (by rw[←h.1,←h2.1,e2]))
  subst this
  exact Zau a a2 n m c d w e
theorem Ro(b off b2 off2 n c d:Nat)(L M:List Int)(o:Bool)(w:World)(hn:n≤maxLen)(hz:L.length=n)(hz2:M.length=n)
  (hc:∀ i (h:i<L.length),w.cell? ⟨b,off+i,none⟩=some (.int .i64 L[i])) (hc2:∀ i (h:i<M.length),w.cell? ⟨b2,off2+i,none⟩=some (.int .i64 M[i])) (ho:decide (L=M)=o) :
  Calls Tryz.prog 38 #[.slice (some ⟨b,off,none⟩) n c,.slice (some ⟨b2,off2,none⟩) n d] w fun e w'=>e = .returned (.bool o)∧Below w.heap.size w w':=by
 have HC:=Zb hc
 have HC2:=Zb hc2
 have HZ:=Zb hz
 have HZ2:=Zb hz2
 have HO:=Zb ho
 have g0:((n:Int) != (n:Int))=false:=by simp
 unfold maxLen at hn
 clear hc hc2 hz hz2 ho
 go_enter Tryz.func38,Tryz.ntmps38
 go_wp2
 go_loopw [13] (fun i wr=>∃ j m:Nat,j≤n∧i = .int .i64 j∧wr=w.drewN m∧Hid (L.take j=M.take j)) (fun i _=>n - (intOf i).toNat)
 case atStart=>exact⟨0,0,Nat.zero_le _,rfl,rfl,rfl⟩
 case round=>
  obtain⟨j,m,hk,rfl,rfl,A⟩:=hrel
  by_cases hlt:j<n
  ·have h1:j<L.length:=by rw[Za HZ];exact hlt
   have h2:j<M.length:=by rw[Za HZ2];exact hlt
   have f1:=(Za HC) j h1
   have f2:=(Za HC2) j h2
   have TM:=Zb (Jm h1 h2 (Za A))
   have TN:=Zb (Rz h1 h2)
   obtain⟨s,hs⟩:∃ s,L[j]=s:=⟨_,rfl⟩
   obtain⟨t,ht⟩:∃ t,M[j]=t:=⟨_,rfl⟩
   rw[hs] at f1
   rw[ht] at f2
   rw[hs,ht] at TM TN
   clear hs ht A
   by_cases e:s=t
   ·subst e
    have R:=Zb ((Za TM) rfl)
    have g:(s != s)=false:=by simp
    clear TM TN
    go_wp2
    go_quiet (fail)
    go_wp2
    go_roundw
    case rel=>exact⟨j+1,m+nq,by omega,by go_num,rfl,R⟩
    case measure=>simp[intOf];omega
   ·have R:Hid (o=false):=by show _=_;rw[←Za HO];exact decide_eq_false ((Za TN) e)
    have g:(s != t)=true:=by simp[e]
    clear TM TN
    go_wp2
    go_quiet (fail)
    go_wp2
    go_ret
    exact⟨by rw[Za R];rfl,by simp only[World.drewN_drewN];exact Qe _ _⟩
  ·have R:Hid (o=true):=by
    have h:=Za A
    rw[List.take_of_length_le (by rw[Za HZ];omega),List.take_of_length_le (by rw[Za HZ2];omega)] at h
    show _=_;rw[←Za HO];exact decide_eq_true h
   clear A
   go_wp2
   go_ret
   exact⟨by rw[Za R];rfl,Qe _ _⟩
theorem Rn(a a2:Option Addr)(c d:Nat)(w:World) :
  Calls Tryz.prog 38 #[.slice a 0 c,.slice a2 0 d] w fun e w'=>e = .returned (.bool true)∧Below w.heap.size w w':=by
 go_enter Tryz.func38,Tryz.ntmps38
 go_wp2
 refine wp_loop_rounds 1 ?_
 rw[rounds_succ]
 go_wp2
 go_ret
 exact⟨rfl,Below.refl _ _⟩
theorem Sq(a a2:Option Addr)(n m c d:Nat)(w:World)(h:n≠m) :
  Calls Tryz.prog 38 #[.slice a n c,.slice a2 m d] w fun e w'=>e = .returned (.bool false)∧Below w.heap.size w w':=by
 have g:((n:Int) != (m:Int))=true:=by simp;omega
 go_enter Tryz.func38,Tryz.ntmps38
 go_wp2
 go_ret
 exact⟨rfl,Below.refl _ _⟩
theorem eqInt_is(a a2:Option Addr)(n m c d:Nat)(L M:List Int)(o:Bool)(w:World)(hn:n≤maxLen)(h:IntsAt w a n L)(h2:IntsAt w a2 m M)(ho:decide (L=M)=o) :
  Calls Tryz.prog 38 #[.slice a n c,.slice a2 m d] w fun e w'=>e = .returned (.bool o)∧Below w.heap.size w w':=by
 by_cases e:n=m
 ·subst e
  by_cases h0:n=0
  ·subst h0
   have e1:L=[]:=List.length_eq_zero_iff.1 h.1
   have e2:M=[]:=List.length_eq_zero_iff.1 h2.1
   subst e1 e2
   have:o=true:=by rw[←ho];rfl
   subst this
   exact Rn a a2 c d w
  ·obtain⟨b,off,rfl,hc⟩:=h.2 (by omega)
   obtain⟨b2,off2,rfl,hc2⟩:=h2.2 (by omega)
   exact Ro b off b2 off2 n c d L M o w hn h.1 h2.1 hc hc2 ho
 ·have:o=false:=by
   rw[←ho]
   exact decide_eq_false (fun e2=>e (by rw[←h.1,←h2.1,e2]))
  subst this
  exact Sq a a2 n m c d w e
theorem Dd{s:ByteArray}{L:List ByteArray}{j:Nat}(h:j<L.length)(h0:place s (L.take j)=0)(e:L[j]≠s):place s (L.take (j+1))=0:=by
 rw[place_zero] at *
 rw[List.take_succ_eq_append_getElem h]
 simp only[List.mem_append,List.mem_singleton,not_or]
 exact⟨h0,fun q=>e q.symm⟩
theorem Gn{s:ByteArray}:∀ {A B:List ByteArray},place s A=0→place s (A++s :: B)=A.length+1
 | [],B,_=>by simp[place]
 | x :: A,B,h=>by
  have hx:x≠s:=fun q=>by simp[place,q] at h
  have hA:place s A=0:=by
   rw[place_zero] at *
   exact fun q=>h (List.mem_cons_of_mem _ q)
  rw[List.cons_append,place,if_neg hx,Gn hA,if_neg (by omega),List.length_cons]
theorem Ag{s:ByteArray}{L:List ByteArray}{j:Nat}(h:j<L.length)(h0:place s (L.take j)=0)(e:L[j]=s):place s L=j+1:=by
 have h1:L=L.take j++s :: L.drop (j+1):=by
  conv=>lhs;rw[←List.take_append_drop j L,List.drop_eq_getElem_cons h,e]
 rw[h1,Gn h0,List.length_take]
 omega
theorem indexS_is(a:Option Addr)(n c:Nat)(L:List ByteArray)(s:ByteArray)(x:Int)(w:World)(hn:n≤maxLen)(h:TextsAt w a n L)(hx:(place s L:Int) - 1=x) :
  Calls Tryz.prog 291 #[.slice a n c,.string s] w fun e w'=>e = .returned (.int .i64 x)∧Below w.heap.size w w':=by
 have HT:=Zb h
 have HX:=Zb hx
 unfold maxLen at hn
 clear h hx
 go_enter Tryz.func291,Tryz.ntmps291
 go_wp2
 go_loop [8] (fun i=>∃ j:Nat,j≤n∧i = .int .i64 j∧Hid (place s (L.take j)=0)) (fun i=>n - (intOf i).toNat)
 case atStart=>exact⟨0,Nat.zero_le _,rfl,rfl⟩
 case round=>
  obtain⟨j,hk,rfl,A⟩:=hrel
  by_cases hlt:j<n
  ·obtain⟨hz,hcs⟩:=Za HT
   obtain⟨b,off,rfl,hc⟩:=hcs (by omega)
   have h1:j<L.length:=by omega
   have f:=hc j h1
   have PS:=Zb (Dd h1 (Za A))
   have PH:=Zb (Ag h1 (Za A))
   obtain⟨t,ht⟩:∃ t,L[j]=t:=⟨_,rfl⟩
   rw[ht] at f PS PH
   clear ht A hc hcs hz
   by_cases e:t=s
   ·subst e
    have R:Hid (x=j):=by show _=_;rw[←Za HX,(Za PH) rfl];omega
    clear PS PH
    go_wp2
    go_ret
    exact⟨by rw[Za R];rfl,Below.refl _ _⟩
   ·have R:=Zb ((Za PS) e)
    have g:=Zcb (fun h:s=t=>e h.symm)
    clear PS PH e
    go_wp2
    go_round
    case rel=>exact⟨j+1,by omega,by go_num,R⟩
    case measure=>simp[intOf];omega
  ·have R:Hid (x = -1):=by
    have h:=Za A
    rw[List.take_of_length_le (by rw[(Za HT).1];omega)] at h
    show _=_;rw[←Za HX,h];rfl
   clear A
   go_wp2
   go_ret
   exact⟨by rw[Za R];rfl,Below.refl _ _⟩
end Go.Proofs.YtmomfkikogbdeaaGreatDoor.Bk
namespace Go.Proofs.YtmomfkikogbdeaaGreatDoor
open Go.RowKit
def KAt(w:World)(d:Nat)(K:List ByteArray):Prop:=∃ ka kn kc,w.cell? ⟨d,0,none⟩=some (.slice ka kn kc)∧Bk.TextsAt w ka kn K∧SlOk ka kn kc∧d<w.heap.size
theorem KAt.later{w w':World}{d:Nat}{K:List ByteArray}(h:KAt w d K)(hb:Below w.heap.size w w'):KAt w' d K:=by
 obtain⟨ka,kn,kc,h1,h2,h3,h4⟩:=h
 exact⟨ka,kn,kc,Ze hb h1,h2.later hb,h3,Nat.lt_of_lt_of_le h4 hb.size⟩
def knT(K:List ByteArray)(t:TxD):Bool:=decide (Zx t=0) && !decide (Bk.place (txT t) K=0)
def kbD(K:List ByteArray)(s:Int)(b:Zk):Bool:=decide (Yt b=0) && (decide ((Bk.place (Pr b) K:Int)=s) && b.2.2.2.2.all (knT K))
theorem Lk(d:Nat)(s:ByteArray)(K:List ByteArray)(x:Int)(w:World)(h:KAt w d K)(hx:(Bk.place s K:Int)=x) :
  Calls Tryz.prog 261 #[.pointer (some ⟨d,0,none⟩),.string s] w fun e w'=>e = .returned (.int .i64 x)∧Below w.heap.size w w':=by
 obtain⟨ka,kn,kc,h1,h2,h3,h4⟩:=h
 have C1:=Zb (Bk.indexS_is ka kn kc K s (x - 1) w h3.len h2 (by omega))
 have hl:=Bk.place_le s K
 have hk:=h2.1
 have hs:kn≤9223372036854775807:=h3.len
 have hw1:IntKind.i64.wrap (x - 1+1)=x:=by rw[IntKind.wrap_i64];omega
 have hw2:IntKind.i64.wrap x=x:=by rw[IntKind.wrap_i64];omega
 have he:x - 1+1=x:=by omega
 clear h2 h3 hx hl hk hs
 go_enter Tryz.func261,Tryz.ntmps261
 go_wp2_with fail
 refine (Za C1).mono ?_
 rintro e w1 ⟨rfl,hb⟩
 have HB:=Zb hb
 clear hb C1
 go_wp2
 go_ret
 exact⟨by simp,Za HB⟩
theorem Mf(q d:Nat)(K:List ByteArray)(w:World)(hE:Env w)(hq:w.cell? ⟨q,0,none⟩=some (.pointer (some ⟨d,0,none⟩)))(hK:KAt w d K) :
  M9 262 #[.pointer (some ⟨q,0,none⟩)] w (fun x=>!knT K x) where
 enters:=enters_of (fn:=Tryz.f262) (by kernel_rfl) (by kernel_rfl) rfl
 call V hV th ai ao ni ci no co I O hI hO sI sO:=by
  obtain⟨X,hX⟩:∃ X,X=V.alloc (.cells #[.int .i64 th,.slice ai ni ci,.slice ao no co] 59):=⟨_,rfl⟩
  have hbX:Below V.heap.size V X:=by rw[hX];exact Zi _ _
  have hX0:X.heap[V.heap.size]? = some (.cells [.int .i64 th,.slice ai ni ci,.slice ao no co].toArray 59 (0,0)):=by rw[hX];exact Zu _ _ _ _ _
  have hwX:=Zf hV hbX
  obtain⟨x1,hx1⟩:∃ x1,Zx (th,I,O)=x1:=⟨_,rfl⟩
  obtain⟨T,hT⟩:∃ T,txT (th,I,O)=T:=⟨_,rfl⟩
  obtain⟨y,hy⟩:∃ y,(Bk.place T K:Int)=y:=⟨_,rfl⟩
  have C1:=Zb (P3 th ai ao ni ci no co I O T x1 X (hE.later hwX) (hI.later hbX) (hO.later hbX) sI hx1 hT)
  have C2:=Zb (fun U (hu:Below w.heap.size w U)=>Lk d T K y U (hK.later hu) hy)
  have HG:Hid ((!knT K (th,I,O))=(decide (x1≠0) || decide (y=0))):=by
   show _=_
   unfold knT
   rw[hx1,hT,←hy]
   by_cases e:x1=0
   ·simp[e]
   ·simp[e]
  show Calls _ _ _ _ (fun e w'=>e = .returned (.bool (!knT K (th,I,O)))∧_)
  rw[Za HG]
  have t0:=Zd hX0 0 _ rfl
  have t1:=Zd hX0 1 _ rfl
  have t2:=Zd hX0 2 _ rfl
  have tl:=lt_of_block hX0
  have HB:=Zb hbX
  have HWX:=Zb hwX
  have HQ:=Zb hq
  clear hE hq hK hV hI hO sI sO hbX hX0 hwX hx1 hT hy HG
  go_enter Tryz.func262,Tryz.ntmps262
  go_wp2_with fail
  rw[←hX]
  clear hX
  (try go_wp2_with fail)
  refine (Za C1).mono ?_
  rintro e w1 ⟨rfl,hb1⟩
  have HB1:=Zb (Zf (Za HB) hb1)
  have C3:=Zb ((Za C2) w1 (Zf (Za HWX) hb1))
  have q1:=Ze (Zf (Za HWX) hb1) (Za HQ)
  have ql:=World.block_lt_of_cell? _ _ q1
  clear hb1 C1 C2 t0 t1 t2 tl
  by_cases e1:x1=0
  ·subst e1
   go_wp2_with fail
   refine (Za C3).mono ?_
   rintro e w2 ⟨rfl,hb2⟩
   have HB2:=Zb (Zf (Za HB1) hb2)
   clear hb2 C3
   go_wp2
   go_ret
   exact⟨by cases h:decide (y=0) <;> simp_all,Za HB2⟩
  ·have gx:(x1 != 0)=true:=by simp[e1]
   go_wp2
   go_ret
   exact⟨by simp[e1],Za HB1⟩
theorem Cr(K:List ByteArray):∀ (L:List TxD),(!(L.any fun x=>!knT K x))=L.all (knT K)
 | []=>rfl
 | t :: L=>by
  rw[List.any_cons,List.all_cons,←Cr K L]
  cases knT K t <;> simp
theorem Ln(d:Nat)(K:List ByteArray)(a:Option Addr)(n c:Nat)(L:List TxD)(o:Bool)(w:World)(hE:Env w)(hK:KAt w d K)(hL:TxsAt w a n L)(hn:n≤maxLen)(ho:L.all (knT K)=o) :
  Calls Tryz.prog 217 #[.pointer (some ⟨d,0,none⟩),.slice a n c] w fun e w'=>e = .returned (.bool o)∧Below w.heap.size w w':=by
 obtain⟨X,hX⟩:∃ X,X=w.alloc (.cells #[.pointer (some ⟨d,0,none⟩)] 181):=⟨_,rfl⟩
 have hbX:Below w.heap.size w X:=by rw[hX];exact Zi _ _
 have hX0:X.heap[w.heap.size]? = some (.cells [.pointer (some ⟨d,0,none⟩)].toArray 181 (0,0)):=by rw[hX];exact Yo _ _ _
 have C1:=Zb (J7 _ _ _ a n c L (!o) X (Mf w.heap.size d K X (hE.later hbX) (Zd hX0 0 _ rfl) (hK.later hbX)) (hL.later hbX) hn (by rw[←ho,←Cr,Bool.not_not]))
 have HB:=Zb hbX
 clear hE hK hL hn ho hbX hX0
 go_enter Tryz.func217,Tryz.ntmps217
 go_wp2_with fail
 rw[←hX]
 clear hX
 (try go_wp2_with fail)
 refine (Za C1).mono ?_
 rintro e w1 ⟨rfl,hb⟩
 have HB2:=Zb (Zf (Za HB) hb)
 clear hb C1
 go_wp2
 go_ret
 exact⟨by simp,Za HB2⟩
theorem Zak(d:Nat)(K:List ByteArray)(s p h k o:Int)(a:Option Addr)(m c:Nat)(T:List TxD)(y:Bool)(w:World)(hE:Env w)(hK:KAt w d K)(hT:TxsAt w a m T)(sT:SlOk a m c)(hy:kbD K s (p,h,k,o,T)=y) :
  Calls Tryz.prog 216 #[.pointer (some ⟨d,0,none⟩),.int .i64 s,.agg #[.int .i64 p,.int .i64 h,.int .i64 k,.int .i64 o,.slice a m c]] w fun e w'=>e = .returned (.bool y)∧Below w.heap.size w w':=by
 obtain⟨X,hX⟩:∃ X,X=w.alloc (.cells #[.int .i64 p,.int .i64 h,.int .i64 k,.int .i64 o,.slice a m c] 39):=⟨_,rfl⟩
 have hbX:Below w.heap.size w X:=by rw[hX];exact Zi _ _
 have hX0:X.heap[w.heap.size]? = some (.cells [.int .i64 p,.int .i64 h,.int .i64 k,.int .i64 o,.slice a m c].toArray 39 (0,0)):=by rw[hX];exact Zv _ _ _ _ _ _ _
 obtain⟨x1,hx1⟩:∃ x1,Yt (p,h,k,o,T)=x1:=⟨_,rfl⟩
 obtain⟨t,ht⟩:∃ t,Pr (p,h,k,o,T)=t:=⟨_,rfl⟩
 obtain⟨z,hz⟩:∃ z,(Bk.place t K:Int)=z:=⟨_,rfl⟩
 obtain⟨g,hg⟩:∃ g,T.all (knT K)=g:=⟨_,rfl⟩
 have C1:=Zb (Ph p h k o a m c T t x1 X (hE.later hbX) (hT.later hbX) hx1 ht)
 have C2:=Zb (fun U (hu:Below w.heap.size w U)=>Lk d t K z U (hK.later hu) hz)
 have C3:=Zb (fun U (hu:Below w.heap.size w U)=>Ln d K a m c T g U (hE.later hu) (hK.later hu) (hT.later hu) sT.len hg)
 have HY:Hid ((decide (x1=0) && (decide (z=s) && g))=y):=by
  show _=_
  rw[←hy];unfold kbD;rw[hx1,ht,hz];simp only;rw[hg]
 have HB:=Zb hbX
 have HX0:=Zb hX0
 have e0:=Zd hX0 0 _ rfl
 have e1:=Zd hX0 1 _ rfl
 have e2:=Zd hX0 2 _ rfl
 have e3:=Zd hX0 3 _ rfl
 have e4:=Zd hX0 4 _ rfl
 have el:=lt_of_block hX0
 clear hE hK hT sT hy hbX hX0 hx1 ht hz hg
 go_enter Tryz.func216,Tryz.ntmps216
 go_wp2_with fail
 rw[←hX]
 clear hX
 (try go_wp2_with fail)
 refine (Za C1).mono ?_
 rintro e w1 ⟨rfl,hb1⟩
 have HB1:=Zb (Zf (Za HB) hb1)
 have H1X:=Zb hb1
 have D2:=Zb ((Za C2) w1 (Zf (Za HB) hb1))
 clear hb1 C1 C2 e0 e1 e2 e3 e4 el
 by_cases q1:x1=0
 ·subst q1
  go_wp2_with fail
  refine (Za D2).mono ?_
  rintro e w2 ⟨rfl,hb2⟩
  have HB2:=Zb (Zf (Za HB1) hb2)
  have D3:=Zb ((Za C3) w2 (Zf (Za HB1) hb2))
  have h2:=((Zf (Za H1X) hb2).block _ (lt_of_block (Za HX0))).trans (Za HX0)
  have e4:=Zd h2 4 _ rfl
  have el:=lt_of_block h2
  clear hb2 D2 C3 h2
  by_cases q2:z=s
  ·subst q2
   go_wp2_with fail
   refine (Za D3).mono ?_
   rintro e w3 ⟨rfl,hb3⟩
   have HB3:=Zb (Zf (Za HB2) hb3)
   clear hb3 D3
   go_wp2
   go_ret
   exact⟨by rw[←Za HY];simp,Za HB3⟩
  ·have gz:(z == s)=false:=by simp[q2]
   go_wp2
   go_ret
   exact⟨by rw[←Za HY];simp[q2],Za HB2⟩
 ·have gx:(x1 == 0)=false:=by simp[q1]
  go_wp2
  go_ret
  exact⟨by rw[←Za HY];simp[q1],Za HB1⟩
end Go.Proofs.YtmomfkikogbdeaaGreatDoor
namespace Go.Proofs.YtmomfkikogbdeaaGreatDoor.Tr
open Go.RowKit
def blockE(N:List Int)(T:List Zk)(s:Int):Zk×Int:=
 if chkTr N T≠0 then (Yz,chkTr N T) else if decide (s∈N)=true then (fnd s N T,0) else (Yz,5)
theorem fnd_at{N:List Int}{T:List Zk}{s:Int}(hl:N.length=T.length)(h:s∈N):fnd s N T∈T:=by
 rcases Jd s N T 0 hl with ⟨_,q,_⟩|⟨i,hi,_,_,q⟩
 ·exact absurd h q
 ·rw[q];exact List.getElem_mem hi
def Zez(w w':World)(x:Zk)(y:Int)(e:Ending):Prop:=
 ∃ ta tn tc,e = .returned (.tuple #[.agg #[.int .i64 x.1,.int .i64 x.2.1,.int .i64 x.2.2.1,.int .i64 x.2.2.2.1,.slice ta tn tc],.int .i64 y])∧TxsAt w' ta tn x.2.2.2.2∧SlOk ta tn tc∧Below w.heap.size w w'
theorem Hx{w w':World}{y:Int}(hb:Below w.heap.size w w'):Zez w w' Yz y (.returned (.tuple #[.agg #[.int .i64 0,.int .i64 0,.int .i64 0,.int .i64 0,.slice none 0 0],.int .i64 y])):=
 ⟨none,0,0,rfl,RowsAt.nil _ _,⟨Nat.le_refl _,Nat.zero_le _,fun _=>⟨rfl,rfl⟩⟩,hb⟩
theorem M6(W:World)(t:Nat)(a b c d e:Value):Gr W (((((W.setCell ⟨t,0,none⟩ a).setCell ⟨t,1,none⟩ b).setCell ⟨t,2,none⟩ c).setCell ⟨t,3,none⟩ d).setCell ⟨t,4,none⟩ e) (fun q=>q=t):=
 (((((Gr.refl W (fun q=>q=t)).one t 0 (.inl rfl) _).one t 1 (.inl rfl) _).one t 2 (.inl rfl) _).one t 3 (.inl rfl) _).one t 4 (.inl rfl) _
theorem block_is(a b:Option Addr)(n c m d:Nat)(N:List Int)(T:List Zk)(s:Int)(x:Zk)(y:Int)(w:World)(hN:IntsAt w a n N)(hT:BlksAt w b m T)(sN:SlOk a n c)(sT:SlOk b m d)(hx:blockE N T s=(x,y)) :
  Calls Tryz.prog 20 #[.agg #[.slice a n c,.slice b m d],.int .i64 s] w fun e w'=>Zez w w' x y e:=by
 obtain⟨X,hX⟩:∃ X,X=(w.alloc (.cells #[.slice a n c,.slice b m d] 28)).alloc (.cells #[.int .i64 0,.int .i64 0,.int .i64 0,.int .i64 0,.slice none 0 0] 39):=⟨_,rfl⟩
 have hbX:Below w.heap.size w X:=by rw[hX];exact Zf (Zi _ _) (Zi _ _)
 have hX0:X.heap[w.heap.size]? = some (.cells [.slice a n c,.slice b m d].toArray 28 (0,0)):=by rw[hX,Below.heap_alloc _ _ _ (by simp)];exact Yv _ _ _ _
 have hX1:X.heap[w.heap.size+1]? = some (.cells [.int .i64 0,.int .i64 0,.int .i64 0,.int .i64 0,.slice none 0 0].toArray 39 (0,0)):=by
  rw[hX]
  have:=Zv (w.alloc (.cells #[.slice a n c,.slice b m d] 28)) (.int .i64 0) (.int .i64 0) (.int .i64 0) (.int .i64 0) (.slice none 0 0) 39
  rw[show (w.alloc (.cells #[.slice a n c,.slice b m d] 28)).heap.size=w.heap.size+1 by simp] at this
  exact this
 have HB:=Zb hbX
 have HX0:=Zb hX0
 have HX1:=Zb hX1
 obtain⟨z,hz⟩:∃ z,chkTr N T=z:=⟨_,rfl⟩
 have C1:=Zb (Uc a b n c m d N T z X (hN.later hbX) (hT.later hbX) sN sT hz)
 have x0:=Zd hX0 0 _ rfl
 have x1:=Zd hX0 1 _ rfl
 have xl:=lt_of_block hX0
 unfold blockE at hx
 rw[hz] at hx
 by_cases q:z=0
 ·subst q
  rw[if_neg (by simp)] at hx
  obtain⟨hl,h24,hH,hgo⟩:=Vc hz
  obtain rfl:n=m:=by rw[←hN.1,←hT.1,hl]
  have hnm:n≤maxLen:=sN.len
  obtain⟨o,ho⟩:∃ o,decide (s∈N)=o:=⟨_,rfl⟩
  rw[ho] at hx
  have C2:=Zb (fun W (hb:Below X.heap.size X W)=>Ml a b n c n d N s o W hnm (hN.later (Zf hbX hb)) ho)
  cases o with
  | false=>
   rw[if_neg (by simp)] at hx
   obtain⟨rfl,rfl⟩:Yz=x∧5=y:=⟨congrArg Prod.fst hx,congrArg Prod.snd hx⟩
   clear hbX hX0 hX1 hN hT sN sT hz hx hl h24 hH hgo ho hnm
   go_enter Tryz.func20,Tryz.ntmps20
   go_wp2_with fail
   rw[←hX]
   clear hX
   refine (Za C1).mono ?_
   rintro e w1 ⟨rfl,hb1⟩
   have CC:=Zb ((Za C2) _ hb1)
   have hc:=(hb1.block _ (lt_of_block (Za HX0))).trans (Za HX0)
   have hc1:=(hb1.block _ (lt_of_block (Za HX1))).trans (Za HX1)
   have H0:=Zb hc
   have H1:=Zb hc1
   have t0:=Zd hc 0 _ rfl
   have t1:=Zd hc 1 _ rfl
   have tl:=lt_of_block hc
   have HBX1:=Zb hb1
   have HB1:=Zb (Zf (Za HB) hb1)
   clear hb1 x0 x1 xl hc hc1 C1 C2
   go_wp2_with fail
   refine (Za CC).mono ?_
   rintro e w2 ⟨rfl,hb2⟩
   have hd:=(hb2.block _ (lt_of_block (Za H1))).trans (Za H1)
   have z0:=Zd hd 0 _ rfl
   have f0:=Zg hd 0
   have z1:=Zd hd 1 _ rfl
   have f1:=Zg hd 1
   have z2:=Zd hd 2 _ rfl
   have f2:=Zg hd 2
   have z3:=Zd hd 3 _ rfl
   have f3:=Zg hd 3
   have z4:=Zd hd 4 _ rfl
   have f4:=Zg hd 4
   have zl:=lt_of_block hd
   clear hd
   have HBW:=Zb (Zf (Za HB1) hb2)
   clear hb2 t0 t1 tl
   go_wp2
   (try simp only[Exit.inBlock,Exit.then])
   refine bodyPost_ret (v:=.tuple #[.agg #[.int .i64 0,.int .i64 0,.int .i64 0,.int .i64 0,.slice none 0 0],.int .i64 5]) ?_ rfl (Hx ?_)
   ·rw[Z3 rfl]
    go_simp
   ·exact (M6 _ _ _ _ _ _ _).below (Za HBW) (by omega) (fun k hk=>by omega)
  | true=>
   rw[if_pos rfl] at hx
   obtain⟨hfx,rfl⟩:fnd s N T=x∧0=y:=⟨congrArg Prod.fst hx,congrArg Prod.snd hx⟩
   have hmem:x∈T:=by rw[←hfx];exact fnd_at hl (by simpa using ho)
   have hsm:=blk_small (Rs N T [] [] hl hgo x hmem)
   have C3:=Zb (fun W (hb:Below X.heap.size X W)=>Pv a b n c d N T s x W hnm (hN.later (Zf hbX hb)) (hT.later (Zf hbX hb)) hfx)
   have HSM:=Zb hsm
   clear hbX hX0 hX1 hN hT sN sT hz hx hl h24 hH hgo ho hnm hfx hmem hsm
   obtain⟨p,h,k,r,L⟩:=x
   go_enter Tryz.func20,Tryz.ntmps20
   go_wp2_with fail
   rw[←hX]
   clear hX
   refine (Za C1).mono ?_
   rintro e w1 ⟨rfl,hb1⟩
   have CC:=Zb ((Za C2) _ hb1)
   have hc:=(hb1.block _ (lt_of_block (Za HX0))).trans (Za HX0)
   have hc1:=(hb1.block _ (lt_of_block (Za HX1))).trans (Za HX1)
   have H0:=Zb hc
   have H1:=Zb hc1
   have t0:=Zd hc 0 _ rfl
   have t1:=Zd hc 1 _ rfl
   have tl:=lt_of_block hc
   have HBX1:=Zb hb1
   have HB1:=Zb (Zf (Za HB) hb1)
   clear hb1 x0 x1 xl hc hc1 C1 C2
   go_wp2_with fail
   refine (Za CC).mono ?_
   rintro e w2 ⟨rfl,hb2⟩
   have C4:=Zb ((Za C3) _ (Zf (Za HBX1) hb2))
   have hc2:=(hb2.block _ (lt_of_block (Za H0))).trans (Za H0)
   have hd:=(hb2.block _ (lt_of_block (Za H1))).trans (Za H1)
   have HD:=Zb hd
   have u0:=Zd hc2 0 _ rfl
   have u1:=Zd hc2 1 _ rfl
   have ul:=lt_of_block hc2
   have HB2:=Zb (Zf (Za HB1) hb2)
   clear hb2 hc2 hd t0 t1 tl CC C3
   go_wp2_with fail
   refine (Za C4).mono ?_
   rintro e w3 ⟨ta,tn,tc,rfl,hL,sL,hb3⟩
   have hL:TxsAt w2 ta tn L:=hL
   have C5:=Zb (Rr p h k r ta tn tc L w3 (hL.later hb3) sL (by rw[←hL.1];exact (Za HSM).1) (Za HSM).2)
   have hd:=(hb3.block _ (lt_of_block (Za HD))).trans (Za HD)
   have HD3:=Zb hd
   have HB3:=Zb (Zf (Za HB2) hb3)
   have HLT:=Zb hL.1
   clear hb3 hd hL sL u0 u1 ul C4
   unfold Qy
   go_wp2_with fail
   refine (Za C5).mono ?_
   rintro e w4 ⟨a',c',rfl,hf,hb4⟩
   have hd:=(hb4.block _ (lt_of_block (Za HD3))).trans (Za HD3)
   have z0:=Zd hd 0 _ rfl
   have f0:=Zg hd 0
   have z1:=Zd hd 1 _ rfl
   have f1:=Zg hd 1
   have z2:=Zd hd 2 _ rfl
   have f2:=Zg hd 2
   have z3:=Zd hd 3 _ rfl
   have f3:=Zg hd 3
   have z4:=Zd hd 4 _ rfl
   have f4:=Zg hd 4
   have zl:=lt_of_block hd
   clear hd
   have hg:=M6 w4 (w.heap.size+1) (.int .i64 p) (.int .i64 h) (.int .i64 k) (.int .i64 r) (.slice a' tn c')
   have hlw:=lt_of_block (Za HD3)
   have HW:=Zb (hf _ (hg.mono fun q _ e=>by omega))
   have HBW:Hid (Below w.heap.size w (((((w4.setCell ⟨w.heap.size+1,0,none⟩ (.int .i64 p)).setCell ⟨w.heap.size+1,1,none⟩ (.int .i64 h)).setCell ⟨w.heap.size+1,2,none⟩ (.int .i64 k)).setCell ⟨w.heap.size+1,3,none⟩ (.int .i64 r)).setCell ⟨w.heap.size+1,4,none⟩ (.slice a' tn c'))):=hg.below (Zf (Za HB3) hb4) (by omega) (fun k hk=>by omega)
   clear hb4 hf hg hlw C5
   go_wp2
   (try simp only[Exit.inBlock,Exit.then])
   refine bodyPost_ret (v:=.tuple #[.agg #[.int .i64 p,.int .i64 h,.int .i64 k,.int .i64 r,.slice a' tn c'],.int .i64 0]) ?_ rfl ?_
   ·rw[Z3 rfl]
    go_simp
   ·obtain⟨a2,n2,c2,e2,f1,f2⟩:=Za HW
    cases e2
    exact⟨_,_,_,rfl,f1,f2,Za HBW⟩
 ·rw[if_pos q] at hx
  obtain⟨rfl,rfl⟩:Yz=x∧z=y:=⟨congrArg Prod.fst hx,congrArg Prod.snd hx⟩
  have g:(z != 0)=true:=by simp[q]
  clear hbX hX0 hX1 hN hT sN sT hz hx q
  go_enter Tryz.func20,Tryz.ntmps20
  go_wp2_with fail
  rw[←hX]
  clear hX
  refine (Za C1).mono ?_
  rintro e w1 ⟨rfl,hb1⟩
  have hd:=(hb1.block _ (lt_of_block (Za HX1))).trans (Za HX1)
  have z0:=Zd hd 0 _ rfl
  have f0:=Zg hd 0
  have z1:=Zd hd 1 _ rfl
  have f1:=Zg hd 1
  have z2:=Zd hd 2 _ rfl
  have f2:=Zg hd 2
  have z3:=Zd hd 3 _ rfl
  have f3:=Zg hd 3
  have z4:=Zd hd 4 _ rfl
  have f4:=Zg hd 4
  have zl:=lt_of_block hd
  clear hd
  have HB1:=Zb (Zf (Za HB) hb1)
  clear hb1 x0 x1 xl C1
  go_wp2
  (try simp only[Exit.inBlock,Exit.then])
  refine bodyPost_ret (v:=.tuple #[.agg #[.int .i64 0,.int .i64 0,.int .i64 0,.int .i64 0,.slice none 0 0],.int .i64 z]) ?_ rfl (Hx ?_)
  ·rw[Z3 rfl]
   go_simp
  ·exact (M6 _ _ _ _ _ _ _).below (Za HB1) (by omega) (fun k hk=>by omega)
end Go.Proofs.YtmomfkikogbdeaaGreatDoor.Tr
namespace Go.Proofs.YtmomfkikogbdeaaGreatDoor
open Go.RowKit
def Ke(w:World)(q:Nat):Prop:=(∀ (j:Nat) (i i':Int),w.cell? ⟨q,j,none⟩=some (.int .i64 i)→w.cell? ⟨q,j+1,none⟩=some (.int .i64 i')→False)∧∀ (j:Nat) (s:ByteArray),w.cell? ⟨q,j,none⟩≠some (.string s)
theorem Al{w:World}{q:Nat}{es:Array MapEntry}{c:Nat}(h:w.heap[q]? = some (.map es c)):Ke w q:=by
 refine⟨fun j i i' h1 _=>?_,fun j s h1=>?_⟩ <;> simp[World.cell?,h] at h1
theorem Dj{w:World}{q:Nat}{a b c d:Option Addr}{n1 c1 n2 c2 n3 c3 n4 c4:Nat}{t:Int}{m:Option Nat}{ty:TypeId}(h:w.heap[q]? = some (.cells [.slice a n1 c1,.slice b n2 c2,.slice c n3 c3,.slice d n4 c4,.int .i64 t,.map m].toArray ty (0,0))):Ke w q:=by
 refine⟨fun j i i' h1 h2=>?_,fun j s h1=>?_⟩
 ·match j with
  | 0=>simp[World.cell?,h] at h1
  | 1=>simp[World.cell?,h] at h1
  | 2=>simp[World.cell?,h] at h1
  | 3=>simp[World.cell?,h] at h1
  | 4=>simp[World.cell?,h] at h2
  | 5=>simp[World.cell?,h] at h1
  | j+6=>simp[World.cell?,h] at h1
 ·match j with
  | 0=>simp[World.cell?,h] at h1
  | 1=>simp[World.cell?,h] at h1
  | 2=>simp[World.cell?,h] at h1
  | 3=>simp[World.cell?,h] at h1
  | 4=>simp[World.cell?,h] at h1
  | 5=>simp[World.cell?,h] at h1
  | j+6=>simp[World.cell?,h] at h1
theorem Zib{w w':World}{S:Nat→Prop}(g:Gr w w' S)(hS:∀ q,S q→Ke w q){a:Option Addr}{n:Nat}{l:List (Int×Int)}(h:OpsAt w a n l):OpsAt w' a n l:=by
 refine⟨h.1,fun h0=>?_⟩
 obtain⟨b,off,rfl,hc⟩:=h.2 h0
 refine⟨b,off,rfl,fun i hi=>?_⟩
 obtain⟨c0,c1⟩:=hc i hi
 have hn:¬S b:=fun q=>(hS b q).1 _ _ _ c0 c1
 exact⟨g.cell c0 hn,g.cell c1 hn⟩
theorem Zed{w w':World}{S:Nat→Prop}(g:Gr w w' S)(hS:∀ q,S q→Ke w q){a:Option Addr}{n:Nat}{C:List Zh}(h:CoinsAt w a n C):CoinsAt w' a n C:=by
 refine⟨h.1,fun h0=>?_⟩
 obtain⟨b,off,rfl,hl,hc⟩:=h.2 h0
 refine⟨b,off,rfl,Nat.lt_of_lt_of_le hl g.size,fun i hi=>?_⟩
 obtain⟨c0,c1,c2,⟨la,ln,lc,c3,h5,h6⟩,c4,c5⟩:=hc i hi
 have hn:¬S b:=fun q=>(hS b q).1 _ _ _ c0 c1
 exact⟨g.cell c0 hn,g.cell c1 hn,g.cell c2 hn,⟨la,ln,lc,g.cell c3 hn,Zib g hS h5,h6⟩,g.cell c4 hn,g.cell c5 hn⟩
def Xq(β : Int→List Zh)(s:Int)(C:List Zh):Int→List Zh:=fun x=>if x=s then C else β x
structure Ty(w:World)(ka:Option Addr)(kn:Nat)(K:List ByteArray)(na:Option Addr)(nn:Nat)(N:List Int)(ba:Option Addr)(bn:Nat)(T:List Zk)(pa:Option Addr)(pn:Nat)(P:List TxD):Prop where
 k:Bk.TextsAt w ka kn K
 n:Tr.IntsAt w na nn N
 b:Tr.BlksAt w ba bn T
 p:TxsAt w pa pn P
def Zey(w:World)(f:Int→Value)(β : Int→List Zh):Prop:=∀ x,∃ a m c,f x = .slice a m c∧CoinsAt w a m (β x)∧SlOk a m c
structure DeskAt(Z:Nat→Prop)(w:World)(d bm m:Nat)(ka:Option Addr)(kn kc:Nat)(K:List ByteArray)(na:Option Addr)(nn nc:Nat)(N:List Int)(ba:Option Addr)(bn bc:Nat)(T:List Zk)(pa:Option Addr)(pn pc:Nat)(P:List TxD)(tip:Int)(f:Int→Value)(β : Int→List Zh):Prop where
 box:w.heap[d]? = some (.cells [.slice ka kn kc,.slice na nn nc,.slice ba bn bc,.slice pa pn pc,.int .i64 tip,.map (some bm)].toArray 254 (0,0))
 dat:∀ W,Gr w W (fun q=>q=d∨q=bm∨Z q)→Ty W ka kn K na nn N ba bn T pa pn P
 coi:∀ W,Gr w W (fun q=>q=d∨q=bm)→Zey W f β
 sk:SlOk ka kn kc
 sn:SlOk na nn nc
 sb:SlOk ba bn bc
 sp:SlOk pa pn pc
 mp:BMap bm m f w
 ne:d≠bm
 zb:∀ q,Z q→q<w.heap.size
section
variable {Z : Nat → Prop} {w w' : World} {d bm m : Nat} {ka na ba pa : Option Addr} {kn kc nn nc bn bc pn pc : Nat} {K : List ByteArray} {N : List Int} {T : List Zk} {P : List TxD} {tip : Int} {f : Int → Value} {β : Int → List Zh}
theorem DeskAt.now(h:DeskAt Z w d bm m ka kn kc K na nn nc N ba bn bc T pa pn pc P tip f β):Ty w ka kn K na nn N ba bn T pa pn P:=h.dat w (Gr.refl _ _)
theorem DeskAt.c(h:DeskAt Z w d bm m ka kn kc K na nn nc N ba bn bc T pa pn pc P tip f β):Zey w f β:=h.coi w (Gr.refl _ _)
theorem DeskAt.later(h:DeskAt Z w d bm m ka kn kc K na nn nc N ba bn bc T pa pn pc P tip f β)(hb:Below w.heap.size w w'):DeskAt Z w' d bm m ka kn kc K na nn nc N ba bn bc T pa pn pc P tip f β:=
 ⟨(hb.block d (lt_of_block h.box)).trans h.box,fun W g=>h.dat W ((Gr.of hb).trans g),fun W g=>h.coi W ((Gr.of hb).trans g),h.sk,h.sn,h.sb,h.sp,h.mp.keep hb,h.ne,fun q e=>Nat.lt_of_lt_of_le (h.zb q e) hb.size⟩
theorem DeskAt.np(h:DeskAt Z w d bm m ka kn kc K na nn nc N ba bn bc T pa pn pc P tip f β)(q:Nat)(hq:q=d∨q=bm):Ke w q:=by
 rcases hq with rfl|rfl
 ·exact Dj h.box
 ·obtain⟨es,c,hm⟩:=h.mp.isMap
  exact Al hm
theorem DeskAt.book(h:DeskAt Z w d bm m ka kn kc K na nn nc N ba bn bc T pa pn pc P tip f β):KAt w d K:=⟨ka,kn,kc,Zd h.box 0 _ rfl,h.now.k,h.sk,lt_of_block h.box⟩
theorem DeskAt.put(h:DeskAt Z w d bm m ka kn kc K na nn nc N ba bn bc T pa pn pc P tip f β){W:World}(hb:Below w.heap.size w W){s:Int}{a:Option Addr}{n c:Nat}{C:List Zh}(hC:CoinsAt W a n C)(sC:SlOk a n c)
  (hm:BMap bm (m+1) (fun y=>if y=s then .slice a n c else f y) w') (hg:W.grownBy w' (some bm)):DeskAt Z w' d bm (m+1) ka kn kc K na nn nc N ba bn bc T pa pn pc P tip (fun y=>if y=s then .slice a n c else f y) (Xq β s C):=by
 have h2:=h.later hb
 have g:Gr W w' (fun q=>q=bm):=(Gr.refl W (fun q=>q=bm)).grown hg (fun q e=>.inl (by injection e with e;exact e.symm))
 have g2:Gr W w' (fun q=>q=d∨q=bm):=g.mono (fun q _ e=>.inr e)
 refine⟨g.heap h2.box h.ne,fun V gv=>h2.dat V ((g.mono (fun q _ e=>.inr (.inl e))).trans gv),fun V gv=>?_,h.sk,h.sn,h.sb,h.sp,hm,h.ne,fun q e=>Nat.lt_of_lt_of_le (h2.zb q e) g.size⟩
 have D:=h2.coi V (g2.trans gv)
 intro x
 unfold Xq
 by_cases e:x=s
 ·simp only[if_pos e]
  exact⟨a,n,c,rfl,Zed (g2.trans gv) (fun q hq=>h2.np q hq) hC,sC⟩
 ·simp only[if_neg e]
  exact D x
theorem DeskAt.widen(h:DeskAt Z w d bm m ka kn kc K na nn nc N ba bn bc T pa pn pc P tip f β)(hb:Below w.heap.size w w')(r:Nat)(hr:w.heap.size≤r)(hr':r<w'.heap.size):DeskAt (fun q=>Z q∨q=r) w' d bm m ka kn kc K na nn nc N ba bn bc T pa pn pc P tip f β:=by
 have h2:=h.later hb
 refine⟨h2.box,fun W g=>h.dat W ((Gr.of hb).far g (fun q e=>?_)),h2.coi,h2.sk,h2.sn,h2.sb,h2.sp,h2.mp,h2.ne,fun q e=>?_⟩
 ·rcases e with e|e|e|e
  ·exact .inr (.inl e)
  ·exact .inr (.inr (.inl e))
  ·exact .inr (.inr (.inr e))
  ·exact .inl (e ▸ hr)
 ·rcases e with e|e
  ·exact h2.zb q e
  ·exact e ▸ hr'
end
def Wj:List TxD→List TxD→Bool
 | [],[]=>true
 | x :: r,y :: q=>Vh x y && Wj r q
 | _,_=>false
theorem Gc(x y:TxD):Vh x y=true↔x=y:=by
 obtain⟨a,b,c⟩:=x
 obtain⟨d,e,f⟩:=y
 unfold Vh
 simp
theorem Qh:∀ (l k:List TxD),Wj l k=true↔l=k
 | [],[]=>by simp[Wj]
 | [],y :: q=>by simp[Wj]
 | x :: r,[]=>by simp[Wj]
 | x :: r,y :: q=>by rw[Wj,Bool.and_eq_true,Gc,Qh r q,List.cons.injEq]
theorem Lb{l k:List TxD}(h:l≠k):Wj l k=false:=by
 rw[←Bool.not_eq_true,Qh];exact h
theorem Gb{l k:List TxD}(h:l=k):Wj l k=true:=(Qh l k).2 h
theorem Zat(a b:Option Addr)(n m c d:Nat)(v:Value)(w:World)(h:n≠m) :
  Calls Tryz.prog 29 #[.slice a n c,.slice b m d,v] w fun e w'=>e = .returned (.bool false)∧w=w':=by
 have g:((n:Int) != (m:Int))=true:=by simp;omega
 clear h
 go_enter Tryz.func29,Tryz.ntmps29
 go_wp2
 go_ret
 exact⟨rfl,rfl⟩
theorem Zas(a b:Option Addr)(c d:Nat)(v:Value)(w:World) :
  Calls Tryz.prog 29 #[.slice a 0 c,.slice b 0 d,v] w fun e w'=>e = .returned (.bool true)∧w=w':=by
 go_enter Tryz.func29,Tryz.ntmps29
 go_wp2
 refine wp_loop_rounds 1 ?_
 rw[rounds_succ]
 go_wp2
 go_ret
 exact⟨rfl,rfl⟩
theorem Zar(b1 o1 b2 o2 n c d:Nat)(l k:List TxD)(o:Bool)(w:World)(hn:n≤maxLen)(z1:l.length=n)(z2:k.length=n)
  (h1:∀ i (h:i<l.length),TxAt w b1 (o1+i*3) l[i]) (h2:∀ i (h:i<k.length),TxAt w b2 (o2+i*3) k[i]) (ho:Wj l k=o) :
  Calls Tryz.prog 29 #[.slice (some ⟨b1,o1,none⟩) n c,.slice (some ⟨b2,o2,none⟩) n d,.func (.func 30) #[] #[]] w fun e w'=>e = .returned (.bool o)∧Below w.heap.size w w':=by
 subst ho
 unfold maxLen at hn
 have H1:=Zb h1
 have H2:=Zb h2
 have Z1:=Zb z1
 have Z2:=Zb z2
 clear h1 h2 z1 z2
 go_enter Tryz.func29,Tryz.ntmps29
 go_wp2
 go_loopw [17] (fun i wr=>∃ j:Nat,j≤n∧i = .int .i64 j∧Below w.heap.size w wr∧Hid (l.take j=k.take j)) (fun i _=>n - (intOf i).toNat)
 case atStart=>exact⟨0,Nat.zero_le _,rfl,Below.refl _ _,rfl⟩
 case round=>
  obtain⟨j,hk,rfl,hb,A⟩:=hrel
  have HB:=Zb hb
  by_cases hlt:j<n
  ·have hl1:j<l.length:=by rw[Za Z1];exact hlt
   have hl2:j<k.length:=by rw[Za Z2];exact hlt
   have g:=TxAt.kept _ _ _ _ _ hb ((Za H1) j hl1)
   have f:=TxAt.kept _ _ _ _ _ hb ((Za H2) j hl2)
   have TS:=Zb (Uu hl1 hl2 (Za A))
   have TU:=Zb (W7 hl1 hl2)
   obtain⟨q,hq⟩:∃ q,l[j]=q:=⟨_,rfl⟩
   obtain⟨r,hr⟩:∃ r,k[j]=r:=⟨_,rfl⟩
   rw[hq] at g
   rw[hr] at f
   rw[hq,hr] at TS TU
   obtain⟨q1,I,O⟩:=q
   obtain⟨r1,I',O'⟩:=r
   obtain⟨g0,⟨ai,ni,ci,g1,gI,sI⟩,ao,no,co,g2,gO,sO⟩:=g
   obtain⟨f0,⟨bi,mi,di,f1,fI,_⟩,bo,mo,eo,f2,fO,_⟩:=f
   simp only at g0 g1 g2 f0 f1 f2 gI gO fI fO
   have hb2:=Zf (Zi wr (.cells #[.int .i64 q1,.slice ai ni ci,.slice ao no co] 59)) (Zi _ (.cells #[.int .i64 r1,.slice bi mi di,.slice bo mo eo] 59))
   obtain⟨o',ho'⟩:∃ o',Vh (q1,I,O) (r1,I',O')=o':=⟨_,rfl⟩
   have HC:=Zb (Ky q1 r1 ai ao bi bo ni ci no co mi di mo eo I I' O O' o' _ sI.len sO.len (gI.later hb2) (gO.later hb2) (fI.later hb2) (fO.later hb2) ho')
   have HB2:=Zb (Zf (Za HB) hb2)
   have hrl:b2<wr.heap.size:=World.block_lt_of_cell? _ _ f0
   have hkI:(j:Int)<(n:Int):=by omega
   clear hb hb2 gI gO fI fO sI sO hq hr A
   cases o' with
   | true=>
    have T:=Zb ((Za TS) ((Gc _ _).1 ho'))
    clear TS TU ho'
    go_wp2_with fail
    refine (Za HC).mono ?_
    rintro e w2 ⟨rfl,hb3⟩
    have HB3:=Zb (Zf (Za HB2) hb3)
    clear hb3
    go_wp2
    go_roundw
    case rel=>exact⟨j+1,by omega,by go_num,Za HB3,T⟩
    case measure=>simp[intOf];omega
   | false=>
    have U:Hid (Wj l k=false):=Lb ((Za TU) (fun e=>by rw[(Gc _ _).2 e] at ho';cases ho'))
    clear TS TU ho'
    go_wp2_with fail
    refine (Za HC).mono ?_
    rintro e w2 ⟨rfl,hb3⟩
    have HB3:=Zb (Zf (Za HB2) hb3)
    clear hb3
    go_wp2
    go_ret
    exact⟨by rw[Za U];rfl,Za HB3⟩
  ·have U:Hid (Wj l k=true):=by
    have h:=Za A
    rw[List.take_of_length_le (by rw[Za Z1];omega),List.take_of_length_le (by rw[Za Z2];omega)] at h
    exact Gb h
   clear A hb
   go_wp2
   go_ret
   exact⟨by rw[Za U];rfl,Za HB⟩
theorem Zdx(a b:Option Addr)(n m c d:Nat)(l k:List TxD)(o:Bool)(w:World)(hn:n≤maxLen)(hA:TxsAt w a n l)(hB:TxsAt w b m k)(ho:Wj l k=o) :
  Calls Tryz.prog 29 #[.slice a n c,.slice b m d,.func (.func 30) #[] #[]] w fun e w'=>e = .returned (.bool o)∧Below w.heap.size w w':=by
 by_cases h:n=m
 ·subst h
  by_cases h0:n=0
  ·subst h0
   have e1:l=[]:=List.length_eq_zero_iff.1 hA.1
   have e2:k=[]:=List.length_eq_zero_iff.1 hB.1
   subst e1 e2
   rw[Gb rfl] at ho
   subst ho
   exact (Zas a b c d _ w).mono fun e w' ⟨h1,h2⟩=>⟨h1,h2 ▸ Below.refl _ _⟩
  ·obtain⟨b1,o1,rfl,_,h1⟩:=hA.2 (by omega)
   obtain⟨b2,o2,rfl,_,h2⟩:=hB.2 (by omega)
   exact Zar b1 o1 b2 o2 n c d l k o w hn hA.1 hB.1 h1 h2 ho
 ·have e:l≠k:=fun e=>h (by rw[←hA.1,←hB.1,e])
  rw[Lb e] at ho
  subst ho
  exact (Zat a b n m c d _ w h).mono fun e w' ⟨h1,h2⟩=>⟨h1,h2 ▸ Below.refl _ _⟩
theorem Tryz.underHead:Tryz.prog.underlying 187=some (.array 4 3):=by kernel_rfl
theorem Zan(p h k n pp hh kk nn:Int)(W:World):(binOp .eql 187 (.agg #[.int .i64 p,.int .i64 h,.int .i64 k,.int .i64 n]) (.agg #[.int .i64 pp,.int .i64 hh,.int .i64 kk,.int .i64 nn])).run Tryz.prog W = .ok (.bool ((p == pp) && ((h == hh) && ((k == kk) && (n == nn))))) W:=by
 obtain⟨i0,hi,_,_,_⟩:=info_parts Tryz.infoInt
 have hk:Tryz.prog.plainKey 3=true:=by kernel_rfl
 have hc:Tryz.prog.cellsOf 3=1:=by kernel_rfl
 have p0:∀ (x y z u:Int),(part 3 #[.int .i64 x,.int .i64 y,.int .i64 z,.int .i64 u] 0).run Tryz.prog W = .ok (.int .i64 x) W:=fun x y z u=>run_part_plain W hk rfl
 have p1:∀ (x y z u:Int),(part 3 #[.int .i64 x,.int .i64 y,.int .i64 z,.int .i64 u] 1).run Tryz.prog W = .ok (.int .i64 y) W:=fun x y z u=>run_part_plain W hk rfl
 have p2:∀ (x y z u:Int),(part 3 #[.int .i64 x,.int .i64 y,.int .i64 z,.int .i64 u] 2).run Tryz.prog W = .ok (.int .i64 z) W:=fun x y z u=>run_part_plain W hk rfl
 have p3:∀ (x y z u:Int),(part 3 #[.int .i64 x,.int .i64 y,.int .i64 z,.int .i64 u] 3).run Tryz.prog W = .ok (.int .i64 u) W:=fun x y z u=>run_part_plain W hk rfl
 have q:∀ (a b:Int),(Op.equalIn 9999 3 (.int .i64 a) (.int .i64 b)).run Tryz.prog W = .ok (a == b) W:=fun a b=>run_equalIn_int W 9998 3 .i64 .i64 a b Tryz.underlying3
 have e:(Op.equalIn 10000 187 (.agg #[.int .i64 p,.int .i64 h,.int .i64 k,.int .i64 n]) (.agg #[.int .i64 pp,.int .i64 hh,.int .i64 kk,.int .i64 nn])).run Tryz.prog W = .ok ((p == pp) && ((h == hh) && ((k == kk) && (n == nn)))) W:=by
  rw[show (10000:Nat)=9999+1 from rfl,run_equalIn_array W 9999 _ _ Tryz.underHead hi,hc,show List.range 4=[0,1,2,3] from rfl]
  simp only[Op.eqItems,Sem.run_bind,Nat.mul_one,p0,Result.andThen_ok,q]
  by_cases e1:p=pp <;> by_cases e2:h=hh <;> by_cases e3:k=kk <;> by_cases e4:n=nn <;> simp[p1,p2,p3,q,e1,e2,e3,e4]
 rw[run_eql_struct,e]
 rfl
end Go.Proofs.YtmomfkikogbdeaaGreatDoor
