/- The contract of the reference's CheckBlock: it tells what the program's Check tells. -/
import Derived.Test.YtepmnpapdknocaaGreatDoorRefCheckB
import Derived.Test.YtepmnpapdknocaaGreatDoorCoinSpendBToBlkPrint
import Derived.Test.YtepmnpapdknocaaGreatDoorBookAllWToLockFlat
import Derived.Test.YtepmnpapdknocaaGreatDoorShelf
set_option maxHeartbeats 12800000
namespace Go.Proofs.YtepmnpapdknocaaGreatDoor
open Go.RowKit
theorem Ha(p h k n:Int):Xm p h k n=true↔(0≤p∧p≤120)∧(1≤h∧h≤1000)∧(1≤k∧k≤1000)∧(0≤n∧n≤1000000000):=by
 unfold Xm
 simp[Bool.and_eq_true,decide_eq_true_eq]
set_option maxRecDepth 10000 in
theorem Ez(p h k n:Int)(a:Option Addr)(m c:Nat)(w:World)(hh:Xm p h k n=false) :
  Calls Tryz.prog 8 #[.agg #[.int .i64 p,.int .i64 h,.int .i64 k,.int .i64 n,.slice a m c]] w fun e w'=>e = .returned (.int .i64 3)∧Below w.heap.size w w':=by
 have HB:=hide (bel_new w (.cells #[.int .i64 p,.int .i64 h,.int .i64 k,.int .i64 n,.slice a m c] 28))
 have hh2:¬((0≤p∧p≤120)∧(1≤h∧h≤1000)∧(1≤k∧k≤1000)∧(0≤n∧n≤1000000000)):=fun q=>by rw[(Ha p h k n).2 q] at hh;cases hh
 clear hh
 by_cases c0:p<0
 ·clear hh2
  go_enter Tryz.func8,Tryz.ntmps8
  go_wp2
  go_ret
  exact⟨rfl,unhide HB⟩
 by_cases c1:120<p
 ·clear hh2
  go_enter Tryz.func8,Tryz.ntmps8
  go_wp2
  go_ret
  exact⟨rfl,unhide HB⟩
 by_cases c2:h<1
 ·clear hh2
  go_enter Tryz.func8,Tryz.ntmps8
  go_wp2
  go_ret
  exact⟨rfl,unhide HB⟩
 by_cases c3:1000<h
 ·clear hh2
  go_enter Tryz.func8,Tryz.ntmps8
  go_wp2
  go_ret
  exact⟨rfl,unhide HB⟩
 by_cases c4:k<1
 ·clear hh2
  go_enter Tryz.func8,Tryz.ntmps8
  go_wp2
  go_ret
  exact⟨rfl,unhide HB⟩
 by_cases c5:1000<k
 ·clear hh2
  go_enter Tryz.func8,Tryz.ntmps8
  go_wp2
  go_ret
  exact⟨rfl,unhide HB⟩
 have c6:n<0∨1000000000<n:=by omega
 have C:=hide (fun W=>Sn n W c6)
 clear hh2 c6
 go_enter Tryz.func8,Tryz.ntmps8
 go_wp2_with fail
 refine ((unhide C) _).mono ?_
 rintro e w' ⟨rfl,rfl⟩
 go_wp2
 go_ret
 exact⟨rfl,unhide HB⟩
set_option maxRecDepth 10000 in
theorem Ey(p h k n:Int)(a:Option Addr)(m c:Nat)(T:List TxD)(w:World)(hT:TxsAt w a m T)(hh:Xm p h k n=true) :
  Calls Tryz.prog 8 #[.agg #[.int .i64 p,.int .i64 h,.int .i64 k,.int .i64 n,.slice a m c]] w fun e w'=>e = .returned (.int .i64 (Xq (p,h,k,n,T)))∧Below w.heap.size w w':=by
 obtain⟨X,hX⟩:∃ X,X=w.alloc (.cells #[.int .i64 p,.int .i64 h,.int .i64 k,.int .i64 n,.slice a m c] 28):=⟨_,rfl⟩
 have hbX:Below w.heap.size w X:=by rw[hX];exact bel_new _ _
 have hX1:X.heap[w.heap.size]? = some (.cells [.int .i64 p,.int .i64 h,.int .i64 k,.int .i64 n,.slice a m c].toArray 28 (0,0)):=by rw[hX];exact Yd _ _ _ _ _ _ _
 have HX1:=hide hX1
 have HBX:=hide hbX
 have HT:=hide (hT.later hbX)
 have hz:T.length=m:=hT.1
 obtain⟨⟨q1,q2⟩,⟨q3,q4⟩,⟨q5,q6⟩,q7,q8⟩:=(Ha p h k n).1 hh
 have C:=hide (Qm n X q7 q8)
 have p1:¬p<0:=by omega
 have p2:¬120<p:=by omega
 have p3:¬h<1:=by omega
 have p4:¬1000<h:=by omega
 have p5:¬k<1:=by omega
 have p6:¬1000<k:=by omega
 unfold Xq
 simp only
 rw[hz,if_neg (by simp[hh])]
 have x0:=Za hX1 0 _ rfl
 have x1:=Za hX1 1 _ rfl
 have x2:=Za hX1 2 _ rfl
 have x3:=Za hX1 3 _ rfl
 have x4:=Za hX1 4 _ rfl
 have xl:=lt_of_block hX1
 clear hbX hX1 hT hh q1 q2 q3 q4 q5 q6 q7 q8
 by_cases h4:4<m
 ·rw[if_pos h4]
  have g4:(4:Int)<(m:Int):=by omega
  clear hz
  go_enter Tryz.func8,Tryz.ntmps8
  go_wp2_with fail
  rw[←hX]
  clear hX
  refine (unhide C).mono ?_
  rintro e w' ⟨rfl,rfl⟩
  go_wp2
  go_ret
  exact⟨rfl,unhide HBX⟩
 ·rw[if_neg h4]
  by_cases h0:m=0
  ·subst h0
   rw[if_pos rfl]
   clear hz h4
   go_enter Tryz.func8,Tryz.ntmps8
   go_wp2_with fail
   rw[←hX]
   clear hX
   refine (unhide C).mono ?_
   rintro e w' ⟨rfl,rfl⟩
   go_wp2
   go_ret
   exact⟨rfl,unhide HBX⟩
  ·rw[if_neg h0]
   have g0:((m:Int) == 0)=false:=by simp[h0]
   have g4:¬(4:Int)<(m:Int):=by omega
   have HZ:=hide hz
   obtain⟨b,off,rfl,hbl,hcell⟩:=(unhide HT).2 (by omega)
   have HC:=hide hcell
   clear hz hcell
   go_enter Tryz.func8,Tryz.ntmps8
   go_wp2_with fail
   rw[←hX]
   clear hX
   refine (unhide C).mono ?_
   rintro e w' ⟨rfl,rfl⟩
   go_wp2
   go_loopw [52] (fun i wr=>∃ j:Nat,j≤m∧i = .int .i64 j∧Hid (Yl h 0 T=Yl h j (T.drop j))∧Hid (Below X.heap.size X wr)) (fun i _=>m - (intOf i).toNat)
   case atStart=>exact⟨0,Nat.zero_le _,rfl,rfl,(Below.refl _ _:Below X.heap.size X X)⟩
   case round=>
    obtain⟨j,hj,rfl,A,HBr⟩:=hrel
    clear x0 x1 x2 x3 x4 xl
    by_cases hlt:j<m
    ·have hlk:j<T.length:=by rw[unhide HZ];exact hlt
     have hin:=TxAt.kept _ _ _ _ _ (unhide HBr) ((unhide HC) j hlk)
     have ST:=hide (F3 h T j hlk)
     obtain⟨t,ht⟩:∃ t,T[j]=t:=⟨_,rfl⟩
     rw[ht] at hin ST
     obtain⟨t1,I,O⟩:=t
     obtain⟨g0',⟨ai,ni,ci,g1,hI,sI⟩,ao,no,co,g2,hO,_⟩:=hin
     have A2:Hid (Yl h 0 T=if Zj (t1,I,O)≠0 then Zj (t1,I,O) else if Vx (t1,I,O) j h=false then 4 else Yl h (j+1) (T.drop (j+1))):=by show _=_;rw[unhide A,unhide ST]
     simp only at g0' g1 g2 hI hO
     obtain⟨Y,hY⟩:∃ Y,Y=wr.alloc (.cells #[.int .i64 t1,.slice ai ni ci,.slice ao no co] 74):=⟨_,rfl⟩
     have hbY:Below wr.heap.size wr Y:=by rw[hY];exact bel_new _ _
     have hY1:Y.heap[wr.heap.size]? = some (.cells [.int .i64 t1,.slice ai ni ci,.slice ao no co].toArray 74 (0,0)):=by rw[hY];exact Zp _ _ _ _ _
     have HY1:=hide hY1
     have HBY:=hide (bel_on (unhide HBr) hbY)
     have y0:=Za hY1 0 _ rfl
     have y1:=Za hY1 1 _ rfl
     have y2:=Za hY1 2 _ rfl
     have yl:=lt_of_block hY1
     obtain⟨x,hx⟩:∃ x,Zj (t1,I,O)=x:=⟨_,rfl⟩
     have CT:=hide (Mn t1 ai ao ni ci no co I O Y (hI.later hbY) (hO.later hbY))
     rw[hx] at A2 CT
     have SD:Hid (Vx (t1,I,O) j h=if 0<(j:Int) then !decide (ni=0) else decide (ni=0) && decide (t1=h)):=by
      show _=_
      unfold Vx
      simp only
      rw[hI.1]
     clear hbY hY1 A ST ht hI hO sI hx
     by_cases hx0:x=0
     ·subst hx0
      have A3:Hid (Yl h 0 T=if (if 0<(j:Int) then !decide (ni=0) else decide (ni=0) && decide (t1=h))=false then 4 else Yl h (j+1) (T.drop (j+1))):=by
       have q:=unhide A2
       rw[if_neg (by decide),unhide SD] at q
       exact q
      clear A2 SD
      go_wp2_with fail
      rw[←hY]
      clear hY
      go_wp2_with fail
      refine (unhide CT).mono ?_
      rintro e w2 ⟨rfl,hb2⟩
      have hy2:=(hb2.block _ (lt_of_block (unhide HY1))).trans (unhide HY1)
      have HB2:=hide (bel_on (unhide HBY) hb2)
      have hh2:=((unhide HB2).block _ (lt_of_block (unhide HX1))).trans (unhide HX1)
      have z0:=Za hy2 0 _ rfl
      have z1:=Za hy2 1 _ rfl
      have z2:=Za hy2 2 _ rfl
      have zl:=lt_of_block hy2
      have k1:=Za hh2 1 _ rfl
      have kl:=lt_of_block hh2
      have HBF:=hide (bel_on (unhide HBX) (unhide HB2))
      clear hb2 hy2 hh2 y0 y1 y2 yl g0' g1 g2
      by_cases j0:j=0
      ·have gj:((j:Int) == 0)=true:=by simp[j0]
       have gj2:¬(0:Int)<(j:Int):=by omega
       by_cases n0:ni=0
       ·subst n0
        by_cases e1:t1=h
        ·subst e1
         have gt:(t1 != t1)=false:=by simp
         have R:Hid (Yl t1 0 T=Yl t1 (j+1) (T.drop (j+1))):=by show _=_;rw[unhide A3,if_neg gj2];simp
         clear A3 j0
         go_wp2
         go_roundw
         case rel=>exact⟨j+1,by omega,by go_num,R,HB2⟩
         case measure=>simp[intOf];omega
        ·have gt:(t1 != h)=true:=by simp[e1]
         have R:Hid (Yl h 0 T=4):=by show _=_;rw[unhide A3,if_neg gj2];simp[e1]
         clear A3 j0 e1
         go_wp2
         go_ret
         exact⟨by rw[unhide R];rfl,unhide HBF⟩
       ·have gn:((ni:Int) == 0)=false:=by simp[n0]
        have R:Hid (Yl h 0 T=4):=by show _=_;rw[unhide A3,if_neg gj2];simp[n0]
        clear A3 j0 n0
        go_wp2
        go_ret
        exact⟨by rw[unhide R];rfl,unhide HBF⟩
      ·have gj:((j:Int) == 0)=false:=by simp[j0]
       have gj2:(0:Int)<(j:Int):=by omega
       by_cases n0:ni=0
       ·subst n0
        have R:Hid (Yl h 0 T=4):=by show _=_;rw[unhide A3,if_pos gj2];simp
        clear A3 j0
        go_wp2
        go_ret
        exact⟨by rw[unhide R];rfl,unhide HBF⟩
       ·have gn:((ni:Int) == 0)=false:=by simp[n0]
        have R:Hid (Yl h 0 T=Yl h (j+1) (T.drop (j+1))):=by show _=_;rw[unhide A3,if_pos gj2];simp[n0]
        clear A3 j0 n0
        go_wp2
        go_roundw
        case rel=>exact⟨j+1,by omega,by go_num,R,HB2⟩
        case measure=>simp[intOf];omega
     ·have R:Hid (Yl h 0 T=x):=by show _=_;rw[unhide A2,if_pos hx0]
      have gx:(x != 0)=true:=by simp[hx0]
      clear A2 hx0 SD
      go_wp2_with fail
      rw[←hY]
      clear hY
      go_wp2_with fail
      refine (unhide CT).mono ?_
      rintro e w2 ⟨rfl,hb2⟩
      have HBF:=hide (bel_on (unhide HBX) (bel_on (unhide HBY) hb2))
      clear hb2
      go_wp2
      go_ret
      exact⟨by rw[unhide R];rfl,unhide HBF⟩
    ·have R:Hid (Yl h 0 T=0):=by show _=_;rw[unhide A,Ly h T j (by rw[unhide HZ];omega)]
     have HBF:=hide (bel_on (unhide HBX) (unhide HBr))
     clear A
     go_wp2
     go_ret
     exact⟨by rw[unhide R];rfl,unhide HBF⟩
theorem Xz(p h k n:Int)(a:Option Addr)(m c:Nat)(T:List TxD)(x:Int)(w:World)(hT:TxsAt w a m T)(hx:Xq (p,h,k,n,T)=x) :
  Calls Tryz.prog 8 #[.agg #[.int .i64 p,.int .i64 h,.int .i64 k,.int .i64 n,.slice a m c]] w fun e w'=>e = .returned (.int .i64 x)∧Below w.heap.size w w':=by
 subst hx
 cases hh:Xm p h k n with
 | false=>
  have e:Xq (p,h,k,n,T)=3:=by unfold Xq;simp only;rw[if_pos hh]
  rw[e]
  exact Ez p h k n a m c w hh
 | true=>exact Ey p h k n a m c T w hT hh
end Go.Proofs.YtepmnpapdknocaaGreatDoor
namespace Go.Proofs.YtepmnpapdknocaaGreatDoor.Bk
open Go.RowKit Go.Maps
theorem Kv{α : Type}{L M:List α}{j:Nat}(h1:j<L.length)(h2:j<M.length)(h:L.take j=M.take j)(e:L[j]=M[j]):L.take (j+1)=M.take (j+1):=by
 rw[List.take_succ_eq_append_getElem h1,List.take_succ_eq_append_getElem h2,h,e]
theorem Nt{α : Type}{L M:List α}{j:Nat}(h1:j<L.length)(h2:j<M.length)(e:L[j]≠M[j]):L≠M:=by
 intro h;subst h;exact e rfl
theorem Zez{s t:ByteArray}(h:s≠t):s.toList≠t.toList:=fun e=>h (by
 rw[ByteArray.toList_eq,ByteArray.toList_eq] at e
 have h4:s.data=t.data:=by rw[←Array.toList_inj];exact e
 cases s;cases t;simp_all)
theorem Ah{s t:ByteArray}(h:s≠t):(s.toList == t.toList)=false:=by simp[Zez h]
set_option maxRecDepth 10000 in
theorem Bh(b off b2 off2 n c d:Nat)(L M:List ByteArray)(o:Bool)(w:World)(hn:n≤maxLen)(hz:L.length=n)(hz2:M.length=n)
  (hc:∀ i (h:i<L.length),w.cell? ⟨b,off+i,none⟩=some (.string L[i])) (hc2:∀ i (h:i<M.length),w.cell? ⟨b2,off2+i,none⟩=some (.string M[i])) (ho:decide (L=M)=o) :
  Calls Tryz.prog 13 #[.slice (some ⟨b,off,none⟩) n c,.slice (some ⟨b2,off2,none⟩) n d] w fun e w'=>e = .returned (.bool o)∧Below w.heap.size w w':=by
 have HC:=hide hc
 have HC2:=hide hc2
 have HZ:=hide hz
 have HZ2:=hide hz2
 have HO:=hide ho
 have g0:((n:Int) != (n:Int))=false:=by simp
 unfold maxLen at hn
 clear hc hc2 hz hz2 ho
 go_enter Tryz.func13,Tryz.ntmps13
 go_wp2
 go_loopw [13] (fun i wr=>∃ j m:Nat,j≤n∧i = .int .i64 j∧wr=w.drewN m∧Hid (L.take j=M.take j)) (fun i _=>n - (intOf i).toNat)
 case atStart=>exact⟨0,0,Nat.zero_le _,rfl,rfl,rfl⟩
 case round=>
  obtain⟨j,m,hk,rfl,rfl,A⟩:=hrel
  by_cases hlt:j<n
  ·have h1:j<L.length:=by rw[unhide HZ];exact hlt
   have h2:j<M.length:=by rw[unhide HZ2];exact hlt
   have f1:=(unhide HC) j h1
   have f2:=(unhide HC2) j h2
   have TM:=hide (Kv h1 h2 (unhide A))
   have TN:=hide (Nt h1 h2)
   obtain⟨s,hs⟩:∃ s,L[j]=s:=⟨_,rfl⟩
   obtain⟨t,ht⟩:∃ t,M[j]=t:=⟨_,rfl⟩
   rw[hs] at f1
   rw[ht] at f2
   rw[hs,ht] at TM TN
   clear hs ht A
   by_cases e:s=t
   ·subst e
    have R:=hide ((unhide TM) rfl)
    clear TM TN
    go_wp2
    go_quiet (fail)
    go_wp2
    go_roundw
    case rel=>exact⟨j+1,m+nq,by omega,by go_num,rfl,R⟩
    case measure=>simp[intOf];omega
   ·have R:Hid (o=false):=by show _=_;rw[←unhide HO];exact decide_eq_false ((unhide TN) e)
    have g:=Ah e
    clear TM TN e
    go_wp2
    go_quiet (fail)
    go_wp2
    go_ret
    exact⟨by rw[unhide R];rfl,by simp only[World.drewN_drewN];exact below_dw _ _⟩
  ·have R:Hid (o=true):=by
    have h:=unhide A
    rw[List.take_of_length_le (by rw[unhide HZ];omega),List.take_of_length_le (by rw[unhide HZ2];omega)] at h
    show _=_;rw[←unhide HO];exact decide_eq_true h
   clear A
   go_wp2
   go_ret
   exact⟨by rw[unhide R];rfl,below_dw _ _⟩
theorem Bg(a a2:Option Addr)(c d:Nat)(w:World) :
  Calls Tryz.prog 13 #[.slice a 0 c,.slice a2 0 d] w fun e w'=>e = .returned (.bool true)∧Below w.heap.size w w':=by
 go_enter Tryz.func13,Tryz.ntmps13
 go_wp2
 refine wp_loop_rounds 1 ?_
 rw[rounds_succ]
 go_wp2
 go_ret
 exact⟨rfl,Below.refl _ _⟩
theorem Zaw(a a2:Option Addr)(n m c d:Nat)(w:World)(h:n≠m) :
  Calls Tryz.prog 13 #[.slice a n c,.slice a2 m d] w fun e w'=>e = .returned (.bool false)∧Below w.heap.size w w':=by
 have g:((n:Int) != (m:Int))=true:=by simp;omega
 go_enter Tryz.func13,Tryz.ntmps13
 go_wp2
 go_ret
 exact⟨rfl,Below.refl _ _⟩
theorem eqStr_is(a a2:Option Addr)(n m c d:Nat)(L M:List ByteArray)(o:Bool)(w:World)(hn:n≤maxLen)(h:TextsAt w a n L)(h2:TextsAt w a2 m M)(ho:decide (L=M)=o) :
  Calls Tryz.prog 13 #[.slice a n c,.slice a2 m d] w fun e w'=>e = .returned (.bool o)∧Below w.heap.size w w':=by
 by_cases e:n=m
 ·subst e
  by_cases h0:n=0
  ·subst h0
   have e1:L=[]:=List.length_eq_zero_iff.1 h.1
   have e2:M=[]:=List.length_eq_zero_iff.1 h2.1
   subst e1 e2
   have:o=true:=by rw[←ho];rfl
   subst this
   exact Bg a a2 c d w
  ·obtain⟨b,off,rfl,hc⟩:=h.2 (by omega)
   obtain⟨b2,off2,rfl,hc2⟩:=h2.2 (by omega)
   exact Bh b off b2 off2 n c d L M o w hn h.1 h2.1 hc hc2 ho
 ·have:o=false:=by
   rw[←ho]
   exact decide_eq_false (fun e2=>e (by rw[←h.1,←h2.1,e2]))
  subst this
  exact Zaw a a2 n m c d w e
set_option maxRecDepth 10000 in
theorem Bn(b off b2 off2 n c d:Nat)(L M:List Int)(o:Bool)(w:World)(hn:n≤maxLen)(hz:L.length=n)(hz2:M.length=n)
  (hc:∀ i (h:i<L.length),w.cell? ⟨b,off+i,none⟩=some (.int .i64 L[i])) (hc2:∀ i (h:i<M.length),w.cell? ⟨b2,off2+i,none⟩=some (.int .i64 M[i])) (ho:decide (L=M)=o) :
  Calls Tryz.prog 12 #[.slice (some ⟨b,off,none⟩) n c,.slice (some ⟨b2,off2,none⟩) n d] w fun e w'=>e = .returned (.bool o)∧Below w.heap.size w w':=by
 have HC:=hide hc
 have HC2:=hide hc2
 have HZ:=hide hz
 have HZ2:=hide hz2
 have HO:=hide ho
 have g0:((n:Int) != (n:Int))=false:=by simp
 unfold maxLen at hn
 clear hc hc2 hz hz2 ho
 go_enter Tryz.func12,Tryz.ntmps12
 go_wp2
 go_loopw [13] (fun i wr=>∃ j m:Nat,j≤n∧i = .int .i64 j∧wr=w.drewN m∧Hid (L.take j=M.take j)) (fun i _=>n - (intOf i).toNat)
 case atStart=>exact⟨0,0,Nat.zero_le _,rfl,rfl,rfl⟩
 case round=>
  obtain⟨j,m,hk,rfl,rfl,A⟩:=hrel
  by_cases hlt:j<n
  ·have h1:j<L.length:=by rw[unhide HZ];exact hlt
   have h2:j<M.length:=by rw[unhide HZ2];exact hlt
   have f1:=(unhide HC) j h1
   have f2:=(unhide HC2) j h2
   have TM:=hide (Kv h1 h2 (unhide A))
   have TN:=hide (Nt h1 h2)
   obtain⟨s,hs⟩:∃ s,L[j]=s:=⟨_,rfl⟩
   obtain⟨t,ht⟩:∃ t,M[j]=t:=⟨_,rfl⟩
   rw[hs] at f1
   rw[ht] at f2
   rw[hs,ht] at TM TN
   clear hs ht A
   by_cases e:s=t
   ·subst e
    have R:=hide ((unhide TM) rfl)
    have g:(s != s)=false:=by simp
    clear TM TN
    go_wp2
    go_quiet (fail)
    go_wp2
    go_roundw
    case rel=>exact⟨j+1,m+nq,by omega,by go_num,rfl,R⟩
    case measure=>simp[intOf];omega
   ·have R:Hid (o=false):=by show _=_;rw[←unhide HO];exact decide_eq_false ((unhide TN) e)
    have g:(s != t)=true:=by simp[e]
    clear TM TN
    go_wp2
    go_quiet (fail)
    go_wp2
    go_ret
    exact⟨by rw[unhide R];rfl,by simp only[World.drewN_drewN];exact below_dw _ _⟩
  ·have R:Hid (o=true):=by
    have h:=unhide A
    rw[List.take_of_length_le (by rw[unhide HZ];omega),List.take_of_length_le (by rw[unhide HZ2];omega)] at h
    show _=_;rw[←unhide HO];exact decide_eq_true h
   clear A
   go_wp2
   go_ret
   exact⟨by rw[unhide R];rfl,below_dw _ _⟩
theorem Bm(a a2:Option Addr)(c d:Nat)(w:World) :
  Calls Tryz.prog 12 #[.slice a 0 c,.slice a2 0 d] w fun e w'=>e = .returned (.bool true)∧Below w.heap.size w w':=by
 go_enter Tryz.func12,Tryz.ntmps12
 go_wp2
 refine wp_loop_rounds 1 ?_
 rw[rounds_succ]
 go_wp2
 go_ret
 exact⟨rfl,Below.refl _ _⟩
theorem Zax(a a2:Option Addr)(n m c d:Nat)(w:World)(h:n≠m) :
  Calls Tryz.prog 12 #[.slice a n c,.slice a2 m d] w fun e w'=>e = .returned (.bool false)∧Below w.heap.size w w':=by
 have g:((n:Int) != (m:Int))=true:=by simp;omega
 go_enter Tryz.func12,Tryz.ntmps12
 go_wp2
 go_ret
 exact⟨rfl,Below.refl _ _⟩
theorem eqInt_is(a a2:Option Addr)(n m c d:Nat)(L M:List Int)(o:Bool)(w:World)(hn:n≤maxLen)(h:IntsAt w a n L)(h2:IntsAt w a2 m M)(ho:decide (L=M)=o) :
  Calls Tryz.prog 12 #[.slice a n c,.slice a2 m d] w fun e w'=>e = .returned (.bool o)∧Below w.heap.size w w':=by
 by_cases e:n=m
 ·subst e
  by_cases h0:n=0
  ·subst h0
   have e1:L=[]:=List.length_eq_zero_iff.1 h.1
   have e2:M=[]:=List.length_eq_zero_iff.1 h2.1
   subst e1 e2
   have:o=true:=by rw[←ho];rfl
   subst this
   exact Bm a a2 c d w
  ·obtain⟨b,off,rfl,hc⟩:=h.2 (by omega)
   obtain⟨b2,off2,rfl,hc2⟩:=h2.2 (by omega)
   exact Bn b off b2 off2 n c d L M o w hn h.1 h2.1 hc hc2 ho
 ·have:o=false:=by
   rw[←ho]
   exact decide_eq_false (fun e2=>e (by rw[←h.1,←h2.1,e2]))
  subst this
  exact Zax a a2 n m c d w e
open Go.RowKit Go.Maps
theorem Eb(z:Array Value)(n:Nat):(Builtin.zeroCells z n).size=n*z.size:=by simp[Builtin.zeroCells]
theorem Zdu(n:Nat)(w:World)(hn:n≤240) :
  Calls Tryz.prog 149 #[.slice none 0 0,.int .i64 n] w fun e w'=>∃ v,e = .returned v∧w'.ownsRow w.heap.size 9 1 v 0 []∧Below w.heap.size w w':=by
 obtain⟨i0,hi,hz0,hz1,hz2⟩:=info_parts Tryz.info9
 by_cases h:n=0
 ·subst h
  exact (Any8.slices_Grow_room Tryz.growS none 0 0 0 w (Nat.le_refl _) (by omega) (by omega) (by omega)).mono fun e w' ⟨h1,h2⟩=>⟨_,h1,⟨rfl,Or.inl ⟨rfl,rfl⟩⟩,h2 ▸ Below.refl _ _⟩
 ·refine (Any8.slices_Grow_grow Tryz.growS i0 (.string ⟨#[]⟩) hi hz0 (by rw[hz1];decide) none 0 0 n [] w (Nat.le_refl _) (by omega) (by rw[hz2];omega) (by omega) (by simp) (fun _=>rfl) (fun a h=>by cases h)).mono fun e w' ⟨h1,h2⟩=>⟨_,h1,?_,?_⟩
  ·rw[h2]
   have hge:=grownCap_ge w (0+n) 0 (Tryz.growS_ren.t 25)
   have hle:=grownCap_le_maxLen w (0+n) 0 (Tryz.growS_ren.t 25) (by unfold maxLen;omega)
   refine⟨rfl,Or.inr ⟨w.heap.size,_,_,rfl,Nat.le_refl _,heap_alloc_new _ _,Nat.zero_le _,hle,?_,rfl⟩⟩
   simp only[Array.size_append,Eb,List.size_toArray,List.length_nil]
   show 0+(0+n - 0)*1+_*1=_*1
   omega
  ·rw[h2]
   exact⟨rfl,rfl,rfl,by simp,fun k hk=>Below.heap_alloc w.drew _ k hk⟩
theorem TextsAt.news{w:World}{x:Addr}{len:Nat}{L:List ByteArray}(h:TextsAt w (some x) len L)(j:Nat)(u:Value)(hj:(L.map Value.string)[j]? = some u):w.cell? (x.add j)=some u:=by
 have hjl:j<L.length:=by
  rcases Nat.lt_or_ge j L.length with h|h
  ·exact h
  ·rw[List.getElem?_eq_none (by simpa using h)] at hj;cases hj
 have hz:=h.1
 obtain⟨b,off,hx,hc⟩:=h.2 (by omega)
 cases hx
 have hadd:(⟨b,off,none⟩:Addr).add j=⟨b,off+j,none⟩:=by unfold Addr.add;split <;> simp_all
 rw[hadd,hc j hjl]
 simpa[hjl] using hj
set_option maxRecDepth 100000 in
theorem Bp(B:Nat)(ak:Option Addr)(y:Addr)(lenk capk len cap:Nat)(k l:List ByteArray)(w:World)(hsum:lenk+len≤240)(hK:TextsAt w ak lenk k)(hL:TextsAt w (some y) len l)
  (hkn:ak=none→lenk=0∧capk=0)
  (c0:w.cell? ⟨B,0,none⟩=some (.slice ak lenk capk)) (c1:w.cell? ⟨B,1,none⟩=some (.slice (some y) len cap)) :
  Calls Tryz.prog 119 #[.slice (some ⟨B,0,none⟩) 2 2] w fun e w'=>∃ a' cap',e = .returned (.slice a' (lenk+len) cap')∧TextsAt w' a' (lenk+len) (k++l)∧SlOk a' (lenk+len) cap'∧(∀ y,a'=some y→w.heap.size≤y.block)∧Below w.heap.size w w':=by
 obtain⟨i0,hi,hz0,hz1,hz2⟩:=info_parts Tryz.info9
 have hBl:B<w.heap.size:=World.block_lt_of_cell? _ _ c0
 have hzk:=hK.1
 have hzl:=hL.1
 have HK:=hide hK
 have HL:=hide hL
 have HKN:=hide hkn
 have HZK:=hide hzk
 have HZL:=hide hzl
 clear hK hL hkn hzk hzl
 go_enter Tryz.func119,Tryz.ntmps119
 go_wp2
 refine wp_loop_rounds 3 ?_
 rw[rounds_succ]
 go_wp2
 rw[rounds_succ]
 go_wp2
 rw[rounds_succ]
 have GR:=hide (Zdu (lenk+len) w hsum)
 rw[Int.natCast_add] at GR
 go_wp2_with fail
 refine (unhide GR).mono ?_
 rintro e w1 ⟨v,rfl,hw1,hb1⟩
 have HW1:=hide hw1
 have HB1:=hide hb1
 have c01:=(hb1.cell (p:=⟨B,0,none⟩) hBl).trans c0
 have c11:=(hb1.cell (p:=⟨B,1,none⟩) hBl).trans c1
 clear hw1 hb1
 rcases ak with _|x
 ·go_wp2
  refine wp_loop_rounds 3 ?_
  rw[rounds_succ]
  obtain⟨rfl,rfl⟩:=(unhide HKN) (by trivial)
  have ek:k=[]:=List.length_eq_zero_iff.1 (unhide HZK)
  subst ek
  go_wp2_with (at_builtin;refine wpList_append_own_none rfl _ _ 22 rfl w.heap.size 9 i0 1 Tryz.underlying22 hi _ _ _ rfl (unhide HW1) rfl ?_)
  have HW2:Hid (w1.ownsRow w.heap.size 9 1 v (0+0) (([]:List ByteArray).map Value.string)):=unhide HW1
  have HB2:=HB1
  have c02:=c01
  have c12:=c11
  clear c01 c11
  go_wp2
  rw[rounds_succ]
  go_wp2_with (at_builtin;refine wpList_append_own _ rfl _ _ 22 rfl w.heap.size 9 i0 (.string ⟨#[]⟩) 1 16 Tryz.underlying22 hi hz0 hz1 hz2 rfl (by decide) _ _ _ rfl (unhide HW2) y len cap (l.map Value.string) rfl (by rw[List.length_map,unhide HZL];omega) (fun j u hj=>((unhide HL).later (unhide HB2)).news j u hj) (fun u hu=>by obtain⟨x,_,rfl⟩:=List.mem_map.1 hu;rfl) (by unfold maxLen;omega) (by omega) (unhide HB2).size ?_;intro v2 w3 hown3 hgrow3 _)
  have HW3:Hid (w3.ownsRow w.heap.size 9 1 v2 ((0+0)+len) ((([]:List ByteArray)++l).map Value.string)):=by rw[List.map_append];exact hown3
  have HB3:=hide ((unhide HB2).grown hgrow3 (unhide HB2).size (own_ge (unhide HW2)))
  clear hown3 hgrow3
  obtain⟨a',cap',hv,s1,s2,s3,hO⟩:=Xv (unhide HW3)
  have HGE:Hid (∀ y,a'=some y→w.heap.size≤y.block):=fun y e=>own_ge (unhide HW3) y.block (by rw[hv,e];rfl)
  have HV:=hide hv
  have HO2:=hide hO
  have HOK:Hid (SlOk a' ((0+0)+len) cap'):=⟨s1,s2,s3⟩
  clear hv hO c02 c12 s1 s2 s3
  go_wp2
  rw[rounds_succ]
  go_wp2
  go_ret
  refine⟨a',cap',?_,?_,?_,unhide HGE,unhide HB3⟩
  ·rw[unhide HV];simp
  ·simpa using unhide HO2
  ·simpa using unhide HOK
 ·go_wp2
  refine wp_loop_rounds 3 ?_
  rw[rounds_succ]
  go_wp2_with (at_builtin;refine wpList_append_own _ rfl _ _ 22 rfl w.heap.size 9 i0 (.string ⟨#[]⟩) 1 16 Tryz.underlying22 hi hz0 hz1 hz2 rfl (by decide) _ _ _ rfl (unhide HW1) x lenk capk (k.map Value.string) rfl (by rw[List.length_map,unhide HZK];omega) (fun j u hj=>((unhide HK).later (unhide HB1)).news j u hj) (fun u hu=>by obtain⟨x,_,rfl⟩:=List.mem_map.1 hu;rfl) (by unfold maxLen;omega) (by omega) (unhide HB1).size ?_;intro v1 w2 hown2 hgrow2 _)
  have HW2:Hid (w2.ownsRow w.heap.size 9 1 v1 (0+lenk) (k.map Value.string)):=hide (by simpa using hown2)
  have HB2:=hide ((unhide HB1).grown hgrow2 (unhide HB1).size (own_ge (unhide HW1)))
  have c02:=((unhide HB2).cell (p:=⟨B,0,none⟩) hBl).trans c0
  have c12:=((unhide HB2).cell (p:=⟨B,1,none⟩) hBl).trans c1
  clear hown2 hgrow2
  clear c01 c11
  go_wp2
  rw[rounds_succ]
  go_wp2_with (at_builtin;refine wpList_append_own _ rfl _ _ 22 rfl w.heap.size 9 i0 (.string ⟨#[]⟩) 1 16 Tryz.underlying22 hi hz0 hz1 hz2 rfl (by decide) _ _ _ rfl (unhide HW2) y len cap (l.map Value.string) rfl (by rw[List.length_map,unhide HZL];omega) (fun j u hj=>((unhide HL).later (unhide HB2)).news j u hj) (fun u hu=>by obtain⟨x,_,rfl⟩:=List.mem_map.1 hu;rfl) (by unfold maxLen;omega) (by omega) (unhide HB2).size ?_;intro v2 w3 hown3 hgrow3 _)
  have HW3:Hid (w3.ownsRow w.heap.size 9 1 v2 ((0+lenk)+len) ((k++l).map Value.string)):=by rw[List.map_append];exact hown3
  have HB3:=hide ((unhide HB2).grown hgrow3 (unhide HB2).size (own_ge (unhide HW2)))
  clear hown3 hgrow3
  obtain⟨a',cap',hv,s1,s2,s3,hO⟩:=Xv (unhide HW3)
  have HGE:Hid (∀ y,a'=some y→w.heap.size≤y.block):=fun y e=>own_ge (unhide HW3) y.block (by rw[hv,e];rfl)
  have HV:=hide hv
  have HO2:=hide hO
  have HOK:Hid (SlOk a' ((0+lenk)+len) cap'):=⟨s1,s2,s3⟩
  clear hv hO c02 c12 s1 s2 s3
  go_wp2
  rw[rounds_succ]
  go_wp2
  go_ret
  refine⟨a',cap',?_,?_,?_,unhide HGE,unhide HB3⟩
  ·rw[unhide HV];simp
  ·simpa using unhide HO2
  ·simpa using unhide HOK
open Go.RowKit Go.Maps
theorem Gm{s:ByteArray}{L:List ByteArray}{k:Nat}(h:k<L.length)(h0:place s (L.take k)=0)(e:L[k]≠s):place s (L.take (k+1))=0:=by
 rw[List.take_succ_eq_append_getElem h,Xx,if_pos h0]
 have:place s [L[k]]=0:=by rw[place_zero];simp;exact fun h2=>e h2.symm
 rw[this];rfl
theorem Ld{s:ByteArray}{L:List ByteArray}{k:Nat}(h:k<L.length)(h0:place s (L.take k)=0)(e:L[k]=s):place s L=k+1:=by
 have h1:place s (L.take (k+1))=k+1:=by
  rw[List.take_succ_eq_append_getElem h,Xx,if_pos h0,e]
  simp[place];omega
 rw[Qj] at h1
 split at h1
 ·exact h1
 ·omega
def idx(s:ByteArray)(L:List ByteArray):Int:=(place s L:Int) - 1
set_option maxRecDepth 10000 in
theorem Zdq(a:Option Addr)(n c:Nat)(L:List ByteArray)(s:ByteArray)(x:Int)(w:World)(hn:n≤maxLen)(h:TextsAt w a n L)(hx:idx s L=x) :
  Calls Tryz.prog 35 #[.slice a n c,.string s] w fun e w'=>e = .returned (.int .i64 x)∧Below w.heap.size w w':=by
 have HT:=hide h
 have HX:=hide hx
 unfold maxLen at hn
 clear h hx
 go_enter Tryz.func35,Tryz.ntmps35
 go_wp2
 go_loop [8] (fun i=>∃ j:Nat,j≤n∧i = .int .i64 j∧Hid (place s (L.take j)=0)) (fun i=>n - (intOf i).toNat)
 case atStart=>exact⟨0,Nat.zero_le _,rfl,rfl⟩
 case round=>
  obtain⟨j,hk,rfl,A⟩:=hrel
  by_cases hlt:j<n
  ·obtain⟨hz,hcs⟩:=unhide HT
   obtain⟨b,off,rfl,hc⟩:=hcs (by omega)
   have h1:j<L.length:=by omega
   have f:=hc j h1
   have PS:=hide (Gm h1 (unhide A))
   have PH:=hide (Ld h1 (unhide A))
   obtain⟨t,ht⟩:∃ t,L[j]=t:=⟨_,rfl⟩
   rw[ht] at f PS PH
   clear ht A hc hcs hz
   by_cases e:t=s
   ·subst e
    have R:Hid (x=j):=by show _=_;rw[←unhide HX];unfold idx;rw[(unhide PH) rfl];omega
    clear PS PH
    go_wp2
    go_ret
    exact⟨by rw[unhide R];rfl,Below.refl _ _⟩
   ·have R:=hide ((unhide PS) e)
    have g:=Ah (fun h:s=t=>e h.symm)
    clear PS PH e
    go_wp2
    go_round
    case rel=>exact⟨j+1,by omega,by go_num,R⟩
    case measure=>simp[intOf];omega
  ·have R:Hid (x = -1):=by
    have h:=unhide A
    rw[List.take_of_length_le (by rw[(unhide HT).1];omega)] at h
    show _=_;rw[←unhide HX];unfold idx;rw[h];rfl
   clear A
   go_wp2
   go_ret
   exact⟨by rw[unhide R];rfl,Below.refl _ _⟩
open Go.RowKit Go.Maps
theorem Zhq{L:List ByteArray}{j:Nat}(h:j<L.length):(idx L[j] L<(j:Int))↔place L[j] (L.take j)≠0:=by
 have h1:=Zcx h
 unfold idx
 rw[Qj]
 by_cases h2:place L[j] L≤j
 ·rw[if_pos h2];constructor
  ·intro _;omega
  ·intro _;omega
 ·rw[if_neg h2];constructor
  ·intro h3;omega
  ·intro h3;exact absurd rfl h3
theorem Zhr(s:ByteArray)(L:List ByteArray) : -1≤idx s L∧idx s L<L.length:=by
 have:=Dw s L
 unfold idx;omega
set_option maxRecDepth 10000 in
theorem rcheck_is(a:Option Addr)(n c:Nat)(L:List ByteArray)(w:World)(h:TextsAt w a n L)(x:Int)(hx:bkChk L=x) :
  Calls Tryz.prog 9 #[.agg #[.slice a n c]] w fun e w'=>e = .returned (.int .i64 x)∧Below w.heap.size w w':=by
 have hb:=bel_new w (.cells #[.slice a n c] 24)
 have c0:=one_new w (.slice a n c) 24
 obtain⟨W,hW⟩:∃ W,W=w.alloc (.cells #[.slice a n c] 24):=⟨_,rfl⟩
 have hz:=h.1
 by_cases h1:120<n
 ·have e:x=2:=by rw[←hx];unfold bkChk;rw[if_pos (by omega)]
  subst e
  have g:(120:Int)<(n:Int):=by omega
  have HB:=hide hb
  clear h hx h1 hz hb c0 hW
  go_enter Tryz.func9,Tryz.ntmps9
  go_wp2
  go_ret
  exact⟨rfl,unhide HB⟩
 ·have g:¬(120:Int)<(n:Int):=by omega
  have HX:Hid (Jf [] L=x):=by show _=_;rw[←hx];unfold bkChk;rw[if_neg (by omega)]
  rw[←hW] at hb c0
  have HB:=hide hb
  have HT:=hide (h.later hb)
  have C0:=hide c0
  have hn:n≤120:=by omega
  clear h hx h1 hb c0 hz
  go_enter Tryz.func9,Tryz.ntmps9
  go_wp2
  rw[←hW]
  clear hW
  go_loopw [12] (fun i wr=>∃ j:Nat,j≤n∧i = .int .i64 j∧Below W.heap.size W wr∧Hid (Jf (L.take j) (L.drop j)=x)) (fun i _=>n - (intOf i).toNat)
  case atStart=>exact⟨0,Nat.zero_le _,rfl,Below.refl _ _,unhide HX⟩
  case round=>
   obtain⟨j,hk,rfl,hbw,A⟩:=hrel
   have HBW:=hide hbw
   by_cases hlt:j<n
   ·have ht:=(unhide HT).later hbw
    obtain⟨hz,hcs⟩:=ht
    obtain⟨b,off,rfl,hc⟩:=hcs (by omega)
    have hlj:j<L.length:=by omega
    have f:=hc j hlj
    have c1:=cell_later hbw (unhide C0)
    have hl1:w.heap.size<wr.heap.size:=World.block_lt_of_cell? _ _ c1
    have S:=Zgr hlj
    rw[unhide A] at S
    have IL:=Zhq hlj
    have IG:=Zhr L[j] L
    obtain⟨s,hs⟩:∃ s,L[j]=s:=⟨_,rfl⟩
    rw[hs] at f S IL IG
    have IX:=hide (Zdq (some ⟨b,off,none⟩) n c L s (idx s L) wr (by unfold maxLen;omega) ((unhide HT).later hbw) rfl)
    obtain⟨q,hq⟩:∃ q,idx s L=q:=⟨_,rfl⟩
    rw[hq] at IL IX IG
    clear hs hq hbw A hc hcs hz
    by_cases h2:4000<s.size
    ·rw[if_pos h2] at S
     subst S
     have g2:(4000:Int)<(s.size:Int):=by omega
     clear h2 IL IG
     go_wp2
     go_ret
     exact⟨rfl,bel_on (unhide HB) (unhide HBW)⟩
    ·rw[if_neg h2] at S
     have g2:¬(4000:Int)<(s.size:Int):=by omega
     by_cases h3:place s (L.take j)≠0
     ·rw[if_pos h3] at S
      subst S
      have g3:=IL.2 h3
      clear h2 h3 IL IG
      go_wp2_with fail
      refine (unhide IX).mono ?_
      rintro e w2 ⟨rfl,hb2⟩
      have HB2:=hide (bel_on (bel_on (unhide HB) (unhide HBW)) hb2)
      clear hb2
      go_wp2
      go_ret
      exact⟨rfl,unhide HB2⟩
     ·rw[if_neg h3] at S
      have HS:Hid (Jf (L.take (j+1)) (L.drop (j+1))=x):=S.symm
      have g3:¬q<(j:Int):=fun h=>h3 (IL.1 h)
      clear h2 h3 IL IG S
      go_wp2_with fail
      refine (unhide IX).mono ?_
      rintro e w2 ⟨rfl,hb2⟩
      have HB2:=hide (bel_on (unhide HBW) hb2)
      clear hb2
      go_wp2
      go_roundw
      case rel=>exact⟨j+1,by omega,by go_num,unhide HB2,HS⟩
      case measure=>simp[intOf];omega
   ·have R:Hid (x=0):=by show _=_;rw[←unhide A];exact Zel (by rw[(unhide HT).1];omega)
    clear A hbw
    go_wp2
    go_ret
    exact⟨by rw[unhide R];rfl,bel_on (unhide HB) (unhide HBW)⟩
set_option maxRecDepth 10000 in
theorem Zdi(a:Option Addr)(n c:Nat)(L M:List ByteArray)(s:ByteArray)(k x:Int)(w:World)(hL:L.length≤120)(h:TextsAt w a n L)(hs:SlOk a n c)(hx:nm L s=(M,k,x)) :
  Calls Tryz.prog 82 #[.slice a n c,.string s] w fun e w'=>(∃ a' n' c',e = .returned (.tuple #[.slice a' n' c',.int .i64 k,.int .i64 x])∧TextsAt w' a' n' M∧SlOk a' n' c'∧(a'=a∧n'=n∨∀ y,a'=some y→w.heap.size≤y.block))∧Below w.heap.size w w':=by
 have hz:=h.1
 by_cases h1:4000<s.size
 ·have e1:nm L s=([],0,2):=by unfold nm;rw[if_pos h1]
  rw[e1] at hx
  obtain⟨rfl,hn2⟩:=Prod.mk.injEq .. ▸ hx
  obtain⟨rfl,rfl⟩:=Prod.mk.injEq .. ▸ hn2
  have g:(4000:Int)<(s.size:Int):=by omega
  clear hx hn2 e1 h1 h hs hL hz
  go_enter Tryz.func82,Tryz.ntmps82
  go_wp2
  go_ret3
  exact⟨⟨_,_,_,rfl,TextsAt.nil _ _,SlOk.nil,Or.inr (fun y e=>by cases e)⟩,Below.refl _ _⟩
 ·have g:¬(4000:Int)<(s.size:Int):=by omega
  have hn:n≤120:=by omega
  have HX:Hid ((if place s L≠0 then (L,(place s L:Int),0) else if 120≤L.length then ([],0,12) else (L++[s],(L.length:Int)+1,0))=(M,k,x)):=by
   show _=_
   rw[←hx];unfold nm;rw[if_neg h1]
  have HT:=hide h
  have HS:=hide hs
  clear h hs hx h1 hz hL
  go_enter Tryz.func82,Tryz.ntmps82
  go_wp2
  go_loop [14] (fun i=>∃ j:Nat,j≤n∧i = .int .i64 j∧Hid (place s (L.take j)=0)) (fun i=>n - (intOf i).toNat)
  case atStart=>exact⟨0,Nat.zero_le _,rfl,rfl⟩
  case round=>
   obtain⟨j,hk,rfl,A⟩:=hrel
   by_cases hlt:j<n
   ·obtain⟨hz,hcs⟩:=unhide HT
    obtain⟨b,off,rfl,hc⟩:=hcs (by omega)
    have hlj:j<L.length:=by omega
    have f:=hc j hlj
    have PS:=hide (Gm hlj (unhide A))
    have PH:=hide (Ld hlj (unhide A))
    obtain⟨t,ht⟩:∃ t,L[j]=t:=⟨_,rfl⟩
    rw[ht] at f PS PH
    clear ht A hc hcs hz
    by_cases e:t=s
    ·subst e
     have e2:=(unhide PH) rfl
     have q:=unhide HX
     rw[e2,if_pos (by omega)] at q
     have q1:L=M:=by injection q
     have q2:((j+1:Nat):Int)=k:=by injection q with _ q;injection q
     have q3:(0:Int)=x:=by injection q with _ q;injection q
     subst q1 q3
     have q4:k=(j:Int)+1:=by omega
     subst q4
     clear PS PH q q2 e2
     go_wp2
     go_ret3
     exact⟨⟨_,_,_,rfl,unhide HT,unhide HS,Or.inl ⟨rfl,rfl⟩⟩,Below.refl _ _⟩
    ·have R:=hide ((unhide PS) e)
     have g2:=Ah e
     clear PS PH e
     go_wp2
     go_round
     case rel=>exact⟨j+1,by omega,by go_num,R⟩
     case measure=>simp[intOf];omega
   ·have p0:=unhide A
    rw[List.take_of_length_le (by rw[(unhide HT).1];omega)] at p0
    have q:=unhide HX
    rw[p0,if_neg (by omega)] at q
    have hzl:=(unhide HT).1
    by_cases h2:120≤L.length
    ·rw[if_pos h2] at q
     obtain⟨rfl,hn2⟩:=Prod.mk.injEq .. ▸ q
     obtain⟨rfl,rfl⟩:=Prod.mk.injEq .. ▸ hn2
     have g2:(120:Int)≤(n:Int):=by omega
     clear q hn2 p0 h2 A hzl
     go_wp2
     go_ret3
     exact⟨⟨_,_,_,rfl,TextsAt.nil _ _,SlOk.nil,Or.inr (fun y e=>by cases e)⟩,Below.refl _ _⟩
    ·rw[if_neg h2] at q
     obtain⟨rfl,hn2⟩:=Prod.mk.injEq .. ▸ q
     obtain⟨rfl,rfl⟩:=Prod.mk.injEq .. ▸ hn2
     have g2:¬(120:Int)≤(n:Int):=by omega
     have hb1:=bel_new w (.cells #[.string s] 9)
     have hs1:(w.alloc (.cells #[.string s] 9)).heap.size=w.heap.size+1:=by simp
     have hb2:=bel_new (w.alloc (.cells #[.string s] 9)) (.cells #[.slice a n c,.slice (some ⟨w.heap.size,0,none⟩) 1 1] 22)
     have c0:((w.alloc (.cells #[.string s] 9)).alloc (.cells #[.slice a n c,.slice (some ⟨w.heap.size,0,none⟩) 1 1] 22)).cell? ⟨w.heap.size+1,0,none⟩=some (.slice a n c):=by rw[←hs1,World.cell?_alloc_at _ _ _ _ rfl];rfl
     have c1:((w.alloc (.cells #[.string s] 9)).alloc (.cells #[.slice a n c,.slice (some ⟨w.heap.size,0,none⟩) 1 1] 22)).cell? ⟨w.heap.size+1,1,none⟩=some (.slice (some ⟨w.heap.size,0,none⟩) 1 1):=by rw[←hs1,World.cell?_alloc_at _ _ _ _ rfl];rfl
     have CT:=hide (Bp (w.heap.size+1) a ⟨w.heap.size,0,none⟩ n c 1 1 L [s] _ (by omega) ((unhide HT).later (bel_on hb1 hb2)) ((Zdc w s).later hb2) (unhide HS).2.2 c0 c1)
     have HB:=hide (bel_on hb1 hb2)
     have hzz:=hide hzl
     clear q hn2 p0 h2 A hb1 hb2 hs1 c0 c1 hzl
     go_wp2_with fail
     refine (unhide CT).mono ?_
     rintro e w2 ⟨a',cap',rfl,t1,t2,t3,hb2⟩
     have T3:Hid (∀ y,a'=some y→w.heap.size≤y.block):=fun y e=>Nat.le_trans (unhide HB).size (t3 y e)
     have HB2:=hide (bel_on (unhide HB) hb2)
     have T1:=hide t1
     have T2:=hide t2
     clear t1 t2 t3 hb2
     go_wp2
     go_ret3
     refine⟨⟨a',n+1,cap',?_,unhide T1,unhide T2,Or.inr (unhide T3)⟩,unhide HB2⟩
     rw[unhide hzz];rfl
end Go.Proofs.YtepmnpapdknocaaGreatDoor.Bk
