import Derived.Test.YtpikejjiignchaaGreatDoorG22
set_option maxHeartbeats 12800000
namespace Go.Proofs.YtpikejjiignchaaGreatDoor
open Go.RowKit
theorem Lj(p h k n:Int):Xx p h k n=true↔(0≤p∧p≤120)∧(1≤h∧h≤1000)∧(1≤k∧k≤1000)∧(0≤n∧n≤1000000000):=by
 unfold Xx
 simp[Bool.and_eq_true,decide_eq_true_eq]
set_option maxRecDepth 10000 in
theorem Zdh(p h k n:Int)(a:Option Addr)(m c:Nat)(w:World)(hh:Xx p h k n=false) :
  Calls Tryz.prog 36 #[.agg #[.int .i64 p,.int .i64 h,.int .i64 k,.int .i64 n,.slice a m c]] w fun e w'=>e = .returned (.int .i64 3)∧Below w.heap.size w w':=by
 have HB:=Zb (Zg w (.cells #[.int .i64 p,.int .i64 h,.int .i64 k,.int .i64 n,.slice a m c] 68))
 have hh2:¬((0≤p∧p≤120)∧(1≤h∧h≤1000)∧(1≤k∧k≤1000)∧(0≤n∧n≤1000000000)):=fun q=>by rw[(Lj p h k n).2 q] at hh;cases hh
 clear hh
 by_cases c0:p<0
 ·clear hh2
  go_enter Tryz.func36,Tryz.ntmps36
  go_wp2
  go_ret
  exact⟨rfl,Za HB⟩
 by_cases c1:120<p
 ·clear hh2
  go_enter Tryz.func36,Tryz.ntmps36
  go_wp2
  go_ret
  exact⟨rfl,Za HB⟩
 by_cases c2:h<1
 ·clear hh2
  go_enter Tryz.func36,Tryz.ntmps36
  go_wp2
  go_ret
  exact⟨rfl,Za HB⟩
 by_cases c3:1000<h
 ·clear hh2
  go_enter Tryz.func36,Tryz.ntmps36
  go_wp2
  go_ret
  exact⟨rfl,Za HB⟩
 by_cases c4:k<1
 ·clear hh2
  go_enter Tryz.func36,Tryz.ntmps36
  go_wp2
  go_ret
  exact⟨rfl,Za HB⟩
 by_cases c5:1000<k
 ·clear hh2
  go_enter Tryz.func36,Tryz.ntmps36
  go_wp2
  go_ret
  exact⟨rfl,Za HB⟩
 have c6:n<0∨1000000000<n:=by omega
 have C:=Zb (fun W=>Gm n W c6)
 clear hh2 c6
 go_enter Tryz.func36,Tryz.ntmps36
 go_wp2_with fail
 refine ((Za C) _).mono ?_
 rintro e w' ⟨rfl,rfl⟩
 go_wp2
 go_ret
 exact⟨rfl,Za HB⟩
set_option maxRecDepth 10000 in
theorem Zdg(p h k n:Int)(a:Option Addr)(m c:Nat)(T:List TxD)(w:World)(hT:TxsAt w a m T)(hh:Xx p h k n=true) :
  Calls Tryz.prog 36 #[.agg #[.int .i64 p,.int .i64 h,.int .i64 k,.int .i64 n,.slice a m c]] w fun e w'=>e = .returned (.int .i64 (Xb (p,h,k,n,T)))∧Below w.heap.size w w':=by
 obtain⟨X,hX⟩:∃ X,X=w.alloc (.cells #[.int .i64 p,.int .i64 h,.int .i64 k,.int .i64 n,.slice a m c] 68):=⟨_,rfl⟩
 have hbX:Below w.heap.size w X:=by rw[hX];exact Zg _ _
 have hX1:X.heap[w.heap.size]? = some (.cells [.int .i64 p,.int .i64 h,.int .i64 k,.int .i64 n,.slice a m c].toArray 68 (0,0)):=by rw[hX];exact Yd _ _ _ _ _ _ _
 have HX1:=Zb hX1
 have HBX:=Zb hbX
 have HT:=Zb (hT.later hbX)
 have hz:T.length=m:=hT.1
 obtain⟨⟨q1,q2⟩,⟨q3,q4⟩,⟨q5,q6⟩,q7,q8⟩:=(Lj p h k n).1 hh
 have C:=Zb (Jf n X q7 q8)
 have p1:¬p<0:=by omega
 have p2:¬120<p:=by omega
 have p3:¬h<1:=by omega
 have p4:¬1000<h:=by omega
 have p5:¬k<1:=by omega
 have p6:¬1000<k:=by omega
 unfold Xb
 simp only
 rw[hz,if_neg (by simp[hh])]
 have x0:=Zd hX1 0 _ rfl
 have x1:=Zd hX1 1 _ rfl
 have x2:=Zd hX1 2 _ rfl
 have x3:=Zd hX1 3 _ rfl
 have x4:=Zd hX1 4 _ rfl
 have xl:=lt_of_block hX1
 clear hbX hX1 hT hh q1 q2 q3 q4 q5 q6 q7 q8
 by_cases h4:4<m
 ·rw[if_pos h4]
  have g4:(4:Int)<(m:Int):=by omega
  clear hz
  go_enter Tryz.func36,Tryz.ntmps36
  go_wp2_with fail
  rw[←hX]
  clear hX
  refine (Za C).mono ?_
  rintro e w' ⟨rfl,rfl⟩
  go_wp2
  go_ret
  exact⟨rfl,Za HBX⟩
 ·rw[if_neg h4]
  by_cases h0:m=0
  ·subst h0
   rw[if_pos rfl]
   clear hz h4
   go_enter Tryz.func36,Tryz.ntmps36
   go_wp2_with fail
   rw[←hX]
   clear hX
   refine (Za C).mono ?_
   rintro e w' ⟨rfl,rfl⟩
   go_wp2
   go_ret
   exact⟨rfl,Za HBX⟩
  ·rw[if_neg h0]
   have g0:((m:Int) == 0)=false:=by simp[h0]
   have g4:¬(4:Int)<(m:Int):=by omega
   have HZ:=Zb hz
   obtain⟨b,off,rfl,hbl,hcell⟩:=(Za HT).2 (by omega)
   have HC:=Zb hcell
   clear hz hcell
   go_enter Tryz.func36,Tryz.ntmps36
   go_wp2_with fail
   rw[←hX]
   clear hX
   refine (Za C).mono ?_
   rintro e w' ⟨rfl,rfl⟩
   go_wp2
   go_loopw [52] (fun i wr=>∃ j:Nat,j≤m∧i = .int .i64 j∧Hid (Yr h 0 T=Yr h j (T.drop j))∧Hid (Below X.heap.size X wr)) (fun i _=>m - (intOf i).toNat)
   case atStart=>exact⟨0,Nat.zero_le _,rfl,rfl,(Below.refl _ _:Below X.heap.size X X)⟩
   case round=>
    obtain⟨j,hj,rfl,A,HBr⟩:=hrel
    clear x0 x1 x2 x3 x4 xl
    by_cases hlt:j<m
    ·have hlk:j<T.length:=by rw[Za HZ];exact hlt
     have hin:=TxAt.kept _ _ _ _ _ (Za HBr) ((Za HC) j hlk)
     have ST:=Zb (Cw h T j hlk)
     obtain⟨t,ht⟩:∃ t,T[j]=t:=⟨_,rfl⟩
     rw[ht] at hin ST
     obtain⟨t1,I,O⟩:=t
     obtain⟨g0',⟨ai,ni,ci,g1,hI,sI⟩,ao,no,co,g2,hO,_⟩:=hin
     have A2:Hid (Yr h 0 T=if Zo (t1,I,O)≠0 then Zo (t1,I,O) else if Uh (t1,I,O) j h=false then 4 else Yr h (j+1) (T.drop (j+1))):=by show _=_;rw[Za A,Za ST]
     simp only at g0' g1 g2 hI hO
     obtain⟨Y,hY⟩:∃ Y,Y=wr.alloc (.cells #[.int .i64 t1,.slice ai ni ci,.slice ao no co] 52):=⟨_,rfl⟩
     have hbY:Below wr.heap.size wr Y:=by rw[hY];exact Zg _ _
     have hY1:Y.heap[wr.heap.size]? = some (.cells [.int .i64 t1,.slice ai ni ci,.slice ao no co].toArray 52 (0,0)):=by rw[hY];exact Zp _ _ _ _ _
     have HY1:=Zb hY1
     have HBY:=Zb (Ze (Za HBr) hbY)
     have y0:=Zd hY1 0 _ rfl
     have y1:=Zd hY1 1 _ rfl
     have y2:=Zd hY1 2 _ rfl
     have yl:=lt_of_block hY1
     obtain⟨x,hx⟩:∃ x,Zo (t1,I,O)=x:=⟨_,rfl⟩
     have CT:=Zb (Dv t1 ai ao ni ci no co I O Y (hI.later hbY) (hO.later hbY))
     rw[hx] at A2 CT
     have SD:Hid (Uh (t1,I,O) j h=if 0<(j:Int) then !decide (ni=0) else decide (ni=0) && decide (t1=h)):=by
      show _=_
      unfold Uh
      simp only
      rw[hI.1]
     clear hbY hY1 A ST ht hI hO sI hx
     by_cases hx0:x=0
     ·subst hx0
      have A3:Hid (Yr h 0 T=if (if 0<(j:Int) then !decide (ni=0) else decide (ni=0) && decide (t1=h))=false then 4 else Yr h (j+1) (T.drop (j+1))):=by
       have q:=Za A2
       rw[if_neg (by decide),Za SD] at q
       exact q
      clear A2 SD
      go_wp2_with fail
      rw[←hY]
      clear hY
      go_wp2_with fail
      refine (Za CT).mono ?_
      rintro e w2 ⟨rfl,hb2⟩
      have hy2:=(hb2.block _ (lt_of_block (Za HY1))).trans (Za HY1)
      have HB2:=Zb (Ze (Za HBY) hb2)
      have hh2:=((Za HB2).block _ (lt_of_block (Za HX1))).trans (Za HX1)
      have z0:=Zd hy2 0 _ rfl
      have z1:=Zd hy2 1 _ rfl
      have z2:=Zd hy2 2 _ rfl
      have zl:=lt_of_block hy2
      have k1:=Zd hh2 1 _ rfl
      have kl:=lt_of_block hh2
      have HBF:=Zb (Ze (Za HBX) (Za HB2))
      clear hb2 hy2 hh2 y0 y1 y2 yl g0' g1 g2
      by_cases j0:j=0
      ·have gj:((j:Int) == 0)=true:=by simp[j0]
       have gj2:¬(0:Int)<(j:Int):=by omega
       by_cases n0:ni=0
       ·subst n0
        by_cases e1:t1=h
        ·subst e1
         have gt:(t1 != t1)=false:=by simp
         have R:Hid (Yr t1 0 T=Yr t1 (j+1) (T.drop (j+1))):=by show _=_;rw[Za A3,if_neg gj2];simp
         clear A3 j0
         go_wp2
         go_roundw
         case rel=>exact⟨j+1,by omega,by go_num,R,HB2⟩
         case measure=>simp[intOf];omega
        ·have gt:(t1 != h)=true:=by simp[e1]
         have R:Hid (Yr h 0 T=4):=by show _=_;rw[Za A3,if_neg gj2];simp[e1]
         clear A3 j0 e1
         go_wp2
         go_ret
         exact⟨by rw[Za R];rfl,Za HBF⟩
       ·have gn:((ni:Int) == 0)=false:=by simp[n0]
        have R:Hid (Yr h 0 T=4):=by show _=_;rw[Za A3,if_neg gj2];simp[n0]
        clear A3 j0 n0
        go_wp2
        go_ret
        exact⟨by rw[Za R];rfl,Za HBF⟩
      ·have gj:((j:Int) == 0)=false:=by simp[j0]
       have gj2:(0:Int)<(j:Int):=by omega
       by_cases n0:ni=0
       ·subst n0
        have R:Hid (Yr h 0 T=4):=by show _=_;rw[Za A3,if_pos gj2];simp
        clear A3 j0
        go_wp2
        go_ret
        exact⟨by rw[Za R];rfl,Za HBF⟩
       ·have gn:((ni:Int) == 0)=false:=by simp[n0]
        have R:Hid (Yr h 0 T=Yr h (j+1) (T.drop (j+1))):=by show _=_;rw[Za A3,if_pos gj2];simp[n0]
        clear A3 j0 n0
        go_wp2
        go_roundw
        case rel=>exact⟨j+1,by omega,by go_num,R,HB2⟩
        case measure=>simp[intOf];omega
     ·have R:Hid (Yr h 0 T=x):=by show _=_;rw[Za A2,if_pos hx0]
      have gx:(x != 0)=true:=by simp[hx0]
      clear A2 hx0 SD
      go_wp2_with fail
      rw[←hY]
      clear hY
      go_wp2_with fail
      refine (Za CT).mono ?_
      rintro e w2 ⟨rfl,hb2⟩
      have HBF:=Zb (Ze (Za HBX) (Ze (Za HBY) hb2))
      clear hb2
      go_wp2
      go_ret
      exact⟨by rw[Za R];rfl,Za HBF⟩
    ·have R:Hid (Yr h 0 T=0):=by show _=_;rw[Za A,Db h T j (by rw[Za HZ];omega)]
     have HBF:=Zb (Ze (Za HBX) (Za HBr))
     clear A
     go_wp2
     go_ret
     exact⟨by rw[Za R];rfl,Za HBF⟩
theorem Ru(p h k n:Int)(a:Option Addr)(m c:Nat)(T:List TxD)(x:Int)(w:World)(hT:TxsAt w a m T)(hx:Xb (p,h,k,n,T)=x) :
  Calls Tryz.prog 36 #[.agg #[.int .i64 p,.int .i64 h,.int .i64 k,.int .i64 n,.slice a m c]] w fun e w'=>e = .returned (.int .i64 x)∧Below w.heap.size w w':=by
 subst hx
 cases hh:Xx p h k n with
 | false=>
  have e:Xb (p,h,k,n,T)=3:=by unfold Xb;simp only;rw[if_pos hh]
  rw[e]
  exact Zdh p h k n a m c w hh
 | true=>exact Zdg p h k n a m c T w hT hh
end Go.Proofs.YtpikejjiignchaaGreatDoor
namespace Go.Proofs.YtpikejjiignchaaGreatDoor.Bk
open Go.RowKit Go.Maps
theorem Ziz{s t:ByteArray}(h:s≠t):s.toList≠t.toList:=fun e=>h (by
 rw[ByteArray.toList_eq,ByteArray.toList_eq] at e
 have h4:s.data=t.data:=by rw[←Array.toList_inj];exact e
 cases s;cases t;simp_all)
theorem Zfk{s t:ByteArray}(h:s≠t):(s.toList == t.toList)=false:=by simp[Ziz h]
open Go.RowKit Go.Maps
theorem Zcl(z:Array Value)(n:Nat):(Builtin.zeroCells z n).size=n*z.size:=by simp[Builtin.zeroCells]
theorem Zhl(n:Nat)(w:World)(hn:n≤240) :
  Calls Tryz.prog 146 #[.slice none 0 0,.int .i64 n] w fun e w'=>∃ v,e = .returned v∧w'.ownsRow w.heap.size 9 1 v 0 []∧Below w.heap.size w w':=by
 obtain⟨i0,hi,hz0,hz1,hz2⟩:=info_parts Tryz.info9
 by_cases h:n=0
 ·subst h
  exact (Any8.slices_Grow_room Tryz.growS none 0 0 0 w (Nat.le_refl _) (by omega) (by omega) (by omega)).mono fun e w' ⟨h1,h2⟩=>⟨_,h1,⟨rfl,Or.inl ⟨rfl,rfl⟩⟩,h2 ▸ Below.refl _ _⟩
 ·refine (Any8.slices_Grow_grow Tryz.growS i0 (.string ⟨#[]⟩) hi hz0 (by rw[hz1];decide) none 0 0 n [] w (Nat.le_refl _) (by omega) (by rw[hz2];omega) (by omega) (by simp) (fun _=>rfl) (fun a h=>by cases h)).mono fun e w' ⟨h1,h2⟩=>⟨_,h1,?_,?_⟩
  ·rw[h2]
   have hge:=grownCap_ge w (0+n) 0 (Tryz.growS_ren.t 25)
   have hle:=grownCap_le_maxLen w (0+n) 0 (Tryz.growS_ren.t 25) (by unfold maxLen;omega)
   refine⟨rfl,Or.inr ⟨w.heap.size,_,_,rfl,Nat.le_refl _,heap_alloc_new _ _,Nat.zero_le _,hle,?_,rfl⟩⟩
   simp only[Array.size_append,Zcl,List.size_toArray,List.length_nil]
   show 0+(0+n - 0)*1+_*1=_*1
   omega
  ·rw[h2]
   exact⟨rfl,rfl,rfl,by simp,fun k hk=>Below.heap_alloc w.drew _ k hk⟩
theorem TextsAt.news{w:World}{x:Addr}{len:Nat}{L:List ByteArray}(h:TextsAt w (some x) len L)(j:Nat)(u:Value)(hj:(L.map Value.string)[j]? = some u):w.cell? (x.add j)=some u:=by
 have hjl:j<L.length:=by
  rcases Nat.lt_or_ge j L.length with h|h
  ·exact h
  ·rw[List.getElem?_eq_none (by simpa using h)] at hj;cases hj
 have hz:=h.1
 obtain⟨b,off,hx,hc⟩:=h.2 (by omega)
 cases hx
 have hadd:(⟨b,off,none⟩:Addr).add j=⟨b,off+j,none⟩:=by unfold Addr.add;split <;> simp_all
 rw[hadd,hc j hjl]
 simpa[hjl] using hj
set_option maxRecDepth 100000 in
theorem Zao(B:Nat)(ak:Option Addr)(y:Addr)(lenk capk len cap:Nat)(k l:List ByteArray)(w:World)(hsum:lenk+len≤240)(hK:TextsAt w ak lenk k)(hL:TextsAt w (some y) len l)
  (hkn:ak=none→lenk=0∧capk=0)
  (c0:w.cell? ⟨B,0,none⟩=some (.slice ak lenk capk)) (c1:w.cell? ⟨B,1,none⟩=some (.slice (some y) len cap)) :
  Calls Tryz.prog 106 #[.slice (some ⟨B,0,none⟩) 2 2] w fun e w'=>∃ a' cap',e = .returned (.slice a' (lenk+len) cap')∧TextsAt w' a' (lenk+len) (k++l)∧SlOk a' (lenk+len) cap'∧(∀ y,a'=some y→w.heap.size≤y.block)∧Below w.heap.size w w':=by
 obtain⟨i0,hi,hz0,hz1,hz2⟩:=info_parts Tryz.info9
 have hBl:B<w.heap.size:=World.block_lt_of_cell? _ _ c0
 have hzk:=hK.1
 have hzl:=hL.1
 have HK:=Zb hK
 have HL:=Zb hL
 have HKN:=Zb hkn
 have HZK:=Zb hzk
 have HZL:=Zb hzl
 clear hK hL hkn hzk hzl
 go_enter Tryz.func106,Tryz.ntmps106
 go_wp2
 refine wp_loop_rounds 3 ?_
 rw[rounds_succ]
 go_wp2
 rw[rounds_succ]
 go_wp2
 rw[rounds_succ]
 have GR:=Zb (Zhl (lenk+len) w hsum)
 rw[Int.natCast_add] at GR
 go_wp2_with fail
 refine (Za GR).mono ?_
 rintro e w1 ⟨v,rfl,hw1,hb1⟩
 have HW1:=Zb hw1
 have HB1:=Zb hb1
 have c01:=(hb1.cell (p:=⟨B,0,none⟩) hBl).trans c0
 have c11:=(hb1.cell (p:=⟨B,1,none⟩) hBl).trans c1
 clear hw1 hb1
 rcases ak with _|x
 ·go_wp2
  refine wp_loop_rounds 3 ?_
  rw[rounds_succ]
  obtain⟨rfl,rfl⟩:=(Za HKN) (by trivial)
  have ek:k=[]:=List.length_eq_zero_iff.1 (Za HZK)
  subst ek
  go_wp2_with (at_builtin;refine wpList_append_own_none rfl _ _ 22 rfl w.heap.size 9 i0 1 Tryz.underlying22 hi _ _ _ rfl (Za HW1) rfl ?_)
  have HW2:Hid (w1.ownsRow w.heap.size 9 1 v (0+0) (([]:List ByteArray).map Value.string)):=Za HW1
  have HB2:=HB1
  have c02:=c01
  have c12:=c11
  clear c01 c11
  go_wp2
  rw[rounds_succ]
  go_wp2_with (at_builtin;refine wpList_append_own _ rfl _ _ 22 rfl w.heap.size 9 i0 (.string ⟨#[]⟩) 1 16 Tryz.underlying22 hi hz0 hz1 hz2 rfl (by decide) _ _ _ rfl (Za HW2) y len cap (l.map Value.string) rfl (by rw[List.length_map,Za HZL];omega) (fun j u hj=>((Za HL).later (Za HB2)).news j u hj) (fun u hu=>by obtain⟨x,_,rfl⟩:=List.mem_map.1 hu;rfl) (by unfold maxLen;omega) (by omega) (Za HB2).size ?_;intro v2 w3 hown3 hgrow3 _)
  have HW3:Hid (w3.ownsRow w.heap.size 9 1 v2 ((0+0)+len) ((([]:List ByteArray)++l).map Value.string)):=by rw[List.map_append];exact hown3
  have HB3:=Zb ((Za HB2).grown hgrow3 (Za HB2).size (Ut (Za HW2)))
  clear hown3 hgrow3
  obtain⟨a',cap',hv,s1,s2,s3,hO⟩:=Wl (Za HW3)
  have HGE:Hid (∀ y,a'=some y→w.heap.size≤y.block):=fun y e=>Ut (Za HW3) y.block (by rw[hv,e];rfl)
  have HV:=Zb hv
  have HO2:=Zb hO
  have HOK:Hid (SlOk a' ((0+0)+len) cap'):=⟨s1,s2,s3⟩
  clear hv hO c02 c12 s1 s2 s3
  go_wp2
  rw[rounds_succ]
  go_wp2
  go_ret
  refine⟨a',cap',?_,?_,?_,Za HGE,Za HB3⟩
  ·rw[Za HV];simp
  ·simpa using Za HO2
  ·simpa using Za HOK
 ·go_wp2
  refine wp_loop_rounds 3 ?_
  rw[rounds_succ]
  go_wp2_with (at_builtin;refine wpList_append_own _ rfl _ _ 22 rfl w.heap.size 9 i0 (.string ⟨#[]⟩) 1 16 Tryz.underlying22 hi hz0 hz1 hz2 rfl (by decide) _ _ _ rfl (Za HW1) x lenk capk (k.map Value.string) rfl (by rw[List.length_map,Za HZK];omega) (fun j u hj=>((Za HK).later (Za HB1)).news j u hj) (fun u hu=>by obtain⟨x,_,rfl⟩:=List.mem_map.1 hu;rfl) (by unfold maxLen;omega) (by omega) (Za HB1).size ?_;intro v1 w2 hown2 hgrow2 _)
  have HW2:Hid (w2.ownsRow w.heap.size 9 1 v1 (0+lenk) (k.map Value.string)):=Zb (by simpa using hown2)
  have HB2:=Zb ((Za HB1).grown hgrow2 (Za HB1).size (Ut (Za HW1)))
  have c02:=((Za HB2).cell (p:=⟨B,0,none⟩) hBl).trans c0
  have c12:=((Za HB2).cell (p:=⟨B,1,none⟩) hBl).trans c1
  clear hown2 hgrow2
  clear c01 c11
  go_wp2
  rw[rounds_succ]
  go_wp2_with (at_builtin;refine wpList_append_own _ rfl _ _ 22 rfl w.heap.size 9 i0 (.string ⟨#[]⟩) 1 16 Tryz.underlying22 hi hz0 hz1 hz2 rfl (by decide) _ _ _ rfl (Za HW2) y len cap (l.map Value.string) rfl (by rw[List.length_map,Za HZL];omega) (fun j u hj=>((Za HL).later (Za HB2)).news j u hj) (fun u hu=>by obtain⟨x,_,rfl⟩:=List.mem_map.1 hu;rfl) (by unfold maxLen;omega) (by omega) (Za HB2).size ?_;intro v2 w3 hown3 hgrow3 _)
  have HW3:Hid (w3.ownsRow w.heap.size 9 1 v2 ((0+lenk)+len) ((k++l).map Value.string)):=by rw[List.map_append];exact hown3
  have HB3:=Zb ((Za HB2).grown hgrow3 (Za HB2).size (Ut (Za HW2)))
  clear hown3 hgrow3
  obtain⟨a',cap',hv,s1,s2,s3,hO⟩:=Wl (Za HW3)
  have HGE:Hid (∀ y,a'=some y→w.heap.size≤y.block):=fun y e=>Ut (Za HW3) y.block (by rw[hv,e];rfl)
  have HV:=Zb hv
  have HO2:=Zb hO
  have HOK:Hid (SlOk a' ((0+lenk)+len) cap'):=⟨s1,s2,s3⟩
  clear hv hO c02 c12 s1 s2 s3
  go_wp2
  rw[rounds_succ]
  go_wp2
  go_ret
  refine⟨a',cap',?_,?_,?_,Za HGE,Za HB3⟩
  ·rw[Za HV];simp
  ·simpa using Za HO2
  ·simpa using Za HOK
open Go.RowKit Go.Maps
theorem Km{s:ByteArray}{L:List ByteArray}{k:Nat}(h:k<L.length)(h0:place s (L.take k)=0)(e:L[k]≠s):place s (L.take (k+1))=0:=by
 rw[List.take_succ_eq_append_getElem h,Wn,if_pos h0]
 have:place s [L[k]]=0:=by rw[place_zero];simp;exact fun h2=>e h2.symm
 rw[this];rfl
theorem Nk{s:ByteArray}{L:List ByteArray}{k:Nat}(h:k<L.length)(h0:place s (L.take k)=0)(e:L[k]=s):place s L=k+1:=by
 have h1:place s (L.take (k+1))=k+1:=by
  rw[List.take_succ_eq_append_getElem h,Wn,if_pos h0,e]
  simp[place];omega
 rw[Q9] at h1
 split at h1
 ·exact h1
 ·omega
def idx(s:ByteArray)(L:List ByteArray):Int:=(place s L:Int) - 1
set_option maxRecDepth 10000 in
theorem Zhg(a:Option Addr)(n c:Nat)(L:List ByteArray)(s:ByteArray)(x:Int)(w:World)(hn:n≤maxLen)(h:TextsAt w a n L)(hx:idx s L=x) :
  Calls Tryz.prog 40 #[.slice a n c,.string s] w fun e w'=>e = .returned (.int .i64 x)∧Below w.heap.size w w':=by
 have HT:=Zb h
 have HX:=Zb hx
 unfold maxLen at hn
 clear h hx
 go_enter Tryz.func40,Tryz.ntmps40
 go_wp2
 go_loop [8] (fun i=>∃ j:Nat,j≤n∧i = .int .i64 j∧Hid (place s (L.take j)=0)) (fun i=>n - (intOf i).toNat)
 case atStart=>exact⟨0,Nat.zero_le _,rfl,rfl⟩
 case round=>
  obtain⟨j,hk,rfl,A⟩:=hrel
  by_cases hlt:j<n
  ·obtain⟨hz,hcs⟩:=Za HT
   obtain⟨b,off,rfl,hc⟩:=hcs (by omega)
   have h1:j<L.length:=by omega
   have f:=hc j h1
   have PS:=Zb (Km h1 (Za A))
   have PH:=Zb (Nk h1 (Za A))
   obtain⟨t,ht⟩:∃ t,L[j]=t:=⟨_,rfl⟩
   rw[ht] at f PS PH
   clear ht A hc hcs hz
   by_cases e:t=s
   ·subst e
    have R:Hid (x=j):=by show _=_;rw[←Za HX];unfold idx;rw[(Za PH) rfl];omega
    clear PS PH
    go_wp2
    go_ret
    exact⟨by rw[Za R];rfl,Below.refl _ _⟩
   ·have R:=Zb ((Za PS) e)
    have g:=Zfk (fun h:s=t=>e h.symm)
    clear PS PH e
    go_wp2
    go_round
    case rel=>exact⟨j+1,by omega,by go_num,R⟩
    case measure=>simp[intOf];omega
  ·have R:Hid (x = -1):=by
    have h:=Za A
    rw[List.take_of_length_le (by rw[(Za HT).1];omega)] at h
    show _=_;rw[←Za HX];unfold idx;rw[h];rfl
   clear A
   go_wp2
   go_ret
   exact⟨by rw[Za R];rfl,Below.refl _ _⟩
open Go.RowKit Go.Maps
theorem Zlo{L:List ByteArray}{j:Nat}(h:j<L.length):(idx L[j] L<(j:Int))↔place L[j] (L.take j)≠0:=by
 have h1:=Zgo h
 unfold idx
 rw[Q9]
 by_cases h2:place L[j] L≤j
 ·rw[if_pos h2];constructor
  ·intro _;omega
  ·intro _;omega
 ·rw[if_neg h2];constructor
  ·intro h3;omega
  ·intro h3;exact absurd rfl h3
theorem Zlp(s:ByteArray)(L:List ByteArray) : -1≤idx s L∧idx s L<L.length:=by
 have:=Bi s L
 unfold idx;omega
set_option maxRecDepth 10000 in
theorem rcheck_is(a:Option Addr)(n c:Nat)(L:List ByteArray)(w:World)(h:TextsAt w a n L)(x:Int)(hx:bkChk L=x) :
  Calls Tryz.prog 14 #[.agg #[.slice a n c]] w fun e w'=>e = .returned (.int .i64 x)∧Below w.heap.size w w':=by
 have hb:=Zg w (.cells #[.slice a n c] 24)
 have c0:=Rk w (.slice a n c) 24
 obtain⟨W,hW⟩:∃ W,W=w.alloc (.cells #[.slice a n c] 24):=⟨_,rfl⟩
 have hz:=h.1
 by_cases h1:120<n
 ·have e:x=2:=by rw[←hx];unfold bkChk;rw[if_pos (by omega)]
  subst e
  have g:(120:Int)<(n:Int):=by omega
  have HB:=Zb hb
  clear h hx h1 hz hb c0 hW
  go_enter Tryz.func14,Tryz.ntmps14
  go_wp2
  go_ret
  exact⟨rfl,Za HB⟩
 ·have g:¬(120:Int)<(n:Int):=by omega
  have HX:Hid (Rc [] L=x):=by show _=_;rw[←hx];unfold bkChk;rw[if_neg (by omega)]
  rw[←hW] at hb c0
  have HB:=Zb hb
  have HT:=Zb (h.later hb)
  have C0:=Zb c0
  have hn:n≤120:=by omega
  clear h hx h1 hb c0 hz
  go_enter Tryz.func14,Tryz.ntmps14
  go_wp2
  rw[←hW]
  clear hW
  go_loopw [12] (fun i wr=>∃ j:Nat,j≤n∧i = .int .i64 j∧Below W.heap.size W wr∧Hid (Rc (L.take j) (L.drop j)=x)) (fun i _=>n - (intOf i).toNat)
  case atStart=>exact⟨0,Nat.zero_le _,rfl,Below.refl _ _,Za HX⟩
  case round=>
   obtain⟨j,hk,rfl,hbw,A⟩:=hrel
   have HBW:=Zb hbw
   by_cases hlt:j<n
   ·have ht:=(Za HT).later hbw
    obtain⟨hz,hcs⟩:=ht
    obtain⟨b,off,rfl,hc⟩:=hcs (by omega)
    have hlj:j<L.length:=by omega
    have f:=hc j hlj
    have c1:=Zc hbw (Za C0)
    have hl1:w.heap.size<wr.heap.size:=World.block_lt_of_cell? _ _ c1
    have S:=Zkp hlj
    rw[Za A] at S
    have IL:=Zlo hlj
    have IG:=Zlp L[j] L
    obtain⟨s,hs⟩:∃ s,L[j]=s:=⟨_,rfl⟩
    rw[hs] at f S IL IG
    have IX:=Zb (Zhg (some ⟨b,off,none⟩) n c L s (idx s L) wr (by unfold maxLen;omega) ((Za HT).later hbw) rfl)
    obtain⟨q,hq⟩:∃ q,idx s L=q:=⟨_,rfl⟩
    rw[hq] at IL IX IG
    clear hs hq hbw A hc hcs hz
    by_cases h2:4000<s.size
    ·rw[if_pos h2] at S
     subst S
     have g2:(4000:Int)<(s.size:Int):=by omega
     clear h2 IL IG
     go_wp2
     go_ret
     exact⟨rfl,Ze (Za HB) (Za HBW)⟩
    ·rw[if_neg h2] at S
     have g2:¬(4000:Int)<(s.size:Int):=by omega
     by_cases h3:place s (L.take j)≠0
     ·rw[if_pos h3] at S
      subst S
      have g3:=IL.2 h3
      clear h2 h3 IL IG
      go_wp2_with fail
      refine (Za IX).mono ?_
      rintro e w2 ⟨rfl,hb2⟩
      have HB2:=Zb (Ze (Ze (Za HB) (Za HBW)) hb2)
      clear hb2
      go_wp2
      go_ret
      exact⟨rfl,Za HB2⟩
     ·rw[if_neg h3] at S
      have HS:Hid (Rc (L.take (j+1)) (L.drop (j+1))=x):=S.symm
      have g3:¬q<(j:Int):=fun h=>h3 (IL.1 h)
      clear h2 h3 IL IG S
      go_wp2_with fail
      refine (Za IX).mono ?_
      rintro e w2 ⟨rfl,hb2⟩
      have HB2:=Zb (Ze (Za HBW) hb2)
      clear hb2
      go_wp2
      go_roundw
      case rel=>exact⟨j+1,by omega,by go_num,Za HB2,HS⟩
      case measure=>simp[intOf];omega
   ·have R:Hid (x=0):=by show _=_;rw[←Za A];exact Zil (by rw[(Za HT).1];omega)
    clear A hbw
    go_wp2
    go_ret
    exact⟨by rw[Za R];rfl,Ze (Za HB) (Za HBW)⟩
set_option maxRecDepth 10000 in
theorem Zhb(a:Option Addr)(n c:Nat)(L M:List ByteArray)(s:ByteArray)(k x:Int)(w:World)(hL:L.length≤120)(h:TextsAt w a n L)(hs:SlOk a n c)(hx:nm L s=(M,k,x)) :
  Calls Tryz.prog 58 #[.slice a n c,.string s] w fun e w'=>(∃ a' n' c',e = .returned (.tuple #[.slice a' n' c',.int .i64 k,.int .i64 x])∧TextsAt w' a' n' M∧SlOk a' n' c'∧(a'=a∧n'=n∨∀ y,a'=some y→w.heap.size≤y.block))∧Below w.heap.size w w':=by
 have hz:=h.1
 by_cases h1:4000<s.size
 ·have e1:nm L s=([],0,2):=by unfold nm;rw[if_pos h1]
  rw[e1] at hx
  obtain⟨rfl,hn2⟩:=Prod.mk.injEq .. ▸ hx
  obtain⟨rfl,rfl⟩:=Prod.mk.injEq .. ▸ hn2
  have g:(4000:Int)<(s.size:Int):=by omega
  clear hx hn2 e1 h1 h hs hL hz
  go_enter Tryz.func58,Tryz.ntmps58
  go_wp2
  go_ret3
  exact⟨⟨_,_,_,rfl,TextsAt.nil _ _,SlOk.nil,Or.inr (fun y e=>by cases e)⟩,Below.refl _ _⟩
 ·have g:¬(4000:Int)<(s.size:Int):=by omega
  have hn:n≤120:=by omega
  have HX:Hid ((if place s L≠0 then (L,(place s L:Int),0) else if 120≤L.length then ([],0,12) else (L++[s],(L.length:Int)+1,0))=(M,k,x)):=by
   show _=_
   rw[←hx];unfold nm;rw[if_neg h1]
  have HT:=Zb h
  have HS:=Zb hs
  clear h hs hx h1 hz hL
  go_enter Tryz.func58,Tryz.ntmps58
  go_wp2
  go_loop [14] (fun i=>∃ j:Nat,j≤n∧i = .int .i64 j∧Hid (place s (L.take j)=0)) (fun i=>n - (intOf i).toNat)
  case atStart=>exact⟨0,Nat.zero_le _,rfl,rfl⟩
  case round=>
   obtain⟨j,hk,rfl,A⟩:=hrel
   by_cases hlt:j<n
   ·obtain⟨hz,hcs⟩:=Za HT
    obtain⟨b,off,rfl,hc⟩:=hcs (by omega)
    have hlj:j<L.length:=by omega
    have f:=hc j hlj
    have PS:=Zb (Km hlj (Za A))
    have PH:=Zb (Nk hlj (Za A))
    obtain⟨t,ht⟩:∃ t,L[j]=t:=⟨_,rfl⟩
    rw[ht] at f PS PH
    clear ht A hc hcs hz
    by_cases e:t=s
    ·subst e
     have e2:=(Za PH) rfl
     have q:=Za HX
     rw[e2,if_pos (by omega)] at q
     have q1:L=M:=by injection q
     have q2:((j+1:Nat):Int)=k:=by injection q with _ q;injection q
     have q3:(0:Int)=x:=by injection q with _ q;injection q
     subst q1 q3
     have q4:k=(j:Int)+1:=by omega
     subst q4
     clear PS PH q q2 e2
     go_wp2
     go_ret3
     exact⟨⟨_,_,_,rfl,Za HT,Za HS,Or.inl ⟨rfl,rfl⟩⟩,Below.refl _ _⟩
    ·have R:=Zb ((Za PS) e)
     have g2:=Zfk e
     clear PS PH e
     go_wp2
     go_round
     case rel=>exact⟨j+1,by omega,by go_num,R⟩
     case measure=>simp[intOf];omega
   ·have p0:=Za A
    rw[List.take_of_length_le (by rw[(Za HT).1];omega)] at p0
    have q:=Za HX
    rw[p0,if_neg (by omega)] at q
    have hzl:=(Za HT).1
    by_cases h2:120≤L.length
    ·rw[if_pos h2] at q
     obtain⟨rfl,hn2⟩:=Prod.mk.injEq .. ▸ q
     obtain⟨rfl,rfl⟩:=Prod.mk.injEq .. ▸ hn2
     have g2:(120:Int)≤(n:Int):=by omega
     clear q hn2 p0 h2 A hzl
     go_wp2
     go_ret3
     exact⟨⟨_,_,_,rfl,TextsAt.nil _ _,SlOk.nil,Or.inr (fun y e=>by cases e)⟩,Below.refl _ _⟩
    ·rw[if_neg h2] at q
     obtain⟨rfl,hn2⟩:=Prod.mk.injEq .. ▸ q
     obtain⟨rfl,rfl⟩:=Prod.mk.injEq .. ▸ hn2
     have g2:¬(120:Int)≤(n:Int):=by omega
     have hb1:=Zg w (.cells #[.string s] 9)
     have hs1:(w.alloc (.cells #[.string s] 9)).heap.size=w.heap.size+1:=by simp
     have hb2:=Zg (w.alloc (.cells #[.string s] 9)) (.cells #[.slice a n c,.slice (some ⟨w.heap.size,0,none⟩) 1 1] 22)
     have c0:((w.alloc (.cells #[.string s] 9)).alloc (.cells #[.slice a n c,.slice (some ⟨w.heap.size,0,none⟩) 1 1] 22)).cell? ⟨w.heap.size+1,0,none⟩=some (.slice a n c):=by rw[←hs1,World.cell?_alloc_at _ _ _ _ rfl];rfl
     have c1:((w.alloc (.cells #[.string s] 9)).alloc (.cells #[.slice a n c,.slice (some ⟨w.heap.size,0,none⟩) 1 1] 22)).cell? ⟨w.heap.size+1,1,none⟩=some (.slice (some ⟨w.heap.size,0,none⟩) 1 1):=by rw[←hs1,World.cell?_alloc_at _ _ _ _ rfl];rfl
     have CT:=Zb (Zao (w.heap.size+1) a ⟨w.heap.size,0,none⟩ n c 1 1 L [s] _ (by omega) ((Za HT).later (Ze hb1 hb2)) ((Zgu w s).later hb2) (Za HS).2.2 c0 c1)
     have HB:=Zb (Ze hb1 hb2)
     have hzz:=Zb hzl
     clear q hn2 p0 h2 A hb1 hb2 hs1 c0 c1 hzl
     go_wp2_with fail
     refine (Za CT).mono ?_
     rintro e w2 ⟨a',cap',rfl,t1,t2,t3,hb2⟩
     have T3:Hid (∀ y,a'=some y→w.heap.size≤y.block):=fun y e=>Nat.le_trans (Za HB).size (t3 y e)
     have HB2:=Zb (Ze (Za HB) hb2)
     have T1:=Zb t1
     have T2:=Zb t2
     clear t1 t2 t3 hb2
     go_wp2
     go_ret3
     refine⟨⟨a',n+1,cap',?_,Za T1,Za T2,Or.inr (Za T3)⟩,Za HB2⟩
     rw[Za hzz];rfl
open Go.RowKit Go.Maps
theorem ints_of_own{w:World}{base:Nat}{v:Value}{n:Nat}{N:List Int}(h:w.ownsRow base 3 1 v n (N.map (Value.int .i64))):∃ a cap,v = .slice a n cap∧SlOk a n cap∧IntsAt w a n N:=by
 have hl:N.length=n:=by have:=h.1;simpa using this
 rcases h.2 with ⟨rfl,rfl⟩|⟨g,cap,cur,rfl,_,_,h1,h2,_,_⟩
 ·have e:N=[]:=List.length_eq_zero_iff.1 hl
  subst e
  exact⟨none,0,rfl,SlOk.nil,IntsAt.nil _ _⟩
 ·refine⟨_,cap,rfl,⟨h1,h2,fun e=>by cases e⟩,hl,fun _=>⟨g,0,rfl,fun i hi=>?_⟩⟩
  rw[Nat.zero_add,World.ownsRow.cellAt h i (by omega)]
  simp[hi]
set_option maxRecDepth 10000 in
theorem namedAll_is(a al:Option Addr)(n c nl cl:Nat)(L l M:List ByteArray)(N:List Int)(x:Int)(w:World)(hR:Right L)(h:TextsAt w a n L)(hs:SlOk a n c)(hl:TextsAt w al nl l)(hnl:nl≤17592186044416)(hx:nmGo L [] l=(M,N,x)) :
  Calls Tryz.prog 133 #[.slice a n c,.slice al nl cl] w fun e w'=>(∃ a' n' c' a2 n2 c2,e = .returned (.tuple #[.slice a' n' c',.slice a2 n2 c2,.int .i64 x])∧TextsAt w' a' n' M∧SlOk a' n' c'∧IntsAt w' a2 n2 N∧n2≤nl∧n2≤c2)∧Below w.heap.size w w':=by
 obtain⟨i0,hi,hz0,hz1,hz2⟩:=info_parts Tryz.infoInt
 have HT:=Zb h
 have HS:=Zb hs
 have HLL:=Zb hl
 have HNL:=Zb hnl
 have HX:=Zb hx
 have HR:=Zb hR
 have OWN0:Hid (w.ownsRow w.heap.size 3 1 (.slice none 0 0) 0 (([]:List Int).map (Value.int .i64))):=⟨rfl,Or.inl ⟨rfl,rfl⟩⟩
 clear h hs hl hx hR
 go_enter Tryz.func133,Tryz.ntmps133
 go_wp2
 go_loopw [0,7,15] (fun t v i wr=>∃ (j:Nat) (L':List ByteArray) (N':List Int) (a':Option Addr) (n' c':Nat),j≤nl∧i = .int .i64 j∧t = .slice a' n' c'∧Below w.heap.size w wr∧Hid (TextsAt wr a' n' L'∧SlOk a' n' c')∧Hid (n'=0∨∀ y,a'=some y→v.ownBlock≠some y.block)∧Hid (wr.ownsRow w.heap.size 3 1 v j (N'.map (Value.int .i64)))∧Hid (Right L'∧nmGo L' N' (l.drop j)=(M,N,x))) (fun _ _ i _=>nl - (intOf i).toNat)
 case atStart=>exact⟨0,L,[],a,n,c,Nat.zero_le _,rfl,rfl,Below.refl _ _,⟨Za HT,Za HS⟩,(Or.inr (fun y _ e=>by cases e)),OWN0,⟨Za HR,Za HX⟩⟩
 case round=>
  obtain⟨j,L',N',a',n',c',hk,rfl,rfl,hbw,HT',HAP,HO,HN⟩:=hrel
  have HB:=Zb hbw
  by_cases hlt:j<nl
  ·obtain⟨hz,hcs⟩:=Za HLL
   obtain⟨b,off,rfl,hc⟩:=hcs (by omega)
   have hlj:j<l.length:=by omega
   have f:=Zc hbw (hc j hlj)
   obtain⟨q2,q3⟩:=Za HN
   rw[Zbw hlj] at q3
   obtain⟨s,hs⟩:∃ s,l[j]=s:=⟨_,rfl⟩
   rw[hs] at f q3
   obtain⟨r,hr⟩:∃ r,nm L' s=r:=⟨_,rfl⟩
   rw[hr] at q3
   obtain⟨M',k',e'⟩:=r
   simp only at q3
   have CN:=Zb (Zhb a' n' c' L' M' s k' e' _ q2.1 (Za HT').1 (Za HT').2 hr)
   have NR:Hid (e'=0→Right M'):=fun h=>by
    have:=Ky (L:=L') (s:=s) q2
    rw[hr] at this
    exact this h
   clear hs hc hcs hbw hr hz
   by_cases he:e'=0
   ·subst he
    rw[if_pos rfl] at q3
    have Q3:=Zb q3
    have NR2:Hid (Right M'):=(Za NR) rfl
    clear q3 q2 NR
    obtain⟨av,cv,rfl,sv,-⟩:=ints_of_own (Za HO)
    go_wp2_with fail
    refine (Za CN).mono ?_
    rintro y w5 ⟨⟨a5,n5,c5,rfl,t1,t2,t3⟩,hb5⟩
    have AP5:Hid (n5=0∨∀ y,a5=some y→(Value.slice av j cv).ownBlock≠some y.block):=by
     rcases t3 with ⟨h1,h2⟩|h
     ·rw[h1,h2];exact Za HAP
     ·refine Or.inr (fun y e e2=>?_)
      have h3:=((Za HO).lt _ e2).2
      have h4:=h y e
      omega
    have T5:=Zb t1
    have S5:=Zb t2
    have HB5:=Zb (Ze (Za HB) hb5)
    have hb6:=Zg w5 (.cells #[.int .i64 k'] 3)
    have OWN5:=Zb (Wq (Wq (Za HO) (fun k cs _ hk=>hb5.block k (lt_of_block hk))) (fun k cs _ hk=>hb6.block k (lt_of_block hk)))
    have NEWS:=Zb (World.news_of_block (heap_alloc_new w5 (.cells #[.int .i64 k'] 3)))
    have HB6:=Zb (Ze (Za HB5) hb6)
    have T6:=Zb ((Za T5).later hb6)
    clear t1 t2 t3 hb5 hb6 sv
    go_wp2_with (at_builtin;refine wpList_append_lies _ rfl _ _ 25 rfl w.heap.size 3 i0 (.int .i64 0) 1 8 Tryz.underlying25 hi hz0 hz1 hz2 rfl (by decide) _ _ _ rfl (Za OWN5) ⟨w5.heap.size,0,none⟩ 1 1 [.int .i64 k'] rfl rfl (Za NEWS) (fun u hu=>by simp at hu;subst hu;rfl) (by decide) (by have:=Za HNL;unfold maxLen;omega) (by have:=Za HNL;omega) (Za HB6).size _ rfl ?_;intro g7 cap7 w7 hown7 hgrow7 hor7 _)
    have OWN7:Hid (w7.ownsRow w.heap.size 3 1 (.slice (some ⟨g7,0,none⟩) (j+1) cap7) (j+1) ((N'++[k']).map (Value.int .i64))):=by
     show World.ownsRow _ _ _ _ _ _ _
     rw[List.map_append];exact hown7
    have hb7:=(Za HB6).grown hgrow7 (Za HB6).size (Ut (Za OWN5))
    have HB7:=Zb hb7
    have T7:Hid (TextsAt w7 a5 n5 M'):=by
     refine⟨(Za T6).1,fun h0=>?_⟩
     obtain⟨b',off',e',hc'⟩:=(Za T6).2 h0
     refine⟨b',off',e',fun i hi=>?_⟩
     have h2:=hc' i hi
     rw[World.cell?_of_block (hgrow7.block b' (World.block_lt_of_cell? _ _ h2) (fun e=>by
      rcases Za AP5 with h|h
      ·omega
      ·exact h _ e' e.symm))]
     exact h2
    have AP7:Hid (n5=0∨∀ y,a5=some y→(Value.slice (some ⟨g7,0,none⟩) (j+1) cap7).ownBlock≠some y.block):=by
     rcases Nat.eq_zero_or_pos n5 with h0|h0
     ·exact Or.inl h0
     ·refine Or.inr (fun y e e2=>?_)
      have e3:g7=y.block:=by injection e2
      rcases hor7 with h|h
      ·rcases Za AP5 with h5|h5
       ·omega
       ·exact h5 y e (h.trans (by rw[e3]))
      ·have:=(Za T6).lt y e h0
       omega
    clear hown7 hgrow7 hor7 hb7
    refine⟨⟨j+1,M',N'++[k'],a5,n5,c5,by omega,by go_num,rfl,Za HB7,⟨Za T7,Za S5⟩,AP7,OWN7,⟨Za NR2,Za Q3⟩⟩,?_⟩
    simp[intOf];omega
   ·rw[if_neg he] at q3
    have e1:M=[]:=by injection q3 with q3 _;exact q3.symm
    have e2:N=[]:=by injection q3 with _ q3;injection q3 with q3 _;exact q3.symm
    have e3:x=e':=by injection q3 with _ q3;injection q3 with _ q3;exact q3.symm
    subst e1 e2 e3
    have g5:(x != 0)=true:=by simp[he]
    clear q3 q2
    go_wp2_with fail
    refine (Za CN).mono ?_
    rintro y w5 ⟨⟨a5,n5,c5,rfl,-,-⟩,hb5⟩
    have HB5:=Zb (Ze (Za HB) hb5)
    clear hb5
    go_wp2
    go_ret3
    exact⟨⟨_,_,_,_,_,_,rfl,TextsAt.nil _ _,SlOk.nil,IntsAt.nil _ _,Nat.zero_le _,Nat.le_refl _⟩,Za HB5⟩
  ·have e:j=nl:=by omega
   subst e
   obtain⟨q2,q3⟩:=Za HN
   rw[Bq (by rw[(Za HLL).1];exact Nat.le_refl _)] at q3
   have e1:M=L':=by injection q3 with q3 _;exact q3.symm
   have e2:N=N':=by injection q3 with _ q3;injection q3 with q3 _;exact q3.symm
   have e3:x=0:=by injection q3 with _ q3;injection q3 with _ q3;exact q3.symm
   subst e1 e2 e3
   obtain⟨av,cv,rfl,sv,iv⟩:=ints_of_own (Za HO)
   have hsv1:=sv.1
   have IV:=Zb iv
   clear q2 q3 iv sv hbw
   go_wp2
   go_ret3
   exact⟨⟨_,_,_,_,_,_,rfl,(Za HT').1,(Za HT').2,Za IV,Nat.le_refl _,hsv1⟩,Za HB⟩
end Go.Proofs.YtpikejjiignchaaGreatDoor.Bk
namespace Go.Proofs.YtpikejjiignchaaGreatDoor
open Go.RowKit
theorem Kz:∀ (l:List ByteArray) (L:List ByteArray) (N:List Int) (M:List ByteArray) (N':List Int),Bk.nmGo L N l=(M,N',0)→N'.length=N.length+l.length
 | [],L,N,M,N',h=>by
  unfold Bk.nmGo at h
  injection h with _ h
  injection h with h _
  subst h
  rfl
 | s :: r,L,N,M,N',h=>by
  unfold Bk.nmGo at h
  split at h
  ·have:=Kz r _ _ M N' h
   rw[this,List.length_append,List.length_cons,List.length_cons,List.length_nil]
   omega
  ·rename_i q
   injection h with _ h
   injection h with _ h
   exact absurd h q
theorem Ea{L l M:List ByteArray}{N:List Int}(h:Bk.allR L l=(M,N,0)):N.length=l.length:=by
 unfold Bk.allR at h
 split at h
 ·have:=Kz l L [] M N h
  rw[this]
  simp
 ·rename_i q
  injection h with _ h
  injection h with _ h
  exact absurd h q
theorem Pm(ka:Option Addr)(kn kc:Nat)(L:List ByteArray)(p h k n:Int)(a:Option Addr)(m c:Nat)(T:List TxD)(M:List ByteArray)(nm:Int)(N:List Int)(x:Int)(w:World)(hE:Env w)(hL:Bk.TextsAt w ka kn L)(hT:TxsAt w a m T)(hx:Qt L (p,h,k,n,T)=(M,nm,N,x)) :
  Calls Tryz.prog 37 #[.agg #[.slice ka kn kc],.agg #[.int .i64 p,.int .i64 h,.int .i64 k,.int .i64 n,.slice a m c]] w fun e w'=>NmR w w' M nm N x e:=by
 have hz:T.length=m:=hT.1
 unfold Qt at hx
 by_cases h0:Xb (p,h,k,n,T)=0
 ·rw[if_neg (by rw[h0];decide)] at hx
  obtain⟨⟨M',N',x'⟩,hr⟩:∃ r,Bk.allR L (Xl (p,h,k,n,T))=r:=⟨_,rfl⟩
  rw[hr] at hx
  simp only[hz] at hx
  have hlen:x'=0→N'.length=m+1:=fun e=>by
   subst e
   rw[Ea hr]
   unfold Xl
   simp[hz]
  by_cases hx0:x'=0
  ·subst hx0
   rw[if_neg (by decide)] at hx
   injection hx with e1 e2
   injection e2 with e2 e3
   injection e3 with e3 e4
   subst e1 e2 e3 e4
   exact K8 ka kn kc L p h k n a m c T M' N' 0 w hE hL hT h0 hr hlen _ _ _ (if_pos rfl)
  ·rw[if_pos hx0] at hx
   injection hx with e1 e2
   injection e2 with e2 e3
   injection e3 with e3 e4
   subst e1 e2 e3 e4
   exact K8 ka kn kc L p h k n a m c T M' N' x' w hE hL hT h0 hr hlen _ _ _ (if_neg hx0)
 ·rw[if_pos h0] at hx
  injection hx with e1 e2
  injection e2 with e2 e3
  injection e3 with e3 e4
  subst e1 e2 e3
  exact Zdw ka kn kc p h k n a m c T x w hT e4 (by rw[←e4];exact h0)
def nfD(K:List ByteArray)(C:List Zf)(b:Zk):List Int×Int:=if Yj C≠0 then ([],Yj C) else ((Qt K b).2.2.1,(Qt K b).2.2.2)
def NfR(w w':World)(N:List Int)(x:Int)(e:Ending):Prop:=∃ a n c,e = .returned (.tuple #[.slice a n c,.int .i64 x])∧Bk.IntsAt w' a n N∧n≤c∧Below w.heap.size w w'
set_option maxRecDepth 10000 in
theorem Bs(ka:Option Addr)(kn kc:Nat)(L:List ByteArray)(la:Option Addr)(ln lc:Nat)(C:List Zf)(p h k n:Int)(a:Option Addr)(m c:Nat)(T:List TxD)(N:List Int)(x:Int)(w:World)(hE:Env w)(hL:Bk.TextsAt w ka kn L)(hC:CoinsAt w la ln C)(hT:TxsAt w a m T)(hx:nfD L C (p,h,k,n,T)=(N,x)) :
  Calls Tryz.prog 120 #[.agg #[.slice ka kn kc],.slice la ln lc,.agg #[.int .i64 p,.int .i64 h,.int .i64 k,.int .i64 n,.slice a m c]] w fun e w'=>NfR w w' N x e:=by
 obtain⟨X,hX⟩:∃ X,X=(w.alloc (.cells #[.slice ka kn kc] 24)).alloc (.cells #[.int .i64 p,.int .i64 h,.int .i64 k,.int .i64 n,.slice a m c] 68):=⟨_,rfl⟩
 have hbX:Below w.heap.size w X:=by rw[hX];exact Ze (Zg _ _) (Zg _ _)
 have hX1:X.heap[w.heap.size]? = some (.cells [.slice ka kn kc].toArray 24 (0,0)):=by
  rw[hX,Below.heap_alloc _ _ _ (by simp)];exact Qs _ _ _
 have hX2:X.heap[w.heap.size+1]? = some (.cells [.int .i64 p,.int .i64 h,.int .i64 k,.int .i64 n,.slice a m c].toArray 68 (0,0)):=by
  rw[hX]
  have:=Yd (w.alloc (.cells #[.slice ka kn kc] 24)) (.int .i64 p) (.int .i64 h) (.int .i64 k) (.int .i64 n) (.slice a m c) 68
  rw[show (w.alloc (.cells #[.slice ka kn kc] 24)).heap.size=w.heap.size+1 by simp] at this
  exact this
 obtain⟨y,hy⟩:∃ y,Yj C=y:=⟨_,rfl⟩
 have CK:=Zb (R7 la ln lc C y X (hC.later hbX) hy)
 have HX1:=Zb hX1
 have HX2:=Zb hX2
 have HBX:=Zb hbX
 unfold nfD at hx
 rw[hy] at hx
 by_cases hy0:y=0
 ·subst hy0
  rw[if_neg (by decide)] at hx
  obtain⟨⟨M,nm,N',x'⟩,hr⟩:∃ r,Qt L (p,h,k,n,T)=r:=⟨_,rfl⟩
  rw[hr] at hx
  injection hx with e1 e2
  simp only at e1 e2
  subst e1 e2
  have NA:=Zb (fun W (hb:Below X.heap.size X W)=>Pm ka kn kc L p h k n a m c T M nm N' x' W ((hE.later hbX).later hb) ((hL.later hbX).later hb) ((hT.later hbX).later hb) hr)
  clear hE hL hC hT hy hr hX1 hX2 hbX
  go_enter Tryz.func120,Tryz.ntmps120
  go_wp2_with fail
  rw[←hX]
  clear hX
  refine (Za CK).mono ?_
  rintro e w1 ⟨rfl,hb1⟩
  have h1:=(hb1.block _ (lt_of_block (Za HX1))).trans (Za HX1)
  have h2:=(hb1.block _ (lt_of_block (Za HX2))).trans (Za HX2)
  have k0:=Zd h1 0 _ rfl
  have b0:=Zd h2 0 _ rfl
  have b1:=Zd h2 1 _ rfl
  have b2:=Zd h2 2 _ rfl
  have b3:=Zd h2 3 _ rfl
  have b4:=Zd h2 4 _ rfl
  have l1:=lt_of_block h1
  have l2:=lt_of_block h2
  have N1:=Zb ((Za NA) w1 hb1)
  have HB1:=Zb (Ze (Za HBX) hb1)
  clear hb1 h1 h2 CK NA
  go_wp2_with fail
  refine (Za N1).mono ?_
  rintro e w2 ⟨a',n',c',a2,n2,c2,rfl,_,_,hI,hc,hb2⟩
  have HF:Hid (NfR w (w2.alloc (.cells #[.slice a' n' c'] 24)) N' x' (.returned (.tuple #[.slice a2 n2 c2,.int .i64 x']))):=⟨a2,n2,c2,rfl,hI.later (Zg _ _),hc,Ze (Ze (Za HB1) hb2) (Zg _ _)⟩
  clear hI hc hb2
  go_wp2
  go_ret2
  exact Za HF
 ·rw[if_pos hy0] at hx
  injection hx with e1 e2
  subst e1 e2
  have gy:(y != 0)=true:=by simp[hy0]
  clear hE hL hC hT hy hX1 hX2 hbX hy0
  go_enter Tryz.func120,Tryz.ntmps120
  go_wp2_with fail
  rw[←hX]
  clear hX
  refine (Za CK).mono ?_
  rintro e w1 ⟨rfl,hb1⟩
  have HF:Hid (NfR w w1 [] y (.returned (.tuple #[.slice none 0 0,.int .i64 y]))):=⟨none,0,0,rfl,Bk.IntsAt.nil _ _,Nat.le_refl _,Ze (Za HBX) hb1⟩
  clear hb1
  go_wp2
  go_ret2
  exact Za HF
end Go.Proofs.YtpikejjiignchaaGreatDoor
