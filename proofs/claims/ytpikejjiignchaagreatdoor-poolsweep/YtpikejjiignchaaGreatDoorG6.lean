import Derived.Test.YtpikejjiignchaaGreatDoorG5
import Derived.Test.YtpikejjiignchaaGreatDoorG1
set_option maxHeartbeats 6400000
namespace Go.Proofs.YtpikejjiignchaaGreatDoor.Bk
open Go.RowKit Go.Maps
def nameR(L:List ByteArray)(s:ByteArray):List ByteArray×Int×Int:=if bkChk L=0 then nm L s else ([],0,bkChk L)
theorem Ds(w:World)(s:ByteArray):TextsAt (w.alloc (.cells #[.string s] 9)) (some ⟨w.heap.size,0,none⟩) 1 [s]:=
 ⟨rfl,fun _=>⟨w.heap.size,0,rfl,fun i hi=>by
  have e:i=0:=by simp at hi;omega
  subst e
  exact Qd w (.string s) 9⟩⟩
theorem Zgt(L:List ByteArray)(s:ByteArray):allR L [s]=((nameR L s).1,(if (nameR L s).2.2=0 then [(nameR L s).2.1] else []),(nameR L s).2.2):=by
 unfold allR nameR
 by_cases h0:bkChk L=0
 ·rw[if_pos h0,if_pos h0]
  simp only[nmGo,List.nil_append]
  by_cases h1:(nm L s).2.2=0
  ·rw[if_pos h1,if_pos h1];rw[h1]
  ·rw[if_neg h1,if_neg h1]
   have:(nm L s).1=[]:=by
    unfold nm at *
    by_cases h2:4000<s.size
    ·rw[if_pos h2]
    ·rw[if_neg h2] at *
     by_cases h3:Zl s L≠0
     ·rw[if_pos h3] at h1;exact absurd rfl h1
     ·rw[if_neg h3] at *
      by_cases h4:120≤L.length
      ·rw[if_pos h4]
      ·rw[if_neg h4] at h1;exact absurd rfl h1
   rw[this]
 ·rw[if_neg h0,if_neg h0]
  simp[h0]
theorem Zdc{L:List ByteArray}{s:ByteArray}(h:(nameR L s).2.2≠0):(nameR L s).1=[]∧(nameR L s).2.1=0:=by
 unfold nameR at *
 by_cases h0:bkChk L=0
 ·rw[if_pos h0] at *
  unfold nm at *
  by_cases h2:4000<s.size
  ·rw[if_pos h2];exact⟨rfl,rfl⟩
  ·rw[if_neg h2] at *
   by_cases h3:Zl s L≠0
   ·rw[if_pos h3] at h;exact absurd rfl h
   ·rw[if_neg h3] at *
    by_cases h4:120≤L.length
    ·rw[if_pos h4];exact⟨rfl,rfl⟩
    ·rw[if_neg h4] at h;exact absurd rfl h
 ·rw[if_neg h0];exact⟨rfl,rfl⟩
open Go.RowKit Go.Maps
theorem C9{α : Type}{L M:List α}{j:Nat}(h1:j<L.length)(h2:j<M.length)(h:L.take j=M.take j)(e:L[j]=M[j]):L.take (j+1)=M.take (j+1):=by
 rw[List.take_succ_eq_append_getElem h1,List.take_succ_eq_append_getElem h2,h,e]
theorem Zbm{α : Type}{L M:List α}{j:Nat}(h1:j<L.length)(h2:j<M.length)(e:L[j]≠M[j]):L≠M:=by
 intro h;subst h;exact e rfl
theorem Zfc{s t:ByteArray}(h:s≠t):s.toList≠t.toList:=fun e=>h (by
 rw[ByteArray.toList_eq,ByteArray.toList_eq] at e
 have h4:s.data=t.data:=by rw[←Array.toList_inj];exact e
 cases s;cases t;simp_all)
theorem F8{s t:ByteArray}(h:s≠t):(s.toList == t.toList)=false:=by simp[Zfc h]
set_option maxRecDepth 10000 in
theorem A9(b off b2 off2 n c d:Nat)(L M:List ByteArray)(o:Bool)(w:World)(hn:n≤maxLen)(hz:L.length=n)(hz2:M.length=n)
  (hc:∀ i (h:i<L.length),w.cell? ⟨b,off+i,none⟩=some (.string L[i])) (hc2:∀ i (h:i<M.length),w.cell? ⟨b2,off2+i,none⟩=some (.string M[i])) (ho:decide (L=M)=o) :
  Calls Tryz.prog 24 #[.slice (some ⟨b,off,none⟩) n c,.slice (some ⟨b2,off2,none⟩) n d] w fun e w'=>e = .returned (.bool o)∧Below w.heap.size w w':=by
 have HC:=Zb hc
 have HC2:=Zb hc2
 have HZ:=Zb hz
 have HZ2:=Zb hz2
 have HO:=Zb ho
 have g0:((n:Int) != (n:Int))=false:=by simp
 unfold maxLen at hn
 clear hc hc2 hz hz2 ho
 go_enter Tryz.func24,Tryz.ntmps24
 go_wp2
 go_loopw [13] (fun i wr=>∃ j m:Nat,j≤n∧i = .int .i64 j∧wr=w.drewN m∧Hid (L.take j=M.take j)) (fun i _=>n - (intOf i).toNat)
 case atStart=>exact⟨0,0,Nat.zero_le _,rfl,rfl,rfl⟩
 case round=>
  obtain⟨j,m,hk,rfl,rfl,A⟩:=hrel
  by_cases hlt:j<n
  ·have h1:j<L.length:=by rw[Za HZ];exact hlt
   have h2:j<M.length:=by rw[Za HZ2];exact hlt
   have f1:=(Za HC) j h1
   have f2:=(Za HC2) j h2
   have TM:=Zb (C9 h1 h2 (Za A))
   have TN:=Zb (Zbm h1 h2)
   obtain⟨s,hs⟩:∃ s,L[j]=s:=⟨_,rfl⟩
   obtain⟨t,ht⟩:∃ t,M[j]=t:=⟨_,rfl⟩
   rw[hs] at f1
   rw[ht] at f2
   rw[hs,ht] at TM TN
   clear hs ht A
   by_cases e:s=t
   ·subst e
    have R:=Zb ((Za TM) rfl)
    clear TM TN
    go_wp2
    go_quiet (fail)
    go_wp2
    go_roundw
    case rel=>exact⟨j+1,m+nq,by omega,by go_num,rfl,R⟩
    case measure=>simp[intOf];omega
   ·have R:Hid (o=false):=by show _=_;rw[←Za HO];exact decide_eq_false ((Za TN) e)
    have g:=F8 e
    clear TM TN e
    go_wp2
    go_quiet (fail)
    go_wp2
    go_ret
    exact⟨by rw[Za R];rfl,by simp only[World.drewN_drewN];exact Vt _ _⟩
  ·have R:Hid (o=true):=by
    have h:=Za A
    rw[List.take_of_length_le (by rw[Za HZ];omega),List.take_of_length_le (by rw[Za HZ2];omega)] at h
    show _=_;rw[←Za HO];exact decide_eq_true h
   clear A
   go_wp2
   go_ret
   exact⟨by rw[Za R];rfl,Vt _ _⟩
theorem A8(a a2:Option Addr)(c d:Nat)(w:World) :
  Calls Tryz.prog 24 #[.slice a 0 c,.slice a2 0 d] w fun e w'=>e = .returned (.bool true)∧Below w.heap.size w w':=by
 go_enter Tryz.func24,Tryz.ntmps24
 go_wp2
 refine wp_loop_rounds 1 ?_
 rw[rounds_succ]
 go_wp2
 go_ret
 exact⟨rfl,Below.refl _ _⟩
theorem Zaj(a a2:Option Addr)(n m c d:Nat)(w:World)(h:n≠m) :
  Calls Tryz.prog 24 #[.slice a n c,.slice a2 m d] w fun e w'=>e = .returned (.bool false)∧Below w.heap.size w w':=by
 have g:((n:Int) != (m:Int))=true:=by simp;omega
 go_enter Tryz.func24,Tryz.ntmps24
 go_wp2
 go_ret
 exact⟨rfl,Below.refl _ _⟩
theorem eqStr_is(a a2:Option Addr)(n m c d:Nat)(L M:List ByteArray)(o:Bool)(w:World)(hn:n≤maxLen)(h:TextsAt w a n L)(h2:TextsAt w a2 m M)(ho:decide (L=M)=o) :
  Calls Tryz.prog 24 #[.slice a n c,.slice a2 m d] w fun e w'=>e = .returned (.bool o)∧Below w.heap.size w w':=by
 by_cases e:n=m
 ·subst e
  by_cases h0:n=0
  ·subst h0
   have e1:L=[]:=List.length_eq_zero_iff.1 h.1
   have e2:M=[]:=List.length_eq_zero_iff.1 h2.1
   subst e1 e2
   have:o=true:=by rw[←ho];rfl
   subst this
   exact A8 a a2 c d w
  ·obtain⟨b,off,rfl,hc⟩:=h.2 (by omega)
   obtain⟨b2,off2,rfl,hc2⟩:=h2.2 (by omega)
   exact A9 b off b2 off2 n c d L M o w hn h.1 h2.1 hc hc2 ho
 ·have:o=false:=by
   rw[←ho]
   exact decide_eq_false (fun e2=>e (by rw[←h.1,←h2.1,e2]))
  subst this
  exact Zaj a a2 n m c d w e
open Go.RowKit Go.Maps
theorem Cv(z:Array Value)(n:Nat):(Builtin.zeroCells z n).size=n*z.size:=by simp[Builtin.zeroCells]
theorem Zdr(n:Nat)(w:World)(hn:n≤240) :
  Calls Tryz.prog 146 #[.slice none 0 0,.int .i64 n] w fun e w'=>∃ v,e = .returned v∧w'.ownsRow w.heap.size 9 1 v 0 []∧Below w.heap.size w w':=by
 obtain⟨i0,hi,hz0,hz1,hz2⟩:=info_parts Tryz.info9
 by_cases h:n=0
 ·subst h
  exact (Any8.slices_Grow_room Tryz.growS none 0 0 0 w (Nat.le_refl _) (by omega) (by omega) (by omega)).mono fun e w' ⟨h1,h2⟩=>⟨_,h1,⟨rfl,Or.inl ⟨rfl,rfl⟩⟩,h2 ▸ Below.refl _ _⟩
 ·refine (Any8.slices_Grow_grow Tryz.growS i0 (.string ⟨#[]⟩) hi hz0 (by rw[hz1];decide) none 0 0 n [] w (Nat.le_refl _) (by omega) (by rw[hz2];omega) (by omega) (by simp) (fun _=>rfl) (fun a h=>by cases h)).mono fun e w' ⟨h1,h2⟩=>⟨_,h1,?_,?_⟩
  ·rw[h2]
   have hge:=grownCap_ge w (0+n) 0 (Tryz.growS_ren.t 25)
   have hle:=grownCap_le_maxLen w (0+n) 0 (Tryz.growS_ren.t 25) (by unfold maxLen;omega)
   refine⟨rfl,Or.inr ⟨w.heap.size,_,_,rfl,Nat.le_refl _,heap_alloc_new _ _,Nat.zero_le _,hle,?_,rfl⟩⟩
   simp only[Array.size_append,Cv,List.size_toArray,List.length_nil]
   show 0+(0+n - 0)*1+_*1=_*1
   omega
  ·rw[h2]
   exact⟨rfl,rfl,rfl,by simp,fun k hk=>Below.heap_alloc w.drew _ k hk⟩
theorem TextsAt.news{w:World}{x:Addr}{len:Nat}{L:List ByteArray}(h:TextsAt w (some x) len L)(j:Nat)(u:Value)(hj:(L.map Value.string)[j]? = some u):w.cell? (x.add j)=some u:=by
 have hjl:j<L.length:=by
  rcases Nat.lt_or_ge j L.length with h|h
  ·exact h
  ·rw[List.getElem?_eq_none (by simpa using h)] at hj;cases hj
 have hz:=h.1
 obtain⟨b,off,hx,hc⟩:=h.2 (by omega)
 cases hx
 have hadd:(⟨b,off,none⟩:Addr).add j=⟨b,off+j,none⟩:=by unfold Addr.add;split <;> simp_all
 rw[hadd,hc j hjl]
 simpa[hjl] using hj
set_option maxRecDepth 100000 in
theorem Bg(B:Nat)(ak:Option Addr)(y:Addr)(lenk capk len cap:Nat)(k l:List ByteArray)(w:World)(hsum:lenk+len≤240)(hK:TextsAt w ak lenk k)(hL:TextsAt w (some y) len l)
  (hkn:ak=none→lenk=0∧capk=0)
  (c0:w.cell? ⟨B,0,none⟩=some (.slice ak lenk capk)) (c1:w.cell? ⟨B,1,none⟩=some (.slice (some y) len cap)) :
  Calls Tryz.prog 106 #[.slice (some ⟨B,0,none⟩) 2 2] w fun e w'=>∃ a' cap',e = .returned (.slice a' (lenk+len) cap')∧TextsAt w' a' (lenk+len) (k++l)∧SlOk a' (lenk+len) cap'∧(∀ y,a'=some y→w.heap.size≤y.block)∧Below w.heap.size w w':=by
 obtain⟨i0,hi,hz0,hz1,hz2⟩:=info_parts Tryz.info9
 have hBl:B<w.heap.size:=World.block_lt_of_cell? _ _ c0
 have hzk:=hK.1
 have hzl:=hL.1
 have HK:=Zb hK
 have HL:=Zb hL
 have HKN:=Zb hkn
 have HZK:=Zb hzk
 have HZL:=Zb hzl
 clear hK hL hkn hzk hzl
 go_enter Tryz.func106,Tryz.ntmps106
 go_wp2
 refine wp_loop_rounds 3 ?_
 rw[rounds_succ]
 go_wp2
 rw[rounds_succ]
 go_wp2
 rw[rounds_succ]
 have GR:=Zb (Zdr (lenk+len) w hsum)
 rw[Int.natCast_add] at GR
 go_wp2_with fail
 refine (Za GR).mono ?_
 rintro e w1 ⟨v,rfl,hw1,hb1⟩
 have HW1:=Zb hw1
 have HB1:=Zb hb1
 have c01:=(hb1.cell (p:=⟨B,0,none⟩) hBl).trans c0
 have c11:=(hb1.cell (p:=⟨B,1,none⟩) hBl).trans c1
 clear hw1 hb1
 rcases ak with _|x
 ·go_wp2
  refine wp_loop_rounds 3 ?_
  rw[rounds_succ]
  obtain⟨rfl,rfl⟩:=(Za HKN) (by trivial)
  have ek:k=[]:=List.length_eq_zero_iff.1 (Za HZK)
  subst ek
  go_wp2_with (at_builtin;refine wpList_append_own_none rfl _ _ 22 rfl w.heap.size 9 i0 1 Tryz.underlying22 hi _ _ _ rfl (Za HW1) rfl ?_)
  have HW2:Hid (w1.ownsRow w.heap.size 9 1 v (0+0) (([]:List ByteArray).map Value.string)):=Za HW1
  have HB2:=HB1
  have c02:=c01
  have c12:=c11
  clear c01 c11
  go_wp2
  rw[rounds_succ]
  go_wp2_with (at_builtin;refine wpList_append_own _ rfl _ _ 22 rfl w.heap.size 9 i0 (.string ⟨#[]⟩) 1 16 Tryz.underlying22 hi hz0 hz1 hz2 rfl (by decide) _ _ _ rfl (Za HW2) y len cap (l.map Value.string) rfl (by rw[List.length_map,Za HZL];omega) (fun j u hj=>((Za HL).later (Za HB2)).news j u hj) (fun u hu=>by obtain⟨x,_,rfl⟩:=List.mem_map.1 hu;rfl) (by unfold maxLen;omega) (by omega) (Za HB2).size ?_;intro v2 w3 hown3 hgrow3 _)
  have HW3:Hid (w3.ownsRow w.heap.size 9 1 v2 ((0+0)+len) ((([]:List ByteArray)++l).map Value.string)):=by rw[List.map_append];exact hown3
  have HB3:=Zb ((Za HB2).grown hgrow3 (Za HB2).size (Uu (Za HW2)))
  clear hown3 hgrow3
  obtain⟨a',cap',hv,s1,s2,s3,hO⟩:=Xz (Za HW3)
  have HGE:Hid (∀ y,a'=some y→w.heap.size≤y.block):=fun y e=>Uu (Za HW3) y.block (by rw[hv,e];rfl)
  have HV:=Zb hv
  have HO2:=Zb hO
  have HOK:Hid (SlOk a' ((0+0)+len) cap'):=⟨s1,s2,s3⟩
  clear hv hO c02 c12 s1 s2 s3
  go_wp2
  rw[rounds_succ]
  go_wp2
  go_ret
  refine⟨a',cap',?_,?_,?_,Za HGE,Za HB3⟩
  ·rw[Za HV];simp
  ·simpa using Za HO2
  ·simpa using Za HOK
 ·go_wp2
  refine wp_loop_rounds 3 ?_
  rw[rounds_succ]
  go_wp2_with (at_builtin;refine wpList_append_own _ rfl _ _ 22 rfl w.heap.size 9 i0 (.string ⟨#[]⟩) 1 16 Tryz.underlying22 hi hz0 hz1 hz2 rfl (by decide) _ _ _ rfl (Za HW1) x lenk capk (k.map Value.string) rfl (by rw[List.length_map,Za HZK];omega) (fun j u hj=>((Za HK).later (Za HB1)).news j u hj) (fun u hu=>by obtain⟨x,_,rfl⟩:=List.mem_map.1 hu;rfl) (by unfold maxLen;omega) (by omega) (Za HB1).size ?_;intro v1 w2 hown2 hgrow2 _)
  have HW2:Hid (w2.ownsRow w.heap.size 9 1 v1 (0+lenk) (k.map Value.string)):=Zb (by simpa using hown2)
  have HB2:=Zb ((Za HB1).grown hgrow2 (Za HB1).size (Uu (Za HW1)))
  have c02:=((Za HB2).cell (p:=⟨B,0,none⟩) hBl).trans c0
  have c12:=((Za HB2).cell (p:=⟨B,1,none⟩) hBl).trans c1
  clear hown2 hgrow2
  clear c01 c11
  go_wp2
  rw[rounds_succ]
  go_wp2_with (at_builtin;refine wpList_append_own _ rfl _ _ 22 rfl w.heap.size 9 i0 (.string ⟨#[]⟩) 1 16 Tryz.underlying22 hi hz0 hz1 hz2 rfl (by decide) _ _ _ rfl (Za HW2) y len cap (l.map Value.string) rfl (by rw[List.length_map,Za HZL];omega) (fun j u hj=>((Za HL).later (Za HB2)).news j u hj) (fun u hu=>by obtain⟨x,_,rfl⟩:=List.mem_map.1 hu;rfl) (by unfold maxLen;omega) (by omega) (Za HB2).size ?_;intro v2 w3 hown3 hgrow3 _)
  have HW3:Hid (w3.ownsRow w.heap.size 9 1 v2 ((0+lenk)+len) ((k++l).map Value.string)):=by rw[List.map_append];exact hown3
  have HB3:=Zb ((Za HB2).grown hgrow3 (Za HB2).size (Uu (Za HW2)))
  clear hown3 hgrow3
  obtain⟨a',cap',hv,s1,s2,s3,hO⟩:=Xz (Za HW3)
  have HGE:Hid (∀ y,a'=some y→w.heap.size≤y.block):=fun y e=>Uu (Za HW3) y.block (by rw[hv,e];rfl)
  have HV:=Zb hv
  have HO2:=Zb hO
  have HOK:Hid (SlOk a' ((0+lenk)+len) cap'):=⟨s1,s2,s3⟩
  clear hv hO c02 c12 s1 s2 s3
  go_wp2
  rw[rounds_succ]
  go_wp2
  go_ret
  refine⟨a',cap',?_,?_,?_,Za HGE,Za HB3⟩
  ·rw[Za HV];simp
  ·simpa using Za HO2
  ·simpa using Za HOK
open Go.RowKit Go.Maps
theorem G0{s:ByteArray}{L:List ByteArray}{k:Nat}(h:k<L.length)(h0:Zl s (L.take k)=0)(e:L[k]≠s):Zl s (L.take (k+1))=0:=by
 rw[List.take_succ_eq_append_getElem h,Wb,if_pos h0]
 have:Zl s [L[k]]=0:=by rw[place_zero];simp;exact fun h2=>e h2.symm
 rw[this];rfl
theorem Lh{s:ByteArray}{L:List ByteArray}{k:Nat}(h:k<L.length)(h0:Zl s (L.take k)=0)(e:L[k]=s):Zl s L=k+1:=by
 have h1:Zl s (L.take (k+1))=k+1:=by
  rw[List.take_succ_eq_append_getElem h,Wb,if_pos h0,e]
  simp[Zl];omega
 rw[Qb] at h1
 split at h1
 ·exact h1
 ·omega
def idx(s:ByteArray)(L:List ByteArray):Int:=(Zl s L:Int) - 1
set_option maxRecDepth 10000 in
theorem Zdl(a:Option Addr)(n c:Nat)(L:List ByteArray)(s:ByteArray)(x:Int)(w:World)(hn:n≤maxLen)(h:TextsAt w a n L)(hx:idx s L=x) :
  Calls Tryz.prog 40 #[.slice a n c,.string s] w fun e w'=>e = .returned (.int .i64 x)∧Below w.heap.size w w':=by
 have HT:=Zb h
 have HX:=Zb hx
 unfold maxLen at hn
 clear h hx
 go_enter Tryz.func40,Tryz.ntmps40
 go_wp2
 go_loop [8] (fun i=>∃ j:Nat,j≤n∧i = .int .i64 j∧Hid (Zl s (L.take j)=0)) (fun i=>n - (intOf i).toNat)
 case atStart=>exact⟨0,Nat.zero_le _,rfl,rfl⟩
 case round=>
  obtain⟨j,hk,rfl,A⟩:=hrel
  by_cases hlt:j<n
  ·obtain⟨hz,hcs⟩:=Za HT
   obtain⟨b,off,rfl,hc⟩:=hcs (by omega)
   have h1:j<L.length:=by omega
   have f:=hc j h1
   have PS:=Zb (G0 h1 (Za A))
   have PH:=Zb (Lh h1 (Za A))
   obtain⟨t,ht⟩:∃ t,L[j]=t:=⟨_,rfl⟩
   rw[ht] at f PS PH
   clear ht A hc hcs hz
   by_cases e:t=s
   ·subst e
    have R:Hid (x=j):=by show _=_;rw[←Za HX];unfold idx;rw[(Za PH) rfl];omega
    clear PS PH
    go_wp2
    go_ret
    exact⟨by rw[Za R];rfl,Below.refl _ _⟩
   ·have R:=Zb ((Za PS) e)
    have g:=F8 (fun h:s=t=>e h.symm)
    clear PS PH e
    go_wp2
    go_round
    case rel=>exact⟨j+1,by omega,by go_num,R⟩
    case measure=>simp[intOf];omega
  ·have R:Hid (x = -1):=by
    have h:=Za A
    rw[List.take_of_length_le (by rw[(Za HT).1];omega)] at h
    show _=_;rw[←Za HX];unfold idx;rw[h];rfl
   clear A
   go_wp2
   go_ret
   exact⟨by rw[Za R];rfl,Below.refl _ _⟩
open Go.RowKit Go.Maps
theorem Zhy{L:List ByteArray}{j:Nat}(h:j<L.length):(idx L[j] L<(j:Int))↔Zl L[j] (L.take j)≠0:=by
 have h1:=Zcp h
 unfold idx
 rw[Qb]
 by_cases h2:Zl L[j] L≤j
 ·rw[if_pos h2];constructor
  ·intro _;omega
  ·intro _;omega
 ·rw[if_neg h2];constructor
  ·intro h3;omega
  ·intro h3;exact absurd rfl h3
theorem Zhz(s:ByteArray)(L:List ByteArray) : -1≤idx s L∧idx s L<L.length:=by
 have:=Dl s L
 unfold idx;omega
set_option maxRecDepth 10000 in
theorem rcheck_is(a:Option Addr)(n c:Nat)(L:List ByteArray)(w:World)(h:TextsAt w a n L)(x:Int)(hx:bkChk L=x) :
  Calls Tryz.prog 14 #[.agg #[.slice a n c]] w fun e w'=>e = .returned (.int .i64 x)∧Below w.heap.size w w':=by
 have hb:=Zf w (.cells #[.slice a n c] 24)
 have c0:=Qd w (.slice a n c) 24
 obtain⟨W,hW⟩:∃ W,W=w.alloc (.cells #[.slice a n c] 24):=⟨_,rfl⟩
 have hz:=h.1
 by_cases h1:120<n
 ·have e:x=2:=by rw[←hx];unfold bkChk;rw[if_pos (by omega)]
  subst e
  have g:(120:Int)<(n:Int):=by omega
  have HB:=Zb hb
  clear h hx h1 hz hb c0 hW
  go_enter Tryz.func14,Tryz.ntmps14
  go_wp2
  go_ret
  exact⟨rfl,Za HB⟩
 ·have g:¬(120:Int)<(n:Int):=by omega
  have HX:Hid (Je [] L=x):=by show _=_;rw[←hx];unfold bkChk;rw[if_neg (by omega)]
  rw[←hW] at hb c0
  have HB:=Zb hb
  have HT:=Zb (h.later hb)
  have C0:=Zb c0
  have hn:n≤120:=by omega
  clear h hx h1 hb c0 hz
  go_enter Tryz.func14,Tryz.ntmps14
  go_wp2
  rw[←hW]
  clear hW
  go_loopw [12] (fun i wr=>∃ j:Nat,j≤n∧i = .int .i64 j∧Below W.heap.size W wr∧Hid (Je (L.take j) (L.drop j)=x)) (fun i _=>n - (intOf i).toNat)
  case atStart=>exact⟨0,Nat.zero_le _,rfl,Below.refl _ _,Za HX⟩
  case round=>
   obtain⟨j,hk,rfl,hbw,A⟩:=hrel
   have HBW:=Zb hbw
   by_cases hlt:j<n
   ·have ht:=(Za HT).later hbw
    obtain⟨hz,hcs⟩:=ht
    obtain⟨b,off,rfl,hc⟩:=hcs (by omega)
    have hlj:j<L.length:=by omega
    have f:=hc j hlj
    have c1:=Zc hbw (Za C0)
    have hl1:w.heap.size<wr.heap.size:=World.block_lt_of_cell? _ _ c1
    have S:=Zgx hlj
    rw[Za A] at S
    have IL:=Zhy hlj
    have IG:=Zhz L[j] L
    obtain⟨s,hs⟩:∃ s,L[j]=s:=⟨_,rfl⟩
    rw[hs] at f S IL IG
    have IX:=Zb (Zdl (some ⟨b,off,none⟩) n c L s (idx s L) wr (by unfold maxLen;omega) ((Za HT).later hbw) rfl)
    obtain⟨q,hq⟩:∃ q,idx s L=q:=⟨_,rfl⟩
    rw[hq] at IL IX IG
    clear hs hq hbw A hc hcs hz
    by_cases h2:4000<s.size
    ·rw[if_pos h2] at S
     subst S
     have g2:(4000:Int)<(s.size:Int):=by omega
     clear h2 IL IG
     go_wp2
     go_ret
     exact⟨rfl,Ze (Za HB) (Za HBW)⟩
    ·rw[if_neg h2] at S
     have g2:¬(4000:Int)<(s.size:Int):=by omega
     by_cases h3:Zl s (L.take j)≠0
     ·rw[if_pos h3] at S
      subst S
      have g3:=IL.2 h3
      clear h2 h3 IL IG
      go_wp2_with fail
      refine (Za IX).mono ?_
      rintro e w2 ⟨rfl,hb2⟩
      have HB2:=Zb (Ze (Ze (Za HB) (Za HBW)) hb2)
      clear hb2
      go_wp2
      go_ret
      exact⟨rfl,Za HB2⟩
     ·rw[if_neg h3] at S
      have HS:Hid (Je (L.take (j+1)) (L.drop (j+1))=x):=S.symm
      have g3:¬q<(j:Int):=fun h=>h3 (IL.1 h)
      clear h2 h3 IL IG S
      go_wp2_with fail
      refine (Za IX).mono ?_
      rintro e w2 ⟨rfl,hb2⟩
      have HB2:=Zb (Ze (Za HBW) hb2)
      clear hb2
      go_wp2
      go_roundw
      case rel=>exact⟨j+1,by omega,by go_num,Za HB2,HS⟩
      case measure=>simp[intOf];omega
   ·have R:Hid (x=0):=by show _=_;rw[←Za A];exact Zen (by rw[(Za HT).1];omega)
    clear A hbw
    go_wp2
    go_ret
    exact⟨by rw[Za R];rfl,Ze (Za HB) (Za HBW)⟩
set_option maxRecDepth 10000 in
theorem named_is(a:Option Addr)(n c:Nat)(L M:List ByteArray)(s:ByteArray)(k x:Int)(w:World)(hL:L.length≤120)(h:TextsAt w a n L)(hs:SlOk a n c)(hx:nm L s=(M,k,x)) :
  Calls Tryz.prog 58 #[.slice a n c,.string s] w fun e w'=>(∃ a' n' c',e = .returned (.tuple #[.slice a' n' c',.int .i64 k,.int .i64 x])∧TextsAt w' a' n' M∧SlOk a' n' c'∧(a'=a∧n'=n∨∀ y,a'=some y→w.heap.size≤y.block))∧Below w.heap.size w w':=by
 have hz:=h.1
 by_cases h1:4000<s.size
 ·have e1:nm L s=([],0,2):=by unfold nm;rw[if_pos h1]
  rw[e1] at hx
  obtain⟨rfl,hn2⟩:=Prod.mk.injEq .. ▸ hx
  obtain⟨rfl,rfl⟩:=Prod.mk.injEq .. ▸ hn2
  have g:(4000:Int)<(s.size:Int):=by omega
  clear hx hn2 e1 h1 h hs hL hz
  go_enter Tryz.func58,Tryz.ntmps58
  go_wp2
  go_ret3
  exact⟨⟨_,_,_,rfl,TextsAt.nil _ _,SlOk.nil,Or.inr (fun y e=>by cases e)⟩,Below.refl _ _⟩
 ·have g:¬(4000:Int)<(s.size:Int):=by omega
  have hn:n≤120:=by omega
  have HX:Hid ((if Zl s L≠0 then (L,(Zl s L:Int),0) else if 120≤L.length then ([],0,12) else (L++[s],(L.length:Int)+1,0))=(M,k,x)):=by
   show _=_
   rw[←hx];unfold nm;rw[if_neg h1]
  have HT:=Zb h
  have HS:=Zb hs
  clear h hs hx h1 hz hL
  go_enter Tryz.func58,Tryz.ntmps58
  go_wp2
  go_loop [14] (fun i=>∃ j:Nat,j≤n∧i = .int .i64 j∧Hid (Zl s (L.take j)=0)) (fun i=>n - (intOf i).toNat)
  case atStart=>exact⟨0,Nat.zero_le _,rfl,rfl⟩
  case round=>
   obtain⟨j,hk,rfl,A⟩:=hrel
   by_cases hlt:j<n
   ·obtain⟨hz,hcs⟩:=Za HT
    obtain⟨b,off,rfl,hc⟩:=hcs (by omega)
    have hlj:j<L.length:=by omega
    have f:=hc j hlj
    have PS:=Zb (G0 hlj (Za A))
    have PH:=Zb (Lh hlj (Za A))
    obtain⟨t,ht⟩:∃ t,L[j]=t:=⟨_,rfl⟩
    rw[ht] at f PS PH
    clear ht A hc hcs hz
    by_cases e:t=s
    ·subst e
     have e2:=(Za PH) rfl
     have q:=Za HX
     rw[e2,if_pos (by omega)] at q
     have q1:L=M:=by injection q
     have q2:((j+1:Nat):Int)=k:=by injection q with _ q;injection q
     have q3:(0:Int)=x:=by injection q with _ q;injection q
     subst q1 q3
     have q4:k=(j:Int)+1:=by omega
     subst q4
     clear PS PH q q2 e2
     go_wp2
     go_ret3
     exact⟨⟨_,_,_,rfl,Za HT,Za HS,Or.inl ⟨rfl,rfl⟩⟩,Below.refl _ _⟩
    ·have R:=Zb ((Za PS) e)
     have g2:=F8 e
     clear PS PH e
     go_wp2
     go_round
     case rel=>exact⟨j+1,by omega,by go_num,R⟩
     case measure=>simp[intOf];omega
   ·have p0:=Za A
    rw[List.take_of_length_le (by rw[(Za HT).1];omega)] at p0
    have q:=Za HX
    rw[p0,if_neg (by omega)] at q
    have hzl:=(Za HT).1
    by_cases h2:120≤L.length
    ·rw[if_pos h2] at q
     obtain⟨rfl,hn2⟩:=Prod.mk.injEq .. ▸ q
     obtain⟨rfl,rfl⟩:=Prod.mk.injEq .. ▸ hn2
     have g2:(120:Int)≤(n:Int):=by omega
     clear q hn2 p0 h2 A hzl
     go_wp2
     go_ret3
     exact⟨⟨_,_,_,rfl,TextsAt.nil _ _,SlOk.nil,Or.inr (fun y e=>by cases e)⟩,Below.refl _ _⟩
    ·rw[if_neg h2] at q
     obtain⟨rfl,hn2⟩:=Prod.mk.injEq .. ▸ q
     obtain⟨rfl,rfl⟩:=Prod.mk.injEq .. ▸ hn2
     have g2:¬(120:Int)≤(n:Int):=by omega
     have hb1:=Zf w (.cells #[.string s] 9)
     have hs1:(w.alloc (.cells #[.string s] 9)).heap.size=w.heap.size+1:=by simp
     have hb2:=Zf (w.alloc (.cells #[.string s] 9)) (.cells #[.slice a n c,.slice (some ⟨w.heap.size,0,none⟩) 1 1] 22)
     have c0:((w.alloc (.cells #[.string s] 9)).alloc (.cells #[.slice a n c,.slice (some ⟨w.heap.size,0,none⟩) 1 1] 22)).cell? ⟨w.heap.size+1,0,none⟩=some (.slice a n c):=by rw[←hs1,World.cell?_alloc_at _ _ _ _ rfl];rfl
     have c1:((w.alloc (.cells #[.string s] 9)).alloc (.cells #[.slice a n c,.slice (some ⟨w.heap.size,0,none⟩) 1 1] 22)).cell? ⟨w.heap.size+1,1,none⟩=some (.slice (some ⟨w.heap.size,0,none⟩) 1 1):=by rw[←hs1,World.cell?_alloc_at _ _ _ _ rfl];rfl
     have CT:=Zb (Bg (w.heap.size+1) a ⟨w.heap.size,0,none⟩ n c 1 1 L [s] _ (by omega) ((Za HT).later (Ze hb1 hb2)) ((Ds w s).later hb2) (Za HS).2.2 c0 c1)
     have HB:=Zb (Ze hb1 hb2)
     have hzz:=Zb hzl
     clear q hn2 p0 h2 A hb1 hb2 hs1 c0 c1 hzl
     go_wp2_with fail
     refine (Za CT).mono ?_
     rintro e w2 ⟨a',cap',rfl,t1,t2,t3,hb2⟩
     have T3:Hid (∀ y,a'=some y→w.heap.size≤y.block):=fun y e=>Nat.le_trans (Za HB).size (t3 y e)
     have HB2:=Zb (Ze (Za HB) hb2)
     have T1:=Zb t1
     have T2:=Zb t2
     clear t1 t2 t3 hb2
     go_wp2
     go_ret3
     refine⟨⟨a',n+1,cap',?_,Za T1,Za T2,Or.inr (Za T3)⟩,Za HB2⟩
     rw[Za hzz];rfl
end Go.Proofs.YtpikejjiignchaaGreatDoor.Bk
namespace Go.Proofs.YtpikejjiignchaaGreatDoor
open Go.RowKit
set_option maxRecDepth 10000 in
theorem Li(x:Zg)(a:Option Addr)(n c:Nat)(p:PtD)(z:Int)(w:World)(hz:P4 (pt x) p=z) :
  Calls Tryz.prog 229 #[cnV x a n c,.agg #[.int .i64 p.1,.int .i64 p.2]] w fun e w'=>e = .returned (.int .i64 z)∧Below w.heap.size w w':=by
 unfold cnV
 have HB:=Zb (Ze (Zf w (.cells #[.int .i64 x.1,.int .i64 x.2.1,.int .i64 (cv x),.slice a n c,.int .i64 (ch x),.bool (cr x)] 103)) (Zf _ (.cells #[.int .i64 p.1,.int .i64 p.2] 99)))
 have C:=Zb (fun w=>Rm (pt x) p z w hz)
 unfold pt at C
 clear hz
 go_enter Tryz.func229,Tryz.ntmps229
 go_wp2_with fail
 refine ((Za C) _).mono ?_
 rintro e w2 ⟨rfl,hb2⟩
 have HB2:=Zb (Ze (Za HB) hb2)
 clear hb2
 go_wp2
 go_ret
 exact⟨rfl,Za HB2⟩
theorem Ez{L:List Zg}(h:Srt L)(p:PtD)(i:Nat)(hi:i≤L.length)(h1:∀ t (ht:t<L.length),t<i→lt (pt L[t]) p=true)(h2:∀ t (ht:t<L.length),i≤t→lt (pt L[t]) p=false):pos p L=i:=by
 obtain⟨e1,_⟩:=V7 (p:=p) h
 have hl:=Zcn p L
 rcases Nat.lt_trichotomy (pos p L) i with q|q|q
 ·have:=h1 (pos p L) (by omega) q
  have hm:L[pos p L]'(by omega)∈L.drop (pos p L):=by rw[List.drop_eq_getElem_cons (by omega)];exact List.mem_cons_self ..
  rw[(V7 (p:=p) h).2,List.mem_filter] at hm
  rw[this] at hm
  exact absurd hm.2 (by decide)
 ·exact q
 ·have:=h2 i (by omega) (Nat.le_refl _)
  have hm:L[i]'(by omega)∈L.take (pos p L):=by
   rw[List.mem_take_iff_getElem]
   exact⟨i,by omega,rfl⟩
  rw[e1,List.mem_filter,this] at hm
  exact absurd hm.2 (by decide)
theorem Np{L:List Zg}(h:Srt L)(p:PtD)(i j:Nat)(hi:i<L.length)(hj:j<L.length)(hij:i≤j)(hl:lt (pt L[j]) p=true):lt (pt L[i]) p=true:=by
 rcases Nat.lt_or_ge i j with q|q
 ·exact lt_trans (List.pairwise_iff_getElem.1 h i j hi hj q) hl
 ·obtain rfl:i=j:=by omega
  exact hl
set_option maxRecDepth 10000 in
theorem Zeo(b off n c:Nat)(L:List Zg)(p:PtD)(k:Nat)(f:Bool)(w:World)(hs:Srt L)(hn:n≤4611686018427387903)(hz:L.length=n)(hc:∀ i (h:i<L.length),CoinAt w b (off+i*6) L[i])
  (hk:pos p L=k) (hf:Wc p L=f) :
  Calls Tryz.prog 228 #[.slice (some ⟨b,off,none⟩) n c,.agg #[.int .i64 p.1,.int .i64 p.2],.func (.func 229) #[] #[]] w fun e w'=>e = .returned (.tuple #[.int .i64 k,.bool f])∧Below w.heap.size w w':=by
 have HS:=Zb hs
 have HC:=Zb hc
 have HZ:=Zb hz
 have HK:=Zb hk
 have HF:=Zb hf
 clear hs hc hz hk hf
 obtain⟨X,hX⟩:∃ X,X=w.alloc (.cells #[.int .i64 p.1,.int .i64 p.2] 99):=⟨_,rfl⟩
 obtain⟨n0,n1⟩:=Yd w (.int .i64 p.1) (.int .i64 p.2) 99
 rw[←hX] at n0 n1
 have hbX:Below w.heap.size w X:=by rw[hX];exact Zf _ _
 have HBX:=Zb hbX
 have N0:=Zb n0
 have N1:=Zb n1
 clear n0 n1 hbX
 go_enter Tryz.func228,Tryz.ntmps228
 go_wp2
 rw[←hX]
 clear hX
 go_loopw [9,10] (fun s9 s10 wr=>∃ lo hi:Nat,s9 = .int .i64 lo∧s10 = .int .i64 hi∧lo≤hi∧hi≤n∧Hid ((∀ t (ht:t<L.length),t<lo→lt (pt L[t]) p=true)∧(∀ t (ht:t<L.length),hi≤t→lt (pt L[t]) p=false))∧Below X.heap.size X wr) (fun s9 s10 _=>(intOf s10).toNat - (intOf s9).toNat)
 case atStart=>exact⟨0,n,rfl,rfl,Nat.zero_le _,Nat.le_refl _,(⟨fun t _ h=>absurd h (by omega),fun t ht h=>absurd ht (by rw[Za HZ];omega)⟩:(∀ t (ht:t<L.length),t<0→lt (pt L[t]) p=true)∧(∀ t (ht:t<L.length),n≤t→lt (pt L[t]) p=false)),Below.refl _ _⟩
 case round=>
  obtain⟨lo,hi,rfl,rfl,hlh,hin,I,hb⟩:=hrel
  have HB:=Zb hb
  have m0:=Zc hb (Za N0)
  have m1:=Zc hb (Za N1)
  have hsz:=World.block_lt_of_cell? _ _ m0
  by_cases hlt:lo<hi
  ·obtain⟨m,hm⟩:∃ m:Nat,m=(lo+hi) / 2:=⟨_,rfl⟩
   have hmI:((lo:Int)+(hi:Int)) / 2=(m:Int):=by omega
   have hmn:m<n:=by omega
   have hmn2:(m:Int)<(n:Int):=by omega
   have hml:m<L.length:=by rw[Za HZ];exact hmn
   have hin:=CoinAt.kept _ _ _ _ _ (Ze (Za HBX) hb) ((Za HC) m hml)
   have I1:Hid (lt (pt L[m]) p=true→(∀ t (ht:t<L.length),t<m+1→lt (pt L[t]) p=true)∧(∀ t (ht:t<L.length),hi≤t→lt (pt L[t]) p=false)):=fun h=>⟨fun t ht h2=>Np (Za HS) p t m ht hml (by omega) h,(Za I).2⟩
   have I2:Hid (lt (pt L[m]) p=false→(∀ t (ht:t<L.length),t<lo→lt (pt L[t]) p=true)∧(∀ t (ht:t<L.length),m≤t→lt (pt L[t]) p=false)):=fun h=>⟨(Za I).1,fun t ht h2=>by
    rw[←Bool.not_eq_true]
    intro q
    rw[Np (Za HS) p m t hml ht h2 q] at h
    exact Bool.noConfusion h⟩
   obtain⟨x,hx⟩:∃ x,L[m]=x:=⟨_,rfl⟩
   rw[hx] at hin I1 I2
   obtain⟨a,l,d,g1,g2,g3,g4,g5,g6,_,_⟩:=hin.val
   obtain⟨z,hz⟩:∃ z,P4 (pt x) p=z:=⟨_,rfl⟩
   have C:=Zb (fun w=>Li x a l d p z w hz)
   unfold cnV at C
   have hz2:z<0↔lt (pt x) p=true:=by rw[←hz];exact Mu
   have hml2:lo≤m:=by omega
   have hmh:m<hi:=by omega
   have HM:=Zb hm
   clear hin hx hz I hb hm
   by_cases hz0:z<0
   ·have J:=Zb ((Za I1) (hz2.1 hz0))
    clear I1 I2 hz2
    go_wp2_with fail
    go_region_held3 (fun w'=>Below wr.heap.size wr w'∧w'.cell? ⟨w.heap.size,0,none⟩=some (.int .i64 p.1)∧w'.cell? ⟨w.heap.size,1,none⟩=some (.int .i64 p.2)∧w'.cell? ⟨b,off+m*6,none⟩=some (.int .i64 x.1)∧w'.cell? ⟨b,off+m*6+1,none⟩=some (.int .i64 x.2.1)∧w'.cell? ⟨b,off+m*6+2,none⟩=some (.int .i64 (cv x))∧w'.cell? ⟨b,off+m*6+3,none⟩=some (.slice a l d)∧w'.cell? ⟨b,off+m*6+4,none⟩=some (.int .i64 (ch x))∧w'.cell? ⟨b,off+m*6+5,none⟩=some (.bool (cr x)))
     (first
     | exact⟨Zi _,m0,m1,g1,g2,g3,g4,g5,g6⟩
     | (go_split_ands;refine⟨Ze (by assumption) hbc,Zc hbc (by assumption),Zc hbc (by assumption),Zc hbc (by assumption),Zc hbc (by assumption),Zc hbc (by assumption),Zc hbc (by assumption),Zc hbc (by assumption),Zc hbc (by assumption)⟩))
     (first|(go_at_call 229;refine ((Za C) _).mono ?_;rintro e w' ⟨rfl,hbc⟩))
    rename_i hH
    have HH:=Zb (Ze (Za HB) hH.1)
    clear hH
    go_wp2
    go_roundw
    case rel=>exact⟨m+1,hi,by go_num,rfl,by omega,by omega,J,Za HH⟩
    case measure=>simp[intOf];omega
   ·have J:=Zb ((Za I2) (by rw[←Bool.not_eq_true];intro q;exact hz0 (hz2.2 q)))
    clear I1 I2 hz2
    go_wp2_with fail
    go_region_held3 (fun w'=>Below wr.heap.size wr w'∧w'.cell? ⟨w.heap.size,0,none⟩=some (.int .i64 p.1)∧w'.cell? ⟨w.heap.size,1,none⟩=some (.int .i64 p.2)∧w'.cell? ⟨b,off+m*6,none⟩=some (.int .i64 x.1)∧w'.cell? ⟨b,off+m*6+1,none⟩=some (.int .i64 x.2.1)∧w'.cell? ⟨b,off+m*6+2,none⟩=some (.int .i64 (cv x))∧w'.cell? ⟨b,off+m*6+3,none⟩=some (.slice a l d)∧w'.cell? ⟨b,off+m*6+4,none⟩=some (.int .i64 (ch x))∧w'.cell? ⟨b,off+m*6+5,none⟩=some (.bool (cr x)))
     (first
     | exact⟨Zi _,m0,m1,g1,g2,g3,g4,g5,g6⟩
     | (go_split_ands;refine⟨Ze (by assumption) hbc,Zc hbc (by assumption),Zc hbc (by assumption),Zc hbc (by assumption),Zc hbc (by assumption),Zc hbc (by assumption),Zc hbc (by assumption),Zc hbc (by assumption),Zc hbc (by assumption)⟩))
     (first|(go_at_call 229;refine ((Za C) _).mono ?_;rintro e w' ⟨rfl,hbc⟩))
    rename_i hH
    have HH:=Zb (Ze (Za HB) hH.1)
    clear hH
    go_wp2
    go_roundw
    case rel=>exact⟨lo,m,rfl,by go_num,by omega,by omega,J,Za HH⟩
    case measure=>simp[intOf];omega
  ·have e:lo=hi:=by omega
   subst e
   have ek:k=lo:=by rw[←Za HK];exact Ez (Za HS) p lo (by rw[Za HZ];exact hin) (fun t ht h=>(Za I).1 t ht h) (fun t ht h=>(Za I).2 t ht h)
   subst ek
   have hf:=D9 (p:=p) (Za HS)
   rw[Za HF,Za HK,Za HZ] at hf
   by_cases hkn:k<n
   ·have hkl:k<L.length:=by rw[Za HZ];exact hkn
    have hkn2:(k:Int)<(n:Int):=by omega
    have hin2:=CoinAt.kept _ _ _ _ _ (Ze (Za HBX) hb) ((Za HC) k hkl)
    rw[List.getElem?_eq_getElem hkl,Option.map_some] at hf
    obtain⟨x,hx⟩:∃ x,L[k]=x:=⟨_,rfl⟩
    rw[hx] at hin2 hf
    obtain⟨a,l,d,g1,g2,g3,g4,g5,g6,_,_⟩:=hin2.val
    obtain⟨z,hz⟩:∃ z,P4 (pt x) p=z:=⟨_,rfl⟩
    have C:=Zb (fun w=>Li x a l d p z w hz)
    unfold cnV at C
    have hg:decide ((k:Int)<(n:Int))=true:=decide_eq_true hkn2
    have hfz:Hid (f=decide (z=0)):=by
     show _=_
     rw[hf,decide_eq_true hkn,Bool.true_and,←hz]
     exact decide_eq_decide.2 (by rw[Option.some.injEq,Zgo])
    clear hin2 hx hz hf hb I
    by_cases hz0:z=0
    ·subst hz0
     have F:Hid (f=true):=by show _=_;rw[Za hfz];rfl
     clear hfz
     go_wp2_with fail
     go_region_held3 (fun w'=>Below wr.heap.size wr w'∧w'.cell? ⟨w.heap.size,0,none⟩=some (.int .i64 p.1)∧w'.cell? ⟨w.heap.size,1,none⟩=some (.int .i64 p.2)∧w'.cell? ⟨b,off+k*6,none⟩=some (.int .i64 x.1)∧w'.cell? ⟨b,off+k*6+1,none⟩=some (.int .i64 x.2.1)∧w'.cell? ⟨b,off+k*6+2,none⟩=some (.int .i64 (cv x))∧w'.cell? ⟨b,off+k*6+3,none⟩=some (.slice a l d)∧w'.cell? ⟨b,off+k*6+4,none⟩=some (.int .i64 (ch x))∧w'.cell? ⟨b,off+k*6+5,none⟩=some (.bool (cr x)))
      (first
      | exact⟨Zi _,m0,m1,g1,g2,g3,g4,g5,g6⟩
      | (go_split_ands;refine⟨Ze (by assumption) hbc,Zc hbc (by assumption),Zc hbc (by assumption),Zc hbc (by assumption),Zc hbc (by assumption),Zc hbc (by assumption),Zc hbc (by assumption),Zc hbc (by assumption),Zc hbc (by assumption)⟩))
      (first|(go_at_call 229;refine ((Za C) _).mono ?_;rintro e w' ⟨rfl,hbc⟩))
     rename_i hH
     have HH:=Zb (Ze (Za HB) hH.1)
     clear hH
     go_wp2
     go_ret2
     exact⟨by rw[Za F];rfl,Ze (Za HBX) (Za HH)⟩
    ·have F:Hid (f=false):=by show _=_;rw[Za hfz];exact decide_eq_false hz0
     have gz:(z == 0)=false:=by simp[hz0]
     clear hfz
     go_wp2_with fail
     go_region_held3 (fun w'=>Below wr.heap.size wr w'∧w'.cell? ⟨w.heap.size,0,none⟩=some (.int .i64 p.1)∧w'.cell? ⟨w.heap.size,1,none⟩=some (.int .i64 p.2)∧w'.cell? ⟨b,off+k*6,none⟩=some (.int .i64 x.1)∧w'.cell? ⟨b,off+k*6+1,none⟩=some (.int .i64 x.2.1)∧w'.cell? ⟨b,off+k*6+2,none⟩=some (.int .i64 (cv x))∧w'.cell? ⟨b,off+k*6+3,none⟩=some (.slice a l d)∧w'.cell? ⟨b,off+k*6+4,none⟩=some (.int .i64 (ch x))∧w'.cell? ⟨b,off+k*6+5,none⟩=some (.bool (cr x)))
      (first
      | exact⟨Zi _,m0,m1,g1,g2,g3,g4,g5,g6⟩
      | (go_split_ands;refine⟨Ze (by assumption) hbc,Zc hbc (by assumption),Zc hbc (by assumption),Zc hbc (by assumption),Zc hbc (by assumption),Zc hbc (by assumption),Zc hbc (by assumption),Zc hbc (by assumption),Zc hbc (by assumption)⟩))
      (first|(go_at_call 229;refine ((Za C) _).mono ?_;rintro e w' ⟨rfl,hbc⟩))
     rename_i hH
     have HH:=Zb (Ze (Za HB) hH.1)
     clear hH
     go_wp2
     go_ret2
     exact⟨by rw[Za F];rfl,Ze (Za HBX) (Za HH)⟩
   ·have F:Hid (f=false):=by show _=_;rw[hf,decide_eq_false hkn,Bool.false_and]
    have hg:decide ((k:Int)<(n:Int))=false:=decide_eq_false (by omega)
    clear hf hb I
    go_wp2_with fail
    go_quiet (fail)
    go_wp2
    go_ret2
    exact⟨by rw[Za F];rfl,Ze (Za HBX) (Ze (Za HB) (Sm _ _))⟩
theorem Zep(a:Option Addr)(c:Nat)(p:PtD)(v:Value)(w:World) :
  Calls Tryz.prog 228 #[.slice a 0 c,.agg #[.int .i64 p.1,.int .i64 p.2],v] w fun e w'=>e = .returned (.tuple #[.int .i64 0,.bool false])∧Below w.heap.size w w':=by
 have HB:=Zb (Zf w (.cells #[.int .i64 p.1,.int .i64 p.2] 99))
 go_enter Tryz.func228,Tryz.ntmps228
 go_wp2
 refine wp_loop_rounds 1 ?_
 rw[rounds_succ]
 go_wp2_with fail
 go_quiet (fail)
 go_wp2
 go_ret2
 exact⟨rfl,Ze (Za HB) (Sm _ _)⟩
theorem Zgr(a:Option Addr)(n c:Nat)(L:List Zg)(p:PtD)(k:Nat)(f:Bool)(w:World)(hs:Srt L)(hn:n≤4611686018427387903)(h:CoinsAt w a n L)(hk:pos p L=k)(hf:Wc p L=f) :
  Calls Tryz.prog 228 #[.slice a n c,.agg #[.int .i64 p.1,.int .i64 p.2],.func (.func 229) #[] #[]] w fun e w'=>e = .returned (.tuple #[.int .i64 k,.bool f])∧Below w.heap.size w w':=by
 obtain⟨hl,hc⟩:=h
 by_cases h2:n=0
 ·subst h2
  have e:L=[]:=List.length_eq_zero_iff.1 hl
  subst e
  subst hk hf
  exact Zep a c p _ w
 ·obtain⟨b,off,rfl,_,hcell⟩:=hc (by omega)
  exact Zeo b off n c L p k f w hs hn hl hcell hk hf
theorem Jm(a:Option Addr)(n c:Nat)(L:List Zg)(p:PtD)(k:Nat)(f:Bool)(w:World)(hs:Srt L)(hn:n≤4611686018427387903)(h:CoinsAt w a n L)(hk:pos p L=k)(hf:Wc p L=f) :
  Calls Tryz.prog 194 #[.slice a n c,.agg #[.int .i64 p.1,.int .i64 p.2]] w fun e w'=>e = .returned (.tuple #[.int .i64 k,.bool f])∧Below w.heap.size w w':=by
 have hb:=Zf w (.cells #[.int .i64 p.1,.int .i64 p.2] 99)
 have HB:=Zb hb
 have C:=Zb (Zgr a n c L p k f _ hs hn (h.later hb) hk hf)
 clear hs h hk hf hb
 go_enter Tryz.func194,Tryz.ntmps194
 go_wp2_with fail
 refine (Za C).mono ?_
 rintro e w2 ⟨rfl,hb2⟩
 have HB2:=Zb (Ze (Za HB) hb2)
 clear hb2
 go_wp2
 go_ret2
 exact⟨rfl,Za HB2⟩
end Go.Proofs.YtpikejjiignchaaGreatDoor
