import Derived.Test.YtpikejjiignchaaGreatDoorG27
set_option maxHeartbeats 6400000
set_option maxRecDepth 10000
namespace Go.Proofs.YtpikejjiignchaaGreatDoor
open Go.RowKit
theorem Dz(b1 o1 b2 o2 n c d:Nat)(l k:List Zw)(o:Bool)(w:World)(hn:n≤maxLen)(z1:l.length=n)(z2:k.length=n)
  (h1:∀ i (h:i<l.length),OutAt w b1 (o1+i*2) l[i]) (h2:∀ i (h:i<k.length),OutAt w b2 (o2+i*2) k[i]) (ho:decide (l=k)=o) :
  Calls Tryz.prog 63 #[.slice (some ⟨b1,o1,none⟩) n c,.slice (some ⟨b2,o2,none⟩) n d,.func (.func 95) #[] #[]] w fun e w'=>e = .returned (.bool o)∧Below w.heap.size w w':=by
 subst ho
 unfold maxLen at hn
 have H1:=Zb h1
 have H2:=Zb h2
 have Z1:=Zb z1
 have Z2:=Zb z2
 clear h1 h2 z1 z2
 go_enter Tryz.func63,Tryz.ntmps63
 go_wp2
 go_loopw [17] (fun i wr=>∃ j:Nat,j≤n∧i = .int .i64 j∧Below w.heap.size w wr∧Hid (l.take j=k.take j)) (fun i _=>n - (intOf i).toNat)
 case atStart=>exact⟨0,Nat.zero_le _,rfl,Below.refl _ _,rfl⟩
 case round=>
  obtain⟨j,hk,rfl,hb,A⟩:=hrel
  have HB:=Zb hb
  by_cases hlt:j<n
  ·have hl1:j<l.length:=by rw[Za Z1];exact hlt
   have hl2:j<k.length:=by rw[Za Z2];exact hlt
   have g:=OutAt.kept _ _ _ _ _ hb ((Za H1) j hl1)
   have f:=OutAt.kept _ _ _ _ _ hb ((Za H2) j hl2)
   have TS:=Zb (V7 hl1 hl2 (Za A))
   have TU:=Zb (Wn hl1 hl2)
   obtain⟨q,hq⟩:∃ q,l[j]=q:=⟨_,rfl⟩
   obtain⟨r,hr⟩:∃ r,k[j]=r:=⟨_,rfl⟩
   rw[hq] at g
   rw[hr] at f
   rw[hq,hr] at TS TU
   obtain⟨g1,qa,qn,qc,g3,g4,g5⟩:=g
   obtain⟨f1,ra,rn,rc,f3,f4,_⟩:=f
   obtain⟨q1,qk⟩:=q
   obtain⟨r1,rk⟩:=r
   simp only at g1 g3 g4 f1 f3 f4
   have lt2:b2<wr.heap.size:=World.block_lt_of_cell? _ _ f1
   have hb2:=Ze (Zf wr (.cells #[.int .i64 q1,.slice qa qn qc] 101)) (Zf _ (.cells #[.int .i64 r1,.slice ra rn rc] 101))
   have HB2:=Zb hb2
   have C:Hid (∀ o,decide (((q1,qk):Zw)=(r1,rk))=o→Calls Tryz.prog 95 #[.agg #[.int .i64 q1,.slice qa qn qc],.agg #[.int .i64 r1,.slice ra rn rc]] ((wr.alloc (.cells #[.int .i64 q1,.slice qa qn qc] 101)).alloc (.cells #[.int .i64 r1,.slice ra rn rc] 101)) fun e w'=>e = .returned (.bool o)∧Below _ _ w'):=
    fun o ho=>F4 (q1,qk) (r1,rk) qa ra qn qc rn rc o _ g5.len (g4.later hb2) (f4.later hb2) ho
   clear hq hr A g4 f4 g5 hb hb2
   by_cases he:((q1,qk):Zw)=(r1,rk)
   ·have T:=Zb ((Za TS) he)
    have C2:=Zb ((Za C) true (decide_eq_true he))
    clear TS TU C he
    go_wp2_with fail
    refine (Za C2).mono ?_
    rintro e w3 ⟨rfl,hb3⟩
    have HB3:=Zb (Ze (Ze (Za HB) (Za HB2)) hb3)
    clear hb3
    go_wp2
    go_roundw
    case rel=>exact⟨j+1,by omega,by go_num,Za HB3,T⟩
    case measure=>simp[intOf];omega
   ·have U:Hid (decide (l=k)=false):=decide_eq_false ((Za TU) he)
    have C2:=Zb ((Za C) false (decide_eq_false he))
    clear TS TU C he
    go_wp2_with fail
    refine (Za C2).mono ?_
    rintro e w3 ⟨rfl,hb3⟩
    have HB3:=Zb (Ze (Ze (Za HB) (Za HB2)) hb3)
    clear hb3
    go_wp2
    go_ret
    exact⟨by rw[Za U];rfl,Za HB3⟩
  ·have U:Hid (decide (l=k)=true):=by
    have h:=Za A
    rw[List.take_of_length_le (by rw[Za Z1];omega),List.take_of_length_le (by rw[Za Z2];omega)] at h
    exact decide_eq_true h
   clear A hb
   go_wp2
   go_ret
   exact⟨by rw[Za U];rfl,Za HB⟩
theorem A7(a b:Option Addr)(n m c d:Nat)(v:Value)(w:World)(h:n≠m) :
  Calls Tryz.prog 94 #[.slice a n c,.slice b m d,v] w fun e w'=>e = .returned (.bool false)∧w=w':=by
 have g:((n:Int) != (m:Int))=true:=by simp;omega
 clear h
 go_enter Tryz.func94,Tryz.ntmps94
 go_wp2
 go_ret
 exact⟨rfl,rfl⟩
theorem A6(a b:Option Addr)(c d:Nat)(v:Value)(w:World) :
  Calls Tryz.prog 94 #[.slice a 0 c,.slice b 0 d,v] w fun e w'=>e = .returned (.bool true)∧w=w':=by
 go_enter Tryz.func94,Tryz.ntmps94
 go_wp2
 refine wp_loop_rounds 1 ?_
 rw[rounds_succ]
 go_wp2
 go_ret
 exact⟨rfl,rfl⟩
theorem D6(a b:Option Addr)(n m c d:Nat)(l k:List InD)(o:Bool)(w:World)(hn:n≤maxLen)(hA:InsAt w a n l)(hB:InsAt w b m k)(ho:decide (l=k)=o) :
  Calls Tryz.prog 94 #[.slice a n c,.slice b m d,.func (.func 93) #[] #[]] w fun e w'=>e = .returned (.bool o)∧Below w.heap.size w w':=by
 by_cases h:n=m
 ·subst h
  by_cases h0:n=0
  ·subst h0
   have e1:l=[]:=List.length_eq_zero_iff.1 hA.1
   have e2:k=[]:=List.length_eq_zero_iff.1 hB.1
   subst e1 e2
   rw[decide_eq_true rfl] at ho
   subst ho
   exact (A6 a b c d _ w).mono fun e w' ⟨h1,h2⟩=>⟨h1,h2 ▸ Below.refl _ _⟩
  ·obtain⟨b1,o1,rfl,_,h1⟩:=hA.2 (by omega)
   obtain⟨b2,o2,rfl,_,h2⟩:=hB.2 (by omega)
   exact Az b1 o1 b2 o2 n c d l k o w hn hA.1 hB.1 h1 h2 ho
 ·have e:l≠k:=fun e=>h (by rw[←hA.1,←hB.1,e])
  rw[decide_eq_false e] at ho
  subst ho
  exact (A7 a b n m c d _ w h).mono fun e w' ⟨h1,h2⟩=>⟨h1,h2 ▸ Below.refl _ _⟩
theorem Pj(a b:Option Addr)(n m c d:Nat)(v:Value)(w:World)(h:n≠m) :
  Calls Tryz.prog 63 #[.slice a n c,.slice b m d,v] w fun e w'=>e = .returned (.bool false)∧w=w':=by
 have g:((n:Int) != (m:Int))=true:=by simp;omega
 clear h
 go_enter Tryz.func63,Tryz.ntmps63
 go_wp2
 go_ret
 exact⟨rfl,rfl⟩
theorem Pi(a b:Option Addr)(c d:Nat)(v:Value)(w:World) :
  Calls Tryz.prog 63 #[.slice a 0 c,.slice b 0 d,v] w fun e w'=>e = .returned (.bool true)∧w=w':=by
 go_enter Tryz.func63,Tryz.ntmps63
 go_wp2
 refine wp_loop_rounds 1 ?_
 rw[rounds_succ]
 go_wp2
 go_ret
 exact⟨rfl,rfl⟩
theorem Zag(a b:Option Addr)(n m c d:Nat)(l k:List Zw)(o:Bool)(w:World)(hn:n≤maxLen)(hA:OutsAt w a n l)(hB:OutsAt w b m k)(ho:decide (l=k)=o) :
  Calls Tryz.prog 63 #[.slice a n c,.slice b m d,.func (.func 95) #[] #[]] w fun e w'=>e = .returned (.bool o)∧Below w.heap.size w w':=by
 by_cases h:n=m
 ·subst h
  by_cases h0:n=0
  ·subst h0
   have e1:l=[]:=List.length_eq_zero_iff.1 hA.1
   have e2:k=[]:=List.length_eq_zero_iff.1 hB.1
   subst e1 e2
   rw[decide_eq_true rfl] at ho
   subst ho
   exact (Pi a b c d _ w).mono fun e w' ⟨h1,h2⟩=>⟨h1,h2 ▸ Below.refl _ _⟩
  ·obtain⟨b1,o1,rfl,_,h1⟩:=hA.2 (by omega)
   obtain⟨b2,o2,rfl,_,h2⟩:=hB.2 (by omega)
   exact Dz b1 o1 b2 o2 n c d l k o w hn hA.1 hB.1 h1 h2 ho
 ·have e:l≠k:=fun e=>h (by rw[←hA.1,←hB.1,e])
  rw[decide_eq_false e] at ho
  subst ho
  exact (Pj a b n m c d _ w h).mono fun e w' ⟨h1,h2⟩=>⟨h1,h2 ▸ Below.refl _ _⟩
theorem Cs(h h':Int)(ai ao bi bo:Option Addr)(ni ci no co mi di mo eo:Nat)(I I':List InD)(O O':List Zw)(o:Bool)(w:World)(li:ni≤maxLen)(lo:no≤maxLen)
  (hI:InsAt w ai ni I) (hO:OutsAt w ao no O) (hI':InsAt w bi mi I') (hO':OutsAt w bo mo O') (ho:Vm (h,I,O) (h',I',O')=o) :
  Calls Tryz.prog 54 #[.agg #[.int .i64 h,.slice ai ni ci,.slice ao no co],.agg #[.int .i64 h',.slice bi mi di,.slice bo mo eo]] w fun e w'=>e = .returned (.bool o)∧Below w.heap.size w w':=by
 have hb1:=Zf w (.cells #[.int .i64 h,.slice ai ni ci,.slice ao no co] 52)
 have hb2:=Zf (w.alloc (.cells #[.int .i64 h,.slice ai ni ci,.slice ao no co] 52)) (.cells #[.int .i64 h',.slice bi mi di,.slice bo mo eo] 52)
 have hb:=Ze hb1 hb2
 have HB:=Zb hb
 have M2:=Zb (Zc hb2 (Yx w (.int .i64 h) (.slice ai ni ci) (.slice ao no co) 52).2.2)
 have N2:=Zb (Yx (w.alloc (.cells #[.int .i64 h,.slice ai ni ci,.slice ao no co] 52)) (.int .i64 h') (.slice bi mi di) (.slice bo mo eo) 52).2.2
 have HI:=Zb (hI.later hb)
 have HO:=Zb (hO.later hb)
 have HI':=Zb (hI'.later hb)
 have HO':=Zb (hO'.later hb)
 have LI:=Zb li
 have LO:=Zb lo
 clear hI hO hI' hO' hb hb1 hb2 li lo
 by_cases h1:h=h'
 ·subst h1
  by_cases h2:I=I'
  ·have ho':decide (O=O')=o:=by rw[←ho];unfold Vm;simp[h2]
   have CI:=Zb (D6 ai bi ni mi ci di I I' true _ (Za LI) (Za HI) (Za HI') (decide_eq_true h2))
   have HQ:=Zb ho'
   clear ho ho' h2
   go_enter Tryz.func54,Tryz.ntmps54
   go_wp2_with fail
   refine (Za CI).mono ?_
   rintro e w2 ⟨rfl,hb2⟩
   have m2:=Zc hb2 (Za M2)
   have n2:=Zc hb2 (Za N2)
   rw[show (w.alloc (.cells #[.int .i64 h,.slice ai ni ci,.slice ao no co] 52)).heap.size=w.heap.size+1 by simp] at n2
   have s2:w.heap.size+1<w2.heap.size:=World.block_lt_of_cell? _ _ n2
   have s1:w.heap.size<w2.heap.size:=by omega
   have CO:=Zb (Zag ao bo no mo co eo O O' o w2 (Za LO) ((Za HO).later hb2) ((Za HO').later hb2) (Za HQ))
   have HB2:=Zb (Ze (Za HB) hb2)
   clear hb2
   go_wp2_with fail
   refine (Za CO).mono ?_
   rintro e w3 ⟨rfl,hb3⟩
   have HB3:=Zb (Ze (Za HB2) hb3)
   clear hb3
   go_wp2
   go_ret
   exact⟨rfl,Za HB3⟩
  ·have e:o=false:=by rw[←ho];unfold Vm;simp[h2]
   subst e
   have CI:=Zb (D6 ai bi ni mi ci di I I' false _ (Za LI) (Za HI) (Za HI') (decide_eq_false h2))
   clear ho h2
   go_enter Tryz.func54,Tryz.ntmps54
   go_wp2_with fail
   refine (Za CI).mono ?_
   rintro e w2 ⟨rfl,hb2⟩
   have HB2:=Zb (Ze (Za HB) hb2)
   clear hb2
   go_wp2
   go_ret
   exact⟨rfl,Za HB2⟩
 ·have e:o=false:=by rw[←ho];unfold Vm;simp[h1]
  subst e
  have g:(h == h')=false:=by simp[h1]
  clear ho
  go_enter Tryz.func54,Tryz.ntmps54
  go_wp2
  go_ret
  exact⟨rfl,Za HB⟩
theorem Nt(x y:Zw)(a b:Option Addr)(n c m d:Nat)(o:Bool)(w:World)(hn:n≤maxLen)(hA:OpsAt w a n x.2)(hB:OpsAt w b m y.2)(ho:decide (x=y)=o) :
  Calls Tryz.prog 44 #[.agg #[.int .i64 x.1,.slice a n c],.agg #[.int .i64 y.1,.slice b m d]] w fun e w'=>e = .returned (.bool o)∧Below w.heap.size w w':=by
 obtain⟨x1,k⟩:=x
 obtain⟨y1,l⟩:=y
 simp only at hA hB ⊢
 have hb:=Ze (Zf w (.cells #[.int .i64 x1,.slice a n c] 101)) (Zf _ (.cells #[.int .i64 y1,.slice b m d] 101))
 have HB:=Zb hb
 by_cases h1:x1=y1
 ·subst h1
  have C:=Zb (Tn a b n m c d k l o _ hn (hA.later hb) (hB.later hb) (by rw[←ho];simp))
  clear hA hB hb ho
  go_enter Tryz.func44,Tryz.ntmps44
  go_wp2_with fail
  refine (Za C).mono ?_
  rintro e w2 ⟨rfl,hb2⟩
  have HB2:=Zb (Ze (Za HB) hb2)
  clear hb2
  go_wp2
  go_ret
  exact⟨rfl,Za HB2⟩
 ·have e:o=false:=by rw[←ho];exact decide_eq_false (fun e=>h1 (by injection e))
  have g:(x1 == y1)=false:=by simp[h1]
  subst e
  clear hA hB hb ho
  go_enter Tryz.func44,Tryz.ntmps44
  go_wp2
  go_ret
  exact⟨rfl,Za HB⟩
theorem Mc(b1 o1 b2 o2 n c d:Nat)(l k:List Zw)(o:Bool)(w:World)(hn:n≤maxLen)(z1:l.length=n)(z2:k.length=n)
  (h1:∀ i (h:i<l.length),OutAt w b1 (o1+i*2) l[i]) (h2:∀ i (h:i<k.length),OutAt w b2 (o2+i*2) k[i]) (ho:decide (l=k)=o) :
  Calls Tryz.prog 63 #[.slice (some ⟨b1,o1,none⟩) n c,.slice (some ⟨b2,o2,none⟩) n d,.func (.func 44) #[] #[]] w fun e w'=>e = .returned (.bool o)∧Below w.heap.size w w':=by
 subst ho
 unfold maxLen at hn
 have H1:=Zb h1
 have H2:=Zb h2
 have Z1:=Zb z1
 have Z2:=Zb z2
 clear h1 h2 z1 z2
 go_enter Tryz.func63,Tryz.ntmps63
 go_wp2
 go_loopw [17] (fun i wr=>∃ j:Nat,j≤n∧i = .int .i64 j∧Below w.heap.size w wr∧Hid (l.take j=k.take j)) (fun i _=>n - (intOf i).toNat)
 case atStart=>exact⟨0,Nat.zero_le _,rfl,Below.refl _ _,rfl⟩
 case round=>
  obtain⟨j,hk,rfl,hb,A⟩:=hrel
  have HB:=Zb hb
  by_cases hlt:j<n
  ·have hl1:j<l.length:=by rw[Za Z1];exact hlt
   have hl2:j<k.length:=by rw[Za Z2];exact hlt
   have g:=OutAt.kept _ _ _ _ _ hb ((Za H1) j hl1)
   have f:=OutAt.kept _ _ _ _ _ hb ((Za H2) j hl2)
   have TS:=Zb (V7 hl1 hl2 (Za A))
   have TU:=Zb (Wn hl1 hl2)
   obtain⟨q,hq⟩:∃ q,l[j]=q:=⟨_,rfl⟩
   obtain⟨r,hr⟩:∃ r,k[j]=r:=⟨_,rfl⟩
   rw[hq] at g
   rw[hr] at f
   rw[hq,hr] at TS TU
   obtain⟨g1,qa,qn,qc,g3,g4,g5⟩:=g
   obtain⟨f1,ra,rn,rc,f3,f4,_⟩:=f
   obtain⟨q1,qk⟩:=q
   obtain⟨r1,rk⟩:=r
   simp only at g1 g3 g4 f1 f3 f4
   have lt2:b2<wr.heap.size:=World.block_lt_of_cell? _ _ f1
   have hb2:=Ze (Zf wr (.cells #[.int .i64 q1,.slice qa qn qc] 101)) (Zf _ (.cells #[.int .i64 r1,.slice ra rn rc] 101))
   have HB2:=Zb hb2
   have C:Hid (∀ o,decide (((q1,qk):Zw)=(r1,rk))=o→Calls Tryz.prog 44 #[.agg #[.int .i64 q1,.slice qa qn qc],.agg #[.int .i64 r1,.slice ra rn rc]] ((wr.alloc (.cells #[.int .i64 q1,.slice qa qn qc] 101)).alloc (.cells #[.int .i64 r1,.slice ra rn rc] 101)) fun e w'=>e = .returned (.bool o)∧Below _ _ w'):=
    fun o ho=>Nt (q1,qk) (r1,rk) qa ra qn qc rn rc o _ g5.len (g4.later hb2) (f4.later hb2) ho
   clear hq hr A g4 f4 g5 hb hb2
   by_cases he:((q1,qk):Zw)=(r1,rk)
   ·have T:=Zb ((Za TS) he)
    have C2:=Zb ((Za C) true (decide_eq_true he))
    clear TS TU C he
    go_wp2_with fail
    refine (Za C2).mono ?_
    rintro e w3 ⟨rfl,hb3⟩
    have HB3:=Zb (Ze (Ze (Za HB) (Za HB2)) hb3)
    clear hb3
    go_wp2
    go_roundw
    case rel=>exact⟨j+1,by omega,by go_num,Za HB3,T⟩
    case measure=>simp[intOf];omega
   ·have U:Hid (decide (l=k)=false):=decide_eq_false ((Za TU) he)
    have C2:=Zb ((Za C) false (decide_eq_false he))
    clear TS TU C he
    go_wp2_with fail
    refine (Za C2).mono ?_
    rintro e w3 ⟨rfl,hb3⟩
    have HB3:=Zb (Ze (Ze (Za HB) (Za HB2)) hb3)
    clear hb3
    go_wp2
    go_ret
    exact⟨by rw[Za U];rfl,Za HB3⟩
  ·have U:Hid (decide (l=k)=true):=by
    have h:=Za A
    rw[List.take_of_length_le (by rw[Za Z1];omega),List.take_of_length_le (by rw[Za Z2];omega)] at h
    exact decide_eq_true h
   clear A hb
   go_wp2
   go_ret
   exact⟨by rw[Za U];rfl,Za HB⟩
theorem Gt(a b:Option Addr)(n m c d:Nat)(l k:List Zw)(o:Bool)(w:World)(hn:n≤maxLen)(hA:OutsAt w a n l)(hB:OutsAt w b m k)(ho:decide (l=k)=o) :
  Calls Tryz.prog 63 #[.slice a n c,.slice b m d,.func (.func 44) #[] #[]] w fun e w'=>e = .returned (.bool o)∧Below w.heap.size w w':=by
 by_cases h:n=m
 ·subst h
  by_cases h0:n=0
  ·subst h0
   have e1:l=[]:=List.length_eq_zero_iff.1 hA.1
   have e2:k=[]:=List.length_eq_zero_iff.1 hB.1
   subst e1 e2
   rw[decide_eq_true rfl] at ho
   subst ho
   exact (Pi a b c d _ w).mono fun e w' ⟨h1,h2⟩=>⟨h1,h2 ▸ Below.refl _ _⟩
  ·obtain⟨b1,o1,rfl,_,h1⟩:=hA.2 (by omega)
   obtain⟨b2,o2,rfl,_,h2⟩:=hB.2 (by omega)
   exact Mc b1 o1 b2 o2 n c d l k o w hn hA.1 hB.1 h1 h2 ho
 ·have e:l≠k:=fun e=>h (by rw[←hA.1,←hB.1,e])
  rw[decide_eq_false e] at ho
  subst ho
  exact (Pj a b n m c d _ w h).mono fun e w' ⟨h1,h2⟩=>⟨h1,h2 ▸ Below.refl _ _⟩
theorem Jx(w:World):Below w.heap.size w w.drew:=⟨rfl,rfl,rfl,Nat.le_refl _,fun _ _=>rfl⟩
theorem F6(h:Int)(b1 o1 b2 o2 n ci di:Nat)(ao bo:Option Addr)(no co mo eo:Nat)(I I':List InD)(O O':List Zw)(o:Bool)(w:World)(hn:n≤maxLen)(lo:no≤maxLen)
  (z1:I.length=n) (z2:I'.length=n) (hl1:b1<w.heap.size) (hl2:b2<w.heap.size) (h1:∀ i (h:i<I.length),InAt w b1 (o1+i*3) I[i]) (h2:∀ i (h:i<I'.length),InAt w b2 (o2+i*3) I'[i])
  (hO:OutsAt w ao no O) (hO':OutsAt w bo mo O') (ho:(decide (I=I') && decide (O=O'))=o) :
  Calls Tryz.prog 26 #[.agg #[.int .i64 h,.slice (some ⟨b1,o1,none⟩) n ci,.slice ao no co],.agg #[.int .i64 h,.slice (some ⟨b2,o2,none⟩) n di,.slice bo mo eo]] w fun e w'=>e = .returned (.bool o)∧Below w.heap.size w w':=by
 subst ho
 unfold maxLen at hn
 obtain⟨W,hW⟩:∃ W,W=(w.alloc (.cells #[.int .i64 h,.slice (some ⟨b1,o1,none⟩) n ci,.slice ao no co] 52)).alloc (.cells #[.int .i64 h,.slice (some ⟨b2,o2,none⟩) n di,.slice bo mo eo] 52):=⟨_,rfl⟩
 have hb1:=Zf w (.cells #[.int .i64 h,.slice (some ⟨b1,o1,none⟩) n ci,.slice ao no co] 52)
 have hb2:=Zf (w.alloc (.cells #[.int .i64 h,.slice (some ⟨b1,o1,none⟩) n ci,.slice ao no co] 52)) (.cells #[.int .i64 h,.slice (some ⟨b2,o2,none⟩) n di,.slice bo mo eo] 52)
 have hbW:Below w.heap.size w W:=by rw[hW];exact Ze hb1 hb2
 have eW:(w.alloc (.cells #[.int .i64 h,.slice (some ⟨b1,o1,none⟩) n ci,.slice ao no co] 52)).heap.size=w.heap.size+1:=by simp
 have c1:=Yx w (.int .i64 h) (.slice (some ⟨b1,o1,none⟩) n ci) (.slice ao no co) 52
 have c2:=Yx (w.alloc (.cells #[.int .i64 h,.slice (some ⟨b1,o1,none⟩) n ci,.slice ao no co] 52)) (.int .i64 h) (.slice (some ⟨b2,o2,none⟩) n di) (.slice bo mo eo) 52
 rw[eW] at c2
 have CT:Hid (W.cell? ⟨w.heap.size,2,none⟩=some (.slice ao no co)):=by rw[hW];exact Zc hb2 c1.2.2
 have CU:Hid (W.cell? ⟨w.heap.size+1,1,none⟩=some (.slice (some ⟨b2,o2,none⟩) n di)∧W.cell? ⟨w.heap.size+1,2,none⟩=some (.slice bo mo eo)):=by rw[hW];exact⟨c2.2.1,c2.2.2⟩
 have H1:Hid (∀ i (h:i<I.length),InAt W b1 (o1+i*3) I[i]):=fun i hi=>InAt.kept _ _ _ _ _ hbW (h1 i hi)
 have H2:Hid (∀ i (h:i<I'.length),InAt W b2 (o2+i*3) I'[i]):=fun i hi=>InAt.kept _ _ _ _ _ hbW (h2 i hi)
 have HO:=Zb (hO.later hbW)
 have HO':=Zb (hO'.later hbW)
 have Z1:=Zb z1
 have Z2:=Zb z2
 have LO:=Zb lo
 have HBW:=Zb hbW
 have hlW:b1<W.heap.size∧b2<W.heap.size:=⟨Nat.lt_of_lt_of_le hl1 hbW.size,Nat.lt_of_lt_of_le hl2 hbW.size⟩
 have g0:((n:Int) != (n:Int))=false:=by simp
 clear h1 h2 z1 z2 hO hO' hb1 hb2 hbW c1 c2 eW lo
 go_enter Tryz.func26,Tryz.ntmps26
 go_wp2
 rw[←hW]
 clear hW
 go_loopw [24] (fun i wr=>∃ j:Nat,j≤n∧i = .int .i64 j∧Below W.heap.size W wr∧Hid (I.take j=I'.take j)) (fun i _=>n - (intOf i).toNat)
 case atStart=>exact⟨0,Nat.zero_le _,rfl,Below.refl _ _,rfl⟩
 case round=>
  obtain⟨j,hk,rfl,hb,A⟩:=hrel
  have HB:=Zb hb
  by_cases hlt:j<n
  ·have hl1:j<I.length:=by rw[Za Z1];exact hlt
   have hl2:j<I'.length:=by rw[Za Z2];exact hlt
   have g:=InAt.kept _ _ _ _ _ hb ((Za H1) j hl1)
   have f:=InAt.kept _ _ _ _ _ hb ((Za H2) j hl2)
   have TS:=Zb (V7 hl1 hl2 (Za A))
   have TU:=Zb (Wn hl1 hl2)
   obtain⟨q,hq⟩:∃ q,I[j]=q:=⟨_,rfl⟩
   obtain⟨r,hr⟩:∃ r,I'[j]=r:=⟨_,rfl⟩
   rw[hq] at g
   rw[hr] at f
   rw[hq,hr] at TS TU
   obtain⟨g1,g2,qa,qn,qc,g3,g4,g5⟩:=g
   obtain⟨f1,f2,ra,rn,rc,f3,f4,_⟩:=f
   obtain⟨q1,q2,qk⟩:=q
   obtain⟨r1,r2,rk⟩:=r
   simp only at g1 g2 g3 g4 f1 f2 f3 f4
   obtain⟨X,hX⟩:∃ X,X=wr.alloc (.cells #[.int .i64 q1,.int .i64 q2,.slice qa qn qc] 124):=⟨_,rfl⟩
   have hbX:Below wr.heap.size wr X:=by rw[hX];exact Zf _ _
   have cx:=Yx wr (.int .i64 q1) (.int .i64 q2) (.slice qa qn qc) 124
   rw[←hX] at cx
   obtain⟨x0,x1,x2⟩:=cx
   have u1:=Zc hbX (Zc hb (Za CU).1)
   have y0:=Zc hbX f1
   have y1:=Zc hbX f2
   have y2:=Zc hbX f3
   have EQ:Hid (∀ o w',Below X.heap.size X w'→decide (qk=rk)=o→Calls Tryz.prog 62 #[.slice qa qn qc,.slice ra rn rc] w' fun e w''=>e = .returned (.bool o)∧Below w'.heap.size w' w''):=fun o w' hw' hoo=>
    Tn qa ra qn rn qc rc qk rk o w' g5.len ((g4.later hbX).later hw') ((f4.later hbX).later hw') hoo
   have HBX:=Zb (Ze hb hbX)
   have hj0:(0:Int)≤(j:Int):=Int.natCast_nonneg _
   have hj1:(j:Int)<(n:Int):=by omega
   clear hq hr A g4 f4 g5 hb hbX f1 f2 f3
   by_cases e1:q1=r1
   ·subst e1
    by_cases e2:q2=r2
    ·subst e2
     by_cases hk2:qk=rk
     ·have T:=Zb ((Za TS) (by rw[hk2]))
      have C:=Zb (fun w' hw'=>(Za EQ) true w' hw' (decide_eq_true hk2))
      clear TS TU EQ hk2
      go_wp2_with fail
      rw[←hX]
      clear hX
      go_region_held3 (fun w'=>Below X.heap.size X w'∧w'.cell? ⟨wr.heap.size,0,none⟩=some (.int .i64 q1)∧w'.cell? ⟨wr.heap.size,1,none⟩=some (.int .i64 q2)∧w'.cell? ⟨wr.heap.size,2,none⟩=some (.slice qa qn qc)∧w'.cell? ⟨w.heap.size+1,1,none⟩=some (.slice (some ⟨b2,o2,none⟩) n di)∧w'.cell? ⟨b2,o2+j*3,none⟩=some (.int .i64 q1)∧w'.cell? ⟨b2,o2+j*3+1,none⟩=some (.int .i64 q2)∧w'.cell? ⟨b2,o2+j*3+2,none⟩=some (.slice ra rn rc))
       (first
       | exact⟨Jx _,x0,x1,x2,u1,y0,y1,y2⟩
       | (go_split_ands;refine⟨Ze (by assumption) hbc,Zc hbc (by assumption),Zc hbc (by assumption),Zc hbc (by assumption),Zc hbc (by assumption),Zc hbc (by assumption),Zc hbc (by assumption),Zc hbc (by assumption)⟩))
       (first|(go_at_call 62;go_split_ands;refine ((Za C) _ (by assumption)).mono ?_;rintro e w' ⟨rfl,hbc⟩))
      rename_i hH
      have HH:=Zb (Ze (Za HBX) hH.1)
      clear hH
      go_wp2
      go_roundw
      case rel=>exact⟨j+1,by omega,by go_num,Za HH,T⟩
      case measure=>simp[intOf];omega
     ·have U:Hid ((decide (I=I') && decide (O=O'))=false):=by show _=_;rw[decide_eq_false ((Za TU) (fun e=>hk2 (by injection e with _ e;injection e)))];rfl
      have C:=Zb (fun w' hw'=>(Za EQ) false w' hw' (decide_eq_false hk2))
      clear TS TU EQ hk2
      go_wp2_with fail
      rw[←hX]
      clear hX
      go_region_held3 (fun w'=>Below X.heap.size X w'∧w'.cell? ⟨wr.heap.size,0,none⟩=some (.int .i64 q1)∧w'.cell? ⟨wr.heap.size,1,none⟩=some (.int .i64 q2)∧w'.cell? ⟨wr.heap.size,2,none⟩=some (.slice qa qn qc)∧w'.cell? ⟨w.heap.size+1,1,none⟩=some (.slice (some ⟨b2,o2,none⟩) n di)∧w'.cell? ⟨b2,o2+j*3,none⟩=some (.int .i64 q1)∧w'.cell? ⟨b2,o2+j*3+1,none⟩=some (.int .i64 q2)∧w'.cell? ⟨b2,o2+j*3+2,none⟩=some (.slice ra rn rc))
       (first
       | exact⟨Jx _,x0,x1,x2,u1,y0,y1,y2⟩
       | (go_split_ands;refine⟨Ze (by assumption) hbc,Zc hbc (by assumption),Zc hbc (by assumption),Zc hbc (by assumption),Zc hbc (by assumption),Zc hbc (by assumption),Zc hbc (by assumption),Zc hbc (by assumption)⟩))
       (first|(go_at_call 62;go_split_ands;refine ((Za C) _ (by assumption)).mono ?_;rintro e w' ⟨rfl,hbc⟩))
      rename_i hH
      have HH:=Zb (Ze (Za HBX) hH.1)
      clear hH
      go_wp2
      go_ret
      exact⟨by rw[Za U];rfl,Ze (Za HBW) (Za HH)⟩
    ·have U:Hid ((decide (I=I') && decide (O=O'))=false):=by show _=_;rw[decide_eq_false ((Za TU) (fun e=>e2 (by injection e with _ e;injection e)))];rfl
     clear TS TU EQ
     go_wp2_with fail
     rw[←hX]
     clear hX
     go_quiet (fail)
     go_wp2
     go_ret
     exact⟨by rw[Za U];rfl,Ze (Za HBW) (Ze (Za HBX) (U5 _ _))⟩
   ·have U:Hid ((decide (I=I') && decide (O=O'))=false):=by show _=_;rw[decide_eq_false ((Za TU) (fun e=>e1 (by injection e)))];rfl
    clear TS TU EQ
    go_wp2_with fail
    rw[←hX]
    clear hX
    go_quiet (fail)
    go_wp2
    go_ret
    exact⟨by rw[Za U];rfl,Ze (Za HBW) (Ze (Za HBX) (U5 _ _))⟩
  ·have AE:Hid (decide (I=I')=true):=by
    have h:=Za A
    rw[List.take_of_length_le (by rw[Za Z1];omega),List.take_of_length_le (by rw[Za Z2];omega)] at h
    exact decide_eq_true h
   have t2:=Zc hb (Za CT)
   have u2:=Zc hb (Za CU).2
   have lu:w.heap.size+1<wr.heap.size:=World.block_lt_of_cell? _ _ u2
   obtain⟨oo,hoo⟩:∃ oo,decide (O=O')=oo:=⟨_,rfl⟩
   have EO:=Zb (Gt ao bo no mo co eo O O' oo wr (Za LO) ((Za HO).later hb) ((Za HO').later hb) hoo)
   have U:Hid ((decide (I=I') && decide (O=O'))=oo):=by show _=_;rw[Za AE,hoo];rfl
   clear A hb hoo
   go_wp2_with fail
   refine (Za EO).mono ?_
   rintro e w9 ⟨rfl,hb9⟩
   have HB9:=Zb (Ze (Ze (Za HBW) (Za HB)) hb9)
   clear hb9
   go_wp2
   go_ret
   exact⟨by rw[Za U];rfl,Za HB9⟩
theorem Hu:∀ (L pre:List InD),Zz pre L=0→∀ x∈L,T8 x=true∧chk x.2.2=0
 | [],_,_,x,hx=>by cases hx
 | y :: r,pre,h,x,hx=>by
  unfold Zz at h
  split at h
  ·rename_i h1
   rcases List.mem_cons.1 hx with rfl|hx
   ·unfold Wf at h1
    split at h1
    ·cases h1
    ·rename_i h2
     split at h1
     ·rename_i h3;exact absurd h1 h3
     ·rename_i h3
      exact⟨by simpa using h2,by simpa using h3⟩
   ·exact Hu r _ h x hx
  ·contradiction
theorem Pn:∀ (L:List Zw),Zx L=0→∀ x∈L,1≤x.1∧chk x.2=0
 | [],_,x,hx=>by cases hx
 | y :: r,h,x,hx=>by
  unfold Zx at h
  split at h
  ·rename_i h1
   rcases List.mem_cons.1 hx with rfl|hx
   ·unfold Yo at h1
    split at h1
    ·cases h1
    ·rename_i h2
     exact⟨by omega,h1⟩
   ·exact Pn r h x hx
  ·contradiction
theorem Zbv:∀ (Z:List Int) (s:Int),(sm s Z).2=0→∀ z∈Z,0≤z∧z≤1000000000
 | [],_,_,z,hz=>by cases hz
 | y :: r,s,h,z,hz=>by
  unfold sm at h
  split at h
  ·rename_i h1
   split at h
   ·rcases List.mem_cons.1 hz with rfl|hz
    ·exact h1
    ·exact Zbv r _ h z hz
   ·cases h
  ·cases h
structure TxOk(t:TxD):Prop where
 ins6:t.2.1.length≤6
 outs6:t.2.2.length≤6
 some:0<t.2.2.length
 hgt:0≤t.1∧t.1≤1000
 fit:Hf t=true
 chkI:Zz [] t.2.1=0
 ins:∀ x∈t.2.1,T8 x=true∧chk x.2.2=0
 outs:∀ x∈t.2.2,(1≤x.1∧x.1≤1000000000)∧chk x.2=0
theorem TxOk.of{t:TxD}(h:Zo t=0):TxOk t:=by
 unfold Zo at h
 split at h
 ·cases h
 ·rename_i h1
  split at h
  ·cases h
  ·rename_i h2
   split at h
   ·cases h
   ·rename_i h3
    split at h
    ·rename_i h4;exact absurd h h4
    ·rename_i h4
     have h4':Zz [] t.2.1=0:=by simpa using h4
     have h3':Hf t=true:=by simpa using h3
     unfold Zs at h
     split at h
     ·rename_i h5
      refine⟨by omega,by omega,by omega,?_,h3',h4',Hu _ _ h4',fun x hx=>?_⟩
      ·unfold Hf at h3'
       split at h3'
       ·simp only[Bool.and_eq_true,decide_eq_true_eq] at h3';omega
       ·have:t.1=0:=by simpa using h3'
        omega
      ·have a:=Pn _ h5 x hx
       have b:=Zbv _ _ h x.1 (List.mem_map.2 ⟨x,hx,rfl⟩)
       exact⟨⟨a.1,b.2⟩,a.2⟩
     ·contradiction
theorem Q9(x:InD):T8 x=true↔(1≤x.1∧x.1≤120)∧(0≤x.2.1∧x.2.1≤5):=by
 unfold T8;simp only[Bool.and_eq_true,decide_eq_true_eq]
def Ut(word:ByteArray)(Z:List Int):ByteArray:=Z.foldl (fun t z=>t++(⟨#[32]⟩++Xj z)) word
theorem Ej(word:ByteArray)(Z:List Int)(z:Int):Ut word (Z++[z])=Ut word Z++(⟨#[32]⟩++Xj z):=by unfold Ut;rw[List.foldl_append];rfl
theorem Vb(n:Int)(h : -10000000000≤n∧n≤10000000000):(Xj n).size≤21:=by
 have:=Lib.itoa_length_le n (by omega) (by omega)
 simpa[Xj,ByteArray.size] using this
theorem Dn(x:ByteArray)(c:UInt8):((⟨#[c]⟩:ByteArray)++x).size=x.size+1:=by rw[ByteArray.size_append];show 1+x.size=_;omega
theorem Q6(x:ByteArray)(c:UInt8):(x++(⟨#[c]⟩:ByteArray)).size=x.size+1:=by rw[ByteArray.size_append];rfl
theorem Qo{α : Type}(f : α→ByteArray)(m:Nat):∀ (Z:List α) (t:ByteArray),(∀ z∈Z,(f z).size≤m)→(Z.foldl (fun t z=>t++f z) t).size≤t.size+m*Z.length
 | [],t,_=>by simp
 | z :: r,t,h=>by
  have h1:=Qo f m r (t++f z) (fun y hy=>h y (by simp[hy]))
  have h2:=h z (by simp)
  rw[ByteArray.size_append] at h1
  simp only[List.foldl_cons,List.length_cons,Nat.mul_add,Nat.mul_one]
  omega
theorem Jp(word:ByteArray)(Z:List Int)(h:∀ z∈Z,-10000000000≤z∧z≤10000000000):(Ut word Z).size≤word.size+22*Z.length:=
 Qo (fun z=>(⟨#[32]⟩:ByteArray)++Xj z) 22 Z word (fun z hz=>by rw[Dn];have:=Vb z (h z hz);omega)
theorem J2(word:ByteArray)(b off n c:Nat)(Z:List Int)(w:World)(hE:Env w)(hw:word.size≤10)(hn:n≤6)(hz:Z.length=n)(hl:b<w.heap.size)
  (hc:∀ i,i<n→w.cell? ⟨b,off+i,none⟩=some (.int .i64 (Z.getD i 0))) (hr:∀ z∈Z,-10000000000≤z∧z≤10000000000) :
  Calls Tryz.prog 126 #[.string word,.slice (some ⟨b,off,none⟩) n c] w fun e w'=>e = .returned (.string (Ut word Z))∧Below w.heap.size w w':=by
 have HE:=Zb hE
 have HC:=Zb hc
 have HZ:=Zb hz
 have HR:=Zb hr
 clear hE hc hz hr
 go_enter Tryz.func126,Tryz.ntmps126
 go_wp2
 go_loopw [5,11] (fun s i wr=>∃ k:Nat,k≤n∧i = .int .i64 k∧s = .string (Ut word (Z.take k))∧Below w.heap.size w wr) (fun _ i _=>n - (intOf i).toNat)
 case atStart=>exact⟨0,Nat.zero_le _,rfl,rfl,Below.refl _ _⟩
 case round=>
  obtain⟨k,hk,rfl,rfl,hb⟩:=hrel
  have HB:=Zb hb
  by_cases hlt:k<n
  ·have hlk:k<Z.length:=by rw[Za HZ];exact hlt
   have c1:=(Za HC) k hlt
   rw[←hb.cell (p:=⟨b,off+k,none⟩) hl] at c1
   have e1:Z.getD k 0=Z[k]:=by simp[hlk]
   rw[e1] at c1
   have hzr:=(Za HR) Z[k] (List.getElem_mem hlk)
   have hS:=Ej word (Z.take k) Z[k]
   rw[←List.take_succ_eq_append_getElem hlk] at hS
   have hTs:(Ut word (Z.take k)).size≤200:=by
    have:=Jp word (Z.take k) (fun z hz=>(Za HR) z (List.mem_of_mem_take hz))
    rw[List.length_take] at this
    omega
   obtain⟨z,hz⟩:∃ z,Z[k]=z:=⟨_,rfl⟩
   rw[hz] at c1 hzr hS
   obtain⟨T,hT⟩:∃ T,Ut word (Z.take k)=T:=⟨_,rfl⟩
   rw[hT] at hS hTs ⊢
   have HS:=Zb hS
   have hXs:=Vb z hzr
   have hXs1:((⟨#[32]⟩:ByteArray)++Xj z).size≤22:=by rw[Dn];omega
   have IT:Hid (∀ w,Env w→Calls Tryz.prog 107 #[.int .i64 z] w fun e w'=>e = .returned (.string (Xj z))∧Below w.heap.size w w'):=fun w hw=>
    (Tryz.strconv_Itoa z (by omega) (by omega) w hw.tab).mono fun e w' ⟨h1,k,os,h2⟩=>⟨h1,by rw[h2];exact Lib.below_grow _ _ (Nat.le_refl _) k os⟩
   have EE:=Zb ((Za HE).later hb)
   clear hb hz hT hS e1 hzr
   go_wp2_with fail
   refine ((Za IT) _ (Za EE)).mono ?_
   rintro e w3 ⟨rfl,hb3⟩
   have HB3:=Zb (Ze (Za HB) hb3)
   clear hb3
   go_wp2
   go_roundw
   case rel=>exact⟨k+1,by omega,by go_num,by rw[Za HS],Za HB3⟩
   case measure=>simp[intOf];omega
  ·have e:k=n:=by omega
   subst e
   have HT:Hid (Ut word (Z.take k)=Ut word Z):=by show _=_;rw[List.take_of_length_le (by rw[Za HZ];exact Nat.le_refl _)]
   clear hb
   go_wp2
   go_ret
   exact⟨Mb (Za HT),Za HB⟩
def Sz(word:ByteArray)(Z:List Int)(l:List (Int×Int)):ByteArray:=((Ut word Z++⟨#[58]⟩)++Z9 l)++⟨#[10]⟩
theorem Vi(l:List (Int×Int))(h:chk l=0):(Z9 l).size≤400:=by
 unfold chk at h
 split at h
 ·cases h
 ·have:=Ja l (by omega) h
  simpa[Z9,ByteArray.size] using this
theorem G9(word:ByteArray)(Z:List Int)(l:List (Int×Int))(hw:word.size≤10)(hz:Z.length≤2)(hr:∀ z∈Z,-10000000000≤z∧z≤10000000000)(hl:chk l=0):(Sz word Z l).size≤460:=by
 unfold Sz
 have h1:=Jp word Z hr
 have h2:=Vi l hl
 rw[Q6,ByteArray.size_append,Q6]
 have h3:22*Z.length≤44:=by omega
 omega
theorem Ta(a:Option Addr)(len cap:Nat)(l:List (Int×Int))(word:ByteArray)(b off n c:Nat)(Z:List Int)(t:ByteArray)(w:World)(hE:Env w)(hO:OpsAt w a len l)(hck:chk l=0)(hw:word.size≤10)(hn:n≤2)(hz:Z.length=n)(hl:b<w.heap.size)
  (hc:∀ i,i<n→w.cell? ⟨b,off+i,none⟩=some (.int .i64 (Z.getD i 0))) (hr:∀ z∈Z,-10000000000≤z∧z≤10000000000) (ht:Sz word Z l=t) :
  Calls Tryz.prog 138 #[.slice a len cap,.string word,.slice (some ⟨b,off,none⟩) n c] w fun e w'=>e = .returned (.string t)∧Below w.heap.size w w':=by
 have PR:=Zb (Ev a len cap l w hE hO)
 have e:prT l=Z9 l:=by unfold prT;rw[if_pos hck]
 rw[e,hck] at PR
 have R:Hid (∀ w',Below w.heap.size w w'→Calls Tryz.prog 126 #[.string word,.slice (some ⟨b,off,none⟩) n c] w' fun e w2=>e = .returned (.string (Ut word Z))∧Below w'.heap.size w' w2):=fun w' hb=>
  J2 word b off n c Z w' (hE.later hb) hw (by omega) hz (Nat.lt_of_lt_of_le hl hb.size) (fun i hi=>by rw[hb.cell (p:=⟨b,off+i,none⟩) hl];exact hc i hi) hr
 have s1:(Ut word Z).size≤54:=by have:=Jp word Z hr;omega
 have s2:=Vi l hck
 unfold Sz at ht
 obtain⟨A,hA⟩:∃ A,Ut word Z=A:=⟨_,rfl⟩
 obtain⟨B,hB⟩:∃ B,Z9 l=B:=⟨_,rfl⟩
 rw[hA] at R s1 ht
 rw[hB] at PR s2 ht
 have s3:(A++(⟨#[58]⟩:ByteArray)).size≤55:=by rw[Q6];omega
 have s4:((A++(⟨#[58]⟩:ByteArray))++B).size≤455:=by rw[ByteArray.size_append];omega
 have HT:=Zb ht
 clear hE hO hck hz hc hr e hA hB ht
 go_enter Tryz.func138,Tryz.ntmps138
 go_wp2_with fail
 refine (Za PR).mono ?_
 rintro e w1 ⟨rfl,hb1⟩
 have HB1:=Zb hb1
 clear hb1
 go_wp2_with fail
 refine ((Za R) w1 (Za HB1)).mono ?_
 rintro e w2 ⟨rfl,hb2⟩
 have HB2:=Zb (Ze (Za HB1) hb2)
 clear hb2
 go_wp2
 go_ret
 exact⟨Mb (Za HT),Za HB2⟩
def txB:ByteArray:=⟨#[116,120]⟩
def inB:ByteArray:=⟨#[105,110]⟩
def Zfi:ByteArray:=⟨#[111,117,116]⟩
def Wy(h:Int):ByteArray:=Ut txB [h]++⟨#[10]⟩
def Rl(x:InD):ByteArray:=Sz inB [x.1,x.2.1] x.2.2
def Qd(x:Zw):ByteArray:=Sz Zfi [x.1] x.2
def Y3(h:Int)(I:List InD):ByteArray:=I.foldl (fun t x=>t++Rl x) (Wy h)
def Xi(t:ByteArray)(O:List Zw):ByteArray:=O.foldl (fun t x=>t++Qd x) t
def U7(t:TxD):ByteArray:=Xi (Y3 t.1 t.2.1) t.2.2
theorem Th(h:Int)(I:List InD)(x:InD):Y3 h (I++[x])=Y3 h I++Rl x:=by unfold Y3;rw[List.foldl_append];rfl
theorem J3(t:ByteArray)(O:List Zw)(x:Zw):Xi t (O++[x])=Xi t O++Qd x:=by unfold Xi;rw[List.foldl_append];rfl
theorem J6(h:Int)(hh:0≤h∧h≤1000):(Wy h).size≤30:=by
 unfold Wy
 have:=Jp txB [h] (fun z hz=>by simp at hz;omega)
 rw[Q6]
 have e:txB.size=2:=rfl
 simp only[List.length_cons,List.length_nil] at this
 omega
theorem Pd(x:InD)(h:T8 x=true∧chk x.2.2=0):(Rl x).size≤460:=by
 have hp:=(Q9 x).1 h.1
 exact G9 inB [x.1,x.2.1] x.2.2 (by decide) (by simp) (fun z hz=>by simp at hz;omega) h.2
theorem Tc(x:Zw)(h:(1≤x.1∧x.1≤1000000000)∧chk x.2=0):(Qd x).size≤460:=
 G9 Zfi [x.1] x.2 (by decide) (by simp) (fun z hz=>by simp at hz;omega) h.2
theorem V4(h:Int)(I:List InD)(hh:0≤h∧h≤1000)(hI:∀ x∈I,T8 x=true∧chk x.2.2=0):(Y3 h I).size≤30+460*I.length:=by
 have h1:=Qo Rl 460 I (Wy h) (fun x hx=>Pd x (hI x hx))
 have h2:=J6 h hh
 have h3:(Y3 h I).size≤(Wy h).size+460*I.length:=h1
 omega
theorem J4(t:ByteArray)(O:List Zw)(hO:∀ x∈O,(1≤x.1∧x.1≤1000000000)∧chk x.2=0):(Xi t O).size≤t.size+460*O.length:=
 Qo Qd 460 O t (fun x hx=>Tc x (hO x hx))
theorem Qf(w:World)(x:Value)(t:TypeId):(w.alloc (.cells #[x] t)).cell? ⟨w.heap.size,0,none⟩=some x:=by rw[World.cell?_alloc_at _ _ _ _ rfl];rfl
def txT(t:TxD):ByteArray:=if Zo t=0 then U7 t else ⟨#[]⟩
theorem Nc(h:Int)(ai ao:Option Addr)(ni ci no co:Nat)(I:List InD)(O:List Zw)(x:Int)(w:World)(hI:InsAt w ai ni I)(hO:OutsAt w ao no O)(sI:SlOk ai ni ci)(hx:Zo (h,I,O)=x)(h0:x≠0) :
  Calls Tryz.prog 96 #[.agg #[.int .i64 h,.slice ai ni ci,.slice ao no co]] w fun e w'=>e = .returned (.tuple #[.string ⟨#[]⟩,.int .i64 x])∧Below w.heap.size w w':=by
 have hb:=Zf w (.cells #[.int .i64 h,.slice ai ni ci,.slice ao no co] 52)
 have HB:=Zb hb
 have C:=Zb (Un h ai ao ni ci no co I O _ (hI.later hb) (hO.later hb) sI)
 rw[hx] at C
 have g:(x != 0)=true:=by simp[h0]
 clear hb hI hO sI hx h0
 go_enter Tryz.func96,Tryz.ntmps96
 go_wp2_with fail
 refine (Za C).mono ?_
 rintro e w2 ⟨rfl,hb2⟩
 have HB2:=Zb (Ze (Za HB) hb2)
 clear hb2
 go_wp2
 go_ret2
 exact⟨rfl,Za HB2⟩
end Go.Proofs.YtpikejjiignchaaGreatDoor
