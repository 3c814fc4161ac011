import Derived.Test.YtmomfkikogbdeaaGreatDoorG28
set_option maxHeartbeats 3200000
set_option maxRecDepth 10000
namespace Go.Proofs.YtmomfkikogbdeaaGreatDoor
open Go.RowKit
def Uy:List Zh→List Zh→Bool
 | [],[]=>true
 | x :: r,y :: q=>decide (x=y) && Uy r q
 | _,_=>false
theorem T7:∀ (l k:List Zh),Uy l k=true↔l=k
 | [],[]=>by simp[Uy]
 | [],y :: q=>by simp[Uy]
 | x :: r,[]=>by simp[Uy]
 | x :: r,y :: q=>by rw[Uy,Bool.and_eq_true,decide_eq_true_eq,T7 r q,List.cons.injEq]
theorem Nr{l k:List Zh}(h:l≠k):Uy l k=false:=by
 rw[←Bool.not_eq_true,T7];exact h
theorem T6{l k:List Zh}(h:l=k):Uy l k=true:=(T7 l k).2 h
theorem D9(a b:Option Addr)(n m c d:Nat)(v:Value)(w:World)(h:n≠m) :
  Calls Tryz.prog 67 #[.slice a n c,.slice b m d,v] w fun e w'=>e = .returned (.bool false)∧w=w':=by
 have g:((n:Int) != (m:Int))=true:=by simp;omega
 clear h
 go_enter Tryz.func67,Tryz.ntmps67
 go_wp2
 go_ret
 exact⟨rfl,rfl⟩
theorem D8(a b:Option Addr)(c d:Nat)(v:Value)(w:World) :
  Calls Tryz.prog 67 #[.slice a 0 c,.slice b 0 d,v] w fun e w'=>e = .returned (.bool true)∧w=w':=by
 go_enter Tryz.func67,Tryz.ntmps67
 go_wp2
 refine wp_loop_rounds 1 ?_
 rw[rounds_succ]
 go_wp2
 go_ret
 exact⟨rfl,rfl⟩
theorem Nt(x y:Zh)(a b:Option Addr)(n c m d:Nat)(o:Bool)(w:World)(hn:n≤maxLen)(hA:OpsAt w a n (ck x))(hB:OpsAt w b m (ck y))(ho:decide (x=y)=o) :
  Calls Tryz.prog 68 #[cnV x a n c,cnV y b m d] w fun e w'=>e = .returned (.bool o)∧Below w.heap.size w w':=by
 obtain⟨x1,x2,x3,k,x4,x5⟩:=x
 obtain⟨y1,y2,y3,l,y4,y5⟩:=y
 unfold cnV
 simp only[cv,ck,ch,cr] at hA hB ⊢
 obtain⟨X,hX⟩:∃ X,X=(w.alloc (.cells #[.int .i64 x1,.int .i64 x2,.int .i64 x3,.slice a n c,.int .i64 x4,.bool x5] 124)).alloc (.cells #[.int .i64 y1,.int .i64 y2,.int .i64 y3,.slice b m d,.int .i64 y4,.bool y5] 124):=⟨_,rfl⟩
 have hb:Below w.heap.size w X:=by rw[hX];exact Zf (Zi _ _) (Zi _ _)
 obtain⟨n0,n1,n2,n3,n4,n5⟩:=R6 w (.int .i64 x1) (.int .i64 x2) (.int .i64 x3) (.slice a n c) (.int .i64 x4) (.bool x5) 124
 obtain⟨m0,m1,m2,m3,m4,m5⟩:=R6 (w.alloc (.cells #[.int .i64 x1,.int .i64 x2,.int .i64 x3,.slice a n c,.int .i64 x4,.bool x5] 124)) (.int .i64 y1) (.int .i64 y2) (.int .i64 y3) (.slice b m d) (.int .i64 y4) (.bool y5) 124
 rw[show (w.alloc (.cells #[.int .i64 x1,.int .i64 x2,.int .i64 x3,.slice a n c,.int .i64 x4,.bool x5] 124)).heap.size=w.heap.size+1 by simp,←hX] at m0 m1 m2 m3 m4 m5
 have p4:X.cell? ⟨w.heap.size,4,none⟩=some (.int .i64 x4):=by rw[hX];exact Ze (Zi _ _) n4
 have p5:X.cell? ⟨w.heap.size,5,none⟩=some (.bool x5):=by rw[hX];exact Ze (Zi _ _) n5
 have HB:=Zb hb
 obtain⟨q,hq⟩:∃ q,decide ((x3,k)=(y3,l))=q:=⟨_,rfl⟩
 have C:=Zb (Gd (x3,k) (y3,l) a b n c m d q X hn (hA.later hb) (hB.later hb) hq)
 simp only at C
 have HO:Hid (o=(decide (x1=y1∧x2=y2) && (q && (decide (x4=y4) && decide (x5=y5))))):=by
  show _=_
  rw[←ho,←hq,Bool.eq_iff_iff]
  simp only[Prod.mk.injEq,Bool.and_eq_true,decide_eq_true_eq]
  constructor
  ·rintro ⟨h1,h2,h3,h4,h5,h6⟩;exact⟨⟨h1,h2⟩,⟨h3,h4⟩,h5,h6⟩
  ·rintro ⟨⟨h1,h2⟩,⟨h3,h4⟩,h5,h6⟩;exact⟨h1,h2,h3,h4,h5,h6⟩
 clear hA hB hb ho hq m0 m1 m2 m3 n0 n1 n2 n3 n4 n5
 by_cases e1:x1=y1∧x2=y2
 ·obtain⟨rfl,rfl⟩:=e1
  cases q with
  | false=>
   have R:Hid (o=false):=by show _=_;rw[Za HO];simp
   clear HO
   go_enter Tryz.func68,Tryz.ntmps68
   go_wp2_with fail
   rw[←hX]
   clear hX
   refine (Za C).mono ?_
   rintro e w2 ⟨rfl,hb2⟩
   have HB2:=Zb (Zf (Za HB) hb2)
   clear hb2
   go_wp2
   go_ret
   exact⟨by rw[Za R];rfl,Za HB2⟩
  | true=>
   by_cases e4:x4=y4
   ·subst e4
    by_cases e5:x5=y5
    ·subst e5
     have R:Hid (o=true):=by show _=_;rw[Za HO];simp
     clear HO
     go_enter Tryz.func68,Tryz.ntmps68
     go_wp2_with fail
     rw[←hX]
     clear hX
     refine (Za C).mono ?_
     rintro e w2 ⟨rfl,hb2⟩
     have r4:=Ze hb2 p4
     have r5:=Ze hb2 p5
     have s4:=Ze hb2 m4
     have s5:=Ze hb2 m5
     have HB2:=Zb (Zf (Za HB) hb2)
     clear hb2
     go_wp2
     go_ret
     exact⟨by rw[Za R];first|rfl|(cases x5 <;> rfl)|(simp;rfl),Za HB2⟩
    ·have R:Hid (o=false):=by show _=_;rw[Za HO];simp[e5]
     have g5:(x5 == y5)=false:=by simp[e5]
     clear HO
     go_enter Tryz.func68,Tryz.ntmps68
     go_wp2_with fail
     rw[←hX]
     clear hX
     refine (Za C).mono ?_
     rintro e w2 ⟨rfl,hb2⟩
     have r4:=Ze hb2 p4
     have r5:=Ze hb2 p5
     have s4:=Ze hb2 m4
     have s5:=Ze hb2 m5
     have HB2:=Zb (Zf (Za HB) hb2)
     clear hb2
     go_wp2
     go_ret
     exact⟨by rw[Za R];rfl,Za HB2⟩
   ·have R:Hid (o=false):=by show _=_;rw[Za HO];simp[e4]
    have g4:(x4 == y4)=false:=by simp[e4]
    clear HO
    go_enter Tryz.func68,Tryz.ntmps68
    go_wp2_with fail
    rw[←hX]
    clear hX
    refine (Za C).mono ?_
    rintro e w2 ⟨rfl,hb2⟩
    have r4:=Ze hb2 p4
    have s4:=Ze hb2 m4
    have HB2:=Zb (Zf (Za HB) hb2)
    clear hb2
    go_wp2
    go_ret
    exact⟨by rw[Za R];rfl,Za HB2⟩
 ·have R:Hid (o=false):=by show _=_;rw[Za HO,decide_eq_false e1,Bool.false_and]
  have HBX:Hid (Below w.heap.size w X):=HB
  rw[hX] at HBX
  clear HO C
  by_cases e2:x1=y1
  ·have e3:¬x2=y2:=fun q=>e1 ⟨e2,q⟩
   subst e2
   clear e1
   go_enter Tryz.func68,Tryz.ntmps68
   go_wp2
   go_ret
   exact⟨by rw[Za R];rfl,Za HBX⟩
  ·clear e1
   go_enter Tryz.func68,Tryz.ntmps68
   go_wp2
   go_ret
   exact⟨by rw[Za R];rfl,Za HBX⟩
theorem Sp(b1 o1 b2 o2 n c d:Nat)(l k:List Zh)(o:Bool)(w:World)(hn:n≤maxLen)(z1:l.length=n)(z2:k.length=n)
  (h1:∀ i (h:i<l.length),CoinAt w b1 (o1+i*6) l[i]) (h2:∀ i (h:i<k.length),CoinAt w b2 (o2+i*6) k[i]) (ho:Uy l k=o) :
  Calls Tryz.prog 67 #[.slice (some ⟨b1,o1,none⟩) n c,.slice (some ⟨b2,o2,none⟩) n d,.func (.func 68) #[] #[]] w fun e w'=>e = .returned (.bool o)∧Below w.heap.size w w':=by
 subst ho
 unfold maxLen at hn
 have H1:=Zb h1
 have H2:=Zb h2
 have Z1:=Zb z1
 have Z2:=Zb z2
 clear h1 h2 z1 z2
 go_enter Tryz.func67,Tryz.ntmps67
 go_wp2
 go_loopw [17] (fun i wr=>∃ j:Nat,j≤n∧i = .int .i64 j∧Below w.heap.size w wr∧Hid (l.take j=k.take j)) (fun i _=>n - (intOf i).toNat)
 case atStart=>exact⟨0,Nat.zero_le _,rfl,Below.refl _ _,rfl⟩
 case round=>
  obtain⟨j,hk,rfl,hb,A⟩:=hrel
  have HB:=Zb hb
  by_cases hlt:j<n
  ·have hl1:j<l.length:=by rw[Za Z1];exact hlt
   have hl2:j<k.length:=by rw[Za Z2];exact hlt
   have g:=CoinAt.kept _ _ _ _ _ hb ((Za H1) j hl1)
   have f:=CoinAt.kept _ _ _ _ _ hb ((Za H2) j hl2)
   have TS:=Zb (Uu hl1 hl2 (Za A))
   have TU:=Zb (W7 hl1 hl2)
   obtain⟨q,hq⟩:∃ q,l[j]=q:=⟨_,rfl⟩
   obtain⟨r,hr⟩:∃ r,k[j]=r:=⟨_,rfl⟩
   rw[hq] at g
   rw[hr] at f
   rw[hq,hr] at TS TU
   obtain⟨qa,qn,qc,g0,g1,g2,g3,g4,g5,gO,gS⟩:=g.val
   obtain⟨ra,rn,rc,f0,f1,f2,f3,f4,f5,fO,fS⟩:=f.val
   have hb2:=Zf (Zi wr (.cells #[.int .i64 q.1,.int .i64 q.2.1,.int .i64 (cv q),.slice qa qn qc,.int .i64 (ch q),.bool (cr q)] 124)) (Zi _ (.cells #[.int .i64 r.1,.int .i64 r.2.1,.int .i64 (cv r),.slice ra rn rc,.int .i64 (ch r),.bool (cr r)] 124))
   obtain⟨o',ho'⟩:∃ o',decide (q=r)=o':=⟨_,rfl⟩
   have C:=Nt q r qa ra qn qc rn rc o' _ gS.len (gO.later hb2) (fO.later hb2) ho'
   unfold cnV at C
   have HC:=Zb C
   have HB2:=Zb (Zf (Za HB) hb2)
   have hrl:b2<wr.heap.size:=World.block_lt_of_cell? _ _ f0
   have hkI:(j:Int)<(n:Int):=by omega
   clear hb g f hb2 C gO fO gS fS hq hr A
   cases o' with
   | true=>
    have T:=Zb ((Za TS) (of_decide_eq_true ho'))
    clear TS TU ho'
    go_wp2_with fail
    refine (Za HC).mono ?_
    rintro e w2 ⟨rfl,hb3⟩
    have HB3:=Zb (Zf (Za HB2) hb3)
    clear hb3
    go_wp2
    go_roundw
    case rel=>exact⟨j+1,by omega,by go_num,Za HB3,T⟩
    case measure=>simp[intOf];omega
   | false=>
    have U:Hid (Uy l k=false):=Nr ((Za TU) (of_decide_eq_false ho'))
    clear TS TU ho'
    go_wp2_with fail
    refine (Za HC).mono ?_
    rintro e w2 ⟨rfl,hb3⟩
    have HB3:=Zb (Zf (Za HB2) hb3)
    clear hb3
    go_wp2
    go_ret
    exact⟨by rw[Za U];rfl,Za HB3⟩
  ·have U:Hid (Uy l k=true):=by
    have h:=Za A
    rw[List.take_of_length_le (by rw[Za Z1];omega),List.take_of_length_le (by rw[Za Z2];omega)] at h
    exact T6 h
   clear A hb
   go_wp2
   go_ret
   exact⟨by rw[Za U];rfl,Za HB⟩
theorem Po(a b:Option Addr)(n m c d:Nat)(l k:List Zh)(o:Bool)(w:World)(hn:n≤maxLen)(hA:CoinsAt w a n l)(hB:CoinsAt w b m k)(ho:Uy l k=o) :
  Calls Tryz.prog 67 #[.slice a n c,.slice b m d,.func (.func 68) #[] #[]] w fun e w'=>e = .returned (.bool o)∧Below w.heap.size w w':=by
 by_cases h:n=m
 ·subst h
  by_cases h0:n=0
  ·subst h0
   have e1:l=[]:=List.length_eq_zero_iff.1 hA.1
   have e2:k=[]:=List.length_eq_zero_iff.1 hB.1
   subst e1 e2
   rw[T6 rfl] at ho
   subst ho
   exact (D8 a b c d _ w).mono fun e w' ⟨h1,h2⟩=>⟨h1,h2 ▸ Below.refl _ _⟩
  ·obtain⟨b1,o1,rfl,_,h1⟩:=hA.2 (by omega)
   obtain⟨b2,o2,rfl,_,h2⟩:=hB.2 (by omega)
   exact Sp b1 o1 b2 o2 n c d l k o w hn hA.1 hB.1 h1 h2 ho
 ·have e:l≠k:=fun e=>h (by rw[←hA.1,←hB.1,e])
  rw[Nr e] at ho
  subst ho
  exact (D9 a b n m c d _ w h).mono fun e w' ⟨h1,h2⟩=>⟨h1,h2 ▸ Below.refl _ _⟩
theorem Zbs(a b:Option Addr)(n m c d:Nat)(l k:List Zh)(o:Bool)(w:World)(hn:n≤maxLen)(hA:CoinsAt w a n l)(hB:CoinsAt w b m k)(ho:Uy l k=o) :
  Calls Tryz.prog 19 #[.slice a n c,.slice b m d] w fun e w'=>e = .returned (.bool o)∧Below w.heap.size w w':=by
 have C:=Zb (Po a b n m c d l k o w hn hA hB ho)
 clear hA hB ho
 go_enter Tryz.func19,Tryz.ntmps19
 go_wp2_with fail
 refine (Za C).mono ?_
 rintro e w2 ⟨rfl,hb2⟩
 have HB2:=Zb hb2
 clear hb2
 go_wp2
 go_ret
 exact⟨rfl,Za HB2⟩
end Go.Proofs.YtmomfkikogbdeaaGreatDoor
