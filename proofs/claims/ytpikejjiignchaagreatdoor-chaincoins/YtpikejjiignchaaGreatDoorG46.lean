import Derived.Test.YtpikejjiignchaaGreatDoorG45
set_option maxHeartbeats 12800000
set_option maxRecDepth 10000
namespace Go.Proofs.YtpikejjiignchaaGreatDoor.Tr
open Go.RowKit Go.Maps
theorem Ht{x:Int}(h0:0≤x)(h1:x≤1000000000):(Lit.int .i64 x).wf=true:=by
 simp[Lit.wf,IntKind.min,IntKind.max,IntKind.signed,IntKind.bits]
 omega
theorem Cy{b:Zk}(h:Xb b=0):0≤b.1∧b.1≤120:=by
 unfold Xb at h
 split at h
 ·cases h
 ·next q=>simp[Xx] at q;omega
theorem K5{N:List Int}{T:List Zk}{s:Int}{b:Zk}(h:s<1∨120<s):Xi N T s b=3:=by
 unfold Xi
 rw[if_pos (by simp;omega)]
theorem Zha{N:List Int}{T:List Zk}{s:Int}{b:Zk}(h0:¬s<1)(h1:¬120<s)(h:Xb b≠0):Xi N T s b=Xb b:=by
 unfold Xi
 rw[if_neg (by simp;omega),if_pos h]
theorem Ey{N:List Int}{T:List Zk}{s:Int}{b:Zk}(h0:¬s<1)(h1:¬120<s)(h:Xb b=0)(hs:s∈N):Xi N T s b=6:=by
 unfold Xi
 rw[if_neg (by simp;omega),if_neg (by simp[h]),if_pos (by simp[hs])]
theorem Zgz{N:List Int}{T:List Zk}{s:Int}{b:Zk}(h0:¬s<1)(h1:¬120<s)(h:Xb b=0)(hs:s∉N)(hp:¬(b.1=0∨b.1∈N)):Xi N T s b=5:=by
 unfold Xi
 rw[if_neg (by simp;omega),if_neg (by simp[h]),if_neg (by simp[hs]),if_pos (by simp;exact not_or.1 hp)]
theorem Np{N:List Int}{T:List Zk}{s:Int}{b:Zk}(h0:¬s<1)(h1:¬120<s)(h:Xb b=0)(hs:s∉N)(hp:b.1=0∨b.1∈N):Xi N T s b=if b.2.1≠(fnd b.1 N T).2.1+1 then 4 else 0:=by
 unfold Xi
 rw[if_neg (by simp;omega),if_neg (by simp[h]),if_neg (by simp[hs]),if_neg (by rintro ⟨q1,q2⟩;rcases hp with q|q <;> simp_all)]
theorem rchkTree_any(a b:Option Addr)(n c m d:Nat)(N:List Int)(T:List Zk)(x:Int)(w:World)(hN:IntsAt w a n N)(hT:BlksAt w b m T)(sN:SlOk a n c)(sT:SlOk b m d)(hx:chkTr N T=x) :
  Calls Tryz.prog 9 #[.agg #[.slice a n c,.slice b m d]] w fun e w'=>e = .returned (.int .i64 x)∧Below w.heap.size w w':=by
 subst hx
 obtain⟨X,hX⟩:∃ X,X=w.alloc (.cells #[.slice a n c,.slice b m d] 28):=⟨_,rfl⟩
 have hbX:Below w.heap.size w X:=by rw[hX];exact Zg _ _
 have hX0:X.heap[w.heap.size]? = some (.cells [.slice a n c,.slice b m d].toArray 28 (0,0)):=by rw[hX];exact two_heap _ _ _ _
 have HB:=Zb hbX
 have HXS:Hid (X.heap.size=w.heap.size+1):=by show _=_;rw[hX];simp
 have HX0:=Zb hX0
 have x0:=Zd hX0 0 _ rfl
 have x1:=Zd hX0 1 _ rfl
 have xl:=lt_of_block hX0
 have HN:=Zb (hN.later hbX)
 have HT:=Zb (hT.later hbX)
 have HZN:=Zb hN.1
 have HZT:=Zb hT.1
 have hm:=sN.2.1
 have hm2:=sT.2.1
 have hlc:=sN.1
 unfold maxLen at hm hm2
 by_cases e:n=m
 ·subst e
  by_cases h24:24<n
  ·have R:Hid (chkTr N T=2):=by show _=_;unfold chkTr;rw[hN.1,hT.1,if_neg (by simp),if_pos h24]
   have g0:((n:Int) != (n:Int))=false:=by simp
   have g1:(24:Int)<(n:Int):=by omega
   clear hN hT sN sT hX0 hbX
   go_enter Tryz.func9,Tryz.ntmps9
   go_wp2_with fail
   rw[←hX]
   clear hX
   go_wp2
   go_ret
   exact⟨by rw[Za R];rfl,Za HB⟩
  ·have R:Hid (chkTr N T=Xo (N.take 0) (T.take 0) (N.drop 0) (T.drop 0)):=by show _=_;unfold chkTr;rw[hN.1,hT.1,if_neg (by simp),if_neg h24];rfl
   have g0:((n:Int) != (n:Int))=false:=by simp
   have g1:¬(24:Int)<(n:Int):=by omega
   have hmm:=@run_makeMap Tryz.prog
   clear hN hT sN sT hX0 hbX
   go_enter Tryz.func9,Tryz.ntmps9
   go_wp2_with (first|(refine G9 rfl _ _ _ rfl _ (w.heap.size+1) ?_ rfl rfl rfl rfl ?_;(· simp);intro w1 hm1 hb1;rw[←hX] at hb1;have v0:=Zc hb1 x0;have v1:=Zc hb1 x1;have vl:=Nat.lt_of_lt_of_le xl hb1.size)|go_in)
   clear hX
   have HM1:Hid (HMap (w.heap.size+1) (N.take 0) (T.take 0) w1):=by show HMap _ _ _ _;rw[List.take_zero,List.take_zero];exact hm1
   have HB1:=Zb hb1
   clear hm1 hb1 v0 v1 vl
   go_loopw [28] (fun i wr=>∃ j:Nat,j≤n∧i = .int .i64 j∧Hid (chkTr N T=Xo (N.take j) (T.take j) (N.drop j) (T.drop j))∧Hid (Wd (T.take j))∧Hid (Below X.heap.size X wr)∧Hid (HMap (w.heap.size+1) (N.take j) (T.take j) wr)) (fun i _=>n - (intOf i).toNat)
   case atStart=>exact⟨0,Nat.zero_le _,rfl,R,(fun b hb=>(by simp at hb):Wd (T.take 0)),HB1,HM1⟩
   case round=>
    obtain⟨j,hj,rfl,A,HH,HBr,HMr⟩:=hrel
    clear R HM1 HB1
    by_cases hlt:j<n
    ·have h1:j<N.length:=by rw[Za HZN];exact hlt
     have h2:j<T.length:=by rw[Za HZT];exact hlt
     obtain⟨b1,off1,rfl,hl1,hc1⟩:=(Za HN).2 (by omega)
     obtain⟨b2,off2,rfl,hl2,hc2⟩:=(Za HT).2 (by omega)
     have f1:=Zc (Za HBr) (hc1 j h1)
     have hin:=BlkAt.kept _ _ _ _ _ (Za HBr) (hc2 j h2)
     have AT:=Zb (Cx N T j h1 h2)
     have HMO:=Zb (Li h2 (Za HH))
     have TK:=Zb (And.intro (List.take_succ_eq_append_getElem h1) (List.take_succ_eq_append_getElem h2))
     obtain⟨s,hs⟩:∃ s,N[j]=s:=⟨_,rfl⟩
     obtain⟨t,ht⟩:∃ t,T[j]=t:=⟨_,rfl⟩
     rw[hs] at f1 AT TK
     rw[ht] at hin AT HMO TK
     obtain⟨p,h,k,o,L⟩:=t
     obtain⟨g0',g1',g2,g3,ta,tn,tc,g4,hL,_⟩:=hin
     simp only at g0' g1' g2 g3 hL
     have w0:=Zc (Za HBr) x0
     have w1:=Zc (Za HBr) x1
     have wl:=Nat.lt_of_lt_of_le xl (Za HBr).size
     have ll1:=Nat.lt_of_lt_of_le hl1 (Za HBr).size
     have ll2:=Nat.lt_of_lt_of_le hl2 (Za HBr).size
     have HLL:Hid ((N.take j).length=(T.take j).length∧(N.take j).length≤100):=by show _∧_;rw[List.length_take,List.length_take];omega
     obtain⟨M,hM⟩:∃ M,N.take j=M:=⟨_,rfl⟩
     obtain⟨U,hU⟩:∃ U,T.take j=U:=⟨_,rfl⟩
     rw[hM] at A AT HMr TK HLL
     rw[hU] at A AT HMr TK HH HLL
     obtain⟨Y,hY⟩:∃ Y,Y=wr.alloc (.cells #[.int .i64 p,.int .i64 h,.int .i64 k,.int .i64 o,.slice ta tn tc] 68):=⟨_,rfl⟩
     have hbY:Below wr.heap.size wr Y:=by rw[hY];exact Zg _ _
     have hY1:Y.heap[wr.heap.size]? = some (.cells [.int .i64 p,.int .i64 h,.int .i64 k,.int .i64 o,.slice ta tn tc].toArray 68 (0,0)):=by rw[hY];exact Yd _ _ _ _ _ _ _
     have HY1:=Zb hY1
     have HBY:=Zb (Ze (Za HBr) hbY)
     have HBW:=Zb (Ze (Za HB) (Za HBY))
     have HMY:=Zb ((Za HMr).keep hbY)
     have y0:=Zd hY1 0 _ rfl
     have y1:=Zd hY1 1 _ rfl
     have y2:=Zd hY1 2 _ rfl
     have y3:=Zd hY1 3 _ rfl
     have y4:=Zd hY1 4 _ rfl
     have yl:=lt_of_block hY1
     obtain⟨x,hx⟩:∃ x,Xb (p,h,k,o,L)=x:=⟨_,rfl⟩
     have CT:=Zb (Ru p h k o ta tn tc L x Y (hL.later hbY) hx)
     have HX:=Zb hx
     clear hbY hY1 hL hs ht hx hc1 hc2 x0 x1 xl hl1 hl2 hM hU h1 h2
     by_cases s1:s<1
     ·have R:Hid (chkTr N T=3):=by show _=_;rw[Za A,Za AT,K5 (.inl s1),if_pos (by decide)]
      clear A AT
      go_wp2_with fail
      rw[←hY]
      clear hY
      go_wp2
      go_ret
      exact⟨by rw[Za R];rfl,Za HBW⟩
     by_cases s2:120<s
     ·have R:Hid (chkTr N T=3):=by show _=_;rw[Za A,Za AT,K5 (.inr s2),if_pos (by decide)]
      clear A AT
      go_wp2_with fail
      rw[←hY]
      clear hY
      go_wp2
      go_ret
      exact⟨by rw[Za R];rfl,Za HBW⟩
     by_cases hx0:x=0
     ·subst hx0
      have WS:Hid ((Lit.int .i64 s).wf=true):=Ht (by omega) (by omega)
      have hp:=Cy (Za HX)
      have hq:=Ro (Za HX)
      simp only at hp hq
      have WP:Hid ((Lit.int .i64 p).wf=true):=Ht hp.1 (by omega)
      have WH:Hid ((Lit.int .i64 h).wf=true):=Ht (by omega) (by omega)
      have HH2:=Zb ((Za HMO) (Za HX))
      clear HMO
      by_cases i3:s∈M
      ·have R:Hid (chkTr N T=6):=by show _=_;rw[Za A,Za AT,Ey s1 s2 (Za HX) i3,if_pos (by decide)]
       obtain⟨z3,hz3⟩:∃ z,(fnd s M U).2.1=z:=⟨_,rfl⟩
       have D3:Hid (decide (s=0∨s∈M)=true):=by show _=_;simp[i3]
       have Z3:=Zb hz3
       clear A AT hp hq i3 hz3
       go_wp2_with fail
       rw[←hY]
       clear hY
       go_wp2_with fail
       refine (Za CT).mono ?_
       rintro e w2 ⟨rfl,hb2⟩
       have hy2:=(hb2.block _ (lt_of_block (Za HY1))).trans (Za HY1)
       have HB2:=Zb (Ze (Za HBY) hb2)
       have HM2:=Zb ((Za HMY).keep hb2)
       have z0:=Zd hy2 0 _ rfl
       have z1:=Zd hy2 1 _ rfl
       have zl2:=lt_of_block hy2
       have HBF:=Zb (Ze (Za HB) (Za HB2))
       clear hb2 hy2 y0 y1 y2 y3 y4 yl g0' g1' g2 g3 g4 f1 w0 w1
       go_wp2_with (first|(at_lookup;refine Xj rfl _ _ rfl (w.heap.size+1) M U rfl (Za HM2) s rfl (Za WS) z3 true (Za Z3) (Za D3) ?_)|go_in)
       go_ret
       exact⟨by rw[Za R];rfl,Za HBF⟩
      ·have I3:=Zb i3
       obtain⟨z3,hz3⟩:∃ z,(fnd s M U).2.1=z:=⟨_,rfl⟩
       have D3:Hid (decide (s=0∨s∈M)=false):=by show _=_;simp[i3];omega
       have Z3:=Zb hz3
       obtain⟨z,hz⟩:∃ z,(fnd p M U).2.1=z:=⟨_,rfl⟩
       have Z4:=Zb hz
       have zb:=Qg (Za HH) p M
       rw[hz] at zb
       have zl:=zb.1
       have zh:=zb.2.1
       clear hz3 zb
       by_cases i4:p=0∨p∈M
       ·have D4:Hid (decide (p=0∨p∈M)=true):=by show _=_;simp[i4]
        by_cases e5:h=z+1
        ·have R:Hid (chkTr N T=Xo (N.take (j+1)) (T.take (j+1)) (N.drop (j+1)) (T.drop (j+1))):=by show _=_;rw[Za A,Za AT,Np s1 s2 (Za HX) i3 i4];simp only;rw[hz];simp[e5]
         have g5:(z+1 != h)=false:=by simp[e5]
         clear A AT hp hq i3 i4 hz e5
         go_wp2_with fail
         rw[←hY]
         clear hY
         go_wp2_with fail
         refine (Za CT).mono ?_
         rintro e w2 ⟨rfl,hb2⟩
         have hy2:=(hb2.block _ (lt_of_block (Za HY1))).trans (Za HY1)
         have HB2:=Zb (Ze (Za HBY) hb2)
         have HM2:=Zb ((Za HMY).keep hb2)
         have z0:=Zd hy2 0 _ rfl
         have z1:=Zd hy2 1 _ rfl
         have zl2:=lt_of_block hy2
         have HBF:=Zb (Ze (Za HB) (Za HB2))
         clear hb2 hy2 y0 y1 y2 y3 y4 yl g0' g1' g2 g3 g4 f1 w0 w1
         go_wp2_with (first|(at_lookup;refine Xj rfl _ _ rfl (w.heap.size+1) M U rfl (Za HM2) s rfl (Za WS) z3 false (Za Z3) (Za D3) ?_)|(at_lookup;refine Xj rfl _ _ rfl (w.heap.size+1) M U rfl (Za HM2) p rfl (Za WP) z true (Za Z4) (Za D4) ?_)|(at_mapUpdate;refine G6 rfl _ _ _ rfl (w.heap.size+1) M U rfl (Za HM2) (Za HLL).1 (Za HLL).2 s (Za I3) (p,h,k,o,L) rfl rfl (Za WS) (Za WH) ?_;intro w3 hm3 hg3;rw[←(Za TK).1,←(Za TK).2] at hm3;have HM3:=Zb hm3;have HB3:=Zb ((Za HB2).grown hg3 (Za HB2).size (fun q hq=>by cases hq;exact Nat.le_of_eq (Za HXS)));clear hm3 hg3)|go_in)
         go_roundw
         case rel=>exact⟨j+1,by omega,by go_num,R,HH2,HB3,HM3⟩
         case measure=>simp[intOf];omega
        ·have R:Hid (chkTr N T=4):=by show _=_;rw[Za A,Za AT,Np s1 s2 (Za HX) i3 i4];simp only;rw[hz];simp[e5]
         have g5:(z+1 != h)=true:=by simp;omega
         clear A AT hp hq i3 i4 hz e5
         go_wp2_with fail
         rw[←hY]
         clear hY
         go_wp2_with fail
         refine (Za CT).mono ?_
         rintro e w2 ⟨rfl,hb2⟩
         have hy2:=(hb2.block _ (lt_of_block (Za HY1))).trans (Za HY1)
         have HB2:=Zb (Ze (Za HBY) hb2)
         have HM2:=Zb ((Za HMY).keep hb2)
         have z0:=Zd hy2 0 _ rfl
         have z1:=Zd hy2 1 _ rfl
         have zl2:=lt_of_block hy2
         have HBF:=Zb (Ze (Za HB) (Za HB2))
         clear hb2 hy2 y0 y1 y2 y3 y4 yl g0' g1' g2 g3 g4 f1 w0 w1
         go_wp2_with (first|(at_lookup;refine Xj rfl _ _ rfl (w.heap.size+1) M U rfl (Za HM2) s rfl (Za WS) z3 false (Za Z3) (Za D3) ?_)|(at_lookup;refine Xj rfl _ _ rfl (w.heap.size+1) M U rfl (Za HM2) p rfl (Za WP) z true (Za Z4) (Za D4) ?_)|go_in)
         go_ret
         exact⟨by rw[Za R];rfl,Za HBF⟩
       ·have D4:Hid (decide (p=0∨p∈M)=false):=by show _=_;simp[i4]
        have R:Hid (chkTr N T=5):=by show _=_;rw[Za A,Za AT,Zgz s1 s2 (Za HX) i3 i4,if_pos (by decide)]
        clear A AT hp hq i3 i4 hz
        go_wp2_with fail
        rw[←hY]
        clear hY
        go_wp2_with fail
        refine (Za CT).mono ?_
        rintro e w2 ⟨rfl,hb2⟩
        have hy2:=(hb2.block _ (lt_of_block (Za HY1))).trans (Za HY1)
        have HB2:=Zb (Ze (Za HBY) hb2)
        have HM2:=Zb ((Za HMY).keep hb2)
        have z0:=Zd hy2 0 _ rfl
        have z1:=Zd hy2 1 _ rfl
        have zl2:=lt_of_block hy2
        have HBF:=Zb (Ze (Za HB) (Za HB2))
        clear hb2 hy2 y0 y1 y2 y3 y4 yl g0' g1' g2 g3 g4 f1 w0 w1
        go_wp2_with (first|(at_lookup;refine Xj rfl _ _ rfl (w.heap.size+1) M U rfl (Za HM2) s rfl (Za WS) z3 false (Za Z3) (Za D3) ?_)|(at_lookup;refine Xj rfl _ _ rfl (w.heap.size+1) M U rfl (Za HM2) p rfl (Za WP) z false (Za Z4) (Za D4) ?_)|go_in)
        go_ret
        exact⟨by rw[Za R];rfl,Za HBF⟩
     ·have R:Hid (chkTr N T=x):=by show _=_;rw[Za A,Za AT,Zha s1 s2 (by rw[Za HX];exact hx0),Za HX,if_pos hx0]
      have gx:(x != 0)=true:=by simp[hx0]
      clear A AT hx0
      go_wp2_with fail
      rw[←hY]
      clear hY
      go_wp2_with fail
      refine (Za CT).mono ?_
      rintro e w2 ⟨rfl,hb2⟩
      have hy2:=(hb2.block _ (lt_of_block (Za HY1))).trans (Za HY1)
      have HB2:=Zb (Ze (Za HBY) hb2)
      have HM2:=Zb ((Za HMY).keep hb2)
      have z0:=Zd hy2 0 _ rfl
      have z1:=Zd hy2 1 _ rfl
      have zl2:=lt_of_block hy2
      have HBF:=Zb (Ze (Za HB) (Za HB2))
      clear hb2 hy2 y0 y1 y2 y3 y4 yl g0' g1' g2 g3 g4 f1 w0 w1
      go_wp2
      go_ret
      exact⟨by rw[Za R];rfl,Za HBF⟩
    ·have R:Hid (chkTr N T=0):=by show _=_;rw[Za A,Dg N T j (by rw[Za HZN];omega)]
     have HBF:=Zb (Ze (Za HB) (Za HBr))
     clear A
     go_wp2
     go_ret
     exact⟨by rw[Za R];rfl,Za HBF⟩
 ·have R:Hid (chkTr N T=4):=by show _=_;unfold chkTr;rw[hN.1,hT.1,if_pos e]
  have g0:((n:Int) != (m:Int))=true:=by simp;omega
  clear hN hT sN sT hX0 hbX
  go_enter Tryz.func9,Tryz.ntmps9
  go_wp2_with fail
  rw[←hX]
  clear hX
  go_wp2
  go_ret
  exact⟨by rw[Za R];rfl,Za HB⟩
end Go.Proofs.YtpikejjiignchaaGreatDoor.Tr
namespace Go.Proofs.YtpikejjiignchaaGreatDoor
open Go.RowKit
theorem Ls(a b:Option Addr)(n c m d:Nat)(N:List Int)(T:List Zk)(s t:Int)(z x:Int)(w:World)(hN:Tr.IntsAt w a n N)(hT:Tr.BlksAt w b m T)(sN:SlOk a n c)(sT:SlOk b m d)(hx:J9 N T s t=(z,x)) :
  Calls Tryz.prog 8 #[.agg #[.slice a n c,.slice b m d],.int .i64 s,.int .i64 t] w fun e w'=>e = .returned (.tuple #[.int .i64 z,.int .i64 x])∧Below w.heap.size w w':=by
 obtain⟨X,hX⟩:∃ X,X=w.alloc (.cells #[.slice a n c,.slice b m d] 28):=⟨_,rfl⟩
 have hbX:Below w.heap.size w X:=by rw[hX];exact Zg _ _
 have hX0:X.heap[w.heap.size]? = some (.cells [.slice a n c,.slice b m d].toArray 28 (0,0)):=by rw[hX];exact Tr.two_heap _ _ _ _
 obtain⟨⟨P,y⟩,hp⟩:∃ r,Tr.pathE N T t=r:=⟨_,rfl⟩
 obtain⟨i,hi⟩:∃ i,Tr.idxI s P 0=i:=⟨_,rfl⟩
 obtain⟨pn,hpn⟩:∃ pn,P.length=pn:=⟨_,rfl⟩
 unfold J9 at hx
 rw[hp] at hx
 simp only at hx
 rw[hi,hpn] at hx
 have hP:pn≤24:=by rw[←hpn];exact Kn hp
 have hib:i = -1∨(0≤i∧i<pn):=by
  rcases Zac P s 0 with h|⟨j,h1,h2⟩
  ·left;rw[←hi,h]
  ·right;have:=(List.getElem?_eq_some_iff.1 h2).1;rw[←hi,h1];omega
 have C1:=Zb (Tr.path_is a b n c m d N T t P pn y X (hN.later hbX) (hT.later hbX) sN sT hp hpn)
 have HI:=Zb hi
 have x0:=Zd hX0 0 _ rfl
 have x1:=Zd hX0 1 _ rfl
 have xl:=lt_of_block hX0
 have HBX:=Zb hbX
 have HX:=Zb hx
 clear hN hT sN sT hbX hX0 hx hp hpn hi
 go_enter Tryz.func8,Tryz.ntmps8
 go_wp2_with fail
 rw[←hX]
 clear hX
 (try go_wp2_with fail)
 refine (Za C1).mono ?_
 rintro e w1 ⟨v,rfl,ho,hb1⟩
 obtain⟨pa,pc,rfl,sP,hPI⟩:=Tr.ints_of_own ho
 have C2:=Zb (Tr.indexInt_is pa pn pc P s i w1 (by unfold maxLen;omega) hPI (Za HI))
 have HW1:=Zb (Ze (Za HBX) hb1)
 clear ho hPI hb1 C1 x0 x1 HI
 by_cases hy:y=0
 ·subst hy
  have hx:=Za HX
  rw[if_neg (fun q=>q rfl)] at hx
  have HX2:=Zb hx
  clear hx HX
  go_wp2_with fail
  refine (Za C2).mono ?_
  rintro e w2 ⟨rfl,rfl⟩
  have HW2:=HW1
  clear C2
  by_cases hi0:i<0
  ·have hx:=Za HX2
   rw[if_pos hi0] at hx
   injection hx with h1 h2
   subst h1 h2
   clear HX2
   go_wp2
   go_ret2
   exact⟨rfl,Za HW2⟩
  ·have hx:=Za HX2
   rw[if_neg hi0] at hx
   injection hx with h1 h2
   subst h1 h2
   clear HX2
   have h0:0≤i∧i<pn:=by omega
   clear hib
   go_wp2
   go_ret2
   exact⟨by first|rfl|(congr 1),Za HW2⟩
 ·have hx:=Za HX
  rw[if_pos hy] at hx
  injection hx with h1 h2
  subst h1 h2
  have gy:(y != 0)=true:=by simp[hy]
  clear HX C2
  go_wp2
  go_ret2
  exact⟨rfl,Za HW1⟩
open Tr (Ve GrS)
def Zay:List ByteArray:=(Qt [] (Ve 0 1 1 5)).1
def C6:List ByteArray:=(Qt Zay (Ve 2 2 1 7)).1
def chC:List Zf:=(Wa C6 [2,4] [Ve 0 1 1 5,Ve 2 2 1 7] 4).2
theorem ch1:Qt [] (Ve 0 1 1 5)=(Zay,2,[1],0):=by kernel_rfl
theorem ch2:Qt Zay (Ve 2 2 1 7)=(C6,4,[3],0):=by kernel_rfl
theorem ch3:Tr.addE [] [] 2 (Ve 0 1 1 5)=([2],[Ve 0 1 1 5],0):=by kernel_rfl
theorem ch4:Tr.addE [2] [Ve 0 1 1 5] 4 (Ve 2 2 1 7)=([2,4],[Ve 0 1 1 5,Ve 2 2 1 7],0):=by kernel_rfl
theorem ch5:Wa C6 [2,4] [Ve 0 1 1 5,Ve 2 2 1 7] 4=(0,chC):=by kernel_rfl
theorem ch6:chC.length=2:=by kernel_rfl
theorem ch7:J9 [2,4] [Ve 0 1 1 5,Ve 2 2 1 7] 2 4=(1,0):=by kernel_rfl
theorem Ad{W W':World}{t:Nat}{cs:List Value}{ty:TypeId}(hv:∀ v∈cs,∃ a n c,v = .slice a n c)(ht:W.heap[t]? = some (.cells cs.toArray ty (0,0)))(hg:Gr W W' (fun q=>q=t)){a:Option Addr}{n:Nat}{K:List ByteArray}(h:Bk.TextsAt W a n K):Bk.TextsAt W' a n K:=by
 refine⟨h.1,fun h0=>?_⟩
 obtain⟨b,off,rfl,hc⟩:=h.2 h0
 refine⟨b,off,rfl,fun i hi=>hg.cell (hc i hi) ?_⟩
 intro q
 have q:b=t:=q
 subst q
 have:=hc i hi
 simp only[World.cell?,ht] at this
 have e:cs[off+i]? = some (.string K[i]):=by simpa using this
 obtain⟨a',n',c',e'⟩:=hv _ (List.mem_of_getElem? e)
 cases e'
def BkS(w:World)(t:Nat)(K:List ByteArray)(W:World):Prop:=
 ∃ a n c,W.heap[t]? = some (.cells [.slice a n c].toArray 24 (0,0))∧Bk.TextsAt W a n K∧Below w.heap.size w W∧w.heap.size≤t
theorem Zem{w W w2:World}{t:Nat}{K K':List ByteArray}(h:BkS w t K W)(hb2:Below W.heap.size W w2){a:Option Addr}{n c:Nat}(hK:Bk.TextsAt w2 a n K'):BkS w t K' (w2.setCell ⟨t,0,none⟩ (.slice a n c)):=by
 obtain⟨a0,n0,c0,h1,h2,h3,h4⟩:=h
 have h5:=(hb2.block _ (lt_of_block h1)).trans h1
 have hg:=(Gr.refl w2 (fun q=>q=t)).one t 0 (.inl rfl) (.slice a n c)
 refine⟨a,n,c,Tr.set_cells h5 0 _,Ad (fun v hv=>by simp at hv;exact⟨_,_,_,hv⟩) h5 hg hK,hg.below (Ze h3 hb2) (by have:=h3.size;have:=hb2.size;omega) (fun q e=>by omega),h4⟩
theorem BkS.later{w W W':World}{t:Nat}{K:List ByteArray}(h:BkS w t K W)(hb:Below W.heap.size W W'):BkS w t K W':=by
 obtain⟨a0,n0,c0,h1,h2,h3,h4⟩:=h
 exact⟨a0,n0,c0,(hb.block _ (lt_of_block h1)).trans h1,h2.later hb,Ze h3 hb,h4⟩
theorem BkS.gr{w W W':World}{t u:Nat}{K:List ByteArray}{cs:List Value}{ty:TypeId}(h:BkS w t K W)(hv:∀ v∈cs,∃ a n c,v = .slice a n c)(hu:W.heap[u]? = some (.cells cs.toArray ty (0,0)))(hne:t≠u)(hw:w.heap.size≤u)(hg:Gr W W' (fun q=>q=u)):BkS w t K W':=by
 obtain⟨a0,n0,c0,h1,h2,h3,h4⟩:=h
 exact⟨a0,n0,c0,hg.heap h1 hne,Ad hv hu hg h2,hg.below h3 h3.size (fun q e=>by omega),h4⟩
theorem Cz(w:World)(hE:Env w):Calls Tryz.prog 10 #[] w fun e w'=>e = .returned (.bool true)∧Below w.heap.size w w':=by
 have snil:SlOk none 0 0:=Wp
 have HE:=Zb hE
 have S1:=Zb (Tr.simple_is 0 1 1 5 w)
 have S2:=Zb (fun W=>Tr.simple_is 2 2 1 7 W)
 have S3:=Zb (fun W=>Tr.simple_is 0 1 1 5 W)
 have N1:=Zb (fun W (hw:Below w.heap.size w W) a c (h:TxsAt W a 1 [(1,[],[(5,[])])])=>Pm none 0 0 [] 0 1 1 0 a 1 c [(1,[],[(5,[])])] Zay 2 [1] 0 W (hE.later hw) ⟨rfl,fun h=>absurd h (by omega)⟩ h ch1)
 have N2:=Zb (fun W (hw:Below w.heap.size w W) ka kn kc a c (hk:Bk.TextsAt W ka kn Zay) (h:TxsAt W a 1 [(2,[],[(7,[])])])=>Pm ka kn kc Zay 2 2 1 0 a 1 c [(2,[],[(7,[])])] C6 4 [3] 0 W (hE.later hw) hk h ch2)
 have A1:=Zb (fun W a c (h:TxsAt W a 1 [(1,[],[(5,[])])]) (hs:SlOk a 1 c)=>Tr.add_is none none 0 0 0 0 [] [] 2 0 1 1 0 a 1 c [(1,[],[(5,[])])] [2] [Ve 0 1 1 5] 1 0 W (Tr.IntsAt.nil _ _) (RowsAt.nil _ _) snil snil h hs ch3 rfl)
 have A2:=Zb (fun W a1 c1 a2 c2 a c (h1:Tr.IntsAt W a1 1 [2]) (h2:Tr.BlksAt W a2 1 [Ve 0 1 1 5]) (s1:SlOk a1 1 c1) (s2:SlOk a2 1 c2) (h:TxsAt W a 1 [(2,[],[(7,[])])]) (hs:SlOk a 1 c)=>Tr.add_is a1 a2 1 c1 1 c2 [2] [Ve 0 1 1 5] 4 2 2 1 0 a 1 c [(2,[],[(7,[])])] [2,4] [Ve 0 1 1 5,Ve 2 2 1 7] 2 0 W h1 h2 s1 s2 h hs ch4 rfl)
 have B1:=Zb (fun W (hw:Below w.heap.size w W) ka kn kc a1 c1 a2 c2 (hk:Bk.TextsAt W ka kn C6) (h1:Tr.IntsAt W a1 2 [2,4]) (h2:Tr.BlksAt W a2 2 [Ve 0 1 1 5,Ve 2 2 1 7]) (s1:SlOk a1 2 c1) (s2:SlOk a2 2 c2)=>Co ka kn kc C6 a1 a2 2 c1 2 c2 _ _ 4 0 chC W (hE.later hw) hk h1 h2 s1 s2 ch5)
 have B2:=Zb (fun W a1 c1 a2 c2 (h1:Tr.IntsAt W a1 2 [2,4]) (h2:Tr.BlksAt W a2 2 [Ve 0 1 1 5,Ve 2 2 1 7]) (s1:SlOk a1 2 c1) (s2:SlOk a2 2 c2)=>Ls a1 a2 2 c1 2 c2 _ _ 2 4 1 0 W h1 h2 s1 s2 ch7)
 clear snil hE
 go_enter Tryz.func10,Tryz.ntmps10
 go_wp2_with fail
 refine (Za S1).mono ?_
 rintro e w1 ⟨a,c,rfl,hT1,hs1,hb1⟩
 have CA:=Zb ((Za N1) w1 hb1 a c hT1)
 have HB1:=Zb hb1
 clear hT1 hs1 hb1 S1 N1
 go_wp2_with fail
 refine (Za CA).mono ?_
 rintro e w2 ⟨ka,kn,kc,na,nn,nc,rfl,hK2,sK2,hN2,hnc,hb2⟩
 have hbX:=Zg w2 (.cells #[.slice ka kn kc] 24)
 have SB:Hid (BkS w w2.heap.size Zay (w2.alloc (.cells #[.slice ka kn kc] 24))):=⟨ka,kn,kc,heap_alloc_new _ _,hK2.later hbX,Ze (Ze (Za HB1) hb2) hbX,Nat.le_trans (Za HB1).size hb2.size⟩
 obtain⟨t,ht⟩:∃ t,t=w2.heap.size:=⟨_,rfl⟩
 obtain⟨X,hX⟩:∃ X,X=w2.alloc (.cells #[.slice ka kn kc] 24):=⟨_,rfl⟩
 rw[←hX,←ht] at SB
 clear CA hK2 sK2 hN2 hnc hb2 hbX HB1
 go_upto_region 2 with fail
 rw[←hX,←ht]
 clear hX ht
 go_cut [5,6,7] from 23 to 31 (fun s5 s6 s7 wx=>s5 = .int .i64 4∧(∃ qa qn qc,s6 = .slice qa qn qc)∧s7 = .int .i64 0∧Hid (BkS w t C6 wx))
 case first=>
  obtain⟨ka,kn,kc,hx,hK,hbw,htw⟩:=Za SB
  have x0:=Zd hx 0 _ rfl
  have xl:=lt_of_block hx
  have HX:=Zb hx
  have HK:=Zb hK
  have HBW:=Zb hbw
  clear hx hK hbw
  go_region_with (first
   | (go_at_call 38;refine ((Za S2) _).mono ?_;rintro e w4 ⟨a4,c4,rfl,hT4,hs4,hb4⟩;have hb4':=Ze (Zh _) hb4;have h4:=(hb4'.block _ (lt_of_block (Za HX))).trans (Za HX);have y0:=Zd h4 0 _ rfl;have yl:=lt_of_block h4;have CN:=Zb ((Za N2) w4 (Ze (Za HBW) hb4') ka kn kc a4 c4 ((Za HK).later hb4') hT4);have H4:=Zb h4;have HB4:=Zb hb4';clear hT4 hs4 hb4 hb4' h4)
   | (go_at_call 37;refine (Za CN).mono ?_;rintro e w5 ⟨ka5,kn5,kc5,na5,nn5,nc5,rfl,hK5,sK5,hN5,hnc5,hb5⟩;have h5:=(hb5.block _ (lt_of_block (Za H4))).trans (Za H4);have z0:=Zd h5 0 _ rfl;have zf0:=Zi h5 0;have zl:=lt_of_block h5;have HN:=Zb (Zem (c:=kc5) (Za SB) (Ze (Za HB4) hb5) hK5);clear hK5 sK5 hN5 hnc5 hb5 h5))
  all_goals
   go_wp2_with fail
   go_meet
   case rel=>exact⟨rfl,⟨_,_,_,rfl⟩,rfl,HN⟩
 case rest=>
  obtain⟨rfl,⟨qa,qn,qc,rfl⟩,rfl,HS⟩:=hcut
  clear SB N2
  have hxl:=(Za HS)
  obtain⟨ka3,kn3,kc3,hx3,_,hbw3,htw3⟩:=hxl
  have HBW3:=Zb hbw3
  clear hx3 hbw3
  go_wp2_with fail
  refine ((Za S3) _).mono ?_
  rintro e w4 ⟨a,c,rfl,hT4,hs4,hb4⟩
  have CA:=Zb ((Za A1) w4 a c hT4 hs4)
  have HB4:=Zb hb4
  clear hT4 hs4 hb4 S3 A1
  go_wp2_with fail
  refine (Za CA).mono ?_
  rintro e w5 ⟨a1,c1,a2,c2,rfl,hF5,s1,s2,hb5⟩
  have hbX:=Zg w5 (.cells #[.slice a1 1 c1,.slice a2 1 c2] 28)
  have hw5:=Ze (Za HBW3) (Ze (Za HB4) hb5)
  have ST:Hid (GrS w w5.heap.size [2] [Ve 0 1 1 5] 1 (w5.alloc (.cells #[.slice a1 1 c1,.slice a2 1 c2] 28))):=
   ⟨a1,c1,a2,c2,Tr.two_heap _ _ _ _,hF5.now.1.later hbX,hF5.now.2.later hbX,s1,s2,Ze hw5 hbX,hw5.size⟩
  have SK:=Zb ((Za HS).later (Ze (Ze (Za HB4) hb5) hbX))
  have hne:t≠w5.heap.size:=by
   obtain⟨_,_,_,q,_⟩:=(Za HS).later (Ze (Za HB4) hb5)
   have:=lt_of_block q
   omega
  obtain⟨u,hu⟩:∃ u,u=w5.heap.size:=⟨_,rfl⟩
  obtain⟨Y,hY⟩:∃ Y,Y=w5.alloc (.cells #[.slice a1 1 c1,.slice a2 1 c2] 28):=⟨_,rfl⟩
  rw[←hY,←hu] at ST
  rw[←hY] at SK
  rw[←hu] at hne
  clear CA hF5 s1 s2 hb5 hbX hw5 HB4 HBW3 HS
  go_upto_region 4 with fail
  rw[←hY,←hu]
  clear hY hu
  go_cut [10] from 39 to 46 (fun s10 wx=>s10 = .int .i64 0∧Hid (GrS w u [2,4] [Ve 0 1 1 5,Ve 2 2 1 7] 2 wx)∧Hid (BkS w t C6 wx))
  case first=>
   obtain⟨a1,c1,a2,c2,hx,hi,hbk,s1,s2,hbw,htw⟩:=Za ST
   have x0:=Zd hx 0 _ rfl
   have x1:=Zd hx 1 _ rfl
   have xl:=lt_of_block hx
   have HX:=Zb hx
   have HI:=Zb hi
   have HK:=Zb hbk
   have HS1:=Zb s1
   have HS2:=Zb s2
   have HBW:=Zb hbw
   clear hx hi hbk s1 s2 hbw ST
   go_region_with (first
    | (go_at_call 38;refine ((Za S2) _).mono ?_;rintro e w6 ⟨a6,c6,rfl,hT6,hs6,hb6⟩;have hb6':=Ze (Zh _) hb6;have h6:=(hb6'.block _ (lt_of_block (Za HX))).trans (Za HX);have y0:=Zd h6 0 _ rfl;have y1:=Zd h6 1 _ rfl;have yl:=lt_of_block h6;have CA:=Zb ((Za A2) w6 _ _ _ _ a6 c6 ((Za HI).later hb6') ((Za HK).later hb6') (Za HS1) (Za HS2) hT6 hs6);have HB6:=Zb (Ze (Za HBW) hb6');have SK6:=Zb ((Za SK).later hb6');have H6:=Zb h6;clear hT6 hs6 hb6 hb6' h6)
    | (go_at_call 39;refine (Za CA).mono ?_;rintro e w7 ⟨b1,d1,b2,d2,rfl,hF7,t1,t2,hb7⟩;have h7:=(hb7.block _ (lt_of_block (Za H6))).trans (Za H6);have z0:=Zd h7 0 _ rfl;have z1:=Zd h7 1 _ rfl;have zf0:=Zi h7 0;have zf1:=Zi h7 1;have zl:=lt_of_block h7;have HN:=Zb (Tr.grS_store (Za HB6) htw yl h7 hF7 t1 t2 hb7);have HM:=Zb (BkS.gr ((Za SK6).later hb7) (fun v hv=>by simp at hv;rcases hv with rfl|rfl <;> exact⟨_,_,_,rfl⟩) h7 hne htw (((Gr.refl w7 (fun q=>q=u)).one u 0 (.inl rfl) (.slice b1 2 d1)).one u 1 (.inl rfl) (.slice b2 2 d2)));clear hF7 t1 t2 hb7 h7))
   all_goals
    go_wp2_with fail
    go_meet
    case rel=>exact⟨rfl,HN,HM⟩
  case rest=>
   obtain⟨rfl,HG,HS⟩:=hcut
   clear ST SK S2 A2
   obtain⟨a1,c1,a2,c2,hx,hi,hbk,s1,s2,hbw,htw⟩:=Za HG
   obtain⟨ka8,kn8,kc8,hk8,hK8,_,_⟩:=Za HS
   have x0:=Zd hx 0 _ rfl
   have x1:=Zd hx 1 _ rfl
   have xl:=lt_of_block hx
   have k0:=Zd hk8 0 _ rfl
   have kl:=lt_of_block hk8
   have CB:=Zb ((Za B1) _ hbw ka8 kn8 kc8 a1 c1 a2 c2 hK8 hi hbk s1 s2)
   have HX:=Zb hx
   have HI:=Zb hi
   have HK:=Zb hbk
   have HS1:=Zb s1
   have HS2:=Zb s2
   have HBW:=Zb hbw
   clear hx hi hbk s1 s2 hbw HG B1 HS hk8 hK8
   go_wp2_with fail
   refine (Za CB).mono ?_
   rintro e w8 ⟨oa,oon,oc,rfl,hC8,sC8,hb8⟩
   have h8:=(hb8.block _ (lt_of_block (Za HX))).trans (Za HX)
   have CP:=Zb ((Za B2) w8 a1 c1 a2 c2 ((Za HI).later hb8) ((Za HK).later hb8) (Za HS1) (Za HS2))
   have y0:=Zd h8 0 _ rfl
   have y1:=Zd h8 1 _ rfl
   have yl:=lt_of_block h8
   have HB8:=Zb (Ze (Za HBW) hb8)
   obtain rfl:2=oon:=by rw[←hC8.1];exact ch6.symm
   clear hb8 h8 x0 x1 xl k0 kl CB B2 hC8 sC8
   go_wp2_with fail
   refine (Za CP).mono ?_
   rintro e w9 ⟨rfl,hb9⟩
   have HB9:=Zb (Ze (Za HB8) hb9)
   clear hb9 CP
   go_wp2
   go_ret
   exact⟨rfl,Za HB9⟩
open Bk (Right nm Gj)
def doD(h:Int)(s:List ByteArray×List Zf)(t:TxD):Int×List ByteArray×List Zf:=
 if Zo t≠0 then (Zo t,s) else if t.2.1.length=0 then (4,s) else
 if (Gj s.1 (txT t)).2.2≠0 then ((Gj s.1 (txT t)).2.2,s) else
 if (apD s.2 t (Gj s.1 (txT t)).2.1 h).1≠0 then ((apD s.2 t (Gj s.1 (txT t)).2.1 h).1,s) else
 (0,(Gj s.1 (txT t)).1,(apD s.2 t (Gj s.1 (txT t)).2.1 h).2.1)
def Zfi(h:Int):List TxD→List ByteArray×List Zf→List TxD×List ByteArray×List Zf
 | [],s=>([],s)
 | t :: l,s=>if (doD h s t).1=0 then (t :: (Zfi h l (doD h s t).2).1,(Zfi h l (doD h s t).2).2) else Zfi h l s
open Go.RowKit Go.Shelf
def Zlw(w:World)(p:Nat)(K:List ByteArray)(C:List Zf)(h:Int):Prop:=
 ∃ ka kn kc la ln lc,w.heap[p]? = some (.cells #[.slice ka kn kc,.slice la ln lc,.int .i64 h] 116 (0,0))∧Bk.TextsAt w ka kn K∧SlOk ka kn kc∧CoinsAt w la ln C∧SlOk la ln lc
def DoT(w':World)(B p:Nat)(K:List ByteArray)(C:List Zf)(h:Int):Prop:=
 ∃ ka kn kc la ln lc,w'.heap[p]? = some (.cells [.slice ka kn kc,.slice la ln lc,.int .i64 h].toArray 116 (0,0))∧Fresh B w' (fun w2=>Bk.TextsAt w2 ka kn K∧CoinsAt w2 la ln C)∧SlOk ka kn kc∧SlOk la ln lc
theorem DoT.till{w:World}{B p:Nat}{K:List ByteArray}{C:List Zf}{h:Int}(d:DoT w B p K C h):Zlw w p K C h:=by
 obtain⟨ka,kn,kc,la,ln,lc,h1,h2,h3,h4⟩:=d
 have h5:=h2 w (Gr.refl _ _)
 exact⟨ka,kn,kc,la,ln,lc,h1,h5.1,h3,h5.2,h4⟩
theorem DoT.on{w w':World}{B p:Nat}{K:List ByteArray}{C:List Zf}{h:Int}(d:DoT w B p K C h)(g:Gr w w' (fun q=>q<B))(hp:w'.heap[p]? = w.heap[p]?):DoT w' B p K C h:=by
 obtain⟨ka,kn,kc,la,ln,lc,h1,h2,h3,h4⟩:=d
 exact⟨ka,kn,kc,la,ln,lc,hp.trans h1,fun w2 g2=>h2 w2 (g.trans g2),h3,h4⟩
theorem DoT.later{w w':World}{B p:Nat}{K:List ByteArray}{C:List Zf}{h:Int}(d:DoT w B p K C h)(hb:Below w.heap.size w w'):DoT w' B p K C h:=by
 have hp:p<w.heap.size:=by obtain⟨ka,kn,kc,la,ln,lc,h1,_⟩:=d;exact lt_of_block h1
 exact d.on (Gr.of hb) (hb.block p hp)
theorem DoT.less{w:World}{B B' p:Nat}{K:List ByteArray}{C:List Zf}{h:Int}(d:DoT w B p K C h)(hB:B'≤B):DoT w B' p K C h:=by
 obtain⟨ka,kn,kc,la,ln,lc,h1,h2,h3,h4⟩:=d
 exact⟨ka,kn,kc,la,ln,lc,h1,fun w2 g2=>h2 w2 (g2.mono fun _ _ q=>Nat.lt_of_lt_of_le q hB),h3,h4⟩
open Bk (Right nm Gj)
def swT(h:Int):List TxD→List ByteArray×List Zf→List (TxD×List Zf)
 | [],_=>[]
 | t :: l,s=>if (doD h s t).1=0 then (t,(doD h s t).2.2) :: swT h l (doD h s t).2 else swT h l s
def Zca(C:List Zf)(X:List (TxD×List Zf)):List Zf:=(X.getLast?.map (·.2)).getD C
def Ud:Zk:=(0,0,0,0,[])
structure Keep(f:Nat)(caps:Array Value)(w0:World)(C0:List Zf)(D0:Nat→Prop)(I:Nat→(Nat→Prop)→World→List (TxD×List Zf)→Prop):Prop where
 enters:∀ args w,(callFunc f args).run Tryz.prog w = .ok (.enter f args) w
 start:∀ p w,Below w0.heap.size w0 w→w0.heap.size≤p→p<w.heap.size→I p D0 w []
 dirty:∀ p D w X,I p D w X→∀ q,D q→q≠p∧q<w.heap.size∧(D0 q∨w0.heap.size≤q)
 on:∀ p D w w' X,I p D w X→Gr w w' (fun q=>q=p)→I p D w' X
 call:∀ p D wA w X t C' u0 u1 u2,I p D wA X→Below wA.heap.size wA w→Fresh wA.heap.size w (fun w2=>Tr.txR.C w2 [u0,u1,u2] t)→Ye (Zca C0 X)→Ye C'→Z6 C'≤Z6 (Zca C0 X)→X.length<8 →
  Calls Tryz.prog f (#[.agg #[u0,u1,u2],.int .i64 (Z6 (Zca C0 X) - Z6 C')]++caps) w fun e w'=>e = .returned (.tuple #[])∧Gr w w' D∧∃ D',I p D' w' (X++[(t,C')])
structure SwS(w0 wr:World)(h:Int)(D0:Nat→Prop)(I:Nat→(Nat→Prop)→World→List (TxD×List Zf)→Prop)(s0:List ByteArray×List Zf)(L:List TxD)(p k:Nat):Prop where
 gr:Gr w0 wr D0
 all:∃ B D K C X,w0.heap.size≤B∧DoT wr B p K C h∧I p D wr X∧Bk.Right K∧Ye C∧Zca s0.2 X=C∧X.length≤k∧swT h L s0=X++swT h (L.drop k) (K,C)∧(Zfi h L s0).2=(Zfi h (L.drop k) (K,C)).2
theorem Gr.far{w w1 w2:World}{S T:Nat→Prop}(h:Gr w w1 S)(k:Gr w1 w2 T)(hT:∀ q,T q→w.heap.size≤q∨S q):Gr w w2 S:=
 ⟨k.os.trans h.os,k.tape.trans h.tape,k.output.trans h.output,Nat.le_trans h.size k.size,fun i hi hn=>(k.block i (Nat.lt_of_lt_of_le hi h.size) (fun q=>by
  rcases hT i q with q|q
  ·omega
  ·exact hn q)).trans (h.block i hi hn)⟩
end Go.Proofs.YtpikejjiignchaaGreatDoor
