import Derived.Test.YtpikejjiignchaaGreatDoorG39
set_option maxHeartbeats 6400000
set_option maxRecDepth 10000
namespace Go.Proofs.YtpikejjiignchaaGreatDoor.Tr
open Go.RowKit
theorem Zhp(a b:Option Addr)(n c d k:Nat)(w:World)(hk:k≤n)(ha:SlOk a n c)(hb:SlOk b n d) :
  Calls Tryz.prog 123 #[.agg #[.slice a n c,.slice b n d],.int .i64 k] w fun e w'=>e = .returned (.agg #[.slice a k c,.slice b k d])∧Below w.heap.size w w':=by
 have hc:=Nat.le_trans hk ha.1
 have hd:=Nat.le_trans hk hb.1
 have hm:=ha.2.1
 have hm2:=hb.2.1
 unfold maxLen at hm hm2
 have hcI:(k:Int)≤(c:Int):=by omega
 have hdI:(k:Int)≤(d:Int):=by omega
 clear ha hb
 go_enter Tryz.func123,Tryz.ntmps123
 go_wp2_with fail
 go_region
 all_goals
  go_wp2
 all_goals (try simp only[Exit.inBlock,Exit.then])
 all_goals
  refine bodyPost_ret (v:=.agg #[.slice a k c,.slice b k d]) ?_ rfl ⟨rfl,?_⟩
  ·rw[Ys rfl]
   go_simp
  ·exact Ze (Ze (Zg _ _) (Zg _ _)) (Zh _)
theorem Zbx(a b:Option Addr)(n c d:Nat)(N:List Int)(T:List Zk)(s:Int)(p h k m:Int)(ta:Option Addr)(tn tc:Nat)(L:List TxD)(x:Int)(w:World)(hn:n≤maxLen)(hN:IntsAt w a n N)(hT:BlksAt w b n T)(hL:TxsAt w ta tn L)(hH:Wd T)(hx:Xi N T s (p,h,k,m,L)=x) :
  Calls Tryz.prog 82 #[.agg #[.slice a n c,.slice b n d],.int .i64 s,.agg #[.int .i64 p,.int .i64 h,.int .i64 k,.int .i64 m,.slice ta tn tc]] w fun e w'=>e = .returned (.int .i64 x)∧Below w.heap.size w w':=by
 obtain⟨X,hX⟩:∃ X,X=(w.alloc (.cells #[.slice a n c,.slice b n d] 28)).alloc (.cells #[.int .i64 p,.int .i64 h,.int .i64 k,.int .i64 m,.slice ta tn tc] 68):=⟨_,rfl⟩
 have hbX:Below w.heap.size w X:=by rw[hX];exact Ze (Zg _ _) (Zg _ _)
 have hX0:X.heap[w.heap.size]? = some (.cells [.slice a n c,.slice b n d].toArray 28 (0,0)):=by
  rw[hX,Below.heap_alloc _ _ _ (by simp)];exact two_heap _ _ _ _
 have hX1:X.heap[w.heap.size+1]? = some (.cells [.int .i64 p,.int .i64 h,.int .i64 k,.int .i64 m,.slice ta tn tc].toArray 68 (0,0)):=by
  rw[hX]
  have:=Yd (w.alloc (.cells #[.slice a n c,.slice b n d] 28)) (.int .i64 p) (.int .i64 h) (.int .i64 k) (.int .i64 m) (.slice ta tn tc) 68
  rw[show (w.alloc (.cells #[.slice a n c,.slice b n d] 28)).heap.size=w.heap.size+1 by simp] at this
  exact this
 obtain⟨o1,ho1⟩:∃ o,(decide (1≤s) && decide (s≤120))=o:=⟨_,rfl⟩
 obtain⟨x2,hx2⟩:∃ x,Xb (p,h,k,m,L)=x:=⟨_,rfl⟩
 obtain⟨o3,ho3⟩:∃ o,decide (s∈N)=o:=⟨_,rfl⟩
 obtain⟨o4,ho4⟩:∃ o,decide (p∈N)=o:=⟨_,rfl⟩
 obtain⟨z,hz⟩:∃ z,(fnd p N T).2.1=z:=⟨_,rfl⟩
 have hz0:=(Qg hH p N).1
 have hz1:=(Qg hH p N).2.1
 rw[hz] at hz0 hz1
 have hw1:IntKind.i64.wrap (z+1)=z+1:=by rw[IntKind.wrap_i64];omega
 unfold Xi at hx
 simp only at hx
 rw[ho1,hx2,ho3,ho4,hz] at hx
 have HB:=Zb hbX
 have HX0:=Zb hX0
 have HX1:=Zb hX1
 have C1:=Zb (fun W=>Yu s 1 120 o1 W ho1.symm)
 have C2:=Zb (Jp p h k m ta tn tc L x2 X (hL.later hbX) hx2)
 have C3:=Zb (fun W (hb:Below X.heap.size X W)=>Fh a b n c n d N s o3 W hn (hN.later (Ze hbX hb)) ho3)
 have C4:=Zb (fun W (hb:Below X.heap.size X W)=>Fh a b n c n d N p o4 W hn (hN.later (Ze hbX hb)) ho4)
 have C5:=Zb (fun W (hb:Below X.heap.size X W)=>Gq a b n c d N T p z W hn (hN.later (Ze hbX hb)) (hT.later (Ze hbX hb)) hz)
 clear hbX hX0 hX1 hN hT hL hH ho1 hx2 ho3 ho4 hz
 have HXX:=Zb hx
 clear hx
 go_enter Tryz.func82,Tryz.ntmps82
 go_wp2_with fail
 rw[←hX]
 clear hX
 refine ((Za C1) _).mono ?_
 rintro e w1 ⟨rfl,rfl⟩
 cases o1 with
 | false=>
  have R:Hid (x=3):=by show _=_;rw[←Za HXX,if_pos rfl]
  clear HXX
  go_wp2
  go_ret
  exact⟨by rw[Za R];rfl,Za HB⟩
 | true=>
  have c0:=Zd (Za HX1) 0 _ rfl
  have c1:=Zd (Za HX1) 1 _ rfl
  have c2:=Zd (Za HX1) 2 _ rfl
  have c3:=Zd (Za HX1) 3 _ rfl
  have c4:=Zd (Za HX1) 4 _ rfl
  have cl:=lt_of_block (Za HX1)
  have HX2:Hid ((if x2≠0 then x2 else if o3=true then 6 else if p≠0∧o4=false then 5 else if h≠z+1 then 4 else 0)=x):=by
   have q:=Za HXX
   rw[if_neg (by decide)] at q
   exact q
  clear HXX
  go_wp2_with fail
  refine (Za C2).mono ?_
  rintro e w2 ⟨rfl,hb2⟩
  have HB2:=Zb hb2
  have h20:=(hb2.block _ (lt_of_block (Za HX0))).trans (Za HX0)
  clear hb2 c0 c1 c2 c3 c4 cl
  by_cases q2:x2=0
  ·subst q2
   have HX3:Hid ((if o3=true then 6 else if p≠0∧o4=false then 5 else if h≠z+1 then 4 else 0)=x):=by
    have q:=Za HX2
    rw[if_neg (by decide)] at q
    exact q
   have c0:=Zd h20 0 _ rfl
   have c1:=Zd h20 1 _ rfl
   have cl:=lt_of_block h20
   clear HX2 h20
   go_wp2_with fail
   refine ((Za C3) _ (Za HB2)).mono ?_
   rintro e w3 ⟨rfl,hb3⟩
   have HB3:=Zb (Ze (Za HB2) hb3)
   have h30:=((Za HB3).block _ (lt_of_block (Za HX0))).trans (Za HX0)
   have h31:=((Za HB3).block _ (lt_of_block (Za HX1))).trans (Za HX1)
   have HF:=Zb (Ze (Za HB) (Za HB3))
   clear hb3 c0 c1 cl
   cases o3 with
   | true=>
    have R:Hid (x=6):=by show _=_;rw[←Za HX3,if_pos rfl]
    clear HX3 h30 h31
    go_wp2
    go_ret
    exact⟨by rw[Za R];rfl,Za HF⟩
   | false=>
    have HX4:Hid ((if p≠0∧o4=false then 5 else if h≠z+1 then 4 else 0)=x):=by
     have q:=Za HX3
     rw[if_neg (by decide)] at q
     exact q
    have c0:=Zd h30 0 _ rfl
    have c1:=Zd h30 1 _ rfl
    have cl:=lt_of_block h30
    have d0:=Zd h31 0 _ rfl
    have d1:=Zd h31 1 _ rfl
    have dl:=lt_of_block h31
    clear HX3 h30 h31
    by_cases q4:p=0
    ·subst q4
     have HX5:Hid ((if h≠z+1 then (4:Int) else 0)=x):=by
      have q:=Za HX4
      rw[if_neg (by simp)] at q
      exact q
     clear HX4 C4
     by_cases q5:h=z+1
     ·have R:Hid (x=0):=by show _=_;rw[←Za HX5,if_neg (by simp[q5])]
      have g5:(h != z+1)=false:=by simp[q5]
      clear HX5 q5
      go_wp2_with fail
      go_region_with (go_at_call 124;refine ((Za C5) _ (Ze (Za HB3) (Zh _))).mono ?_;rintro e w5 ⟨rfl,hb5⟩;have e0:=Zc hb5 (Zc (Zh _) d0);have e1:=Zc hb5 (Zc (Zh _) d1);have el:=Nat.lt_of_lt_of_le dl hb5.size;have HF5:=Zb (Ze (Za HF) (Ze (Zh _) hb5));clear hb5)
      all_goals
       go_wp2
       go_ret
       exact⟨by rw[Za R];rfl,Za HF5⟩
     ·have R:Hid (x=4):=by show _=_;rw[←Za HX5,if_pos q5]
      have g5:(h != z+1)=true:=by simp[q5]
      clear HX5 q5
      go_wp2_with fail
      go_region_with (go_at_call 124;refine ((Za C5) _ (Ze (Za HB3) (Zh _))).mono ?_;rintro e w5 ⟨rfl,hb5⟩;have e0:=Zc hb5 (Zc (Zh _) d0);have e1:=Zc hb5 (Zc (Zh _) d1);have el:=Nat.lt_of_lt_of_le dl hb5.size;have HF5:=Zb (Ze (Za HF) (Ze (Zh _) hb5));clear hb5)
      all_goals
       go_wp2
       go_ret
       exact⟨by rw[Za R];rfl,Za HF5⟩
    ·have g4:(p != 0)=true:=by simp[q4]
     go_wp2_with fail
     refine ((Za C4) _ (Za HB3)).mono ?_
     rintro e w4 ⟨rfl,hb4⟩
     have HB4:=Zb (Ze (Za HB3) hb4)
     have HF4:=Zb (Ze (Za HB) (Za HB4))
     have k0:=Zc hb4 c0
     have k1:=Zc hb4 c1
     have kl:=Nat.lt_of_lt_of_le cl hb4.size
     have d0:=Zc hb4 d0
     have d1:=Zc hb4 d1
     have dl:=Nat.lt_of_lt_of_le dl hb4.size
     clear hb4 c0 c1 cl
     cases o4 with
     | false=>
      have R:Hid (x=5):=by show _=_;rw[←Za HX4,if_pos ⟨q4,rfl⟩]
      clear HX4 q4
      go_wp2
      go_ret
      exact⟨by rw[Za R];rfl,Za HF4⟩
     | true=>
      have HX5:Hid ((if h≠z+1 then (4:Int) else 0)=x):=by
       have q:=Za HX4
       rw[if_neg (by simp)] at q
       exact q
      clear HX4 q4
      by_cases q5:h=z+1
      ·have R:Hid (x=0):=by show _=_;rw[←Za HX5,if_neg (by simp[q5])]
       have g5:(h != z+1)=false:=by simp[q5]
       clear HX5 q5
       go_wp2_with fail
       go_region_with (go_at_call 124;refine ((Za C5) _ (Ze (Za HB4) (Zh _))).mono ?_;rintro e w5 ⟨rfl,hb5⟩;have e0:=Zc hb5 (Zc (Zh _) d0);have e1:=Zc hb5 (Zc (Zh _) d1);have el:=Nat.lt_of_lt_of_le dl hb5.size;have HF5:=Zb (Ze (Za HF4) (Ze (Zh _) hb5));clear hb5)
       all_goals
        go_wp2
        go_ret
        exact⟨by rw[Za R];rfl,Za HF5⟩
      ·have R:Hid (x=4):=by show _=_;rw[←Za HX5,if_pos q5]
       have g5:(h != z+1)=true:=by simp[q5]
       clear HX5 q5
       go_wp2_with fail
       go_region_with (go_at_call 124;refine ((Za C5) _ (Ze (Za HB4) (Zh _))).mono ?_;rintro e w5 ⟨rfl,hb5⟩;have e0:=Zc hb5 (Zc (Zh _) d0);have e1:=Zc hb5 (Zc (Zh _) d1);have el:=Nat.lt_of_lt_of_le dl hb5.size;have HF5:=Zb (Ze (Za HF4) (Ze (Zh _) hb5));clear hb5)
       all_goals
        go_wp2
        go_ret
        exact⟨by rw[Za R];rfl,Za HF5⟩
  ·have R:Hid (x=x2):=by show _=_;rw[←Za HX2,if_pos q2]
   have g2:(x2 != 0)=true:=by simp[q2]
   have HF:=Zb (Ze (Za HB) (Za HB2))
   clear HX2 q2 h20
   go_wp2
   go_ret
   exact⟨by rw[Za R];rfl,Za HF⟩
theorem J5{N:List Int}{T:List Zk}{x:Int}{b:Zk}(h:Xi N T x b=0):Xb b=0:=by
 unfold Xi at h
 split at h
 ·cases h
 ·split at h
  ·next q=>exact absurd h q
  ·next q=>exact Classical.not_not.1 q
theorem Li{T:List Zk}{j:Nat}(hj:j<T.length)(h:Wd (T.take j))(hb:Xb T[j]=0):Wd (T.take (j+1)):=by
 rw[List.take_succ_eq_append_getElem hj]
 intro b hm
 rcases List.mem_append.1 hm with q|q
 ·exact h b q
 ·rw[List.mem_singleton.1 q];exact Ro hb
theorem Jv(a b:Option Addr)(n c m d:Nat)(N:List Int)(T:List Zk)(x:Int)(w:World)(hN:IntsAt w a n N)(hT:BlksAt w b m T)(sN:SlOk a n c)(sT:SlOk b m d)(hx:chkTr N T=x) :
  Calls Tryz.prog 75 #[.agg #[.slice a n c,.slice b m d]] w fun e w'=>e = .returned (.int .i64 x)∧Below w.heap.size w w':=by
 subst hx
 obtain⟨X,hX⟩:∃ X,X=w.alloc (.cells #[.slice a n c,.slice b m d] 28):=⟨_,rfl⟩
 have hbX:Below w.heap.size w X:=by rw[hX];exact Zg _ _
 have hX0:X.heap[w.heap.size]? = some (.cells [.slice a n c,.slice b m d].toArray 28 (0,0)):=by rw[hX];exact two_heap _ _ _ _
 have HB:=Zb hbX
 have HX0:=Zb hX0
 have x0:=Zd hX0 0 _ rfl
 have x1:=Zd hX0 1 _ rfl
 have xl:=lt_of_block hX0
 have HN:=Zb (hN.later hbX)
 have HT:=Zb (hT.later hbX)
 have HZN:=Zb hN.1
 have HZT:=Zb hT.1
 have hm:=sN.2.1
 have hm2:=sT.2.1
 have hlc:=sN.1
 unfold maxLen at hm hm2
 by_cases e:n=m
 ·subst e
  by_cases h24:24<n
  ·have R:Hid (chkTr N T=2):=by show _=_;unfold chkTr;rw[hN.1,hT.1,if_neg (by simp),if_pos h24]
   have g0:((n:Int) != (n:Int))=false:=by simp
   have g1:(24:Int)<(n:Int):=by omega
   clear hN hT sN sT hX0 hbX
   go_enter Tryz.func75,Tryz.ntmps75
   go_wp2_with fail
   rw[←hX]
   clear hX
   go_wp2
   go_ret
   exact⟨by rw[Za R];rfl,Za HB⟩
  ·have R:Hid (chkTr N T=Xo (N.take 0) (T.take 0) (N.drop 0) (T.drop 0)):=by show _=_;unfold chkTr;rw[hN.1,hT.1,if_neg (by simp),if_neg h24];rfl
   have g0:((n:Int) != (n:Int))=false:=by simp
   have g1:¬(24:Int)<(n:Int):=by omega
   have SN:=Zb sN
   have ST:=Zb sT
   clear hN hT sN sT hX0 hbX
   go_enter Tryz.func75,Tryz.ntmps75
   go_wp2_with fail
   rw[←hX]
   clear hX
   go_wp2
   go_loopw [19] (fun i wr=>∃ j:Nat,j≤n∧i = .int .i64 j∧Hid (chkTr N T=Xo (N.take j) (T.take j) (N.drop j) (T.drop j))∧Hid (Wd (T.take j))∧Hid (Below X.heap.size X wr)) (fun i _=>n - (intOf i).toNat)
   case atStart=>exact⟨0,Nat.zero_le _,rfl,R,(fun b hb=>(by simp at hb):Wd (T.take 0)),(Below.refl _ _:Below X.heap.size X X)⟩
   case round=>
    obtain⟨j,hj,rfl,A,HH,HBr⟩:=hrel
    clear R
    by_cases hlt:j<n
    ·have h1:j<N.length:=by rw[Za HZN];exact hlt
     have h2:j<T.length:=by rw[Za HZT];exact hlt
     obtain⟨b1,off1,rfl,hl1,hc1⟩:=(Za HN).2 (by omega)
     obtain⟨b2,off2,rfl,hl2,hc2⟩:=(Za HT).2 (by omega)
     have f1:=Zc (Za HBr) (hc1 j h1)
     have hin:=BlkAt.kept _ _ _ _ _ (Za HBr) (hc2 j h2)
     have AT:=Zb (Cx N T j h1 h2)
     have HM:=Zb (Li h2 (Za HH))
     obtain⟨s,hs⟩:∃ s,N[j]=s:=⟨_,rfl⟩
     obtain⟨t,ht⟩:∃ t,T[j]=t:=⟨_,rfl⟩
     rw[hs] at f1 AT
     rw[ht] at hin AT HM
     obtain⟨p,h,k,o,L⟩:=t
     obtain⟨g0',g1',g2,g3,ta,tn,tc,g4,hL,_⟩:=hin
     simp only at g0' g1' g2 g3 hL
     obtain⟨y,hy⟩:∃ y,Xi (N.take j) (T.take j) s (p,h,k,o,L)=y:=⟨_,rfl⟩
     have w0:=Zc (Za HBr) x0
     have w1:=Zc (Za HBr) x1
     have wl:=Nat.lt_of_lt_of_le xl (Za HBr).size
     have ll1:=Nat.lt_of_lt_of_le hl1 (Za HBr).size
     have ll2:=Nat.lt_of_lt_of_le hl2 (Za HBr).size
     have C1:=Zb (fun W=>Zhp (some ⟨b1,off1,none⟩) (some ⟨b2,off2,none⟩) n c d j W hj (Za SN) (Za ST))
     have hjm:j≤maxLen:=by unfold maxLen;omega
     have C2:=Zb (fun W (hb:Below wr.heap.size wr W)=>Zbx (some ⟨b1,off1,none⟩) (some ⟨b2,off2,none⟩) j c d (N.take j) (T.take j) s p h k o ta tn tc L y W hjm (((Za HN).later (Ze (Za HBr) hb)).take j hj) (RowsAt.take ((Za HT).later (Ze (Za HBr) hb)) j hj) (hL.later hb) (Za HH) hy)
     rw[hy] at AT
     have HY:Hid (y=0→Xb (p,h,k,o,L)=0):=fun q=>J5 (hy.trans q)
     clear hc1 hc2 hL hs ht hy x0 x1 xl hl1 hl2
     by_cases q:y=0
     ·subst q
      have R:Hid (chkTr N T=Xo (N.take (j+1)) (T.take (j+1)) (N.drop (j+1)) (T.drop (j+1))):=by show _=_;rw[Za A,Za AT,if_neg (by simp)]
      have HH2:=Zb ((Za HM) ((Za HY) rfl))
      clear A AT HM HY
      go_wp2_with fail
      go_region_held3 (fun W'=>Below wr.heap.size wr W'∧W'.cell? ⟨w.heap.size,0,none⟩=some (.slice (some ⟨b1,off1,none⟩) n c)∧W'.cell? ⟨w.heap.size,1,none⟩=some (.slice (some ⟨b2,off2,none⟩) n d)∧W'.cell? ⟨b1,off1+j,none⟩=some (.int .i64 s)∧W'.cell? ⟨b2,off2+j*5,none⟩=some (.int .i64 p)∧W'.cell? ⟨b2,off2+j*5+1,none⟩=some (.int .i64 h)∧W'.cell? ⟨b2,off2+j*5+2,none⟩=some (.int .i64 k)∧W'.cell? ⟨b2,off2+j*5+3,none⟩=some (.int .i64 o)∧W'.cell? ⟨b2,off2+j*5+4,none⟩=some (.slice ta tn tc))
       (first
       | exact⟨Zh _,w0,w1,f1,g0',g1',g2,g3,g4⟩
       | (go_split_ands;refine⟨Ze (by assumption) hbc,Zc hbc (by assumption),Zc hbc (by assumption),Zc hbc (by assumption),Zc hbc (by assumption),Zc hbc (by assumption),Zc hbc (by assumption),Zc hbc (by assumption),Zc hbc (by assumption)⟩))
       (first|(go_at_call 123;refine ((Za C1) _).mono ?_;rintro e w' ⟨rfl,hbc⟩)|(go_at_call 82;go_split_ands;refine ((Za C2) _ (by assumption)).mono ?_;rintro e w' ⟨rfl,hbc⟩))
      rename_i hq
      have HB3:=Zb (Ze (Za HBr) hq.1)
      clear hq
      go_wp2
      go_roundw
      case rel=>exact⟨j+1,by omega,by go_num,R,HH2,HB3⟩
      case measure=>simp[intOf];omega
     ·have R:Hid (chkTr N T=y):=by show _=_;rw[Za A,Za AT,if_pos q]
      have gy:(y != 0)=true:=by simp[q]
      clear A AT HM HY q
      go_wp2_with fail
      go_region_held3 (fun W'=>Below wr.heap.size wr W'∧W'.cell? ⟨w.heap.size,0,none⟩=some (.slice (some ⟨b1,off1,none⟩) n c)∧W'.cell? ⟨w.heap.size,1,none⟩=some (.slice (some ⟨b2,off2,none⟩) n d)∧W'.cell? ⟨b1,off1+j,none⟩=some (.int .i64 s)∧W'.cell? ⟨b2,off2+j*5,none⟩=some (.int .i64 p)∧W'.cell? ⟨b2,off2+j*5+1,none⟩=some (.int .i64 h)∧W'.cell? ⟨b2,off2+j*5+2,none⟩=some (.int .i64 k)∧W'.cell? ⟨b2,off2+j*5+3,none⟩=some (.int .i64 o)∧W'.cell? ⟨b2,off2+j*5+4,none⟩=some (.slice ta tn tc))
       (first
       | exact⟨Zh _,w0,w1,f1,g0',g1',g2,g3,g4⟩
       | (go_split_ands;refine⟨Ze (by assumption) hbc,Zc hbc (by assumption),Zc hbc (by assumption),Zc hbc (by assumption),Zc hbc (by assumption),Zc hbc (by assumption),Zc hbc (by assumption),Zc hbc (by assumption),Zc hbc (by assumption)⟩))
       (first|(go_at_call 123;refine ((Za C1) _).mono ?_;rintro e w' ⟨rfl,hbc⟩)|(go_at_call 82;go_split_ands;refine ((Za C2) _ (by assumption)).mono ?_;rintro e w' ⟨rfl,hbc⟩))
      rename_i hq
      have HB3:=Zb (Ze (Za HB) (Ze (Za HBr) hq.1))
      clear hq
      go_wp2
      go_ret
      exact⟨by rw[Za R];rfl,Za HB3⟩
    ·have R:Hid (chkTr N T=0):=by show _=_;rw[Za A,Dg N T j (by rw[Za HZN];omega)]
     have HBF:=Zb (Ze (Za HB) (Za HBr))
     clear A
     go_wp2
     go_ret
     exact⟨by rw[Za R];rfl,Za HBF⟩
 ·have R:Hid (chkTr N T=4):=by show _=_;unfold chkTr;rw[hN.1,hT.1,if_pos e]
  have g0:((n:Int) != (m:Int))=true:=by simp;omega
  clear hN hT sN sT hX0 hbX
  go_enter Tryz.func75,Tryz.ntmps75
  go_wp2_with fail
  rw[←hX]
  clear hX
  go_wp2
  go_ret
  exact⟨by rw[Za R];rfl,Za HB⟩
theorem G2:∀ (M:List Int) (U:List Zk) (N:List Int) (T:List Zk),M.length=U.length→Xo N T M U=0→Wd U
 | [],[],_,_,_,_=>fun b hb=>by cases hb
 | [],_ :: _,_,_,h,_=>by cases h
 | _ :: _,[],_,_,h,_=>by cases h
 | x :: M,b :: U,N,T,h,hc=>by
  rw[Xo] at hc
  split at hc
  ·next q=>exact absurd hc q
  ·next q=>
   have h1:=Ro (J5 (Classical.not_not.1 q))
   have h2:=G2 M U _ _ (by simpa using h) hc
   intro y hy
   rcases List.mem_cons.1 hy with rfl|hy
   ·exact h1
   ·exact h2 y hy
theorem Qz{N:List Int}{T:List Zk}(h:chkTr N T=0):N.length=T.length∧N.length≤24∧Wd T∧Xo [] [] N T=0:=by
 unfold chkTr at h
 split at h
 ·cases h
 ·next q=>
  split at h
  ·cases h
  ·next q2=>exact⟨Classical.not_not.1 q,by omega,G2 N T [] [] (Classical.not_not.1 q) h,h⟩
theorem pth_len{N:List Int}{T:List Zk}(h:Wd T)(s:Int):(Yt N T s).length≤1000:=by
 unfold Yt
 rw[Q0]
 have:=(Qg h s N)
 omega
theorem Zdp(a b:Option Addr)(n c d:Nat)(N:List Int)(T:List Zk)(s:Int)(P:List Int)(pn:Nat)(w:World)(hn:n≤maxLen)(hN:IntsAt w a n N)(hT:BlksAt w b n T)(hH:Wd T)(hP:Yt N T s=P)(hpn:P.length=pn) :
  Calls Tryz.prog 77 #[.agg #[.slice a n c,.slice b n d],.int .i64 s] w fun e w'=>∃ v,e = .returned v∧w'.ownsRow w.heap.size 3 1 v pn (P.map (Value.int .i64))∧Below w.heap.size w w':=by
 subst hP hpn
 exact Zdo a b n c d N T s w hn hN hT hH
theorem path_is(a b:Option Addr)(n c m d:Nat)(N:List Int)(T:List Zk)(s:Int)(P:List Int)(pn:Nat)(x:Int)(w:World)(hN:IntsAt w a n N)(hT:BlksAt w b m T)(sN:SlOk a n c)(sT:SlOk b m d)(hx:pathE N T s=(P,x))(hpn:P.length=pn) :
  Calls Tryz.prog 35 #[.agg #[.slice a n c,.slice b m d],.int .i64 s] w fun e w'=>∃ v,e = .returned (.tuple #[v,.int .i64 x])∧w'.ownsRow w.heap.size 3 1 v pn (P.map (Value.int .i64))∧Below w.heap.size w w':=by
 obtain⟨X,hX⟩:∃ X,X=w.alloc (.cells #[.slice a n c,.slice b m d] 28):=⟨_,rfl⟩
 have hbX:Below w.heap.size w X:=by rw[hX];exact Zg _ _
 have hX0:X.heap[w.heap.size]? = some (.cells [.slice a n c,.slice b m d].toArray 28 (0,0)):=by rw[hX];exact two_heap _ _ _ _
 have HB:=Zb hbX
 have HX0:=Zb hX0
 obtain⟨y,hy⟩:∃ y,chkTr N T=y:=⟨_,rfl⟩
 have C1:=Zb (Jv a b n c m d N T y X (hN.later hbX) (hT.later hbX) sN sT hy)
 have x0:=Zd hX0 0 _ rfl
 have x1:=Zd hX0 1 _ rfl
 have xl:=lt_of_block hX0
 unfold pathE at hx
 rw[hy] at hx
 by_cases q:y=0
 ·subst q
  rw[if_neg (by simp)] at hx
  obtain⟨hl,h24,hH,_⟩:=Qz hy
  obtain rfl:n=m:=by rw[←hN.1,←hT.1,hl]
  have hnm:n≤maxLen:=sN.len
  obtain⟨o,ho⟩:∃ o,decide (s∈N)=o:=⟨_,rfl⟩
  rw[ho] at hx
  have C2:=Zb (fun W (hb:Below X.heap.size X W)=>Fh a b n c n d N s o W hnm (hN.later (Ze hbX hb)) ho)
  have C3:=Zb (fun W (hb:Below X.heap.size X W) (hP:Yt N T s=P)=>Zdp a b n c d N T s P pn W hnm (hN.later (Ze hbX hb)) (hT.later (Ze hbX hb)) hH hP hpn)
  have HXX:=Zb hx
  have HPN:=Zb hpn
  clear hbX hX0 hN hT sN sT hy hx hl h24 hH ho hpn hnm
  by_cases q1:s=0
  ·subst q1
   have R:Hid (Yt N T 0=P∧0=x):=by
    have h:=Za HXX
    rw[if_neg (by simp)] at h
    exact⟨congrArg Prod.fst h,congrArg Prod.snd h⟩
   clear HXX C2
   obtain rfl:0=x:=(Za R).2
   go_enter Tryz.func35,Tryz.ntmps35
   go_wp2_with fail
   rw[←hX]
   clear hX
   refine (Za C1).mono ?_
   rintro e w1 ⟨rfl,hb1⟩
   have CC:=Zb ((Za C3) _ hb1 (Za R).1)
   have hc:=(hb1.block _ (lt_of_block (Za HX0))).trans (Za HX0)
   have t0:=Zd hc 0 _ rfl
   have t1:=Zd hc 1 _ rfl
   have tl:=lt_of_block hc
   have HB1:=Zb (Ze (Za HB) hb1)
   clear hb1 x0 x1 xl hc C1 C3
   go_wp2_with fail
   refine (Za CC).mono ?_
   rintro e w2 ⟨v,rfl,ho2,hb2⟩
   have R2:=Zb (Xv ho2 (Za HB1).size)
   have HB2:=Zb (Ze (Za HB1) hb2)
   clear ho2 hb2
   go_wp2
   go_ret2
   exact⟨v,rfl,Za R2,Za HB2⟩
  ·have g1:(s != 0)=true:=by simp[q1]
   cases o with
   | false=>
    have R:Hid (([]:List Int)=P∧5=x):=by
     have h:=Za HXX
     rw[if_pos ⟨q1,rfl⟩] at h
     exact⟨congrArg Prod.fst h,congrArg Prod.snd h⟩
    clear HXX C3
    obtain⟨rfl,rfl⟩:=Za R
    obtain rfl:0=pn:=Za HPN
    clear q1
    go_enter Tryz.func35,Tryz.ntmps35
    go_wp2_with fail
    rw[←hX]
    clear hX
    refine (Za C1).mono ?_
    rintro e w1 ⟨rfl,hb1⟩
    have CC:=Zb ((Za C2) _ hb1)
    have hc:=(hb1.block _ (lt_of_block (Za HX0))).trans (Za HX0)
    have t0:=Zd hc 0 _ rfl
    have t1:=Zd hc 1 _ rfl
    have tl:=lt_of_block hc
    have HB1:=Zb (Ze (Za HB) hb1)
    clear hb1 x0 x1 xl hc C1 C2
    go_wp2_with fail
    refine (Za CC).mono ?_
    rintro e w2 ⟨rfl,hb2⟩
    have HB2:=Zb (Ze (Za HB1) hb2)
    clear hb2
    go_wp2
    go_ret2
    exact⟨_,rfl,World.ownsRow_nil _ _ _ _,Za HB2⟩
   | true=>
    have R:Hid (Yt N T s=P∧0=x):=by
     have h:=Za HXX
     rw[if_neg (by simp)] at h
     exact⟨congrArg Prod.fst h,congrArg Prod.snd h⟩
    clear HXX
    obtain rfl:0=x:=(Za R).2
    clear q1
    go_enter Tryz.func35,Tryz.ntmps35
    go_wp2_with fail
    rw[←hX]
    clear hX
    refine (Za C1).mono ?_
    rintro e w1 ⟨rfl,hb1⟩
    have CC:=Zb ((Za C2) _ hb1)
    have HB0:=Zb hb1
    have hc:=(hb1.block _ (lt_of_block (Za HX0))).trans (Za HX0)
    have t0:=Zd hc 0 _ rfl
    have t1:=Zd hc 1 _ rfl
    have tl:=lt_of_block hc
    clear hb1 x0 x1 xl hc C1 C2
    go_wp2_with fail
    refine (Za CC).mono ?_
    rintro e w2 ⟨rfl,hb2⟩
    have HB2:=Zb (Ze (Za HB) (Ze (Za HB0) hb2))
    have CC:=Zb ((Za C3) _ (Ze (Za HB0) hb2) (Za R).1)
    have k0:=Zc hb2 t0
    have k1:=Zc hb2 t1
    have kl:=Nat.lt_of_lt_of_le tl hb2.size
    clear hb2 t0 t1 tl HB0 C3
    go_wp2_with fail
    refine (Za CC).mono ?_
    rintro e w3 ⟨v,rfl,ho3,hb3⟩
    have R2:=Zb (Xv ho3 (Za HB2).size)
    have HB3:=Zb (Ze (Za HB2) hb3)
    clear ho3 hb3
    go_wp2
    go_ret2
    exact⟨v,rfl,Za R2,Za HB3⟩
 ·rw[if_pos q] at hx
  obtain⟨rfl,rfl⟩:([]:List Int)=P∧y=x:=⟨congrArg Prod.fst hx,congrArg Prod.snd hx⟩
  obtain rfl:0=pn:=hpn
  have g:(y != 0)=true:=by simp[q]
  clear hbX hX0 hN hT sN sT hy hx q
  go_enter Tryz.func35,Tryz.ntmps35
  go_wp2_with fail
  rw[←hX]
  clear hX
  refine (Za C1).mono ?_
  rintro e w1 ⟨rfl,hb1⟩
  have HB1:=Zb (Ze (Za HB) hb1)
  clear hb1 x0 x1 xl
  go_wp2
  go_ret2
  exact⟨_,rfl,World.ownsRow_nil _ _ _ _,Za HB1⟩
theorem pathE_ok{N:List Int}{T:List Zk}{s:Int}(h:(pathE N T s).2=0):chkTr N T=0∧(s=0∨s∈N)∧(pathE N T s).1=Yt N T s:=by
 unfold pathE at h ⊢
 by_cases q:chkTr N T=0
 ·rw[if_neg (by simp[q])] at h ⊢
  by_cases q1:s≠0∧decide (s∈N)=false
  ·rw[if_pos q1] at h;cases h
  ·rw[if_neg q1]
   refine⟨q,?_,rfl⟩
   by_cases e:s=0
   ·exact .inl e
   ·right
    by_cases e2:s∈N
    ·exact e2
    ·exact absurd ⟨e,by simp[e2]⟩ q1
 ·rw[if_pos q] at h;exact absurd h q
theorem Hu(N:List Int)(T:List Zk):∀ (d:Nat) (x:Int) (i:Nat),i<d→(upD N T d x).take (i+1)=upD N T (i+1) ((upD N T d x).getD i 0)
 | 0,_,_,h=>by omega
 | d+1,x,i,h=>by
  have hl:=Q0 N T d (fnd x N T).1
  by_cases e:i<d
  ·rw[upD,List.take_append_of_le_length (by omega),Hu N T d _ i e]
   congr 1
   simp[List.getD,List.getElem?_append_left (show i<(upD N T d (fnd x N T).1).length by omega)]
  ·have:i=d:=by omega
   subst this
   rw[List.take_of_length_le (by rw[Q0];omega)]
   congr 1
   simp[upD,List.getD,hl]
def Coh(P Q:List Int):Prop:=∀ i,i<P.length→i<Q.length→P.getD i 0=Q.getD i 0→P.take (i+1)=Q.take (i+1)
theorem upD_coh(N:List Int)(T:List Zk)(d e:Nat)(x y:Int):Coh (upD N T d x) (upD N T e y):=by
 intro i h1 h2 h
 rw[Q0] at h1 h2
 rw[Hu N T d x i h1,Hu N T e y i h2,h]
theorem Zlr{N:List Int}{T:List Zk}{x:Int}(hl:N.length=T.length)(h:x∈N):fnd x N T∈T:=by
 rcases idxI_fnd x N T 0 hl with ⟨_,h1,_⟩|⟨i,hi,_,_,h3⟩
 ·exact absurd h h1
 ·rw[h3];exact List.getElem_mem hi
theorem U8{N:List Int}{T:List Zk}{x:Int}(hl:N.length=T.length)(h:x∉N):fnd x N T=Ud:=by
 rcases idxI_fnd x N T 0 hl with ⟨_,_,h3⟩|⟨i,hi,_,h2,_⟩
 ·exact h3
 ·exact absurd h2 h
theorem Tryz.infoIntC:(Tryz.prog.info? 3).map (fun i=>(i.zero,i.size,i.bytes))=some (some (.int .i64 0),1,8):=by kernel_rfl
theorem Fq(w:World):Calls Tryz.prog 129 #[.slice none 0 0] w fun e w'=>e = .returned (.slice none 0 0)∧w=w':=by
 have he:=fun w=>Lib.run_eql_slice_nil (P:=Tryz.prog) w 25 3 none 0 0 0 0 Tryz.underlying25
 go_enter Tryz.func129,Tryz.ntmps129
 go_wp2
 go_ret
 exact⟨rfl,rfl⟩
theorem Mt(ad:Addr)(n c:Nat)(F:List Value)(w:World)(hn:n≤4096)(hz:F.length=n*1)(h1:∀ u∈F,u.oneCell'=true)(hc:∀ j u,F[j]? = some u→w.cell? (ad.add j)=some u) :
  Calls Tryz.prog 129 #[.slice (some ad) n c] w fun e w'=>∃ v,e = .returned v∧w'.ownsRow w.heap.size 3 1 v n F∧Below w.heap.size w w':=by
 obtain⟨i0,hi,hz0,hz1,hz2⟩:=info_parts Tryz.infoIntC
 have hb:=Zg w (.cells #[] 3)
 have HC:Hid (∀ j u,F[j]? = some u→(w.alloc (.cells #[] 3)).cell? (ad.add j)=some u):=fun j u hj=>Zc hb (hc j u hj)
 have HB:=Zb hb
 have HZ:=Zb hz
 have H1:=Zb h1
 have HO:=Zb (U7 w 3 1)
 have he:=fun w=>Lib.run_eql_slice_nil (P:=Tryz.prog) w 25 3 (some ad) n c 0 0 Tryz.underlying25
 clear hc hb hz h1
 go_enter Tryz.func129,Tryz.ntmps129
 go_wp2_with (at_builtin;refine wpList_append_own _ rfl _ _ 25 rfl w.heap.size 3 i0 (.int .i64 0) 1 8 Tryz.underlying25 hi hz0 hz1 hz2 rfl (by decide) _ _ _ rfl (Za HO) ad n c F rfl (Za HZ) (Za HC) (Za H1) (by unfold maxLen;omega) (by omega) (Za HB).size ?_;intro v2 w3 hown3 hgrow3 _)
 have HW:Hid (w3.ownsRow w.heap.size 3 1 v2 n F):=by show World.ownsRow _ _ _ _ _ _ _;simpa using hown3
 have HB3:=Zb ((Za HB).grown hgrow3 (Za HB).size (Yx (Za HO)))
 clear hown3 hgrow3
 go_wp2
 go_ret
 exact⟨v2,rfl,Za HW,Za HB3⟩
theorem Fr(a:Option Addr)(n c:Nat)(L:List Int)(w:World)(hn:n≤4096)(h:IntsAt w a n L)(hs:SlOk a n c) :
  Calls Tryz.prog 129 #[.slice a n c] w fun e w'=>∃ v,e = .returned v∧w'.ownsRow w.heap.size 3 1 v n (L.map (Value.int .i64))∧Below w.heap.size w w':=by
 obtain⟨hl,hc⟩:=h
 cases a with
 | none=>
  obtain⟨rfl,rfl⟩:=hs.2.2 rfl
  have e:L=[]:=List.length_eq_zero_iff.1 hl
  subst e
  exact (Fq w).mono fun e w' ⟨x,y⟩=>⟨_,x,y ▸ World.ownsRow_nil _ _ _ _,y ▸ Below.refl _ _⟩
 | some ad=>
  refine (Mt ad n c (L.map (Value.int .i64)) w hn (by simp[hl]) (ints_oneCell _ _) (fun j u hj=>?_))
  have hjl:j<L.length:=by have:=(List.getElem?_eq_some_iff.1 hj).1;simpa using this
  obtain⟨b,off,e,_,hcell⟩:=hc (by omega)
  cases e
  rw[Addr.add_lit,hcell j hjl]
  simpa[hjl] using hj
theorem Jm(ad:Addr)(n c:Nat)(F:List Value)(w:World)(hn:n≤8796093022208)(hz:F.length=n*2)(h1:∀ u∈F,u.oneCell'=true)(hc:∀ j u,F[j]? = some u→w.cell? (ad.add j)=some u) :
  Calls Tryz.prog 102 #[.slice (some ad) n c] w fun e w'=>∃ v,e = .returned v∧w'.ownsRow w.heap.size 122 2 v n F∧Below w.heap.size w w':=by
 obtain⟨i0,hi,hz0,hz1,hz2⟩:=info_parts Tryz.infoOpC
 have hb:=Zg w (.cells #[] 122)
 have HC:Hid (∀ j u,F[j]? = some u→(w.alloc (.cells #[] 122)).cell? (ad.add j)=some u):=fun j u hj=>Zc hb (hc j u hj)
 have HB:=Zb hb
 have HZ:=Zb hz
 have H1:=Zb h1
 have HO:=Zb (U7 w 122 2)
 have he:=fun w=>Lib.run_eql_slice_nil (P:=Tryz.prog) w 66 122 (some ad) n c 0 0 Tryz.underlying66
 clear hc hb hz h1
 go_enter Tryz.func102,Tryz.ntmps102
 go_wp2_with (at_builtin;refine wpList_append_own _ rfl _ _ 66 rfl w.heap.size 122 i0 (.agg #[.int .i64 0,.int .i64 0]) 2 16 Tryz.underlying66 hi hz0 hz1 hz2 rfl (by decide) _ _ _ rfl (Za HO) ad n c F rfl (Za HZ) (Za HC) (Za H1) (by unfold maxLen;omega) (by omega) (Za HB).size ?_;intro v2 w3 hown3 hgrow3 _)
 have HW:Hid (w3.ownsRow w.heap.size 122 2 v2 n F):=by show World.ownsRow _ _ _ _ _ _ _;simpa using hown3
 have HB3:=Zb ((Za HB).grown hgrow3 (Za HB).size (Yx (Za HO)))
 clear hown3 hgrow3
 go_wp2
 go_ret
 exact⟨v2,rfl,Za HW,Za HB3⟩
theorem Hm{w:World}{base:Nat}{v:Value}{n:Nat}{l:List (Int×Int)}(h:w.ownsRow base 122 2 v n (Vl l)):∃ a c,v = .slice a n c∧OpsAt w a n l∧SlOk a n c:=by
 have hl:l.length=n:=by have:=h.1;rw[Vc] at this;omega
 rcases h.2 with ⟨rfl,rfl⟩|⟨g,cap,cur,rfl,hg,hh,h1,h2,h3,h4⟩
 ·exact⟨none,0,rfl,⟨hl,fun h=>absurd h (by omega)⟩,⟨Nat.le_refl _,Nat.zero_le _,fun _=>⟨rfl,rfl⟩⟩⟩
 ·refine⟨_,cap,rfl,⟨hl,fun _=>⟨g,0,rfl,fun i hi=>?_⟩⟩,⟨h1,h2,fun e=>by cases e⟩⟩
  obtain⟨f0,f1⟩:=Sp l i (by omega)
  rw[Nat.zero_add,World.ownsRow.cellAt h _ (by omega),World.ownsRow.cellAt h _ (by omega)]
  exact⟨f0,f1⟩
theorem Qa(a:Option Addr)(n c:Nat)(l:List (Int×Int))(w:World)(hn:n≤8796093022208)(h:OpsAt w a n l)(hs:SlOk a n c) :
  Calls Tryz.prog 102 #[.slice a n c] w fun e w'=>∃ a' c',e = .returned (.slice a' n c')∧Fresh w.heap.size w' (fun w2=>OpsAt w2 a' n l∧SlOk a' n c')∧Below w.heap.size w w':=by
 obtain⟨hl,hc⟩:=h
 cases a with
 | none=>
  obtain⟨rfl,rfl⟩:=hs.2.2 rfl
  exact (Gy w).mono fun e w' ⟨x,y⟩=>⟨none,0,x,fun _ _=>⟨⟨hl,fun h=>absurd h (by omega)⟩,hs⟩,y ▸ Below.refl _ _⟩
 | some ad=>
  have hc2:∀ j u,(Vl l)[j]? = some u→w.cell? (ad.add j)=some u:=fun j u hj=>by
   have hjl:j<l.length*2:=by rw[←Vc];exact (List.getElem?_eq_some_iff.1 hj).1
   obtain⟨b,off,e,hcell⟩:=hc (by omega)
   cases e
   rw[Addr.add_lit]
   exact Gu hl hcell j u hj
  refine (Jm ad n c (Vl l) w hn (by rw[Vc,hl]) (Py l) hc2).mono ?_
  rintro e w' ⟨v,rfl,x,y⟩
  obtain⟨a',c',rfl,h1,h2⟩:=Hm x
  refine⟨a',c',rfl,fun w2 g2=>?_,y⟩
  have x2:=g2.own x (fun k hk=>by have:=(x.lt k hk).1;omega)
  obtain⟨a2,c2,e,h3,h4⟩:=Hm x2
  cases e
  exact⟨h3,h4⟩
theorem Tryz.infoInC:(Tryz.prog.info? 124).map (fun i=>(i.zero,i.size,i.bytes))=some (some (.agg #[.int .i64 0,.int .i64 0,.slice none 0 0]),3,40):=by kernel_rfl
theorem Cr(w:World):Calls Tryz.prog 100 #[.slice none 0 0] w fun e w'=>e = .returned (.slice none 0 0)∧w=w':=by
 have he:=fun w=>Lib.run_eql_slice_nil (P:=Tryz.prog) w 49 124 none 0 0 0 0 Tryz.underlying49
 go_enter Tryz.func100,Tryz.ntmps100
 go_wp2
 go_ret
 exact⟨rfl,rfl⟩
theorem Sy(ad:Addr)(n c:Nat)(F:List Value)(w:World)(hn:n≤3518437208883)(hz:F.length=n*3)(h1:∀ u∈F,u.oneCell'=true)(hc:∀ j u,F[j]? = some u→w.cell? (ad.add j)=some u) :
  Calls Tryz.prog 100 #[.slice (some ad) n c] w fun e w'=>∃ v,e = .returned v∧w'.ownsRow w.heap.size 124 3 v n F∧Below w.heap.size w w':=by
 obtain⟨i0,hi,hz0,hz1,hz2⟩:=info_parts Tryz.infoInC
 have hb:=Zg w (.cells #[] 124)
 have HC:Hid (∀ j u,F[j]? = some u→(w.alloc (.cells #[] 124)).cell? (ad.add j)=some u):=fun j u hj=>Zc hb (hc j u hj)
 have HB:=Zb hb
 have HZ:=Zb hz
 have H1:=Zb h1
 have HO:=Zb (U7 w 124 3)
 have he:=fun w=>Lib.run_eql_slice_nil (P:=Tryz.prog) w 49 124 (some ad) n c 0 0 Tryz.underlying49
 clear hc hb hz h1
 go_enter Tryz.func100,Tryz.ntmps100
 go_wp2_with (at_builtin;refine wpList_append_own _ rfl _ _ 49 rfl w.heap.size 124 i0 (.agg #[.int .i64 0,.int .i64 0,.slice none 0 0]) 3 40 Tryz.underlying49 hi hz0 hz1 hz2 rfl (by decide) _ _ _ rfl (Za HO) ad n c F rfl (Za HZ) (Za HC) (Za H1) (by unfold maxLen;omega) (by omega) (Za HB).size ?_;intro v2 w3 hown3 hgrow3 _)
 have HW:Hid (w3.ownsRow w.heap.size 124 3 v2 n F):=by show World.ownsRow _ _ _ _ _ _ _;simpa using hown3
 have HB3:=Zb ((Za HB).grown hgrow3 (Za HB).size (Yx (Za HO)))
 clear hown3 hgrow3
 go_wp2
 go_ret
 exact⟨v2,rfl,Za HW,Za HB3⟩
theorem Cs(a:Option Addr)(n c:Nat)(L:List InD)(w0 w:World)(hn:n≤3518437208883)(h:RowsAt inR.R 3 w0 a n L)(hb:Below w0.heap.size w0 w)(hs:SlOk a n c) :
  Calls Tryz.prog 100 #[.slice a n c] w fun e w'=>∃ v,∃ K:List (List Value),e = .returned v∧AllC inR w0 K L∧w'.ownsRow w.heap.size 124 3 v n K.flatten∧Below w.heap.size w w':=by
 obtain⟨hl,hc⟩:=h
 cases a with
 | none=>
  obtain⟨rfl,rfl⟩:=hs.2.2 rfl
  have e:L=[]:=List.length_eq_zero_iff.1 hl
  subst e
  exact (Cr w).mono fun e w' ⟨x,y⟩=>⟨_,[],x,⟨rfl,fun i h=>absurd h (by simp)⟩,y ▸ World.ownsRow_nil _ _ _ _,y ▸ Below.refl _ _⟩
 | some ad=>
  by_cases h0:n=0
  ·subst h0
   have e:L=[]:=List.length_eq_zero_iff.1 hl
   subst e
   exact (Sy ad 0 c [] w hn rfl (fun u hu=>by cases hu) (fun j u hj=>by simp at hj)).mono fun e w' ⟨v,x,y,z⟩=>⟨v,[],x,⟨rfl,fun i h=>absurd h (by simp)⟩,y,z⟩
  ·obtain⟨b,off,e,_,hcell⟩:=hc (by omega)
   obtain⟨rfl⟩:=e
   obtain⟨K,h1,h3⟩:=Ux inR hcell
   have hk:K.flatten.length=n*3:=by rw[Ws h1,hl];rfl
   exact (Sy ⟨b,off,none⟩ n c K.flatten w hn hk (Qv h1) (fun j u hj=>by rw[Addr.add_lit];exact Zc hb (h3 j u hj))).mono fun e w' ⟨v,x,y,z⟩=>⟨v,K,x,h1,y,z⟩
theorem Tryz.infoOutC:(Tryz.prog.info? 101).map (fun i=>(i.zero,i.size,i.bytes))=some (some (.agg #[.int .i64 0,.slice none 0 0]),2,32):=by kernel_rfl
theorem Fo(w:World):Calls Tryz.prog 101 #[.slice none 0 0] w fun e w'=>e = .returned (.slice none 0 0)∧w=w':=by
 have he:=fun w=>Lib.run_eql_slice_nil (P:=Tryz.prog) w 50 101 none 0 0 0 0 Tryz.underlying50
 go_enter Tryz.func101,Tryz.ntmps101
 go_wp2
 go_ret
 exact⟨rfl,rfl⟩
theorem R0(ad:Addr)(n c:Nat)(F:List Value)(w:World)(hn:n≤4398046511104)(hz:F.length=n*2)(h1:∀ u∈F,u.oneCell'=true)(hc:∀ j u,F[j]? = some u→w.cell? (ad.add j)=some u) :
  Calls Tryz.prog 101 #[.slice (some ad) n c] w fun e w'=>∃ v,e = .returned v∧w'.ownsRow w.heap.size 101 2 v n F∧Below w.heap.size w w':=by
 obtain⟨i0,hi,hz0,hz1,hz2⟩:=info_parts Tryz.infoOutC
 have hb:=Zg w (.cells #[] 101)
 have HC:Hid (∀ j u,F[j]? = some u→(w.alloc (.cells #[] 101)).cell? (ad.add j)=some u):=fun j u hj=>Zc hb (hc j u hj)
 have HB:=Zb hb
 have HZ:=Zb hz
 have H1:=Zb h1
 have HO:=Zb (U7 w 101 2)
 have he:=fun w=>Lib.run_eql_slice_nil (P:=Tryz.prog) w 50 101 (some ad) n c 0 0 Tryz.underlying50
 clear hc hb hz h1
 go_enter Tryz.func101,Tryz.ntmps101
 go_wp2_with (at_builtin;refine wpList_append_own _ rfl _ _ 50 rfl w.heap.size 101 i0 (.agg #[.int .i64 0,.slice none 0 0]) 2 32 Tryz.underlying50 hi hz0 hz1 hz2 rfl (by decide) _ _ _ rfl (Za HO) ad n c F rfl (Za HZ) (Za HC) (Za H1) (by unfold maxLen;omega) (by omega) (Za HB).size ?_;intro v2 w3 hown3 hgrow3 _)
 have HW:Hid (w3.ownsRow w.heap.size 101 2 v2 n F):=by show World.ownsRow _ _ _ _ _ _ _;simpa using hown3
 have HB3:=Zb ((Za HB).grown hgrow3 (Za HB).size (Yx (Za HO)))
 clear hown3 hgrow3
 go_wp2
 go_ret
 exact⟨v2,rfl,Za HW,Za HB3⟩
theorem Fp(a:Option Addr)(n c:Nat)(L:List Yc)(w0 w:World)(hn:n≤4398046511104)(h:RowsAt outR.R 2 w0 a n L)(hb:Below w0.heap.size w0 w)(hs:SlOk a n c) :
  Calls Tryz.prog 101 #[.slice a n c] w fun e w'=>∃ v,∃ K:List (List Value),e = .returned v∧AllC outR w0 K L∧w'.ownsRow w.heap.size 101 2 v n K.flatten∧Below w.heap.size w w':=by
 obtain⟨hl,hc⟩:=h
 cases a with
 | none=>
  obtain⟨rfl,rfl⟩:=hs.2.2 rfl
  have e:L=[]:=List.length_eq_zero_iff.1 hl
  subst e
  exact (Fo w).mono fun e w' ⟨x,y⟩=>⟨_,[],x,⟨rfl,fun i h=>absurd h (by simp)⟩,y ▸ World.ownsRow_nil _ _ _ _,y ▸ Below.refl _ _⟩
 | some ad=>
  by_cases h0:n=0
  ·subst h0
   have e:L=[]:=List.length_eq_zero_iff.1 hl
   subst e
   exact (R0 ad 0 c [] w hn rfl (fun u hu=>by cases hu) (fun j u hj=>by simp at hj)).mono fun e w' ⟨v,x,y,z⟩=>⟨v,[],x,⟨rfl,fun i h=>absurd h (by simp)⟩,y,z⟩
  ·obtain⟨b,off,e,_,hcell⟩:=hc (by omega)
   obtain⟨rfl⟩:=e
   obtain⟨K,h1,h3⟩:=Ux outR hcell
   have hk:K.flatten.length=n*2:=by rw[Ws h1,hl];rfl
   exact (R0 ⟨b,off,none⟩ n c K.flatten w hn hk (Qv h1) (fun j u hj=>by rw[Addr.add_lit];exact Zc hb (h3 j u hj))).mono fun e w' ⟨v,x,y,z⟩=>⟨v,K,x,h1,y,z⟩
theorem Tryz.infoTxC:(Tryz.prog.info? 52).map (fun i=>(i.zero,i.size,i.bytes))=some (some (.agg #[.int .i64 0,.slice none 0 0,.slice none 0 0]),3,56):=by kernel_rfl
theorem Cp(w:World):Calls Tryz.prog 64 #[.slice none 0 0] w fun e w'=>e = .returned (.slice none 0 0)∧w=w':=by
 have he:=fun w=>Lib.run_eql_slice_nil (P:=Tryz.prog) w 48 52 none 0 0 0 0 Tryz.underlying48
 go_enter Tryz.func64,Tryz.ntmps64
 go_wp2
 go_ret
 exact⟨rfl,rfl⟩
theorem Sw(ad:Addr)(n c:Nat)(F:List Value)(w:World)(hn:n≤2513169434916)(hz:F.length=n*3)(h1:∀ u∈F,u.oneCell'=true)(hc:∀ j u,F[j]? = some u→w.cell? (ad.add j)=some u) :
  Calls Tryz.prog 64 #[.slice (some ad) n c] w fun e w'=>∃ v,e = .returned v∧w'.ownsRow w.heap.size 52 3 v n F∧Below w.heap.size w w':=by
 obtain⟨i0,hi,hz0,hz1,hz2⟩:=info_parts Tryz.infoTxC
 have hb:=Zg w (.cells #[] 52)
 have HC:Hid (∀ j u,F[j]? = some u→(w.alloc (.cells #[] 52)).cell? (ad.add j)=some u):=fun j u hj=>Zc hb (hc j u hj)
 have HB:=Zb hb
 have HZ:=Zb hz
 have H1:=Zb h1
 have HO:=Zb (U7 w 52 3)
 have he:=fun w=>Lib.run_eql_slice_nil (P:=Tryz.prog) w 48 52 (some ad) n c 0 0 Tryz.underlying48
 clear hc hb hz h1
 go_enter Tryz.func64,Tryz.ntmps64
 go_wp2_with (at_builtin;refine wpList_append_own _ rfl _ _ 48 rfl w.heap.size 52 i0 (.agg #[.int .i64 0,.slice none 0 0,.slice none 0 0]) 3 56 Tryz.underlying48 hi hz0 hz1 hz2 rfl (by decide) _ _ _ rfl (Za HO) ad n c F rfl (Za HZ) (Za HC) (Za H1) (by unfold maxLen;omega) (by omega) (Za HB).size ?_;intro v2 w3 hown3 hgrow3 _)
 have HW:Hid (w3.ownsRow w.heap.size 52 3 v2 n F):=by show World.ownsRow _ _ _ _ _ _ _;simpa using hown3
 have HB3:=Zb ((Za HB).grown hgrow3 (Za HB).size (Yx (Za HO)))
 clear hown3 hgrow3
 go_wp2
 go_ret
 exact⟨v2,rfl,Za HW,Za HB3⟩
theorem Cq(a:Option Addr)(n c:Nat)(L:List TxD)(w0 w:World)(hn:n≤2513169434916)(h:RowsAt txR.R 3 w0 a n L)(hb:Below w0.heap.size w0 w)(hs:SlOk a n c) :
  Calls Tryz.prog 64 #[.slice a n c] w fun e w'=>∃ v,∃ K:List (List Value),e = .returned v∧AllC txR w0 K L∧w'.ownsRow w.heap.size 52 3 v n K.flatten∧Below w.heap.size w w':=by
 obtain⟨hl,hc⟩:=h
 cases a with
 | none=>
  obtain⟨rfl,rfl⟩:=hs.2.2 rfl
  have e:L=[]:=List.length_eq_zero_iff.1 hl
  subst e
  exact (Cp w).mono fun e w' ⟨x,y⟩=>⟨_,[],x,⟨rfl,fun i h=>absurd h (by simp)⟩,y ▸ World.ownsRow_nil _ _ _ _,y ▸ Below.refl _ _⟩
 | some ad=>
  by_cases h0:n=0
  ·subst h0
   have e:L=[]:=List.length_eq_zero_iff.1 hl
   subst e
   exact (Sw ad 0 c [] w hn rfl (fun u hu=>by cases hu) (fun j u hj=>by simp at hj)).mono fun e w' ⟨v,x,y,z⟩=>⟨v,[],x,⟨rfl,fun i h=>absurd h (by simp)⟩,y,z⟩
  ·obtain⟨b,off,e,_,hcell⟩:=hc (by omega)
   obtain⟨rfl⟩:=e
   obtain⟨K,h1,h3⟩:=Ux txR hcell
   have hk:K.flatten.length=n*3:=by rw[Ws h1,hl];rfl
   exact (Sw ⟨b,off,none⟩ n c K.flatten w hn hk (Qv h1) (fun j u hj=>by rw[Addr.add_lit];exact Zc hb (h3 j u hj))).mono fun e w' ⟨v,x,y,z⟩=>⟨v,K,x,h1,y,z⟩
theorem Tryz.infoBlkC:(Tryz.prog.info? 68).map (fun i=>(i.zero,i.size,i.bytes))=some (some (.agg #[.int .i64 0,.int .i64 0,.int .i64 0,.int .i64 0,.slice none 0 0]),5,56):=by kernel_rfl
theorem Fs(w:World):Calls Tryz.prog 130 #[.slice none 0 0] w fun e w'=>e = .returned (.slice none 0 0)∧w=w':=by
 have he:=fun w=>Lib.run_eql_slice_nil (P:=Tryz.prog) w 26 68 none 0 0 0 0 Tryz.underlying26
 go_enter Tryz.func130,Tryz.ntmps130
 go_wp2
 go_ret
 exact⟨rfl,rfl⟩
theorem R6(ad:Addr)(n c:Nat)(F:List Value)(w:World)(hn:n≤2513169434916)(hz:F.length=n*5)(h1:∀ u∈F,u.oneCell'=true)(hc:∀ j u,F[j]? = some u→w.cell? (ad.add j)=some u) :
  Calls Tryz.prog 130 #[.slice (some ad) n c] w fun e w'=>∃ v,e = .returned v∧w'.ownsRow w.heap.size 68 5 v n F∧Below w.heap.size w w':=by
 obtain⟨i0,hi,hz0,hz1,hz2⟩:=info_parts Tryz.infoBlkC
 have hb:=Zg w (.cells #[] 68)
 have HC:Hid (∀ j u,F[j]? = some u→(w.alloc (.cells #[] 68)).cell? (ad.add j)=some u):=fun j u hj=>Zc hb (hc j u hj)
 have HB:=Zb hb
 have HZ:=Zb hz
 have H1:=Zb h1
 have HO:=Zb (U7 w 68 5)
 have he:=fun w=>Lib.run_eql_slice_nil (P:=Tryz.prog) w 26 68 (some ad) n c 0 0 Tryz.underlying26
 clear hc hb hz h1
 go_enter Tryz.func130,Tryz.ntmps130
 go_wp2_with (at_builtin;refine wpList_append_own _ rfl _ _ 26 rfl w.heap.size 68 i0 (.agg #[.int .i64 0,.int .i64 0,.int .i64 0,.int .i64 0,.slice none 0 0]) 5 56 Tryz.underlying26 hi hz0 hz1 hz2 rfl (by decide) _ _ _ rfl (Za HO) ad n c F rfl (Za HZ) (Za HC) (Za H1) (by unfold maxLen;omega) (by omega) (Za HB).size ?_;intro v2 w3 hown3 hgrow3 _)
 have HW:Hid (w3.ownsRow w.heap.size 68 5 v2 n F):=by show World.ownsRow _ _ _ _ _ _ _;simpa using hown3
 have HB3:=Zb ((Za HB).grown hgrow3 (Za HB).size (Yx (Za HO)))
 clear hown3 hgrow3
 go_wp2
 go_ret
 exact⟨v2,rfl,Za HW,Za HB3⟩
theorem Ft(a:Option Addr)(n c:Nat)(L:List Zk)(w0 w:World)(hn:n≤2513169434916)(h:RowsAt blkR.R 5 w0 a n L)(hb:Below w0.heap.size w0 w)(hs:SlOk a n c) :
  Calls Tryz.prog 130 #[.slice a n c] w fun e w'=>∃ v,∃ K:List (List Value),e = .returned v∧AllC blkR w0 K L∧w'.ownsRow w.heap.size 68 5 v n K.flatten∧Below w.heap.size w w':=by
 obtain⟨hl,hc⟩:=h
 cases a with
 | none=>
  obtain⟨rfl,rfl⟩:=hs.2.2 rfl
  have e:L=[]:=List.length_eq_zero_iff.1 hl
  subst e
  exact (Fs w).mono fun e w' ⟨x,y⟩=>⟨_,[],x,⟨rfl,fun i h=>absurd h (by simp)⟩,y ▸ World.ownsRow_nil _ _ _ _,y ▸ Below.refl _ _⟩
 | some ad=>
  by_cases h0:n=0
  ·subst h0
   have e:L=[]:=List.length_eq_zero_iff.1 hl
   subst e
   exact (R6 ad 0 c [] w hn rfl (fun u hu=>by cases hu) (fun j u hj=>by simp at hj)).mono fun e w' ⟨v,x,y,z⟩=>⟨v,[],x,⟨rfl,fun i h=>absurd h (by simp)⟩,y,z⟩
  ·obtain⟨b,off,e,_,hcell⟩:=hc (by omega)
   obtain⟨rfl⟩:=e
   obtain⟨K,h1,h3⟩:=Ux blkR hcell
   have hk:K.flatten.length=n*5:=by rw[Ws h1,hl];rfl
   exact (R6 ⟨b,off,none⟩ n c K.flatten w hn hk (Qv h1) (fun j u hj=>by rw[Addr.add_lit];exact Zc hb (h3 j u hj))).mono fun e w' ⟨v,x,y,z⟩=>⟨v,K,x,h1,y,z⟩
end Go.Proofs.YtpikejjiignchaaGreatDoor.Tr
