import Derived.Test.YtpikejjiignchaaGreatDoorG28
set_option maxHeartbeats 6400000
set_option maxRecDepth 10000
namespace Go.Proofs.YtpikejjiignchaaGreatDoor
open Go.RowKit
theorem L5(h:Int)(ai ao:Option Addr)(ni ci no co:Nat)(I:List InD)(O:List Zw)(w:World)(hE:Env w)(hI:InsAt w ai ni I)(hO:OutsAt w ao no O)(sI:SlOk ai ni ci)(hx:Zo (h,I,O)=0) :
  Calls Tryz.prog 96 #[.agg #[.int .i64 h,.slice ai ni ci,.slice ao no co]] w fun e w'=>e = .returned (.tuple #[.string (U7 (h,I,O)),.int .i64 0])∧Below w.heap.size w w':=by
 have ok:=TxOk.of hx
 have hb:=Zf w (.cells #[.int .i64 h,.slice ai ni ci,.slice ao no co] 52)
 obtain⟨n0,n1,n2⟩:=Yx w (.int .i64 h) (.slice ai ni ci) (.slice ao no co) 52
 have HB:=Zb hb
 have C:=Zb (Un h ai ao ni ci no co I O _ (hI.later hb) (hO.later hb) sI)
 rw[hx] at C
 have N0:=Zb n0
 have N1:=Zb n1
 have N2:=Zb n2
 have hi6:ni≤6:=by have:=ok.ins6;have:=hI.1;simp only at *;omega
 have ho6:no≤6:=by have:=ok.outs6;have:=hO.1;simp only at *;omega
 have hpos:0<no:=by have:=ok.some;have:=hO.1;simp only at *;omega
 have HI:=Zb hI
 have HO:=Zb hO
 have HE:=Zb hE
 have HG:=Zb ok.hgt
 have HII:=Zb ok.ins
 have HOO:=Zb ok.outs
 clear hb hI hO sI hx n0 n1 n2 hE ok
 go_enter Tryz.func96,Tryz.ntmps96
 go_wp2_with fail
 refine (Za C).mono ?_
 rintro e w2 ⟨rfl,hb2⟩
 have m0:=Zc hb2 (Za N0)
 have M1:=Zb (Zc hb2 (Za N1))
 have M2:=Zb (Zc hb2 (Za N2))
 have s2:w.heap.size<w2.heap.size:=World.block_lt_of_cell? _ _ m0
 have hbw2:=Ze (Za HB) hb2
 have ba:=Zf w2 (.cells #[.int .i64 h] 3)
 have R:=Zb (J2 txB w2.heap.size 0 1 1 [h] (w2.alloc (.cells #[.int .i64 h] 3)) ((Za HE).later (Ze hbw2 ba)) (by decide) (by decide) rfl (by simp) (fun i hi=>by
  have e:i=0:=by omega
  subst e
  exact Qf w2 (.int .i64 h) 3) (fun z hz=>by have:=Za HG;simp at hz;omega))
 have HBA:=Zb ba
 have HB2:=Zb hb2
 have HBW2:=Zb hbw2
 have hs:=J6 h (Za HG)
 have hs0:(Ut txB [h]).size≤29:=by
  have e:Wy h=Ut txB [h]++⟨#[10]⟩:=rfl
  rw[e,Q6] at hs
  omega
 obtain⟨T0,hT0⟩:∃ T0,Ut txB [h]=T0:=⟨_,rfl⟩
 have HT0:Hid (T0++⟨#[10]⟩=Wy h):=by show _=_;rw[←hT0];rfl
 rw[hT0] at R hs0
 clear hb2 hbw2 ba hs hT0
 go_wp2_with fail
 refine (Za R).mono ?_
 rintro e w3 ⟨rfl,hb3⟩
 have hb3':=Ze (Za HBA) hb3
 have m1:=Zc hb3' (Za M1)
 have M2':=Zb (Zc hb3' (Za M2))
 have s3:w.heap.size<w3.heap.size:=World.block_lt_of_cell? _ _ m1
 have HBW3:=Zb (Ze (Za HBW2) hb3')
 clear hb3 hb3'
 go_wp2
 go_loopw [5,23] (fun s i wr=>∃ k:Nat,k≤ni∧i = .int .i64 k∧s = .string (Y3 h (I.take k))∧Below w3.heap.size w3 wr) (fun _ i _=>ni - (intOf i).toNat)
 case atStart=>exact⟨0,Nat.zero_le _,rfl,by rw[Za HT0];rfl,Below.refl _ _⟩
 case round=>
  obtain⟨k,hk,rfl,rfl,hbr⟩:=hrel
  have HBR:=Zb hbr
  have hbw:=Ze (Za HBW3) hbr
  have HBW:=Zb hbw
  by_cases hlt:k<ni
  ·have hlk:k<I.length:=by rw[(Za HI).1];exact hlt
   obtain⟨b,off,rfl,hbl,hcell⟩:=((Za HI).later hbw).2 (by omega)
   obtain⟨g1,g2,ka,kn,kc,g3,g4,_⟩:=hcell k hlk
   have hok:=(Za HII) I[k] (List.getElem_mem hlk)
   have hS:=Th h (I.take k) I[k]
   rw[←List.take_succ_eq_append_getElem hlk] at hS
   have hTs:(Y3 h (I.take k)).size≤3000:=by
    have:=V4 h (I.take k) (Za HG) (fun x hx=>(Za HII) x (List.mem_of_mem_take hx))
    rw[List.length_take] at this
    omega
   have hXs:=Pd I[k] hok
   obtain⟨x,hx⟩:∃ x,I[k]=x:=⟨_,rfl⟩
   rw[hx] at g1 g2 g4 hok hS hXs
   obtain⟨x1,x2,key⟩:=x
   simp only at g1 g2 g3 g4
   have hp:=(Q9 _).1 hok.1
   simp only at hp
   obtain⟨T,hT⟩:∃ T,Y3 h (I.take k)=T:=⟨_,rfl⟩
   obtain⟨X,hX⟩:∃ X,Rl (x1,x2,key)=X:=⟨_,rfl⟩
   rw[hT,hX] at hS
   rw[hT] at hTs ⊢
   rw[hX] at hXs
   have HS:=Zb hS
   have b1:=Zf wr (.cells #[.int .i64 x1,.int .i64 x2,.slice ka kn kc] 124)
   have b2:=Zf (wr.alloc (.cells #[.int .i64 x1,.int .i64 x2,.slice ka kn kc] 124)) (.cells #[.int .i64 x1,.int .i64 x2] 3)
   have b12:=Ze b1 b2
   have t2:=V6 (wr.alloc (.cells #[.int .i64 x1,.int .i64 x2,.slice ka kn kc] 124)) (.int .i64 x1) (.int .i64 x2) 3
   have esz:(wr.alloc (.cells #[.int .i64 x1,.int .i64 x2,.slice ka kn kc] 124)).heap.size=wr.heap.size+1:=by simp
   rw[esz] at t2
   have PL:=Zb (Ta ka kn kc key inB (wr.heap.size+1) 0 2 2 [x1,x2] X ((wr.alloc (.cells #[.int .i64 x1,.int .i64 x2,.slice ka kn kc] 124)).alloc (.cells #[.int .i64 x1,.int .i64 x2] 3)) (((Za HE).later hbw).later b12) (g4.later b12) hok.2 (by decide) (by decide) rfl (by simp) (fun i hi=>by
    have e:i=0∨i=1:=by omega
    rcases e with rfl|rfl
    ·exact t2.1
    ·exact t2.2) (fun z hz=>by simp at hz;omega) hX)
   have HB12:=Zb b12
   clear hbr hbw hcell g4 hok hx hT hX hS b1 b2 b12 t2 esz hp
   go_wp2_with fail
   refine (Za PL).mono ?_
   rintro e w4 ⟨rfl,hb4⟩
   have HB4:=Zb ((Za HBR).trans ((Ze (Za HB12) hb4).mono (Za HBR).size))
   clear hb4
   go_wp2
   go_roundw
   case rel=>exact⟨k+1,by omega,by go_num,by rw[Za HS],Za HB4⟩
   case measure=>simp[intOf];omega
  ·have e:k=ni:=by omega
   subst e
   have HT:Hid (Y3 h (I.take k)=Y3 h I):=by show _=_;rw[List.take_of_length_le (by rw[(Za HI).1];exact Nat.le_refl _)]
   have hTs:=V4 h I (Za HG) (Za HII)
   have hil:I.length≤6:=by rw[(Za HI).1];exact hi6
   obtain⟨T1,hT1⟩:∃ T1,Y3 h I=T1:=⟨_,rfl⟩
   rw[hT1] at HT hTs
   have HT1:=Zb hT1
   have m2:=Zc hbr (Za M2')
   have s4:w.heap.size<wr.heap.size:=World.block_lt_of_cell? _ _ m2
   rw[Za HT]
   clear hbr hT1 hk hlt
   go_wp2
   go_loopw [5,43] (fun s i wz=>∃ j:Nat,j≤no∧i = .int .i64 j∧s = .string (Xi T1 (O.take j))∧Below wr.heap.size wr wz) (fun _ i _=>no - (intOf i).toNat)
   case atStart=>exact⟨0,Nat.zero_le _,rfl,rfl,Below.refl _ _⟩
   case round=>
    obtain⟨j,hj,rfl,rfl,hbz⟩:=hrel
    have HBZ:=Zb hbz
    have hbv:=Ze (Za HBW) hbz
    have HBV:=Zb hbv
    by_cases hlt:j<no
    ·have hlk:j<O.length:=by rw[(Za HO).1];exact hlt
     obtain⟨b,off,rfl,hbl,hcell⟩:=((Za HO).later hbv).2 (by omega)
     obtain⟨g1,ka,kn,kc,g3,g4,_⟩:=hcell j hlk
     have hok:=(Za HOO) O[j] (List.getElem_mem hlk)
     have hS:=J3 T1 (O.take j) O[j]
     rw[←List.take_succ_eq_append_getElem hlk] at hS
     have hTs2:(Xi T1 (O.take j)).size≤6000:=by
      have:=J4 T1 (O.take j) (fun x hx=>(Za HOO) x (List.mem_of_mem_take hx))
      rw[List.length_take] at this
      omega
     have hXs:=Tc O[j] hok
     obtain⟨x,hx⟩:∃ x,O[j]=x:=⟨_,rfl⟩
     rw[hx] at g1 g4 hok hS hXs
     obtain⟨x1,key⟩:=x
     simp only at g1 g3 g4
     have hp:=hok.1
     simp only at hp
     obtain⟨T,hT⟩:∃ T,Xi T1 (O.take j)=T:=⟨_,rfl⟩
     obtain⟨X,hX⟩:∃ X,Qd (x1,key)=X:=⟨_,rfl⟩
     rw[hT,hX] at hS
     rw[hT] at hTs2 ⊢
     rw[hX] at hXs
     have HS:=Zb hS
     have b1:=Zf wr (.cells #[.int .i64 x1,.slice ka kn kc] 101)
     have b2:=Zf (wr.alloc (.cells #[.int .i64 x1,.slice ka kn kc] 101)) (.cells #[.int .i64 x1] 3)
     have b12:=Ze b1 b2
     have t2:=Qf (wr.alloc (.cells #[.int .i64 x1,.slice ka kn kc] 101)) (.int .i64 x1) 3
     have esz:(wr.alloc (.cells #[.int .i64 x1,.slice ka kn kc] 101)).heap.size=wr.heap.size+1:=by simp
     rw[esz] at t2
     have PL:=Zb (Ta ka kn kc key Zfi (wr.heap.size+1) 0 1 1 [x1] X ((wr.alloc (.cells #[.int .i64 x1,.slice ka kn kc] 101)).alloc (.cells #[.int .i64 x1] 3)) (((Za HE).later hbv).later b12) (g4.later b12) hok.2 (by decide) (by decide) rfl (by simp) (fun i hi=>by
      have e:i=0:=by omega
      subst e
      exact t2) (fun z hz=>by simp at hz;omega) hX)
     have HB12:=Zb b12
     clear hbz hbv hcell g4 hok hx hT hX hS b1 b2 b12 t2 esz hp
     go_wp2_with fail
     refine (Za PL).mono ?_
     rintro e w4 ⟨rfl,hb4⟩
     have HB4:=Zb ((Za HBZ).trans ((Ze (Za HB12) hb4).mono (Za HBZ).size))
     clear hb4
     go_wp2
     go_roundw
     case rel=>exact⟨j+1,by omega,by go_num,by rw[Za HS],Za HB4⟩
     case measure=>simp[intOf];omega
    ·have HF:Hid (Xi T1 (O.take j)=U7 (h,I,O)):=by
      show _=_
      rw[List.take_of_length_le (by rw[(Za HO).1];omega),←Za HT1];rfl
     clear hbz hbv
     go_wp2
     go_ret2
     exact⟨Nu (Za HF),Za HBV⟩
theorem Ft(h:Int)(ai ao:Option Addr)(ni ci no co:Nat)(I:List InD)(O:List Zw)(t:ByteArray)(x:Int)(w:World)(hE:Env w)(hI:InsAt w ai ni I)(hO:OutsAt w ao no O)(sI:SlOk ai ni ci)(hx:Zo (h,I,O)=x)(ht:txT (h,I,O)=t) :
  Calls Tryz.prog 96 #[.agg #[.int .i64 h,.slice ai ni ci,.slice ao no co]] w fun e w'=>e = .returned (.tuple #[.string t,.int .i64 x])∧Below w.heap.size w w':=by
 subst ht
 by_cases h0:Zo (h,I,O)=0
 ·rw[h0] at hx
  subst hx
  unfold txT
  rw[if_pos h0]
  exact L5 h ai ao ni ci no co I O w hE hI hO sI h0
 ·unfold txT
  rw[if_neg h0]
  exact Nc h ai ao ni ci no co I O x w hI hO sI hx (by rw[←hx];exact h0)
theorem Gb(z:Int)(hz : -10000000000≤z∧z≤10000000000)(w:World)(hw:Env w):Calls Tryz.prog 107 #[.int .i64 z] w fun e w'=>e = .returned (.string (Xj z))∧Below w.heap.size w w':=
 (Tryz.strconv_Itoa z (by omega) (by omega) w hw.tab).mono fun e w' ⟨h1,k,os,h2⟩=>⟨h1,by rw[h2];exact Lib.below_grow _ _ (Nat.le_refl _) k os⟩
theorem Zdj(h:Int):Wy h=((⟨#[116,120,32]⟩:ByteArray)++Xj h)++⟨#[10]⟩:=by
 apply H8
 simp[Wy,Ut,txB]
theorem Zhq(x1 x2:Int)(key:List (Int×Int)):Rl (x1,x2,key)=(((((((⟨#[105,110,32]⟩:ByteArray)++Xj x1)++⟨#[32]⟩)++Xj x2)++⟨#[58]⟩)++Z9 key)++⟨#[10]⟩):=by
 apply H8
 simp[Rl,Sz,Ut,inB]
theorem Zfh(x1:Int)(key:List (Int×Int)):Qd (x1,key)=(((((⟨#[111,117,116,32]⟩:ByteArray)++Xj x1)++⟨#[58]⟩)++Z9 key)++⟨#[10]⟩):=by
 apply H8
 simp[Qd,Sz,Ut,Zfi]
theorem Cr(h:Int)(ai ao:Option Addr)(ni ci no co:Nat)(I:List InD)(O:List Zw)(w:World)(hE:EnvF w)(hI:InsAt w ai ni I)(hO:OutsAt w ao no O)(hx:Zo (h,I,O)=0) :
  Calls Tryz.prog 59 #[.agg #[.int .i64 h,.slice ai ni ci,.slice ao no co]] w fun e w'=>e = .returned (.string (U7 (h,I,O)))∧Below w.heap.size w w':=by
 have ok:=TxOk.of hx
 have hb:=Zf w (.cells #[.int .i64 h,.slice ai ni ci,.slice ao no co] 52)
 obtain⟨n0,n1,n2⟩:=Yx w (.int .i64 h) (.slice ai ni ci) (.slice ao no co) 52
 have hi6:ni≤6:=by have:=ok.ins6;have:=hI.1;simp only at *;omega
 have ho6:no≤6:=by have:=ok.outs6;have:=hO.1;simp only at *;omega
 have HG:=Zb ok.hgt
 have HII:=Zb ok.ins
 have HOO:=Zb ok.outs
 have hh : -10000000000≤h∧h≤10000000000:=by have:=ok.hgt;simp only at this;omega
 have IT:=Zb (Gb h hh _ (hE.later hb).envp.env)
 have HE:=Zb hE
 have HI:=Zb hI
 have HO:=Zb hO
 have HB:=Zb hb
 have N1:=Zb n1
 have N2:=Zb n2
 have HS0:=Zb (Zdj h)
 have s0:=Vb h hh
 obtain⟨A0,hA0⟩:∃ A0,Xj h=A0:=⟨_,rfl⟩
 rw[hA0] at IT HS0 s0
 have s1:((⟨#[116,120,32]⟩:ByteArray)++A0).size≤24:=by rw[ByteArray.size_append];have:(⟨#[116,120,32]⟩:ByteArray).size=3:=rfl;omega
 clear hb n1 n2 hE hI hO hx ok hA0 hh
 go_enter Tryz.func59,Tryz.ntmps59
 go_wp2_with fail
 refine (Za IT).mono ?_
 rintro e w3 ⟨rfl,hb3⟩
 have m1:=Zc hb3 (Za N1)
 have M2:=Zb (Zc hb3 (Za N2))
 have l3:w.heap.size<w3.heap.size:=World.block_lt_of_cell? _ _ m1
 have HBW3:=Zb (Ze (Za HB) hb3)
 clear hb3
 go_wp2
 go_loopw [3,16] (fun s i wr=>∃ k:Nat,k≤ni∧i = .int .i64 k∧s = .string (Y3 h (I.take k))∧Below w3.heap.size w3 wr) (fun _ i _=>ni - (intOf i).toNat)
 case atStart=>exact⟨0,Nat.zero_le _,rfl,by rw[←Za HS0];rfl,Below.refl _ _⟩
 case round=>
  obtain⟨k,hk,rfl,rfl,hbr⟩:=hrel
  have HBR:=Zb hbr
  have hbw:=Ze (Za HBW3) hbr
  have HBW:=Zb hbw
  by_cases hlt:k<ni
  ·have hlk:k<I.length:=by rw[(Za HI).1];exact hlt
   obtain⟨b,off,rfl,hbl,hcell⟩:=((Za HI).later hbw).2 (by omega)
   obtain⟨g1,g2,ka,kn,kc,g3,g4,_⟩:=hcell k hlk
   have hok:=(Za HII) I[k] (List.getElem_mem hlk)
   have hS:=Th h (I.take k) I[k]
   rw[←List.take_succ_eq_append_getElem hlk] at hS
   have hTs:(Y3 h (I.take k)).size≤3000:=by
    have:=V4 h (I.take k) (Za HG) (fun x hx=>(Za HII) x (List.mem_of_mem_take hx))
    rw[List.length_take] at this
    omega
   obtain⟨x,hx⟩:∃ x,I[k]=x:=⟨_,rfl⟩
   rw[hx] at g1 g2 g4 hok hS
   obtain⟨x1,x2,key⟩:=x
   simp only at g1 g2 g3 g4
   have hp:=(Q9 _).1 hok.1
   simp only at hp
   obtain⟨T,hT⟩:∃ T,Y3 h (I.take k)=T:=⟨_,rfl⟩
   rw[hT,Zhq] at hS
   rw[hT] at hTs ⊢
   obtain⟨X,hX⟩:∃ X,X=wr.alloc (.cells #[.int .i64 x1,.int .i64 x2,.slice ka kn kc] 124):=⟨_,rfl⟩
   have b1:Below wr.heap.size wr X:=by rw[hX];exact Zf _ _
   have cx:=Yx wr (.int .i64 x1) (.int .i64 x2) (.slice ka kn kc) 124
   rw[←hX] at cx
   obtain⟨x0c,x1c,x2c⟩:=cx
   have EX:=((Za HE).later hbw).later b1
   have I1:Hid (∀ w',Below X.heap.size X w'→Calls Tryz.prog 107 #[.int .i64 x1] w' fun e w2=>e = .returned (.string (Xj x1))∧Below w'.heap.size w' w2):=fun w' hw'=>Gb x1 (by omega) w' (EX.later hw').envp.env
   have I2:Hid (∀ w',Below X.heap.size X w'→Calls Tryz.prog 107 #[.int .i64 x2] w' fun e w2=>e = .returned (.string (Xj x2))∧Below w'.heap.size w' w2):=fun w' hw'=>Gb x2 (by omega) w' (EX.later hw').envp.env
   have OT:Hid (∀ w',Below X.heap.size X w'→Calls Tryz.prog 108 #[.slice ka kn kc] w' fun e w2=>e = .returned (.string (Z9 key))∧Below w'.heap.size w' w2):=fun w' hw'=>Sv ka kn kc key w' (EX.later hw') ((g4.later b1).later hw') hok.2
   have z1:=Vb x1 (by omega)
   have z2:=Vb x2 (by omega)
   have z3:=Vi key hok.2
   obtain⟨A,hA⟩:∃ A,Xj x1=A:=⟨_,rfl⟩
   obtain⟨B,hB⟩:∃ B,Xj x2=B:=⟨_,rfl⟩
   obtain⟨C,hC⟩:∃ C,Z9 key=C:=⟨_,rfl⟩
   rw[hA] at I1 z1 hS
   rw[hB] at I2 z2 hS
   rw[hC] at OT z3 hS
   have y1:¬9223372036854775807<3+A.size:=by omega
   have y2:¬9223372036854775807<3+A.size+1:=by omega
   have y3:¬9223372036854775807<3+A.size+1+B.size:=by omega
   have y4:¬9223372036854775807<3+A.size+1+B.size+1:=by omega
   have y5:¬9223372036854775807<3+A.size+1+B.size+1+C.size:=by omega
   have y6:¬9223372036854775807<3+A.size+1+B.size+1+C.size+1:=by omega
   have y7:¬9223372036854775807<T.size+(3+A.size+1+B.size+1+C.size+1):=by omega
   have HS:=Zb hS
   have HB1':=Zb b1
   clear hbr hbw hcell g4 hok hx hT hS b1 hp hA hB hC EX
   go_wp2_with fail
   rw[←hX]
   clear hX
   go_region_held3 (fun w'=>Below X.heap.size X w'∧w'.cell? ⟨wr.heap.size,0,none⟩=some (.int .i64 x1)∧w'.cell? ⟨wr.heap.size,1,none⟩=some (.int .i64 x2)∧w'.cell? ⟨wr.heap.size,2,none⟩=some (.slice ka kn kc))
    (first
    | exact⟨Jx _,x0c,x1c,x2c⟩
    | (go_split_ands;refine⟨Ze (by assumption) hbc,Zc hbc (by assumption),Zc hbc (by assumption),Zc hbc (by assumption)⟩))
    (first
    | (go_at_call 107;go_split_ands;refine ((Za I1) _ (by assumption)).mono ?_;rintro e w' ⟨rfl,hbc⟩)
    | (go_at_call 107;go_split_ands;refine ((Za I2) _ (by assumption)).mono ?_;rintro e w' ⟨rfl,hbc⟩)
    | (go_at_call 108;go_split_ands;refine ((Za OT) _ (by assumption)).mono ?_;rintro e w' ⟨rfl,hbc⟩))
   rename_i hH
   have HH:=Zb ((Za HBR).trans ((Ze (Za HB1') hH.1).mono (Za HBR).size))
   clear hH
   go_wp2
   go_roundw
   case rel=>exact⟨k+1,by omega,by go_num,by rw[Za HS],Za HH⟩
   case measure=>simp[intOf];omega
  ·have e:k=ni:=by omega
   subst e
   have HT:Hid (Y3 h (I.take k)=Y3 h I):=by show _=_;rw[List.take_of_length_le (by rw[(Za HI).1];exact Nat.le_refl _)]
   have hTs:=V4 h I (Za HG) (Za HII)
   have hil:I.length≤6:=by rw[(Za HI).1];exact hi6
   obtain⟨T1,hT1⟩:∃ T1,Y3 h I=T1:=⟨_,rfl⟩
   rw[hT1] at HT hTs
   have HT1:=Zb hT1
   have m2:=Zc hbr (Za M2)
   have s4:w.heap.size<wr.heap.size:=World.block_lt_of_cell? _ _ m2
   rw[Za HT]
   clear hbr hT1 hk hlt
   go_wp2
   go_loopw [3,43] (fun s i wz=>∃ j:Nat,j≤no∧i = .int .i64 j∧s = .string (Xi T1 (O.take j))∧Below wr.heap.size wr wz) (fun _ i _=>no - (intOf i).toNat)
   case atStart=>exact⟨0,Nat.zero_le _,rfl,rfl,Below.refl _ _⟩
   case round=>
    obtain⟨j,hj,rfl,rfl,hbz⟩:=hrel
    have HBZ:=Zb hbz
    have hbv:=Ze (Za HBW) hbz
    have HBV:=Zb hbv
    by_cases hlt:j<no
    ·have hlk:j<O.length:=by rw[(Za HO).1];exact hlt
     obtain⟨b,off,rfl,hbl,hcell⟩:=((Za HO).later hbv).2 (by omega)
     obtain⟨g1,ka,kn,kc,g3,g4,_⟩:=hcell j hlk
     have hok:=(Za HOO) O[j] (List.getElem_mem hlk)
     have hS:=J3 T1 (O.take j) O[j]
     rw[←List.take_succ_eq_append_getElem hlk] at hS
     have hTs2:(Xi T1 (O.take j)).size≤6000:=by
      have:=J4 T1 (O.take j) (fun x hx=>(Za HOO) x (List.mem_of_mem_take hx))
      rw[List.length_take] at this
      omega
     obtain⟨x,hx⟩:∃ x,O[j]=x:=⟨_,rfl⟩
     rw[hx] at g1 g4 hok hS
     obtain⟨x1,key⟩:=x
     simp only at g1 g3 g4
     have hp:=hok.1
     simp only at hp
     obtain⟨T,hT⟩:∃ T,Xi T1 (O.take j)=T:=⟨_,rfl⟩
     rw[hT,Zfh] at hS
     rw[hT] at hTs2 ⊢
     obtain⟨X,hX⟩:∃ X,X=wr.alloc (.cells #[.int .i64 x1,.slice ka kn kc] 101):=⟨_,rfl⟩
     have b1:Below wr.heap.size wr X:=by rw[hX];exact Zf _ _
     have cx:=V6 wr (.int .i64 x1) (.slice ka kn kc) 101
     rw[←hX] at cx
     obtain⟨x0c,x1c⟩:=cx
     have EX:=((Za HE).later hbv).later b1
     have I1:Hid (∀ w',Below X.heap.size X w'→Calls Tryz.prog 107 #[.int .i64 x1] w' fun e w2=>e = .returned (.string (Xj x1))∧Below w'.heap.size w' w2):=fun w' hw'=>Gb x1 (by omega) w' (EX.later hw').envp.env
     have OT:Hid (∀ w',Below X.heap.size X w'→Calls Tryz.prog 108 #[.slice ka kn kc] w' fun e w2=>e = .returned (.string (Z9 key))∧Below w'.heap.size w' w2):=fun w' hw'=>Sv ka kn kc key w' (EX.later hw') ((g4.later b1).later hw') hok.2
     have z1:=Vb x1 (by omega)
     have z3:=Vi key hok.2
     obtain⟨A,hA⟩:∃ A,Xj x1=A:=⟨_,rfl⟩
     obtain⟨C,hC⟩:∃ C,Z9 key=C:=⟨_,rfl⟩
     rw[hA] at I1 z1 hS
     rw[hC] at OT z3 hS
     have y1:¬9223372036854775807<4+A.size:=by omega
     have y2:¬9223372036854775807<4+A.size+1:=by omega
     have y3:¬9223372036854775807<4+A.size+1+C.size:=by omega
     have y4:¬9223372036854775807<4+A.size+1+C.size+1:=by omega
     have y5:¬9223372036854775807<T.size+(4+A.size+1+C.size+1):=by omega
     have HS:=Zb hS
     have HB1':=Zb b1
     clear hbz hbv hcell g4 hok hx hT hS b1 hp hA hC EX
     go_wp2_with fail
     rw[←hX]
     clear hX
     go_region_held3 (fun w'=>Below X.heap.size X w'∧w'.cell? ⟨wr.heap.size,0,none⟩=some (.int .i64 x1)∧w'.cell? ⟨wr.heap.size,1,none⟩=some (.slice ka kn kc))
      (first
      | exact⟨Jx _,x0c,x1c⟩
      | (go_split_ands;refine⟨Ze (by assumption) hbc,Zc hbc (by assumption),Zc hbc (by assumption)⟩))
      (first
      | (go_at_call 107;go_split_ands;refine ((Za I1) _ (by assumption)).mono ?_;rintro e w' ⟨rfl,hbc⟩)
      | (go_at_call 108;go_split_ands;refine ((Za OT) _ (by assumption)).mono ?_;rintro e w' ⟨rfl,hbc⟩))
     rename_i hH
     have HH:=Zb ((Za HBZ).trans ((Ze (Za HB1') hH.1).mono (Za HBZ).size))
     clear hH
     go_wp2
     go_roundw
     case rel=>exact⟨j+1,by omega,by go_num,by rw[Za HS],Za HH⟩
     case measure=>simp[intOf];omega
    ·have HF:Hid (Xi T1 (O.take j)=U7 (h,I,O)):=by
      show _=_
      rw[List.take_of_length_le (by rw[(Za HO).1];omega),←Za HT1];rfl
     clear hbz hbv
     go_wp2
     go_ret
     exact⟨by rw[←Za HF];rfl,Za HBV⟩
theorem Ql(n:Int)(w:World)(h1:0≤n)(h2:n≤1000000000) :
  Calls Tryz.prog 78 #[.int .i64 n] w fun e w'=>e = .returned (.bool true)∧w=w':=by
 go_enter Tryz.func78,Tryz.ntmps78
 go_wp2
 go_ret
 exact⟨rfl,rfl⟩
theorem S8(n:Int)(w:World)(h:n<0∨1000000000<n) :
  Calls Tryz.prog 78 #[.int .i64 n] w fun e w'=>e = .returned (.bool false)∧w=w':=by
 by_cases h1:n<0
 ·go_enter Tryz.func78,Tryz.ntmps78
  go_wp2
  go_ret
  exact⟨rfl,rfl⟩
 ·have h2:1000000000<n:=by omega
  have h3:0≤n:=by omega
  have h4:decide (n≤1000000000)=false:=by simp;omega
  clear h
  go_enter Tryz.func78,Tryz.ntmps78
  go_wp2
  go_ret
  exact⟨rfl,rfl⟩
theorem K9(a:Option Addr)(len cap:Nat)(Z:List Int)(w:World)(h:RowAt w a len Z) :
  Calls Tryz.prog 105 #[.slice a len cap] w fun e w'=>e = .returned (.tuple #[.int .i64 (sm 0 Z).1,.int .i64 (sm 0 Z).2])∧w=w':=by
 obtain⟨hz,hm,hc⟩:=h
 unfold maxLen at hm
 rcases Nat.eq_zero_or_pos len with h0|h0
 ·subst h0
  have HZ:Hid (Z=[]):=List.eq_nil_of_length_eq_zero hz
  clear hz hc hm
  go_enter Tryz.func105,Tryz.ntmps105
  go_wp2
  refine wp_loop_rounds 1 ?_
  rw[rounds_succ]
  go_wp2
  go_ret2
  rw[HZ.out]
  exact⟨rfl,rfl⟩
 ·obtain⟨b,off,rfl,hcell⟩:=hc h0
  have HC:Hid (∀ i,i<len→w.cell? ⟨b,off+i,none⟩=some (.int .i64 (Z.getD i 0))):=hcell
  clear hc hcell
  go_enter Tryz.func105,Tryz.ntmps105
  go_wp2
  go_loop [4,9] (fun s i=>∃ (k:Nat) (x:Int),k≤len∧i = .int .i64 k∧s = .int .i64 x∧0≤x∧x≤1000000000∧Hid (sm 0 Z=sm x (Z.drop k))) (fun _ i=>len - (intOf i).toNat)
  case atStart=>exact⟨0,0,Nat.zero_le _,rfl,rfl,by decide,by decide,by exact rfl⟩
  case round=>
   obtain⟨k,x,hk,rfl,rfl,hx0,hx1,HS⟩:=hrel
   by_cases hlt:k<len
   ·have hck:=HC.out k hlt
    generalize hv:Z.getD k 0=v at hck
    have HV:Hid (Z.getD k 0=v):=hv
    clear hv
    by_cases hr:v<0∨1000000000<v
    ·go_wp2_with (go_at_call 78;refine (S8 _ _ hr).mono ?_;rintro e w' ⟨rfl,rfl⟩)
     go_ret2
     rw[HS.out,Nl x Z k (by omega) (by rw[HV.out];exact hr)]
     exact⟨rfl,rfl⟩
    ·have hr1:0≤v:=by omega
     have hr2:v≤1000000000:=by omega
     clear hr
     by_cases hf:1000000000<x+v
     ·go_wp2_with (go_at_call 78;refine (Ql _ _ hr1 hr2).mono ?_;rintro e w' ⟨rfl,rfl⟩)
      go_ret2
      rw[HS.out,Bv x Z k (by omega) (by rw[HV.out];exact hr1) (by rw[HV.out];exact hr2) (by rw[HV.out];exact hf)]
      exact⟨rfl,rfl⟩
     ·have hf2:x+v≤1000000000:=by omega
      have hf1:0≤x+v:=by omega
      clear hf
      go_wp2_with (go_at_call 78;refine (Ql _ _ hr1 hr2).mono ?_;rintro e w' ⟨rfl,rfl⟩)
      go_round
      case rel=>
       refine⟨k+1,x+v,by omega,by go_num,rfl,by omega,by omega,?_⟩
       show sm 0 Z=_
       rw[HS.out,Bu x Z k (by omega) (by rw[HV.out];exact hr1) (by rw[HV.out];exact hr2) (by rw[HV.out];exact hf2),HV.out]
      case measure=>simp[intOf];omega
   ·go_wp2
    go_ret2
    rw[HS.out,Zbu x Z k (by omega)]
    exact⟨rfl,rfl⟩
def Xr(q:Int×Int):List (Int×Int)→Nat→Int
 | [],_=>-1
 | y :: r,k=>if q=y then k else Xr q r (k+1)
theorem Li(q:Int×Int):∀ (l:List (Int×Int)) (k:Nat),decide (0≤Xr q l k)=decide (q∈l)
 | [],_=>by simp[Xr]
 | y :: r,k=>by
  unfold Xr
  by_cases h:q=y
  ·rw[if_pos h];simp[h]
  ·rw[if_neg h,Li q r (k+1)];simp[h]
theorem Di(q:Int×Int)(l:List (Int×Int))(k:Nat)(h:k<l.length):Xr q (l.drop k) k=if q=l[k] then (k:Int) else Xr q (l.drop (k+1)) (k+1):=by
 rw[List.drop_eq_getElem_cons h];rfl
theorem Mk(b off n c:Nat)(l:List (Int×Int))(q1 q2:Int)(w:World)(hn:n≤6)(hz:l.length=n)
  (hc:∀ i,i<n→w.cell? ⟨b,off+i*2,none⟩=some (.int .i64 (l.getD i (0,0)).1)∧w.cell? ⟨b,off+i*2+1,none⟩=some (.int .i64 (l.getD i (0,0)).2)) :
  Calls Tryz.prog 145 #[.slice (some ⟨b,off,none⟩) n c,.agg #[.int .i64 q1,.int .i64 q2]] w fun e w'=>e = .returned (.int .i64 (Xr (q1,q2) l 0))∧Below w.heap.size w w':=by
 obtain⟨X,hX⟩:∃ X,X=w.alloc (.cells #[.int .i64 q1,.int .i64 q2] 99):=⟨_,rfl⟩
 have hbX:Below w.heap.size w X:=by rw[hX];exact Zf _ _
 have cx:=V6 w (.int .i64 q1) (.int .i64 q2) 99
 rw[←hX] at cx
 obtain⟨x0,x1⟩:=cx
 have HC:Hid (∀ i,i<n→X.cell? ⟨b,off+i*2,none⟩=some (.int .i64 (l.getD i (0,0)).1)∧X.cell? ⟨b,off+i*2+1,none⟩=some (.int .i64 (l.getD i (0,0)).2)):=fun i hi=>⟨Zc hbX (hc i hi).1,Zc hbX (hc i hi).2⟩
 have HZ:=Zb hz
 have HBX:=Zb hbX
 clear hc hz hbX
 go_enter Tryz.func145,Tryz.ntmps145
 go_wp2
 rw[←hX]
 clear hX
 go_loopw [8] (fun i wr=>∃ k m:Nat,k≤n∧i = .int .i64 k∧wr=X.drewN m∧Hid (Xr (q1,q2) l 0=Xr (q1,q2) (l.drop k) k)) (fun i _=>n - (intOf i).toNat)
 case atStart=>exact⟨0,0,Nat.zero_le _,rfl,rfl,rfl⟩
 case round=>
  obtain⟨k,m,hk,rfl,rfl,A⟩:=hrel
  by_cases hlt:k<n
  ·have hlk:k<l.length:=by rw[Za HZ];exact hlt
   obtain⟨g1,g2⟩:=(Za HC) k hlt
   have S:=Zb (Di (q1,q2) l k hlk)
   have e1:l.getD k (0,0)=l[k]:=by simp[hlk]
   rw[e1] at g1 g2
   obtain⟨r,hr⟩:∃ r,l[k]=r:=⟨_,rfl⟩
   rw[hr] at g1 g2 S
   obtain⟨r1,r2⟩:=r
   simp only at g1 g2
   clear hr e1
   by_cases he:q1=r1
   ·subst he
    by_cases hf:q2=r2
    ·subst hf
     have R:Hid (Xr (q1,q2) l 0=k):=by show _=_;rw[Za A,Za S,if_pos rfl]
     clear S A
     go_wp2
     go_quiet (fail)
     go_wp2
     go_ret
     exact⟨by rw[Za R];rfl,Ze (Za HBX) (by simp only[World.drewN_drewN];exact U5 _ _)⟩
    ·have R:Hid (Xr (q1,q2) l 0=Xr (q1,q2) (l.drop (k+1)) (k+1)):=by show _=_;rw[Za A,Za S,if_neg (fun e=>hf (by injection e))]
     clear S A
     go_wp2
     go_quiet (fail)
     go_wp2
     go_roundw
     case rel=>exact⟨k+1,m+nq,by omega,by go_num,rfl,R⟩
     case measure=>simp[intOf];omega
   ·have R:Hid (Xr (q1,q2) l 0=Xr (q1,q2) (l.drop (k+1)) (k+1)):=by show _=_;rw[Za A,Za S,if_neg (fun e=>he (by injection e))]
    clear S A
    go_wp2
    go_quiet (fail)
    go_wp2
    go_roundw
    case rel=>exact⟨k+1,m+nq,by omega,by go_num,rfl,R⟩
    case measure=>simp[intOf];omega
  ·have R:Hid (Xr (q1,q2) l 0 = -1):=by
    show _=_
    rw[Za A,List.drop_of_length_le (by rw[Za HZ];omega)];rfl
   clear A
   go_wp2
   go_ret
   exact⟨by rw[Za R];rfl,Ze (Za HBX) (U5 _ _)⟩
theorem Ml(a:Option Addr)(c:Nat)(q1 q2:Int)(w:World) :
  Calls Tryz.prog 145 #[.slice a 0 c,.agg #[.int .i64 q1,.int .i64 q2]] w fun e w'=>e = .returned (.int .i64 (-1))∧Below w.heap.size w w':=by
 have HB:=Zb (Zf w (.cells #[.int .i64 q1,.int .i64 q2] 99))
 go_enter Tryz.func145,Tryz.ntmps145
 go_wp2
 refine wp_loop_rounds 1 ?_
 rw[rounds_succ]
 go_wp2
 go_ret
 exact⟨rfl,Za HB⟩
theorem Km(a:Option Addr)(n c:Nat)(l:List (Int×Int))(q1 q2:Int)(o:Bool)(w:World)(hn:n≤6)(h:OpsAt w a n l)(ho:decide ((q1,q2)∈l)=o) :
  Calls Tryz.prog 104 #[.slice a n c,.agg #[.int .i64 q1,.int .i64 q2]] w fun e w'=>e = .returned (.bool o)∧Below w.heap.size w w':=by
 have hb:=Zf w (.cells #[.int .i64 q1,.int .i64 q2] 99)
 have C:Calls Tryz.prog 145 #[.slice a n c,.agg #[.int .i64 q1,.int .i64 q2]] (w.alloc (.cells #[.int .i64 q1,.int .i64 q2] 99)) fun e w'=>e = .returned (.int .i64 (Xr (q1,q2) l 0))∧Below (w.alloc (.cells #[.int .i64 q1,.int .i64 q2] 99)).heap.size (w.alloc (.cells #[.int .i64 q1,.int .i64 q2] 99)) w':=by
  by_cases h0:n=0
  ·subst h0
   have e:l=[]:=List.length_eq_zero_iff.1 h.1
   subst e
   exact Ml a c q1 q2 _
  ·obtain⟨b,off,rfl,hc⟩:=(h.later hb).2 (by omega)
   exact Mk b off n c l q1 q2 _ hn h.1 hc
 have E:Hid (decide (0≤Xr (q1,q2) l 0)=o):=by show _=_;rw[Li,ho]
 obtain⟨z,hz⟩:∃ z,Xr (q1,q2) l 0=z:=⟨_,rfl⟩
 rw[hz] at C E
 have CC:=Zb C
 have HB:=Zb hb
 clear C hz h ho hb
 cases o with
 | true=>
  have h0:0≤z:=of_decide_eq_true (Za E)
  go_enter Tryz.func104,Tryz.ntmps104
  go_wp2_with fail
  refine (Za CC).mono ?_
  rintro e w' ⟨rfl,hb2⟩
  have HB2:=Zb (Ze (Za HB) hb2)
  clear hb2
  go_wp2
  go_ret
  exact⟨rfl,Za HB2⟩
 | false=>
  have h2:decide (0≤z)=false:=Za E
  have h1:z<0:=by have:=of_decide_eq_false h2;omega
  go_enter Tryz.func104,Tryz.ntmps104
  go_wp2_with fail
  refine (Za CC).mono ?_
  rintro e w' ⟨rfl,hb2⟩
  have HB2:=Zb (Ze (Za HB) hb2)
  clear hb2
  go_wp2
  go_ret
  exact⟨rfl,Za HB2⟩
theorem Zfj(w:World)(a:Option Addr):OpsAt w a 0 []:=⟨rfl,fun h=>absurd h (by omega)⟩
def flat:List (Int×Int)→List Value
 | []=>[]
 | o :: r=>.int .i64 o.1 :: .int .i64 o.2 :: flat r
theorem Wh:∀ l:List (Int×Int),(flat l).length=l.length*2
 | []=>rfl
 | _ :: r=>by simp only[flat,List.length_cons,Wh r];omega
theorem Pf:∀ l m:List (Int×Int),flat (l++m)=flat l++flat m
 | [],_=>rfl
 | _ :: r,m=>by simp only[List.cons_append,flat,Pf r m]
theorem Qp:∀ (l:List (Int×Int)) (i:Nat),i<l.length→(flat l)[i*2]? = some (.int .i64 (l.getD i (0,0)).1)∧(flat l)[i*2+1]? = some (.int .i64 (l.getD i (0,0)).2)
 | [],i,h=>absurd h (by simp)
 | o :: r,0,_=>⟨rfl,rfl⟩
 | o :: r,i+1,h=>by
  have:=Qp r i (by simpa using h)
  have e:(i+1)*2=i*2+2:=by omega
  rw[e]
  exact this
theorem flat_one:∀ (l:List (Int×Int)) (u:Value),u∈flat l→u.oneCell'=true
 | [],_,h=>by cases h
 | o :: r,u,h=>by
  simp only[flat,List.mem_cons] at h
  rcases h with rfl|rfl|h
  ·rfl
  ·rfl
  ·exact flat_one r u h
theorem OpsAt.flat{w:World}{x:Addr}{len:Nat}{l:List (Int×Int)}(h:OpsAt w (some x) len l)(j:Nat)(u:Value)(hj:(flat l)[j]? = some u):w.cell? (x.add j)=some u:=by
 have hjl:j<(YtpikejjiignchaaGreatDoor.flat l).length:=by
  rcases Nat.lt_or_ge j (YtpikejjiignchaaGreatDoor.flat l).length with h|h
  ·exact h
  ·rw[List.getElem?_eq_none h] at hj;cases hj
 rw[Wh] at hjl
 have hz:=h.1
 obtain⟨b,off,hx,hc⟩:=h.2 (by omega)
 cases hx
 have hadd:(⟨b,off,none⟩:Addr).add j=⟨b,off+j,none⟩:=by unfold Addr.add;split <;> simp_all
 rw[hadd]
 obtain⟨i,hi|hi⟩:∃ i,j=i*2∨j=i*2+1:=⟨j / 2,by omega⟩
 ·subst hi
  have f:=(Qp l i (by omega)).1
  rw[f] at hj
  rw[(hc i (by omega)).1];exact hj
 ·subst hi
  have f:=(Qp l i (by omega)).2
  rw[f] at hj
  rw[←Nat.add_assoc,(hc i (by omega)).2];exact hj
theorem G3{w:World}{base:Nat}{e:TypeId}{v:Value}{n:Nat}{l:List (Int×Int)}(h:w.ownsRow base e 2 v n (flat l)):∃ a cap,v = .slice a n cap∧OpsAt w a n l:=by
 have hl:l.length=n:=by have:=h.1;rw[Wh] at this;omega
 rcases h.2 with ⟨rfl,rfl⟩|⟨g,cap,cur,rfl,_,_,_,_,_,_⟩
 ·have e:l=[]:=List.length_eq_zero_iff.1 hl
  subst e
  exact⟨none,0,rfl,Zfj _ _⟩
 ·refine⟨_,cap,rfl,hl,fun _=>⟨g,0,rfl,fun i hi=>?_⟩⟩
  have f:=Qp l i (by omega)
  rw[Nat.zero_add,World.ownsRow.cellAt h (i*2) (by omega),World.ownsRow.cellAt h (i*2+1) (by omega)]
  exact f
theorem Uv{w:World}{base:Nat}{e:TypeId}{size:Nat}{v:Value}{n:Nat}{xs:List Value}(h:w.ownsRow base e size v n xs)(k:Nat)(hk:v.ownBlock=some k):base≤k:=by
 rcases h.2 with ⟨rfl,_⟩|⟨g,cap,cur,rfl,hg,_⟩
 ·cases hk
 ·cases hk;exact hg
end Go.Proofs.YtpikejjiignchaaGreatDoor
