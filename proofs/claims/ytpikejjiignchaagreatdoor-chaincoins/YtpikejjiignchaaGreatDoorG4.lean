import Derived.Test.YtpikejjiignchaaGreatDoorG3
set_option maxHeartbeats 6400000
set_option maxRecDepth 10000
namespace Go.Proofs.YtpikejjiignchaaGreatDoor
open Go.RowKit
def Ww(word:ByteArray)(Z:List Int):ByteArray:=Z.foldl (fun t z=>t++(⟨#[32]⟩++Xn z)) word
theorem Ng(word:ByteArray)(Z:List Int)(z:Int):Ww word (Z++[z])=Ww word Z++(⟨#[32]⟩++Xn z):=by unfold Ww;rw[List.foldl_append];rfl
theorem Wu(n:Int)(h : -10000000000≤n∧n≤10000000000):(Xn n).size≤21:=by
 have:=Lib.itoa_length_le n (by omega) (by omega)
 simpa[Xn,ByteArray.size] using this
theorem Kw(x:ByteArray)(c:UInt8):((⟨#[c]⟩:ByteArray)++x).size=x.size+1:=by rw[ByteArray.size_append];show 1+x.size=_;omega
theorem Ur(x:ByteArray)(c:UInt8):(x++(⟨#[c]⟩:ByteArray)).size=x.size+1:=by rw[ByteArray.size_append];rfl
theorem Ji{α : Type}(f : α→ByteArray)(m:Nat):∀ (Z:List α) (t:ByteArray),(∀ z∈Z,(f z).size≤m)→(Z.foldl (fun t z=>t++f z) t).size≤t.size+m*Z.length
 | [],t,_=>by simp
 | z :: r,t,h=>by
  have h1:=Ji f m r (t++f z) (fun y hy=>h y (by simp[hy]))
  have h2:=h z (by simp)
  rw[ByteArray.size_append] at h1
  simp only[List.foldl_cons,List.length_cons,Nat.mul_add,Nat.mul_one]
  omega
theorem Vr(word:ByteArray)(Z:List Int)(h:∀ z∈Z,-10000000000≤z∧z≤10000000000):(Ww word Z).size≤word.size+22*Z.length:=
 Ji (fun z=>(⟨#[32]⟩:ByteArray)++Xn z) 22 Z word (fun z hz=>by rw[Kw];have:=Wu z (h z hz);omega)
theorem Qe(word:ByteArray)(b off n c:Nat)(Z:List Int)(w:World)(hE:Env w)(hw:word.size≤10)(hn:n≤6)(hz:Z.length=n)(hl:b<w.heap.size)
  (hc:∀ i,i<n→w.cell? ⟨b,off+i,none⟩=some (.int .i64 (Z.getD i 0))) (hr:∀ z∈Z,-10000000000≤z∧z≤10000000000) :
  Calls Tryz.prog 126 #[.string word,.slice (some ⟨b,off,none⟩) n c] w fun e w'=>e = .returned (.string (Ww word Z))∧Below w.heap.size w w':=by
 have HE:=Zb hE
 have HC:=Zb hc
 have HZ:=Zb hz
 have HR:=Zb hr
 clear hE hc hz hr
 go_enter Tryz.func126,Tryz.ntmps126
 go_wp2
 go_loopw [5,11] (fun s i wr=>∃ k:Nat,k≤n∧i = .int .i64 k∧s = .string (Ww word (Z.take k))∧Below w.heap.size w wr) (fun _ i _=>n - (intOf i).toNat)
 case atStart=>exact⟨0,Nat.zero_le _,rfl,rfl,Below.refl _ _⟩
 case round=>
  obtain⟨k,hk,rfl,rfl,hb⟩:=hrel
  have HB:=Zb hb
  by_cases hlt:k<n
  ·have hlk:k<Z.length:=by rw[Za HZ];exact hlt
   have c1:=(Za HC) k hlt
   rw[←hb.cell (p:=⟨b,off+k,none⟩) hl] at c1
   have e1:Z.getD k 0=Z[k]:=by simp[hlk]
   rw[e1] at c1
   have hzr:=(Za HR) Z[k] (List.getElem_mem hlk)
   have hS:=Ng word (Z.take k) Z[k]
   rw[←List.take_succ_eq_append_getElem hlk] at hS
   have hTs:(Ww word (Z.take k)).size≤200:=by
    have:=Vr word (Z.take k) (fun z hz=>(Za HR) z (List.mem_of_mem_take hz))
    rw[List.length_take] at this
    omega
   obtain⟨z,hz⟩:∃ z,Z[k]=z:=⟨_,rfl⟩
   rw[hz] at c1 hzr hS
   obtain⟨T,hT⟩:∃ T,Ww word (Z.take k)=T:=⟨_,rfl⟩
   rw[hT] at hS hTs ⊢
   have HS:=Zb hS
   have hXs:=Wu z hzr
   have hXs1:((⟨#[32]⟩:ByteArray)++Xn z).size≤22:=by rw[Kw];omega
   have IT:Hid (∀ w,Env w→Calls Tryz.prog 107 #[.int .i64 z] w fun e w'=>e = .returned (.string (Xn z))∧Below w.heap.size w w'):=fun w hw=>
    (Tryz.strconv_Itoa z (by omega) (by omega) w hw.tab).mono fun e w' ⟨h1,k,os,h2⟩=>⟨h1,by rw[h2];exact Lib.below_grow _ _ (Nat.le_refl _) k os⟩
   have EE:=Zb ((Za HE).later hb)
   clear hb hz hT hS e1 hzr
   go_wp2_with fail
   refine ((Za IT) _ (Za EE)).mono ?_
   rintro e w3 ⟨rfl,hb3⟩
   have HB3:=Zb (Ze (Za HB) hb3)
   clear hb3
   go_wp2
   go_roundw
   case rel=>exact⟨k+1,by omega,by go_num,by rw[Za HS],Za HB3⟩
   case measure=>simp[intOf];omega
  ·have e:k=n:=by omega
   subst e
   have HT:Hid (Ww word (Z.take k)=Ww word Z):=by show _=_;rw[List.take_of_length_le (by rw[Za HZ];exact Nat.le_refl _)]
   clear hb
   go_wp2
   go_ret
   exact⟨Hk (Za HT),Za HB⟩
def Gl(word:ByteArray)(Z:List Int)(l:List (Int×Int)):ByteArray:=((Ww word Z++⟨#[58]⟩)++Ya l)++⟨#[10]⟩
theorem Vx(l:List (Int×Int))(h:chk l=0):(Ya l).size≤400:=by
 unfold chk at h
 split at h
 ·cases h
 ·have:=J3 l (by omega) h
  simpa[Ya,ByteArray.size] using this
theorem Lb(word:ByteArray)(Z:List Int)(l:List (Int×Int))(hw:word.size≤10)(hz:Z.length≤2)(hr:∀ z∈Z,-10000000000≤z∧z≤10000000000)(hl:chk l=0):(Gl word Z l).size≤460:=by
 unfold Gl
 have h1:=Vr word Z hr
 have h2:=Vx l hl
 rw[Ur,ByteArray.size_append,Ur]
 have h3:22*Z.length≤44:=by omega
 omega
theorem Sc(a:Option Addr)(len cap:Nat)(l:List (Int×Int))(word:ByteArray)(b off n c:Nat)(Z:List Int)(t:ByteArray)(w:World)(hE:Env w)(hO:OpsAt w a len l)(hck:chk l=0)(hw:word.size≤10)(hn:n≤2)(hz:Z.length=n)(hl:b<w.heap.size)
  (hc:∀ i,i<n→w.cell? ⟨b,off+i,none⟩=some (.int .i64 (Z.getD i 0))) (hr:∀ z∈Z,-10000000000≤z∧z≤10000000000) (ht:Gl word Z l=t) :
  Calls Tryz.prog 138 #[.slice a len cap,.string word,.slice (some ⟨b,off,none⟩) n c] w fun e w'=>e = .returned (.string t)∧Below w.heap.size w w':=by
 have PR:=Zb (Zdm a len cap l w hE hO)
 have e:prT l=Ya l:=by unfold prT;rw[if_pos hck]
 rw[e,hck] at PR
 have R:Hid (∀ w',Below w.heap.size w w'→Calls Tryz.prog 126 #[.string word,.slice (some ⟨b,off,none⟩) n c] w' fun e w2=>e = .returned (.string (Ww word Z))∧Below w'.heap.size w' w2):=fun w' hb=>
  Qe word b off n c Z w' (hE.later hb) hw (by omega) hz (Nat.lt_of_lt_of_le hl hb.size) (fun i hi=>by rw[hb.cell (p:=⟨b,off+i,none⟩) hl];exact hc i hi) hr
 have s1:(Ww word Z).size≤54:=by have:=Vr word Z hr;omega
 have s2:=Vx l hck
 unfold Gl at ht
 obtain⟨A,hA⟩:∃ A,Ww word Z=A:=⟨_,rfl⟩
 obtain⟨B,hB⟩:∃ B,Ya l=B:=⟨_,rfl⟩
 rw[hA] at R s1 ht
 rw[hB] at PR s2 ht
 have s3:(A++(⟨#[58]⟩:ByteArray)).size≤55:=by rw[Ur];omega
 have s4:((A++(⟨#[58]⟩:ByteArray))++B).size≤455:=by rw[ByteArray.size_append];omega
 have HT:=Zb ht
 clear hE hO hck hz hc hr e hA hB ht
 go_enter Tryz.func138,Tryz.ntmps138
 go_wp2_with fail
 refine (Za PR).mono ?_
 rintro e w1 ⟨rfl,hb1⟩
 have HB1:=Zb hb1
 clear hb1
 go_wp2_with fail
 refine ((Za R) w1 (Za HB1)).mono ?_
 rintro e w2 ⟨rfl,hb2⟩
 have HB2:=Zb (Ze (Za HB1) hb2)
 clear hb2
 go_wp2
 go_ret
 exact⟨Hk (Za HT),Za HB2⟩
def txB:ByteArray:=⟨#[116,120]⟩
def inB:ByteArray:=⟨#[105,110]⟩
def Zjj:ByteArray:=⟨#[111,117,116]⟩
def Vj(h:Int):ByteArray:=Ww txB [h]++⟨#[10]⟩
def Tj(x:InD):ByteArray:=Gl inB [x.1,x.2.1] x.2.2
def Jb(x:Yc):ByteArray:=Gl Zjj [x.1] x.2
def Y3(h:Int)(I:List InD):ByteArray:=I.foldl (fun t x=>t++Tj x) (Vj h)
def Xw(t:ByteArray)(O:List Yc):ByteArray:=O.foldl (fun t x=>t++Jb x) t
def Zz(t:TxD):ByteArray:=Xw (Y3 t.1 t.2.1) t.2.2
theorem Sn(h:Int)(I:List InD)(x:InD):Y3 h (I++[x])=Y3 h I++Tj x:=by unfold Y3;rw[List.foldl_append];rfl
theorem Rv(t:ByteArray)(O:List Yc)(x:Yc):Xw t (O++[x])=Xw t O++Jb x:=by unfold Xw;rw[List.foldl_append];rfl
theorem Rx(h:Int)(hh:0≤h∧h≤1000):(Vj h).size≤30:=by
 unfold Vj
 have:=Vr txB [h] (fun z hz=>by simp at hz;omega)
 rw[Ur]
 have e:txB.size=2:=rfl
 simp only[List.length_cons,List.length_nil] at this
 omega
theorem Gp(x:InD)(h:Pj x=true∧chk x.2.2=0):(Tj x).size≤460:=by
 have hp:=(J1 x).1 h.1
 exact Lb inB [x.1,x.2.1] x.2.2 (by decide) (by simp) (fun z hz=>by simp at hz;omega) h.2
theorem Sf(x:Yc)(h:(1≤x.1∧x.1≤1000000000)∧chk x.2=0):(Jb x).size≤460:=
 Lb Zjj [x.1] x.2 (by decide) (by simp) (fun z hz=>by simp at hz;omega) h.2
theorem Vi(h:Int)(I:List InD)(hh:0≤h∧h≤1000)(hI:∀ x∈I,Pj x=true∧chk x.2.2=0):(Y3 h I).size≤30+460*I.length:=by
 have h1:=Ji Tj 460 I (Vj h) (fun x hx=>Gp x (hI x hx))
 have h2:=Rx h hh
 have h3:(Y3 h I).size≤(Vj h).size+460*I.length:=h1
 omega
theorem Qf(t:ByteArray)(O:List Yc)(hO:∀ x∈O,(1≤x.1∧x.1≤1000000000)∧chk x.2=0):(Xw t O).size≤t.size+460*O.length:=
 Ji Jb 460 O t (fun x hx=>Sf x (hO x hx))
theorem Rk(w:World)(x:Value)(t:TypeId):(w.alloc (.cells #[x] t)).cell? ⟨w.heap.size,0,none⟩=some x:=by rw[World.cell?_alloc_at _ _ _ _ rfl];rfl
def txT(t:TxD):ByteArray:=if Zo t=0 then Zz t else ⟨#[]⟩
theorem Dp(h:Int)(ai ao:Option Addr)(ni ci no co:Nat)(I:List InD)(O:List Yc)(w:World)(hE:Env w)(hI:InsAt w ai ni I)(hO:OutsAt w ao no O)(sI:SlOk ai ni ci)(hx:Zo (h,I,O)=0) :
  Calls Tryz.prog 96 #[.agg #[.int .i64 h,.slice ai ni ci,.slice ao no co]] w fun e w'=>e = .returned (.tuple #[.string (Zz (h,I,O)),.int .i64 0])∧Below w.heap.size w w':=by
 have ok:=TxOk.of hx
 have hb:=Zg w (.cells #[.int .i64 h,.slice ai ni ci,.slice ao no co] 52)
 obtain⟨n0,n1,n2⟩:=Wy w (.int .i64 h) (.slice ai ni ci) (.slice ao no co) 52
 have HB:=Zb hb
 have C:=Zb (Ju h ai ao ni ci no co I O _ (hI.later hb) (hO.later hb) sI)
 rw[hx] at C
 have N0:=Zb n0
 have N1:=Zb n1
 have N2:=Zb n2
 have hi6:ni≤6:=by have:=ok.ins6;have:=hI.1;simp only at *;omega
 have ho6:no≤6:=by have:=ok.outs6;have:=hO.1;simp only at *;omega
 have hpos:0<no:=by have:=ok.some;have:=hO.1;simp only at *;omega
 have HI:=Zb hI
 have HO:=Zb hO
 have HE:=Zb hE
 have HG:=Zb ok.hgt
 have HII:=Zb ok.ins
 have HOO:=Zb ok.outs
 clear hb hI hO sI hx n0 n1 n2 hE ok
 go_enter Tryz.func96,Tryz.ntmps96
 go_wp2_with fail
 refine (Za C).mono ?_
 rintro e w2 ⟨rfl,hb2⟩
 have m0:=Zc hb2 (Za N0)
 have M1:=Zb (Zc hb2 (Za N1))
 have M2:=Zb (Zc hb2 (Za N2))
 have s2:w.heap.size<w2.heap.size:=World.block_lt_of_cell? _ _ m0
 have hbw2:=Ze (Za HB) hb2
 have ba:=Zg w2 (.cells #[.int .i64 h] 3)
 have R:=Zb (Qe txB w2.heap.size 0 1 1 [h] (w2.alloc (.cells #[.int .i64 h] 3)) ((Za HE).later (Ze hbw2 ba)) (by decide) (by decide) rfl (by simp) (fun i hi=>by
  have e:i=0:=by omega
  subst e
  exact Rk w2 (.int .i64 h) 3) (fun z hz=>by have:=Za HG;simp at hz;omega))
 have HBA:=Zb ba
 have HB2:=Zb hb2
 have HBW2:=Zb hbw2
 have hs:=Rx h (Za HG)
 have hs0:(Ww txB [h]).size≤29:=by
  have e:Vj h=Ww txB [h]++⟨#[10]⟩:=rfl
  rw[e,Ur] at hs
  omega
 obtain⟨T0,hT0⟩:∃ T0,Ww txB [h]=T0:=⟨_,rfl⟩
 have HT0:Hid (T0++⟨#[10]⟩=Vj h):=by show _=_;rw[←hT0];rfl
 rw[hT0] at R hs0
 clear hb2 hbw2 ba hs hT0
 go_wp2_with fail
 refine (Za R).mono ?_
 rintro e w3 ⟨rfl,hb3⟩
 have hb3':=Ze (Za HBA) hb3
 have m1:=Zc hb3' (Za M1)
 have M2':=Zb (Zc hb3' (Za M2))
 have s3:w.heap.size<w3.heap.size:=World.block_lt_of_cell? _ _ m1
 have HBW3:=Zb (Ze (Za HBW2) hb3')
 clear hb3 hb3'
 go_wp2
 go_loopw [5,23] (fun s i wr=>∃ k:Nat,k≤ni∧i = .int .i64 k∧s = .string (Y3 h (I.take k))∧Below w3.heap.size w3 wr) (fun _ i _=>ni - (intOf i).toNat)
 case atStart=>exact⟨0,Nat.zero_le _,rfl,by rw[Za HT0];rfl,Below.refl _ _⟩
 case round=>
  obtain⟨k,hk,rfl,rfl,hbr⟩:=hrel
  have HBR:=Zb hbr
  have hbw:=Ze (Za HBW3) hbr
  have HBW:=Zb hbw
  by_cases hlt:k<ni
  ·have hlk:k<I.length:=by rw[(Za HI).1];exact hlt
   obtain⟨b,off,rfl,hbl,hcell⟩:=((Za HI).later hbw).2 (by omega)
   obtain⟨g1,g2,ka,kn,kc,g3,g4,_⟩:=hcell k hlk
   have hok:=(Za HII) I[k] (List.getElem_mem hlk)
   have hS:=Sn h (I.take k) I[k]
   rw[←List.take_succ_eq_append_getElem hlk] at hS
   have hTs:(Y3 h (I.take k)).size≤3000:=by
    have:=Vi h (I.take k) (Za HG) (fun x hx=>(Za HII) x (List.mem_of_mem_take hx))
    rw[List.length_take] at this
    omega
   have hXs:=Gp I[k] hok
   obtain⟨x,hx⟩:∃ x,I[k]=x:=⟨_,rfl⟩
   rw[hx] at g1 g2 g4 hok hS hXs
   obtain⟨x1,x2,key⟩:=x
   simp only at g1 g2 g3 g4
   have hp:=(J1 _).1 hok.1
   simp only at hp
   obtain⟨T,hT⟩:∃ T,Y3 h (I.take k)=T:=⟨_,rfl⟩
   obtain⟨X,hX⟩:∃ X,Tj (x1,x2,key)=X:=⟨_,rfl⟩
   rw[hT,hX] at hS
   rw[hT] at hTs ⊢
   rw[hX] at hXs
   have HS:=Zb hS
   have b1:=Zg wr (.cells #[.int .i64 x1,.int .i64 x2,.slice ka kn kc] 124)
   have b2:=Zg (wr.alloc (.cells #[.int .i64 x1,.int .i64 x2,.slice ka kn kc] 124)) (.cells #[.int .i64 x1,.int .i64 x2] 3)
   have b12:=Ze b1 b2
   have t2:=Uj (wr.alloc (.cells #[.int .i64 x1,.int .i64 x2,.slice ka kn kc] 124)) (.int .i64 x1) (.int .i64 x2) 3
   have esz:(wr.alloc (.cells #[.int .i64 x1,.int .i64 x2,.slice ka kn kc] 124)).heap.size=wr.heap.size+1:=by simp
   rw[esz] at t2
   have PL:=Zb (Sc ka kn kc key inB (wr.heap.size+1) 0 2 2 [x1,x2] X ((wr.alloc (.cells #[.int .i64 x1,.int .i64 x2,.slice ka kn kc] 124)).alloc (.cells #[.int .i64 x1,.int .i64 x2] 3)) (((Za HE).later hbw).later b12) (g4.later b12) hok.2 (by decide) (by decide) rfl (by simp) (fun i hi=>by
    have e:i=0∨i=1:=by omega
    rcases e with rfl|rfl
    ·exact t2.1
    ·exact t2.2) (fun z hz=>by simp at hz;omega) hX)
   have HB12:=Zb b12
   clear hbr hbw hcell g4 hok hx hT hX hS b1 b2 b12 t2 esz hp
   go_wp2_with fail
   refine (Za PL).mono ?_
   rintro e w4 ⟨rfl,hb4⟩
   have HB4:=Zb ((Za HBR).trans ((Ze (Za HB12) hb4).mono (Za HBR).size))
   clear hb4
   go_wp2
   go_roundw
   case rel=>exact⟨k+1,by omega,by go_num,by rw[Za HS],Za HB4⟩
   case measure=>simp[intOf];omega
  ·have e:k=ni:=by omega
   subst e
   have HT:Hid (Y3 h (I.take k)=Y3 h I):=by show _=_;rw[List.take_of_length_le (by rw[(Za HI).1];exact Nat.le_refl _)]
   have hTs:=Vi h I (Za HG) (Za HII)
   have hil:I.length≤6:=by rw[(Za HI).1];exact hi6
   obtain⟨T1,hT1⟩:∃ T1,Y3 h I=T1:=⟨_,rfl⟩
   rw[hT1] at HT hTs
   have HT1:=Zb hT1
   have m2:=Zc hbr (Za M2')
   have s4:w.heap.size<wr.heap.size:=World.block_lt_of_cell? _ _ m2
   rw[Za HT]
   clear hbr hT1 hk hlt
   go_wp2
   go_loopw [5,43] (fun s i wz=>∃ j:Nat,j≤no∧i = .int .i64 j∧s = .string (Xw T1 (O.take j))∧Below wr.heap.size wr wz) (fun _ i _=>no - (intOf i).toNat)
   case atStart=>exact⟨0,Nat.zero_le _,rfl,rfl,Below.refl _ _⟩
   case round=>
    obtain⟨j,hj,rfl,rfl,hbz⟩:=hrel
    have HBZ:=Zb hbz
    have hbv:=Ze (Za HBW) hbz
    have HBV:=Zb hbv
    by_cases hlt:j<no
    ·have hlk:j<O.length:=by rw[(Za HO).1];exact hlt
     obtain⟨b,off,rfl,hbl,hcell⟩:=((Za HO).later hbv).2 (by omega)
     obtain⟨g1,ka,kn,kc,g3,g4,_⟩:=hcell j hlk
     have hok:=(Za HOO) O[j] (List.getElem_mem hlk)
     have hS:=Rv T1 (O.take j) O[j]
     rw[←List.take_succ_eq_append_getElem hlk] at hS
     have hTs2:(Xw T1 (O.take j)).size≤6000:=by
      have:=Qf T1 (O.take j) (fun x hx=>(Za HOO) x (List.mem_of_mem_take hx))
      rw[List.length_take] at this
      omega
     have hXs:=Sf O[j] hok
     obtain⟨x,hx⟩:∃ x,O[j]=x:=⟨_,rfl⟩
     rw[hx] at g1 g4 hok hS hXs
     obtain⟨x1,key⟩:=x
     simp only at g1 g3 g4
     have hp:=hok.1
     simp only at hp
     obtain⟨T,hT⟩:∃ T,Xw T1 (O.take j)=T:=⟨_,rfl⟩
     obtain⟨X,hX⟩:∃ X,Jb (x1,key)=X:=⟨_,rfl⟩
     rw[hT,hX] at hS
     rw[hT] at hTs2 ⊢
     rw[hX] at hXs
     have HS:=Zb hS
     have b1:=Zg wr (.cells #[.int .i64 x1,.slice ka kn kc] 101)
     have b2:=Zg (wr.alloc (.cells #[.int .i64 x1,.slice ka kn kc] 101)) (.cells #[.int .i64 x1] 3)
     have b12:=Ze b1 b2
     have t2:=Rk (wr.alloc (.cells #[.int .i64 x1,.slice ka kn kc] 101)) (.int .i64 x1) 3
     have esz:(wr.alloc (.cells #[.int .i64 x1,.slice ka kn kc] 101)).heap.size=wr.heap.size+1:=by simp
     rw[esz] at t2
     have PL:=Zb (Sc ka kn kc key Zjj (wr.heap.size+1) 0 1 1 [x1] X ((wr.alloc (.cells #[.int .i64 x1,.slice ka kn kc] 101)).alloc (.cells #[.int .i64 x1] 3)) (((Za HE).later hbv).later b12) (g4.later b12) hok.2 (by decide) (by decide) rfl (by simp) (fun i hi=>by
      have e:i=0:=by omega
      subst e
      exact t2) (fun z hz=>by simp at hz;omega) hX)
     have HB12:=Zb b12
     clear hbz hbv hcell g4 hok hx hT hX hS b1 b2 b12 t2 esz hp
     go_wp2_with fail
     refine (Za PL).mono ?_
     rintro e w4 ⟨rfl,hb4⟩
     have HB4:=Zb ((Za HBZ).trans ((Ze (Za HB12) hb4).mono (Za HBZ).size))
     clear hb4
     go_wp2
     go_roundw
     case rel=>exact⟨j+1,by omega,by go_num,by rw[Za HS],Za HB4⟩
     case measure=>simp[intOf];omega
    ·have HF:Hid (Xw T1 (O.take j)=Zz (h,I,O)):=by
      show _=_
      rw[List.take_of_length_le (by rw[(Za HO).1];omega),←Za HT1];rfl
     clear hbz hbv
     go_wp2
     go_ret2
     exact⟨Av (Za HF),Za HBV⟩
theorem Hn(z:Int)(hz : -10000000000≤z∧z≤10000000000)(w:World)(hw:Env w):Calls Tryz.prog 107 #[.int .i64 z] w fun e w'=>e = .returned (.string (Xn z))∧Below w.heap.size w w':=
 (Tryz.strconv_Itoa z (by omega) (by omega) w hw.tab).mono fun e w' ⟨h1,k,os,h2⟩=>⟨h1,by rw[h2];exact Lib.below_grow _ _ (Nat.le_refl _) k os⟩
theorem Zhj(h:Int):Vj h=((⟨#[116,120,32]⟩:ByteArray)++Xn h)++⟨#[10]⟩:=by
 apply Qi
 simp[Vj,Ww,txB]
theorem Zln(x1 x2:Int)(key:List (Int×Int)):Tj (x1,x2,key)=(((((((⟨#[105,110,32]⟩:ByteArray)++Xn x1)++⟨#[32]⟩)++Xn x2)++⟨#[58]⟩)++Ya key)++⟨#[10]⟩):=by
 apply Qi
 simp[Tj,Gl,Ww,inB]
theorem Zji(x1:Int)(key:List (Int×Int)):Jb (x1,key)=(((((⟨#[111,117,116,32]⟩:ByteArray)++Xn x1)++⟨#[58]⟩)++Ya key)++⟨#[10]⟩):=by
 apply Qi
 simp[Jb,Gl,Ww,Zjj]
theorem M6(h:Int)(ai ao:Option Addr)(ni ci no co:Nat)(I:List InD)(O:List Yc)(w:World)(hE:EnvF w)(hI:InsAt w ai ni I)(hO:OutsAt w ao no O)(hx:Zo (h,I,O)=0) :
  Calls Tryz.prog 59 #[.agg #[.int .i64 h,.slice ai ni ci,.slice ao no co]] w fun e w'=>e = .returned (.string (Zz (h,I,O)))∧Below w.heap.size w w':=by
 have ok:=TxOk.of hx
 have hb:=Zg w (.cells #[.int .i64 h,.slice ai ni ci,.slice ao no co] 52)
 obtain⟨n0,n1,n2⟩:=Wy w (.int .i64 h) (.slice ai ni ci) (.slice ao no co) 52
 have hi6:ni≤6:=by have:=ok.ins6;have:=hI.1;simp only at *;omega
 have ho6:no≤6:=by have:=ok.outs6;have:=hO.1;simp only at *;omega
 have HG:=Zb ok.hgt
 have HII:=Zb ok.ins
 have HOO:=Zb ok.outs
 have hh : -10000000000≤h∧h≤10000000000:=by have:=ok.hgt;simp only at this;omega
 have IT:=Zb (Hn h hh _ (hE.later hb).envp.env)
 have HE:=Zb hE
 have HI:=Zb hI
 have HO:=Zb hO
 have HB:=Zb hb
 have N1:=Zb n1
 have N2:=Zb n2
 have HS0:=Zb (Zhj h)
 have s0:=Wu h hh
 obtain⟨A0,hA0⟩:∃ A0,Xn h=A0:=⟨_,rfl⟩
 rw[hA0] at IT HS0 s0
 have s1:((⟨#[116,120,32]⟩:ByteArray)++A0).size≤24:=by rw[ByteArray.size_append];have:(⟨#[116,120,32]⟩:ByteArray).size=3:=rfl;omega
 clear hb n1 n2 hE hI hO hx ok hA0 hh
 go_enter Tryz.func59,Tryz.ntmps59
 go_wp2_with fail
 refine (Za IT).mono ?_
 rintro e w3 ⟨rfl,hb3⟩
 have m1:=Zc hb3 (Za N1)
 have M2:=Zb (Zc hb3 (Za N2))
 have l3:w.heap.size<w3.heap.size:=World.block_lt_of_cell? _ _ m1
 have HBW3:=Zb (Ze (Za HB) hb3)
 clear hb3
 go_wp2
 go_loopw [3,16] (fun s i wr=>∃ k:Nat,k≤ni∧i = .int .i64 k∧s = .string (Y3 h (I.take k))∧Below w3.heap.size w3 wr) (fun _ i _=>ni - (intOf i).toNat)
 case atStart=>exact⟨0,Nat.zero_le _,rfl,by rw[←Za HS0];rfl,Below.refl _ _⟩
 case round=>
  obtain⟨k,hk,rfl,rfl,hbr⟩:=hrel
  have HBR:=Zb hbr
  have hbw:=Ze (Za HBW3) hbr
  have HBW:=Zb hbw
  by_cases hlt:k<ni
  ·have hlk:k<I.length:=by rw[(Za HI).1];exact hlt
   obtain⟨b,off,rfl,hbl,hcell⟩:=((Za HI).later hbw).2 (by omega)
   obtain⟨g1,g2,ka,kn,kc,g3,g4,_⟩:=hcell k hlk
   have hok:=(Za HII) I[k] (List.getElem_mem hlk)
   have hS:=Sn h (I.take k) I[k]
   rw[←List.take_succ_eq_append_getElem hlk] at hS
   have hTs:(Y3 h (I.take k)).size≤3000:=by
    have:=Vi h (I.take k) (Za HG) (fun x hx=>(Za HII) x (List.mem_of_mem_take hx))
    rw[List.length_take] at this
    omega
   obtain⟨x,hx⟩:∃ x,I[k]=x:=⟨_,rfl⟩
   rw[hx] at g1 g2 g4 hok hS
   obtain⟨x1,x2,key⟩:=x
   simp only at g1 g2 g3 g4
   have hp:=(J1 _).1 hok.1
   simp only at hp
   obtain⟨T,hT⟩:∃ T,Y3 h (I.take k)=T:=⟨_,rfl⟩
   rw[hT,Zln] at hS
   rw[hT] at hTs ⊢
   obtain⟨X,hX⟩:∃ X,X=wr.alloc (.cells #[.int .i64 x1,.int .i64 x2,.slice ka kn kc] 124):=⟨_,rfl⟩
   have b1:Below wr.heap.size wr X:=by rw[hX];exact Zg _ _
   have cx:=Wy wr (.int .i64 x1) (.int .i64 x2) (.slice ka kn kc) 124
   rw[←hX] at cx
   obtain⟨x0c,x1c,x2c⟩:=cx
   have EX:=((Za HE).later hbw).later b1
   have I1:Hid (∀ w',Below X.heap.size X w'→Calls Tryz.prog 107 #[.int .i64 x1] w' fun e w2=>e = .returned (.string (Xn x1))∧Below w'.heap.size w' w2):=fun w' hw'=>Hn x1 (by omega) w' (EX.later hw').envp.env
   have I2:Hid (∀ w',Below X.heap.size X w'→Calls Tryz.prog 107 #[.int .i64 x2] w' fun e w2=>e = .returned (.string (Xn x2))∧Below w'.heap.size w' w2):=fun w' hw'=>Hn x2 (by omega) w' (EX.later hw').envp.env
   have OT:Hid (∀ w',Below X.heap.size X w'→Calls Tryz.prog 108 #[.slice ka kn kc] w' fun e w2=>e = .returned (.string (Ya key))∧Below w'.heap.size w' w2):=fun w' hw'=>Gf ka kn kc key w' (EX.later hw') ((g4.later b1).later hw') hok.2
   have z1:=Wu x1 (by omega)
   have z2:=Wu x2 (by omega)
   have z3:=Vx key hok.2
   obtain⟨A,hA⟩:∃ A,Xn x1=A:=⟨_,rfl⟩
   obtain⟨B,hB⟩:∃ B,Xn x2=B:=⟨_,rfl⟩
   obtain⟨C,hC⟩:∃ C,Ya key=C:=⟨_,rfl⟩
   rw[hA] at I1 z1 hS
   rw[hB] at I2 z2 hS
   rw[hC] at OT z3 hS
   have y1:¬9223372036854775807<3+A.size:=by omega
   have y2:¬9223372036854775807<3+A.size+1:=by omega
   have y3:¬9223372036854775807<3+A.size+1+B.size:=by omega
   have y4:¬9223372036854775807<3+A.size+1+B.size+1:=by omega
   have y5:¬9223372036854775807<3+A.size+1+B.size+1+C.size:=by omega
   have y6:¬9223372036854775807<3+A.size+1+B.size+1+C.size+1:=by omega
   have y7:¬9223372036854775807<T.size+(3+A.size+1+B.size+1+C.size+1):=by omega
   have HS:=Zb hS
   have HB1':=Zb b1
   clear hbr hbw hcell g4 hok hx hT hS b1 hp hA hB hC EX
   go_wp2_with fail
   rw[←hX]
   clear hX
   go_region_held3 (fun w'=>Below X.heap.size X w'∧w'.cell? ⟨wr.heap.size,0,none⟩=some (.int .i64 x1)∧w'.cell? ⟨wr.heap.size,1,none⟩=some (.int .i64 x2)∧w'.cell? ⟨wr.heap.size,2,none⟩=some (.slice ka kn kc))
    (first
    | exact⟨Dj _,x0c,x1c,x2c⟩
    | (go_split_ands;refine⟨Ze (by assumption) hbc,Zc hbc (by assumption),Zc hbc (by assumption),Zc hbc (by assumption)⟩))
    (first
    | (go_at_call 107;go_split_ands;refine ((Za I1) _ (by assumption)).mono ?_;rintro e w' ⟨rfl,hbc⟩)
    | (go_at_call 107;go_split_ands;refine ((Za I2) _ (by assumption)).mono ?_;rintro e w' ⟨rfl,hbc⟩)
    | (go_at_call 108;go_split_ands;refine ((Za OT) _ (by assumption)).mono ?_;rintro e w' ⟨rfl,hbc⟩))
   rename_i hH
   have HH:=Zb ((Za HBR).trans ((Ze (Za HB1') hH.1).mono (Za HBR).size))
   clear hH
   go_wp2
   go_roundw
   case rel=>exact⟨k+1,by omega,by go_num,by rw[Za HS],Za HH⟩
   case measure=>simp[intOf];omega
  ·have e:k=ni:=by omega
   subst e
   have HT:Hid (Y3 h (I.take k)=Y3 h I):=by show _=_;rw[List.take_of_length_le (by rw[(Za HI).1];exact Nat.le_refl _)]
   have hTs:=Vi h I (Za HG) (Za HII)
   have hil:I.length≤6:=by rw[(Za HI).1];exact hi6
   obtain⟨T1,hT1⟩:∃ T1,Y3 h I=T1:=⟨_,rfl⟩
   rw[hT1] at HT hTs
   have HT1:=Zb hT1
   have m2:=Zc hbr (Za M2)
   have s4:w.heap.size<wr.heap.size:=World.block_lt_of_cell? _ _ m2
   rw[Za HT]
   clear hbr hT1 hk hlt
   go_wp2
   go_loopw [3,43] (fun s i wz=>∃ j:Nat,j≤no∧i = .int .i64 j∧s = .string (Xw T1 (O.take j))∧Below wr.heap.size wr wz) (fun _ i _=>no - (intOf i).toNat)
   case atStart=>exact⟨0,Nat.zero_le _,rfl,rfl,Below.refl _ _⟩
   case round=>
    obtain⟨j,hj,rfl,rfl,hbz⟩:=hrel
    have HBZ:=Zb hbz
    have hbv:=Ze (Za HBW) hbz
    have HBV:=Zb hbv
    by_cases hlt:j<no
    ·have hlk:j<O.length:=by rw[(Za HO).1];exact hlt
     obtain⟨b,off,rfl,hbl,hcell⟩:=((Za HO).later hbv).2 (by omega)
     obtain⟨g1,ka,kn,kc,g3,g4,_⟩:=hcell j hlk
     have hok:=(Za HOO) O[j] (List.getElem_mem hlk)
     have hS:=Rv T1 (O.take j) O[j]
     rw[←List.take_succ_eq_append_getElem hlk] at hS
     have hTs2:(Xw T1 (O.take j)).size≤6000:=by
      have:=Qf T1 (O.take j) (fun x hx=>(Za HOO) x (List.mem_of_mem_take hx))
      rw[List.length_take] at this
      omega
     obtain⟨x,hx⟩:∃ x,O[j]=x:=⟨_,rfl⟩
     rw[hx] at g1 g4 hok hS
     obtain⟨x1,key⟩:=x
     simp only at g1 g3 g4
     have hp:=hok.1
     simp only at hp
     obtain⟨T,hT⟩:∃ T,Xw T1 (O.take j)=T:=⟨_,rfl⟩
     rw[hT,Zji] at hS
     rw[hT] at hTs2 ⊢
     obtain⟨X,hX⟩:∃ X,X=wr.alloc (.cells #[.int .i64 x1,.slice ka kn kc] 101):=⟨_,rfl⟩
     have b1:Below wr.heap.size wr X:=by rw[hX];exact Zg _ _
     have cx:=Uj wr (.int .i64 x1) (.slice ka kn kc) 101
     rw[←hX] at cx
     obtain⟨x0c,x1c⟩:=cx
     have EX:=((Za HE).later hbv).later b1
     have I1:Hid (∀ w',Below X.heap.size X w'→Calls Tryz.prog 107 #[.int .i64 x1] w' fun e w2=>e = .returned (.string (Xn x1))∧Below w'.heap.size w' w2):=fun w' hw'=>Hn x1 (by omega) w' (EX.later hw').envp.env
     have OT:Hid (∀ w',Below X.heap.size X w'→Calls Tryz.prog 108 #[.slice ka kn kc] w' fun e w2=>e = .returned (.string (Ya key))∧Below w'.heap.size w' w2):=fun w' hw'=>Gf ka kn kc key w' (EX.later hw') ((g4.later b1).later hw') hok.2
     have z1:=Wu x1 (by omega)
     have z3:=Vx key hok.2
     obtain⟨A,hA⟩:∃ A,Xn x1=A:=⟨_,rfl⟩
     obtain⟨C,hC⟩:∃ C,Ya key=C:=⟨_,rfl⟩
     rw[hA] at I1 z1 hS
     rw[hC] at OT z3 hS
     have y1:¬9223372036854775807<4+A.size:=by omega
     have y2:¬9223372036854775807<4+A.size+1:=by omega
     have y3:¬9223372036854775807<4+A.size+1+C.size:=by omega
     have y4:¬9223372036854775807<4+A.size+1+C.size+1:=by omega
     have y5:¬9223372036854775807<T.size+(4+A.size+1+C.size+1):=by omega
     have HS:=Zb hS
     have HB1':=Zb b1
     clear hbz hbv hcell g4 hok hx hT hS b1 hp hA hC EX
     go_wp2_with fail
     rw[←hX]
     clear hX
     go_region_held3 (fun w'=>Below X.heap.size X w'∧w'.cell? ⟨wr.heap.size,0,none⟩=some (.int .i64 x1)∧w'.cell? ⟨wr.heap.size,1,none⟩=some (.slice ka kn kc))
      (first
      | exact⟨Dj _,x0c,x1c⟩
      | (go_split_ands;refine⟨Ze (by assumption) hbc,Zc hbc (by assumption),Zc hbc (by assumption)⟩))
      (first
      | (go_at_call 107;go_split_ands;refine ((Za I1) _ (by assumption)).mono ?_;rintro e w' ⟨rfl,hbc⟩)
      | (go_at_call 108;go_split_ands;refine ((Za OT) _ (by assumption)).mono ?_;rintro e w' ⟨rfl,hbc⟩))
     rename_i hH
     have HH:=Zb ((Za HBZ).trans ((Ze (Za HB1') hH.1).mono (Za HBZ).size))
     clear hH
     go_wp2
     go_roundw
     case rel=>exact⟨j+1,by omega,by go_num,by rw[Za HS],Za HH⟩
     case measure=>simp[intOf];omega
    ·have HF:Hid (Xw T1 (O.take j)=Zz (h,I,O)):=by
      show _=_
      rw[List.take_of_length_le (by rw[(Za HO).1];omega),←Za HT1];rfl
     clear hbz hbv
     go_wp2
     go_ret
     exact⟨by rw[←Za HF];rfl,Za HBV⟩
abbrev Zf:=Int×Int×Int×List (Int×Int)×Int×Bool
abbrev PtD:=Int×Int
def pt(c:Zf):PtD:=(c.1,c.2.1)
def cv(c:Zf):Int:=c.2.2.1
def ck(c:Zf):List (Int×Int):=c.2.2.2.1
def ch(c:Zf):Int:=c.2.2.2.2.1
def cr(c:Zf):Bool:=c.2.2.2.2.2
def lt(p q:PtD):Bool:=decide (p.1<q.1) || (decide (p.1=q.1) && decide (p.2<q.2))
theorem Uu(p q:PtD):lt p q=true↔p.1<q.1∨p.1=q.1∧p.2<q.2:=by simp[lt]
theorem lt_irrefl(p:PtD):lt p p=false:=by
 rw[←Bool.not_eq_true,Uu];omega
theorem lt_trans{p q r:PtD}(h1:lt p q=true)(h2:lt q r=true):lt p r=true:=by
 rw[Uu] at *;omega
theorem J6{p q:PtD}(h1:lt p q=true):lt q p=false:=by
 rw[←Bool.not_eq_true,Uu];rw[Uu] at h1;omega
theorem D7(p q:PtD):lt p q=true∨p=q∨lt q p=true:=by
 rw[Uu,Uu,Prod.ext_iff];omega
theorem Js{p q:PtD}(h:lt p q=true):p≠q:=fun e=>by
 subst e;rw[lt_irrefl] at h;exact Bool.noConfusion h
def He(p q:PtD):Int:=if lt p q then -1 else if p=q then 0 else 1
theorem Fm{p q:PtD}:He p q<0↔lt p q=true:=by
 unfold He;split
 ·simp[*]
 ·split
  ·rename_i h e;subst e;simp[lt_irrefl]
  ·simp[*]
theorem Zkg{p q:PtD}:He p q=0↔p=q:=by
 unfold He;split
 ·rename_i h;simp[Js h]
 ·split <;> simp[*]
def Srt(L:List Zf):Prop:=L.Pairwise fun a b=>lt (pt a) (pt b)=true
theorem Srt.tail{c:Zf}{L:List Zf}(h:Srt (c :: L)):Srt L:=(List.pairwise_cons.1 h).2
theorem Srt.head{c:Zf}{L:List Zf}(h:Srt (c :: L)):∀ x∈L,lt (pt c) (pt x)=true:=(List.pairwise_cons.1 h).1
theorem Srt.inj{L:List Zf}(h:Srt L):∀ {x y:Zf},x∈L→y∈L→pt x=pt y→x=y:=by
 induction L with
 | nil=>intro x y hx;cases hx
 | cons c L ih=>
  intro x y hx hy e
  rcases List.mem_cons.1 hx with rfl|hx <;> rcases List.mem_cons.1 hy with rfl|hy
  ·rfl
  ·exact absurd e (Js (h.head y ‹y∈L›))
  ·exact absurd e.symm (Js (h.head x ‹x∈L›))
  ·exact ih h.tail hx hy e
theorem Srt.ext:∀ {L M:List Zf},Srt L→Srt M→(∀ x,x∈L↔x∈M)→L=M
 | [],[],_,_,_=>rfl
 | [],c :: M,_,_,h=>absurd ((h c).2 (List.mem_cons_self ..)) (by simp)
 | c :: L,[],_,_,h=>absurd ((h c).1 (List.mem_cons_self ..)) (by simp)
 | c :: L,d :: M,h1,h2,h=>by
  have e:c=d:=by
   rcases List.mem_cons.1 ((h c).1 (List.mem_cons_self ..)) with e|e
   ·exact e
   rcases List.mem_cons.1 ((h d).2 (List.mem_cons_self ..)) with f|f
   ·exact f.symm
   ·have g:=J6 (h2.head _ e)
    rw[h1.head _ f] at g
    exact Bool.noConfusion g
  subst e
  rw[Srt.ext h1.tail h2.tail fun x=>⟨fun hx=>?_,fun hx=>?_⟩]
  ·rcases List.mem_cons.1 ((h x).1 (List.mem_cons_of_mem _ hx)) with rfl|q
   ·exact absurd rfl (Js (h1.head _ hx))
   ·exact q
  ·rcases List.mem_cons.1 ((h x).2 (List.mem_cons_of_mem _ hx)) with rfl|q
   ·exact absurd rfl (Js (h2.head _ hx))
   ·exact q
def Zjm(p:PtD):Bool:=(decide (1≤p.1) && decide (p.1≤120)) && (decide (0≤p.2) && decide (p.2≤5))
def okV(n:Int):Bool:=decide (1≤n) && decide (n≤1000000000)
def okH(n:Int):Bool:=decide (1≤n) && decide (n≤1000)
def okC(c:Zf):Bool:=Zjm (pt c) && (okV (cv c) && okH (ch c))
def ck1(c:Zf):Int:=if okC c=false then 3 else chk (ck c)
theorem Wj{c:Zf}(h:ck1 c=0):1≤c.1∧c.1≤120∧0≤c.2.1∧c.2.1≤5∧1≤cv c∧cv c≤1000000000∧1≤ch c∧ch c≤1000∧chk (ck c)=0:=by
 unfold ck1 at h
 split at h
 ·cases h
 ·rename_i q
  simp only[Bool.not_eq_false,okC,Zjm,okV,okH,pt,Bool.and_eq_true,decide_eq_true_eq] at q
  exact⟨of_decide_eq_true q.1.1.1,of_decide_eq_true q.1.1.2,of_decide_eq_true q.1.2.1,of_decide_eq_true q.1.2.2,q.2.1.1,q.2.1.2,q.2.2.1,q.2.2.2,h⟩
def Rd(p:Option PtD)(c:Zf):Bool:=match p with|none=>true|some p=>lt p (pt c)
def Yk:Option PtD→Int→List Zf→Int
 | _,_,[]=>0
 | p,s,c :: r=>if ck1 c≠0 then ck1 c else if Rd p c=false then 6 else if 1000000000<s+cv c then 12 else Yk (some (pt c)) (s+cv c) r
def Yj(L:List Zf):Int:=if 720<L.length then 2 else Yk none 0 L
def Va(L:List Zf)(k:Nat):Option PtD:=if k=0 then none else (L[k - 1]?).map pt
def Z6(L:List Zf):Int:=(L.map cv).sum
def Yi(L:List Yc):Int:=(L.map (·.1)).sum
theorem Ag:Z6 []=0:=rfl
theorem Wm(c:Zf)(L:List Zf):Z6 (c :: L)=cv c+Z6 L:=by simp[Z6]
theorem W6(L M:List Zf):Z6 (L++M)=Z6 L+Z6 M:=by simp[Z6]
theorem Pf(L:List Zf)(k:Nat)(h:k<L.length):Z6 (L.take (k+1))=Z6 (L.take k)+cv L[k]:=by
 rw[List.take_succ_eq_append_getElem h,W6,Wm,Ag];omega
theorem Rf(L:List Yc)(k:Nat)(h:k<L.length):Yi (L.take (k+1))=Yi (L.take k)+L[k].1:=by
 rw[List.take_succ_eq_append_getElem h];unfold Yi;rw[List.map_append,List.sum_append];simp
theorem Q8(L:List Zf)(k:Nat)(h:k<L.length):Va L (k+1)=some (pt L[k]):=by
 unfold Va;rw[if_neg (by omega)];simp[h]
theorem Zcj(L:List Zf)(k:Nat)(h:k<L.length)(p:Option PtD)(s:Int):Yk p s (L.drop k)=if ck1 L[k]≠0 then ck1 L[k] else if Rd p L[k]=false then 6 else if 1000000000<s+cv L[k] then 12 else Yk (some (pt L[k])) (s+cv L[k]) (L.drop (k+1)):=by
 rw[List.drop_eq_getElem_cons h,Yk]
theorem Cu(L:List Zf)(k:Nat)(h:L.length≤k)(p:Option PtD)(s:Int):Yk p s (L.drop k)=0:=by
 rw[List.drop_of_length_le h,Yk]
theorem Zig{c:Zf}{r:List Zf}{p:Option PtD}{s:Int}(h:ck1 c≠0):Yk p s (c :: r)=ck1 c:=by rw[Yk,if_pos h]
theorem Zau{c:Zf}{r:List Zf}{p:Option PtD}{s:Int}(h:ck1 c=0)(h2:Rd p c=false):Yk p s (c :: r)=6:=by
 rw[Yk,if_neg (by rw[h];decide),if_pos h2]
theorem Zei{c:Zf}{r:List Zf}{p:Option PtD}{s:Int}(h:ck1 c=0)(h2:Rd p c=true)(h3:1000000000<s+cv c):Yk p s (c :: r)=12:=by
 rw[Yk,if_neg (by rw[h];decide),if_neg (by rw[h2];decide),if_pos h3]
theorem Zkj{c:Zf}{r:List Zf}{p:Option PtD}{s:Int}(h:ck1 c=0)(h2:Rd p c=true)(h3:¬1000000000<s+cv c):Yk p s (c :: r)=Yk (some (pt c)) (s+cv c) r:=by
 rw[Yk,if_neg (by rw[h];decide),if_neg (by rw[h2];decide),if_neg h3]
theorem Jw:∀ (L:List Zf),(∀ c∈L,0≤cv c)→0≤Z6 L
 | [],_=>Int.le_refl _
 | c :: r,h=>by
  rw[Wm]
  have h1:=h c (List.mem_cons_self ..)
  have h2:=Jw r fun x hx=>h x (List.mem_cons_of_mem _ hx)
  omega
theorem Da:∀ (L:List Zf) (p:Option PtD) (s:Int),0≤s→s≤1000000000→(Yk p s L=0↔(∀ c∈L,ck1 c=0)∧Srt L∧(∀ c∈L,Rd p c=true)∧s+Z6 L≤1000000000)
 | [],p,s,_,h=>by simp[Yk,Srt,Z6,h]
 | c :: r,p,s,h0,h=>by
  by_cases h1:ck1 c=0
  ·have hv:1≤cv c:=(Wj h1).2.2.2.2.1
   cases h2:Rd p c with
   | false=>
    rw[Zau h1 h2]
    refine⟨fun e=>(by cases e),fun e=>?_⟩
    have:=e.2.2.1 c (List.mem_cons_self ..)
    rw[h2] at this;exact Bool.noConfusion this
   | true=>
    by_cases h3:1000000000<s+cv c
    ·rw[Zei h1 h2 h3]
     refine⟨fun e=>(by cases e),fun e=>?_⟩
     have h4:0≤Z6 r:=Jw r fun x hx=>by
      have:=(Wj (e.1 x (List.mem_cons_of_mem _ hx))).2.2.2.2.1
      omega
     have h5:=e.2.2.2
     rw[Wm] at h5
     omega
    ·rw[Zkj h1 h2 h3,Da r (some (pt c)) (s+cv c) (by omega) (by omega),Wm]
     constructor
     ·rintro ⟨a1,a2,a3,a4⟩
      refine⟨fun x hx=>?_,List.pairwise_cons.2 ⟨fun x hx=>a3 x hx,a2⟩,fun x hx=>?_,by omega⟩
      ·rcases List.mem_cons.1 hx with rfl|hx
       ·exact h1
       ·exact a1 x hx
      ·rcases List.mem_cons.1 hx with rfl|hx
       ·exact h2
       ·cases p with
        | none=>rfl
        | some p=>exact lt_trans h2 (a3 x hx)
     ·rintro ⟨a1,a2,a3,a4⟩
      exact⟨fun x hx=>a1 x (List.mem_cons_of_mem _ hx),Srt.tail a2,fun x hx=>Srt.head a2 x hx,by omega⟩
  ·rw[Zig h1]
   exact⟨fun e=>absurd e h1,fun e=>absurd (e.1 c (List.mem_cons_self ..)) h1⟩
structure Ye(L:List Zf):Prop where
 len:L.length≤720
 one:∀ c∈L,ck1 c=0
 srt:Srt L
 sum:Z6 L≤1000000000
theorem Y4(L:List Zf):Yj L=0↔Ye L:=by
 unfold Yj
 by_cases h:720<L.length
 ·rw[if_pos h];exact⟨fun e=>(by cases e),fun e=>absurd e.len (by omega)⟩
 ·rw[if_neg h,Da L none 0 (by omega) (by omega)]
  exact⟨fun ⟨a,b,_,c⟩=>⟨by omega,a,b,by omega⟩,fun e=>⟨e.one,e.srt,fun _ _=>rfl,by have:=e.sum;omega⟩⟩
def pos(p:PtD)(L:List Zf):Nat:=L.countP fun c=>lt (pt c) p
def Xy(p:PtD)(L:List Zf):Bool:=L.any fun c=>decide (pt c=p)
def Wz(p:PtD)(L:List Zf):Option (Zf×List Zf):=
 match L.find? (fun c=>decide (pt c=p)) with|none=>none|some c=>some (c,L.filter fun c=>decide (pt c≠p))
def Qd(c:Zf)(L:List Zf):List Zf:=L.filter (fun x=>lt (pt x) (pt c))++c :: L.filter fun x=>lt (pt c) (pt x)
theorem Srt.filter{L:List Zf}(h:Srt L)(f:Zf→Bool):Srt (L.filter f):=List.Pairwise.filter f h
theorem Vk(p:PtD)(L:List Zf):Xy p L=true↔∃ c∈L,pt c=p:=by simp[Xy]
theorem K9{c x:Zf}{L:List Zf}(h:Xy (pt c) L=false):x∈Qd c L↔x=c∨x∈L:=by
 unfold Qd
 rw[List.mem_append,List.mem_cons,List.mem_filter,List.mem_filter]
 constructor
 ·rintro (⟨a,_⟩|rfl|⟨a,_⟩)
  ·exact .inr a
  ·exact .inl rfl
  ·exact .inr a
 ·rintro (rfl|a)
  ·exact .inr (.inl rfl)
  ·rcases D7 (pt x) (pt c) with q|q|q
   ·exact .inl ⟨a,q⟩
   ·rw[←Bool.not_eq_true,Vk] at h
    exact absurd ⟨x,a,q⟩ h
   ·exact .inr (.inr ⟨a,q⟩)
theorem Qp{c:Zf}{L:List Zf}(h:Srt L):Srt (Qd c L):=by
 unfold Qd Srt
 rw[List.pairwise_append]
 refine⟨h.filter _,List.pairwise_cons.2 ⟨fun x hx=>(List.mem_filter.1 hx).2,h.filter _⟩,fun a ha b hb=>?_⟩
 have h1:=(List.mem_filter.1 ha).2
 rcases List.mem_cons.1 hb with rfl|hb
 ·exact h1
 ·exact lt_trans h1 (List.mem_filter.1 hb).2
theorem Ul{p:PtD}:∀ {L:List Zf},Srt L→L.take (pos p L)=L.filter (fun x=>lt (pt x) p)∧L.drop (pos p L)=L.filter (fun x=>!lt (pt x) p)
 | [],_=>by simp[pos]
 | c :: L,h=>by
  obtain⟨h1,h2⟩:=Ul (p:=p) h.tail
  unfold pos at *
  cases hc:lt (pt c) p with
  | true=>
   rw[List.countP_cons_of_pos (by simpa using hc),List.filter_cons_of_pos (by simpa using hc),List.filter_cons_of_neg (by simp[hc]),List.take_succ_cons,List.drop_succ_cons,h1,h2]
   exact⟨rfl,rfl⟩
  | false=>
   have h3:∀ x∈L,lt (pt x) p=false:=fun x hx=>by
    rw[←Bool.not_eq_true]
    intro q
    rw[lt_trans (h.head x hx) q] at hc
    exact Bool.noConfusion hc
   have e:(c :: L).countP (fun c=>lt (pt c) p)=0:=by
    rw[List.countP_eq_zero]
    intro x hx
    rcases List.mem_cons.1 hx with rfl|hx
    ·simp[hc]
    ·simp[h3 x hx]
   rw[e,List.take_zero,List.drop_zero]
   constructor
   ·symm;rw[List.filter_eq_nil_iff]
    intro x hx
    rcases List.mem_cons.1 hx with rfl|hx
    ·simp[hc]
    ·simp[h3 x hx]
   ·symm;rw[List.filter_eq_self]
    intro x hx
    rcases List.mem_cons.1 hx with rfl|hx
    ·simp[hc]
    ·simp[h3 x hx]
theorem Zgm(p:PtD)(L:List Zf):pos p L≤L.length:=List.countP_le_length ..
theorem Cb{p:PtD}{L:List Zf}(h:Srt L):Xy p L=(decide (pos p L<L.length) && decide ((L[pos p L]?).map pt=some p)):=by
 obtain⟨h1,h2⟩:=Ul (p:=p) h
 rw[Bool.eq_iff_iff,Vk,Bool.and_eq_true,decide_eq_true_eq,decide_eq_true_eq]
 constructor
 ·rintro ⟨c,hc,e⟩
  have hd:c∈L.drop (pos p L):=by rw[h2,List.mem_filter];exact⟨hc,by rw[e,lt_irrefl];rfl⟩
  have hl:pos p L<L.length:=by
   rcases Nat.lt_or_ge (pos p L) L.length with q|q
   ·exact q
   ·rw[List.drop_of_length_le q] at hd;cases hd
  refine⟨hl,?_⟩
  have hs:Srt (L.drop (pos p L)):=by rw[h2];exact h.filter _
  rw[List.drop_eq_getElem_cons hl] at hd hs
  rw[List.getElem?_eq_getElem hl,Option.map_some]
  rcases List.mem_cons.1 hd with rfl|q
  ·rw[e]
  ·have g:=hs.head c q
   have h3:L[pos p L]∈L.drop (pos p L):=by rw[List.drop_eq_getElem_cons hl];exact List.mem_cons_self ..
   rw[h2,List.mem_filter] at h3
   rw[e] at g
   rw[g] at h3
   exact absurd h3.2 (by decide)
 ·rintro ⟨hl,e⟩
  rw[List.getElem?_eq_getElem hl,Option.map_some,Option.some.injEq] at e
  exact⟨L[pos p L],List.getElem_mem hl,e⟩
theorem Eg{p:PtD}{L:List Zf}(h:Xy p L=false):Wz p L=none:=by
 unfold Wz
 have:L.find? (fun c=>decide (pt c=p))=none:=by
  rw[List.find?_eq_none]
  intro x hx
  rw[←Bool.not_eq_true,Vk] at h
  simp only[decide_eq_true_eq]
  exact fun e=>h ⟨x,hx,e⟩
 rw[this]
theorem Na{p:PtD}{L:List Zf}(h:Srt L){c:Zf}(hc:c∈L)(e:pt c=p):Wz p L=some (c,L.filter fun c=>decide (pt c≠p)):=by
 unfold Wz
 have:L.find? (fun c=>decide (pt c=p))=some c:=by
  cases q:L.find? (fun c=>decide (pt c=p)) with
  | none=>rw[List.find?_eq_none] at q;exact absurd (decide_eq_true e) (q c hc)
  | some d=>
   have h1:=List.find?_some q
   have h2:=List.mem_of_find?_eq_some q
   simp only[decide_eq_true_eq] at h1
   rw[h.inj h2 hc (by rw[h1,e])]
 rw[this]
theorem R8{p:PtD}{L M:List Zf}{c:Zf}(h:Wz p L=some (c,M)):c∈L∧pt c=p∧M=L.filter fun c=>decide (pt c≠p):=by
 unfold Wz at h
 split at h
 ·cases h
 ·rename_i d q
  simp only[Option.some.injEq,Prod.mk.injEq] at h
  obtain⟨rfl,rfl⟩:=h
  have h1:=List.find?_some q
  simp only[decide_eq_true_eq] at h1
  exact⟨List.mem_of_find?_eq_some q,h1,rfl⟩
theorem Zfg{p:PtD}{L:List Zf}(h:Srt L)(hl:pos p L<L.length)(e:pt L[pos p L]=p):Wz p L=some (L[pos p L],L.take (pos p L)++L.drop (pos p L+1)):=by
 rw[Na h (List.getElem_mem hl) e]
 obtain⟨h1,h2⟩:=Ul (p:=p) h
 have h3:=List.drop_eq_getElem_cons hl
 rw[h2] at h3
 have hs:Srt (L[pos p L] :: L.drop (pos p L+1)):=by rw[←h3];exact h.filter _
 have e1:L.filter (fun c=>decide (pt c≠p))=L.take (pos p L)++L.drop (pos p L+1):=by
  have e2:L=L.take (pos p L)++(L[pos p L] :: L.drop (pos p L+1)):=by rw[←List.drop_eq_getElem_cons hl,List.take_append_drop]
  have e3:L.filter (fun c=>decide (pt c≠p))=(L.take (pos p L)++(L[pos p L] :: L.drop (pos p L+1))).filter (fun c=>decide (pt c≠p)):=congrArg _ e2
  rw[e3,List.filter_append,List.filter_cons_of_neg (by simp[e])]
  congr 1
  ·rw[List.filter_eq_self]
   intro x hx
   rw[h1,List.mem_filter] at hx
   exact decide_eq_true (Js hx.2)
  ·rw[List.filter_eq_self]
   intro x hx
   have:=hs.head x hx
   rw[e] at this
   exact decide_eq_true (Ne.symm (Js this))
 rw[e1]
theorem Zbr{c:Zf}{L:List Zf}(h:Srt L)(hn:Xy (pt c) L=false):Qd c L=L.take (pos (pt c) L)++c :: L.drop (pos (pt c) L):=by
 obtain⟨h1,h2⟩:=Ul (p:=pt c) h
 unfold Qd
 rw[h1,h2]
 congr 2
 refine List.filter_congr fun x hx=>?_
 rw[Bool.eq_iff_iff]
 rcases D7 (pt x) (pt c) with q|q|q
 ·simp[q,J6 q]
 ·rw[←Bool.not_eq_true,Vk] at hn
  exact absurd ⟨x,hx,q⟩ hn
 ·simp[q,J6 q]
def cnV(x:Zf)(a:Option Addr)(n c:Nat):Value:=.agg #[.int .i64 x.1,.int .i64 x.2.1,.int .i64 (cv x),.slice a n c,.int .i64 (ch x),.bool (cr x)]
def CoinAt(w:World)(b o:Nat)(x:Zf):Prop:=
 w.cell? ⟨b,o,none⟩=some (.int .i64 x.1)∧w.cell? ⟨b,o+1,none⟩=some (.int .i64 x.2.1)∧w.cell? ⟨b,o+2,none⟩=some (.int .i64 (cv x)) ∧
 (∃ a n c,w.cell? ⟨b,o+3,none⟩=some (.slice a n c)∧OpsAt w a n (ck x)∧SlOk a n c) ∧
 w.cell? ⟨b,o+4,none⟩=some (.int .i64 (ch x))∧w.cell? ⟨b,o+5,none⟩=some (.bool (cr x))
theorem CoinAt.kept:Dm CoinAt:=fun _ _ _ _ _ hb h=>by
 obtain⟨h1,h2,h3,⟨a,n,c,h4,h5,h6⟩,h7,h8⟩:=h
 exact⟨Zc hb h1,Zc hb h2,Zc hb h3,⟨a,n,c,Zc hb h4,h5.later hb,h6⟩,Zc hb h7,Zc hb h8⟩
def CoinsAt(w:World)(a:Option Addr)(len:Nat)(l:List Zf):Prop:=RowsAt CoinAt 6 w a len l
theorem CoinsAt.later{w w':World}{a:Option Addr}{len:Nat}{l:List Zf}(h:CoinsAt w a len l)(hb:Below w.heap.size w w'):CoinsAt w' a len l:=RowsAt.later CoinAt.kept h hb
theorem Rg(w:World)(a b c d e f:Value)(t:TypeId):(w.alloc (.cells #[a,b,c,d,e,f] t)).cell? ⟨w.heap.size,0,none⟩=some a∧(w.alloc (.cells #[a,b,c,d,e,f] t)).cell? ⟨w.heap.size,1,none⟩=some b∧(w.alloc (.cells #[a,b,c,d,e,f] t)).cell? ⟨w.heap.size,2,none⟩=some c ∧
  (w.alloc (.cells #[a,b,c,d,e,f] t)).cell? ⟨w.heap.size,3,none⟩=some d∧(w.alloc (.cells #[a,b,c,d,e,f] t)).cell? ⟨w.heap.size,4,none⟩=some e∧(w.alloc (.cells #[a,b,c,d,e,f] t)).cell? ⟨w.heap.size,5,none⟩=some f:=by
 refine⟨?_,?_,?_,?_,?_,?_⟩ <;> (rw[World.cell?_alloc_at _ _ _ _ rfl];rfl)
end Go.Proofs.YtpikejjiignchaaGreatDoor
