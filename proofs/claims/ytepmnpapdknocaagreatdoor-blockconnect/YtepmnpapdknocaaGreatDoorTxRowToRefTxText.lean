/- Contracts of what writes a row of numbers, and a line of a transaction. -/
import Derived.Test.YtepmnpapdknocaaGreatDoorRefWholeToTxCheck
import Derived.Test.YtepmnpapdknocaaGreatDoorTxCheckBToTxParts
import Derived.Test.YtepmnpapdknocaaGreatDoorLockPrintToLockNum
set_option maxHeartbeats 6400000
set_option maxRecDepth 10000
namespace Go.Proofs.YtepmnpapdknocaaGreatDoor
open Go.RowKit
def Wb(word:ByteArray)(Z:List Int):ByteArray:=Z.foldl (fun t z=>t++(⟨#[32]⟩++Y6 z)) word
theorem K7(word:ByteArray)(Z:List Int)(z:Int):Wb word (Z++[z])=Wb word Z++(⟨#[32]⟩++Y6 z):=by unfold Wb;rw[List.foldl_append];rfl
theorem X4(n:Int)(h : -10000000000≤n∧n≤10000000000):(Y6 n).size≤21:=by
 have:=Lib.itoa_length_le n (by omega) (by omega)
 simpa[Y6,ByteArray.size] using this
theorem Gu(x:ByteArray)(c:UInt8):((⟨#[c]⟩:ByteArray)++x).size=x.size+1:=by rw[ByteArray.size_append];show 1+x.size=_;omega
theorem Ue(x:ByteArray)(c:UInt8):(x++(⟨#[c]⟩:ByteArray)).size=x.size+1:=by rw[ByteArray.size_append];rfl
theorem Qo{α : Type}(f : α→ByteArray)(m:Nat):∀ (Z:List α) (t:ByteArray),(∀ z∈Z,(f z).size≤m)→(Z.foldl (fun t z=>t++f z) t).size≤t.size+m*Z.length
 | [],t,_=>by simp
 | z :: r,t,h=>by
  have h1:=Qo f m r (t++f z) (fun y hy=>h y (by simp[hy]))
  have h2:=h z (by simp)
  rw[ByteArray.size_append] at h1
  simp only[List.foldl_cons,List.length_cons,Nat.mul_add,Nat.mul_one]
  omega
theorem W6(word:ByteArray)(Z:List Int)(h:∀ z∈Z,-10000000000≤z∧z≤10000000000):(Wb word Z).size≤word.size+22*Z.length:=
 Qo (fun z=>(⟨#[32]⟩:ByteArray)++Y6 z) 22 Z word (fun z hz=>by rw[Gu];have:=X4 z (h z hz);omega)
theorem Ux(word:ByteArray)(b off n c:Nat)(Z:List Int)(w:World)(hE:Env w)(hw:word.size≤10)(hn:n≤6)(hz:Z.length=n)(hl:b<w.heap.size)
  (hc:∀ i,i<n→w.cell? ⟨b,off+i,none⟩=some (.int .i64 (Z.getD i 0))) (hr:∀ z∈Z,-10000000000≤z∧z≤10000000000) :
  Calls Tryz.prog 52 #[.string word,.slice (some ⟨b,off,none⟩) n c] w fun e w'=>e = .returned (.string (Wb word Z))∧Below w.heap.size w w':=by
 have HE:=hide hE
 have HC:=hide hc
 have HZ:=hide hz
 have HR:=hide hr
 clear hE hc hz hr
 go_enter Tryz.func52,Tryz.ntmps52
 go_wp2
 go_loopw [5,11] (fun s i wr=>∃ k:Nat,k≤n∧i = .int .i64 k∧s = .string (Wb word (Z.take k))∧Below w.heap.size w wr) (fun _ i _=>n - (intOf i).toNat)
 case atStart=>exact⟨0,Nat.zero_le _,rfl,rfl,Below.refl _ _⟩
 case round=>
  obtain⟨k,hk,rfl,rfl,hb⟩:=hrel
  have HB:=hide hb
  by_cases hlt:k<n
  ·have hlk:k<Z.length:=by rw[unhide HZ];exact hlt
   have c1:=(unhide HC) k hlt
   rw[←hb.cell (p:=⟨b,off+k,none⟩) hl] at c1
   have e1:Z.getD k 0=Z[k]:=by simp[hlk]
   rw[e1] at c1
   have hzr:=(unhide HR) Z[k] (List.getElem_mem hlk)
   have hS:=K7 word (Z.take k) Z[k]
   rw[←List.take_succ_eq_append_getElem hlk] at hS
   have hTs:(Wb word (Z.take k)).size≤200:=by
    have:=W6 word (Z.take k) (fun z hz=>(unhide HR) z (List.mem_of_mem_take hz))
    rw[List.length_take] at this
    omega
   obtain⟨z,hz⟩:∃ z,Z[k]=z:=⟨_,rfl⟩
   rw[hz] at c1 hzr hS
   obtain⟨T,hT⟩:∃ T,Wb word (Z.take k)=T:=⟨_,rfl⟩
   rw[hT] at hS hTs ⊢
   have HS:=hide hS
   have hXs:=X4 z hzr
   have hXs1:((⟨#[32]⟩:ByteArray)++Y6 z).size≤22:=by rw[Gu];omega
   have IT:Hid (∀ w,Env w→Calls Tryz.prog 80 #[.int .i64 z] w fun e w'=>e = .returned (.string (Y6 z))∧Below w.heap.size w w'):=fun w hw=>
    (Tryz.strconv_Itoa z (by omega) (by omega) w hw.tab).mono fun e w' ⟨h1,k,os,h2⟩=>⟨h1,by rw[h2];exact Lib.below_grow _ _ (Nat.le_refl _) k os⟩
   have EE:=hide ((unhide HE).later hb)
   clear hb hz hT hS e1 hzr
   go_wp2_with fail
   refine ((unhide IT) _ (unhide EE)).mono ?_
   rintro e w3 ⟨rfl,hb3⟩
   have HB3:=hide (bel_on (unhide HB) hb3)
   clear hb3
   go_wp2
   go_roundw
   case rel=>exact⟨k+1,by omega,by go_num,by rw[unhide HS],unhide HB3⟩
   case measure=>simp[intOf];omega
  ·have e:k=n:=by omega
   subst e
   have HT:Hid (Wb word (Z.take k)=Wb word Z):=by show _=_;rw[List.take_of_length_le (by rw[unhide HZ];exact Nat.le_refl _)]
   clear hb
   go_wp2
   go_ret
   exact⟨Pr (unhide HT),unhide HB⟩
def Sm(word:ByteArray)(Z:List Int)(l:List (Int×Int)):ByteArray:=((Wb word Z++⟨#[58]⟩)++Z3 l)++⟨#[10]⟩
theorem Vg(l:List (Int×Int))(h:chk l=0):(Z3 l).size≤400:=by
 unfold chk at h
 split at h
 ·cases h
 ·have:=Q8 l (by omega) h
  simpa[Z3,ByteArray.size] using this
theorem G1(word:ByteArray)(Z:List Int)(l:List (Int×Int))(hw:word.size≤10)(hz:Z.length≤2)(hr:∀ z∈Z,-10000000000≤z∧z≤10000000000)(hl:chk l=0):(Sm word Z l).size≤460:=by
 unfold Sm
 have h1:=W6 word Z hr
 have h2:=Vg l hl
 rw[Ue,ByteArray.size_append,Ue]
 have h3:22*Z.length≤44:=by omega
 omega
theorem Rt(a:Option Addr)(len cap:Nat)(l:List (Int×Int))(word:ByteArray)(b off n c:Nat)(Z:List Int)(t:ByteArray)(w:World)(hE:Env w)(hO:OpsAt w a len l)(hck:chk l=0)(hw:word.size≤10)(hn:n≤2)(hz:Z.length=n)(hl:b<w.heap.size)
  (hc:∀ i,i<n→w.cell? ⟨b,off+i,none⟩=some (.int .i64 (Z.getD i 0))) (hr:∀ z∈Z,-10000000000≤z∧z≤10000000000) (ht:Sm word Z l=t) :
  Calls Tryz.prog 107 #[.slice a len cap,.string word,.slice (some ⟨b,off,none⟩) n c] w fun e w'=>e = .returned (.string t)∧Below w.heap.size w w':=by
 have PR:=hide (Zaa a len cap l w hE hO)
 have e:prT l=Z3 l:=by unfold prT;rw[if_pos hck]
 rw[e,hck] at PR
 have R:Hid (∀ w',Below w.heap.size w w'→Calls Tryz.prog 52 #[.string word,.slice (some ⟨b,off,none⟩) n c] w' fun e w2=>e = .returned (.string (Wb word Z))∧Below w'.heap.size w' w2):=fun w' hb=>
  Ux word b off n c Z w' (hE.later hb) hw (by omega) hz (Nat.lt_of_lt_of_le hl hb.size) (fun i hi=>by rw[hb.cell (p:=⟨b,off+i,none⟩) hl];exact hc i hi) hr
 have s1:(Wb word Z).size≤54:=by have:=W6 word Z hr;omega
 have s2:=Vg l hck
 unfold Sm at ht
 obtain⟨A,hA⟩:∃ A,Wb word Z=A:=⟨_,rfl⟩
 obtain⟨B,hB⟩:∃ B,Z3 l=B:=⟨_,rfl⟩
 rw[hA] at R s1 ht
 rw[hB] at PR s2 ht
 have s3:(A++(⟨#[58]⟩:ByteArray)).size≤55:=by rw[Ue];omega
 have s4:((A++(⟨#[58]⟩:ByteArray))++B).size≤455:=by rw[ByteArray.size_append];omega
 have HT:=hide ht
 clear hE hO hck hz hc hr e hA hB ht
 go_enter Tryz.func107,Tryz.ntmps107
 go_wp2_with fail
 refine (unhide PR).mono ?_
 rintro e w1 ⟨rfl,hb1⟩
 have HB1:=hide hb1
 clear hb1
 go_wp2_with fail
 refine ((unhide R) w1 (unhide HB1)).mono ?_
 rintro e w2 ⟨rfl,hb2⟩
 have HB2:=hide (bel_on (unhide HB1) hb2)
 clear hb2
 go_wp2
 go_ret
 exact⟨Pr (unhide HT),unhide HB2⟩
def txB:ByteArray:=⟨#[116,120]⟩
def inB:ByteArray:=⟨#[105,110]⟩
def Zfg:ByteArray:=⟨#[111,117,116]⟩
def Wu(h:Int):ByteArray:=Wb txB [h]++⟨#[10]⟩
def Rc(x:InD):ByteArray:=Sm inB [x.1,x.2.1] x.2.2
def Qk(x:Z7):ByteArray:=Sm Zfg [x.1] x.2
def Yr(h:Int)(I:List InD):ByteArray:=I.foldl (fun t x=>t++Rc x) (Wu h)
def Xc(t:ByteArray)(O:List Z7):ByteArray:=O.foldl (fun t x=>t++Qk x) t
def Zv(t:TxD):ByteArray:=Xc (Yr t.1 t.2.1) t.2.2
theorem Rz(h:Int)(I:List InD)(x:InD):Yr h (I++[x])=Yr h I++Rc x:=by unfold Yr;rw[List.foldl_append];rfl
theorem Jt(t:ByteArray)(O:List Z7)(x:Z7):Xc t (O++[x])=Xc t O++Qk x:=by unfold Xc;rw[List.foldl_append];rfl
theorem Jv(h:Int)(hh:0≤h∧h≤1000):(Wu h).size≤30:=by
 unfold Wu
 have:=W6 txB [h] (fun z hz=>by simp at hz;omega)
 rw[Ue]
 have e:txB.size=2:=rfl
 simp only[List.length_cons,List.length_nil] at this
 omega
theorem Sq(x:InD)(h:Tm x=true∧chk x.2.2=0):(Rc x).size≤460:=by
 have hp:=(Q7 x).1 h.1
 exact G1 inB [x.1,x.2.1] x.2.2 (by decide) (by simp) (fun z hz=>by simp at hz;omega) h.2
theorem Ru(x:Z7)(h:(1≤x.1∧x.1≤1000000000)∧chk x.2=0):(Qk x).size≤460:=
 G1 Zfg [x.1] x.2 (by decide) (by simp) (fun z hz=>by simp at hz;omega) h.2
theorem Wt(h:Int)(I:List InD)(hh:0≤h∧h≤1000)(hI:∀ x∈I,Tm x=true∧chk x.2.2=0):(Yr h I).size≤30+460*I.length:=by
 have h1:=Qo Rc 460 I (Wu h) (fun x hx=>Sq x (hI x hx))
 have h2:=Jv h hh
 have h3:(Yr h I).size≤(Wu h).size+460*I.length:=h1
 omega
theorem Uy(t:ByteArray)(O:List Z7)(hO:∀ x∈O,(1≤x.1∧x.1≤1000000000)∧chk x.2=0):(Xc t O).size≤t.size+460*O.length:=
 Qo Qk 460 O t (fun x hx=>Ru x (hO x hx))
theorem one_new(w:World)(x:Value)(t:TypeId):(w.alloc (.cells #[x] t)).cell? ⟨w.heap.size,0,none⟩=some x:=by rw[World.cell?_alloc_at _ _ _ _ rfl];rfl
theorem Mf(h:Int)(ai ao:Option Addr)(ni ci no co:Nat)(I:List InD)(O:List Z7)(w:World)(hE:Env w)(hI:InsAt w ai ni I)(hO:OutsAt w ao no O)(sI:SlOk ai ni ci)(hx:Zj (h,I,O)=0) :
  Calls Tryz.prog 66 #[.agg #[.int .i64 h,.slice ai ni ci,.slice ao no co]] w fun e w'=>e = .returned (.tuple #[.string (Zv (h,I,O)),.int .i64 0])∧Below w.heap.size w w':=by
 have ok:=TxOk.of hx
 have hb:=bel_new w (.cells #[.int .i64 h,.slice ai ni ci,.slice ao no co] 74)
 obtain⟨n0,n1,n2⟩:=Wh w (.int .i64 h) (.slice ai ni ci) (.slice ao no co) 74
 have HB:=hide hb
 have C:=hide (Qz h ai ao ni ci no co I O _ (hI.later hb) (hO.later hb) sI)
 rw[hx] at C
 have N0:=hide n0
 have N1:=hide n1
 have N2:=hide n2
 have hi6:ni≤6:=by have:=ok.ins6;have:=hI.1;simp only at *;omega
 have ho6:no≤6:=by have:=ok.outs6;have:=hO.1;simp only at *;omega
 have hpos:0<no:=by have:=ok.some;have:=hO.1;simp only at *;omega
 have HI:=hide hI
 have HO:=hide hO
 have HE:=hide hE
 have HG:=hide ok.hgt
 have HII:=hide ok.ins
 have HOO:=hide ok.outs
 clear hb hI hO sI hx n0 n1 n2 hE ok
 go_enter Tryz.func66,Tryz.ntmps66
 go_wp2_with fail
 refine (unhide C).mono ?_
 rintro e w2 ⟨rfl,hb2⟩
 have m0:=cell_later hb2 (unhide N0)
 have M1:=hide (cell_later hb2 (unhide N1))
 have M2:=hide (cell_later hb2 (unhide N2))
 have s2:w.heap.size<w2.heap.size:=World.block_lt_of_cell? _ _ m0
 have hbw2:=bel_on (unhide HB) hb2
 have ba:=bel_new w2 (.cells #[.int .i64 h] 3)
 have R:=hide (Ux txB w2.heap.size 0 1 1 [h] (w2.alloc (.cells #[.int .i64 h] 3)) ((unhide HE).later (bel_on hbw2 ba)) (by decide) (by decide) rfl (by simp) (fun i hi=>by
  have e:i=0:=by omega
  subst e
  exact one_new w2 (.int .i64 h) 3) (fun z hz=>by have:=unhide HG;simp at hz;omega))
 have HBA:=hide ba
 have HB2:=hide hb2
 have HBW2:=hide hbw2
 have hs:=Jv h (unhide HG)
 have hs0:(Wb txB [h]).size≤29:=by
  have e:Wu h=Wb txB [h]++⟨#[10]⟩:=rfl
  rw[e,Ue] at hs
  omega
 obtain⟨T0,hT0⟩:∃ T0,Wb txB [h]=T0:=⟨_,rfl⟩
 have HT0:Hid (T0++⟨#[10]⟩=Wu h):=by show _=_;rw[←hT0];rfl
 rw[hT0] at R hs0
 clear hb2 hbw2 ba hs hT0
 go_wp2_with fail
 refine (unhide R).mono ?_
 rintro e w3 ⟨rfl,hb3⟩
 have hb3':=bel_on (unhide HBA) hb3
 have m1:=cell_later hb3' (unhide M1)
 have M2':=hide (cell_later hb3' (unhide M2))
 have s3:w.heap.size<w3.heap.size:=World.block_lt_of_cell? _ _ m1
 have HBW3:=hide (bel_on (unhide HBW2) hb3')
 clear hb3 hb3'
 go_wp2
 go_loopw [5,23] (fun s i wr=>∃ k:Nat,k≤ni∧i = .int .i64 k∧s = .string (Yr h (I.take k))∧Below w3.heap.size w3 wr) (fun _ i _=>ni - (intOf i).toNat)
 case atStart=>exact⟨0,Nat.zero_le _,rfl,by rw[unhide HT0];rfl,Below.refl _ _⟩
 case round=>
  obtain⟨k,hk,rfl,rfl,hbr⟩:=hrel
  have HBR:=hide hbr
  have hbw:=bel_on (unhide HBW3) hbr
  have HBW:=hide hbw
  by_cases hlt:k<ni
  ·have hlk:k<I.length:=by rw[(unhide HI).1];exact hlt
   obtain⟨b,off,rfl,hbl,hcell⟩:=((unhide HI).later hbw).2 (by omega)
   obtain⟨g1,g2,ka,kn,kc,g3,g4,_⟩:=hcell k hlk
   have hok:=(unhide HII) I[k] (List.getElem_mem hlk)
   have hS:=Rz h (I.take k) I[k]
   rw[←List.take_succ_eq_append_getElem hlk] at hS
   have hTs:(Yr h (I.take k)).size≤3000:=by
    have:=Wt h (I.take k) (unhide HG) (fun x hx=>(unhide HII) x (List.mem_of_mem_take hx))
    rw[List.length_take] at this
    omega
   have hXs:=Sq I[k] hok
   obtain⟨x,hx⟩:∃ x,I[k]=x:=⟨_,rfl⟩
   rw[hx] at g1 g2 g4 hok hS hXs
   obtain⟨x1,x2,key⟩:=x
   simp only at g1 g2 g3 g4
   have hp:=(Q7 _).1 hok.1
   simp only at hp
   obtain⟨T,hT⟩:∃ T,Yr h (I.take k)=T:=⟨_,rfl⟩
   obtain⟨X,hX⟩:∃ X,Rc (x1,x2,key)=X:=⟨_,rfl⟩
   rw[hT,hX] at hS
   rw[hT] at hTs ⊢
   rw[hX] at hXs
   have HS:=hide hS
   have b1:=bel_new wr (.cells #[.int .i64 x1,.int .i64 x2,.slice ka kn kc] 140)
   have b2:=bel_new (wr.alloc (.cells #[.int .i64 x1,.int .i64 x2,.slice ka kn kc] 140)) (.cells #[.int .i64 x1,.int .i64 x2] 3)
   have b12:=bel_on b1 b2
   have t2:=V6 (wr.alloc (.cells #[.int .i64 x1,.int .i64 x2,.slice ka kn kc] 140)) (.int .i64 x1) (.int .i64 x2) 3
   have esz:(wr.alloc (.cells #[.int .i64 x1,.int .i64 x2,.slice ka kn kc] 140)).heap.size=wr.heap.size+1:=by simp
   rw[esz] at t2
   have PL:=hide (Rt ka kn kc key inB (wr.heap.size+1) 0 2 2 [x1,x2] X ((wr.alloc (.cells #[.int .i64 x1,.int .i64 x2,.slice ka kn kc] 140)).alloc (.cells #[.int .i64 x1,.int .i64 x2] 3)) (((unhide HE).later hbw).later b12) (g4.later b12) hok.2 (by decide) (by decide) rfl (by simp) (fun i hi=>by
    have e:i=0∨i=1:=by omega
    rcases e with rfl|rfl
    ·exact t2.1
    ·exact t2.2) (fun z hz=>by simp at hz;omega) hX)
   have HB12:=hide b12
   clear hbr hbw hcell g4 hok hx hT hX hS b1 b2 b12 t2 esz hp
   go_wp2_with fail
   refine (unhide PL).mono ?_
   rintro e w4 ⟨rfl,hb4⟩
   have HB4:=hide ((unhide HBR).trans ((bel_on (unhide HB12) hb4).mono (unhide HBR).size))
   clear hb4
   go_wp2
   go_roundw
   case rel=>exact⟨k+1,by omega,by go_num,by rw[unhide HS],unhide HB4⟩
   case measure=>simp[intOf];omega
  ·have e:k=ni:=by omega
   subst e
   have HT:Hid (Yr h (I.take k)=Yr h I):=by show _=_;rw[List.take_of_length_le (by rw[(unhide HI).1];exact Nat.le_refl _)]
   have hTs:=Wt h I (unhide HG) (unhide HII)
   have hil:I.length≤6:=by rw[(unhide HI).1];exact hi6
   obtain⟨T1,hT1⟩:∃ T1,Yr h I=T1:=⟨_,rfl⟩
   rw[hT1] at HT hTs
   have HT1:=hide hT1
   have m2:=cell_later hbr (unhide M2')
   have s4:w.heap.size<wr.heap.size:=World.block_lt_of_cell? _ _ m2
   rw[unhide HT]
   clear hbr hT1 hk hlt
   go_wp2
   go_loopw [5,43] (fun s i wz=>∃ j:Nat,j≤no∧i = .int .i64 j∧s = .string (Xc T1 (O.take j))∧Below wr.heap.size wr wz) (fun _ i _=>no - (intOf i).toNat)
   case atStart=>exact⟨0,Nat.zero_le _,rfl,rfl,Below.refl _ _⟩
   case round=>
    obtain⟨j,hj,rfl,rfl,hbz⟩:=hrel
    have HBZ:=hide hbz
    have hbv:=bel_on (unhide HBW) hbz
    have HBV:=hide hbv
    by_cases hlt:j<no
    ·have hlk:j<O.length:=by rw[(unhide HO).1];exact hlt
     obtain⟨b,off,rfl,hbl,hcell⟩:=((unhide HO).later hbv).2 (by omega)
     obtain⟨g1,ka,kn,kc,g3,g4,_⟩:=hcell j hlk
     have hok:=(unhide HOO) O[j] (List.getElem_mem hlk)
     have hS:=Jt T1 (O.take j) O[j]
     rw[←List.take_succ_eq_append_getElem hlk] at hS
     have hTs2:(Xc T1 (O.take j)).size≤6000:=by
      have:=Uy T1 (O.take j) (fun x hx=>(unhide HOO) x (List.mem_of_mem_take hx))
      rw[List.length_take] at this
      omega
     have hXs:=Ru O[j] hok
     obtain⟨x,hx⟩:∃ x,O[j]=x:=⟨_,rfl⟩
     rw[hx] at g1 g4 hok hS hXs
     obtain⟨x1,key⟩:=x
     simp only at g1 g3 g4
     have hp:=hok.1
     simp only at hp
     obtain⟨T,hT⟩:∃ T,Xc T1 (O.take j)=T:=⟨_,rfl⟩
     obtain⟨X,hX⟩:∃ X,Qk (x1,key)=X:=⟨_,rfl⟩
     rw[hT,hX] at hS
     rw[hT] at hTs2 ⊢
     rw[hX] at hXs
     have HS:=hide hS
     have b1:=bel_new wr (.cells #[.int .i64 x1,.slice ka kn kc] 84)
     have b2:=bel_new (wr.alloc (.cells #[.int .i64 x1,.slice ka kn kc] 84)) (.cells #[.int .i64 x1] 3)
     have b12:=bel_on b1 b2
     have t2:=one_new (wr.alloc (.cells #[.int .i64 x1,.slice ka kn kc] 84)) (.int .i64 x1) 3
     have esz:(wr.alloc (.cells #[.int .i64 x1,.slice ka kn kc] 84)).heap.size=wr.heap.size+1:=by simp
     rw[esz] at t2
     have PL:=hide (Rt ka kn kc key Zfg (wr.heap.size+1) 0 1 1 [x1] X ((wr.alloc (.cells #[.int .i64 x1,.slice ka kn kc] 84)).alloc (.cells #[.int .i64 x1] 3)) (((unhide HE).later hbv).later b12) (g4.later b12) hok.2 (by decide) (by decide) rfl (by simp) (fun i hi=>by
      have e:i=0:=by omega
      subst e
      exact t2) (fun z hz=>by simp at hz;omega) hX)
     have HB12:=hide b12
     clear hbz hbv hcell g4 hok hx hT hX hS b1 b2 b12 t2 esz hp
     go_wp2_with fail
     refine (unhide PL).mono ?_
     rintro e w4 ⟨rfl,hb4⟩
     have HB4:=hide ((unhide HBZ).trans ((bel_on (unhide HB12) hb4).mono (unhide HBZ).size))
     clear hb4
     go_wp2
     go_roundw
     case rel=>exact⟨j+1,by omega,by go_num,by rw[unhide HS],unhide HB4⟩
     case measure=>simp[intOf];omega
    ·have HF:Hid (Xc T1 (O.take j)=Zv (h,I,O)):=by
      show _=_
      rw[List.take_of_length_le (by rw[(unhide HO).1];omega),←unhide HT1];rfl
     clear hbz hbv
     go_wp2
     go_ret2
     exact⟨De (unhide HF),unhide HBV⟩
theorem Ps(z:Int)(hz : -10000000000≤z∧z≤10000000000)(w:World)(hw:Env w):Calls Tryz.prog 80 #[.int .i64 z] w fun e w'=>e = .returned (.string (Y6 z))∧Below w.heap.size w w':=
 (Tryz.strconv_Itoa z (by omega) (by omega) w hw.tab).mono fun e w' ⟨h1,k,os,h2⟩=>⟨h1,by rw[h2];exact Lib.below_grow _ _ (Nat.le_refl _) k os⟩
theorem Zds(h:Int):Wu h=((⟨#[116,120,32]⟩:ByteArray)++Y6 h)++⟨#[10]⟩:=by
 apply U1
 simp[Wu,Wb,txB]
theorem Zhp(x1 x2:Int)(key:List (Int×Int)):Rc (x1,x2,key)=(((((((⟨#[105,110,32]⟩:ByteArray)++Y6 x1)++⟨#[32]⟩)++Y6 x2)++⟨#[58]⟩)++Z3 key)++⟨#[10]⟩):=by
 apply U1
 simp[Rc,Sm,Wb,inB]
theorem Zff(x1:Int)(key:List (Int×Int)):Qk (x1,key)=(((((⟨#[111,117,116,32]⟩:ByteArray)++Y6 x1)++⟨#[58]⟩)++Z3 key)++⟨#[10]⟩):=by
 apply U1
 simp[Qk,Sm,Wb,Zfg]
theorem Kr(h:Int)(ai ao:Option Addr)(ni ci no co:Nat)(I:List InD)(O:List Z7)(w:World)(hE:EnvF w)(hI:InsAt w ai ni I)(hO:OutsAt w ao no O)(hx:Zj (h,I,O)=0) :
  Calls Tryz.prog 36 #[.agg #[.int .i64 h,.slice ai ni ci,.slice ao no co]] w fun e w'=>e = .returned (.string (Zv (h,I,O)))∧Below w.heap.size w w':=by
 have ok:=TxOk.of hx
 have hb:=bel_new w (.cells #[.int .i64 h,.slice ai ni ci,.slice ao no co] 74)
 obtain⟨n0,n1,n2⟩:=Wh w (.int .i64 h) (.slice ai ni ci) (.slice ao no co) 74
 have hi6:ni≤6:=by have:=ok.ins6;have:=hI.1;simp only at *;omega
 have ho6:no≤6:=by have:=ok.outs6;have:=hO.1;simp only at *;omega
 have HG:=hide ok.hgt
 have HII:=hide ok.ins
 have HOO:=hide ok.outs
 have hh : -10000000000≤h∧h≤10000000000:=by have:=ok.hgt;simp only at this;omega
 have IT:=hide (Ps h hh _ (hE.later hb).envp.env)
 have HE:=hide hE
 have HI:=hide hI
 have HO:=hide hO
 have HB:=hide hb
 have N1:=hide n1
 have N2:=hide n2
 have HS0:=hide (Zds h)
 have s0:=X4 h hh
 obtain⟨A0,hA0⟩:∃ A0,Y6 h=A0:=⟨_,rfl⟩
 rw[hA0] at IT HS0 s0
 have s1:((⟨#[116,120,32]⟩:ByteArray)++A0).size≤24:=by rw[ByteArray.size_append];have:(⟨#[116,120,32]⟩:ByteArray).size=3:=rfl;omega
 clear hb n1 n2 hE hI hO hx ok hA0 hh
 go_enter Tryz.func36,Tryz.ntmps36
 go_wp2_with fail
 refine (unhide IT).mono ?_
 rintro e w3 ⟨rfl,hb3⟩
 have m1:=cell_later hb3 (unhide N1)
 have M2:=hide (cell_later hb3 (unhide N2))
 have l3:w.heap.size<w3.heap.size:=World.block_lt_of_cell? _ _ m1
 have HBW3:=hide (bel_on (unhide HB) hb3)
 clear hb3
 go_wp2
 go_loopw [3,16] (fun s i wr=>∃ k:Nat,k≤ni∧i = .int .i64 k∧s = .string (Yr h (I.take k))∧Below w3.heap.size w3 wr) (fun _ i _=>ni - (intOf i).toNat)
 case atStart=>exact⟨0,Nat.zero_le _,rfl,by rw[←unhide HS0];rfl,Below.refl _ _⟩
 case round=>
  obtain⟨k,hk,rfl,rfl,hbr⟩:=hrel
  have HBR:=hide hbr
  have hbw:=bel_on (unhide HBW3) hbr
  have HBW:=hide hbw
  by_cases hlt:k<ni
  ·have hlk:k<I.length:=by rw[(unhide HI).1];exact hlt
   obtain⟨b,off,rfl,hbl,hcell⟩:=((unhide HI).later hbw).2 (by omega)
   obtain⟨g1,g2,ka,kn,kc,g3,g4,_⟩:=hcell k hlk
   have hok:=(unhide HII) I[k] (List.getElem_mem hlk)
   have hS:=Rz h (I.take k) I[k]
   rw[←List.take_succ_eq_append_getElem hlk] at hS
   have hTs:(Yr h (I.take k)).size≤3000:=by
    have:=Wt h (I.take k) (unhide HG) (fun x hx=>(unhide HII) x (List.mem_of_mem_take hx))
    rw[List.length_take] at this
    omega
   obtain⟨x,hx⟩:∃ x,I[k]=x:=⟨_,rfl⟩
   rw[hx] at g1 g2 g4 hok hS
   obtain⟨x1,x2,key⟩:=x
   simp only at g1 g2 g3 g4
   have hp:=(Q7 _).1 hok.1
   simp only at hp
   obtain⟨T,hT⟩:∃ T,Yr h (I.take k)=T:=⟨_,rfl⟩
   rw[hT,Zhp] at hS
   rw[hT] at hTs ⊢
   obtain⟨X,hX⟩:∃ X,X=wr.alloc (.cells #[.int .i64 x1,.int .i64 x2,.slice ka kn kc] 140):=⟨_,rfl⟩
   have b1:Below wr.heap.size wr X:=by rw[hX];exact bel_new _ _
   have cx:=Wh wr (.int .i64 x1) (.int .i64 x2) (.slice ka kn kc) 140
   rw[←hX] at cx
   obtain⟨x0c,x1c,x2c⟩:=cx
   have EX:=((unhide HE).later hbw).later b1
   have I1:Hid (∀ w',Below X.heap.size X w'→Calls Tryz.prog 80 #[.int .i64 x1] w' fun e w2=>e = .returned (.string (Y6 x1))∧Below w'.heap.size w' w2):=fun w' hw'=>Ps x1 (by omega) w' (EX.later hw').envp.env
   have I2:Hid (∀ w',Below X.heap.size X w'→Calls Tryz.prog 80 #[.int .i64 x2] w' fun e w2=>e = .returned (.string (Y6 x2))∧Below w'.heap.size w' w2):=fun w' hw'=>Ps x2 (by omega) w' (EX.later hw').envp.env
   have OT:Hid (∀ w',Below X.heap.size X w'→Calls Tryz.prog 81 #[.slice ka kn kc] w' fun e w2=>e = .returned (.string (Z3 key))∧Below w'.heap.size w' w2):=fun w' hw'=>Si ka kn kc key w' (EX.later hw') ((g4.later b1).later hw') hok.2
   have z1:=X4 x1 (by omega)
   have z2:=X4 x2 (by omega)
   have z3:=Vg key hok.2
   obtain⟨A,hA⟩:∃ A,Y6 x1=A:=⟨_,rfl⟩
   obtain⟨B,hB⟩:∃ B,Y6 x2=B:=⟨_,rfl⟩
   obtain⟨C,hC⟩:∃ C,Z3 key=C:=⟨_,rfl⟩
   rw[hA] at I1 z1 hS
   rw[hB] at I2 z2 hS
   rw[hC] at OT z3 hS
   have y1:¬9223372036854775807<3+A.size:=by omega
   have y2:¬9223372036854775807<3+A.size+1:=by omega
   have y3:¬9223372036854775807<3+A.size+1+B.size:=by omega
   have y4:¬9223372036854775807<3+A.size+1+B.size+1:=by omega
   have y5:¬9223372036854775807<3+A.size+1+B.size+1+C.size:=by omega
   have y6:¬9223372036854775807<3+A.size+1+B.size+1+C.size+1:=by omega
   have y7:¬9223372036854775807<T.size+(3+A.size+1+B.size+1+C.size+1):=by omega
   have HS:=hide hS
   have HB1':=hide b1
   clear hbr hbw hcell g4 hok hx hT hS b1 hp hA hB hC EX
   go_wp2_with fail
   rw[←hX]
   clear hX
   go_region_held3 (fun w'=>Below X.heap.size X w'∧w'.cell? ⟨wr.heap.size,0,none⟩=some (.int .i64 x1)∧w'.cell? ⟨wr.heap.size,1,none⟩=some (.int .i64 x2)∧w'.cell? ⟨wr.heap.size,2,none⟩=some (.slice ka kn kc))
    (first
    | exact⟨Ma _,x0c,x1c,x2c⟩
    | (go_split_ands;refine⟨bel_on (by assumption) hbc,cell_later hbc (by assumption),cell_later hbc (by assumption),cell_later hbc (by assumption)⟩))
    (first
    | (go_at_call 80;go_split_ands;refine ((unhide I1) _ (by assumption)).mono ?_;rintro e w' ⟨rfl,hbc⟩)
    | (go_at_call 80;go_split_ands;refine ((unhide I2) _ (by assumption)).mono ?_;rintro e w' ⟨rfl,hbc⟩)
    | (go_at_call 81;go_split_ands;refine ((unhide OT) _ (by assumption)).mono ?_;rintro e w' ⟨rfl,hbc⟩))
   rename_i hH
   have HH:=hide ((unhide HBR).trans ((bel_on (unhide HB1') hH.1).mono (unhide HBR).size))
   clear hH
   go_wp2
   go_roundw
   case rel=>exact⟨k+1,by omega,by go_num,by rw[unhide HS],unhide HH⟩
   case measure=>simp[intOf];omega
  ·have e:k=ni:=by omega
   subst e
   have HT:Hid (Yr h (I.take k)=Yr h I):=by show _=_;rw[List.take_of_length_le (by rw[(unhide HI).1];exact Nat.le_refl _)]
   have hTs:=Wt h I (unhide HG) (unhide HII)
   have hil:I.length≤6:=by rw[(unhide HI).1];exact hi6
   obtain⟨T1,hT1⟩:∃ T1,Yr h I=T1:=⟨_,rfl⟩
   rw[hT1] at HT hTs
   have HT1:=hide hT1
   have m2:=cell_later hbr (unhide M2)
   have s4:w.heap.size<wr.heap.size:=World.block_lt_of_cell? _ _ m2
   rw[unhide HT]
   clear hbr hT1 hk hlt
   go_wp2
   go_loopw [3,43] (fun s i wz=>∃ j:Nat,j≤no∧i = .int .i64 j∧s = .string (Xc T1 (O.take j))∧Below wr.heap.size wr wz) (fun _ i _=>no - (intOf i).toNat)
   case atStart=>exact⟨0,Nat.zero_le _,rfl,rfl,Below.refl _ _⟩
   case round=>
    obtain⟨j,hj,rfl,rfl,hbz⟩:=hrel
    have HBZ:=hide hbz
    have hbv:=bel_on (unhide HBW) hbz
    have HBV:=hide hbv
    by_cases hlt:j<no
    ·have hlk:j<O.length:=by rw[(unhide HO).1];exact hlt
     obtain⟨b,off,rfl,hbl,hcell⟩:=((unhide HO).later hbv).2 (by omega)
     obtain⟨g1,ka,kn,kc,g3,g4,_⟩:=hcell j hlk
     have hok:=(unhide HOO) O[j] (List.getElem_mem hlk)
     have hS:=Jt T1 (O.take j) O[j]
     rw[←List.take_succ_eq_append_getElem hlk] at hS
     have hTs2:(Xc T1 (O.take j)).size≤6000:=by
      have:=Uy T1 (O.take j) (fun x hx=>(unhide HOO) x (List.mem_of_mem_take hx))
      rw[List.length_take] at this
      omega
     obtain⟨x,hx⟩:∃ x,O[j]=x:=⟨_,rfl⟩
     rw[hx] at g1 g4 hok hS
     obtain⟨x1,key⟩:=x
     simp only at g1 g3 g4
     have hp:=hok.1
     simp only at hp
     obtain⟨T,hT⟩:∃ T,Xc T1 (O.take j)=T:=⟨_,rfl⟩
     rw[hT,Zff] at hS
     rw[hT] at hTs2 ⊢
     obtain⟨X,hX⟩:∃ X,X=wr.alloc (.cells #[.int .i64 x1,.slice ka kn kc] 84):=⟨_,rfl⟩
     have b1:Below wr.heap.size wr X:=by rw[hX];exact bel_new _ _
     have cx:=V6 wr (.int .i64 x1) (.slice ka kn kc) 84
     rw[←hX] at cx
     obtain⟨x0c,x1c⟩:=cx
     have EX:=((unhide HE).later hbv).later b1
     have I1:Hid (∀ w',Below X.heap.size X w'→Calls Tryz.prog 80 #[.int .i64 x1] w' fun e w2=>e = .returned (.string (Y6 x1))∧Below w'.heap.size w' w2):=fun w' hw'=>Ps x1 (by omega) w' (EX.later hw').envp.env
     have OT:Hid (∀ w',Below X.heap.size X w'→Calls Tryz.prog 81 #[.slice ka kn kc] w' fun e w2=>e = .returned (.string (Z3 key))∧Below w'.heap.size w' w2):=fun w' hw'=>Si ka kn kc key w' (EX.later hw') ((g4.later b1).later hw') hok.2
     have z1:=X4 x1 (by omega)
     have z3:=Vg key hok.2
     obtain⟨A,hA⟩:∃ A,Y6 x1=A:=⟨_,rfl⟩
     obtain⟨C,hC⟩:∃ C,Z3 key=C:=⟨_,rfl⟩
     rw[hA] at I1 z1 hS
     rw[hC] at OT z3 hS
     have y1:¬9223372036854775807<4+A.size:=by omega
     have y2:¬9223372036854775807<4+A.size+1:=by omega
     have y3:¬9223372036854775807<4+A.size+1+C.size:=by omega
     have y4:¬9223372036854775807<4+A.size+1+C.size+1:=by omega
     have y5:¬9223372036854775807<T.size+(4+A.size+1+C.size+1):=by omega
     have HS:=hide hS
     have HB1':=hide b1
     clear hbz hbv hcell g4 hok hx hT hS b1 hp hA hC EX
     go_wp2_with fail
     rw[←hX]
     clear hX
     go_region_held3 (fun w'=>Below X.heap.size X w'∧w'.cell? ⟨wr.heap.size,0,none⟩=some (.int .i64 x1)∧w'.cell? ⟨wr.heap.size,1,none⟩=some (.slice ka kn kc))
      (first
      | exact⟨Ma _,x0c,x1c⟩
      | (go_split_ands;refine⟨bel_on (by assumption) hbc,cell_later hbc (by assumption),cell_later hbc (by assumption)⟩))
      (first
      | (go_at_call 80;go_split_ands;refine ((unhide I1) _ (by assumption)).mono ?_;rintro e w' ⟨rfl,hbc⟩)
      | (go_at_call 81;go_split_ands;refine ((unhide OT) _ (by assumption)).mono ?_;rintro e w' ⟨rfl,hbc⟩))
     rename_i hH
     have HH:=hide ((unhide HBZ).trans ((bel_on (unhide HB1') hH.1).mono (unhide HBZ).size))
     clear hH
     go_wp2
     go_roundw
     case rel=>exact⟨j+1,by omega,by go_num,by rw[unhide HS],unhide HH⟩
     case measure=>simp[intOf];omega
    ·have HF:Hid (Xc T1 (O.take j)=Zv (h,I,O)):=by
      show _=_
      rw[List.take_of_length_le (by rw[(unhide HO).1];omega),←unhide HT1];rfl
     clear hbz hbv
     go_wp2
     go_ret
     exact⟨by rw[←unhide HF];rfl,unhide HBV⟩
end Go.Proofs.YtepmnpapdknocaaGreatDoor
