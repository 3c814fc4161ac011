import Derived.Test.YtpikejjiignchaaGreatDoorG2
import Derived.Deep.RegionHeld3
set_option maxHeartbeats 3200000
set_option maxRecDepth 10000
namespace Go.Proofs.YtpikejjiignchaaGreatDoor
abbrev InD:=Int×Int×List (Int×Int)
abbrev Yc:=Int×List (Int×Int)
abbrev TxD:=Int×List InD×List Yc
def Pj(x:InD):Bool:=(decide (1≤x.1) && decide (x.1≤120)) && (decide (0≤x.2.1) && decide (x.2.1≤5))
def Wv(x y:InD):Bool:=decide (y.1=x.1) && decide (y.2.1=x.2.1)
def Wo(pre:List InD)(x:InD):Int:=if Pj x=false then 3 else if chk x.2.2≠0 then chk x.2.2 else if pre.any (Wv x) then 6 else 0
def Zy(pre:List InD):List InD→Int
 | []=>0
 | x :: r=>if Wo pre x=0 then Zy (pre++[x]) r else Wo pre x
def Yw(x:Yc):Int:=if x.1<1 then 3 else chk x.2
def Zx:List Yc→Int
 | []=>0
 | x :: r=>if Yw x=0 then Zx r else Yw x
def sm:Int→List Int→Int×Int
 | s,[]=>(s,0)
 | s,x :: l=>if 0≤x∧x≤1000000000 then (if s+x≤1000000000 then sm (s+x) l else (0,12)) else (0,3)
theorem Zbl(s:Int)(Z:List Int)(k:Nat)(hk:k<Z.length)(h1:0≤Z.getD k 0)(h2:Z.getD k 0≤1000000000)(h3:s+Z.getD k 0≤1000000000) :
  sm s (Z.drop k)=sm (s+Z.getD k 0) (Z.drop (k+1)):=by
 have e:Z.drop k=Z.getD k 0 :: Z.drop (k+1):=by
  rw[List.drop_eq_getElem_cons hk];simp[List.getD,hk]
 rw[e,sm,if_pos ⟨h1,h2⟩,if_pos h3]
theorem Zbm(s:Int)(Z:List Int)(k:Nat)(hk:k<Z.length)(h1:0≤Z.getD k 0)(h2:Z.getD k 0≤1000000000)(h3:1000000000<s+Z.getD k 0) :
  sm s (Z.drop k)=(0,12):=by
 have e:Z.drop k=Z.getD k 0 :: Z.drop (k+1):=by
  rw[List.drop_eq_getElem_cons hk];simp[List.getD,hk]
 rw[e,sm,if_pos ⟨h1,h2⟩,if_neg (by omega)]
theorem Aj(s:Int)(Z:List Int)(k:Nat)(hk:k<Z.length)(h:Z.getD k 0<0∨1000000000<Z.getD k 0) :
  sm s (Z.drop k)=(0,3):=by
 have e:Z.drop k=Z.getD k 0 :: Z.drop (k+1):=by
  rw[List.drop_eq_getElem_cons hk];simp[List.getD,hk]
 rw[e,sm,if_neg (by omega)]
theorem Zfu(s:Int)(Z:List Int)(k:Nat)(hk:Z.length≤k):sm s (Z.drop k)=(s,0):=by
 rw[List.drop_of_length_le hk];rfl
def Lk(t:TxD):Bool:=if t.2.1.length=0 then decide (1≤t.1) && decide (t.1≤1000) else decide (t.1=0)
def Zr(l:List Yc):Int:=if Zx l=0 then (sm 0 (l.map (·.1))).2 else Zx l
def Zo(t:TxD):Int:=
 if 6<t.2.1.length∨6<t.2.2.length then 2 else if t.2.2.length=0 then 4 else if Lk t=false then 3
 else if Zy [] t.2.1≠0 then Zy [] t.2.1 else Zr t.2.2
theorem G1(L:List InD)(k:Nat)(hk:k<L.length)(h:Wo (L.take k) L[k]=0):Zy (L.take k) (L.drop k)=Zy (L.take (k+1)) (L.drop (k+1)):=by
 rw[List.drop_eq_getElem_cons hk,Zy,if_pos h,List.take_succ_eq_append_getElem hk]
theorem G0(L:List InD)(k:Nat)(hk:k<L.length)(h:Wo (L.take k) L[k]≠0):Zy (L.take k) (L.drop k)=Wo (L.take k) L[k]:=by
 rw[List.drop_eq_getElem_cons hk,Zy,if_neg h]
theorem L4(L:List InD)(k:Nat)(hk:L.length≤k):Zy (L.take k) (L.drop k)=0:=by
 rw[List.drop_of_length_le hk];rfl
theorem Jo(L:List Yc)(k:Nat)(hk:k<L.length)(h:Yw L[k]=0):Zx (L.drop k)=Zx (L.drop (k+1)):=by
 rw[List.drop_eq_getElem_cons hk,Zx,if_pos h]
theorem Jn(L:List Yc)(k:Nat)(hk:k<L.length)(h:Yw L[k]≠0):Zx (L.drop k)=Yw L[k]:=by
 rw[List.drop_eq_getElem_cons hk,Zx,if_neg h]
theorem Ra(L:List Yc)(k:Nat)(hk:L.length≤k):Zx (L.drop k)=0:=by
 rw[List.drop_of_length_le hk];rfl
theorem De{pre:List InD}{x:InD}(h:Pj x=false):Wo pre x=3:=by unfold Wo;rw[if_pos h]
theorem L7{pre:List InD}{x:InD}(h:Pj x=true)(hk:chk x.2.2≠0):Wo pre x=chk x.2.2:=by
 unfold Wo;rw[if_neg (by rw[h];decide),if_pos hk]
theorem Pa{pre:List InD}{x:InD}(h:Pj x=true)(hk:chk x.2.2=0)(ht:pre.any (Wv x)=true):Wo pre x=6:=by
 unfold Wo;rw[if_neg (by rw[h];decide),if_neg (by rw[hk];decide),if_pos ht]
theorem Df{pre:List InD}{x:InD}(h:Pj x=true)(hk:chk x.2.2=0)(ht:pre.any (Wv x)=false):Wo pre x=0:=by
 unfold Wo;rw[if_neg (by rw[h];decide),if_neg (by rw[hk];decide),if_neg (by rw[ht];decide)]
open Go.RowKit
def RowsAt{α : Type}(R:World→Nat→Nat → α→Prop)(sz:Nat)(w:World)(a:Option Addr)(len:Nat)(l:List α):Prop:=
 l.length=len∧(0<len→∃ b off,a=some ⟨b,off,none⟩∧b<w.heap.size∧∀ i (h:i<l.length),R w b (off+i*sz) l[i])
def Dm{α : Type}(R:World→Nat→Nat → α→Prop):Prop:=∀ (w w':World) (b o:Nat) (x : α),Below w.heap.size w w'→R w b o x→R w' b o x
theorem RowsAt.later{α : Type}{R:World→Nat→Nat → α→Prop}(hR:Dm R){sz:Nat}{w w':World}{a:Option Addr}{len:Nat}{l:List α}(h:RowsAt R sz w a len l)(hb:Below w.heap.size w w'):RowsAt R sz w' a len l:=by
 refine⟨h.1,fun h0=>?_⟩
 obtain⟨b,off,e,hl,hc⟩:=h.2 h0
 exact⟨b,off,e,Nat.lt_of_lt_of_le hl hb.size,fun i hi=>hR w w' b _ _ hb (hc i hi)⟩
theorem RowsAt.nil{α : Type}{R:World→Nat→Nat → α→Prop}{sz:Nat}(w:World)(a:Option Addr):RowsAt R sz w a 0 []:=⟨rfl,fun h=>absurd h (by omega)⟩
theorem Zc{w w':World}{p:Addr}{v:Value}(hb:Below w.heap.size w w')(h:w.cell? p=some v):w'.cell? p=some v:=by
 rw[hb.cell (p:=p) (World.block_lt_of_cell? _ _ h)];exact h
def SlOk(a:Option Addr)(n c:Nat):Prop:=n≤c∧c≤maxLen∧(a=none→n=0∧c=0)
theorem SlOk.len{a:Option Addr}{n c:Nat}(h:SlOk a n c):n≤maxLen:=Nat.le_trans h.1 h.2.1
def InAt(w:World)(b o:Nat)(x:InD):Prop:=
 w.cell? ⟨b,o,none⟩=some (.int .i64 x.1)∧w.cell? ⟨b,o+1,none⟩=some (.int .i64 x.2.1)∧∃ a n c,w.cell? ⟨b,o+2,none⟩=some (.slice a n c)∧OpsAt w a n x.2.2∧SlOk a n c
def OutAt(w:World)(b o:Nat)(x:Yc):Prop:=
 w.cell? ⟨b,o,none⟩=some (.int .i64 x.1)∧∃ a n c,w.cell? ⟨b,o+1,none⟩=some (.slice a n c)∧OpsAt w a n x.2∧SlOk a n c
theorem InAt.kept:Dm InAt:=fun _ _ _ _ _ hb h=>by
 obtain⟨h1,h2,a,n,c,h3,h4,h5⟩:=h
 exact⟨Zc hb h1,Zc hb h2,a,n,c,Zc hb h3,h4.later hb,h5⟩
theorem OutAt.kept:Dm OutAt:=fun _ _ _ _ _ hb h=>by
 obtain⟨h1,a,n,c,h3,h4,h5⟩:=h
 exact⟨Zc hb h1,a,n,c,Zc hb h3,h4.later hb,h5⟩
def InsAt(w:World)(a:Option Addr)(len:Nat)(l:List InD):Prop:=RowsAt InAt 3 w a len l
def OutsAt(w:World)(a:Option Addr)(len:Nat)(l:List Yc):Prop:=RowsAt OutAt 2 w a len l
theorem InsAt.later{w w':World}{a:Option Addr}{len:Nat}{l:List InD}(h:InsAt w a len l)(hb:Below w.heap.size w w'):InsAt w' a len l:=RowsAt.later InAt.kept h hb
theorem OutsAt.later{w w':World}{a:Option Addr}{len:Nat}{l:List Yc}(h:OutsAt w a len l)(hb:Below w.heap.size w w'):OutsAt w' a len l:=RowsAt.later OutAt.kept h hb
theorem RowsAt.take{α : Type}{R:World→Nat→Nat → α→Prop}{sz:Nat}{w:World}{a:Option Addr}{len:Nat}{l:List α}(h:RowsAt R sz w a len l)(k:Nat)(hk:k≤len):RowsAt R sz w a k (l.take k):=by
 have hl:=h.1
 refine⟨by rw[List.length_take];omega,fun h0=>?_⟩
 obtain⟨b,off,e,hb,hc⟩:=h.2 (by omega)
 refine⟨b,off,e,hb,fun i hi=>?_⟩
 rw[List.length_take] at hi
 rw[List.getElem_take]
 exact hc i (by omega)
theorem Ze{w w1 w2:World}(h1:Below w.heap.size w w1)(h2:Below w1.heap.size w1 w2):Below w.heap.size w w2:=h1.trans (h2.mono h1.size)
theorem Zg(w:World)(o:Obj):Below w.heap.size w (w.alloc o):=(Below.refl _ _).alloc (Nat.le_refl _) _
theorem Ts(n:Int)(w:World)(h1:0≤n)(h2:n≤1000000000) :
  Calls Tryz.prog 224 #[.int .i64 n] w fun e w'=>e = .returned (.int .i64 0)∧w=w':=by
 go_enter Tryz.func224,Tryz.ntmps224
 go_wp2_with (go_at_call 114;refine (Vp _ _ _ _ h1 h2).mono ?_;rintro e w' ⟨rfl,rfl⟩)
 go_ret
 exact⟨rfl,rfl⟩
theorem Dk(n:Int)(w:World)(h:n<0∨1000000000<n) :
  Calls Tryz.prog 224 #[.int .i64 n] w fun e w'=>e = .returned (.int .i64 3)∧w=w':=by
 go_enter Tryz.func224,Tryz.ntmps224
 go_wp2_with (go_at_call 114;refine (Re _ _ _ _ h).mono ?_;rintro e w' ⟨rfl,rfl⟩)
 go_ret
 exact⟨rfl,rfl⟩
theorem Ziy(a:Option Addr)(len cap:Nat)(Z:List Int)(w:World)(h:RowAt w a len Z) :
  Calls Tryz.prog 188 #[.slice a len cap] w fun e w'=>e = .returned (.tuple #[.int .i64 (sm 0 Z).1,.int .i64 (sm 0 Z).2])∧w=w':=by
 obtain⟨hz,hm,hc⟩:=h
 unfold maxLen at hm
 rcases Nat.eq_zero_or_pos len with h0|h0
 ·subst h0
  have HZ:Hid (Z=[]):=List.eq_nil_of_length_eq_zero hz
  clear hz hc hm
  go_enter Tryz.func188,Tryz.ntmps188
  go_wp2
  refine wp_loop_rounds 1 ?_
  rw[rounds_succ]
  go_wp2
  go_ret2
  rw[HZ.out]
  exact⟨rfl,rfl⟩
 ·obtain⟨b,off,rfl,hcell⟩:=hc h0
  have HC:Hid (∀ i,i<len→w.cell? ⟨b,off+i,none⟩=some (.int .i64 (Z.getD i 0))):=hcell
  clear hc hcell
  go_enter Tryz.func188,Tryz.ntmps188
  go_wp2
  go_loop [4,10] (fun s i=>∃ (k:Nat) (x:Int),k≤len∧i = .int .i64 k∧s = .int .i64 x∧0≤x∧x≤1000000000∧Hid (sm 0 Z=sm x (Z.drop k))) (fun _ i=>len - (intOf i).toNat)
  case atStart=>exact⟨0,0,Nat.zero_le _,rfl,rfl,by decide,by decide,by exact rfl⟩
  case round=>
   obtain⟨k,x,hk,rfl,rfl,hx0,hx1,HS⟩:=hrel
   by_cases hlt:k<len
   ·have hck:=HC.out k hlt
    generalize hv:Z.getD k 0=v at hck
    have HV:Hid (Z.getD k 0=v):=hv
    clear hv
    by_cases hr:v<0∨1000000000<v
    ·go_wp2_with (go_at_call 224;refine (Dk _ _ hr).mono ?_;rintro e w' ⟨rfl,rfl⟩)
     go_ret2
     rw[HS.out,Aj x Z k (by omega) (by rw[HV.out];exact hr)]
     exact⟨rfl,rfl⟩
    ·have hr1:0≤v:=by omega
     have hr2:v≤1000000000:=by omega
     clear hr
     by_cases hf:1000000000<x+v
     ·go_wp2_with fail
      refine (Ts _ _ hr1 hr2).mono ?_
      rintro e w' ⟨rfl,rfl⟩
      go_wp2_with fail
      refine (Dk _ _ (.inr hf)).mono ?_
      rintro e w' ⟨rfl,rfl⟩
      go_wp2
      go_ret2
      rw[HS.out,Zbm x Z k (by omega) (by rw[HV.out];exact hr1) (by rw[HV.out];exact hr2) (by rw[HV.out];exact hf)]
      exact⟨rfl,rfl⟩
     ·have hf2:x+v≤1000000000:=by omega
      have hf1:0≤x+v:=by omega
      clear hf
      go_wp2_with fail
      refine (Ts _ _ hr1 hr2).mono ?_
      rintro e w' ⟨rfl,rfl⟩
      go_wp2_with fail
      refine (Ts _ _ hf1 hf2).mono ?_
      rintro e w' ⟨rfl,rfl⟩
      go_wp2
      go_round
      case rel=>
       refine⟨k+1,x+v,by omega,by go_num,rfl,by omega,by omega,?_⟩
       show sm 0 Z=_
       rw[HS.out,Zbl x Z k (by omega) (by rw[HV.out];exact hr1) (by rw[HV.out];exact hr2) (by rw[HV.out];exact hf2),HV.out]
      case measure=>simp[intOf];omega
   ·go_wp2
    go_ret2
    rw[HS.out,Zfu x Z k (by omega)]
    exact⟨rfl,rfl⟩
theorem Je(x y:Int)(b:Bool)(w:World)(hb:((decide (1≤x) && decide (x≤120)) && (decide (0≤y) && decide (y≤5)))=b) :
  Calls Tryz.prog 184 #[.agg #[.int .i64 x,.int .i64 y]] w fun e w'=>e = .returned (.bool b)∧Below w.heap.size w w':=by
 have HB:=Zb (Zg w (.cells #[.int .i64 x,.int .i64 y] 99))
 by_cases h1:1≤x∧x≤120
 ·have e1:(decide (1≤x) && decide (x≤120))=true:=by simp[h1.1,h1.2]
  obtain⟨c,hc⟩:∃ c,(decide (0≤y) && decide (y≤5))=c:=⟨_,rfl⟩
  rw[e1,hc,Bool.true_and] at hb
  subst hb
  have C1:Hid (∀ w,Calls Tryz.prog 114 #[.int .i64 x,.int .i64 1,.int .i64 120] w fun e w'=>e = .returned (.bool true)∧w=w'):=fun w=>Yu x 1 120 true w e1.symm
  have C2:Hid (∀ w,Calls Tryz.prog 114 #[.int .i64 y,.int .i64 0,.int .i64 5] w fun e w'=>e = .returned (.bool c)∧w=w'):=fun w=>Yu y 0 5 c w hc.symm
  clear e1 hc h1
  go_enter Tryz.func184,Tryz.ntmps184
  go_wp2_with fail
  refine ((Za C1) _).mono ?_
  rintro e w' ⟨rfl,rfl⟩
  go_wp2_with fail
  refine ((Za C2) _).mono ?_
  rintro e w' ⟨rfl,rfl⟩
  go_wp2
  go_ret
  exact⟨rfl,Za HB⟩
 ·have e1:(decide (1≤x) && decide (x≤120))=false:=by
   rw[Bool.and_eq_false_iff,decide_eq_false_iff_not,decide_eq_false_iff_not];omega
  rw[e1,Bool.false_and] at hb
  subst hb
  have C1:Hid (∀ w,Calls Tryz.prog 114 #[.int .i64 x,.int .i64 1,.int .i64 120] w fun e w'=>e = .returned (.bool false)∧w=w'):=fun w=>Yu x 1 120 false w e1.symm
  clear e1 h1
  go_enter Tryz.func184,Tryz.ntmps184
  go_wp2_with fail
  refine ((Za C1) _).mono ?_
  rintro e w' ⟨rfl,rfl⟩
  go_wp2
  go_ret
  exact⟨rfl,Za HB⟩
theorem Zfy(x y x' y':Int)(a:Option Addr)(n c:Nat)(p:Nat)(b:Bool)(w:World)(h1:w.cell? ⟨p,0,none⟩=some (.int .i64 x'))(h2:w.cell? ⟨p,1,none⟩=some (.int .i64 y'))(hp:p<w.heap.size)
  (hb:(decide (x=x') && decide (y=y'))=b) :
  Calls Tryz.prog 187 #[.agg #[.int .i64 x,.int .i64 y,.slice a n c],.pointer (some ⟨p,0,none⟩)] w fun e w'=>e = .returned (.bool b)∧Below w.heap.size w w':=by
 subst hb
 have HB:=Zb (Zg w (.cells #[.int .i64 x,.int .i64 y,.slice a n c] 124))
 by_cases hx:x=x'
 ·subst hx
  by_cases hy:y=y'
  ·subst hy
   rw[decide_eq_true rfl,decide_eq_true rfl]
   go_enter Tryz.func187,Tryz.ntmps187
   go_wp2
   go_ret
   exact⟨rfl,Za HB⟩
  ·rw[decide_eq_true rfl,decide_eq_false hy]
   go_enter Tryz.func187,Tryz.ntmps187
   go_wp2
   go_ret
   exact⟨rfl,Za HB⟩
 ·rw[decide_eq_false hx,Bool.false_and]
  go_enter Tryz.func187,Tryz.ntmps187
  go_wp2
  go_ret
  exact⟨rfl,Za HB⟩
def Te(x:InD):List InD→Nat→Int
 | [],_=>-1
 | y :: r,k=>if Wv x y then k else Te x r (k+1)
theorem Zbs(x:InD):∀ (l:List InD) (k:Nat),decide (0≤Te x l k)=l.any (Wv x)
 | [],_=>rfl
 | y :: r,k=>by
  unfold Te
  by_cases h:Wv x y=true
  ·rw[if_pos h];simp[h]
  ·rw[if_neg h,Zbs x r (k+1)];simp[h]
theorem Zdk(x:InD)(l:List InD)(k:Nat)(h:k<l.length):Te x (l.drop k) k=if Wv x l[k] then (k:Int) else Te x (l.drop (k+1)) (k+1):=by
 rw[List.drop_eq_getElem_cons h];rfl
theorem Fe(b off n c:Nat)(l:List InD)(x:InD)(p:Nat)(w:World)(hz:l.length=n)(hn:n≤6)(hc:∀ i (h:i<l.length),InAt w b (off+i*3) l[i])
  (h1:w.cell? ⟨p,0,none⟩=some (.int .i64 x.1)) (h2:w.cell? ⟨p,1,none⟩=some (.int .i64 x.2.1)) :
  Calls Tryz.prog 223 #[.slice (some ⟨b,off,none⟩) n c,.func (.func 187) #[] #[.pointer (some ⟨p,0,none⟩)]] w fun e w'=>e = .returned (.int .i64 (Te x l 0))∧Below w.heap.size w w':=by
 have HC:=Zb hc
 have HZ:=Zb hz
 have H1:=Zb h1
 have H2:=Zb h2
 clear hc hz h1 h2
 go_enter Tryz.func223,Tryz.ntmps223
 go_wp2
 go_loopw [5,8] (fun _ i wr=>∃ k:Nat,k≤n∧i = .int .i64 k∧Hid (Te x l 0=Te x (l.drop k) k)∧Below w.heap.size w wr) (fun _ i _=>n - (intOf i).toNat)
 case atStart=>exact⟨0,Nat.zero_le _,rfl,rfl,Below.refl _ _⟩
 case round=>
  obtain⟨k,hk,rfl,A,hb⟩:=hrel
  have HB:=Zb hb
  by_cases hlt:k<n
  ·have hlk:k<l.length:=by rw[Za HZ];exact hlt
   have hin:=InAt.kept _ _ _ _ _ hb ((Za HC) k hlk)
   have S:=Zb (Zdk x l k hlk)
   obtain⟨y,hy⟩:∃ y,l[k]=y:=⟨_,rfl⟩
   rw[hy] at hin S
   obtain⟨g1,g2,ka,kn,kc,g3,_,_⟩:=hin
   have C1:Hid (∀ q,Wv x y=q→Calls Tryz.prog 187 #[.agg #[.int .i64 y.1,.int .i64 y.2.1,.slice ka kn kc],.pointer (some ⟨p,0,none⟩)] wr fun e w'=>e = .returned (.bool q)∧Below wr.heap.size wr w'):=
    fun q hq=>Zfy y.1 y.2.1 x.1 x.2.1 ka kn kc p q wr (Zc hb (Za H1)) (Zc hb (Za H2)) (World.block_lt_of_cell? _ _ (Zc hb (Za H1))) hq
   by_cases hs:Wv x y=true
   ·have S2:Hid (Te x l 0=k):=by show _=_;rw[Za A,Za S,if_pos hs]
    have C2:=Zb ((Za C1) true hs)
    clear S A hs C1 hb hy
    go_wp2_with fail
    refine (Za C2).mono ?_
    rintro e w' ⟨rfl,hb'⟩
    have HB':=Zb (Ze (Za HB) hb')
    clear hb'
    go_wp2
    go_ret
    exact⟨by rw[Za S2];rfl,Za HB'⟩
   ·have hs':Wv x y=false:=by simpa using hs
    have S2:Hid (Te x l 0=Te x (l.drop (k+1)) (k+1)):=by show _=_;rw[Za A,Za S,if_neg hs]
    have C2:=Zb ((Za C1) false hs')
    clear S A hs hs' C1 hb hy
    go_wp2_with fail
    refine (Za C2).mono ?_
    rintro e w' ⟨rfl,hb'⟩
    have HB':=Zb (Ze (Za HB) hb')
    clear hb'
    go_wp2
    go_roundw
    case rel=>exact⟨k+1,by omega,by go_num,S2,Za HB'⟩
    case measure=>simp[intOf];omega
  ·have S2:Hid (Te x l 0 = -1):=by
    show _=_
    rw[Za A,List.drop_of_length_le (by rw[Za HZ];omega)];rfl
   clear A hb
   go_wp2
   go_ret
   exact⟨by rw[Za S2];rfl,Za HB⟩
theorem Ff(a:Option Addr)(c:Nat)(v:Value)(w:World) :
  Calls Tryz.prog 223 #[.slice a 0 c,v] w fun e w'=>e = .returned (.int .i64 (-1))∧w=w':=by
 go_enter Tryz.func223,Tryz.ntmps223
 go_wp2
 refine wp_loop_rounds 1 ?_
 rw[rounds_succ]
 go_wp2
 go_ret
 exact⟨rfl,rfl⟩
theorem B9(a:Option Addr)(n c:Nat)(l:List InD)(x:InD)(p:Nat)(w:World)(hn:n≤6)(h:InsAt w a n l)
  (h1:w.cell? ⟨p,0,none⟩=some (.int .i64 x.1)) (h2:w.cell? ⟨p,1,none⟩=some (.int .i64 x.2.1)) :
  Calls Tryz.prog 223 #[.slice a n c,.func (.func 187) #[] #[.pointer (some ⟨p,0,none⟩)]] w fun e w'=>e = .returned (.int .i64 (Te x l 0))∧Below w.heap.size w w':=by
 obtain⟨hz,hc⟩:=h
 by_cases h0:n=0
 ·subst h0
  have e:l=[]:=List.length_eq_zero_iff.1 hz
  subst e
  exact (Ff a c _ w).mono fun e w' ⟨q1,q2⟩=>⟨q1,q2 ▸ Below.refl _ _⟩
 ·obtain⟨b,off,rfl,_,hcell⟩:=hc (by omega)
  exact Fe b off n c l x p w hz hn hcell h1 h2
theorem Rz(a:Option Addr)(n c:Nat)(l:List InD)(x:InD)(p:Nat)(o:Bool)(w:World)(hn:n≤6)(h:InsAt w a n l)
  (h1:w.cell? ⟨p,0,none⟩=some (.int .i64 x.1)) (h2:w.cell? ⟨p,1,none⟩=some (.int .i64 x.2.1)) (ho:l.any (Wv x)=o) :
  Calls Tryz.prog 186 #[.slice a n c,.func (.func 187) #[] #[.pointer (some ⟨p,0,none⟩)]] w fun e w'=>e = .returned (.bool o)∧Below w.heap.size w w':=by
 have E:Hid (decide (0≤Te x l 0)=o):=by show _=_;rw[Zbs,ho]
 have C:=B9 a n c l x p w hn h h1 h2
 obtain⟨z,hz⟩:∃ z,Te x l 0=z:=⟨_,rfl⟩
 rw[hz] at C E
 have CC:=Zb C
 clear C hz h ho h1 h2
 cases o with
 | true=>
  have h0:0≤z:=of_decide_eq_true (Za E)
  go_enter Tryz.func186,Tryz.ntmps186
  go_wp2_with fail
  refine (Za CC).mono ?_
  rintro e w' ⟨rfl,hb⟩
  have HB:=Zb hb
  clear hb
  go_wp2
  go_ret
  exact⟨rfl,Za HB⟩
 | false=>
  have h2:decide (0≤z)=false:=Za E
  have h1:z<0:=by have:=of_decide_eq_false h2;omega
  go_enter Tryz.func186,Tryz.ntmps186
  go_wp2_with fail
  refine (Za CC).mono ?_
  rintro e w' ⟨rfl,hb⟩
  have HB:=Zb hb
  clear hb
  go_wp2
  go_ret
  exact⟨rfl,Za HB⟩
theorem Wy(w:World)(x y z:Value)(t:TypeId):(w.alloc (.cells #[x,y,z] t)).cell? ⟨w.heap.size,0,none⟩=some x∧(w.alloc (.cells #[x,y,z] t)).cell? ⟨w.heap.size,1,none⟩=some y∧(w.alloc (.cells #[x,y,z] t)).cell? ⟨w.heap.size,2,none⟩=some z:=
 ⟨by rw[World.cell?_alloc_at _ _ _ _ rfl];rfl,by rw[World.cell?_alloc_at _ _ _ _ rfl];rfl,by rw[World.cell?_alloc_at _ _ _ _ rfl];rfl⟩
theorem Uj(w:World)(x y:Value)(t:TypeId):(w.alloc (.cells #[x,y] t)).cell? ⟨w.heap.size,0,none⟩=some x∧(w.alloc (.cells #[x,y] t)).cell? ⟨w.heap.size,1,none⟩=some y:=
 ⟨by rw[World.cell?_alloc_at _ _ _ _ rfl];rfl,by rw[World.cell?_alloc_at _ _ _ _ rfl];rfl⟩
theorem Lz(a:Option Addr)(len cap:Nat)(l:List (Int×Int))(x:Int)(w:World)(hx:chk l=x)(h:OpsAt w a len l) :
  Calls Tryz.prog 185 #[.slice a len cap] w fun e w'=>e = .returned (.int .i64 x)∧Below w.heap.size w w':=by
 subst hx;exact Uo a len cap l w h
theorem Mv(b off n c:Nat)(L:List InD)(w:World)(hn:n≤6)(hcap:n≤c)(hz:L.length=n)(hlb:b<w.heap.size)(hc:∀ i (h:i<L.length),InAt w b (off+i*3) L[i]) :
  Calls Tryz.prog 156 #[.slice (some ⟨b,off,none⟩) n c] w fun e w'=>e = .returned (.int .i64 (Zy [] L))∧Below w.heap.size w w':=by
 have HC:=Zb hc
 have HZ:=Zb hz
 clear hc hz
 go_enter Tryz.func156,Tryz.ntmps156
 go_wp2
 go_loopw [8] (fun i wr=>∃ k:Nat,k≤n∧i = .int .i64 k∧Hid (Zy [] L=Zy (L.take k) (L.drop k))∧Below w.heap.size w wr) (fun i _=>n - (intOf i).toNat)
 case atStart=>exact⟨0,Nat.zero_le _,rfl,rfl,Below.refl _ _⟩
 case round=>
  obtain⟨k,hk,rfl,A,hb⟩:=hrel
  have HB:=Zb hb
  by_cases hlt:k<n
  ·have hlk:k<L.length:=by rw[Za HZ];exact hlt
   have hin:=InAt.kept _ _ _ _ _ hb ((Za HC) k hlk)
   have IA:Hid (InsAt wr (some ⟨b,off,none⟩) k (L.take k)):=by
    have h0:InsAt wr (some ⟨b,off,none⟩) n L:=⟨Za HZ,fun _=>⟨b,off,rfl,Nat.lt_of_lt_of_le hlb hb.size,fun i hi=>InAt.kept _ _ _ _ _ hb ((Za HC) i hi)⟩⟩
    exact RowsAt.take h0 k hk
   have ST:=Zb (G0 L k hlk)
   have SS:=Zb (G1 L k hlk)
   obtain⟨x,hx⟩:∃ x,L[k]=x:=⟨_,rfl⟩
   rw[hx] at hin ST SS
   obtain⟨x1,x2,key⟩:=x
   obtain⟨g1,g2,ka,kn,kc,g3,g4,_⟩:=hin
   simp only at g1 g2 g3 g4
   have hba:=Zg wr (.cells #[.int .i64 x1,.int .i64 x2,.slice ka kn kc] 124)
   obtain⟨n1,n2,n3⟩:=Wy wr (.int .i64 x1) (.int .i64 x2) (.slice ka kn kc) 124
   have HBA:=Zb hba
   have KO:=Zb (g4.later hba)
   have N1:=Zb n1
   have N2:=Zb n2
   have N3:=Zb n3
   clear hb hx g4 hba n1 n2 n3
   cases hp:Pj (x1,x2,key) with
   | false=>
    have C1:=Zb (Je x1 x2 false _ hp:Calls Tryz.prog 184 _ (wr.alloc (.cells #[.int .i64 x1,.int .i64 x2,.slice ka kn kc] 124)) _)
    have R:Hid (Zy [] L=3):=by
     have e:=De (pre:=L.take k) hp
     show _=_
     rw[Za A,(Za ST) (by rw[e];decide),e]
    clear A ST SS hp IA
    go_wp2_with fail
    refine (Za C1).mono ?_
    rintro e w2 ⟨rfl,hb2⟩
    have HB2:=Zb (Ze (Ze (Za HB) (Za HBA)) hb2)
    clear hb2
    go_wp2
    go_ret
    exact⟨by rw[Za R];rfl,Za HB2⟩
   | true=>
    have C1:=Zb (Je x1 x2 true _ hp:Calls Tryz.prog 184 _ (wr.alloc (.cells #[.int .i64 x1,.int .i64 x2,.slice ka kn kc] 124)) _)
    have HP:=Zb hp
    clear hp
    by_cases hk0:chk key=0
    ·cases ht:(L.take k).any (Wv (x1,x2,key)) with
     | true=>
      have R:Hid (Zy [] L=6):=by
       have e:=Pa (pre:=L.take k) (Za HP) hk0 ht
       show _=_
       rw[Za A,(Za ST) (by rw[e];decide),e]
      have HT:=Zb ht
      have HK:=Zb hk0
      clear A ST SS ht hk0
      go_wp2_with fail
      refine (Za C1).mono ?_
      rintro e w2 ⟨rfl,hb2⟩
      have m3:=Zc hb2 (Za N3)
      have HB2:=Zb hb2
      have HB2':=Zb (Ze (Za HBA) hb2)
      have hs2:wr.heap.size<w2.heap.size:=World.block_lt_of_cell? _ _ m3
      clear hb2
      go_wp2_with fail
      refine (Lz ka kn kc key 0 _ (Za HK) ((Za KO).later (Za HB2))).mono ?_
      rintro e w3 ⟨rfl,hb3⟩
      have HB3:=Zb (Ze (Za HB2') hb3)
      have CT:=Zb (Rz (some ⟨b,off,none⟩) k c (L.take k) (x1,x2,key) wr.heap.size true w3 (by omega) ((Za IA).later (Za HB3)) (Zc hb3 (Zc (Za HB2) (Za N1))) (Zc hb3 (Zc (Za HB2) (Za N2))) (Za HT))
      clear hb3 m3
      go_wp2_with fail
      refine (Za CT).mono ?_
      rintro e w4 ⟨rfl,hb4⟩
      have HB4:=Zb (Ze (Ze (Za HB) (Za HB3)) hb4)
      clear hb4
      go_wp2
      go_ret
      exact⟨by rw[Za R];rfl,Za HB4⟩
     | false=>
      have R:Hid (Zy [] L=Zy (L.take (k+1)) (L.drop (k+1))):=by
       have e:=Df (pre:=L.take k) (Za HP) hk0 ht
       show _=_
       rw[Za A,(Za SS) e]
      have HT:=Zb ht
      have HK:=Zb hk0
      clear A ST SS ht hk0
      go_wp2_with fail
      refine (Za C1).mono ?_
      rintro e w2 ⟨rfl,hb2⟩
      have m3:=Zc hb2 (Za N3)
      have HB2:=Zb hb2
      have HB2':=Zb (Ze (Za HBA) hb2)
      have hs2:wr.heap.size<w2.heap.size:=World.block_lt_of_cell? _ _ m3
      clear hb2
      go_wp2_with fail
      refine (Lz ka kn kc key 0 _ (Za HK) ((Za KO).later (Za HB2))).mono ?_
      rintro e w3 ⟨rfl,hb3⟩
      have HB3:=Zb (Ze (Za HB2') hb3)
      have CT:=Zb (Rz (some ⟨b,off,none⟩) k c (L.take k) (x1,x2,key) wr.heap.size false w3 (by omega) ((Za IA).later (Za HB3)) (Zc hb3 (Zc (Za HB2) (Za N1))) (Zc hb3 (Zc (Za HB2) (Za N2))) (Za HT))
      clear hb3 m3
      go_wp2_with fail
      refine (Za CT).mono ?_
      rintro e w4 ⟨rfl,hb4⟩
      have HB4:=Zb (Ze (Ze (Za HB) (Za HB3)) hb4)
      clear hb4
      go_wp2
      go_roundw
      case rel=>exact⟨k+1,by omega,by go_num,R,Za HB4⟩
      case measure=>simp[intOf];omega
    ·obtain⟨z,hz⟩:∃ z,chk key=z:=⟨_,rfl⟩
     have R:Hid (Zy [] L=z):=by
      have e:=L7 (pre:=L.take k) (Za HP) hk0
      show _=_
      rw[Za A,(Za ST) (by rw[e];exact hk0),e];exact hz
     have HK:=Zb hz
     rw[hz] at hk0
     have gz:(z != 0)=true:=by simp[hk0]
     clear A ST SS hz hk0 IA
     go_wp2_with fail
     refine (Za C1).mono ?_
     rintro e w2 ⟨rfl,hb2⟩
     have m3:=Zc hb2 (Za N3)
     have HB2:=Zb hb2
     have HB2':=Zb (Ze (Za HBA) hb2)
     have hs2:wr.heap.size<w2.heap.size:=World.block_lt_of_cell? _ _ m3
     clear hb2
     go_wp2_with fail
     refine (Lz ka kn kc key z _ (Za HK) ((Za KO).later (Za HB2))).mono ?_
     rintro e w3 ⟨rfl,hb3⟩
     have HB3:=Zb (Ze (Ze (Za HB) (Za HB2')) hb3)
     clear hb3 m3
     go_wp2
     go_ret
     exact⟨by rw[Za R];rfl,Za HB3⟩
  ·have R:Hid (Zy [] L=0):=by show _=_;rw[Za A,L4 L k (by rw[Za HZ];omega)]
   clear A hb
   go_wp2
   go_ret
   exact⟨by rw[Za R];rfl,Za HB⟩
theorem Mw(a:Option Addr)(c:Nat)(w:World) :
  Calls Tryz.prog 156 #[.slice a 0 c] w fun e w'=>e = .returned (.int .i64 0)∧w=w':=by
 go_enter Tryz.func156,Tryz.ntmps156
 go_wp2
 refine wp_loop_rounds 1 ?_
 rw[rounds_succ]
 go_wp2
 go_ret
 exact⟨rfl,rfl⟩
theorem G3(a:Option Addr)(n c:Nat)(L:List InD)(x:Int)(w:World)(hn:n≤6)(hs:SlOk a n c)(h:InsAt w a n L)(hx:Zy [] L=x) :
  Calls Tryz.prog 156 #[.slice a n c] w fun e w'=>e = .returned (.int .i64 x)∧Below w.heap.size w w':=by
 subst hx
 obtain⟨hz,hc⟩:=h
 by_cases h0:n=0
 ·subst h0
  have e:L=[]:=List.length_eq_zero_iff.1 hz
  subst e
  exact (Mw a c w).mono fun e w' ⟨q1,q2⟩=>⟨q1,q2 ▸ Below.refl _ _⟩
 ·obtain⟨b,off,rfl,hl,hcell⟩:=hc (by omega)
  exact Mv b off n c L w hn hs.1 hz hl hcell
theorem Tryz.infoInt:(Tryz.prog.info? 3).map (fun i=>(i.zero,i.size,i.bytes))=some (some (.int .i64 0),1,8):=by kernel_rfl
def Zci(L:List Yc)(j:Nat):Value:=.int .i64 ((L.map (·.1)).getD j 0)
theorem Tn{x:Yc}(h:x.1<1):Yw x=3:=by unfold Yw;rw[if_pos h]
theorem Vu{x:Yc}(h:¬x.1<1):Yw x=chk x.2:=by unfold Yw;rw[if_neg h]
theorem Mc(b off n c:Nat)(L:List Yc)(w:World)(hn:n≤6)(hpos:0<n)(hz:L.length=n)(hc:∀ i (h:i<L.length),OutAt w b (off+i*2) L[i]) :
  Calls Tryz.prog 157 #[.slice (some ⟨b,off,none⟩) n c] w fun e w'=>e = .returned (.int .i64 (Zr L))∧Below w.heap.size w w':=by
 obtain⟨i0,hi,hz0,hz1,hz2⟩:=info_parts Tryz.infoInt
 have HC:=Zb hc
 have HZ:=Zb hz
 have HP:=Zb hpos
 clear hc hz hpos
 go_enter Tryz.func157,Tryz.ntmps157
 go_wp2_with (at_make;refine wpList_make_full _ rfl _ _ 25 rfl w.heap.size 3 i0 (.int .i64 0) 1 Tryz.underlying25 hi hz0 hz1 .i64 .i64 _ _ n rfl rfl rfl rfl (by rw[hz2];omega) (by unfold maxLen;omega) (Nat.le_refl _) ?_;intro w2 hown2 hgrow2)
 have hst:FillV w.heap.size 3 n (Zci L) w w2 0:=⟨⟨_,hown2,fun j hj=>absurd hj (by omega)⟩,(Below.refl _ _).grown hgrow2 (Nat.le_refl _) (fun k h=>by cases h)⟩
 have HST:=Zb hst
 clear hst hown2 hgrow2
 go_loopw [14] (fun i wr=>∃ k:Nat,k≤n∧i = .int .i64 k∧Hid (Zx L=Zx (L.drop k))∧FillV w.heap.size 3 n (Zci L) w wr k) (fun i _=>n - (intOf i).toNat)
 case atStart=>exact⟨0,Nat.zero_le _,rfl,rfl,Za HST⟩
 case round=>
  obtain⟨k,hk,rfl,A,hfl⟩:=hrel
  have HF:=Zb hfl
  have hb:Below w.heap.size w wr:=hfl.bel
  have HB:=Zb hb
  by_cases hlt:k<n
  ·have hlk:k<L.length:=by rw[Za HZ];exact hlt
   have hin:=OutAt.kept _ _ _ _ _ hb ((Za HC) k hlk)
   have ST:=Zb (Jn L k hlk)
   have SS:=Zb (Jo L k hlk)
   have hcv:Zci L k = .int .i64 (L[k]).1:=by unfold Zci;simp[hlk]
   obtain⟨x,hx⟩:∃ x,L[k]=x:=⟨_,rfl⟩
   rw[hx] at hin ST SS hcv
   have HCV:=Zb hcv
   obtain⟨x1,key⟩:=x
   obtain⟨g1,ka,kn,kc,g3,g4,_⟩:=hin
   simp only at g1 g3 g4
   have hba:=Zg wr (.cells #[.int .i64 x1,.slice ka kn kc] 101)
   obtain⟨n1,n2⟩:=Uj wr (.int .i64 x1) (.slice ka kn kc) 101
   have HBA:=Zb hba
   have KO:=Zb (g4.later hba)
   have N1:=Zb n1
   have N2:=Zb n2
   clear hb hx g4 hba n1 n2 hfl hcv
   by_cases hlo:x1<1
   ·have R:Hid (Zr L=3):=by
     have e:Yw (x1,key)=3:=Tn hlo
     have e2:Zx L=3:=by rw[Za A,(Za ST) (by rw[e];decide),e]
     show _=_
     unfold Zr;rw[e2];rfl
    have HB2:=Zb (Ze (Za HB) (Za HBA))
    clear A ST SS
    go_wp2
    go_ret
    exact⟨by rw[Za R];rfl,Za HB2⟩
   ·by_cases hk0:chk key=0
    ·have R:Hid (Zx L=Zx (L.drop (k+1))):=by
      have e:Yw (x1,key)=0:=by rw[Vu hlo];exact hk0
      show _=_
      rw[Za A,(Za SS) e]
     have HK:=Zb hk0
     clear A ST SS hk0
     go_wp2_with fail
     refine (Lz ka kn kc key 0 _ (Za HK) (Za KO)).mono ?_
     rintro e w3 ⟨rfl,hb3⟩
     have m1:=Zc hb3 (Za N1)
     have hf3:=((Za HF).keep (Za HBA)).keep hb3
     obtain⟨v,hold⟩:=hf3.old hlt
     have hfree:=hf3.free k
     have HF3:=Zb hf3
     have hs3:wr.heap.size<w3.heap.size:=World.block_lt_of_cell? _ _ m1
     clear hb3 hf3
     go_wp2
     go_roundw
     case rel=>exact⟨k+1,by omega,by go_num,R,(Za HF3).step hlt (Za HCV).symm⟩
     case measure=>simp[intOf];omega
    ·obtain⟨z,hz⟩:∃ z,chk key=z:=⟨_,rfl⟩
     have R:Hid (Zr L=z):=by
      have e:Yw (x1,key)=chk key:=Vu hlo
      have e2:Zx L=z:=by rw[Za A,(Za ST) (by rw[e];exact hk0),e];exact hz
      show _=_
      unfold Zr;rw[e2,if_neg (by rw[←hz];exact hk0)]
     have HK:=Zb hz
     rw[hz] at hk0
     have gz:(z != 0)=true:=by simp[hk0]
     clear A ST SS hz hk0
     go_wp2_with fail
     refine (Lz ka kn kc key z _ (Za HK) (Za KO)).mono ?_
     rintro e w3 ⟨rfl,hb3⟩
     have HB3:=Zb (Ze (Ze (Za HB) (Za HBA)) hb3)
     clear hb3
     go_wp2
     go_ret
     exact⟨by rw[Za R];rfl,Za HB3⟩
  ·have e:k=n:=by omega
   subst e
   have R:Hid (Zr L=(sm 0 (L.map (·.1))).2):=by
    show _=_
    unfold Zr;rw[Za A,Ra L k (by rw[Za HZ];exact Nat.le_refl _)];rfl
   have hrow:RowAt wr (some ⟨w.heap.size,0,none⟩) k (L.map (·.1)):=by
    refine⟨by rw[List.length_map];exact Za HZ,by unfold maxLen;omega,fun _=>⟨w.heap.size,0,rfl,fun i hi=>?_⟩⟩
    rw[Nat.zero_add,hfl.cells (Nat.le_refl _) i hi];rfl
   have SM:=Zb (Ziy (some ⟨w.heap.size,0,none⟩) k k (L.map (·.1)) wr hrow)
   obtain⟨s,hs⟩:∃ s,sm 0 (L.map (·.1))=s:=⟨_,rfl⟩
   rw[hs] at SM R
   obtain⟨s1,s2⟩:=s
   clear A hb hfl hrow hs hlt hk
   go_wp2_with fail
   refine (Za SM).mono ?_
   rintro e w' ⟨rfl,rfl⟩
   go_wp2
   go_ret
   exact⟨by rw[Za R];rfl,Za HB⟩
theorem Fv(a:Option Addr)(n c:Nat)(L:List Yc)(x:Int)(w:World)(hn:n≤6)(hpos:0<n)(h:OutsAt w a n L)(hx:Zr L=x) :
  Calls Tryz.prog 157 #[.slice a n c] w fun e w'=>e = .returned (.int .i64 x)∧Below w.heap.size w w':=by
 subst hx
 obtain⟨hz,hc⟩:=h
 obtain⟨b,off,rfl,_,hcell⟩:=hc hpos
 exact Mc b off n c L w hn hpos hz hcell
theorem Rw(h:Int)(ai ao:Option Addr)(ni ci no co:Nat)(o:Bool)(w:World)(ho:(if ni=0 then decide (1≤h) && decide (h≤1000) else decide (h=0))=o) :
  Calls Tryz.prog 155 #[.agg #[.int .i64 h,.slice ai ni ci,.slice ao no co]] w fun e w'=>e = .returned (.bool o)∧Below w.heap.size w w':=by
 have HB:=Zb (Zg w (.cells #[.int .i64 h,.slice ai ni ci,.slice ao no co] 52))
 by_cases h0:ni=0
 ·subst h0
  rw[if_pos rfl] at ho
  have C:Hid (∀ w,Calls Tryz.prog 114 #[.int .i64 h,.int .i64 1,.int .i64 1000] w fun e w'=>e = .returned (.bool o)∧w=w'):=fun w=>Yu h 1 1000 o w ho.symm
  clear ho
  go_enter Tryz.func155,Tryz.ntmps155
  go_wp2_with fail
  refine ((Za C) _).mono ?_
  rintro e w' ⟨rfl,rfl⟩
  go_wp2
  go_ret
  exact⟨rfl,Za HB⟩
 ·rw[if_neg h0] at ho
  have g:((ni:Int) == 0)=false:=by simp;omega
  by_cases hh:h=0
  ·rw[decide_eq_true hh] at ho
   subst ho hh
   go_enter Tryz.func155,Tryz.ntmps155
   go_wp2
   go_ret
   exact⟨rfl,Za HB⟩
  ·rw[decide_eq_false hh] at ho
   subst ho
   have g2:(h == 0)=false:=by simp[hh]
   go_enter Tryz.func155,Tryz.ntmps155
   go_wp2
   go_ret
   exact⟨rfl,Za HB⟩
theorem Ho(h:Int)(I:List InD)(O:List Yc)(ni:Nat)(hz:I.length=ni):Lk (h,I,O)=if ni=0 then decide (1≤h) && decide (h≤1000) else decide (h=0):=by
 unfold Lk;simp only[hz]
theorem Ju(h:Int)(ai ao:Option Addr)(ni ci no co:Nat)(I:List InD)(O:List Yc)(w:World)(hI:InsAt w ai ni I)(hO:OutsAt w ao no O)(sI:SlOk ai ni ci) :
  Calls Tryz.prog 116 #[.agg #[.int .i64 h,.slice ai ni ci,.slice ao no co]] w fun e w'=>e = .returned (.int .i64 (Zo (h,I,O)))∧Below w.heap.size w w':=by
 have hb:=Zg w (.cells #[.int .i64 h,.slice ai ni ci,.slice ao no co] 52)
 obtain⟨n0,n1,n2⟩:=Wy w (.int .i64 h) (.slice ai ni ci) (.slice ao no co) 52
 have HB:=Zb hb
 have N0:=Zb n0
 have N1:=Zb n1
 have N2:=Zb n2
 have HI:=Zb (hI.later hb)
 have HO:=Zb (hO.later hb)
 have HS:=Zb sI
 have zi:=hI.1
 have zo:=hO.1
 clear hb n0 n1 n2 hI hO sI
 by_cases h1:6<ni
 ·have e:Zo (h,I,O)=2:=by unfold Zo;rw[if_pos (Or.inl (by show 6<I.length;omega))]
  rw[e]
  have g:(6:Int)<(ni:Int):=by omega
  clear e h1 zi zo
  go_enter Tryz.func116,Tryz.ntmps116
  go_wp2
  go_ret
  exact⟨rfl,Za HB⟩
 ·by_cases h2:6<no
  ·have e:Zo (h,I,O)=2:=by unfold Zo;rw[if_pos (Or.inr (by show 6<O.length;omega))]
   rw[e]
   have g:¬(6:Int)<(ni:Int):=by omega
   have g':(6:Int)<(no:Int):=by omega
   clear e h1 h2 zi zo
   go_enter Tryz.func116,Tryz.ntmps116
   go_wp2
   go_ret
   exact⟨rfl,Za HB⟩
  ·have g:¬(6:Int)<(ni:Int):=by omega
   have g':¬(6:Int)<(no:Int):=by omega
   have e1:¬(6<I.length∨6<O.length):=by omega
   by_cases h3:no=0
   ·have e:Zo (h,I,O)=4:=by unfold Zo;rw[if_neg e1,if_pos (by show O.length=0;omega)]
    rw[e]
    subst h3
    clear e e1 h1 h2 zi zo
    go_enter Tryz.func116,Tryz.ntmps116
    go_wp2
    go_ret
    exact⟨rfl,Za HB⟩
   ·have g3:((no:Int) == 0)=false:=by simp;omega
    have e3:¬O.length=0:=by omega
    cases hf:Lk (h,I,O) with
    | false=>
     have e:Zo (h,I,O)=3:=by unfold Zo;rw[if_neg e1,if_neg e3,if_pos hf]
     rw[e]
     have C:=Zb (Rw h ai ao ni ci no co false (w.alloc (.cells #[.int .i64 h,.slice ai ni ci,.slice ao no co] 52)) (by rw[←Ho h I O ni zi];exact hf))
     clear e e1 e3 h1 h2 h3 zi zo hf
     go_enter Tryz.func116,Tryz.ntmps116
     go_wp2_with fail
     refine (Za C).mono ?_
     rintro e w2 ⟨rfl,hb2⟩
     have HB2:=Zb (Ze (Za HB) hb2)
     clear hb2
     go_wp2
     go_ret
     exact⟨rfl,Za HB2⟩
    | true=>
     have C:=Zb (Rw h ai ao ni ci no co true (w.alloc (.cells #[.int .i64 h,.slice ai ni ci,.slice ao no co] 52)) (by rw[←Ho h I O ni zi];exact hf))
     have e4:¬Lk (h,I,O)=false:=by rw[hf];decide
     by_cases h5:Zy [] I=0
     ·obtain⟨z,hz⟩:∃ z,Zr O=z:=⟨_,rfl⟩
      have e:Zo (h,I,O)=z:=by
       unfold Zo;rw[if_neg e1,if_neg e3,if_neg e4,if_neg (by intro q;exact q h5)];exact hz
      rw[e]
      have H5:=Zb h5
      have HZ:=Zb hz
      have H6i:Hid (ni≤6):=by show _≤_;omega
      have H6o:Hid (no≤6∧0<no):=⟨by omega,by omega⟩
      clear e e1 e3 e4 h1 h2 h3 zi zo hf h5 hz
      go_enter Tryz.func116,Tryz.ntmps116
      go_wp2_with fail
      refine (Za C).mono ?_
      rintro e w2 ⟨rfl,hb2⟩
      have m1:=Zc hb2 (Za N1)
      have M2:=Zb (Zc hb2 (Za N2))
      have hs2:w.heap.size<w2.heap.size:=World.block_lt_of_cell? _ _ m1
      have CI:=Zb (G3 ai ni ci I 0 w2 (Za H6i) (Za HS) ((Za HI).later hb2) (Za H5))
      have HB2:=Zb hb2
      clear hb2
      go_wp2_with fail
      refine (Za CI).mono ?_
      rintro e w3 ⟨rfl,hb3⟩
      have m2:=Zc hb3 (Za M2)
      have hs3:w.heap.size<w3.heap.size:=World.block_lt_of_cell? _ _ m2
      have CO:=Zb (Fv ao no co O z w3 (Za H6o).1 (Za H6o).2 (((Za HO).later (Za HB2)).later hb3) (Za HZ))
      have HB3:=Zb (Ze (Ze (Za HB) (Za HB2)) hb3)
      clear hb3 m1 hs2
      go_wp2_with fail
      refine (Za CO).mono ?_
      rintro e w4 ⟨rfl,hb4⟩
      have HB4:=Zb (Ze (Za HB3) hb4)
      clear hb4
      go_wp2
      go_ret
      exact⟨rfl,Za HB4⟩
     ·obtain⟨z,hz⟩:∃ z,Zy [] I=z:=⟨_,rfl⟩
      have e:Zo (h,I,O)=z:=by
       unfold Zo;rw[if_neg e1,if_neg e3,if_neg e4,if_pos h5];exact hz
      rw[e]
      have HZ:=Zb hz
      rw[hz] at h5
      have gz:(z != 0)=true:=by simp[h5]
      have H6i:Hid (ni≤6):=by show _≤_;omega
      clear e e1 e3 e4 h1 h2 h3 zi zo hf h5 hz
      go_enter Tryz.func116,Tryz.ntmps116
      go_wp2_with fail
      refine (Za C).mono ?_
      rintro e w2 ⟨rfl,hb2⟩
      have m1:=Zc hb2 (Za N1)
      have hs2:w.heap.size<w2.heap.size:=World.block_lt_of_cell? _ _ m1
      have CI:=Zb (G3 ai ni ci I z w2 (Za H6i) (Za HS) ((Za HI).later hb2) (Za HZ))
      have HB2:=Zb hb2
      clear hb2
      go_wp2_with fail
      refine (Za CI).mono ?_
      rintro e w3 ⟨rfl,hb3⟩
      have HB3:=Zb (Ze (Ze (Za HB) (Za HB2)) hb3)
      clear hb3
      go_wp2
      go_ret
      exact⟨rfl,Za HB3⟩
theorem Pc(w:World)(n:Nat):Below w.heap.size w (w.drewN n):=⟨rfl,rfl,rfl,Nat.le_refl _,fun _ _=>rfl⟩
theorem M9{α : Type}{l k:List α}{j:Nat}(h1:j<l.length)(h2:j<k.length)(h:l.take j=k.take j)(e:l[j]=k[j]):l.take (j+1)=k.take (j+1):=by
 rw[List.take_succ_eq_append_getElem h1,List.take_succ_eq_append_getElem h2,h,e]
theorem P9{α : Type}{l k:List α}{j:Nat}(h1:j<l.length)(h2:j<k.length)(e:l[j]≠k[j]):l≠k:=fun h=>by
 subst h;exact e rfl
theorem Zaj(b1 o1 b2 o2 n c d:Nat)(l k:List (Int×Int))(o:Bool)(w:World)(hn:n≤maxLen)(z1:l.length=n)(z2:k.length=n)
  (h1:∀ i,i<n→w.cell? ⟨b1,o1+i*2,none⟩=some (.int .i64 (l.getD i (0,0)).1)∧w.cell? ⟨b1,o1+i*2+1,none⟩=some (.int .i64 (l.getD i (0,0)).2))
  (h2:∀ i,i<n→w.cell? ⟨b2,o2+i*2,none⟩=some (.int .i64 (k.getD i (0,0)).1)∧w.cell? ⟨b2,o2+i*2+1,none⟩=some (.int .i64 (k.getD i (0,0)).2)) (ho:decide (l=k)=o) :
  Calls Tryz.prog 62 #[.slice (some ⟨b1,o1,none⟩) n c,.slice (some ⟨b2,o2,none⟩) n d] w fun e w'=>e = .returned (.bool o)∧∃ m,w'=w.drewN m:=by
 subst ho
 unfold maxLen at hn
 have H1:=Zb h1
 have H2:=Zb h2
 have Z1:=Zb z1
 have Z2:=Zb z2
 clear h1 h2 z1 z2
 go_enter Tryz.func62,Tryz.ntmps62
 go_wp2
 go_loopw [13] (fun i wr=>∃ j m:Nat,j≤n∧i = .int .i64 j∧wr=w.drewN m∧Hid (l.take j=k.take j)) (fun i _=>n - (intOf i).toNat)
 case atStart=>exact⟨0,0,Nat.zero_le _,rfl,rfl,rfl⟩
 case round=>
  obtain⟨j,m,hk,rfl,rfl,A⟩:=hrel
  by_cases hlt:j<n
  ·have hl1:j<l.length:=by rw[Za Z1];exact hlt
   have hl2:j<k.length:=by rw[Za Z2];exact hlt
   obtain⟨g1,g2⟩:=(Za H1) j hlt
   obtain⟨g3,g4⟩:=(Za H2) j hlt
   have e1:l.getD j (0,0)=l[j]:=by simp[hl1]
   have e2:k.getD j (0,0)=k[j]:=by simp[hl2]
   rw[e1] at g1 g2
   rw[e2] at g3 g4
   have TS:=Zb (M9 hl1 hl2 (Za A))
   have TU:=Zb (P9 hl1 hl2)
   obtain⟨q,hq⟩:∃ q,l[j]=q:=⟨_,rfl⟩
   obtain⟨r,hr⟩:∃ r,k[j]=r:=⟨_,rfl⟩
   rw[hq] at g1 g2
   rw[hr] at g3 g4
   rw[hq,hr] at TS TU
   obtain⟨q1,q2⟩:=q
   obtain⟨r1,r2⟩:=r
   simp only at g1 g2 g3 g4
   clear hq hr e1 e2 A
   by_cases he:q1=r1
   ·subst he
    by_cases hf:q2=r2
    ·subst hf
     have T:=Zb ((Za TS) rfl)
     clear TS TU
     go_wp2
     go_quiet (fail)
     go_wp2
     go_roundw
     case rel=>exact⟨j+1,m+nq,by omega,by go_num,rfl,T⟩
     case measure=>simp[intOf];omega
    ·have U:Hid (decide (l=k)=false):=decide_eq_false ((Za TU) (fun e=>hf (by injection e)))
     clear TS TU
     go_wp2
     go_quiet (fail)
     go_wp2
     go_ret
     exact⟨by rw[Za U];rfl,m+nq,by simp[World.drewN,Nat.add_assoc]⟩
   ·have U:Hid (decide (l=k)=false):=decide_eq_false ((Za TU) (fun e=>he (by injection e)))
    clear TS TU
    go_wp2
    go_quiet (fail)
    go_wp2
    go_ret
    exact⟨by rw[Za U];rfl,m+nq,by simp[World.drewN,Nat.add_assoc]⟩
  ·have U:Hid (decide (l=k)=true):=by
    have h:=Za A
    rw[List.take_of_length_le (by rw[Za Z1];omega),List.take_of_length_le (by rw[Za Z2];omega)] at h
    exact decide_eq_true h
   clear A
   go_wp2
   go_ret
   exact⟨by rw[Za U];rfl,m,rfl⟩
theorem Zal(a b:Option Addr)(n m c d:Nat)(w:World)(h:n≠m) :
  Calls Tryz.prog 62 #[.slice a n c,.slice b m d] w fun e w'=>e = .returned (.bool false)∧w=w':=by
 have g:((n:Int) != (m:Int))=true:=by simp;omega
 clear h
 go_enter Tryz.func62,Tryz.ntmps62
 go_wp2
 go_ret
 exact⟨rfl,rfl⟩
theorem Zak(a b:Option Addr)(c d:Nat)(w:World) :
  Calls Tryz.prog 62 #[.slice a 0 c,.slice b 0 d] w fun e w'=>e = .returned (.bool true)∧w=w':=by
 go_enter Tryz.func62,Tryz.ntmps62
 go_wp2
 refine wp_loop_rounds 1 ?_
 rw[rounds_succ]
 go_wp2
 go_ret
 exact⟨rfl,rfl⟩
theorem Zhs(a b:Option Addr)(n m c d:Nat)(l k:List (Int×Int))(o:Bool)(w:World)(hn:n≤maxLen)(hA:OpsAt w a n l)(hB:OpsAt w b m k)(ho:decide (l=k)=o) :
  Calls Tryz.prog 62 #[.slice a n c,.slice b m d] w fun e w'=>e = .returned (.bool o)∧Below w.heap.size w w':=by
 by_cases h:n=m
 ·subst h
  by_cases h0:n=0
  ·subst h0
   have e1:l=[]:=List.length_eq_zero_iff.1 hA.1
   have e2:k=[]:=List.length_eq_zero_iff.1 hB.1
   subst e1 e2
   rw[decide_eq_true rfl] at ho
   subst ho
   exact (Zak a b c d w).mono fun e w' ⟨h1,h2⟩=>⟨h1,h2 ▸ Below.refl _ _⟩
  ·obtain⟨b1,o1,rfl,h1⟩:=hA.2 (by omega)
   obtain⟨b2,o2,rfl,h2⟩:=hB.2 (by omega)
   exact (Zaj b1 o1 b2 o2 n c d l k o w hn hA.1 hB.1 h1 h2 ho).mono fun e w' ⟨e1,q,e2⟩=>⟨e1,by rw[e2];exact Pc w q⟩
 ·have e:l≠k:=fun e=>h (by rw[←hA.1,←hB.1,e])
  rw[decide_eq_false e] at ho
  subst ho
  exact (Zal a b n m c d w h).mono fun e w' ⟨h1,h2⟩=>⟨h1,h2 ▸ Below.refl _ _⟩
theorem As(x y:Yc)(a b:Option Addr)(n c m d:Nat)(o:Bool)(w:World)(hn:n≤maxLen)(hA:OpsAt w a n x.2)(hB:OpsAt w b m y.2)(ho:decide (x=y)=o) :
  Calls Tryz.prog 44 #[.agg #[.int .i64 x.1,.slice a n c],.agg #[.int .i64 y.1,.slice b m d]] w fun e w'=>e = .returned (.bool o)∧Below w.heap.size w w':=by
 obtain⟨x1,k⟩:=x
 obtain⟨y1,l⟩:=y
 simp only at hA hB ⊢
 have hb:=Ze (Zg w (.cells #[.int .i64 x1,.slice a n c] 101)) (Zg _ (.cells #[.int .i64 y1,.slice b m d] 101))
 have HB:=Zb hb
 by_cases h1:x1=y1
 ·subst h1
  have C:=Zb (Zhs a b n m c d k l o _ hn (hA.later hb) (hB.later hb) (by rw[←ho];simp))
  clear hA hB hb ho
  go_enter Tryz.func44,Tryz.ntmps44
  go_wp2_with fail
  refine (Za C).mono ?_
  rintro e w2 ⟨rfl,hb2⟩
  have HB2:=Zb (Ze (Za HB) hb2)
  clear hb2
  go_wp2
  go_ret
  exact⟨rfl,Za HB2⟩
 ·have e:o=false:=by rw[←ho];exact decide_eq_false (fun e=>h1 (by injection e))
  have g:(x1 == y1)=false:=by simp[h1]
  subst e
  clear hA hB hb ho
  go_enter Tryz.func44,Tryz.ntmps44
  go_wp2
  go_ret
  exact⟨rfl,Za HB⟩
theorem Dj(w:World):Below w.heap.size w w.drew:=⟨rfl,rfl,rfl,Nat.le_refl _,fun _ _=>rfl⟩
theorem L5:∀ (L pre:List InD),Zy pre L=0→∀ x∈L,Pj x=true∧chk x.2.2=0
 | [],_,_,x,hx=>by cases hx
 | y :: r,pre,h,x,hx=>by
  unfold Zy at h
  split at h
  ·rename_i h1
   rcases List.mem_cons.1 hx with rfl|hx
   ·unfold Wo at h1
    split at h1
    ·cases h1
    ·rename_i h2
     split at h1
     ·rename_i h3;exact absurd h1 h3
     ·rename_i h3
      exact⟨by simpa using h2,by simpa using h3⟩
   ·exact L5 r _ h x hx
  ·contradiction
theorem Gz:∀ (L:List Yc),Zx L=0→∀ x∈L,1≤x.1∧chk x.2=0
 | [],_,x,hx=>by cases hx
 | y :: r,h,x,hx=>by
  unfold Zx at h
  split at h
  ·rename_i h1
   rcases List.mem_cons.1 hx with rfl|hx
   ·unfold Yw at h1
    split at h1
    ·cases h1
    ·rename_i h2
     exact⟨by omega,h1⟩
   ·exact Gz r h x hx
  ·contradiction
theorem Zfv:∀ (Z:List Int) (s:Int),(sm s Z).2=0→∀ z∈Z,0≤z∧z≤1000000000
 | [],_,_,z,hz=>by cases hz
 | y :: r,s,h,z,hz=>by
  unfold sm at h
  split at h
  ·rename_i h1
   split at h
   ·rcases List.mem_cons.1 hz with rfl|hz
    ·exact h1
    ·exact Zfv r _ h z hz
   ·cases h
  ·cases h
structure TxOk(t:TxD):Prop where
 ins6:t.2.1.length≤6
 outs6:t.2.2.length≤6
 some:0<t.2.2.length
 hgt:0≤t.1∧t.1≤1000
 fit:Lk t=true
 chkI:Zy [] t.2.1=0
 ins:∀ x∈t.2.1,Pj x=true∧chk x.2.2=0
 outs:∀ x∈t.2.2,(1≤x.1∧x.1≤1000000000)∧chk x.2=0
theorem TxOk.of{t:TxD}(h:Zo t=0):TxOk t:=by
 unfold Zo at h
 split at h
 ·cases h
 ·rename_i h1
  split at h
  ·cases h
  ·rename_i h2
   split at h
   ·cases h
   ·rename_i h3
    split at h
    ·rename_i h4;exact absurd h h4
    ·rename_i h4
     have h4':Zy [] t.2.1=0:=by simpa using h4
     have h3':Lk t=true:=by simpa using h3
     unfold Zr at h
     split at h
     ·rename_i h5
      refine⟨by omega,by omega,by omega,?_,h3',h4',L5 _ _ h4',fun x hx=>?_⟩
      ·unfold Lk at h3'
       split at h3'
       ·simp only[Bool.and_eq_true,decide_eq_true_eq] at h3';omega
       ·have:t.1=0:=by simpa using h3'
        omega
      ·have a:=Gz _ h5 x hx
       have b:=Zfv _ _ h x.1 (List.mem_map.2 ⟨x,hx,rfl⟩)
       exact⟨⟨a.1,b.2⟩,a.2⟩
     ·contradiction
theorem J1(x:InD):Pj x=true↔(1≤x.1∧x.1≤120)∧(0≤x.2.1∧x.2.1≤5):=by
 unfold Pj;simp only[Bool.and_eq_true,decide_eq_true_eq]
end Go.Proofs.YtpikejjiignchaaGreatDoor
