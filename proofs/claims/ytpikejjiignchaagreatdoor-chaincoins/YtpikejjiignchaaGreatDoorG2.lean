import Derived.OrdersHeld
import Derived.Test.YtpikejjiignchaaGreatDoorRows
import Derived.WalkLawsBesides
import Derived.Test.YtpikejjiignchaaGreatDoorG1
import Derived.Lib.AppendIntMem
import Derived.Lib.ItoaLen
import Derived.Lib.SmallJoins
import Derived.Lib.ParseIntBTie
set_option maxHeartbeats 3200000
set_option maxRecDepth 10000
namespace Go.Proofs.YtpikejjiignchaaGreatDoor
open Go.RowKit
def fit(n:Int):Bool:=decide (-1000000≤n) && decide (n≤1000000)
theorem Z0(n:Int):fit n=true↔-1000000≤n∧n≤1000000:=by simp[fit]
theorem Hp(n:Int):fit n=false↔n < -1000000∨1000000<n:=by
 rw[←Bool.not_eq_true,Z0];omega
def b01(b:Bool):Int:=if b then 1 else 0
def Hb(a:Int):Nat→Int
 | 0=>a+1000000
 | k+1=>(7919*Hb a k+104729) % 1000003
theorem Zby(a:Int)(h:fit a=true):∀ k,0≤Hb a k∧Hb a k≤2000000
 | 0=>by have:=(Z0 a).1 h;simp only[Hb];omega
 | k+1=>by simp only[Hb];omega
def Bt(a:Int):Int:=Hb a 3 % 1000001
def g2(k:Int)(a b:Int):Int:=
 if k=5 then a+b else if k=6 then a - b else if k=7 then b01 (a == b) else if k=8 then b01 (decide (a<b)) else b01 (a != 0 && b != 0)
def g1(k:Int)(a:Int):Int:=if k=9 then b01 (a == 0) else Bt a
def Qc(L:List Int)(x:Int):Option (List Int):=if L.length=16∨fit x=false then none else some (L++[x])
def Xd(L:List Int):Option (List Int):=if L.length=0 then none else some L.dropLast
def Q4(L:List Int):Int:=L.getLastD 0
def Z8(h:Int)(k n:Int)(L:List Int):Option (List Int):=
 if k=1 then Qc L n
 else if k=2 then (Xd L).bind fun M=>(Qc M (Q4 L)).bind fun M=>Qc M (Q4 L)
 else if k=3 then (Xd L).bind fun M=>(Xd M).bind fun N=>(Qc N (Q4 L)).bind fun Q=>Qc Q (Q4 M)
 else if k=4 then Xd L
 else if k=9∨k=13 then (Xd L).bind fun M=>Qc M (g1 k (Q4 L))
 else if k=11 then (Xd L).bind fun M=>if Q4 L=0 then none else some M
 else if k=12 then Qc L h
 else (Xd L).bind fun M=>(Xd M).bind fun N=>Qc N (g2 k (Q4 M) (Q4 L))
def Y0(h:Int):List (Int×Int)→List Int→Option (List Int)
 | [],L=>some L
 | o :: r,L=>(Z8 h o.1 o.2 L).bind (Y0 h r)
theorem V6(h:Int):∀ (l m:List (Int×Int)) (L:List Int),Y0 h (l++m) L=(Y0 h l L).bind (Y0 h m)
 | [],m,L=>by simp[Y0]
 | o :: r,m,L=>by
  simp only[List.cons_append,Y0]
  cases Z8 h o.1 o.2 L with
  | none=>rfl
  | some M=>simp only[Option.bind];exact V6 h r m M
structure MS where
 cs:List Int
 n:Nat
 h:Int
 f:Bool
def MS.ok(s:MS):Prop:=s.cs.length=16∧s.n≤16∧∀ x∈s.cs,fit x=true
def MS.rep(s:MS):Option (List Int):=if s.f then none else some (s.cs.take s.n)
def MS.put(s:MS)(x:Int):MS:=if s.n=16∨fit x=false then { s with f:=true } else { s with cs:=s.cs.set s.n x,n:=s.n+1 }
def MS.top(s:MS):Int:=if s.n=0 then 0 else s.cs.getD (s.n - 1) 0
def MS.take(s:MS):MS:=if s.n=0 then { s with f:=true } else { s with n:=s.n - 1 }
def MS.fail(s:MS):MS:={ s with f:=true }
def MS.step(s:MS)(k n:Int):MS:=
 if k=1 then s.put n
 else if k=2 then (s.take.put s.top).put s.top
 else if k=3 then (s.take.take.put s.top).put s.take.top
 else if k=4 then s.take
 else if k=9∨k=13 then s.take.put (g1 k s.top)
 else if k=11 then (if s.top=0 then s.take.fail else s.take)
 else if k=12 then s.put s.h
 else s.take.take.put (g2 k s.take.top s.top)
theorem MS.put_h(s:MS)(x:Int):(s.put x).h=s.h:=by unfold MS.put;split <;> rfl
theorem MS.take_h(s:MS):s.take.h=s.h:=by unfold MS.take;split <;> rfl
theorem MS.fail_h(s:MS):s.fail.h=s.h:=rfl
theorem MS.step_h(s:MS)(k n:Int):(s.step k n).h=s.h:=by
 unfold MS.step;repeat' split
 all_goals simp only[MS.put_h,MS.take_h,MS.fail_h]
theorem MS.ok.put_ok{s:MS}(hs:s.ok)(x:Int):(s.put x).ok:=by
 obtain⟨h1,h2,h3⟩:=hs
 unfold MS.put
 split
 ·exact⟨h1,h2,h3⟩
 ·rename_i h
  simp only[not_or,Bool.not_eq_false] at h
  refine⟨by simpa using h1,by show s.n+1≤16;omega,fun y hy=>?_⟩
  rcases List.mem_or_eq_of_mem_set hy with hy|rfl
  ·exact h3 y hy
  ·exact h.2
theorem MS.ok.take_ok{s:MS}(hs:s.ok):s.take.ok:=by
 obtain⟨h1,h2,h3⟩:=hs
 unfold MS.take
 split
 ·exact⟨h1,h2,h3⟩
 ·exact⟨h1,by show s.n - 1≤16;omega,h3⟩
theorem MS.ok.fail_ok{s:MS}(hs:s.ok):s.fail.ok:=hs
theorem MS.ok.top_fit{s:MS}(hs:s.ok):fit s.top=true:=by
 obtain⟨h1,h2,h3⟩:=hs
 unfold MS.top
 split
 ·decide
 ·rename_i h
  have hl:s.n - 1<s.cs.length:=by omega
  rw[List.getD_eq_getElem?_getD,List.getElem?_eq_getElem hl,Option.getD_some]
  exact h3 _ (List.getElem_mem hl)
theorem MS.rep_put{s:MS}(hs:s.ok)(x:Int):(s.put x).rep=s.rep.bind (Qc · x):=by
 obtain⟨h1,h2,_⟩:=hs
 unfold MS.rep
 cases hf:s.f with
 | true=>
  have:(s.put x).f=true:=by unfold MS.put;split <;> simp[hf]
  rw[this];rfl
 | false=>
  simp only[Bool.false_eq_true,if_false,Option.bind_some]
  have hlen:(s.cs.take s.n).length=s.n:=by simp;omega
  unfold MS.put Qc
  rw[hlen]
  split
  ·rfl
  ·rename_i h
   simp only[not_or,Bool.not_eq_false] at h
   simp only[hf,Bool.false_eq_true,if_false]
   have hn:s.n<s.cs.length:=by omega
   rw[List.take_succ_eq_append_getElem (by simpa using hn)]
   simp[List.take_set_of_le]
theorem MS.rep_take{s:MS}(hs:s.ok):s.take.rep=s.rep.bind Xd:=by
 obtain⟨h1,h2,_⟩:=hs
 unfold MS.rep
 cases hf:s.f with
 | true=>
  have:s.take.f=true:=by unfold MS.take;split <;> simp[hf]
  rw[this];rfl
 | false=>
  simp only[Bool.false_eq_true,if_false,Option.bind_some]
  have hlen:(s.cs.take s.n).length=s.n:=by simp;omega
  unfold MS.take Xd
  rw[hlen]
  split
  ·rfl
  ·simp only[hf,Bool.false_eq_true,if_false]
   show some (s.cs.take (s.n - 1))=_
   rw[List.dropLast_eq_take,List.take_take,hlen]
   congr 2
   omega
theorem MS.rep_top{s:MS}(hs:s.ok){L:List Int}(h:s.rep=some L):s.top=Q4 L:=by
 obtain⟨h1,h2,_⟩:=hs
 unfold MS.rep at h
 split at h
 ·cases h
 ·simp only[Option.some.injEq] at h
  subst h
  unfold MS.top Q4
  split
  ·rename_i e;rw[e];rfl
  ·have hl:s.n - 1<s.cs.length:=by omega
   rw[List.getLastD_eq_getLast?,List.getLast?_eq_getElem?,List.length_take,List.getD_eq_getElem?_getD]
   have e:min s.n s.cs.length - 1=s.n - 1:=by omega
   rw[e,List.getElem?_take_of_lt (by omega)]
theorem MS.rep_none_take{s:MS}(hs:s.ok)(h:s.rep=none):s.take.rep=none:=by rw[MS.rep_take hs,h];rfl
theorem MS.rep_none_put{s:MS}(hs:s.ok)(h:s.rep=none)(x:Int):(s.put x).rep=none:=by rw[MS.rep_put hs,h];rfl
theorem MS.rep_step{s:MS}(hs:s.ok)(k n:Int):(s.step k n).rep=s.rep.bind (Z8 s.h k n):=by
 have ht:=hs.take_ok
 have htt:=ht.take_ok
 cases hr:s.rep with
 | none=>
  have h1:=MS.rep_none_take hs hr
  have h2:=MS.rep_none_take ht h1
  show _=none
  unfold MS.step
  split
  ·exact MS.rep_none_put hs hr _
  split
  ·exact MS.rep_none_put (ht.put_ok _) (MS.rep_none_put ht h1 _) _
  split
  ·exact MS.rep_none_put (htt.put_ok _) (MS.rep_none_put htt h2 _) _
  split
  ·exact h1
  split
  ·exact MS.rep_none_put ht h1 _
  split
  ·split
   ·rfl
   ·exact h1
  split
  ·exact MS.rep_none_put hs hr _
  ·exact MS.rep_none_put htt h2 _
 | some L=>
  have e0:=MS.rep_top hs hr
  have e1:s.take.rep=Xd L:=by rw[MS.rep_take hs,hr];rfl
  have e2:s.take.take.rep=(Xd L).bind Xd:=by rw[MS.rep_take ht,e1]
  have e3:∀ M,Xd L=some M→s.take.top=Q4 M:=fun M hM=>MS.rep_top ht (e1.trans hM)
  show _=Z8 s.h k n L
  unfold MS.step Z8
  split
  ·rw[MS.rep_put hs,hr];rfl
  split
  ·rw[MS.rep_put (ht.put_ok _),MS.rep_put ht,e1,e0]
   cases Xd L with
   | none=>rfl
   | some M=>rfl
  split
  ·rw[MS.rep_put (htt.put_ok _),MS.rep_put htt,e2,e0]
   cases hM:Xd L with
   | none=>rfl
   | some M=>
    rw[e3 M hM]
    show ((Xd M).bind (Qc · (Q4 L))).bind _=(Xd M).bind _
    cases Xd M <;> rfl
  split
  ·exact e1
  split
  ·rw[MS.rep_put ht,e1,e0]
  split
  ·rw[e0]
   cases hM:Xd L with
   | none=>
    show _=none
    split
    ·rfl
    ·rw[e1,hM]
   | some M=>
    show _=(if Q4 L=0 then none else some M)
    split
    ·rfl
    ·rw[e1,hM]
  split
  ·rw[MS.rep_put hs,hr];rfl
  ·rw[MS.rep_put htt,e2,e0]
   cases hM:Xd L with
   | none=>rfl
   | some M=>
    rw[e3 M hM]
    show ((Xd M).bind _)=(Xd M).bind _
    rfl
def Z9(Z:List Int):Bool:=decide (Z.length≤16) && Z.all fit
def Yf:List Int→List Int→Option (List Int)
 | L,[]=>some L
 | L,x :: r=>(Qc L x).bind fun M=>Yf M r
theorem Ki:∀ (Z L:List Int) (x:Int),Yf L (Z++[x])=(Yf L Z).bind (Qc · x)
 | [],L,x=>by simp[Yf]
 | y :: r,L,x=>by
  simp only[List.cons_append,Yf]
  cases Qc L y with
  | none=>rfl
  | some M=>exact Ki r M x
theorem Bb:∀ (Z L:List Int),L.length≤16→Yf L Z=if decide ((L++Z).length≤16) && Z.all fit then some (L++Z) else none
 | [],L,h=>by simp[Yf,h]
 | x :: r,L,h=>by
  simp only[Yf,Qc]
  by_cases h1:L.length=16
  ·rw[if_pos (Or.inl h1),if_neg];rfl
   simp only[List.length_append,List.length_cons,Bool.and_eq_true,decide_eq_true_eq];omega
  ·by_cases h2:fit x=false
   ·rw[if_pos (Or.inr h2),if_neg];rfl
    simp[h2]
   ·rw[if_neg (by simp[h1];simpa using h2)]
    show Yf (L++[x]) r=_
    rw[Bb r (L++[x]) (by simp;omega)]
    have h3:fit x=true:=by simpa using h2
    simp[h3]
theorem Zdi(Z:List Int):Yf [] Z=if Z9 Z then some Z else none:=by
 rw[Bb Z [] (by simp)];rfl
theorem U6{L M:List Int}{x:Int}(hL:Z9 L=true)(h:Qc L x=some M):Z9 M=true:=by
 unfold Qc at h
 split at h
 ·cases h
 ·rename_i hc
  simp only[Option.some.injEq] at h
  subst h
  simp only[not_or,Bool.not_eq_false] at hc
  simp only[Z9,Bool.and_eq_true,decide_eq_true_eq] at hL ⊢
  refine⟨by simp;omega,?_⟩
  rw[List.all_append]
  simp[hL.2,hc.2]
theorem V8{L M:List Int}(hL:Z9 L=true)(h:Xd L=some M):Z9 M=true:=by
 unfold Xd at h
 split at h
 ·cases h
 ·simp only[Option.some.injEq] at h
  subst h
  simp only[Z9,Bool.and_eq_true,decide_eq_true_eq,List.all_eq_true] at hL ⊢
  exact⟨by simp;omega,fun x hx=>hL.2 x (List.dropLast_subset _ hx)⟩
theorem Vy{α β : Type}{o:Option α}{f : α→Option β}{b : β}(h:o.bind f=some b):∃ a,o=some a∧f a=some b:=by
 cases o with
 | none=>cases h
 | some a=>exact⟨a,rfl,h⟩
theorem Zfr{h k n:Int}{L M:List Int}(hL:Z9 L=true)(e:Z8 h k n L=some M):Z9 M=true:=by
 unfold Z8 at e
 split at e
 ·exact U6 hL e
 split at e
 ·obtain⟨A,hA,e⟩:=Vy e;obtain⟨B,hB,e⟩:=Vy e
  exact U6 (U6 (V8 hL hA) hB) e
 split at e
 ·obtain⟨A,hA,e⟩:=Vy e;obtain⟨B,hB,e⟩:=Vy e;obtain⟨C,hC,e⟩:=Vy e
  exact U6 (U6 (V8 (V8 hL hA) hB) hC) e
 split at e
 ·exact V8 hL e
 split at e
 ·obtain⟨A,hA,e⟩:=Vy e
  exact U6 (V8 hL hA) e
 split at e
 ·obtain⟨A,hA,e⟩:=Vy e
  split at e
  ·cases e
  ·cases e;exact V8 hL hA
 split at e
 ·exact U6 hL e
 ·obtain⟨A,hA,e⟩:=Vy e;obtain⟨B,hB,e⟩:=Vy e
  exact U6 (V8 (V8 hL hA) hB) e
theorem Hj{h:Int}:∀ {l:List (Int×Int)} {L M:List Int},Z9 L=true→Y0 h l L=some M→Z9 M=true
 | [],L,M,hL,e=>by cases e;exact hL
 | o :: r,L,M,hL,e=>by
  obtain⟨A,hA,e⟩:=Vy e
  exact Hj (Zfr hL hA) e
def Xc(o:Int×Int):Int:=if o.1<1∨13<o.1 then 4 else if (o.1≠1∧o.2≠0)∨fit o.2=false then 3 else 0
def Vv:List (Int×Int)→Int
 | []=>0
 | o :: r=>if Xc o=0 then Vv r else Xc o
def chk(l:List (Int×Int)):Int:=if 16<l.length then 2 else Vv l
theorem Dc(l:List (Int×Int))(k:Nat)(h:k<l.length)(h0:Vv (l.take k)=0):Vv (l.take (k+1))=if Xc (l[k])=0 then 0 else Xc (l[k]):=by
 induction l generalizing k with
 | nil=>simp at h
 | cons o r ih=>
  cases k with
  | zero=>simp[Vv]
  | succ k=>
   simp only[List.take_succ_cons,Vv,List.getElem_cons_succ] at h0 ⊢
   split at h0
   ·rename_i e
    rw[if_pos e]
    exact ih k (by simpa using h) h0
   ·contradiction
theorem Dd(l:List (Int×Int))(k:Nat)(h:k<l.length)(h0:Vv (l.take k)=0)(h1:Xc (l[k])≠0):Vv l=Xc (l[k]):=by
 induction l generalizing k with
 | nil=>simp at h
 | cons o r ih=>
  cases k with
  | zero=>simp only[List.getElem_cons_zero] at h1 ⊢;simp[Vv,h1]
  | succ k=>
   simp only[List.take_succ_cons,Vv,List.getElem_cons_succ] at h0 h1 ⊢
   split at h0
   ·rename_i e
    rw[if_pos e]
    exact ih k (by simpa using h) h0 h1
   ·contradiction
theorem Rb{l:List (Int×Int)}(h:Vv l=0):∀ (k:Nat) (hk:k<l.length),Xc (l[k])=0:=by
 induction l with
 | nil=>intro k hk;simp at hk
 | cons o r ih=>
  simp only[Vv] at h
  split at h
  ·rename_i e
   intro k hk
   cases k with
   | zero=>exact e
   | succ k=>exact ih h k (by simpa using hk)
  ·contradiction
def hOk(h:Int):Bool:=decide (0≤h) && decide (h≤1000)
def Tb(l:List (Int×Int))(Z:List Int)(h:Int):Int:=
 if chk l=0 then (if Z9 Z && hOk h then (if (Y0 h l Z).isSome then 0 else 8) else 3) else chk l
def Ha(l:List (Int×Int))(Z:List Int)(h:Int):List Int:=if Tb l Z h=0 then (Y0 h l Z).getD [] else []
def Vg(l k:List (Int×Int))(h:Int):Int:=if chk l=0 then (if chk k=0 then (if hOk h then 0 else 3) else chk k) else chk l
def Si(L:List Int):Bool:=decide (L.length=1) && (Q4 L != 0)
def Y1(l k:List (Int×Int))(h:Int):Bool:=decide (Vg l k h=0) && (match (Y0 h k []).bind (Y0 h l) with|some L=>Si L|none=>false)
theorem ZA {α:Type}(l:List α)(i:Nat)(a:α):l.toArray.setIfInBounds i a=(l.set i a).toArray:=List.setIfInBounds_toArray ..
theorem ZB {α:Type}(a b:α)(l:List α):(a::l).set 0 b=b::l:=rfl
theorem ZC {α:Type}(a b:α)(l:List α)(n:Nat):(a::l).set (n+1) b=a::l.set n b:=rfl
theorem Zt {P:Program} {ops:Array Oper} {Q:Exit→Act→World→Prop} {md:Region.Mode} {S:World→Prop}(i:Nat)(oi:Oper)(v:Value) {fuel:Nat} {listed:Array Bool} {a:Act} {w:World}(hi:ops[i]? = some oi)(hy:∀ w,S w→(execOp a.eval oi).run P w = .ok (.value v) w)(hS:S w)(h:wpAnyH P md ops Q S fuel (listed.setIfInBounds i true) (a.put oi.dst v) w)(hQ:∀ c a w,Q (.panic c) (a.put oi.dst v) w→Q (.panic c) a w:=by exact fun _ _ _ h=>h)(hw:Region.wanted oi (yielded ops a.tmps)=true:=by rfl)(hs:Region.noSelect ops=true:=by kernel_rfl)(hf:Region.free md ops listed i=true:=by kernel_rfl)(hr:(Region.ready md ops listed).contains i=true:=by kernel_rfl):wpAnyH P md ops Q S (fuel+1) listed a w:=wpAnyH_take hi hs hf hr hQ (Or.inl ⟨hw,hy⟩) hS h
theorem Zb{p:Prop}(h:p):Hid p:=h
theorem Za{p:Prop}(h:Hid p):p:=h
theorem Vp(n lo hi:Int)(w:World)(h1:lo≤n)(h2:n≤hi) :
  Calls Tryz.prog 114 #[.int .i64 n,.int .i64 lo,.int .i64 hi] w fun e w'=>e = .returned (.bool true)∧w=w':=by
 go_enter Tryz.func114,Tryz.ntmps114
 go_wp2
 go_ret
 exact⟨rfl,rfl⟩
theorem Re(n lo hi:Int)(w:World)(h:n<lo∨hi<n) :
  Calls Tryz.prog 114 #[.int .i64 n,.int .i64 lo,.int .i64 hi] w fun e w'=>e = .returned (.bool false)∧w=w':=by
 by_cases h1:n<lo
 ·go_enter Tryz.func114,Tryz.ntmps114
  go_wp2
  go_ret
  exact⟨rfl,rfl⟩
 ·have h2:hi<n:=by omega
  have h3:lo≤n:=by omega
  have h4:decide (n≤hi)=false:=by simp;omega
  clear h
  go_enter Tryz.func114,Tryz.ntmps114
  go_wp2
  go_ret
  exact⟨rfl,rfl⟩
theorem Yu(n lo hi:Int)(b:Bool)(w:World)(hb:b=(decide (lo≤n) && decide (n≤hi))) :
  Calls Tryz.prog 114 #[.int .i64 n,.int .i64 lo,.int .i64 hi] w fun e w'=>e = .returned (.bool b)∧w=w':=by
 subst hb
 by_cases h1:lo≤n
 ·by_cases h2:n≤hi
  ·simpa[h1,h2] using Vp n lo hi w h1 h2
  ·simpa[h1,h2] using Re n lo hi w (by omega)
 ·simpa[h1] using Re n lo hi w (by omega)
theorem Sq(n:Int)(b:Bool)(w:World)(hb:b=fit n) :
  Calls Tryz.prog 246 #[.int .i64 n] w fun e w'=>e = .returned (.bool b)∧w=w':=by
 have HB:=Zb hb
 clear hb
 go_enter Tryz.func246,Tryz.ntmps246
 go_wp2_with (go_at_call 114;refine (Yu _ _ _ b _ (Za HB)).mono ?_;rintro e w' ⟨rfl,rfl⟩)
 go_ret
 exact⟨rfl,rfl⟩
theorem Sa{a b:Int}(h:a=b):Ending.returned (.int .i64 a) = .returned (.int .i64 b):=by rw[h]
theorem Md(k n:Int)(w:World) :
  Calls Tryz.prog 222 #[.agg #[.int .i64 k,.int .i64 n]] w fun e w'=>e = .returned (.int .i64 (Xc (k,n)))∧Below w.heap.size w w':=by
 have hb:∀ o,Below w.heap.size w (w.alloc o):=fun o=>(Below.refl _ _).alloc (Nat.le_refl _) _
 have HB:=Zb hb
 clear hb
 by_cases h1:k<1∨13<k
 ·have e:Xc (k,n)=4:=by simp[Xc,h1]
  rw[e]
  clear e
  go_enter Tryz.func222,Tryz.ntmps222
  go_wp2_with (go_at_call 114;refine (Re _ _ _ _ h1).mono ?_;rintro e w' ⟨rfl,rfl⟩)
  go_ret
  exact⟨rfl,(Za HB) _⟩
 ·have g1:1≤k:=by omega
  have g2:k≤13:=by omega
  by_cases h2:k=1
  ·subst h2
   clear h1
   cases h3:fit n with
   | false=>
    have e:Xc (1,n)=3:=by simp[Xc,h3]
    rw[e]
    have H3:=Zb h3
    clear e h3
    go_enter Tryz.func222,Tryz.ntmps222
    go_wp2_with (first|(go_at_call 114;refine (Vp _ _ _ _ (by decide) (by decide)).mono ?_;rintro e w' ⟨rfl,rfl⟩)|(go_at_call 246;refine (Sq _ false _ (Za H3).symm).mono ?_;rintro e w' ⟨rfl,rfl⟩))
    go_ret
    exact⟨rfl,(Za HB) _⟩
   | true=>
    have e:Xc (1,n)=0:=by simp[Xc,h3]
    rw[e]
    have H3:=Zb h3
    clear e h3
    go_enter Tryz.func222,Tryz.ntmps222
    go_wp2_with (first|(go_at_call 114;refine (Vp _ _ _ _ (by decide) (by decide)).mono ?_;rintro e w' ⟨rfl,rfl⟩)|(go_at_call 246;refine (Sq _ true _ (Za H3).symm).mono ?_;rintro e w' ⟨rfl,rfl⟩))
    go_ret
    exact⟨rfl,(Za HB) _⟩
  ·have g3:(k != 1)=true:=by simp[h2]
   by_cases h4:n=0
   ·subst h4
    have h3:fit 0=true:=by decide
    have e:Xc (k,0)=0:=by simp[Xc,h3,h1]
    rw[e]
    have H3:=Zb h3
    clear e h3 h1 h2
    go_enter Tryz.func222,Tryz.ntmps222
    go_wp2_with (first|(go_at_call 114;refine (Vp _ _ _ _ g1 g2).mono ?_;rintro e w' ⟨rfl,rfl⟩)|(go_at_call 246;refine (Sq _ true _ (Za H3).symm).mono ?_;rintro e w' ⟨rfl,rfl⟩))
    go_ret
    exact⟨rfl,(Za HB) _⟩
   ·have g4:(n != 0)=true:=by simp[h4]
    have e:Xc (k,n)=3:=by simp[Xc,h1,h2,h4]
    rw[e]
    clear e h1 h2 h4
    go_enter Tryz.func222,Tryz.ntmps222
    go_wp2_with (go_at_call 114;refine (Vp _ _ _ _ g1 g2).mono ?_;rintro e w' ⟨rfl,rfl⟩)
    go_ret
    exact⟨rfl,(Za HB) _⟩
def OpsAt(w:World)(a:Option Addr)(len:Nat)(l:List (Int×Int)):Prop:=
 l.length=len∧(0<len→∃ b off,a=some ⟨b,off,none⟩∧∀ i,i<len→w.cell? ⟨b,off+i*2,none⟩=some (.int .i64 (l.getD i (0,0)).1)∧w.cell? ⟨b,off+i*2+1,none⟩=some (.int .i64 (l.getD i (0,0)).2))
theorem OpsAt.later{w w':World}{a:Option Addr}{len:Nat}{l:List (Int×Int)}(h:OpsAt w a len l)(hb:Below w.heap.size w w'):OpsAt w' a len l:=by
 obtain⟨hz,hc⟩:=h
 refine⟨hz,fun h=>?_⟩
 obtain⟨b,off,rfl,hcell⟩:=hc h
 refine⟨b,off,rfl,fun i hi=>?_⟩
 obtain⟨h1,h2⟩:=hcell i hi
 refine⟨?_,?_⟩
 ·rw[hb.cell (p:=⟨b,off+i*2,none⟩) (World.block_lt_of_cell? _ _ h1)];exact h1
 ·rw[hb.cell (p:=⟨b,off+i*2+1,none⟩) (World.block_lt_of_cell? _ _ h2)];exact h2
theorem Zax(a:Option Addr)(len cap:Nat)(w:World)(h:16<len) :
  Calls Tryz.prog 185 #[.slice a len cap] w fun e w'=>e = .returned (.int .i64 2)∧w=w':=by
 go_enter Tryz.func185,Tryz.ntmps185
 go_wp2
 go_ret
 exact⟨rfl,rfl⟩
theorem Mb(a:Option Addr)(cap:Nat)(w:World) :
  Calls Tryz.prog 185 #[.slice a 0 cap] w fun e w'=>e = .returned (.int .i64 0)∧w=w':=by
 go_enter Tryz.func185,Tryz.ntmps185
 go_wp2
 refine wp_loop_rounds 1 ?_
 rw[rounds_succ]
 go_wp2
 go_ret
 exact⟨rfl,rfl⟩
theorem Zaw(b off len cap:Nat)(l:List (Int×Int))(w:World)(h0:len≤16)(hz:l.length=len)
  (hc:∀ i,i<len→w.cell? ⟨b,off+i*2,none⟩=some (.int .i64 (l.getD i (0,0)).1)∧w.cell? ⟨b,off+i*2+1,none⟩=some (.int .i64 (l.getD i (0,0)).2)) (hl:b<w.heap.size) :
  Calls Tryz.prog 185 #[.slice (some ⟨b,off,none⟩) len cap] w fun e w'=>e = .returned (.int .i64 (Vv l))∧Below w.heap.size w w':=by
 have HC:=Zb hc
 have HZ:=Zb hz
 clear hc hz
 go_enter Tryz.func185,Tryz.ntmps185
 go_wp2
 go_loopw [11] (fun i wr=>∃ k:Nat,k≤len∧i = .int .i64 k∧Vv (l.take k)=0∧Below w.heap.size w wr) (fun i _=>len - (intOf i).toNat)
 case atStart=>exact⟨0,Nat.zero_le _,rfl,rfl,Below.refl _ _⟩
 case round=>
  obtain⟨k,hk,rfl,hok,hb⟩:=hrel
  have HOK:=Zb hok
  have HB:=Zb hb
  clear hok
  by_cases hlt:k<len
  ·obtain⟨c1,c2⟩:=(Za HC) k hlt
   rw[←hb.cell (p:=⟨b,off+k*2,none⟩) hl] at c1
   rw[←hb.cell (p:=⟨b,off+k*2+1,none⟩) hl] at c2
   obtain⟨q,hq⟩:∃ q,q=l.getD k (0,0):=⟨_,rfl⟩
   rw[←hq] at c1 c2
   have hlk:k<l.length:=by rw[Za HZ];exact hlt
   have hq':q=l[k]:=by rw[hq];simp[hlk]
   have HQ:=Zb hq'
   clear hb hq hq'
   obtain⟨q1,q2⟩:=q
   have CO:=Zb (Md q1 q2)
   obtain⟨x,hx⟩:∃ x,x=Xc (q1,q2):=⟨_,rfl⟩
   rw[←hx] at CO
   have HX:=Zb hx
   clear hx
   by_cases hx0:x=0
   ·subst hx0
    go_wp2_with fail
    refine ((Za CO) _).mono ?_
    rintro e w1 ⟨rfl,hb1⟩
    have hb2:=(Za HB).trans (((Below.refl wr.heap.size wr).alloc (Nat.le_refl _) _).trans (hb1.mono (by simp)) |>.mono (Za HB).size)
    have HB2:=Zb hb2
    clear hb1 hb2
    go_wp2
    go_roundw
    case rel=>
     refine⟨k+1,by omega,by go_num,?_,Za HB2⟩
     rw[Dc l k hlk (Za HOK),←Za HQ,←Za HX];rfl
    case measure=>simp[intOf];omega
   ·have hx1:(x != 0)=true:=by simp[hx0]
    have HX0:=Zb hx0
    clear hx0
    go_wp2_with fail
    refine ((Za CO) _).mono ?_
    rintro e w1 ⟨rfl,hb1⟩
    have hb2:=(Za HB).trans (((Below.refl wr.heap.size wr).alloc (Nat.le_refl _) _).trans (hb1.mono (by simp)) |>.mono (Za HB).size)
    have HB2:=Zb hb2
    clear hb1 hb2
    go_wp2
    go_ret
    refine⟨Sa ?_,Za HB2⟩
    rw[Dd l k hlk (Za HOK) (by rw[←Za HQ,←Za HX];exact Za HX0),←Za HQ,←Za HX]
  ·clear hb
   go_wp2
   go_ret
   have e:k=len:=by omega
   subst e
   refine⟨Sa ?_,Za HB⟩
   have h1:=Za HOK
   rw[←Za HZ,List.take_length] at h1
   exact h1.symm
theorem Uo(a:Option Addr)(len cap:Nat)(l:List (Int×Int))(w:World)(h:OpsAt w a len l) :
  Calls Tryz.prog 185 #[.slice a len cap] w fun e w'=>e = .returned (.int .i64 (chk l))∧Below w.heap.size w w':=by
 obtain⟨hz,hc⟩:=h
 unfold chk
 rw[hz]
 by_cases h1:16<len
 ·rw[if_pos h1]
  exact (Zax a len cap w h1).mono fun e w' ⟨x,y⟩=>⟨x,y ▸ Below.refl _ _⟩
 ·rw[if_neg h1]
  by_cases h2:len=0
  ·subst h2
   have e:l=[]:=List.length_eq_zero_iff.1 hz
   subst e
   exact (Mb a cap w).mono fun e w' ⟨x,y⟩=>⟨x,y ▸ Below.refl _ _⟩
  ·obtain⟨b,off,rfl,hcell⟩:=hc (by omega)
   exact Zaw b off len cap l w (by omega) hz hcell (World.block_lt_of_cell? _ _ (hcell 0 (by omega)).1)
def RowAt(w:World)(a:Option Addr)(len:Nat)(Z:List Int):Prop:=
 Z.length=len∧len≤maxLen∧(0<len→∃ b off,a=some ⟨b,off,none⟩∧∀ i,i<len→w.cell? ⟨b,off+i,none⟩=some (.int .i64 (Z.getD i 0)))
theorem RowAt.later{w w':World}{a:Option Addr}{len:Nat}{Z:List Int}(h:RowAt w a len Z)(hb:Below w.heap.size w w'):RowAt w' a len Z:=by
 obtain⟨hz,hm,hc⟩:=h
 refine⟨hz,hm,fun h=>?_⟩
 obtain⟨b,off,rfl,hcell⟩:=hc h
 refine⟨b,off,rfl,fun i hi=>?_⟩
 have h1:=hcell i hi
 rw[hb.cell (p:=⟨b,off+i,none⟩) (World.block_lt_of_cell? _ _ h1)];exact h1
theorem RowAt.nil(w:World)(a:Option Addr):RowAt w a 0 []:=⟨rfl,Nat.zero_le _,fun h=>absurd h (by omega)⟩
theorem F2{w w1 w2:World}(h1:Below w.heap.size w w1)(h2:Below w1.heap.size w1 w2):Below w.heap.size w w2:=h1.trans (h2.mono h1.size)
structure FillV(B:Nat)(e:TypeId)(p:Nat)(f:Nat→Value)(w wr:World)(k:Nat):Prop where
 ex:∃ xs:List Value,wr.ownsRow B e 1 (.slice (some ⟨B,0,none⟩) p p) p xs∧∀ j,j<k→xs[j]? = some (f j)
 bel:Below B w wr
theorem FillV.lt{B:Nat}{e:TypeId}{p:Nat}{f:Nat→Value}{w wr:World}{k:Nat}(h:FillV B e p f w wr k):B<wr.heap.size:=by
 obtain⟨_,ho,_⟩:=h.ex
 exact (ho.lt B rfl).2
theorem FillV.old{B:Nat}{e:TypeId}{p:Nat}{f:Nat→Value}{w wr:World}{k:Nat}(h:FillV B e p f w wr k)(hk:k<p):∃ v,wr.cell? ⟨B,k,none⟩=some v:=by
 obtain⟨xs,ho,_⟩:=h.ex
 have hl:xs.length=p:=by simpa using ho.1
 exact⟨xs[k]'(by omega),by rw[ho.cellAt k (by omega)];simp[hl,hk]⟩
theorem FillV.free{B:Nat}{e:TypeId}{p:Nat}{f:Nat→Value}{w wr:World}{k:Nat}(h:FillV B e p f w wr k)(j:Nat):wr.frozen? ⟨B,j,none⟩=false:=by
 obtain⟨xs,ho,_⟩:=h.ex
 exact ho.frozenAt j
theorem FillV.step{B:Nat}{e:TypeId}{p:Nat}{f:Nat→Value}{w wr:World}{k:Nat}(h:FillV B e p f w wr k)(hk:k<p){v:Value}(hv:v=f k):FillV B e p f w (wr.setCell ⟨B,k,none⟩ v) (k+1):=by
 obtain⟨xs,ho,hf⟩:=h.ex
 have hl:xs.length=p:=by simpa using ho.1
 refine⟨⟨xs.set k v,(ho.stored k _).1,fun j hj=>?_⟩,h.bel.setCell (Nat.le_refl _) _⟩
 by_cases e:j=k
 ·subst e;simp[hl,hk,hv]
 ·rw[List.getElem?_set_ne (by omega)];exact hf j (by omega)
theorem FillV.keep{B:Nat}{e:TypeId}{p:Nat}{f:Nat→Value}{w wr w':World}{k:Nat}(h:FillV B e p f w wr k)(hb:Below wr.heap.size wr w'):FillV B e p f w w' k:=by
 obtain⟨xs,ho,hf⟩:=h.ex
 refine⟨⟨xs,?_,hf⟩,h.bel.trans (hb.mono (Nat.le_of_lt h.lt))⟩
 obtain⟨hl,h0|⟨g,cap,cur,hv,hg,hh,r⟩⟩:=ho
 ·exact⟨hl,.inl h0⟩
 ·exact⟨hl,.inr ⟨g,cap,cur,hv,hg,(hb.block g (lt_of_block hh)).trans hh,r⟩⟩
theorem FillV.cells{B:Nat}{e:TypeId}{p:Nat}{f:Nat→Value}{w wr:World}{k:Nat}(h:FillV B e p f w wr k)(hk:k≤p)(i:Nat)(hi:i<k):wr.cell? ⟨B,i,none⟩=some (f i):=by
 obtain⟨xs,ho,hf⟩:=h.ex
 rw[ho.cellAt i (by omega)]
 exact hf i hi
def namesL:List ByteArray:=[⟨#[]⟩,⟨#[]⟩,⟨#[100,117,112]⟩,⟨#[115,119,97,112]⟩,⟨#[100,114,111,112]⟩,⟨#[97,100,100]⟩,⟨#[115,117,98]⟩,⟨#[115,97,109,101]⟩,⟨#[108,101,115,115]⟩,⟨#[110,111,116]⟩,⟨#[97,110,100]⟩,⟨#[118,101,114,105,102,121]⟩,⟨#[104,101,105,103,104,116]⟩,⟨#[109,105,120]⟩]
def Jr(k:Nat):ByteArray:=namesL.getD k ⟨#[]⟩
def E9:Array Value:=(namesL.map Value.string).toArray
def Xm(o:Int×Int):ByteArray:=if o.1=1 then ⟨(Lib.itoa o.2).toArray⟩ else Jr o.1.toNat
def Ya(l:List (Int×Int)):ByteArray:=⟨(Lib.join ((l.map Xm).map (·.data.toList)) [32]).toArray⟩
structure Env(w:World):Prop where
 tab:Lib.TabIs Tryz.prog w "internal/strconv.uint64pow10" .u64 Lib.pow10Tab
 nam:w.var? Tryz.prog "cairn/lock.names" = some E9
theorem Tryz.gTab:Tryz.prog.globalNamed "internal/strconv.uint64pow10" = some 3:=by kernel_rfl
theorem Tryz.gNam:Tryz.prog.globalNamed "cairn/lock.names" = some 2:=by kernel_rfl
theorem Env.later{w w':World}(h:Env w)(hb:Below w.heap.size w w'):Env w':=
 ⟨Joins.var_stays Tryz.gTab h.tab hb (Nat.le_refl _),Joins.var_stays Tryz.gNam h.nam hb (Nat.le_refl _)⟩
theorem Env.name{w:World}(h:Env w)(k:Nat)(hk:k<14):w.cell? ⟨2,k,none⟩=some (.string (Jr k)):=by
 have:=World.var?_cell Tryz.gNam h.nam k
 rw[this]
 have hl:k<namesL.length:=hk
 simp[E9,Jr,hl]
theorem Env.lt{w:World}(h:Env w):2<w.heap.size:=World.block_lt_of_cell? _ _ (h.name 0 (by decide))
theorem Hk{a b:ByteArray}(h:a=b):Ending.returned (.string a) = .returned (.string b):=by rw[h]
theorem Kk(k n:Int)(w:World)(hE:Env w)(hc:Xc (k,n)=0) :
  Calls Tryz.prog 193 #[.agg #[.int .i64 k,.int .i64 n]] w fun e w'=>e = .returned (.string (Xm (k,n)))∧Below w.heap.size w w':=by
 have hb:Below w.heap.size w (w.alloc (.cells #[.int .i64 k,.int .i64 n] 122)):=(Below.refl _ _).alloc (Nat.le_refl _) _
 have HB:=Zb hb
 have HE:=Zb hE
 by_cases h1:k=1
 ·subst h1
  have hn : -1000000≤n∧n≤1000000:=by
   have:fit n=true:=by
    simp only[Xc] at hc
    cases h:fit n with
    | true=>rfl
    | false=>simp[h] at hc
   exact (Z0 n).1 this
  have g0 : -9223372036854775808≤n:=by omega
  have g1:n≤9223372036854775807:=by omega
  have e:Xm (1,n)=⟨(Lib.itoa n).toArray⟩:=by simp[Xm]
  rw[e]
  have HT:=Zb (hE.later hb).tab
  clear hE hc hb e hn
  go_enter Tryz.func193,Tryz.ntmps193
  go_wp2_with fail
  refine (Tryz.strconv_Itoa n g0 g1 _ (Za HT)).mono ?_
  rintro e w1 ⟨rfl,k,os,rfl⟩
  have HB2:=Zb ((Za HB).trans ((Lib.below_grow _ _ (Nat.le_refl _) k os).mono (Za HB).size))
  go_wp2
  go_ret
  exact⟨rfl,Za HB2⟩
 ·have hk:1≤k∧k≤13:=by
   simp only[Xc] at hc
   split at hc
   ·cases hc
   ·omega
  obtain⟨m,rfl⟩:=Int.eq_ofNat_of_zero_le (show 0≤k by omega)
  have e:Xm ((m:Int),n)=Jr m:=by simp[Xm];intro h;omega
  have c1:=hE.name m (by omega)
  have hl:=hE.lt
  have g1:((m:Int) == 1)=false:=by simp;omega
  have g2:(m:Int)<14:=by omega
  rw[e]
  obtain⟨x,hx⟩:∃ x,x=Jr m:=⟨_,rfl⟩
  rw[←hx] at c1 ⊢
  clear hE hc hb e h1 hk hx
  go_enter Tryz.func193,Tryz.ntmps193
  go_wp2
  go_ret
  exact⟨rfl,Za HB⟩
theorem Av{a b:ByteArray}{v:Value}(h:a=b):Ending.returned (.tuple #[.string a,v]) = .returned (.tuple #[.string b,v]):=by rw[h]
theorem Tryz.info9:(Tryz.prog.info? 9).map (fun i=>(i.zero,i.size,i.bytes))=some (some (.string ⟨#[]⟩),1,16):=by kernel_rfl
theorem Ex(o:Int×Int)(h:Xc o=0):(Xm o).data.toList.length≤21:=by
 obtain⟨k,n⟩:=o
 unfold Xm
 split
 ·rename_i h1
  have h1:k=1:=h1
  subst h1
  have hn : -1000000≤n∧n≤1000000:=by
   have:fit n=true:=by
    simp only[Xc] at h
    cases hf:fit n with
    | true=>rfl
    | false=>simp[hf] at h
   exact (Z0 n).1 this
  simpa using Lib.itoa_length_le n (by omega) (by omega)
 ·have hk:1≤k∧k≤13:=by
   simp only[Xc] at h
   split at h
   ·cases h
   ·omega
  show (Jr k.toNat).data.toList.length≤21
  have hk2:k.toNat<14:=by omega
  have all:∀ j:Fin 14,(Jr j.val).data.toList.length≤21:=by decide
  exact all ⟨k.toNat,hk2⟩
theorem Zbz:∀ (xs:List (List UInt8)),(∀ x∈xs,x.length≤21)→Lib.lens xs≤21*xs.length
 | [],_=>by simp[Lib.lens]
 | x :: r,h=>by
  have h1:=h x (by simp)
  have h2:=Zbz r (fun y hy=>h y (by simp[hy]))
  simp only[Lib.lens,List.length_cons] at h2 ⊢
  simp at h2 ⊢
  omega
theorem J3(l:List (Int×Int))(h16:l.length≤16)(h:Vv l=0):(Lib.join ((l.map Xm).map (·.data.toList)) [32]).length≤400:=by
 cases l with
 | nil=>simp[Lib.join_nil]
 | cons o r=>
  rw[List.map_cons,List.map_cons,Lib.join_length]
  have hl:=Zbz (((o :: r).map Xm).map (·.data.toList)) (fun x hx=>by
   simp only[List.map_map,List.mem_map,Function.comp] at hx
   obtain⟨q,hq,rfl⟩:=hx
   obtain⟨i,hi,rfl⟩:=List.getElem_of_mem hq
   exact Ex _ (Rb h i hi))
  simp only[List.map_cons,List.length_cons,List.length_map,List.length_nil] at hl h16 ⊢
  omega
theorem Zdl(a:Option Addr)(len cap:Nat)(l:List (Int×Int))(w:World)(hO:OpsAt w a len l)(hc:chk l≠0) :
  Calls Tryz.prog 166 #[.slice a len cap] w fun e w'=>e = .returned (.tuple #[.string ⟨#[]⟩,.int .i64 (chk l)])∧Below w.heap.size w w':=by
 have CK:=Zb (Uo a len cap l w hO)
 obtain⟨x,hx⟩:∃ x,x=chk l:=⟨_,rfl⟩
 rw[←hx] at hc CK ⊢
 have hx1:(x != 0)=true:=by simp[hc]
 clear hO hc hx
 go_enter Tryz.func166,Tryz.ntmps166
 go_wp2_with fail
 refine (Za CK).mono ?_
 rintro e w1 ⟨rfl,hb1⟩
 have HB1:=Zb hb1
 clear hb1
 go_wp2
 go_ret2
 exact⟨rfl,Za HB1⟩
def Zbh(l:List (Int×Int))(j:Nat):Value:=.string (Xm (l.getD j (0,0)))
theorem Eu(b off len cap:Nat)(l:List (Int×Int))(w:World)(hE:Env w)(hz:l.length=len)(hpos:0<len)(hck:chk l=0)(hbl:b<w.heap.size)
  (hc:∀ i,i<len→w.cell? ⟨b,off+i*2,none⟩=some (.int .i64 (l.getD i (0,0)).1)∧w.cell? ⟨b,off+i*2+1,none⟩=some (.int .i64 (l.getD i (0,0)).2)) :
  Calls Tryz.prog 166 #[.slice (some ⟨b,off,none⟩) len cap] w fun e w'=>e = .returned (.tuple #[.string (Ya l),.int .i64 0])∧Below w.heap.size w w':=by
 obtain⟨i0,hi,hz0,hz1,hz2⟩:=info_parts Tryz.info9
 have h16:len≤16:=by
  unfold chk at hck
  split at hck
  ·cases hck
  ·omega
 have hck':Vv l=0:=by
  unfold chk at hck
  split at hck
  ·cases hck
  ·exact hck
 have HK:=Zb (Rb hck')
 have HTL:=Zb (J3 l (by omega) hck')
 have CK:=Zb (Uo (some ⟨b,off,none⟩) len cap l w ⟨hz,fun _=>⟨b,off,rfl,hc⟩⟩)
 rw[hck] at CK
 have HE:=Zb hE
 have HC:=Zb hc
 have HZ:=Zb hz
 clear hE hc hz hck hck'
 go_enter Tryz.func166,Tryz.ntmps166
 go_wp2_with fail
 refine (Za CK).mono ?_
 rintro e w1 ⟨rfl,hb1⟩
 have HB1:=Zb hb1
 clear hb1
 go_wp2_with (at_make;refine wpList_make_full _ rfl _ _ 22 rfl w1.heap.size 9 i0 (.string ⟨#[]⟩) 1 Tryz.underlying22 hi hz0 hz1 .i64 .i64 _ _ len rfl rfl rfl rfl (by rw[hz2];omega) (by unfold maxLen;omega) (Nat.le_refl _) ?_;intro w2 hown2 hgrow2)
 have hst:FillV w1.heap.size 9 len (Zbh l) w1 w2 0:=⟨⟨_,hown2,fun j hj=>absurd hj (by omega)⟩,(Below.refl _ _).grown hgrow2 (Nat.le_refl _) (fun k h=>by cases h)⟩
 have HST:=Zb hst
 clear hst hown2 hgrow2
 go_loopw [18] (fun i wr=>∃ k:Nat,k≤len∧i = .int .i64 k∧FillV w1.heap.size 9 len (Zbh l) w1 wr k) (fun i _=>len - (intOf i).toNat)
 case atStart=>exact⟨0,Nat.zero_le _,rfl,Za HST⟩
 case round=>
  obtain⟨k,hk,rfl,hfl⟩:=hrel
  have HF:=Zb hfl
  have hbw:Below w.heap.size w wr:=(Za HB1).trans (hfl.bel.mono (Za HB1).size)
  have HBW:=Zb hbw
  by_cases hlt:k<len
  ·have hlk:k<l.length:=by rw[Za HZ];exact hlt
   obtain⟨c1,c2⟩:=(Za HC) k hlt
   rw[←hbw.cell (p:=⟨b,off+k*2,none⟩) hbl] at c1
   rw[←hbw.cell (p:=⟨b,off+k*2+1,none⟩) hbl] at c2
   obtain⟨q,hq⟩:∃ q,q=l.getD k (0,0):=⟨_,rfl⟩
   rw[←hq] at c1 c2
   have hq':q=l[k]:=by rw[hq];simp[hlk]
   have hkk:=(Za HK) k hlk
   rw[←hq'] at hkk
   have HQ:=Zb hq
   obtain⟨kd,n⟩:=q
   have hba:Below wr.heap.size wr (wr.alloc (.cells #[.int .i64 kd,.int .i64 n] 122)):=(Below.refl _ _).alloc (Nat.le_refl _) _
   have PO:=Zb (Kk kd n _ (((Za HE).later hbw).later hba) hkk)
   obtain⟨x,hx⟩:∃ x,x=Xm (kd,n):=⟨_,rfl⟩
   rw[←hx] at PO
   have HX:=Zb hx
   have HBA:=Zb hba
   clear hfl hbw hq hq' hkk hx hba
   go_wp2_with fail
   refine (Za PO).mono ?_
   rintro e w3 ⟨rfl,hb3⟩
   have hf3:=((Za HF).keep (Za HBA)).keep hb3
   obtain⟨v,hold⟩:=hf3.old hlt
   have hfree:=hf3.free k
   have HF3:=Zb hf3
   clear hb3 hf3
   go_wp2
   go_roundw
   case rel=>
    refine⟨k+1,by omega,by go_num,(Za HF3).step hlt ?_⟩
    show Value.string x=Zbh l k
    rw[Za HX,Za HQ];rfl
   case measure=>simp[intOf];omega
  ·clear hfl hbw
   have e:k=len:=by omega
   subst e
   clear hk hlt
   have HJ:Hid (∀ (j:Nat) x,(l.map Xm)[j]? = some x→wr.cell? ⟨w1.heap.size,0+j,none⟩=some (.string x)):=fun j x hj=>by
    have hjl:j<l.length:=by
     rcases Nat.lt_or_ge j l.length with h|h
     ·exact h
     ·rw[List.getElem?_eq_none (by simpa using h)] at hj;cases hj
    rw[Nat.zero_add,(Za HF).cells (Nat.le_refl _) j (by rw[←Za HZ];exact hjl)]
    simp[hjl] at hj
    simp[Zbh,hjl,hj]
   have HL:Hid ((l.map Xm).length=k):=by rw[List.length_map];exact Za HZ
   have JN:=Zb (Tryz.strings_Join w1.heap.size 0 k (l.map Xm) ⟨#[32]⟩ wr (Za HJ) (Za HF).lt (by rw[Za HL];omega) (by rw[Za HL];exact Nat.le_refl _) (Nat.le_trans (Za HTL) (by decide)))
   rw[Za HL] at JN
   change Hid (Calls _ _ _ _ fun e w'=>e = .returned (.string (Ya l))∧_) at JN
   obtain⟨t,ht⟩:∃ t,t=Ya l:=⟨_,rfl⟩
   rw[←ht] at JN
   have HT:=Zb ht
   clear ht
   go_wp2_with fail
   refine (Za JN).mono ?_
   rintro e w4 ⟨rfl,hb4⟩
   have HB4:=Zb (F2 (Za HBW) hb4)
   clear hb4
   go_wp2
   go_ret2
   exact⟨Av (Za HT),Za HB4⟩
theorem Ev(a:Option Addr)(cap:Nat)(w:World) :
  Calls Tryz.prog 166 #[.slice a 0 cap] w fun e w'=>e = .returned (.tuple #[.string ⟨#[]⟩,.int .i64 0])∧Below w.heap.size w w':=by
 obtain⟨i0,hi,hz0,hz1,hz2⟩:=info_parts Tryz.info9
 go_enter Tryz.func166,Tryz.ntmps166
 go_wp2_with fail
 refine (Mb a cap w).mono ?_
 rintro e w1 ⟨rfl,rfl⟩
 go_wp2_with (at_make;refine wpList_make_full _ rfl _ _ 22 rfl w.heap.size 9 i0 (.string ⟨#[]⟩) 1 Tryz.underlying22 hi hz0 hz1 .i64 .i64 _ _ 0 rfl rfl rfl rfl (by rw[hz2];omega) (by unfold maxLen;omega) (Nat.le_refl _) ?_;intro w2 hown2 hgrow2)
 have HB:Hid (Below w.heap.size w w2):=(Below.refl _ _).grown hgrow2 (Nat.le_refl _) (fun k h=>by cases h)
 clear hown2 hgrow2
 refine wp_loop_rounds 1 ?_
 rw[rounds_succ]
 go_wp2_with fail
 refine (Tryz.strings_Join_none _ _ _ _).mono ?_
 rintro e w3 ⟨rfl,rfl⟩
 go_wp2
 go_ret2
 exact⟨rfl,Za HB⟩
def prT(l:List (Int×Int)):ByteArray:=if chk l=0 then Ya l else ⟨#[]⟩
theorem Zdm(a:Option Addr)(len cap:Nat)(l:List (Int×Int))(w:World)(hE:Env w)(hO:OpsAt w a len l) :
  Calls Tryz.prog 166 #[.slice a len cap] w fun e w'=>e = .returned (.tuple #[.string (prT l),.int .i64 (chk l)])∧Below w.heap.size w w':=by
 unfold prT
 by_cases hck:chk l=0
 ·rw[if_pos hck,hck]
  obtain⟨hz,hc⟩:=hO
  by_cases h:len=0
  ·subst h
   have e:l=[]:=List.length_eq_zero_iff.1 hz
   subst e
   exact Ev a cap w
  ·obtain⟨b,off,rfl,hcell⟩:=hc (by omega)
   exact Eu b off len cap l w hE hz (by omega) hck (World.block_lt_of_cell? _ _ (hcell 0 (by omega)).1) hcell
 ·rw[if_neg hck]
  exact Zdl a len cap l w hO hck
structure EnvP(w:World):Prop where
 env:Env w
 syn:∃ tp p,w.var? Tryz.prog "strconv.ErrSyntax" = some #[.iface tp p]
 ran:∃ tp p,w.var? Tryz.prog "strconv.ErrRange" = some #[.iface tp p]
 shp:w.ShapedOpen Tryz.prog
def Xn(v:Int):ByteArray:=⟨(Lib.itoa v).toArray⟩
structure EnvE(w:World):Prop where
 env:Env w
theorem EnvE.later{w w':World}(h:EnvE w)(hb:Below w.heap.size w w'):EnvE w':=⟨h.env.later hb⟩
structure EnvF(w:World):Prop where
 envp:EnvE w
 spc:Lib.TabIs Tryz.prog w "strings.asciiSpace" .u8 Lib.asciiSpaceTab
theorem Tryz.gSpc:Tryz.prog.globalNamed "strings.asciiSpace" = some 0:=by kernel_rfl
theorem EnvF.later{w w':World}(h:EnvF w)(hb:Below w.heap.size w w'):EnvF w':=
 ⟨h.envp.later hb,Joins.var_stays Tryz.gSpc h.spc hb (Nat.le_refl _)⟩
def refB:ByteArray:=⟨#[45,32,45,32,100,117,112,32,115,119,97,112,32,100,114,111,112,32,97,100,100,32,115,117,98,32,115,97,109,101,32,108,101,115,115,32,110,111,116,32,97,110,100,32,118,101,114,105,102,121,32,104,101,105,103,104,116,32,109,105,120]⟩
def refL:List ByteArray:=[⟨#[45]⟩,⟨#[45]⟩]++namesL.drop 2
theorem Zag:(Lib.fields refB.data.toList).map (fun l=>Value.string ⟨l.toArray⟩)=refL.map Value.string:=by
 have h:Lib.fields refB.data.toList=refL.map (·.data.toList):=by decide +kernel
 rw[h,List.map_map]
 rfl
theorem Zah:(Lib.fields refB.data.toList).length=14:=by decide +kernel
theorem Zdc:∀ (j:Nat) b,refB.data.toList[j]? = some b→b.toNat<128:=by
 have h:refB.data.toList.all (fun b=>decide (b.toNat<128))=true:=by decide +kernel
 intro j b hb
 simpa using List.all_eq_true.1 h b (List.mem_of_getElem? hb)
theorem Lq(w:World)(hE:EnvF w) :
  Calls Tryz.prog 148 #[.string refB] w fun e w'=>e = .returned (.slice (some ⟨w.heap.size,0,none⟩) 14 14)∧w'=w.alloc (.cells (refL.map Value.string).toArray 9):=by
 have h:=Tryz.strings_Fields refB w (by decide) Zdc hE.spc
 rw[Zag,Zah] at h
 exact h
theorem Zgh(w:World)(k:Nat)(hk:k<14):(w.alloc (.cells (refL.map Value.string).toArray 9)).cell? ⟨w.heap.size,k,none⟩=some (.string (refL.getD k ⟨#[]⟩)):=by
 rw[World.cell?_alloc_at _ _ _ _ rfl]
 have hl:k<refL.length:=hk
 simp[hl]
theorem Zdd(k:Nat)(h2:2≤k)(hk:k<14):refL.getD k ⟨#[]⟩=Jr k:=by
 have:∀ m:Fin 14,2≤m.val→refL.getD m.val ⟨#[]⟩=Jr m.val:=by decide +kernel
 exact this ⟨k,hk⟩ h2
theorem Zea(xs:List (List UInt8))(x sep:List UInt8)(h:xs≠[]):Lib.join (xs++[x]) sep=Lib.join xs sep++(sep++x):=by
 cases xs with
 | nil=>exact absurd rfl h
 | cons y r=>rw[List.cons_append,Lib.join_cons,Lib.join_cons,Lib.joinTail,Lib.joinTail,List.map_append,List.flatten_append,List.append_assoc];simp
theorem Qi{a b:ByteArray}(h:a.data.toList=b.data.toList):a=b:=by
 cases a with|mk d=>cases b with|mk e=>cases d;cases e;simp at h;rw[h]
theorem Gg(q:Int×Int):Ya [q]=⟨#[]⟩++Xm q:=by
 apply Qi
 simp[Ya,Lib.join_one,ByteArray.data_append]
theorem Sh(l:List (Int×Int))(q:Int×Int)(h:l≠[]):Ya (l++[q])=(Ya l++⟨#[32]⟩)++Xm q:=by
 apply Qi
 unfold Ya
 rw[List.map_append,List.map_append,List.map_cons,List.map_nil,List.map_cons,List.map_nil,Zea _ _ _ (by simpa using h)]
 simp[ByteArray.data_append]
theorem L0:∀ (l:List (Int×Int)) (k:Nat),Vv l=0→Vv (l.take k)=0
 | [],k,_=>by rw[List.take_nil];rfl
 | o :: r,0,_=>rfl
 | o :: r,k+1,h=>by
  rw[List.take_succ_cons]
  simp only[Vv] at h ⊢
  split at h
  ·rename_i e
   rw[if_pos e]
   exact L0 r k h
  ·contradiction
theorem Dz(l:List (Int×Int))(h16:l.length≤16)(h:Vv l=0):(Ya l).size≤400:=by
 have:=J3 l h16 h
 simpa[Ya,ByteArray.size] using this
theorem Q5{a b:ByteArray}(h:a=b):Value.string a = .string b:=by rw[h]
theorem Dx(b off len cap:Nat)(l:List (Int×Int))(w:World)(hE:EnvF w)(hz:l.length=len)(hck:chk l=0)(hbl:b<w.heap.size)
  (hc:∀ i,i<len→w.cell? ⟨b,off+i*2,none⟩=some (.int .i64 (l.getD i (0,0)).1)∧w.cell? ⟨b,off+i*2+1,none⟩=some (.int .i64 (l.getD i (0,0)).2)) :
  Calls Tryz.prog 108 #[.slice (some ⟨b,off,none⟩) len cap] w fun e w'=>e = .returned (.string (Ya l))∧Below w.heap.size w w':=by
 have h16:len≤16:=by
  unfold chk at hck
  split at hck
  ·cases hck
  ·omega
 have hck':Vv l=0:=by
  unfold chk at hck
  split at hck
  ·cases hck
  ·exact hck
 have HK:=Zb (Rb hck')
 have HCK:=Zb hck'
 have HE:=Zb hE
 have HC:=Zb hc
 have HZ:=Zb hz
 have FL:=Zb (Lq w hE)
 clear hE hc hz hck hck'
 go_enter Tryz.func108,Tryz.ntmps108
 go_wp2_with fail
 refine (Za FL).mono ?_
 rintro e w1 ⟨rfl,hw1⟩
 have HB1:Hid (Below w.heap.size w w1):=by rw[hw1];exact (Below.refl _ _).alloc (Nat.le_refl _) _
 have HN:Hid (∀ k,k<14→w1.cell? ⟨w.heap.size,k,none⟩=some (.string (refL.getD k ⟨#[]⟩))):=by rw[hw1];exact fun k hk=>Zgh w k hk
 have hsz:w.heap.size<w1.heap.size:=by rw[hw1];simp
 clear hw1
 go_wp2
 go_loopw [4,10] (fun s i wr=>∃ k:Nat,k≤len∧i = .int .i64 k∧s = .string (Ya (l.take k))∧Below w1.heap.size w1 wr) (fun _ i _=>len - (intOf i).toNat)
 case atStart=>exact⟨0,Nat.zero_le _,rfl,rfl,Below.refl _ _⟩
 case round=>
  obtain⟨k,hk,rfl,rfl,hbr⟩:=hrel
  have hbw:Below w.heap.size w wr:=F2 (Za HB1) hbr
  have HBW:=Zb hbw
  have HBR:=Zb hbr
  by_cases hlt:k<len
  ·have hlk:k<l.length:=by rw[Za HZ];exact hlt
   obtain⟨c1,c2⟩:=(Za HC) k hlt
   rw[←hbw.cell (p:=⟨b,off+k*2,none⟩) hbl] at c1
   rw[←hbw.cell (p:=⟨b,off+k*2+1,none⟩) hbl] at c2
   obtain⟨q,hq⟩:∃ q,q=l.getD k (0,0):=⟨_,rfl⟩
   rw[←hq] at c1 c2
   have hq':q=l[k]:=by rw[hq];simp[hlk]
   have hkk:=(Za HK) k hlk
   rw[←hq'] at hkk
   have hts:l.take (k+1)=l.take k++[q]:=by rw[List.take_succ_eq_append_getElem hlk,hq']
   obtain⟨kd,n⟩:=q
   have hba:Below wr.heap.size wr (wr.alloc (.cells #[.int .i64 kd,.int .i64 n] 122)):=(Below.refl _ _).alloc (Nat.le_refl _) _
   have HBA:=Zb hba
   obtain⟨T,hT⟩:∃ T,T=Ya (l.take k):=⟨_,rfl⟩
   rw[←hT]
   obtain⟨T',hT'⟩:∃ T',T'=Ya (l.take (k+1)):=⟨_,rfl⟩
   have HT':=Zb hT'
   have hne:0<k→l.take k≠[]:=fun h e=>by
    rw[List.take_eq_nil_iff] at e
    rcases e with e|e
    ·omega
    ·rw[e] at hlk;simp at hlk
   have hTs:T.size≤400:=by rw[hT];exact Dz _ (by rw[List.length_take];omega) (L0 l k (Za HCK))
   have hTs1:(T++⟨#[32]⟩:ByteArray).size≤401:=by rw[ByteArray.size_append];show T.size+1≤401;omega
   by_cases h1:kd=1
   ·subst h1
    have hn : -1000000≤n∧n≤1000000:=by
     have:fit n=true:=by
      simp only[Xc] at hkk
      cases h:fit n with
      | true=>rfl
      | false=>simp[h] at hkk
     exact (Z0 n).1 this
    have IT:Hid (∀ w,Env w→Calls Tryz.prog 107 #[.int .i64 n] w fun e w'=>e = .returned (.string (Xn n))∧Below w.heap.size w w'):=fun w hw=>
     (Tryz.strconv_Itoa n (by omega) (by omega) w hw.tab).mono fun e w' ⟨h1,k,os,h2⟩=>⟨h1,by rw[h2];exact Lib.below_grow _ _ (Nat.le_refl _) k os⟩
    have eo:Xm (1,n)=Xn n:=by simp[Xm,Xn]
    have hXs:(Xn n).size≤21:=by
     have:=Lib.itoa_length_le n (by omega) (by omega)
     simpa[Xn,ByteArray.size] using this
    have EE:=Zb ((((Za HE).later hbw).later hba).envp.env)
    by_cases h0:k=0
    ·subst h0
     simp only[Nat.zero_mul,Nat.add_zero] at c1 c2
     have HTT:Hid (T'=T++Xn n):=by
      show _=_
      rw[hT',hts,hT,←eo]
      exact Gg _
     clear hT hT' hts hq hq' hkk hbr hbw hba hn eo hne
     go_wp2_with fail
     refine ((Za IT) _ (Za EE)).mono ?_
     rintro e w3 ⟨rfl,hb3⟩
     have HB3:=Zb ((Za HBR).trans ((F2 (Za HBA) hb3).mono (Za HBR).size))
     clear hb3
     go_wp2
     go_roundw
     case rel=>exact⟨0+1,by omega,by go_num,Q5 ((Za HTT).symm.trans (Za HT')),Za HB3⟩
     case measure=>simp[intOf];omega
    ·have g0:(0:Int)<(k:Int):=by omega
     have HTT:Hid (T'=(T++⟨#[32]⟩)++Xn n):=by
      show _=_
      rw[hT',hts,hT,←eo]
      exact Sh _ _ (hne (by omega))
     clear hT hT' hts hq hq' hkk hbr hbw hba hn eo hne
     go_wp2_with fail
     refine ((Za IT) _ (Za EE)).mono ?_
     rintro e w3 ⟨rfl,hb3⟩
     have HB3:=Zb ((Za HBR).trans ((F2 (Za HBA) hb3).mono (Za HBR).size))
     clear hb3
     go_wp2
     go_roundw
     case rel=>exact⟨k+1,by omega,by go_num,Q5 ((Za HTT).symm.trans (Za HT')),Za HB3⟩
     case measure=>simp[intOf];omega
   ·have hkr:1≤kd∧kd≤13:=by
     simp only[Xc] at hkk
     split at hkk
     ·cases hkk
     ·omega
    obtain⟨m,rfl⟩:=Int.eq_ofNat_of_zero_le (show 0≤kd by omega)
    have eo:Xm ((m:Int),n)=Jr m:=by simp[Xm];intro h;omega
    have c3:=(Za HN) m (by omega)
    rw[Zdd m (by omega) (by omega),←hbr.cell (p:=⟨w.heap.size,m,none⟩) hsz] at c3
    have hl3:w.heap.size<wr.heap.size:=Nat.lt_of_lt_of_le hsz hbr.size
    obtain⟨x,hx⟩:∃ x,x=Jr m:=⟨_,rfl⟩
    rw[←hx] at c3
    have hXs:x.size≤21:=by
     have all:∀ j:Fin 14,(Jr j.val).size≤21:=by decide
     rw[hx];exact all ⟨m,by omega⟩
    have g1:((m:Int) == 1)=false:=by simp;omega
    have g2:(m:Int)<14:=by omega
    have HB3:=Zb ((Za HBR).trans ((Za HBA).mono (Za HBR).size))
    by_cases h0:k=0
    ·subst h0
     simp only[Nat.zero_mul,Nat.add_zero] at c1 c2
     have HTT:Hid (T'=T++x):=by
      show _=_
      rw[hT',hts,hT,hx,←eo]
      exact Gg _
     clear hT hT' hts hq hq' hkk hbr hbw hba eo hne hkr h1 hx
     go_wp2
     go_roundw
     case rel=>exact⟨0+1,by omega,by go_num,Q5 ((Za HTT).symm.trans (Za HT')),Za HB3⟩
     case measure=>simp[intOf];omega
    ·have g0:(0:Int)<(k:Int):=by omega
     have HTT:Hid (T'=(T++⟨#[32]⟩)++x):=by
      show _=_
      rw[hT',hts,hT,hx,←eo]
      exact Sh _ _ (hne (by omega))
     clear hT hT' hts hq hq' hkk hbr hbw hba eo hne hkr h1 hx
     go_wp2
     go_roundw
     case rel=>exact⟨k+1,by omega,by go_num,Q5 ((Za HTT).symm.trans (Za HT')),Za HB3⟩
     case measure=>simp[intOf];omega
  ·have e:k=len:=by omega
   subst e
   have HT:Hid (Ya (l.take k)=Ya l):=by show _=_;rw[List.take_of_length_le (by rw[Za HZ];exact Nat.le_refl _)]
   clear hbr hbw
   go_wp2
   go_ret
   exact⟨Hk (Za HT),Za HBW⟩
theorem Dy(a:Option Addr)(cap:Nat)(w:World)(hE:EnvF w) :
  Calls Tryz.prog 108 #[.slice a 0 cap] w fun e w'=>e = .returned (.string ⟨#[]⟩)∧Below w.heap.size w w':=by
 have FL:=Zb (Lq w hE)
 clear hE
 go_enter Tryz.func108,Tryz.ntmps108
 go_wp2_with fail
 refine (Za FL).mono ?_
 rintro e w1 ⟨rfl,hw1⟩
 have HB1:Hid (Below w.heap.size w w1):=by rw[hw1];exact (Below.refl _ _).alloc (Nat.le_refl _) _
 clear hw1
 go_wp2
 refine wp_loop_rounds 1 ?_
 rw[rounds_succ]
 go_wp2
 go_ret
 exact⟨rfl,Za HB1⟩
theorem Gf(a:Option Addr)(len cap:Nat)(l:List (Int×Int))(w:World)(hE:EnvF w)(hO:OpsAt w a len l)(hck:chk l=0) :
  Calls Tryz.prog 108 #[.slice a len cap] w fun e w'=>e = .returned (.string (Ya l))∧Below w.heap.size w w':=by
 obtain⟨hz,hc⟩:=hO
 by_cases h0:len=0
 ·subst h0
  have e:l=[]:=List.length_eq_zero_iff.1 hz
  subst e
  exact Dy a cap w hE
 ·obtain⟨b,off,rfl,hcell⟩:=hc (by omega)
  exact Dx b off len cap l w hE hz hck (World.block_lt_of_cell? _ _ (hcell 0 (by omega)).1) hcell
end Go.Proofs.YtpikejjiignchaaGreatDoor
