/- What orders do, in plain functions: on a stack told as a list, and on the sixteen places of the machine; that the second does what the first says. No program is spoken of. -/
import Derived.WalkKit
import Derived.Test.YtmomfkikogbdeaaGreatDoorRows
import Derived.WalkLawsBesides
import Derived.Deep.QuietTactic
import Derived.BigQuiet
import Derived.Deep.RegionWith
set_option maxHeartbeats 800000
namespace Go.Proofs.YtmomfkikogbdeaaGreatDoor
open Go.RowKit
def fit(n:Int):Bool:=decide (-1000000≤n) && decide (n≤1000000)
theorem Vb(n:Int):fit n=true↔-1000000≤n∧n≤1000000:=by simp[fit]
def b01(b:Bool):Int:=if b then 1 else 0
def Gk(a:Int):Nat→Int
 | 0=>a+1000000
 | k+1=>(7919*Gk a k+104729) % 1000003
theorem Eu(a:Int)(h:fit a=true):∀ k,0≤Gk a k∧Gk a k≤2000000
 | 0=>by have:=(Vb a).1 h;simp only[Gk];omega
 | k+1=>by simp only[Gk];omega
def Zay(a:Int):Int:=Gk a 3 % 1000001
def g2(k:Int)(a b:Int):Int:=
 if k=5 then a+b else if k=6 then a - b else if k=7 then b01 (a == b) else if k=8 then b01 (decide (a<b)) else b01 (a != 0 && b != 0)
def g1(k:Int)(a:Int):Int:=if k=9 then b01 (a == 0) else Zay a
def V8(L:List Int)(x:Int):Option (List Int):=if L.length=16∨fit x=false then none else some (L++[x])
def Ys(L:List Int):Option (List Int):=if L.length=0 then none else some L.dropLast
def U8(L:List Int):Int:=L.getLastD 0
def J0(h:Int)(k n:Int)(L:List Int):Option (List Int):=
 if k=1 then V8 L n
 else if k=2 then (Ys L).bind fun M=>(V8 M (U8 L)).bind fun M=>V8 M (U8 L)
 else if k=3 then (Ys L).bind fun M=>(Ys M).bind fun N=>(V8 N (U8 L)).bind fun Q=>V8 Q (U8 M)
 else if k=4 then Ys L
 else if k=9∨k=13 then (Ys L).bind fun M=>V8 M (g1 k (U8 L))
 else if k=11 then (Ys L).bind fun M=>if U8 L=0 then none else some M
 else if k=12 then V8 L h
 else (Ys L).bind fun M=>(Ys M).bind fun N=>V8 N (g2 k (U8 M) (U8 L))
def Xa(h:Int):List (Int×Int)→List Int→Option (List Int)
 | [],L=>some L
 | o :: r,L=>(J0 h o.1 o.2 L).bind (Xa h r)
theorem V5(h:Int):∀ (l m:List (Int×Int)) (L:List Int),Xa h (l++m) L=(Xa h l L).bind (Xa h m)
 | [],m,L=>by simp[Xa]
 | o :: r,m,L=>by
  simp only[List.cons_append,Xa]
  cases J0 h o.1 o.2 L with
  | none=>rfl
  | some M=>simp only[Option.bind];exact V5 h r m M
structure MS where
 cs:List Int
 n:Nat
 h:Int
 f:Bool
def MS.ok(s:MS):Prop:=s.cs.length=16∧s.n≤16∧∀ x∈s.cs,fit x=true
def MS.rep(s:MS):Option (List Int):=if s.f then none else some (s.cs.take s.n)
def MS.put(s:MS)(x:Int):MS:=if s.n=16∨fit x=false then { s with f:=true } else { s with cs:=s.cs.set s.n x,n:=s.n+1 }
def MS.top(s:MS):Int:=if s.n=0 then 0 else s.cs.getD (s.n - 1) 0
def MS.take(s:MS):MS:=if s.n=0 then { s with f:=true } else { s with n:=s.n - 1 }
def MS.fail(s:MS):MS:={ s with f:=true }
def MS.step(s:MS)(k n:Int):MS:=
 if k=1 then s.put n
 else if k=2 then (s.take.put s.top).put s.top
 else if k=3 then (s.take.take.put s.top).put s.take.top
 else if k=4 then s.take
 else if k=9∨k=13 then s.take.put (g1 k s.top)
 else if k=11 then (if s.top=0 then s.take.fail else s.take)
 else if k=12 then s.put s.h
 else s.take.take.put (g2 k s.take.top s.top)
theorem MS.put_h(s:MS)(x:Int):(s.put x).h=s.h:=by unfold MS.put;split <;> rfl
theorem MS.take_h(s:MS):s.take.h=s.h:=by unfold MS.take;split <;> rfl
theorem MS.fail_h(s:MS):s.fail.h=s.h:=rfl
theorem MS.step_h(s:MS)(k n:Int):(s.step k n).h=s.h:=by
 unfold MS.step;repeat' split
 all_goals simp only[MS.put_h,MS.take_h,MS.fail_h]
theorem MS.ok.put_ok{s:MS}(hs:s.ok)(x:Int):(s.put x).ok:=by
 obtain⟨h1,h2,h3⟩:=hs
 unfold MS.put
 split
 ·exact⟨h1,h2,h3⟩
 ·rename_i h
  simp only[not_or,Bool.not_eq_false] at h
  refine⟨by simpa using h1,by show s.n+1≤16;omega,fun y hy=>?_⟩
  rcases List.mem_or_eq_of_mem_set hy with hy|rfl
  ·exact h3 y hy
  ·exact h.2
theorem MS.ok.take_ok{s:MS}(hs:s.ok):s.take.ok:=by
 obtain⟨h1,h2,h3⟩:=hs
 unfold MS.take
 split
 ·exact⟨h1,h2,h3⟩
 ·exact⟨h1,by show s.n - 1≤16;omega,h3⟩
theorem MS.ok.fail_ok{s:MS}(hs:s.ok):s.fail.ok:=hs
theorem MS.ok.top_fit{s:MS}(hs:s.ok):fit s.top=true:=by
 obtain⟨h1,h2,h3⟩:=hs
 unfold MS.top
 split
 ·decide
 ·rename_i h
  have hl:s.n - 1<s.cs.length:=by omega
  rw[List.getD_eq_getElem?_getD,List.getElem?_eq_getElem hl,Option.getD_some]
  exact h3 _ (List.getElem_mem hl)
theorem MS.rep_put{s:MS}(hs:s.ok)(x:Int):(s.put x).rep=s.rep.bind (V8 · x):=by
 obtain⟨h1,h2,_⟩:=hs
 unfold MS.rep
 cases hf:s.f with
 | true=>
  have:(s.put x).f=true:=by unfold MS.put;split <;> simp[hf]
  rw[this];rfl
 | false=>
  simp only[Bool.false_eq_true,if_false,Option.bind_some]
  have hlen:(s.cs.take s.n).length=s.n:=by simp;omega
  unfold MS.put V8
  rw[hlen]
  split
  ·rfl
  ·rename_i h
   simp only[not_or,Bool.not_eq_false] at h
   simp only[hf,Bool.false_eq_true,if_false]
   have hn:s.n<s.cs.length:=by omega
   rw[List.take_succ_eq_append_getElem (by simpa using hn)]
   simp[List.take_set_of_le]
theorem MS.rep_take{s:MS}(hs:s.ok):s.take.rep=s.rep.bind Ys:=by
 obtain⟨h1,h2,_⟩:=hs
 unfold MS.rep
 cases hf:s.f with
 | true=>
  have:s.take.f=true:=by unfold MS.take;split <;> simp[hf]
  rw[this];rfl
 | false=>
  simp only[Bool.false_eq_true,if_false,Option.bind_some]
  have hlen:(s.cs.take s.n).length=s.n:=by simp;omega
  unfold MS.take Ys
  rw[hlen]
  split
  ·rfl
  ·simp only[hf,Bool.false_eq_true,if_false]
   show some (s.cs.take (s.n - 1))=_
   rw[List.dropLast_eq_take,List.take_take,hlen]
   congr 2
   omega
theorem MS.rep_top{s:MS}(hs:s.ok){L:List Int}(h:s.rep=some L):s.top=U8 L:=by
 obtain⟨h1,h2,_⟩:=hs
 unfold MS.rep at h
 split at h
 ·cases h
 ·simp only[Option.some.injEq] at h
  subst h
  unfold MS.top U8
  split
  ·rename_i e;rw[e];rfl
  ·have hl:s.n - 1<s.cs.length:=by omega
   rw[List.getLastD_eq_getLast?,List.getLast?_eq_getElem?,List.length_take,List.getD_eq_getElem?_getD]
   have e:min s.n s.cs.length - 1=s.n - 1:=by omega
   rw[e,List.getElem?_take_of_lt (by omega)]
theorem MS.rep_none_take{s:MS}(hs:s.ok)(h:s.rep=none):s.take.rep=none:=by rw[MS.rep_take hs,h];rfl
theorem MS.rep_none_put{s:MS}(hs:s.ok)(h:s.rep=none)(x:Int):(s.put x).rep=none:=by rw[MS.rep_put hs,h];rfl
theorem MS.rep_step{s:MS}(hs:s.ok)(k n:Int):(s.step k n).rep=s.rep.bind (J0 s.h k n):=by
 have ht:=hs.take_ok
 have htt:=ht.take_ok
 cases hr:s.rep with
 | none=>
  have h1:=MS.rep_none_take hs hr
  have h2:=MS.rep_none_take ht h1
  show _=none
  unfold MS.step
  split
  ·exact MS.rep_none_put hs hr _
  split
  ·exact MS.rep_none_put (ht.put_ok _) (MS.rep_none_put ht h1 _) _
  split
  ·exact MS.rep_none_put (htt.put_ok _) (MS.rep_none_put htt h2 _) _
  split
  ·exact h1
  split
  ·exact MS.rep_none_put ht h1 _
  split
  ·split
   ·rfl
   ·exact h1
  split
  ·exact MS.rep_none_put hs hr _
  ·exact MS.rep_none_put htt h2 _
 | some L=>
  have e0:=MS.rep_top hs hr
  have e1:s.take.rep=Ys L:=by rw[MS.rep_take hs,hr];rfl
  have e2:s.take.take.rep=(Ys L).bind Ys:=by rw[MS.rep_take ht,e1]
  have e3:∀ M,Ys L=some M→s.take.top=U8 M:=fun M hM=>MS.rep_top ht (e1.trans hM)
  show _=J0 s.h k n L
  unfold MS.step J0
  split
  ·rw[MS.rep_put hs,hr];rfl
  split
  ·rw[MS.rep_put (ht.put_ok _),MS.rep_put ht,e1,e0]
   cases Ys L with
   | none=>rfl
   | some M=>rfl
  split
  ·rw[MS.rep_put (htt.put_ok _),MS.rep_put htt,e2,e0]
   cases hM:Ys L with
   | none=>rfl
   | some M=>
    rw[e3 M hM]
    show ((Ys M).bind (V8 · (U8 L))).bind _=(Ys M).bind _
    cases Ys M <;> rfl
  split
  ·exact e1
  split
  ·rw[MS.rep_put ht,e1,e0]
  split
  ·rw[e0]
   cases hM:Ys L with
   | none=>
    show _=none
    split
    ·rfl
    ·rw[e1,hM]
   | some M=>
    show _=(if U8 L=0 then none else some M)
    split
    ·rfl
    ·rw[e1,hM]
  split
  ·rw[MS.rep_put hs,hr];rfl
  ·rw[MS.rep_put htt,e2,e0]
   cases hM:Ys L with
   | none=>rfl
   | some M=>
    rw[e3 M hM]
    show ((Ys M).bind _)=(Ys M).bind _
    rfl
def Zx(Z:List Int):Bool:=decide (Z.length≤16) && Z.all fit
def Vk:List Int→List Int→Option (List Int)
 | L,[]=>some L
 | L,x :: r=>(V8 L x).bind fun M=>Vk M r
theorem R8:∀ (Z L:List Int) (x:Int),Vk L (Z++[x])=(Vk L Z).bind (V8 · x)
 | [],L,x=>by simp[Vk]
 | y :: r,L,x=>by
  simp only[List.cons_append,Vk]
  cases V8 L y with
  | none=>rfl
  | some M=>exact R8 r M x
theorem Kb:∀ (Z L:List Int),L.length≤16→Vk L Z=if decide ((L++Z).length≤16) && Z.all fit then some (L++Z) else none
 | [],L,h=>by simp[Vk,h]
 | x :: r,L,h=>by
  simp only[Vk,V8]
  by_cases h1:L.length=16
  ·rw[if_pos (Or.inl h1),if_neg];rfl
   simp only[List.length_append,List.length_cons,Bool.and_eq_true,decide_eq_true_eq];omega
  ·by_cases h2:fit x=false
   ·rw[if_pos (Or.inr h2),if_neg];rfl
    simp[h2]
   ·rw[if_neg (by simp[h1];simpa using h2)]
    show Vk (L++[x]) r=_
    rw[Kb r (L++[x]) (by simp;omega)]
    have h3:fit x=true:=by simpa using h2
    simp[h3]
theorem Ds(Z:List Int):Vk [] Z=if Zx Z then some Z else none:=by
 rw[Kb Z [] (by simp)];rfl
theorem Va{L M:List Int}{x:Int}(hL:Zx L=true)(h:V8 L x=some M):Zx M=true:=by
 unfold V8 at h
 split at h
 ·cases h
 ·rename_i hc
  simp only[Option.some.injEq] at h
  subst h
  simp only[not_or,Bool.not_eq_false] at hc
  simp only[Zx,Bool.and_eq_true,decide_eq_true_eq] at hL ⊢
  refine⟨by simp;omega,?_⟩
  rw[List.all_append]
  simp[hL.2,hc.2]
theorem We{L M:List Int}(hL:Zx L=true)(h:Ys L=some M):Zx M=true:=by
 unfold Ys at h
 split at h
 ·cases h
 ·simp only[Option.some.injEq] at h
  subst h
  simp only[Zx,Bool.and_eq_true,decide_eq_true_eq,List.all_eq_true] at hL ⊢
  exact⟨by simp;omega,fun x hx=>hL.2 x (List.dropLast_subset _ hx)⟩
theorem Wb{α β : Type}{o:Option α}{f : α→Option β}{b : β}(h:o.bind f=some b):∃ a,o=some a∧f a=some b:=by
 cases o with
 | none=>cases h
 | some a=>exact⟨a,rfl,h⟩
theorem Al{h k n:Int}{L M:List Int}(hL:Zx L=true)(e:J0 h k n L=some M):Zx M=true:=by
 unfold J0 at e
 split at e
 ·exact Va hL e
 split at e
 ·obtain⟨A,hA,e⟩:=Wb e;obtain⟨B,hB,e⟩:=Wb e
  exact Va (Va (We hL hA) hB) e
 split at e
 ·obtain⟨A,hA,e⟩:=Wb e;obtain⟨B,hB,e⟩:=Wb e;obtain⟨C,hC,e⟩:=Wb e
  exact Va (Va (We (We hL hA) hB) hC) e
 split at e
 ·exact We hL e
 split at e
 ·obtain⟨A,hA,e⟩:=Wb e
  exact Va (We hL hA) e
 split at e
 ·obtain⟨A,hA,e⟩:=Wb e
  split at e
  ·cases e
  ·cases e;exact We hL hA
 split at e
 ·exact Va hL e
 ·obtain⟨A,hA,e⟩:=Wb e;obtain⟨B,hB,e⟩:=Wb e
  exact Va (We (We hL hA) hB) e
theorem Nm{h:Int}:∀ {l:List (Int×Int)} {L M:List Int},Zx L=true→Xa h l L=some M→Zx M=true
 | [],L,M,hL,e=>by cases e;exact hL
 | o :: r,L,M,hL,e=>by
  obtain⟨A,hA,e⟩:=Wb e
  exact Nm (Al hL hA) e
def Xz(o:Int×Int):Int:=if o.1<1∨13<o.1 then 4 else if (o.1≠1∧o.2≠0)∨fit o.2=false then 3 else 0
def Vy:List (Int×Int)→Int
 | []=>0
 | o :: r=>if Xz o=0 then Vy r else Xz o
def chk(l:List (Int×Int)):Int:=if 16<l.length then 2 else Vy l
theorem Fu(l:List (Int×Int))(k:Nat)(h:k<l.length)(h0:Vy (l.take k)=0):Vy (l.take (k+1))=if Xz (l[k])=0 then 0 else Xz (l[k]):=by
 induction l generalizing k with
 | nil=>simp at h
 | cons o r ih=>
  cases k with
  | zero=>simp[Vy]
  | succ k=>
   simp only[List.take_succ_cons,Vy,List.getElem_cons_succ] at h0 ⊢
   split at h0
   ·rename_i e
    rw[if_pos e]
    exact ih k (by simpa using h) h0
   ·contradiction
theorem Fv(l:List (Int×Int))(k:Nat)(h:k<l.length)(h0:Vy (l.take k)=0)(h1:Xz (l[k])≠0):Vy l=Xz (l[k]):=by
 induction l generalizing k with
 | nil=>simp at h
 | cons o r ih=>
  cases k with
  | zero=>simp only[List.getElem_cons_zero] at h1 ⊢;simp[Vy,h1]
  | succ k=>
   simp only[List.take_succ_cons,Vy,List.getElem_cons_succ] at h0 h1 ⊢
   split at h0
   ·rename_i e
    rw[if_pos e]
    exact ih k (by simpa using h) h0 h1
   ·contradiction
theorem T6{l:List (Int×Int)}(h:Vy l=0):∀ (k:Nat) (hk:k<l.length),Xz (l[k])=0:=by
 induction l with
 | nil=>intro k hk;simp at hk
 | cons o r ih=>
  simp only[Vy] at h
  split at h
  ·rename_i e
   intro k hk
   cases k with
   | zero=>exact e
   | succ k=>exact ih h k (by simpa using hk)
  ·contradiction
def hOk(h:Int):Bool:=decide (0≤h) && decide (h≤1000)
def Qc(l:List (Int×Int))(Z:List Int)(h:Int):Int:=
 if chk l=0 then (if Zx Z && hOk h then (if (Xa h l Z).isSome then 0 else 8) else 3) else chk l
def Rh(l:List (Int×Int))(Z:List Int)(h:Int):List Int:=if Qc l Z h=0 then (Xa h l Z).getD [] else []
def Xw(l k:List (Int×Int))(h:Int):Int:=if chk l=0 then (if chk k=0 then (if hOk h then 0 else 3) else chk k) else chk l
def Kq(L:List Int):Bool:=decide (L.length=1) && (U8 L != 0)
def Yk(l k:List (Int×Int))(h:Int):Bool:=decide (Xw l k h=0) && (match (Xa h k []).bind (Xa h l) with|some L=>Kq L|none=>false)
abbrev InD:=Int×Int×List (Int×Int)
abbrev Zw:=Int×List (Int×Int)
abbrev TxD:=Int×List InD×List Zw
def Ri(x:InD):Bool:=(decide (1≤x.1) && decide (x.1≤120)) && (decide (0≤x.2.1) && decide (x.2.1≤5))
def Wf(x y:InD):Bool:=decide (y.1=x.1) && decide (y.2.1=x.2.1)
def Xe(pre:List InD)(x:InD):Int:=if Ri x=false then 3 else if chk x.2.2≠0 then chk x.2.2 else if pre.any (Wf x) then 6 else 0
def Z3(pre:List InD):List InD→Int
 | []=>0
 | x :: r=>if Xe pre x=0 then Z3 (pre++[x]) r else Xe pre x
def Yp(x:Zw):Int:=if x.1<1 then 3 else chk x.2
def Z4:List Zw→Int
 | []=>0
 | x :: r=>if Yp x=0 then Z4 r else Yp x
def sm:Int→List Int→Int×Int
 | s,[]=>(s,0)
 | s,x :: l=>if 0≤x∧x≤1000000000 then (if s+x≤1000000000 then sm (s+x) l else (0,12)) else (0,3)
theorem Eg(s:Int)(Z:List Int)(k:Nat)(hk:k<Z.length)(h1:0≤Z.getD k 0)(h2:Z.getD k 0≤1000000000)(h3:s+Z.getD k 0≤1000000000) :
  sm s (Z.drop k)=sm (s+Z.getD k 0) (Z.drop (k+1)):=by
 have e:Z.drop k=Z.getD k 0 :: Z.drop (k+1):=by
  rw[List.drop_eq_getElem_cons hk];simp[List.getD,hk]
 rw[e,sm,if_pos ⟨h1,h2⟩,if_pos h3]
theorem Eh(s:Int)(Z:List Int)(k:Nat)(hk:k<Z.length)(h1:0≤Z.getD k 0)(h2:Z.getD k 0≤1000000000)(h3:1000000000<s+Z.getD k 0) :
  sm s (Z.drop k)=(0,12):=by
 have e:Z.drop k=Z.getD k 0 :: Z.drop (k+1):=by
  rw[List.drop_eq_getElem_cons hk];simp[List.getD,hk]
 rw[e,sm,if_pos ⟨h1,h2⟩,if_neg (by omega)]
theorem An(s:Int)(Z:List Int)(k:Nat)(hk:k<Z.length)(h:Z.getD k 0<0∨1000000000<Z.getD k 0) :
  sm s (Z.drop k)=(0,3):=by
 have e:Z.drop k=Z.getD k 0 :: Z.drop (k+1):=by
  rw[List.drop_eq_getElem_cons hk];simp[List.getD,hk]
 rw[e,sm,if_neg (by omega)]
theorem Zbo(s:Int)(Z:List Int)(k:Nat)(hk:Z.length≤k):sm s (Z.drop k)=(s,0):=by
 rw[List.drop_of_length_le hk];rfl
def Gt(t:TxD):Bool:=if t.2.1.length=0 then decide (1≤t.1) && decide (t.1≤1000) else decide (t.1=0)
def Z6(l:List Zw):Int:=if Z4 l=0 then (sm 0 (l.map (·.1))).2 else Z4 l
def Zp(t:TxD):Int:=
 if 6<t.2.1.length∨6<t.2.2.length then 2 else if t.2.2.length=0 then 4 else if Gt t=false then 3
 else if Z3 [] t.2.1≠0 then Z3 [] t.2.1 else Z6 t.2.2
theorem Ls(L:List InD)(k:Nat)(hk:k<L.length)(h:Xe (L.take k) L[k]=0):Z3 (L.take k) (L.drop k)=Z3 (L.take (k+1)) (L.drop (k+1)):=by
 rw[List.drop_eq_getElem_cons hk,Z3,if_pos h,List.take_succ_eq_append_getElem hk]
theorem Lr(L:List InD)(k:Nat)(hk:k<L.length)(h:Xe (L.take k) L[k]≠0):Z3 (L.take k) (L.drop k)=Xe (L.take k) L[k]:=by
 rw[List.drop_eq_getElem_cons hk,Z3,if_neg h]
theorem M9(L:List InD)(k:Nat)(hk:L.length≤k):Z3 (L.take k) (L.drop k)=0:=by
 rw[List.drop_of_length_le hk];rfl
theorem G9(L:List Zw)(k:Nat)(hk:k<L.length)(h:Yp L[k]=0):Z4 (L.drop k)=Z4 (L.drop (k+1)):=by
 rw[List.drop_eq_getElem_cons hk,Z4,if_pos h]
theorem G8(L:List Zw)(k:Nat)(hk:k<L.length)(h:Yp L[k]≠0):Z4 (L.drop k)=Yp L[k]:=by
 rw[List.drop_eq_getElem_cons hk,Z4,if_neg h]
theorem Lq(L:List Zw)(k:Nat)(hk:L.length≤k):Z4 (L.drop k)=0:=by
 rw[List.drop_of_length_le hk];rfl
theorem Fw{pre:List InD}{x:InD}(h:Ri x=false):Xe pre x=3:=by unfold Xe;rw[if_pos h]
theorem Na{pre:List InD}{x:InD}(h:Ri x=true)(hk:chk x.2.2≠0):Xe pre x=chk x.2.2:=by
 unfold Xe;rw[if_neg (by rw[h];decide),if_pos hk]
theorem Ha{pre:List InD}{x:InD}(h:Ri x=true)(hk:chk x.2.2=0)(ht:pre.any (Wf x)=true):Xe pre x=6:=by
 unfold Xe;rw[if_neg (by rw[h];decide),if_neg (by rw[hk];decide),if_pos ht]
theorem Fx{pre:List InD}{x:InD}(h:Ri x=true)(hk:chk x.2.2=0)(ht:pre.any (Wf x)=false):Xe pre x=0:=by
 unfold Xe;rw[if_neg (by rw[h];decide),if_neg (by rw[hk];decide),if_neg (by rw[ht];decide)]
theorem hide{p:Prop}(h:p):Hid p:=h
theorem unhide{p:Prop}(h:Hid p):p:=h
theorem Y9(n lo hi:Int)(w:World)(h1:lo≤n)(h2:n≤hi) :
  Calls Tryz.prog 103 #[.int .i64 n,.int .i64 lo,.int .i64 hi] w fun e w'=>e = .returned (.bool true)∧w=w':=by
 go_enter Tryz.func103,Tryz.ntmps103
 go_wp2
 go_ret
 exact⟨rfl,rfl⟩
theorem Uk(n lo hi:Int)(w:World)(h:n<lo∨hi<n) :
  Calls Tryz.prog 103 #[.int .i64 n,.int .i64 lo,.int .i64 hi] w fun e w'=>e = .returned (.bool false)∧w=w':=by
 by_cases h1:n<lo
 ·go_enter Tryz.func103,Tryz.ntmps103
  go_wp2
  go_ret
  exact⟨rfl,rfl⟩
 ·have h2:hi<n:=by omega
  have h3:lo≤n:=by omega
  have h4:decide (n≤hi)=false:=by simp;omega
  clear h
  go_enter Tryz.func103,Tryz.ntmps103
  go_wp2
  go_ret
  exact⟨rfl,rfl⟩
theorem within_is(n lo hi:Int)(b:Bool)(w:World)(hb:b=(decide (lo≤n) && decide (n≤hi))) :
  Calls Tryz.prog 103 #[.int .i64 n,.int .i64 lo,.int .i64 hi] w fun e w'=>e = .returned (.bool b)∧w=w':=by
 subst hb
 by_cases h1:lo≤n
 ·by_cases h2:n≤hi
  ·simpa[h1,h2] using Y9 n lo hi w h1 h2
  ·simpa[h1,h2] using Uk n lo hi w (by omega)
 ·simpa[h1] using Uk n lo hi w (by omega)
theorem Q6(n:Int)(b:Bool)(w:World)(hb:b=fit n) :
  Calls Tryz.prog 302 #[.int .i64 n] w fun e w'=>e = .returned (.bool b)∧w=w':=by
 have HB:=hide hb
 clear hb
 go_enter Tryz.func302,Tryz.ntmps302
 go_wp2_with (go_at_call 103;refine (within_is _ _ _ b _ (unhide HB)).mono ?_;rintro e w' ⟨rfl,rfl⟩)
 go_ret
 exact⟨rfl,rfl⟩
theorem H8{a b:Int}(h:a=b):Ending.returned (.int .i64 a) = .returned (.int .i64 b):=by rw[h]
theorem Se(k n:Int)(w:World) :
  Calls Tryz.prog 277 #[.agg #[.int .i64 k,.int .i64 n]] w fun e w'=>e = .returned (.int .i64 (Xz (k,n)))∧Below w.heap.size w w':=by
 have hb:∀ o,Below w.heap.size w (w.alloc o):=fun o=>(Below.refl _ _).alloc (Nat.le_refl _) _
 have HB:=hide hb
 clear hb
 by_cases h1:k<1∨13<k
 ·have e:Xz (k,n)=4:=by simp[Xz,h1]
  rw[e]
  clear e
  go_enter Tryz.func277,Tryz.ntmps277
  go_wp2_with (go_at_call 103;refine (Uk _ _ _ _ h1).mono ?_;rintro e w' ⟨rfl,rfl⟩)
  go_ret
  exact⟨rfl,(unhide HB) _⟩
 ·have g1:1≤k:=by omega
  have g2:k≤13:=by omega
  by_cases h2:k=1
  ·subst h2
   clear h1
   cases h3:fit n with
   | false=>
    have e:Xz (1,n)=3:=by simp[Xz,h3]
    rw[e]
    have H3:=hide h3
    clear e h3
    go_enter Tryz.func277,Tryz.ntmps277
    go_wp2_with (first|(go_at_call 103;refine (Y9 _ _ _ _ (by decide) (by decide)).mono ?_;rintro e w' ⟨rfl,rfl⟩)|(go_at_call 302;refine (Q6 _ false _ (unhide H3).symm).mono ?_;rintro e w' ⟨rfl,rfl⟩))
    go_ret
    exact⟨rfl,(unhide HB) _⟩
   | true=>
    have e:Xz (1,n)=0:=by simp[Xz,h3]
    rw[e]
    have H3:=hide h3
    clear e h3
    go_enter Tryz.func277,Tryz.ntmps277
    go_wp2_with (first|(go_at_call 103;refine (Y9 _ _ _ _ (by decide) (by decide)).mono ?_;rintro e w' ⟨rfl,rfl⟩)|(go_at_call 302;refine (Q6 _ true _ (unhide H3).symm).mono ?_;rintro e w' ⟨rfl,rfl⟩))
    go_ret
    exact⟨rfl,(unhide HB) _⟩
  ·have g3:(k != 1)=true:=by simp[h2]
   by_cases h4:n=0
   ·subst h4
    have h3:fit 0=true:=by decide
    have e:Xz (k,0)=0:=by simp[Xz,h3,h1]
    rw[e]
    have H3:=hide h3
    clear e h3 h1 h2
    go_enter Tryz.func277,Tryz.ntmps277
    go_wp2_with (first|(go_at_call 103;refine (Y9 _ _ _ _ g1 g2).mono ?_;rintro e w' ⟨rfl,rfl⟩)|(go_at_call 302;refine (Q6 _ true _ (unhide H3).symm).mono ?_;rintro e w' ⟨rfl,rfl⟩))
    go_ret
    exact⟨rfl,(unhide HB) _⟩
   ·have g4:(n != 0)=true:=by simp[h4]
    have e:Xz (k,n)=3:=by simp[Xz,h1,h2,h4]
    rw[e]
    clear e h1 h2 h4
    go_enter Tryz.func277,Tryz.ntmps277
    go_wp2_with (go_at_call 103;refine (Y9 _ _ _ _ g1 g2).mono ?_;rintro e w' ⟨rfl,rfl⟩)
    go_ret
    exact⟨rfl,(unhide HB) _⟩
def OpsAt(w:World)(a:Option Addr)(len:Nat)(l:List (Int×Int)):Prop:=
 l.length=len∧(0<len→∃ b off,a=some ⟨b,off,none⟩∧∀ i,i<len→w.cell? ⟨b,off+i*2,none⟩=some (.int .i64 (l.getD i (0,0)).1)∧w.cell? ⟨b,off+i*2+1,none⟩=some (.int .i64 (l.getD i (0,0)).2))
theorem OpsAt.later{w w':World}{a:Option Addr}{len:Nat}{l:List (Int×Int)}(h:OpsAt w a len l)(hb:Below w.heap.size w w'):OpsAt w' a len l:=by
 obtain⟨hz,hc⟩:=h
 refine⟨hz,fun h=>?_⟩
 obtain⟨b,off,rfl,hcell⟩:=hc h
 refine⟨b,off,rfl,fun i hi=>?_⟩
 obtain⟨h1,h2⟩:=hcell i hi
 refine⟨?_,?_⟩
 ·rw[hb.cell (p:=⟨b,off+i*2,none⟩) (World.block_lt_of_cell? _ _ h1)];exact h1
 ·rw[hb.cell (p:=⟨b,off+i*2+1,none⟩) (World.block_lt_of_cell? _ _ h2)];exact h2
theorem Nc(a:Option Addr)(len cap:Nat)(w:World)(h:16<len) :
  Calls Tryz.prog 249 #[.slice a len cap] w fun e w'=>e = .returned (.int .i64 2)∧w=w':=by
 go_enter Tryz.func249,Tryz.ntmps249
 go_wp2
 go_ret
 exact⟨rfl,rfl⟩
theorem Sc(a:Option Addr)(cap:Nat)(w:World) :
  Calls Tryz.prog 249 #[.slice a 0 cap] w fun e w'=>e = .returned (.int .i64 0)∧w=w':=by
 go_enter Tryz.func249,Tryz.ntmps249
 go_wp2
 refine wp_loop_rounds 1 ?_
 rw[rounds_succ]
 go_wp2
 go_ret
 exact⟨rfl,rfl⟩
theorem Nb(b off len cap:Nat)(l:List (Int×Int))(w:World)(h0:len≤16)(hz:l.length=len)
  (hc:∀ i,i<len→w.cell? ⟨b,off+i*2,none⟩=some (.int .i64 (l.getD i (0,0)).1)∧w.cell? ⟨b,off+i*2+1,none⟩=some (.int .i64 (l.getD i (0,0)).2)) (hl:b<w.heap.size) :
  Calls Tryz.prog 249 #[.slice (some ⟨b,off,none⟩) len cap] w fun e w'=>e = .returned (.int .i64 (Vy l))∧Below w.heap.size w w':=by
 have HC:=hide hc
 have HZ:=hide hz
 clear hc hz
 go_enter Tryz.func249,Tryz.ntmps249
 go_wp2
 go_loopw [11] (fun i wr=>∃ k:Nat,k≤len∧i = .int .i64 k∧Vy (l.take k)=0∧Below w.heap.size w wr) (fun i _=>len - (intOf i).toNat)
 case atStart=>exact⟨0,Nat.zero_le _,rfl,rfl,Below.refl _ _⟩
 case round=>
  obtain⟨k,hk,rfl,hok,hb⟩:=hrel
  have HOK:=hide hok
  have HB:=hide hb
  clear hok
  by_cases hlt:k<len
  ·obtain⟨c1,c2⟩:=(unhide HC) k hlt
   rw[←hb.cell (p:=⟨b,off+k*2,none⟩) hl] at c1
   rw[←hb.cell (p:=⟨b,off+k*2+1,none⟩) hl] at c2
   obtain⟨q,hq⟩:∃ q,q=l.getD k (0,0):=⟨_,rfl⟩
   rw[←hq] at c1 c2
   have hlk:k<l.length:=by rw[unhide HZ];exact hlt
   have hq':q=l[k]:=by rw[hq];simp[hlk]
   have HQ:=hide hq'
   clear hb hq hq'
   obtain⟨q1,q2⟩:=q
   have CO:=hide (Se q1 q2)
   obtain⟨x,hx⟩:∃ x,x=Xz (q1,q2):=⟨_,rfl⟩
   rw[←hx] at CO
   have HX:=hide hx
   clear hx
   by_cases hx0:x=0
   ·subst hx0
    go_wp2_with fail
    refine ((unhide CO) _).mono ?_
    rintro e w1 ⟨rfl,hb1⟩
    have hb2:=(unhide HB).trans (((Below.refl wr.heap.size wr).alloc (Nat.le_refl _) _).trans (hb1.mono (by simp)) |>.mono (unhide HB).size)
    have HB2:=hide hb2
    clear hb1 hb2
    go_wp2
    go_roundw
    case rel=>
     refine⟨k+1,by omega,by go_num,?_,unhide HB2⟩
     rw[Fu l k hlk (unhide HOK),←unhide HQ,←unhide HX];rfl
    case measure=>simp[intOf];omega
   ·have hx1:(x != 0)=true:=by simp[hx0]
    have HX0:=hide hx0
    clear hx0
    go_wp2_with fail
    refine ((unhide CO) _).mono ?_
    rintro e w1 ⟨rfl,hb1⟩
    have hb2:=(unhide HB).trans (((Below.refl wr.heap.size wr).alloc (Nat.le_refl _) _).trans (hb1.mono (by simp)) |>.mono (unhide HB).size)
    have HB2:=hide hb2
    clear hb1 hb2
    go_wp2
    go_ret
    refine⟨H8 ?_,unhide HB2⟩
    rw[Fv l k hlk (unhide HOK) (by rw[←unhide HQ,←unhide HX];exact unhide HX0),←unhide HQ,←unhide HX]
  ·clear hb
   go_wp2
   go_ret
   have e:k=len:=by omega
   subst e
   refine⟨H8 ?_,unhide HB⟩
   have h1:=unhide HOK
   rw[←unhide HZ,List.take_length] at h1
   exact h1.symm
theorem Wq(a:Option Addr)(len cap:Nat)(l:List (Int×Int))(w:World)(h:OpsAt w a len l) :
  Calls Tryz.prog 249 #[.slice a len cap] w fun e w'=>e = .returned (.int .i64 (chk l))∧Below w.heap.size w w':=by
 obtain⟨hz,hc⟩:=h
 unfold chk
 rw[hz]
 by_cases h1:16<len
 ·rw[if_pos h1]
  exact (Nc a len cap w h1).mono fun e w' ⟨x,y⟩=>⟨x,y ▸ Below.refl _ _⟩
 ·rw[if_neg h1]
  by_cases h2:len=0
  ·subst h2
   have e:l=[]:=List.length_eq_zero_iff.1 hz
   subst e
   exact (Sc a cap w).mono fun e w' ⟨x,y⟩=>⟨x,y ▸ Below.refl _ _⟩
  ·obtain⟨b,off,rfl,hcell⟩:=hc (by omega)
   exact Nb b off len cap l w (by omega) hz hcell (World.block_lt_of_cell? _ _ (hcell 0 (by omega)).1)
def RowAt(w:World)(a:Option Addr)(len:Nat)(Z:List Int):Prop:=
 Z.length=len∧len≤maxLen∧(0<len→∃ b off,a=some ⟨b,off,none⟩∧∀ i,i<len→w.cell? ⟨b,off+i,none⟩=some (.int .i64 (Z.getD i 0)))
theorem RowAt.later{w w':World}{a:Option Addr}{len:Nat}{Z:List Int}(h:RowAt w a len Z)(hb:Below w.heap.size w w'):RowAt w' a len Z:=by
 obtain⟨hz,hm,hc⟩:=h
 refine⟨hz,hm,fun h=>?_⟩
 obtain⟨b,off,rfl,hcell⟩:=hc h
 refine⟨b,off,rfl,fun i hi=>?_⟩
 have h1:=hcell i hi
 rw[hb.cell (p:=⟨b,off+i,none⟩) (World.block_lt_of_cell? _ _ h1)];exact h1
theorem RowAt.nil(w:World)(a:Option Addr):RowAt w a 0 []:=⟨rfl,Nat.zero_le _,fun h=>absurd h (by omega)⟩
def RowsAt{α : Type}(R:World→Nat→Nat → α→Prop)(sz:Nat)(w:World)(a:Option Addr)(len:Nat)(l:List α):Prop:=
 l.length=len∧(0<len→∃ b off,a=some ⟨b,off,none⟩∧b<w.heap.size∧∀ i (h:i<l.length),R w b (off+i*sz) l[i])
def Ga{α : Type}(R:World→Nat→Nat → α→Prop):Prop:=∀ (w w':World) (b o:Nat) (x : α),Below w.heap.size w w'→R w b o x→R w' b o x
theorem RowsAt.later{α : Type}{R:World→Nat→Nat → α→Prop}(hR:Ga R){sz:Nat}{w w':World}{a:Option Addr}{len:Nat}{l:List α}(h:RowsAt R sz w a len l)(hb:Below w.heap.size w w'):RowsAt R sz w' a len l:=by
 refine⟨h.1,fun h0=>?_⟩
 obtain⟨b,off,e,hl,hc⟩:=h.2 h0
 exact⟨b,off,e,Nat.lt_of_lt_of_le hl hb.size,fun i hi=>hR w w' b _ _ hb (hc i hi)⟩
theorem RowsAt.nil{α : Type}{R:World→Nat→Nat → α→Prop}{sz:Nat}(w:World)(a:Option Addr):RowsAt R sz w a 0 []:=⟨rfl,fun h=>absurd h (by omega)⟩
theorem cell_later{w w':World}{p:Addr}{v:Value}(hb:Below w.heap.size w w')(h:w.cell? p=some v):w'.cell? p=some v:=by
 rw[hb.cell (p:=p) (World.block_lt_of_cell? _ _ h)];exact h
def SlOk(a:Option Addr)(n c:Nat):Prop:=n≤c∧c≤maxLen∧(a=none→n=0∧c=0)
theorem SlOk.len{a:Option Addr}{n c:Nat}(h:SlOk a n c):n≤maxLen:=Nat.le_trans h.1 h.2.1
def InAt(w:World)(b o:Nat)(x:InD):Prop:=
 w.cell? ⟨b,o,none⟩=some (.int .i64 x.1)∧w.cell? ⟨b,o+1,none⟩=some (.int .i64 x.2.1)∧∃ a n c,w.cell? ⟨b,o+2,none⟩=some (.slice a n c)∧OpsAt w a n x.2.2∧SlOk a n c
def OutAt(w:World)(b o:Nat)(x:Zw):Prop:=
 w.cell? ⟨b,o,none⟩=some (.int .i64 x.1)∧∃ a n c,w.cell? ⟨b,o+1,none⟩=some (.slice a n c)∧OpsAt w a n x.2∧SlOk a n c
theorem InAt.kept:Ga InAt:=fun _ _ _ _ _ hb h=>by
 obtain⟨h1,h2,a,n,c,h3,h4,h5⟩:=h
 exact⟨cell_later hb h1,cell_later hb h2,a,n,c,cell_later hb h3,h4.later hb,h5⟩
theorem OutAt.kept:Ga OutAt:=fun _ _ _ _ _ hb h=>by
 obtain⟨h1,a,n,c,h3,h4,h5⟩:=h
 exact⟨cell_later hb h1,a,n,c,cell_later hb h3,h4.later hb,h5⟩
def InsAt(w:World)(a:Option Addr)(len:Nat)(l:List InD):Prop:=RowsAt InAt 3 w a len l
def OutsAt(w:World)(a:Option Addr)(len:Nat)(l:List Zw):Prop:=RowsAt OutAt 2 w a len l
theorem InsAt.later{w w':World}{a:Option Addr}{len:Nat}{l:List InD}(h:InsAt w a len l)(hb:Below w.heap.size w w'):InsAt w' a len l:=RowsAt.later InAt.kept h hb
theorem OutsAt.later{w w':World}{a:Option Addr}{len:Nat}{l:List Zw}(h:OutsAt w a len l)(hb:Below w.heap.size w w'):OutsAt w' a len l:=RowsAt.later OutAt.kept h hb
theorem RowsAt.take{α : Type}{R:World→Nat→Nat → α→Prop}{sz:Nat}{w:World}{a:Option Addr}{len:Nat}{l:List α}(h:RowsAt R sz w a len l)(k:Nat)(hk:k≤len):RowsAt R sz w a k (l.take k):=by
 have hl:=h.1
 refine⟨by rw[List.length_take];omega,fun h0=>?_⟩
 obtain⟨b,off,e,hb,hc⟩:=h.2 (by omega)
 refine⟨b,off,e,hb,fun i hi=>?_⟩
 rw[List.length_take] at hi
 rw[List.getElem_take]
 exact hc i (by omega)
theorem bel_on{w w1 w2:World}(h1:Below w.heap.size w w1)(h2:Below w1.heap.size w1 w2):Below w.heap.size w w2:=h1.trans (h2.mono h1.size)
theorem bel_new(w:World)(o:Obj):Below w.heap.size w (w.alloc o):=(Below.refl _ _).alloc (Nat.le_refl _) _
theorem Qm(n:Int)(w:World)(h1:0≤n)(h2:n≤1000000000) :
  Calls Tryz.prog 174 #[.int .i64 n] w fun e w'=>e = .returned (.int .i64 0)∧w=w':=by
 go_enter Tryz.func174,Tryz.ntmps174
 go_wp2_with (go_at_call 103;refine (Y9 _ _ _ _ h1 h2).mono ?_;rintro e w' ⟨rfl,rfl⟩)
 go_ret
 exact⟨rfl,rfl⟩
theorem P8(n:Int)(w:World)(h:n<0∨1000000000<n) :
  Calls Tryz.prog 174 #[.int .i64 n] w fun e w'=>e = .returned (.int .i64 3)∧w=w':=by
 go_enter Tryz.func174,Tryz.ntmps174
 go_wp2_with (go_at_call 103;refine (Uk _ _ _ _ h).mono ?_;rintro e w' ⟨rfl,rfl⟩)
 go_ret
 exact⟨rfl,rfl⟩
theorem Nh(a:Option Addr)(len cap:Nat)(Z:List Int)(w:World)(h:RowAt w a len Z) :
  Calls Tryz.prog 109 #[.slice a len cap] w fun e w'=>e = .returned (.tuple #[.int .i64 (sm 0 Z).1,.int .i64 (sm 0 Z).2])∧w=w':=by
 obtain⟨hz,hm,hc⟩:=h
 unfold maxLen at hm
 rcases Nat.eq_zero_or_pos len with h0|h0
 ·subst h0
  have HZ:Hid (Z=[]):=List.eq_nil_of_length_eq_zero hz
  clear hz hc hm
  go_enter Tryz.func109,Tryz.ntmps109
  go_wp2
  refine wp_loop_rounds 1 ?_
  rw[rounds_succ]
  go_wp2
  go_ret2
  rw[HZ.out]
  exact⟨rfl,rfl⟩
 ·obtain⟨b,off,rfl,hcell⟩:=hc h0
  have HC:Hid (∀ i,i<len→w.cell? ⟨b,off+i,none⟩=some (.int .i64 (Z.getD i 0))):=hcell
  clear hc hcell
  go_enter Tryz.func109,Tryz.ntmps109
  go_wp2
  go_loop [4,10] (fun s i=>∃ (k:Nat) (x:Int),k≤len∧i = .int .i64 k∧s = .int .i64 x∧0≤x∧x≤1000000000∧Hid (sm 0 Z=sm x (Z.drop k))) (fun _ i=>len - (intOf i).toNat)
  case atStart=>exact⟨0,0,Nat.zero_le _,rfl,rfl,by decide,by decide,by exact rfl⟩
  case round=>
   obtain⟨k,x,hk,rfl,rfl,hx0,hx1,HS⟩:=hrel
   by_cases hlt:k<len
   ·have hck:=HC.out k hlt
    generalize hv:Z.getD k 0=v at hck
    have HV:Hid (Z.getD k 0=v):=hv
    clear hv
    by_cases hr:v<0∨1000000000<v
    ·go_wp2_with (go_at_call 174;refine (P8 _ _ hr).mono ?_;rintro e w' ⟨rfl,rfl⟩)
     go_ret2
     rw[HS.out,An x Z k (by omega) (by rw[HV.out];exact hr)]
     exact⟨rfl,rfl⟩
    ·have hr1:0≤v:=by omega
     have hr2:v≤1000000000:=by omega
     clear hr
     by_cases hf:1000000000<x+v
     ·go_wp2_with fail
      refine (Qm _ _ hr1 hr2).mono ?_
      rintro e w' ⟨rfl,rfl⟩
      go_wp2_with fail
      refine (P8 _ _ (.inr hf)).mono ?_
      rintro e w' ⟨rfl,rfl⟩
      go_wp2
      go_ret2
      rw[HS.out,Eh x Z k (by omega) (by rw[HV.out];exact hr1) (by rw[HV.out];exact hr2) (by rw[HV.out];exact hf)]
      exact⟨rfl,rfl⟩
     ·have hf2:x+v≤1000000000:=by omega
      have hf1:0≤x+v:=by omega
      clear hf
      go_wp2_with fail
      refine (Qm _ _ hr1 hr2).mono ?_
      rintro e w' ⟨rfl,rfl⟩
      go_wp2_with fail
      refine (Qm _ _ hf1 hf2).mono ?_
      rintro e w' ⟨rfl,rfl⟩
      go_wp2
      go_round
      case rel=>
       refine⟨k+1,x+v,by omega,by go_num,rfl,by omega,by omega,?_⟩
       show sm 0 Z=_
       rw[HS.out,Eg x Z k (by omega) (by rw[HV.out];exact hr1) (by rw[HV.out];exact hr2) (by rw[HV.out];exact hf2),HV.out]
      case measure=>simp[intOf];omega
   ·go_wp2
    go_ret2
    rw[HS.out,Zbo x Z k (by omega)]
    exact⟨rfl,rfl⟩
end Go.Proofs.YtmomfkikogbdeaaGreatDoor
