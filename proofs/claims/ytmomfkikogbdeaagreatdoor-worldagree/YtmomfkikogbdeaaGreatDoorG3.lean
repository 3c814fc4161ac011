import Derived.Test.YtmomfkikogbdeaaGreatDoorH
import Derived.OrdersHeld
import Derived.Test.YtmomfkikogbdeaaGreatDoorRows
import Derived.BigQuiet
import Derived.Deep.RegionWith
import Derived.WalkLawsBesides
open Go.Proofs.Tryz
open Bool renaming and_eq_true->cG
open Go renaming rounds_succ->bK,maxLen->cK,TypeId->cF,heap_alloc_new->aG
open Go.Ending renaming returned->dF
open Go.IntKind renaming i64->J
open Go.Obj renaming cells->dE
open Go.Proofs.Tryz renaming prog->aB
open Go.Value renaming int->E,slice->F,tuple->dG,pointer->dH,bool->dI
open Go.World renaming block_lt_of_cell?->aE
open List renaming cons_append->bZ,take_succ_eq_append_getElem->bA,length_take->bI,drop_eq_getElem_cons->aJ,drop_of_length_le->bU,length_eq_zero_iff->aL
open Nat renaming le_refl->aF,zero_le->aI,lt_of_lt_of_le->aD
open Option.some renaming injEq->bJ
set_option maxHeartbeats 3200000
set_option maxRecDepth 10000
namespace Go.Proofs.YtmomfkikogbdeaaGreatDoor
open Go.RowKit
def fit(n:Int):Bool:=decide (-1000000<=n) && decide (n<=1000000)
theorem V7(n:Int):fit n=true↔-1000000<=n/\n<=1000000:=by simp[fit]
def b01(b:Bool):Int:=if b then 1 else 0
def Ff(a:Int):Nat->Int
 | 0=>a+1000000
 | k+1=>(7919*Ff a k+104729) % 1000003
theorem Znt(a:Int)(h:fit a=true):∀ k,0<=Ff a k/\Ff a k<=2000000
 | 0=>by have:=(V7 a).1 h;simp only[Ff];omega
 | k+1=>by simp only[Ff];omega
def Zpm(a:Int):Int:=Ff a 3 % 1000001
def g2(k:Int)(a b:Int):Int:=
 if k=5 then a+b else if k=6 then a - b else if k=7 then b01 (a == b) else if k=8 then b01 (decide (a<b)) else b01 (a != 0 && b != 0)
def g1(k:Int)(a:Int):Int:=if k=9 then b01 (a == 0) else Zpm a
def Jl(L:List Int)(x:Int):Option (List Int):=if L.length=16\/fit x=false then none else some (L++[x])
def Xf(L:List Int):Option (List Int):=if L.length=0 then none else some L.dropLast
def R8(L:List Int):Int:=L.getLastD 0
def Pv(h:Int)(k n:Int)(L:List Int):Option (List Int):=
 if k=1 then Jl L n
 else if k=2 then (Xf L).bind λM=>(Jl M (R8 L)).bind λM=>Jl M (R8 L)
 else if k=3 then (Xf L).bind λM=>(Xf M).bind λN=>(Jl N (R8 L)).bind λQ=>Jl Q (R8 M)
 else if k=4 then Xf L
 else if k=9\/k=13 then (Xf L).bind λM=>Jl M (g1 k (R8 L))
 else if k=11 then (Xf L).bind λM=>if R8 L=0 then none else some M
 else if k=12 then Jl L h
 else (Xf L).bind λM=>(Xf M).bind λN=>Jl N (g2 k (R8 M) (R8 L))
def Wg(h:Int):List (Int×Int)->List Int->Option (List Int)
 | [],L=>some L
 | o :: r,L=>(Pv h o.1 o.2 L).bind (Wg h r)
theorem Jj(h:Int):∀ (l m:List (Int×Int)) (L:List Int),Wg h (l++m) L=(Wg h l L).bind (Wg h m)
 | [],m,L=>by simp[Wg]
 | o :: r,m,L=>by
  simp only[bZ,Wg];cases Pv h o.1 o.2 L with
  | none=>rfl
  | some M=>simp only[Option.bind];exact Jj h r m M
structure MS where
 cs:List Int
 n:Nat
 h:Int
 f:Bool
def MS.ok(s:MS):Prop:=s.cs.length=16/\s.n<=16/\∀ x∈s.cs,fit x=true
def MS.rep(s:MS):Option (List Int):=if s.f then none else some (s.cs.take s.n)
def MS.put(s:MS)(x:Int):MS:=if s.n=16\/fit x=false then { s with f:=true } else { s with cs:=s.cs.set s.n x,n:=s.n+1 }
def MS.top(s:MS):Int:=if s.n=0 then 0 else s.cs.getD (s.n - 1) 0
def MS.take(s:MS):MS:=if s.n=0 then { s with f:=true } else { s with n:=s.n - 1 }
def MS.fail(s:MS):MS:={ s with f:=true }
def MS.step(s:MS)(k n:Int):MS:=
 if k=1 then s.put n
 else if k=2 then (s.take.put s.top).put s.top
 else if k=3 then (s.take.take.put s.top).put s.take.top
 else if k=4 then s.take
 else if k=9\/k=13 then s.take.put (g1 k s.top)
 else if k=11 then (if s.top=0 then s.take.fail else s.take)
 else if k=12 then s.put s.h
 else s.take.take.put (g2 k s.take.top s.top)
theorem MS.put_h(s:MS)(x:Int):(s.put x).h=s.h:=by unfold MS.put;split <;> rfl
theorem MS.take_h(s:MS):s.take.h=s.h:=by unfold MS.take;split <;> rfl
theorem MS.fail_h(s:MS):s.fail.h=s.h:=rfl
theorem MS.step_h(s:MS)(k n:Int):(s.step k n).h=s.h:=by
 unfold MS.step;repeat' split
 all_goals simp only[MS.put_h,MS.take_h,MS.fail_h]
theorem MS.ok.put_ok{s:MS}(hs:s.ok)(x:Int):(s.put x).ok:=by
 obtain⟨h1,h2,h3⟩:=hs;unfold MS.put;split
 ·exact⟨h1,h2,h3⟩
 ·rename_i h;simp only[not_or,Bool.not_eq_false] at h;refine⟨by simpa using h1,by show s.n+1<=16;omega,λy hy=>?_⟩
  rcases List.mem_or_eq_of_mem_set hy with hy|rfl
  ·exact h3 y hy
  ·exact h.2
theorem MS.ok.take_ok{s:MS}(hs:s.ok):s.take.ok:=by
 obtain⟨h1,h2,h3⟩:=hs;unfold MS.take;split
 ·exact⟨h1,h2,h3⟩
 ·exact⟨h1,by show s.n - 1<=16;omega,h3⟩
theorem MS.ok.fail_ok{s:MS}(hs:s.ok):s.fail.ok:=hs
theorem MS.ok.top_fit{s:MS}(hs:s.ok):fit s.top=true:=by
 obtain⟨h1,h2,h3⟩:=hs;unfold MS.top;split
 ·decide
 ·rename_i h;have hl:s.n - 1<s.cs.length:=by omega
  rw[List.getD_eq_getElem?_getD,List.getElem?_eq_getElem hl,Option.getD_some];exact h3 _ (List.getElem_mem hl)
theorem MS.rep_put{s:MS}(hs:s.ok)(x:Int):(s.put x).rep=s.rep.bind (Jl · x):=by
 obtain⟨h1,h2,_⟩:=hs;unfold MS.rep;cases hf:s.f with
 | true=>
  have:(s.put x).f=true:=by unfold MS.put;split <;> simp[hf]
  rw[this];rfl
 | false=>
  simp only[Bool.false_eq_true,if_false,Option.bind_some];have aa:(s.cs.take s.n).length=s.n:=by simp;omega
  unfold MS.put Jl;rw[aa];split
  ·rfl
  ·rename_i h;simp only[not_or,Bool.not_eq_false] at h;simp only[hf,Bool.false_eq_true,if_false];have hn:s.n<s.cs.length:=(by omega);rw[bA (by simpa using hn)];simp[List.take_set_of_le]
theorem MS.rep_take{s:MS}(hs:s.ok):s.take.rep=s.rep.bind Xf:=by
 obtain⟨h1,h2,_⟩:=hs;unfold MS.rep;cases hf:s.f with
 | true=>
  have:s.take.f=true:=by unfold MS.take;split <;> simp[hf]
  rw[this];rfl
 | false=>
  simp only[Bool.false_eq_true,if_false,Option.bind_some];have aa:(s.cs.take s.n).length=s.n:=by simp;omega
  unfold MS.take Xf;rw[aa];split
  ·rfl
  ·simp only[hf,Bool.false_eq_true,if_false];show some (s.cs.take (s.n - 1))=_;rw[List.dropLast_eq_take,List.take_take,aa]
   congr 2
   omega
theorem MS.rep_top{s:MS}(hs:s.ok){L}(h:s.rep=some L):s.top=R8 L:=by
 obtain⟨h1,h2,_⟩:=hs;unfold MS.rep at h;split at h
 ·cases h
 ·simp only[bJ] at h;subst h;unfold MS.top R8;split
  ·rename_i e;rw[e];rfl
  ·have hl:s.n - 1<s.cs.length:=(by omega);rw[List.getLastD_eq_getLast?,List.getLast?_eq_getElem?,bI,List.getD_eq_getElem?_getD];have e:min s.n s.cs.length - 1=s.n - 1:=(by omega);rw[e,List.getElem?_take_of_lt (by omega)]
theorem MS.rep_none_take{s:MS}(hs:s.ok)(h:s.rep=none):s.take.rep=none:=by rw[MS.rep_take hs,h];rfl
theorem MS.rep_none_put{s:MS}(hs:s.ok)(h:s.rep=none)(x:Int):(s.put x).rep=none:=by rw[MS.rep_put hs,h];rfl
theorem MS.rep_step{s:MS}(hs:s.ok)(k n:Int):(s.step k n).rep=s.rep.bind (Pv s.h k n):=by
 have ht:=hs.take_ok;have ae:=ht.take_ok;cases hr:s.rep with
 | none=>
  have h1:=MS.rep_none_take hs hr;have h2:=MS.rep_none_take ht h1;show _=none;unfold MS.step;split
  ·exact MS.rep_none_put hs hr _
  split
  ·exact MS.rep_none_put (ht.put_ok _) (MS.rep_none_put ht h1 _) _
  split
  ·exact MS.rep_none_put (ae.put_ok _) (MS.rep_none_put ae h2 _) _
  split
  ·exact h1
  split
  ·exact MS.rep_none_put ht h1 _
  split
  ·split
   ·rfl
   ·exact h1
  split
  ·exact MS.rep_none_put hs hr _
  ·exact MS.rep_none_put ae h2 _
 | some L=>
  have e0:=MS.rep_top hs hr;have e1:s.take.rep=Xf L:=by rw[MS.rep_take hs,hr];rfl
  have e2:s.take.take.rep=(Xf L).bind Xf:=by rw[MS.rep_take ht,e1]
  have e3:∀ M,Xf L=some M->s.take.top=R8 M:=λM hM=>MS.rep_top ht (e1.trans hM);show _=Pv s.h k n L;unfold MS.step Pv;split
  ·rw[MS.rep_put hs,hr];rfl
  split
  ·rw[MS.rep_put (ht.put_ok _),MS.rep_put ht,e1,e0];cases Xf L with
   | none=>rfl
   | some M=>rfl
  split
  ·rw[MS.rep_put (ae.put_ok _),MS.rep_put ae,e2,e0];cases hM:Xf L with
   | none=>rfl
   | some M=>
    rw[e3 M hM];show ((Xf M).bind (Jl · (R8 L))).bind _=(Xf M).bind _;cases Xf M <;> rfl
  split
  ·exact e1
  split
  ·rw[MS.rep_put ht,e1,e0]
  split
  ·rw[e0];cases hM:Xf L with
   | none=>
    show _=none;split
    ·rfl
    ·rw[e1,hM]
   | some M=>
    show _=(if R8 L=0 then none else some M);split
    ·rfl
    ·rw[e1,hM]
  split
  ·rw[MS.rep_put hs,hr];rfl
  ·rw[MS.rep_put ae,e2,e0];cases hM:Xf L with
   | none=>rfl
   | some M=>
    rw[e3 M hM];show ((Xf M).bind _)=(Xf M).bind _;rfl
def Ya(Z:List Int):Bool:=decide (Z.length<=16) && Z.all fit
def Qe:List Int->List Int->Option (List Int)
 | L,[]=>some L
 | L,x :: r=>(Jl L x).bind λM=>Qe M r
theorem Kd:∀ (Z L:List Int) (x:Int),Qe L (Z++[x])=(Qe L Z).bind (Jl · x)
 | [],L,x=>by simp[Qe]
 | y :: r,L,x=>by
  simp only[bZ,Qe];cases Jl L y with
  | none=>rfl
  | some M=>exact Kd r M x
theorem Bj:∀ (Z L:List Int),L.length<=16->Qe L Z=if decide ((L++Z).length<=16) && Z.all fit then some (L++Z) else none
 | [],L,h=>by simp[Qe,h]
 | x :: r,L,h=>by
  simp only[Qe,Jl];by_cases h1:L.length=16
  ·rw[if_pos (Or.inl h1),if_neg];rfl;simp only[List.length_append,List.length_cons,cG,decide_eq_true_eq];omega
  ·by_cases h2:fit x=false
   ·rw[if_pos (Or.inr h2),if_neg];rfl;simp[h2]
   ·rw[if_neg (by simp[h1];simpa using h2)];show Qe (L++[x]) r=_;rw[Bj r (L++[x]) (by simp;omega)];have h3:fit x=true:=(by simpa using h2);simp[h3]
theorem Zfm(Z):Qe [] Z=if Ya Z then some Z else none:=by
 rw[Bj Z [] (by simp)];rfl
theorem Uv{L M}{x:Int}(hL:Ya L=true)(h:Jl L x=some M):Ya M=true:=by
 unfold Jl at h;split at h
 ·cases h
 ·rename_i hc;simp only[bJ] at h;subst h;simp only[not_or,Bool.not_eq_false] at hc;simp only[Ya,cG,decide_eq_true_eq] at hL ⊢;refine⟨by simp;omega,?_⟩;rw[List.all_append];simp[hL.2,hc.2]
theorem Vt{L M}(hL:Ya L=true)(h:Xf L=some M):Ya M=true:=by
 unfold Xf at h;split at h
 ·cases h
 ·simp only[bJ] at h;subst h;simp only[Ya,cG,decide_eq_true_eq,List.all_eq_true] at hL ⊢;exact⟨by simp;omega,λx hx=>hL.2 x (List.dropLast_subset _ hx)⟩
theorem Vl{α β : Type}{o:Option α}{f : α->Option β}{b : β}(h:o.bind f=some b):∃ a,o=some a/\f a=some b:=by
 cases o with
 | none=>cases h
 | some a=>exact⟨a,rfl,h⟩
theorem Zin{h k n:Int}{L M}(hL:Ya L=true)(e:Pv h k n L=some M):Ya M=true:=by
 unfold Pv at e;split at e
 ·exact Uv hL e
 split at e
 ·obtain⟨A,hA,e⟩:=Vl e;obtain⟨B,hB,e⟩:=Vl e;exact Uv (Uv (Vt hL hA) hB) e
 split at e
 ·obtain⟨A,hA,e⟩:=Vl e;obtain⟨B,hB,e⟩:=Vl e;obtain⟨C,hC,e⟩:=Vl e;exact Uv (Uv (Vt (Vt hL hA) hB) hC) e
 split at e
 ·exact Vt hL e
 split at e
 ·obtain⟨A,hA,e⟩:=Vl e;exact Uv (Vt hL hA) e
 split at e
 ·obtain⟨A,hA,e⟩:=Vl e;split at e
  ·cases e
  ·cases e;exact Vt hL hA
 split at e
 ·exact Uv hL e
 ·obtain⟨A,hA,e⟩:=Vl e;obtain⟨B,hB,e⟩:=Vl e;exact Uv (Vt (Vt hL hA) hB) e
theorem Zdo{h:Int}:∀ {l:List (Int×Int)} {L M:List Int},Ya L=true->Wg h l L=some M->Ya M=true
 | [],L,M,hL,e=>by cases e;exact hL
 | o :: r,L,M,hL,e=>by
  obtain⟨A,hA,e⟩:=Vl e;exact Zdo (Zin hL hA) e
def Xp(o:Int×Int):Int:=if o.1<1\/13<o.1 then 4 else if (o.1≠1/\o.2≠0)\/fit o.2=false then 3 else 0
def U5:List (Int×Int)->Int
 | []=>0
 | o :: r=>if Xp o=0 then U5 r else Xp o
def chk(l:List (Int×Int)):Int:=if 16<l.length then 2 else U5 l
theorem Zhj(l:List (Int×Int))(k:Nat)(h:k<l.length)(h0:U5 (l.take k)=0):U5 (l.take (k+1))=if Xp (l[k])=0 then 0 else Xp (l[k]):=by
 induction l generalizing k with
 | nil=>simp at h
 | cons o r ih=>
  cases k with
  | zero=>simp[U5]
  | succ k=>
   simp only[List.take_succ_cons,U5,List.getElem_cons_succ] at h0 ⊢;split at h0
   ·rename_i e;rw[if_pos e];exact ih k (by simpa using h) h0
   ·contradiction
theorem Zhk(l:List (Int×Int))(k:Nat)(h:k<l.length)(h0:U5 (l.take k)=0)(h1:Xp (l[k])≠0):U5 l=Xp (l[k]):=by
 induction l generalizing k with
 | nil=>simp at h
 | cons o r ih=>
  cases k with
  | zero=>simp only[List.getElem_cons_zero] at h1 ⊢;simp[U5,h1]
  | succ k=>
   simp only[List.take_succ_cons,U5,List.getElem_cons_succ] at h0 h1 ⊢;split at h0
   ·rename_i e;rw[if_pos e];exact ih k (by simpa using h) h0 h1
   ·contradiction
theorem Qk{l:List (Int×Int)}(h:U5 l=0):∀ (k:Nat) (hk:k<l.length),Xp (l[k])=0:=by
 induction l with
 | nil=>intro k hk;simp at hk
 | cons o r ih=>
  simp only[U5] at h;split at h
  ·rename_i e;intro k hk;cases k with
   | zero=>exact e
   | succ k=>exact ih h k (by simpa using hk)
  ·contradiction
def hOk(h:Int):Bool:=decide (0<=h) && decide (h<=1000)
def Tb(l:List (Int×Int))(Z:List Int)(h:Int):Int:=
 if chk l=0 then (if Ya Z && hOk h then (if (Wg h l Z).isSome then 0 else 8) else 3) else chk l
def Gt(l:List (Int×Int))(Z:List Int)(h:Int):List Int:=if Tb l Z h=0 then (Wg h l Z).getD [] else []
def Vd(l k:List (Int×Int))(h:Int):Int:=if chk l=0 then (if chk k=0 then (if hOk h then 0 else 3) else chk k) else chk l
def Bz(L:List Int):Bool:=decide (L.length=1) && (R8 L != 0)
def Y5(l k:List (Int×Int))(h:Int):Bool:=decide (Vd l k h=0) && (match (Wg h k []).bind (Wg h l) with|some L=>Bz L|none=>false)
abbrev InD:=Int×Int×List (Int×Int)
abbrev Z3:=Int×List (Int×Int)
abbrev TxD:=Int×List InD×List Z3
def Pc(x:InD):Bool:=(decide (1<=x.1) && decide (x.1<=120)) && (decide (0<=x.2.1) && decide (x.2.1<=5))
def Vu(x y:InD):Bool:=decide (y.1=x.1) && decide (y.2.1=x.2.1)
def Wl(pre:List InD)(x:InD):Int:=if Pc x=false then 3 else if chk x.2.2≠0 then chk x.2.2 else if pre.any (Vu x) then 6 else 0
def Yj(pre:List InD):List InD->Int
 | []=>0
 | x :: r=>if Wl pre x=0 then Yj (pre++[x]) r else Wl pre x
def Xa(x:Z3):Int:=if x.1<1 then 3 else chk x.2
def Yk:List Z3->Int
 | []=>0
 | x :: r=>if Xa x=0 then Yk r else Xa x
def sm:Int->List Int->Int×Int
 | s,[]=>(s,0)
 | s,x :: l=>if 0<=x/\x<=1000000000 then (if s+x<=1000000000 then sm (s+x) l else (0,12)) else (0,3)
theorem Zmw(s:Int)(Z:List Int)(k:Nat)(hk:k<Z.length)(h1:0<=Z.getD k 0)(h2:Z.getD k 0<=1000000000)(h3:s+Z.getD k 0<=1000000000) :
  sm s (Z.drop k)=sm (s+Z.getD k 0) (Z.drop (k+1)):=by
 have e:Z.drop k=Z.getD k 0 :: Z.drop (k+1):=by
  rw[aJ hk];simp[List.getD,hk]
 rw[e,sm,if_pos ⟨h1,h2⟩,if_pos h3]
theorem Zmx(s:Int)(Z:List Int)(k:Nat)(hk:k<Z.length)(h1:0<=Z.getD k 0)(h2:Z.getD k 0<=1000000000)(h3:1000000000<s+Z.getD k 0) :
  sm s (Z.drop k)=(0,12):=by
 have e:Z.drop k=Z.getD k 0 :: Z.drop (k+1):=by
  rw[aJ hk];simp[List.getD,hk]
 rw[e,sm,if_pos ⟨h1,h2⟩,if_neg (by omega)]
theorem Zir(s:Int)(Z:List Int)(k:Nat)(hk:k<Z.length)(h:Z.getD k 0<0\/1000000000<Z.getD k 0) :
  sm s (Z.drop k)=(0,3):=by
 have e:Z.drop k=Z.getD k 0 :: Z.drop (k+1):=by
  rw[aJ hk];simp[List.getD,hk]
 rw[e,sm,if_neg (by omega)]
theorem Zqd(s:Int)(Z:List Int)(k:Nat)(hk:Z.length<=k):sm s (Z.drop k)=(s,0):=by
 rw[bU hk];rfl
def Fs(t:TxD):Bool:=if t.2.1.length=0 then decide (1<=t.1) && decide (t.1<=1000) else decide (t.1=0)
def Ym(l:List Z3):Int:=if Yk l=0 then (sm 0 (l.map (·.1))).2 else Yk l
def Zq(t:TxD):Int:=
 if 6<t.2.1.length\/6<t.2.2.length then 2 else if t.2.2.length=0 then 4 else if Fs t=false then 3
 else if Yj [] t.2.1≠0 then Yj [] t.2.1 else Ym t.2.2
theorem Ex(L:List InD)(k:Nat)(hk:k<L.length)(h:Wl (L.take k) L[k]=0):Yj (L.take k) (L.drop k)=Yj (L.take (k+1)) (L.drop (k+1)):=by
 rw[aJ hk,Yj,if_pos h,bA hk]
theorem Ew(L:List InD)(k:Nat)(hk:k<L.length)(h:Wl (L.take k) L[k]≠0):Yj (L.take k) (L.drop k)=Wl (L.take k) L[k]:=by
 rw[aJ hk,Yj,if_neg h]
theorem Zcp(L:List InD)(k:Nat)(hk:L.length<=k):Yj (L.take k) (L.drop k)=0:=by
 rw[bU hk];rfl
theorem F9(L:List Z3)(k:Nat)(hk:k<L.length)(h:Xa L[k]=0):Yk (L.drop k)=Yk (L.drop (k+1)):=by
 rw[aJ hk,Yk,if_pos h]
theorem F8(L:List Z3)(k:Nat)(hk:k<L.length)(h:Xa L[k]≠0):Yk (L.drop k)=Xa L[k]:=by
 rw[aJ hk,Yk,if_neg h]
theorem Ev(L:List Z3)(k:Nat)(hk:L.length<=k):Yk (L.drop k)=0:=by
 rw[bU hk];rfl
theorem Zhl{pre x}(h:Pc x=false):Wl pre x=3:=by unfold Wl;rw[if_pos h]
theorem Zcq{pre}{x:InD}(h:Pc x=true)(hk:chk x.2.2≠0):Wl pre x=chk x.2.2:=by
 unfold Wl;rw[if_neg (by rw[h];decide),if_pos hk]
theorem Ab{pre:List InD}{x:InD}(h:Pc x=true)(hk:chk x.2.2=0)(ht:pre.any (Vu x)=true):Wl pre x=6:=by
 unfold Wl;rw[if_neg (by rw[h];decide),if_neg (by rw[hk];decide),if_pos ht]
theorem Zhm{pre:List InD}{x:InD}(h:Pc x=true)(hk:chk x.2.2=0)(ht:pre.any (Vu x)=false):Wl pre x=0:=by
 unfold Wl;rw[if_neg (by rw[h];decide),if_neg (by rw[hk];decide),if_neg (by rw[ht];decide)]
theorem ZA {α:Type}(l:List α)(i:Nat)(a:α):l.toArray.setIfInBounds i a=(l.set i a).toArray:=List.setIfInBounds_toArray ..
theorem ZB {α:Type}(a b:α)(l:List α):(a::l).set 0 b=b::l:=rfl
theorem ZC {α:Type}(a b:α)(l:List α)(n:Nat):(a::l).set (n+1) b=a::l.set n b:=rfl
theorem Zt {P:Program} {aa} {Q:Exit->Act->World->Prop} {md:Region.Mode} {S:World->Prop}(i:Nat)(oi:Oper)(v) {fuel:Nat} {ac:Array Bool} {a:Act} {w}(hi:aa[i]? = some oi)(hy:∀ w,S w->(execOp a.eval oi).run P w = .ok (.value v) w)(hS:S w)(h:wpAnyH P md aa Q S fuel (ac.setIfInBounds i true) (a.put oi.dst v) w)(hQ:∀ c a w,Q (.panic c) (a.put oi.dst v) w->Q (.panic c) a w:=by exact λ_ _ _ h=>h)(hw:Region.wanted oi (yielded aa a.tmps)=true:=by rfl)(hs:Region.noSelect aa=true:=by kernel_rfl)(hf:Region.free md aa ac i=true:=by kernel_rfl)(hr:(Region.ready md aa ac).contains i=true:=by kernel_rfl):wpAnyH P md aa Q S (fuel+1) ac a w:=wpAnyH_take hi hs hf hr hQ (Or.inl ⟨hw,hy⟩) hS h
theorem Zd{p:Prop}(h:p):Hid p:=h
theorem kh2{a0 a1:Prop}(x0:a0)(x1:a1):Hid a0/\Hid a1:=⟨x0,x1⟩
theorem kh3{a0 a1 a2:Prop}(x0:a0)(x1:a1)(x2:a2):Hid a0/\Hid a1/\Hid a2:=⟨x0,x1,x2⟩
theorem kh4{a0 a1 a2 a3:Prop}(x0:a0)(x1:a1)(x2:a2)(x3:a3):Hid a0/\Hid a1/\Hid a2/\Hid a3:=⟨x0,x1,x2,x3⟩
theorem kh5{a0 a1 a2 a3 a4:Prop}(x0:a0)(x1:a1)(x2:a2)(x3:a3)(x4:a4):Hid a0/\Hid a1/\Hid a2/\Hid a3/\Hid a4:=⟨x0,x1,x2,x3,x4⟩
theorem kh6{a0 a1 a2 a3 a4 a5:Prop}(x0:a0)(x1:a1)(x2:a2)(x3:a3)(x4:a4)(x5:a5):Hid a0/\Hid a1/\Hid a2/\Hid a3/\Hid a4/\Hid a5:=⟨x0,x1,x2,x3,x4,x5⟩
theorem kh7{a0 a1 a2 a3 a4 a5 a6:Prop}(x0:a0)(x1:a1)(x2:a2)(x3:a3)(x4:a4)(x5:a5)(x6:a6):Hid a0/\Hid a1/\Hid a2/\Hid a3/\Hid a4/\Hid a5/\Hid a6:=⟨x0,x1,x2,x3,x4,x5,x6⟩
theorem kh8{a0 a1 a2 a3 a4 a5 a6 a7:Prop}(x0:a0)(x1:a1)(x2:a2)(x3:a3)(x4:a4)(x5:a5)(x6:a6)(x7:a7):Hid a0/\Hid a1/\Hid a2/\Hid a3/\Hid a4/\Hid a5/\Hid a6/\Hid a7:=⟨x0,x1,x2,x3,x4,x5,x6,x7⟩
theorem Za{p:Prop}(h:Hid p):p:=h
theorem Vb(n lo hi:Int)(w)(h1:lo<=n)(h2:n<=hi) :
  Calls aB 103 #[E J n,E J lo,E J hi] w λe w'=>e = dF (dI true)/\w=w':=by
 go_enter func103,ntmps103;go_wp2;go_ret;exact⟨rfl,rfl⟩
theorem J4(n lo hi:Int)(w)(h:n<lo\/hi<n) :
  Calls aB 103 #[E J n,E J lo,E J hi] w λe w'=>e = dF (dI false)/\w=w':=by
 by_cases h1:n<lo
 ·go_enter func103,ntmps103;go_wp2;go_ret;exact⟨rfl,rfl⟩
 ·have h2:hi<n:=by omega
  have h3:lo<=n:=by omega
  have h4:decide (n<=hi)=false:=by simp;omega
  clear h;go_enter func103,ntmps103;go_wp2;go_ret;exact⟨rfl,rfl⟩
theorem Yr(n lo hi:Int)(b:Bool)(w)(hb:b=(decide (lo<=n) && decide (n<=hi))) :
  Calls aB 103 #[E J n,E J lo,E J hi] w λe w'=>e = dF (dI b)/\w=w':=by
 subst hb;by_cases h1:lo<=n
 ·by_cases h2:n<=hi
  ·simpa[h1,h2] using Vb n lo hi w h1 h2
  ·simpa[h1,h2] using J4 n lo hi w (by omega)
 ·simpa[h1] using J4 n lo hi w (by omega)
theorem Sk(n:Int)(b:Bool)(w)(hb:b=fit n) :
  Calls aB 302 #[E J n] w λe w'=>e = dF (dI b)/\w=w':=by
 have HB:=Zd hb;clear hb;go_enter func302,ntmps302
 go_wp2_with (go_at_call 103;refine (Yr _ _ _ b _ HB).mono ?_;rintro e w' ⟨rfl,rfl⟩)
 go_ret;exact⟨rfl,rfl⟩
theorem Bg{a b:Int}(h:a=b):Ending.returned (E J a) = dF (E J b):=by rw[h]
theorem L6(k n:Int)(w:World) :
  ZH 277 #[.agg #[E J k,E J n]] w (E J (Xp (k,n))):=by
 have hb:∀ o,ZD w (w.alloc o):=λo=>(Below.refl _ _).alloc (aF _) _;have HB:=Zd hb;clear hb;by_cases h1:k<1\/13<k
 ·have e:Xp (k,n)=4:=by simp[Xp,h1]
  rw[e];clear e;go_enter func277,ntmps277
  go_wp2_with (go_at_call 103;refine (J4 _ _ _ _ h1).mono ?_;rintro e w' ⟨rfl,rfl⟩)
  go_ret;exact⟨rfl,HB _⟩
 ·have g1:1<=k:=by omega
  have g2:k<=13:=by omega
  by_cases h2:k=1
  ·subst h2;clear h1;cases h3:fit n with
   | false=>
    have e:Xp (1,n)=3:=(by simp[Xp,h3]);rw[e];have H3:=Zd h3;clear e h3;go_enter func277,ntmps277
    go_wp2_with (first|(go_at_call 103;refine (Vb _ _ _ _ (by decide) (by decide)).mono ?_;rintro e w' ⟨rfl,rfl⟩)|(go_at_call 302;refine (Sk _ false _ H3.symm).mono ?_;rintro e w' ⟨rfl,rfl⟩))
    go_ret;exact⟨rfl,HB _⟩
   | true=>
    have e:Xp (1,n)=0:=(by simp[Xp,h3]);rw[e];have H3:=Zd h3;clear e h3;go_enter func277,ntmps277
    go_wp2_with (first|(go_at_call 103;refine (Vb _ _ _ _ (by decide) (by decide)).mono ?_;rintro e w' ⟨rfl,rfl⟩)|(go_at_call 302;refine (Sk _ true _ H3.symm).mono ?_;rintro e w' ⟨rfl,rfl⟩))
    go_ret;exact⟨rfl,HB _⟩
  ·have g3:(k != 1)=true:=(by simp[h2]);by_cases h4:n=0
   ·subst h4;have h3:fit 0=true:=(by decide);have e:Xp (k,0)=0:=(by simp[Xp,h3,h1]);rw[e];have H3:=Zd h3;clear e h3 h1 h2;go_enter func277,ntmps277
    go_wp2_with (first|(go_at_call 103;refine (Vb _ _ _ _ g1 g2).mono ?_;rintro e w' ⟨rfl,rfl⟩)|(go_at_call 302;refine (Sk _ true _ H3.symm).mono ?_;rintro e w' ⟨rfl,rfl⟩))
    go_ret;exact⟨rfl,HB _⟩
   ·have g4:(n != 0)=true:=(by simp[h4]);have e:Xp (k,n)=3:=(by simp[Xp,h1,h2,h4]);rw[e];clear e h1 h2 h4;go_enter func277,ntmps277
    go_wp2_with (go_at_call 103;refine (Vb _ _ _ _ g1 g2).mono ?_;rintro e w' ⟨rfl,rfl⟩)
    go_ret;exact⟨rfl,HB _⟩
def OpsAt(w:World)(a:Option Addr)(len:Nat)(l:List (Int×Int)):Prop:=
 l.length=len/\(0<len->∃ b off,a=some ⟨b,off,none⟩/\∀ i,i<len->w.cell? ⟨b,off+i*2,none⟩=some (E J (l.getD i (0,0)).1)/\w.cell? ⟨b,off+i*2+1,none⟩=some (E J (l.getD i (0,0)).2))
theorem OpsAt.later{w w':World}{a len l}(h:OpsAt w a len l)(hb:ZD w w'):OpsAt w' a len l:=by
 obtain⟨hz,hc⟩:=h;refine⟨hz,λh=>?_⟩;obtain⟨b,off,rfl,ac⟩:=hc h;refine⟨b,off,rfl,λi hi=>?_⟩;obtain⟨h1,h2⟩:=ac i hi;refine⟨?_,?_⟩
 ·rw[hb.cell (p:=⟨b,off+i*2,none⟩) (aE _ _ h1)];exact h1
 ·rw[hb.cell (p:=⟨b,off+i*2+1,none⟩) (aE _ _ h2)];exact h2
theorem Zct(a)(len cap:Nat)(w)(h:16<len) :
  Calls aB 249 #[F a len cap] w λe w'=>e = dF (E J 2)/\w=w':=by
 go_enter func249,ntmps249;go_wp2;go_ret;exact⟨rfl,rfl⟩
theorem L4(a cap w) :
  Calls aB 249 #[F a 0 cap] w λe w'=>e = dF (E J 0)/\w=w':=by
 go_enter func249,ntmps249;go_wp2;refine wp_loop_rounds 1 ?_;rw[bK];go_wp2;go_ret;exact⟨rfl,rfl⟩
theorem Zcs(b off len cap:Nat)(l:List (Int×Int))(w:World)(h0:len<=16)(hz:l.length=len)
  (hc:∀ i,i<len->w.cell? ⟨b,off+i*2,none⟩=some (E J (l.getD i (0,0)).1)/\w.cell? ⟨b,off+i*2+1,none⟩=some (E J (l.getD i (0,0)).2)) (hl:b<w.heap.size) :
  ZH 249 #[F (some ⟨b,off,none⟩) len cap] w (E J (U5 l)):=by
 have HC:=Zd hc;have HZ:=Zd hz;clear hc hz;go_enter func249,ntmps249;go_wp2
 go_loopw [11] (λi wr=>∃ k:Nat,k<=len/\i = E J k/\U5 (l.take k)=0/\ZD w wr) (λi _=>len - (intOf i).toNat)
 case atStart=>exact⟨0,aI _,rfl,rfl,Below.refl _ _⟩
 case round=>
  obtain⟨k,hk,rfl,av,hb⟩:=hrel;have ah:=Zd av;have HB:=Zd hb;clear av;by_cases au:k<len
  ·obtain⟨c1,c2⟩:=HC k au;rw[<-hb.cell (p:=⟨b,off+k*2,none⟩) hl] at c1;rw[<-hb.cell (p:=⟨b,off+k*2+1,none⟩) hl] at c2;obtain⟨q,hq⟩:=ZG (l.getD k (0,0));rw[<-hq] at c1 c2;have am:k<l.length:=(by rw[Za HZ];exact au);have aw:q=l[k]:=(by rw[hq];simp[am]);have HQ:=Zd aw;clear hb hq aw;obtain⟨q1,q2⟩:=q;have CO:=Zd (L6 q1 q2);obtain⟨x,hx⟩:=ZG (Xp (q1,q2));rw[<-hx] at CO;have HX:=Zd hx;clear hx;by_cases ae:x=0
   ·subst ae;go_wp2_with fail;refine (CO _).mono ?_;rintro e w1 ⟨rfl,ac⟩;have ad:=HB.trans (((Below.refl wr.heap.size wr).alloc (aF _) _).trans (ac.mono (by simp)) |>.mono HB.size);have ag:=Zd ad;clear ac ad;go_wp2;go_roundw
    case rel=>
     refine⟨k+1,by omega,by go_num,?_,Za ag⟩;rw[Zhj l k am ah,<-Za HQ,<-Za HX];rfl
    case measure=>simp[intOf];omega
   ·have bg:(x != 0)=true:=(by simp[ae]);have bd:=Zd ae;clear ae;go_wp2_with fail;refine (CO _).mono ?_;rintro e w1 ⟨rfl,ac⟩;have ad:=HB.trans (((Below.refl wr.heap.size wr).alloc (aF _) _).trans (ac.mono (by simp)) |>.mono HB.size);have ag:=Zd ad;clear ac ad;go_wp2;go_ret;refine⟨Bg ?_,Za ag⟩;rw[Zhk l k am ah (by rw[<-Za HQ,<-Za HX];exact Za bd),<-Za HQ,<-Za HX]
  ·clear hb;go_wp2;go_ret;have e:k=len:=(by omega);subst e;refine⟨Bg ?_,Za HB⟩;have h1:=Za ah;rw[<-Za HZ,List.take_length] at h1;exact h1.symm
theorem V9(a len cap l)(w:World)(h:OpsAt w a len l) :
  ZH 249 #[F a len cap] w (E J (chk l)):=by
 obtain⟨hz,hc⟩:=h;unfold chk;rw[hz];by_cases h1:16<len
 ·rw[if_pos h1];exact (Zct a len cap w h1).mono λe w' ⟨x,y⟩=>⟨x,y ▸ Below.refl _ _⟩
 ·rw[if_neg h1];by_cases h2:len=0
  ·subst h2;have e:l=[]:=aL.1 hz;subst e;exact (L4 a cap w).mono λe w' ⟨x,y⟩=>⟨x,y ▸ Below.refl _ _⟩
  ·obtain⟨b,off,rfl,ab⟩:=hc (by omega);exact Zcs b off len cap l w (by omega) hz ab (aE _ _ (ab 0 (by omega)).1)
def RowAt(w:World)(a:Option Addr)(len:Nat)(Z:List Int):Prop:=
 Z.length=len/\len<=cK/\(0<len->∃ b off,a=some ⟨b,off,none⟩/\∀ i,i<len->w.cell? ⟨b,off+i,none⟩=some (E J (Z.getD i 0)))
theorem RowAt.later{w w':World}{a len Z}(h:RowAt w a len Z)(hb:ZD w w'):RowAt w' a len Z:=by
 obtain⟨hz,hm,hc⟩:=h;refine⟨hz,hm,λh=>?_⟩;obtain⟨b,off,rfl,ac⟩:=hc h;refine⟨b,off,rfl,λi hi=>?_⟩;have h1:=ac i hi;rw[hb.cell (p:=⟨b,off+i,none⟩) (aE _ _ h1)];exact h1
theorem RowAt.nil(w a):RowAt w a 0 []:=⟨rfl,aI _,λh=>absurd h (by omega)⟩
def RowsAt{α : Type}(R:World->Nat->Nat -> α->Prop)(sz:Nat)(w:World)(a:Option Addr)(len:Nat)(l:List α):Prop:=
 l.length=len/\(0<len->∃ b off,a=some ⟨b,off,none⟩/\b<w.heap.size/\∀ i (h:i<l.length),R w b (off+i*sz) l[i])
def Gq{α : Type}(R:World->Nat->Nat -> α->Prop):Prop:=∀ (w w':World) (b o:Nat) (x : α),ZD w w'->R w b o x->R w' b o x
theorem RowsAt.later{α : Type}{R:World->Nat->Nat -> α->Prop}(hR:Gq R){sz}{w w':World}{a len}{l:List α}(h:RowsAt R sz w a len l)(hb:ZD w w'):RowsAt R sz w' a len l:=by
 refine⟨h.1,λh0=>?_⟩;obtain⟨b,off,e,hl,hc⟩:=h.2 h0;exact⟨b,off,e,aD hl hb.size,λi hi=>hR w w' b _ _ hb (hc i hi)⟩
theorem RowsAt.nil{α : Type}{R:World->Nat->Nat -> α->Prop}{sz}(w a):RowsAt R sz w a 0 []:=⟨rfl,λh=>absurd h (by omega)⟩
theorem Ze{w w':World}{p v}(hb:ZD w w')(h:w.cell? p=some v):w'.cell? p=some v:=by
 rw[hb.cell (p:=p) (aE _ _ h)];exact h
def SlOk(a:Option Addr)(n c:Nat):Prop:=n<=c/\c<=cK/\(a=none->n=0/\c=0)
theorem SlOk.len{a n c}(h:SlOk a n c):n<=cK:=Nat.le_trans h.1 h.2.1
def InAt(w:World)(b o:Nat)(x:InD):Prop:=
 w.cell? ⟨b,o,none⟩=some (E J x.1)/\w.cell? ⟨b,o+1,none⟩=some (E J x.2.1)/\∃ a n c,w.cell? ⟨b,o+2,none⟩=some (F a n c)/\OpsAt w a n x.2.2/\SlOk a n c
def OutAt(w:World)(b o:Nat)(x:Z3):Prop:=
 w.cell? ⟨b,o,none⟩=some (E J x.1)/\∃ a n c,w.cell? ⟨b,o+1,none⟩=some (F a n c)/\OpsAt w a n x.2/\SlOk a n c
theorem InAt.kept:Gq InAt:=λ_ _ _ _ _ hb h=>by
 obtain⟨h1,h2,a,n,c,h3,h4,h5⟩:=h;exact⟨Ze hb h1,Ze hb h2,a,n,c,Ze hb h3,h4.later hb,h5⟩
theorem OutAt.kept:Gq OutAt:=λ_ _ _ _ _ hb h=>by
 obtain⟨h1,a,n,c,h3,h4,h5⟩:=h;exact⟨Ze hb h1,a,n,c,Ze hb h3,h4.later hb,h5⟩
def InsAt(w:World)(a:Option Addr)(len:Nat)(l:List InD):Prop:=RowsAt InAt 3 w a len l
def OutsAt(w:World)(a:Option Addr)(len:Nat)(l:List Z3):Prop:=RowsAt OutAt 2 w a len l
theorem InsAt.later{w w':World}{a len l}(h:InsAt w a len l)(hb:ZD w w'):InsAt w' a len l:=RowsAt.later InAt.kept h hb
theorem OutsAt.later{w w':World}{a len l}(h:OutsAt w a len l)(hb:ZD w w'):OutsAt w' a len l:=RowsAt.later OutAt.kept h hb
theorem RowsAt.take{α : Type}{R:World->Nat->Nat -> α->Prop}{sz w a len}{l:List α}(h:RowsAt R sz w a len l)(k:Nat)(hk:k<=len):RowsAt R sz w a k (l.take k):=by
 have hl:=h.1;refine⟨by rw[bI];omega,λh0=>?_⟩;obtain⟨b,off,e,hb,hc⟩:=h.2 (by omega);refine⟨b,off,e,hb,λi hi=>?_⟩;rw[bI] at hi;rw[List.getElem_take];exact hc i (by omega)
theorem Zf{w w1 w2:World}(h1:ZD w w1)(h2:ZD w1 w2):ZD w w2:=h1.trans (h2.mono h1.size)
theorem Zh(w:World)(o:Obj):ZD w (w.alloc o):=(Below.refl _ _).alloc (aF _) _
theorem ka00(w:World)(l:List Value)(t:cF):∃ X,X=w.alloc (dE l.toArray t)/\ZD w X/\X.heap[w.heap.size]? = some (dE l.toArray t (0,0)):=⟨_,rfl,Zh _ _,aG _ _⟩
theorem ka01(w:World)(l:List Value)(t:cF):∃ X,X=w.alloc (dE l.toArray t)/\ZD w X/\Hid (X.heap[w.heap.size]? = some (dE l.toArray t (0,0))):=⟨_,rfl,Zh _ _,aG _ _⟩
theorem ka11(w:World)(l:List Value)(t:cF):∃ X,X=w.alloc (dE l.toArray t)/\Hid (ZD w X)/\Hid (X.heap[w.heap.size]? = some (dE l.toArray t (0,0))):=⟨_,rfl,Zh _ _,aG _ _⟩
theorem Tp(n:Int)(w)(h1:0<=n)(h2:n<=1000000000) :
  Calls aB 174 #[E J n] w λe w'=>e = dF (E J 0)/\w=w':=by
 go_enter func174,ntmps174
 go_wp2_with (go_at_call 103;refine (Vb _ _ _ _ h1 h2).mono ?_;rintro e w' ⟨rfl,rfl⟩)
 go_ret;exact⟨rfl,rfl⟩
theorem Dr(n:Int)(w)(h:n<0\/1000000000<n) :
  Calls aB 174 #[E J n] w λe w'=>e = dF (E J 3)/\w=w':=by
 go_enter func174,ntmps174
 go_wp2_with (go_at_call 103;refine (J4 _ _ _ _ h).mono ?_;rintro e w' ⟨rfl,rfl⟩)
 go_ret;exact⟨rfl,rfl⟩
theorem Zmt(a len cap Z w)(h:RowAt w a len Z) :
  Calls aB 109 #[F a len cap] w λe w'=>e = dF (dG #[E J (sm 0 Z).1,E J (sm 0 Z).2])/\w=w':=by
 obtain⟨hz,hm,hc⟩:=h;unfold cK at hm
 rcases Nat.eq_zero_or_pos len with h0|h0
 ·subst h0;have HZ:Hid (Z=[]):=List.eq_nil_of_length_eq_zero hz;clear hz hc hm;go_enter func109,ntmps109;go_wp2;refine wp_loop_rounds 1 ?_;rw[bK];go_wp2;go_ret2;rw[HZ.out];exact⟨rfl,rfl⟩
 ·obtain⟨b,off,rfl,ah⟩:=hc h0;have HC:Hid (∀ i,i<len->w.cell? ⟨b,off+i,none⟩=some (E J (Z.getD i 0))):=ah;clear hc ah;go_enter func109,ntmps109;go_wp2
  go_loop [4,10] (λs i=>∃ (k:Nat) (x:Int),k<=len/\i = E J k/\s = E J x/\0<=x/\x<=1000000000/\Hid (sm 0 Z=sm x (Z.drop k))) (λ_ i=>len - (intOf i).toNat)
  case atStart=>exact⟨0,0,aI _,rfl,rfl,by decide,by decide,by exact rfl⟩
  case round=>
   obtain⟨k,x,hk,rfl,rfl,ax,ay,HS⟩:=hrel;by_cases av:k<len
   ·have ar:=HC.out k av;generalize hv:Z.getD k 0=v at ar;have HV:Hid (Z.getD k 0=v):=hv;clear hv;by_cases hr:v<0\/1000000000<v
    ·go_wp2_with (go_at_call 174;refine (Dr _ _ hr).mono ?_;rintro e w' ⟨rfl,rfl⟩)
     go_ret2;rw[HS.out,Zir x Z k (by omega) (by rw[HV.out];exact hr)];exact⟨rfl,rfl⟩
    ·have ac:0<=v:=(by omega);have ad:v<=1000000000:=(by omega);clear hr;by_cases hf:1000000000<x+v
     ·go_wp2_with fail;refine (Tp _ _ ac ad).mono ?_;rintro e w' ⟨rfl,rfl⟩;go_wp2_with fail;refine (Dr _ _ (.inr hf)).mono ?_;rintro e w' ⟨rfl,rfl⟩;go_wp2;go_ret2;rw[HS.out,Zmx x Z k (by omega) (by rw[HV.out];exact ac) (by rw[HV.out];exact ad) (by rw[HV.out];exact hf)];exact⟨rfl,rfl⟩
     ·have aj:x+v<=1000000000:=(by omega);have au:0<=x+v:=(by omega);clear hf;go_wp2_with fail;refine (Tp _ _ ac ad).mono ?_;rintro e w' ⟨rfl,rfl⟩;go_wp2_with fail;refine (Tp _ _ au aj).mono ?_;rintro e w' ⟨rfl,rfl⟩;go_wp2
      go_round
      case rel=>
       refine⟨k+1,x+v,by omega,by go_num,rfl,by omega,by omega,?_⟩;show sm 0 Z=_;rw[HS.out,Zmw x Z k (by omega) (by rw[HV.out];exact ac) (by rw[HV.out];exact ad) (by rw[HV.out];exact aj),HV.out]
      case measure=>simp[intOf];omega
   ·go_wp2;go_ret2;rw[HS.out,Zqd x Z k (by omega)];exact⟨rfl,rfl⟩
theorem Qt(x y:Int)(b:Bool)(w:World)(hb:((decide (1<=x) && decide (x<=120)) && (decide (0<=y) && decide (y<=5)))=b) :
  ZH 248 #[.agg #[E J x,E J y]] w (dI b):=by
 have HB:=Zd (Zh w (dE #[E J x,E J y] 117));by_cases h1:1<=x/\x<=120
 ·have e1:(decide (1<=x) && decide (x<=120))=true:=by simp[h1.1,h1.2]
  obtain⟨c,hc⟩:=ZF ((decide (0<=y) && decide (y<=5)));rw[e1,hc,Bool.true_and] at hb;subst hb;have C1:Hid (∀ w,Calls aB 103 #[E J x,E J 1,E J 120] w λe w'=>e = dF (dI true)/\w=w'):=λw=>Yr x 1 120 true w e1.symm;have C2:Hid (∀ w,Calls aB 103 #[E J y,E J 0,E J 5] w λe w'=>e = dF (dI c)/\w=w'):=λw=>Yr y 0 5 c w hc.symm;clear e1 hc h1;go_enter func248,ntmps248;go_wp2_with fail;refine (C1 _).mono ?_;rintro e w' ⟨rfl,rfl⟩;go_wp2_with fail;refine (C2 _).mono ?_;rintro e w' ⟨rfl,rfl⟩;go_wp2;go_ret;exact⟨rfl,Za HB⟩
 ·have e1:(decide (1<=x) && decide (x<=120))=false:=by
   rw[Bool.and_eq_false_iff,decide_eq_false_iff_not,decide_eq_false_iff_not];omega
  rw[e1,Bool.false_and] at hb;subst hb;have C1:Hid (∀ w,Calls aB 103 #[E J x,E J 1,E J 120] w λe w'=>e = dF (dI false)/\w=w'):=λw=>Yr x 1 120 false w e1.symm;clear e1 h1;go_enter func248,ntmps248;go_wp2_with fail;refine (C1 _).mono ?_;rintro e w' ⟨rfl,rfl⟩;go_wp2;go_ret;exact⟨rfl,Za HB⟩
theorem Ziv(x y x' y':Int)(a n c)(p:Nat)(b:Bool)(w:World)(h1:w.cell? ⟨p,0,none⟩=some (E J x'))(h2:w.cell? ⟨p,1,none⟩=some (E J y'))(hp:p<w.heap.size)
  (hb:(decide (x=x') && decide (y=y'))=b) :
  ZH 256 #[.agg #[E J x,E J y,F a n c],dH (some ⟨p,0,none⟩)] w (dI b):=by
 subst hb;have HB:=Zd (Zh w (dE #[E J x,E J y,F a n c] 119));by_cases hx:x=x'
 ·subst hx;by_cases hy:y=y'
  ·subst hy;rw[decide_eq_true rfl,decide_eq_true rfl];go_enter func256,ntmps256;go_wp2;go_ret;exact⟨rfl,Za HB⟩
  ·rw[decide_eq_true rfl,decide_eq_false hy];go_enter func256,ntmps256;go_wp2;go_ret;exact⟨rfl,Za HB⟩
 ·rw[decide_eq_false hx,Bool.false_and];go_enter func256,ntmps256;go_wp2;go_ret;exact⟨rfl,Za HB⟩
def Tc(x:InD):List InD->Nat->Int
 | [],_=>-1
 | y :: r,k=>if Vu x y then k else Tc x r (k+1)
theorem Zds(x):∀ (l:List InD) (k:Nat),decide (0<=Tc x l k)=l.any (Vu x)
 | [],_=>rfl
 | y :: r,k=>by
  unfold Tc;by_cases h:Vu x y=true
  ·rw[if_pos h];simp[h]
  ·rw[if_neg h,Zds x r (k+1)];simp[h]
theorem Zfn(x)(l:List InD)(k:Nat)(h:k<l.length):Tc x (l.drop k) k=if Vu x l[k] then (k:Int) else Tc x (l.drop (k+1)) (k+1):=by
 rw[aJ h];rfl
theorem Fm(b off n c:Nat)(l:List InD)(x:InD)(p:Nat)(w:World)(hz:l.length=n)(hn:n<=6)(hc:∀ i (h:i<l.length),InAt w b (off+i*3) l[i])
  (h1:w.cell? ⟨p,0,none⟩=some (E J x.1)) (h2:w.cell? ⟨p,1,none⟩=some (E J x.2.1)) :
  ZH 285 #[F (some ⟨b,off,none⟩) n c,.func (.func 256) #[] #[dH (some ⟨p,0,none⟩)]] w (E J (Tc x l 0)):=by
 have HC:=Zd hc;have HZ:=Zd hz;have H1:=Zd h1;have H2:=Zd h2;clear hc hz h1 h2;go_enter func285,ntmps285;go_wp2
 go_loopw [5,8] (λ_ i wr=>∃ k:Nat,k<=n/\i = E J k/\Hid (Tc x l 0=Tc x (l.drop k) k)/\ZD w wr) (λ_ i _=>n - (intOf i).toNat)
 case atStart=>exact⟨0,aI _,rfl,rfl,Below.refl _ _⟩
 case round=>
  obtain⟨k,hk,rfl,A,hb⟩:=hrel;have HB:=Zd hb;by_cases aw:k<n
  ·have ap:k<l.length:=(by rw[Za HZ];exact aw);have an:=InAt.kept _ _ _ _ _ hb (HC k ap);have S:=Zd (Zfn x l k ap);obtain⟨y,hy⟩:=ZF (l[k]);rw[hy] at an S;obtain⟨g1,g2,ka,kn,kc,g3,_,_⟩:=an
   have C1:Hid (∀ q,Vu x y=q->Calls aB 256 #[.agg #[E J y.1,E J y.2.1,F ka kn kc],dH (some ⟨p,0,none⟩)] wr λe w'=>e = dF (dI q)/\ZD wr w'):=
    λq hq=>Ziv y.1 y.2.1 x.1 x.2.1 ka kn kc p q wr (Ze hb H1) (Ze hb H2) (aE _ _ (Ze hb H1)) hq
   by_cases hs:Vu x y=true
   ·have S2:Hid (Tc x l 0=k):=(by show _=_;rw[Za A,Za S,if_pos hs]);have C2:=Zd (C1 true hs);clear S A hs C1 hb hy;go_wp2_with fail;refine C2.mono ?_;rintro e w' ⟨rfl,ad⟩;have ag:=Zd (Zf HB ad);clear ad;go_wp2;go_ret;exact⟨by rw[Za S2];rfl,Za ag⟩
   ·have aq:Vu x y=false:=(by simpa using hs);have S2:Hid (Tc x l 0=Tc x (l.drop (k+1)) (k+1)):=(by show _=_;rw[Za A,Za S,if_neg hs]);have C2:=Zd (C1 false aq);clear S A hs aq C1 hb hy;go_wp2_with fail;refine C2.mono ?_;rintro e w' ⟨rfl,ad⟩;have ag:=Zd (Zf HB ad);clear ad;go_wp2;go_roundw
    case rel=>exact⟨k+1,by omega,by go_num,S2,Za ag⟩
    case measure=>simp[intOf];omega
  ·have S2:Hid (Tc x l 0 = -1):=by
    show _=_;rw[Za A,bU (by rw[Za HZ];omega)];rfl
   clear A hb;go_wp2;go_ret;exact⟨by rw[Za S2];rfl,Za HB⟩
theorem Fo(a c v w) :
  Calls aB 285 #[F a 0 c,v] w λe w'=>e = dF (E J (-1))/\w=w':=by
 go_enter func285,ntmps285;go_wp2;refine wp_loop_rounds 1 ?_;rw[bK];go_wp2;go_ret;exact⟨rfl,rfl⟩
theorem Cr(a)(n c:Nat)(l)(x:InD)(p:Nat)(w:World)(hn:n<=6)(h:InsAt w a n l)
  (h1:w.cell? ⟨p,0,none⟩=some (E J x.1)) (h2:w.cell? ⟨p,1,none⟩=some (E J x.2.1)) :
  ZH 285 #[F a n c,.func (.func 256) #[] #[dH (some ⟨p,0,none⟩)]] w (E J (Tc x l 0)):=by
 obtain⟨hz,hc⟩:=h;by_cases h0:n=0
 ·subst h0;have e:l=[]:=aL.1 hz;subst e;exact (Fo a c _ w).mono λe w' ⟨q1,q2⟩=>⟨q1,q2 ▸ Below.refl _ _⟩
 ·obtain⟨b,off,rfl,_,ac⟩:=hc (by omega);exact Fm b off n c l x p w hz hn ac h1 h2
theorem Rz(a)(n c:Nat)(l:List InD)(x:InD)(p:Nat)(o:Bool)(w:World)(hn:n<=6)(h:InsAt w a n l)
  (h1:w.cell? ⟨p,0,none⟩=some (E J x.1)) (h2:w.cell? ⟨p,1,none⟩=some (E J x.2.1)) (ho:l.any (Vu x)=o) :
  ZH 255 #[F a n c,.func (.func 256) #[] #[dH (some ⟨p,0,none⟩)]] w (dI o):=by
 have ab:Hid (decide (0<=Tc x l 0)=o):=by show _=_;rw[Zds,ho]
 have C:=Cr a n c l x p w hn h h1 h2;obtain⟨z,hz⟩:=ZF (Tc x l 0);rw[hz] at C ab;have CC:=Zd C;clear C hz h ho h1 h2;cases o with
 | true=>
  have h0:0<=z:=of_decide_eq_true ab;go_enter func255,ntmps255;go_wp2_with fail;refine CC.mono ?_;rintro e w' ⟨rfl,hb⟩;have HB:=Zd hb;clear hb;go_wp2;go_ret;exact⟨rfl,Za HB⟩
 | false=>
  have h2:decide (0<=z)=false:=Za ab;have h1:z<0:=by have:=of_decide_eq_false h2;omega
  go_enter func255,ntmps255;go_wp2_with fail;refine CC.mono ?_;rintro e w' ⟨rfl,hb⟩;have HB:=Zd hb;clear hb;go_wp2;go_ret;exact⟨rfl,Za HB⟩
theorem Zrl{w w1 w2:World}(h1:ZD w w1)(h2:ZD w1 w2):ZD w w2:=h1.trans (h2.mono h1.size)
structure FillV(B:Nat)(e:cF)(p:Nat)(f:Nat->Value)(w wr:World)(k:Nat):Prop where
 ex:∃ xs:List Value,wr.ownsRow B e 1 (F (some ⟨B,0,none⟩) p p) p xs/\∀ j,j<k->xs[j]? = some (f j)
 bel:Below B w wr
theorem FillV.lt{B:Nat}{e:cF}{p:Nat}{f:Nat->Value}{w wr:World}{k:Nat}(h:FillV B e p f w wr k):B<wr.heap.size:=by
 obtain⟨_,ho,_⟩:=h.ex;exact (ho.lt B rfl).2
theorem FillV.old{B:Nat}{e:cF}{p:Nat}{f:Nat->Value}{w wr:World}{k:Nat}(h:FillV B e p f w wr k)(hk:k<p):∃ v,wr.cell? ⟨B,k,none⟩=some v:=by
 obtain⟨xs,ho,_⟩:=h.ex;have hl:xs.length=p:=by simpa using ho.1
 exact⟨xs[k]'(by omega),by rw[ho.cellAt k (by omega)];simp[hl,hk]⟩
theorem FillV.free{B:Nat}{e:cF}{p:Nat}{f:Nat->Value}{w wr:World}{k:Nat}(h:FillV B e p f w wr k)(j:Nat):wr.frozen? ⟨B,j,none⟩=false:=by
 obtain⟨xs,ho,_⟩:=h.ex;exact ho.frozenAt j
theorem FillV.step{B:Nat}{e:cF}{p:Nat}{f:Nat->Value}{w wr:World}{k:Nat}(h:FillV B e p f w wr k)(hk:k<p){v}(hv:v=f k):FillV B e p f w (wr.setCell ⟨B,k,none⟩ v) (k+1):=by
 obtain⟨xs,ho,hf⟩:=h.ex;have hl:xs.length=p:=by simpa using ho.1
 refine⟨⟨xs.set k v,(ho.stored k _).1,λj hj=>?_⟩,h.bel.setCell (aF _) _⟩;by_cases e:j=k
 ·subst e;simp[hl,hk,hv]
 ·rw[List.getElem?_set_ne (by omega)];exact hf j (by omega)
theorem FillV.keep{B:Nat}{e:cF}{p:Nat}{f:Nat->Value}{w wr w':World}{k:Nat}(h:FillV B e p f w wr k)(hb:ZD wr w'):FillV B e p f w w' k:=by
 obtain⟨xs,ho,hf⟩:=h.ex;refine⟨⟨xs,?_,hf⟩,h.bel.trans (hb.mono (Nat.le_of_lt h.lt))⟩;obtain⟨hl,h0|⟨g,cap,ad,hv,hg,hh,r⟩⟩:=ho
 ·exact⟨hl,.inl h0⟩
 ·exact⟨hl,.inr ⟨g,cap,ad,hv,hg,(hb.block g (lt_of_block hh)).trans hh,r⟩⟩
theorem FillV.cells{B:Nat}{e:cF}{p:Nat}{f:Nat->Value}{w wr:World}{k:Nat}(h:FillV B e p f w wr k)(hk:k<=p)(i:Nat)(hi:i<k):wr.cell? ⟨B,i,none⟩=some (f i):=by
 obtain⟨xs,ho,hf⟩:=h.ex;rw[ho.cellAt i (by omega)];exact hf i hi
theorem Sy(w:World)(x y z)(t:cF):(w.alloc (dE #[x,y,z] t)).cell? ⟨w.heap.size,0,none⟩=some x/\(w.alloc (dE #[x,y,z] t)).cell? ⟨w.heap.size,1,none⟩=some y/\(w.alloc (dE #[x,y,z] t)).cell? ⟨w.heap.size,2,none⟩=some z:=
 ⟨by rw[World.cell?_alloc_at _ _ _ _ rfl];rfl,by rw[World.cell?_alloc_at _ _ _ _ rfl];rfl,by rw[World.cell?_alloc_at _ _ _ _ rfl];rfl⟩
theorem M9(w:World)(x y)(t:cF):(w.alloc (dE #[x,y] t)).cell? ⟨w.heap.size,0,none⟩=some x/\(w.alloc (dE #[x,y] t)).cell? ⟨w.heap.size,1,none⟩=some y:=
 ⟨by rw[World.cell?_alloc_at _ _ _ _ rfl];rfl,by rw[World.cell?_alloc_at _ _ _ _ rfl];rfl⟩
theorem Lv(a len cap l)(x:Int)(w:World)(hx:chk l=x)(h:OpsAt w a len l) :
  ZH 249 #[F a len cap] w (E J x):=by
 subst hx;exact V9 a len cap l w h
theorem Mv(b off n c:Nat)(L:List InD)(w:World)(hn:n<=6)(cc:n<=c)(hz:L.length=n)(bz:b<w.heap.size)(hc:∀ i (h:i<L.length),InAt w b (off+i*3) L[i]) :
  ZH 209 #[F (some ⟨b,off,none⟩) n c] w (E J (Yj [] L)):=by
 have HC:=Zd hc;have HZ:=Zd hz;clear hc hz;go_enter func209,ntmps209;go_wp2
 go_loopw [8] (λi wr=>∃ k:Nat,k<=n/\i = E J k/\Hid (Yj [] L=Yj (L.take k) (L.drop k))/\ZD w wr) (λi _=>n - (intOf i).toNat)
 case atStart=>exact⟨0,aI _,rfl,rfl,Below.refl _ _⟩
 case round=>
  obtain⟨k,hk,rfl,A,hb⟩:=hrel;have HB:=Zd hb;by_cases ca:k<n
  ·have bi:k<L.length:=(by rw[Za HZ];exact ca);have br:=InAt.kept _ _ _ _ _ hb (HC k bi)
   have IA:Hid (InsAt wr (some ⟨b,off,none⟩) k (L.take k)):=by
    have h0:InsAt wr (some ⟨b,off,none⟩) n L:=⟨Za HZ,λ_=>⟨b,off,rfl,aD bz hb.size,λi hi=>InAt.kept _ _ _ _ _ hb (HC i hi)⟩⟩;exact RowsAt.take h0 k hk
   have ST:=Zd (Ew L k bi);have SS:=Zd (Ex L k bi);obtain⟨x,hx⟩:=ZF (L[k]);rw[hx] at br ST SS;obtain⟨x1,x2,ag⟩:=x;obtain⟨g1,g2,ka,kn,kc,g3,g4,_⟩:=br;simp only at g1 g2 g3 g4;have bh:=Zh wr (dE #[E J x1,E J x2,F ka kn kc] 119);obtain⟨n1,n2,n3⟩:=Sy wr (E J x1) (E J x2) (F ka kn kc) 119;have av:=Zd bh;have KO:=Zd (g4.later bh);have N1:=Zd n1;have N2:=Zd n2;have N3:=Zd n3;clear hb hx g4 bh n1 n2 n3;cases hp:Pc (x1,x2,ag) with
   | false=>
    have C1:=Zd (Qt x1 x2 false _ hp:Calls aB 248 _ (wr.alloc (dE #[E J x1,E J x2,F ka kn kc] 119)) _)
    have R:Hid (Yj [] L=3):=by
     have e:=Zhl (pre:=L.take k) hp;show _=_;rw[Za A,(Za ST) (by rw[e];decide),e]
    clear A ST SS hp IA;go_wp2_with fail;refine C1.mono ?_;rintro e w2 ⟨rfl,aa⟩;have ac:=Zd (Zf (Zf HB av) aa);clear aa;go_wp2;go_ret;exact⟨by rw[Za R];rfl,Za ac⟩
   | true=>
    have C1:=Zd (Qt x1 x2 true _ hp:Calls aB 248 _ (wr.alloc (dE #[E J x1,E J x2,F ka kn kc] 119)) _);have HP:=Zd hp;clear hp;by_cases ad:chk ag=0
    ·cases ht:(L.take k).any (Vu (x1,x2,ag)) with
     | true=>
      have R:Hid (Yj [] L=6):=by
       have e:=Ab (pre:=L.take k) HP ad ht;show _=_;rw[Za A,(Za ST) (by rw[e];decide),e]
      have HT:=Zd ht;have HK:=Zd ad;clear A ST SS ht ad;go_wp2_with fail;refine C1.mono ?_;rintro e w2 ⟨rfl,aa⟩;have m3:=Ze aa N3;have ac:=Zd aa;have aq:=Zd (Zf av aa);have bs:wr.heap.size<w2.heap.size:=aE _ _ m3;clear aa;go_wp2_with fail;refine (Lv ka kn kc ag 0 _ HK (KO.later ac)).mono ?_;rintro e w3 ⟨rfl,ab⟩;have aj:=Zd (Zf aq ab);have CT:=Zd (Rz (some ⟨b,off,none⟩) k c (L.take k) (x1,x2,ag) wr.heap.size true w3 (by omega) (IA.later aj) (Ze ab (Ze ac N1)) (Ze ab (Ze ac N2)) HT);clear ab m3;go_wp2_with fail;refine CT.mono ?_;rintro e w4 ⟨rfl,au⟩;have ay:=Zd (Zf (Zf HB aj) au);clear au;go_wp2;go_ret;exact⟨by rw[Za R];rfl,Za ay⟩
     | false=>
      have R:Hid (Yj [] L=Yj (L.take (k+1)) (L.drop (k+1))):=by
       have e:=Zhm (pre:=L.take k) HP ad ht;show _=_;rw[Za A,(Za SS) e]
      have HT:=Zd ht;have HK:=Zd ad;clear A ST SS ht ad;go_wp2_with fail;refine C1.mono ?_;rintro e w2 ⟨rfl,aa⟩;have m3:=Ze aa N3;have ac:=Zd aa;have aq:=Zd (Zf av aa);have bs:wr.heap.size<w2.heap.size:=aE _ _ m3;clear aa;go_wp2_with fail;refine (Lv ka kn kc ag 0 _ HK (KO.later ac)).mono ?_;rintro e w3 ⟨rfl,ab⟩;have aj:=Zd (Zf aq ab);have CT:=Zd (Rz (some ⟨b,off,none⟩) k c (L.take k) (x1,x2,ag) wr.heap.size false w3 (by omega) (IA.later aj) (Ze ab (Ze ac N1)) (Ze ab (Ze ac N2)) HT);clear ab m3;go_wp2_with fail;refine CT.mono ?_;rintro e w4 ⟨rfl,au⟩;have ay:=Zd (Zf (Zf HB aj) au);clear au;go_wp2;go_roundw
      case rel=>exact⟨k+1,by omega,by go_num,R,Za ay⟩
      case measure=>simp[intOf];omega
    ·obtain⟨z,hz⟩:=ZF (chk ag)
     have R:Hid (Yj [] L=z):=by
      have e:=Zcq (pre:=L.take k) HP ad;show _=_;rw[Za A,(Za ST) (by rw[e];exact ad),e];exact hz
     have HK:=Zd hz;rw[hz] at ad;have gz:(z != 0)=true:=(by simp[ad]);clear A ST SS hz ad IA;go_wp2_with fail;refine C1.mono ?_;rintro e w2 ⟨rfl,aa⟩;have m3:=Ze aa N3;have ac:=Zd aa;have aq:=Zd (Zf av aa);have bs:wr.heap.size<w2.heap.size:=aE _ _ m3;clear aa;go_wp2_with fail;refine (Lv ka kn kc ag z _ HK (KO.later ac)).mono ?_;rintro e w3 ⟨rfl,ab⟩;have aj:=Zd (Zf (Zf HB aq) ab);clear ab m3;go_wp2;go_ret;exact⟨by rw[Za R];rfl,Za aj⟩
  ·have R:Hid (Yj [] L=0):=(by show _=_;rw[Za A,Zcp L k (by rw[Za HZ];omega)]);clear A hb;go_wp2;go_ret;exact⟨by rw[Za R];rfl,Za HB⟩
theorem Mw(a c w) :
  Calls aB 209 #[F a 0 c] w λe w'=>e = dF (E J 0)/\w=w':=by
 go_enter func209,ntmps209;go_wp2;refine wp_loop_rounds 1 ?_;rw[bK];go_wp2;go_ret;exact⟨rfl,rfl⟩
theorem Gn(a)(n c:Nat)(L)(x:Int)(w:World)(hn:n<=6)(hs:SlOk a n c)(h:InsAt w a n L)(hx:Yj [] L=x) :
  ZH 209 #[F a n c] w (E J x):=by
 subst hx;obtain⟨hz,hc⟩:=h;by_cases h0:n=0
 ·subst h0;have e:L=[]:=aL.1 hz;subst e;exact (Mw a c w).mono λe w' ⟨q1,q2⟩=>⟨q1,q2 ▸ Below.refl _ _⟩
 ·obtain⟨b,off,rfl,hl,ac⟩:=hc (by omega);exact Mv b off n c L w hn hs.1 hz hl ac
theorem Tryz.infoInt:(Tryz.prog.info? 3).map (λi=>(i.zero,i.size,i.bytes))=some (some (E J 0),1,8):=by kernel_rfl
def Zeg(L:List Z3)(j:Nat):Value:=E J ((L.map (·.1)).getD j 0)
theorem Zco{x:Z3}(h:x.1<1):Xa x=3:=by unfold Xa;rw[if_pos h]
theorem Lw{x:Z3}(h:¬x.1<1):Xa x=chk x.2:=by unfold Xa;rw[if_neg h]
theorem L5(b off n c:Nat)(L:List Z3)(w:World)(hn:n<=6)(bi:0<n)(hz:L.length=n)(hc:∀ i (h:i<L.length),OutAt w b (off+i*2) L[i]) :
  ZH 210 #[F (some ⟨b,off,none⟩) n c] w (E J (Ym L)):=by
 obtain⟨i0,hi,ce,cf,cg⟩:=info_parts Tryz.infoInt;have HC:=Zd hc;have HZ:=Zd hz;have HP:=Zd bi;clear hc hz bi;go_enter func210,ntmps210
 go_wp2_with (at_make;refine wpList_make_full _ rfl _ _ 25 rfl w.heap.size 3 i0 (E J 0) 1 underlying25 hi ce cf .i64 .i64 _ _ n rfl rfl rfl rfl (by rw[cg];omega) (by unfold cK;omega) (aF _) ?_;intro w2 bh bf)
 have bo:FillV w.heap.size 3 n (Zeg L) w w2 0:=⟨⟨_,bh,λj hj=>absurd hj (by omega)⟩,(Below.refl _ _).grown bf (aF _) (λk h=>by cases h)⟩;have bz:=Zd bo;clear bo bh bf
 go_loopw [14] (λi wr=>∃ k:Nat,k<=n/\i = E J k/\Hid (Yk L=Yk (L.drop k))/\FillV w.heap.size 3 n (Zeg L) w wr k) (λi _=>n - (intOf i).toNat)
 case atStart=>exact⟨0,aI _,rfl,rfl,Za bz⟩
 case round=>
  obtain⟨k,hk,rfl,A,ah⟩:=hrel;have HF:=Zd ah;have hb:ZD w wr:=ah.bel;have HB:=Zd hb;by_cases an:k<n
  ·have am:k<L.length:=(by rw[Za HZ];exact an);have bg:=OutAt.kept _ _ _ _ _ hb (HC k am);have ST:=Zd (F8 L k am);have SS:=Zd (F9 L k am);have ay:Zeg L k = E J (L[k]).1:=(by unfold Zeg;simp[am]);obtain⟨x,hx⟩:=ZF (L[k]);rw[hx] at bg ST SS ay;have bu:=Zd ay;obtain⟨x1,ac⟩:=x;obtain⟨g1,ka,kn,kc,g3,g4,_⟩:=bg;simp only at g1 g3 g4;have ax:=Zh wr (dE #[E J x1,F ka kn kc] 122);obtain⟨n1,n2⟩:=M9 wr (E J x1) (F ka kn kc) 122;have aq:=Zd ax;have KO:=Zd (g4.later ax);have N1:=Zd n1;have N2:=Zd n2;clear hb hx g4 ax n1 n2 ah ay;by_cases az:x1<1
   ·have R:Hid (Ym L=3):=by
     have e:Xa (x1,ac)=3:=Zco az;have e2:Yk L=3:=(by rw[Za A,(Za ST) (by rw[e];decide),e]);show _=_;unfold Ym;rw[e2];rfl
    have br:=Zd (Zf HB aq);clear A ST SS;go_wp2;go_ret;exact⟨by rw[Za R];rfl,Za br⟩
   ·by_cases aa:chk ac=0
    ·have R:Hid (Yk L=Yk (L.drop (k+1))):=by
      have e:Xa (x1,ac)=0:=(by rw[Lw az];exact aa);show _=_;rw[Za A,(Za SS) e]
     have HK:=Zd aa;clear A ST SS aa;go_wp2_with fail;refine (Lv ka kn kc ac 0 _ HK KO).mono ?_;rintro e w3 ⟨rfl,ae⟩;have m1:=Ze ae N1;have ak:=(HF.keep aq).keep ae;obtain⟨v,ct⟩:=ak.old an;have cp:=ak.free k;have bx:=Zd ak;have cu:wr.heap.size<w3.heap.size:=aE _ _ m1;clear ae ak;go_wp2;go_roundw
     case rel=>exact⟨k+1,by omega,by go_num,R,bx.step an bu.symm⟩
     case measure=>simp[intOf];omega
    ·obtain⟨z,hz⟩:=ZF (chk ac)
     have R:Hid (Ym L=z):=by
      have e:Xa (x1,ac)=chk ac:=Lw az;have e2:Yk L=z:=(by rw[Za A,(Za ST) (by rw[e];exact aa),e];exact hz);show _=_;unfold Ym;rw[e2,if_neg (by rw[<-hz];exact aa)]
     have HK:=Zd hz;rw[hz] at aa;have gz:(z != 0)=true:=(by simp[aa]);clear A ST SS hz aa;go_wp2_with fail;refine (Lv ka kn kc ac z _ HK KO).mono ?_;rintro e w3 ⟨rfl,ae⟩;have bs:=Zd (Zf (Zf HB aq) ae);clear ae;go_wp2;go_ret;exact⟨by rw[Za R];rfl,Za bs⟩
  ·have e:k=n:=(by omega);subst e
   have R:Hid (Ym L=(sm 0 (L.map (·.1))).2):=by
    show _=_;unfold Ym;rw[Za A,Ev L k (by rw[Za HZ];exact aF _)];rfl
   have bj:RowAt wr (some ⟨w.heap.size,0,none⟩) k (L.map (·.1)):=by
    refine⟨by rw[List.length_map];exact Za HZ,by unfold cK;omega,λ_=>⟨w.heap.size,0,rfl,λi hi=>?_⟩⟩;rw[Nat.zero_add,ah.cells (aF _) i hi];rfl
   have SM:=Zd (Zmt (some ⟨w.heap.size,0,none⟩) k k (L.map (·.1)) wr bj);obtain⟨s,hs⟩:=ZF (sm 0 (L.map (·.1)));rw[hs] at SM R;obtain⟨s1,s2⟩:=s;clear A hb ah bj hs an hk;go_wp2_with fail;refine SM.mono ?_;rintro e w' ⟨rfl,rfl⟩;go_wp2;go_ret;exact⟨by rw[Za R];rfl,Za HB⟩
theorem Ac(a)(n c:Nat)(L)(x:Int)(w:World)(hn:n<=6)(aa:0<n)(h:OutsAt w a n L)(hx:Ym L=x) :
  ZH 210 #[F a n c] w (E J x):=by
 subst hx;obtain⟨hz,hc⟩:=h;obtain⟨b,off,rfl,_,ac⟩:=hc aa;exact L5 b off n c L w hn aa hz ac
theorem Rv(h:Int)(ai ao)(ni ci no co:Nat)(o:Bool)(w:World)(ho:(if ni=0 then decide (1<=h) && decide (h<=1000) else decide (h=0))=o) :
  ZH 208 #[.agg #[E J h,F ai ni ci,F ao no co]] w (dI o):=by
 have HB:=Zd (Zh w (dE #[E J h,F ai ni ci,F ao no co] 59));by_cases h0:ni=0
 ·subst h0;rw[if_pos rfl] at ho;have C:Hid (∀ w,Calls aB 103 #[E J h,E J 1,E J 1000] w λe w'=>e = dF (dI o)/\w=w'):=λw=>Yr h 1 1000 o w ho.symm;clear ho;go_enter func208,ntmps208;go_wp2_with fail;refine (C _).mono ?_;rintro e w' ⟨rfl,rfl⟩;go_wp2;go_ret;exact⟨rfl,Za HB⟩
 ·rw[if_neg h0] at ho;have g:((ni:Int) == 0)=false:=by simp;omega
  by_cases hh:h=0
  ·rw[decide_eq_true hh] at ho;subst ho hh;go_enter func208,ntmps208;go_wp2;go_ret;exact⟨rfl,Za HB⟩
  ·rw[decide_eq_false hh] at ho;subst ho;have g2:(h == 0)=false:=(by simp[hh]);go_enter func208,ntmps208;go_wp2;go_ret;exact⟨rfl,Za HB⟩
