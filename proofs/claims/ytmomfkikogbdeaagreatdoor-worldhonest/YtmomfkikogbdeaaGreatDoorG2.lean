import Derived.Test.YtmomfkikogbdeaaGreatDoorH
import Derived.OrdersHeld
import Derived.Test.YtmomfkikogbdeaaGreatDoorRows
import Derived.BigQuiet
import Derived.Deep.RegionWith
import Derived.WalkLawsBesides
open Go.Proofs.Tryz
open Bool renaming and_eq_true->bY
open Go renaming rounds_succ->bD,maxLen->cW,TypeId->cR,heap_alloc_new->aH
open Go.Ending renaming returned->dA
open Go.IntKind renaming i64->J
open Go.Obj renaming cells->cZ
open Go.Proofs.Tryz renaming prog->aB
open Go.Value renaming int->E,slice->F,tuple->dB,pointer->dC,bool->dD
open Go.World renaming block_lt_of_cell?->aE
open List renaming take_succ_eq_append_getElem->aS,length_take->bP,drop_eq_getElem_cons->aI,drop_of_length_le->bM,length_eq_zero_iff->aP
open Nat renaming le_refl->aF,zero_le->aL,lt_of_lt_of_le->aD
open Option.some renaming injEq->bG
set_option maxHeartbeats 3200000
set_option maxRecDepth 10000
namespace Go.Proofs.YtmomfkikogbdeaaGreatDoor
open Go.RowKit
def fit(n:Int):Bool:=decide (-1000000<=n) && decide (n<=1000000)
theorem Uk(n:Int):fit n=true↔-1000000<=n/\n<=1000000:=by simp[fit]
def b01(b:Bool):Int:=if b then 1 else 0
def Fc(a:Int):Nat->Int
 | 0=>a+1000000
 | k+1=>(7919*Fc a k+104729) % 1000003
theorem Zoe(a:Int)(h:fit a=true):∀ k,0<=Fc a k/\Fc a k<=2000000
 | 0=>by have:=(Uk a).1 h;simp only[Fc];omega
 | k+1=>by simp only[Fc];omega
def Zpz(a:Int):Int:=Fc a 3 % 1000001
def g2(k:Int)(a b:Int):Int:=
 if k=5 then a+b else if k=6 then a - b else if k=7 then b01 (a == b) else if k=8 then b01 (decide (a<b)) else b01 (a != 0 && b != 0)
def g1(k:Int)(a:Int):Int:=if k=9 then b01 (a == 0) else Zpz a
def J3(L:List Int)(x:Int):Option (List Int):=if L.length=16\/fit x=false then none else some (L++[x])
def Xn(L:List Int):Option (List Int):=if L.length=0 then none else some L.dropLast
def Tj(L:List Int):Int:=L.getLastD 0
def Gj(h:Int)(k n:Int)(L:List Int):Option (List Int):=
 if k=1 then J3 L n
 else if k=2 then (Xn L).bind λM=>(J3 M (Tj L)).bind λM=>J3 M (Tj L)
 else if k=3 then (Xn L).bind λM=>(Xn M).bind λN=>(J3 N (Tj L)).bind λQ=>J3 Q (Tj M)
 else if k=4 then Xn L
 else if k=9\/k=13 then (Xn L).bind λM=>J3 M (g1 k (Tj L))
 else if k=11 then (Xn L).bind λM=>if Tj L=0 then none else some M
 else if k=12 then J3 L h
 else (Xn L).bind λM=>(Xn M).bind λN=>J3 N (g2 k (Tj M) (Tj L))
def Wt(h:Int):List (Int×Int)->List Int->Option (List Int)
 | [],L=>some L
 | o :: r,L=>(Gj h o.1 o.2 L).bind (Wt h r)
theorem J1(h:Int):∀ (l m:List (Int×Int)) (L:List Int),Wt h (l++m) L=(Wt h l L).bind (Wt h m)
 | [],m,L=>by simp[Wt]
 | o :: r,m,L=>by
  simp only[List.cons_append,Wt];cases Gj h o.1 o.2 L with
  | none=>rfl
  | some M=>simp only[Option.bind];exact J1 h r m M
structure MS where
 cs:List Int
 n:Nat
 h:Int
 f:Bool
def MS.ok(s:MS):Prop:=s.cs.length=16/\s.n<=16/\∀ x∈s.cs,fit x=true
def MS.rep(s:MS):Option (List Int):=if s.f then none else some (s.cs.take s.n)
def MS.put(s:MS)(x:Int):MS:=if s.n=16\/fit x=false then { s with f:=true } else { s with cs:=s.cs.set s.n x,n:=s.n+1 }
def MS.top(s:MS):Int:=if s.n=0 then 0 else s.cs.getD (s.n - 1) 0
def MS.take(s:MS):MS:=if s.n=0 then { s with f:=true } else { s with n:=s.n - 1 }
def MS.fail(s:MS):MS:={ s with f:=true }
def MS.step(s:MS)(k n:Int):MS:=
 if k=1 then s.put n
 else if k=2 then (s.take.put s.top).put s.top
 else if k=3 then (s.take.take.put s.top).put s.take.top
 else if k=4 then s.take
 else if k=9\/k=13 then s.take.put (g1 k s.top)
 else if k=11 then (if s.top=0 then s.take.fail else s.take)
 else if k=12 then s.put s.h
 else s.take.take.put (g2 k s.take.top s.top)
theorem MS.put_h(s:MS)(x:Int):(s.put x).h=s.h:=by unfold MS.put;split <;> rfl
theorem MS.take_h(s:MS):s.take.h=s.h:=by unfold MS.take;split <;> rfl
theorem MS.fail_h(s:MS):s.fail.h=s.h:=rfl
theorem MS.step_h(s:MS)(k n:Int):(s.step k n).h=s.h:=by
 unfold MS.step;repeat' split
 all_goals simp only[MS.put_h,MS.take_h,MS.fail_h]
theorem MS.ok.put_ok{s:MS}(Q:s.ok)(x:Int):(s.put x).ok:=by
 obtain⟨h1,h2,h3⟩:=Q;unfold MS.put;split
 ·exact⟨h1,h2,h3⟩
 ·rename_i h;simp only[not_or,Bool.not_eq_false] at h;refine⟨by simpa using h1,by show s.n+1<=16;omega,λy z=>?_⟩
  rcases List.mem_or_eq_of_mem_set z with z|rfl
  ·exact h3 y z
  ·exact h.2
theorem MS.ok.take_ok{s:MS}(z:s.ok):s.take.ok:=by
 obtain⟨h1,h2,h3⟩:=z;unfold MS.take;split
 ·exact⟨h1,h2,h3⟩
 ·exact⟨h1,by show s.n - 1<=16;omega,h3⟩
theorem MS.ok.fail_ok{s:MS}(z:s.ok):s.fail.ok:=z
theorem MS.ok.top_fit{s:MS}(Q:s.ok):fit s.top=true:=by
 obtain⟨h1,h2,h3⟩:=Q;unfold MS.top;split
 ·decide
 ·rename_i h;have z:s.n - 1<s.cs.length:=by omega
  rw[List.getD_eq_getElem?_getD,List.getElem?_eq_getElem z,Option.getD_some];exact h3 _ (List.getElem_mem z)
theorem MS.rep_put{s:MS}(hs:s.ok)(x:Int):(s.put x).rep=s.rep.bind (J3 · x):=by
 obtain⟨h1,h2,_⟩:=hs;unfold MS.rep;cases hf:s.f with
 | true=>
  have:(s.put x).f=true:=by unfold MS.put;split <;> simp[hf]
  rw[this];rfl
 | false=>
  simp only[Bool.false_eq_true,if_false,Option.bind_some];have z:(s.cs.take s.n).length=s.n:=by simp;omega
  unfold MS.put J3;rw[z];split
  ·rfl
  ·rename_i h;simp only[not_or,Bool.not_eq_false] at h;simp only[hf,Bool.false_eq_true,if_false];have Q:s.n<s.cs.length:=(by omega);rw[aS (by simpa using Q)];simp[List.take_set_of_le]
theorem MS.rep_take{s:MS}(Q:s.ok):s.take.rep=s.rep.bind Xn:=by
 obtain⟨h1,h2,_⟩:=Q;unfold MS.rep;cases hf:s.f with
 | true=>
  have:s.take.f=true:=by unfold MS.take;split <;> simp[hf]
  rw[this];rfl
 | false=>
  simp only[Bool.false_eq_true,if_false,Option.bind_some];have z:(s.cs.take s.n).length=s.n:=by simp;omega
  unfold MS.take Xn;rw[z];split
  ·rfl
  ·simp only[hf,Bool.false_eq_true,if_false];show some (s.cs.take (s.n - 1))=_;rw[List.dropLast_eq_take,List.take_take,z]
   congr 2
   omega
theorem MS.rep_top{s:MS}(z:s.ok){L}(h:s.rep=some L):s.top=Tj L:=by
 obtain⟨h1,h2,_⟩:=z;unfold MS.rep at h;split at h
 ·cases h
 ·simp only[bG] at h;subst h;unfold MS.top Tj;split
  ·rename_i e;rw[e];rfl
  ·have Q:s.n - 1<s.cs.length:=(by omega);rw[List.getLastD_eq_getLast?,List.getLast?_eq_getElem?,bP,List.getD_eq_getElem?_getD];have e:min s.n s.cs.length - 1=s.n - 1:=(by omega);rw[e,List.getElem?_take_of_lt (by omega)]
theorem MS.rep_none_take{s:MS}(z:s.ok)(h:s.rep=none):s.take.rep=none:=by rw[MS.rep_take z,h];rfl
theorem MS.rep_none_put{s:MS}(z:s.ok)(h:s.rep=none)(x:Int):(s.put x).rep=none:=by rw[MS.rep_put z,h];rfl
theorem MS.rep_step{s:MS}(hs:s.ok)(k n:Int):(s.step k n).rep=s.rep.bind (Gj s.h k n):=by
 have z:=hs.take_ok;have ac:=z.take_ok;cases hr:s.rep with
 | none=>
  have h1:=MS.rep_none_take hs hr;have h2:=MS.rep_none_take z h1;show _=none;unfold MS.step;split
  ·exact MS.rep_none_put hs hr _
  split
  ·exact MS.rep_none_put (z.put_ok _) (MS.rep_none_put z h1 _) _
  split
  ·exact MS.rep_none_put (ac.put_ok _) (MS.rep_none_put ac h2 _) _
  split
  ·exact h1
  split
  ·exact MS.rep_none_put z h1 _
  split
  ·split
   ·rfl
   ·exact h1
  split
  ·exact MS.rep_none_put hs hr _
  ·exact MS.rep_none_put ac h2 _
 | some L=>
  have e0:=MS.rep_top hs hr;have e1:s.take.rep=Xn L:=by rw[MS.rep_take hs,hr];rfl
  have e2:s.take.take.rep=(Xn L).bind Xn:=by rw[MS.rep_take z,e1]
  have e3:∀ M,Xn L=some M->s.take.top=Tj M:=λM Q=>MS.rep_top z (e1.trans Q);show _=Gj s.h k n L;unfold MS.step Gj;split
  ·rw[MS.rep_put hs,hr];rfl
  split
  ·rw[MS.rep_put (z.put_ok _),MS.rep_put z,e1,e0];cases Xn L with
   | none=>rfl
   | some M=>rfl
  split
  ·rw[MS.rep_put (ac.put_ok _),MS.rep_put ac,e2,e0];cases Q:Xn L with
   | none=>rfl
   | some M=>
    rw[e3 M Q];show ((Xn M).bind (J3 · (Tj L))).bind _=(Xn M).bind _;cases Xn M <;> rfl
  split
  ·exact e1
  split
  ·rw[MS.rep_put z,e1,e0]
  split
  ·rw[e0];cases Q:Xn L with
   | none=>
    show _=none;split
    ·rfl
    ·rw[e1,Q]
   | some M=>
    show _=(if Tj L=0 then none else some M);split
    ·rfl
    ·rw[e1,Q]
  split
  ·rw[MS.rep_put hs,hr];rfl
  ·rw[MS.rep_put ac,e2,e0];cases Q:Xn L with
   | none=>rfl
   | some M=>
    rw[e3 M Q];show ((Xn M).bind _)=(Xn M).bind _;rfl
def Yl(Z:List Int):Bool:=decide (Z.length<=16) && Z.all fit
def Qp:List Int->List Int->Option (List Int)
 | L,[]=>some L
 | L,x :: r=>(J3 L x).bind λM=>Qp M r
theorem Kt:∀ (Z L:List Int) (x:Int),Qp L (Z++[x])=(Qp L Z).bind (J3 · x)
 | [],L,x=>by simp[Qp]
 | y :: r,L,x=>by
  simp only[List.cons_append,Qp];cases J3 L y with
  | none=>rfl
  | some M=>exact Kt r M x
theorem Bc:∀ (Z L:List Int),L.length<=16->Qp L Z=if decide ((L++Z).length<=16) && Z.all fit then some (L++Z) else none
 | [],L,h=>by simp[Qp,h]
 | x :: r,L,h=>by
  simp only[Qp,J3];by_cases h1:L.length=16
  ·rw[if_pos (Or.inl h1),if_neg];rfl;simp only[List.length_append,List.length_cons,bY,decide_eq_true_eq];omega
  ·by_cases h2:fit x=false
   ·rw[if_pos (Or.inr h2),if_neg];rfl;simp[h2]
   ·rw[if_neg (by simp[h1];simpa using h2)];show Qp (L++[x]) r=_;rw[Bc r (L++[x]) (by simp;omega)];have h3:fit x=true:=(by simpa using h2);simp[h3]
theorem Zft(Z):Qp [] Z=if Yl Z then some Z else none:=by
 rw[Bc Z [] (by simp)];rfl
theorem Qd{L M}{x:Int}(z:Yl L=true)(h:J3 L x=some M):Yl M=true:=by
 unfold J3 at h;split at h
 ·cases h
 ·rename_i Q;simp only[bG] at h;subst h;simp only[not_or,Bool.not_eq_false] at Q;simp only[Yl,bY,decide_eq_true_eq] at z ⊢;refine⟨by simp;omega,?_⟩;rw[List.all_append];simp[z.2,Q.2]
theorem V8{L M}(z:Yl L=true)(h:Xn L=some M):Yl M=true:=by
 unfold Xn at h;split at h
 ·cases h
 ·simp only[bG] at h;subst h;simp only[Yl,bY,decide_eq_true_eq,List.all_eq_true] at z ⊢;exact⟨by simp;omega,λx hx=>z.2 x (List.dropLast_subset _ hx)⟩
theorem Vu{α β : Type}{o:Option α}{f : α->Option β}{b : β}(h:o.bind f=some b):∃ a,o=some a/\f a=some b:=by
 cases o with
 | none=>cases h
 | some a=>exact⟨a,rfl,h⟩
theorem Zjc{h k n:Int}{L M}(Q:Yl L=true)(e:Gj h k n L=some M):Yl M=true:=by
 unfold Gj at e;split at e
 ·exact Qd Q e
 split at e
 ·obtain⟨A,z,e⟩:=Vu e;obtain⟨B,hB,e⟩:=Vu e;exact Qd (Qd (V8 Q z) hB) e
 split at e
 ·obtain⟨A,z,e⟩:=Vu e;obtain⟨B,hB,e⟩:=Vu e;obtain⟨C,hC,e⟩:=Vu e;exact Qd (Qd (V8 (V8 Q z) hB) hC) e
 split at e
 ·exact V8 Q e
 split at e
 ·obtain⟨A,z,e⟩:=Vu e;exact Qd (V8 Q z) e
 split at e
 ·obtain⟨A,z,e⟩:=Vu e;split at e
  ·cases e
  ·cases e;exact V8 Q z
 split at e
 ·exact Qd Q e
 ·obtain⟨A,z,e⟩:=Vu e;obtain⟨B,hB,e⟩:=Vu e;exact Qd (V8 (V8 Q z) hB) e
theorem Zds{h:Int}:∀ {l:List (Int×Int)} {L M:List Int},Yl L=true->Wt h l L=some M->Yl M=true
 | [],L,M,hL,e=>by cases e;exact hL
 | o :: r,L,M,hL,e=>by
  obtain⟨A,z,e⟩:=Vu e;exact Zds (Zjc hL z) e
def Xy(o:Int×Int):Int:=if o.1<1\/13<o.1 then 4 else if (o.1≠1/\o.2≠0)\/fit o.2=false then 3 else 0
def U8:List (Int×Int)->Int
 | []=>0
 | o :: r=>if Xy o=0 then U8 r else Xy o
def chk(l:List (Int×Int)):Int:=if 16<l.length then 2 else U8 l
theorem Zia(l:List (Int×Int))(k:Nat)(h:k<l.length)(h0:U8 (l.take k)=0):U8 (l.take (k+1))=if Xy (l[k])=0 then 0 else Xy (l[k]):=by
 induction l generalizing k with
 | nil=>simp at h
 | cons o r ih=>
  cases k with
  | zero=>simp[U8]
  | succ k=>
   simp only[List.take_succ_cons,U8,List.getElem_cons_succ] at h0 ⊢;split at h0
   ·rename_i e;rw[if_pos e];exact ih k (by simpa using h) h0
   ·contradiction
theorem Zib(l:List (Int×Int))(k:Nat)(h:k<l.length)(h0:U8 (l.take k)=0)(h1:Xy (l[k])≠0):U8 l=Xy (l[k]):=by
 induction l generalizing k with
 | nil=>simp at h
 | cons o r ih=>
  cases k with
  | zero=>simp only[List.getElem_cons_zero] at h1 ⊢;simp[U8,h1]
  | succ k=>
   simp only[List.take_succ_cons,U8,List.getElem_cons_succ] at h0 h1 ⊢;split at h0
   ·rename_i e;rw[if_pos e];exact ih k (by simpa using h) h0 h1
   ·contradiction
theorem Qv{l:List (Int×Int)}(h:U8 l=0):∀ (k:Nat) (z:k<l.length),Xy (l[k])=0:=by
 induction l with
 | nil=>intro k z;simp at z
 | cons o r ih=>
  simp only[U8] at h;split at h
  ·rename_i e;intro k z;cases k with
   | zero=>exact e
   | succ k=>exact ih h k (by simpa using z)
  ·contradiction
def hOk(h:Int):Bool:=decide (0<=h) && decide (h<=1000)
def To(l:List (Int×Int))(Z:List Int)(h:Int):Int:=
 if chk l=0 then (if Yl Z && hOk h then (if (Wt h l Z).isSome then 0 else 8) else 3) else chk l
def Hh(l:List (Int×Int))(Z:List Int)(h:Int):List Int:=if To l Z h=0 then (Wt h l Z).getD [] else []
def Vl(l k:List (Int×Int))(h:Int):Int:=if chk l=0 then (if chk k=0 then (if hOk h then 0 else 3) else chk k) else chk l
def Bo(L:List Int):Bool:=decide (L.length=1) && (Tj L != 0)
def Xe(l k:List (Int×Int))(h:Int):Bool:=decide (Vl l k h=0) && (match (Wt h k []).bind (Wt h l) with|some L=>Bo L|none=>false)
abbrev InD:=Int×Int×List (Int×Int)
abbrev Zy:=Int×List (Int×Int)
abbrev TxD:=Int×List InD×List Zy
def Tp(x:InD):Bool:=(decide (1<=x.1) && decide (x.1<=120)) && (decide (0<=x.2.1) && decide (x.2.1<=5))
def Ua(x y:InD):Bool:=decide (y.1=x.1) && decide (y.2.1=x.2.1)
def Wf(pre:List InD)(x:InD):Int:=if Tp x=false then 3 else if chk x.2.2≠0 then chk x.2.2 else if pre.any (Ua x) then 6 else 0
def Ya(pre:List InD):List InD->Int
 | []=>0
 | x :: r=>if Wf pre x=0 then Ya (pre++[x]) r else Wf pre x
def Xa(x:Zy):Int:=if x.1<1 then 3 else chk x.2
def Yi:List Zy->Int
 | []=>0
 | x :: r=>if Xa x=0 then Yi r else Xa x
def sm:Int->List Int->Int×Int
 | s,[]=>(s,0)
 | s,x :: l=>if 0<=x/\x<=1000000000 then (if s+x<=1000000000 then sm (s+x) l else (0,12)) else (0,3)
theorem Zno(s:Int)(Z:List Int)(k:Nat)(z:k<Z.length)(h1:0<=Z.getD k 0)(h2:Z.getD k 0<=1000000000)(h3:s+Z.getD k 0<=1000000000) :
  sm s (Z.drop k)=sm (s+Z.getD k 0) (Z.drop (k+1)):=by
 have e:Z.drop k=Z.getD k 0 :: Z.drop (k+1):=by
  rw[aI z];simp[List.getD,z]
 rw[e,sm,if_pos ⟨h1,h2⟩,if_pos h3]
theorem Znp(s:Int)(Z:List Int)(k:Nat)(z:k<Z.length)(h1:0<=Z.getD k 0)(h2:Z.getD k 0<=1000000000)(h3:1000000000<s+Z.getD k 0) :
  sm s (Z.drop k)=(0,12):=by
 have e:Z.drop k=Z.getD k 0 :: Z.drop (k+1):=by
  rw[aI z];simp[List.getD,z]
 rw[e,sm,if_pos ⟨h1,h2⟩,if_neg (by omega)]
theorem Zjg(s:Int)(Z:List Int)(k:Nat)(z:k<Z.length)(h:Z.getD k 0<0\/1000000000<Z.getD k 0) :
  sm s (Z.drop k)=(0,3):=by
 have e:Z.drop k=Z.getD k 0 :: Z.drop (k+1):=by
  rw[aI z];simp[List.getD,z]
 rw[e,sm,if_neg (by omega)]
theorem Zqr(s:Int)(Z:List Int)(k:Nat)(z:Z.length<=k):sm s (Z.drop k)=(s,0):=by
 rw[bM z];rfl
def Fo(t:TxD):Bool:=if t.2.1.length=0 then decide (1<=t.1) && decide (t.1<=1000) else decide (t.1=0)
def Yq(l:List Zy):Int:=if Yi l=0 then (sm 0 (l.map (·.1))).2 else Yi l
def Zu(t:TxD):Int:=
 if 6<t.2.1.length\/6<t.2.2.length then 2 else if t.2.2.length=0 then 4 else if Fo t=false then 3
 else if Ya [] t.2.1≠0 then Ya [] t.2.1 else Yq t.2.2
theorem Es(L:List InD)(k:Nat)(z:k<L.length)(h:Wf (L.take k) L[k]=0):Ya (L.take k) (L.drop k)=Ya (L.take (k+1)) (L.drop (k+1)):=by
 rw[aI z,Ya,if_pos h,aS z]
theorem Er(L:List InD)(k:Nat)(z:k<L.length)(h:Wf (L.take k) L[k]≠0):Ya (L.take k) (L.drop k)=Wf (L.take k) L[k]:=by
 rw[aI z,Ya,if_neg h]
theorem Zco(L:List InD)(k:Nat)(z:L.length<=k):Ya (L.take k) (L.drop k)=0:=by
 rw[bM z];rfl
theorem F4(L:List Zy)(k:Nat)(z:k<L.length)(h:Xa L[k]=0):Yi (L.drop k)=Yi (L.drop (k+1)):=by
 rw[aI z,Yi,if_pos h]
theorem F3(L:List Zy)(k:Nat)(z:k<L.length)(h:Xa L[k]≠0):Yi (L.drop k)=Xa L[k]:=by
 rw[aI z,Yi,if_neg h]
theorem Ep(L:List Zy)(k:Nat)(z:L.length<=k):Yi (L.drop k)=0:=by
 rw[bM z];rfl
theorem Zic{pre x}(h:Tp x=false):Wf pre x=3:=by unfold Wf;rw[if_pos h]
theorem Zcp{pre}{x:InD}(h:Tp x=true)(z:chk x.2.2≠0):Wf pre x=chk x.2.2:=by
 unfold Wf;rw[if_neg (by rw[h];decide),if_pos z]
theorem F6{pre:List InD}{x:InD}(h:Tp x=true)(z:chk x.2.2=0)(Q:pre.any (Ua x)=true):Wf pre x=6:=by
 unfold Wf;rw[if_neg (by rw[h];decide),if_neg (by rw[z];decide),if_pos Q]
theorem Zid{pre:List InD}{x:InD}(h:Tp x=true)(z:chk x.2.2=0)(Q:pre.any (Ua x)=false):Wf pre x=0:=by
 unfold Wf;rw[if_neg (by rw[h];decide),if_neg (by rw[z];decide),if_neg (by rw[Q];decide)]
def Jp(t u:TxD):Bool:=decide (t.1=u.1) && (decide (t.2.1=u.2.1) && decide (t.2.2=u.2.2))
theorem Zfn(t u):Jp t u=true↔t=u:=by
 obtain⟨a,b,c⟩:=t;obtain⟨d,e,f⟩:=u;unfold Jp;simp only[bY,decide_eq_true_eq,Prod.mk.injEq]
theorem Zai(t):Jp t t=true:=(Zfn t t).2 rfl
theorem ZA {α:Type}(l:List α)(i:Nat)(a:α):l.toArray.setIfInBounds i a=(l.set i a).toArray:=List.setIfInBounds_toArray ..
theorem ZB {α:Type}(a b:α)(l:List α):(a::l).set 0 b=b::l:=rfl
theorem ZC {α:Type}(a b:α)(l:List α)(n:Nat):(a::l).set (n+1) b=a::l.set n b:=rfl
theorem Zt {P:Program} {z} {al:Exit->Act->World->Prop} {md:Region.Mode} {S:World->Prop}(i:Nat)(Q:Oper)(v) {fuel:Nat} {ab:Array Bool} {a:Act} {w}(hi:z[i]? = some Q)(hy:∀ w,S w->(execOp a.eval Q).run P w = .ok (.value v) w)(hS:S w)(h:wpAnyH P md z al S fuel (ab.setIfInBounds i true) (a.put Q.dst v) w)(hQ:∀ c a w,al (.panic c) (a.put Q.dst v) w->al (.panic c) a w:=by exact λ_ _ _ h=>h)(hw:Region.wanted Q (yielded z a.tmps)=true:=by rfl)(hs:Region.noSelect z=true:=by kernel_rfl)(hf:Region.free md z ab i=true:=by kernel_rfl)(hr:(Region.ready md z ab).contains i=true:=by kernel_rfl):wpAnyH P md z al S (fuel+1) ab a w:=wpAnyH_take hi hs hf hr hQ (Or.inl ⟨hw,hy⟩) hS h
theorem Zd{p:Prop}(h:p):Hid p:=h
theorem kh2{z Q:Prop}(x0:z)(x1:Q):Hid z/\Hid Q:=⟨x0,x1⟩
theorem kh3{z Q a2:Prop}(x0:z)(x1:Q)(x2:a2):Hid z/\Hid Q/\Hid a2:=⟨x0,x1,x2⟩
theorem kh4{z Q a2 a3:Prop}(x0:z)(x1:Q)(x2:a2)(x3:a3):Hid z/\Hid Q/\Hid a2/\Hid a3:=⟨x0,x1,x2,x3⟩
theorem kh5{z Q a2 a3 a4:Prop}(x0:z)(x1:Q)(x2:a2)(x3:a3)(x4:a4):Hid z/\Hid Q/\Hid a2/\Hid a3/\Hid a4:=⟨x0,x1,x2,x3,x4⟩
theorem kh6{z Q a2 a3 a4 a5:Prop}(x0:z)(x1:Q)(x2:a2)(x3:a3)(x4:a4)(x5:a5):Hid z/\Hid Q/\Hid a2/\Hid a3/\Hid a4/\Hid a5:=⟨x0,x1,x2,x3,x4,x5⟩
theorem kh7{z Q a2 a3 a4 a5 a6:Prop}(x0:z)(x1:Q)(x2:a2)(x3:a3)(x4:a4)(x5:a5)(x6:a6):Hid z/\Hid Q/\Hid a2/\Hid a3/\Hid a4/\Hid a5/\Hid a6:=⟨x0,x1,x2,x3,x4,x5,x6⟩
theorem kh8{z Q a2 a3 a4 a5 a6 a7:Prop}(x0:z)(x1:Q)(x2:a2)(x3:a3)(x4:a4)(x5:a5)(x6:a6)(x7:a7):Hid z/\Hid Q/\Hid a2/\Hid a3/\Hid a4/\Hid a5/\Hid a6/\Hid a7:=⟨x0,x1,x2,x3,x4,x5,x6,x7⟩
theorem Za{p:Prop}(h:Hid p):p:=h
theorem Ws(n lo hi:Int)(w)(h1:lo<=n)(h2:n<=hi) :
  Calls aB 103 #[E J n,E J lo,E J hi] w λe w'=>e = dA (dD true)/\w=w':=by
 go_enter func103,ntmps103;go_wp2;go_ret;exact⟨rfl,rfl⟩
theorem Rj(n lo hi:Int)(w)(h:n<lo\/hi<n) :
  Calls aB 103 #[E J n,E J lo,E J hi] w λe w'=>e = dA (dD false)/\w=w':=by
 by_cases h1:n<lo
 ·go_enter func103,ntmps103;go_wp2;go_ret;exact⟨rfl,rfl⟩
 ·have h2:hi<n:=by omega
  have h3:lo<=n:=by omega
  have h4:decide (n<=hi)=false:=by simp;omega
  clear h;go_enter func103,ntmps103;go_wp2;go_ret;exact⟨rfl,rfl⟩
theorem Y1(n lo hi:Int)(b:Bool)(w)(z:b=(decide (lo<=n) && decide (n<=hi))) :
  Calls aB 103 #[E J n,E J lo,E J hi] w λe w'=>e = dA (dD b)/\w=w':=by
 subst z;by_cases h1:lo<=n
 ·by_cases h2:n<=hi
  ·simpa[h1,h2] using Ws n lo hi w h1 h2
  ·simpa[h1,h2] using Rj n lo hi w (by omega)
 ·simpa[h1] using Rj n lo hi w (by omega)
theorem Sw(n:Int)(b:Bool)(w)(z:b=fit n) :
  Calls aB 302 #[E J n] w λe w'=>e = dA (dD b)/\w=w':=by
 have Q:=Zd z;clear z;go_enter func302,ntmps302
 go_wp2_with (go_at_call 103;refine (Y1 _ _ _ b _ Q).mono ?_;rintro e w' ⟨rfl,rfl⟩)
 go_ret;exact⟨rfl,rfl⟩
theorem A9{a b:Int}(h:a=b):Ending.returned (E J a) = dA (E J b):=by rw[h]
theorem Mi(k n:Int)(w:World) :
  ZH 277 #[.agg #[E J k,E J n]] w (E J (Xy (k,n))):=by
 have hb:∀ o,ZD w (w.alloc o):=λo=>(Below.refl _ _).alloc (aF _) _;have Q:=Zd hb;clear hb;by_cases h1:k<1\/13<k
 ·have e:Xy (k,n)=4:=by simp[Xy,h1]
  rw[e];clear e;go_enter func277,ntmps277
  go_wp2_with (go_at_call 103;refine (Rj _ _ _ _ h1).mono ?_;rintro e w' ⟨rfl,rfl⟩)
  go_ret;exact⟨rfl,Q _⟩
 ·have g1:1<=k:=by omega
  have g2:k<=13:=by omega
  by_cases h2:k=1
  ·subst h2;clear h1;cases h3:fit n with
   | false=>
    have e:Xy (1,n)=3:=(by simp[Xy,h3]);rw[e];have z:=Zd h3;clear e h3;go_enter func277,ntmps277
    go_wp2_with (first|(go_at_call 103;refine (Ws _ _ _ _ (by decide) (by decide)).mono ?_;rintro e w' ⟨rfl,rfl⟩)|(go_at_call 302;refine (Sw _ false _ z.symm).mono ?_;rintro e w' ⟨rfl,rfl⟩))
    go_ret;exact⟨rfl,Q _⟩
   | true=>
    have e:Xy (1,n)=0:=(by simp[Xy,h3]);rw[e];have z:=Zd h3;clear e h3;go_enter func277,ntmps277
    go_wp2_with (first|(go_at_call 103;refine (Ws _ _ _ _ (by decide) (by decide)).mono ?_;rintro e w' ⟨rfl,rfl⟩)|(go_at_call 302;refine (Sw _ true _ z.symm).mono ?_;rintro e w' ⟨rfl,rfl⟩))
    go_ret;exact⟨rfl,Q _⟩
  ·have g3:(k != 1)=true:=(by simp[h2]);by_cases h4:n=0
   ·subst h4;have h3:fit 0=true:=(by decide);have e:Xy (k,0)=0:=(by simp[Xy,h3,h1]);rw[e];have z:=Zd h3;clear e h3 h1 h2;go_enter func277,ntmps277
    go_wp2_with (first|(go_at_call 103;refine (Ws _ _ _ _ g1 g2).mono ?_;rintro e w' ⟨rfl,rfl⟩)|(go_at_call 302;refine (Sw _ true _ z.symm).mono ?_;rintro e w' ⟨rfl,rfl⟩))
    go_ret;exact⟨rfl,Q _⟩
   ·have g4:(n != 0)=true:=(by simp[h4]);have e:Xy (k,n)=3:=(by simp[Xy,h1,h2,h4]);rw[e];clear e h1 h2 h4;go_enter func277,ntmps277
    go_wp2_with (go_at_call 103;refine (Ws _ _ _ _ g1 g2).mono ?_;rintro e w' ⟨rfl,rfl⟩)
    go_ret;exact⟨rfl,Q _⟩
def OpsAt(w:World)(a:Option Addr)(len:Nat)(l:List (Int×Int)):Prop:=
 l.length=len/\(0<len->∃ b off,a=some ⟨b,off,none⟩/\∀ i,i<len->w.cell? ⟨b,off+i*2,none⟩=some (E J (l.getD i (0,0)).1)/\w.cell? ⟨b,off+i*2+1,none⟩=some (E J (l.getD i (0,0)).2))
theorem OpsAt.later{w w':World}{a len l}(h:OpsAt w a len l)(z:ZD w w'):OpsAt w' a len l:=by
 obtain⟨hz,Q⟩:=h;refine⟨hz,λh=>?_⟩;obtain⟨b,off,rfl,aa⟩:=Q h;refine⟨b,off,rfl,λi hi=>?_⟩;obtain⟨h1,h2⟩:=aa i hi;refine⟨?_,?_⟩
 ·rw[z.cell (p:=⟨b,off+i*2,none⟩) (aE _ _ h1)];exact h1
 ·rw[z.cell (p:=⟨b,off+i*2+1,none⟩) (aE _ _ h2)];exact h2
theorem Zcs(a)(len cap:Nat)(w)(h:16<len) :
  Calls aB 249 #[F a len cap] w λe w'=>e = dA (E J 2)/\w=w':=by
 go_enter func249,ntmps249;go_wp2;go_ret;exact⟨rfl,rfl⟩
theorem Mg(a cap w) :
  Calls aB 249 #[F a 0 cap] w λe w'=>e = dA (E J 0)/\w=w':=by
 go_enter func249,ntmps249;go_wp2;refine wp_loop_rounds 1 ?_;rw[bD];go_wp2;go_ret;exact⟨rfl,rfl⟩
theorem Zcr(b off len cap:Nat)(l:List (Int×Int))(w:World)(h0:len<=16)(hz:l.length=len)
  (hc:∀ i,i<len->w.cell? ⟨b,off+i*2,none⟩=some (E J (l.getD i (0,0)).1)/\w.cell? ⟨b,off+i*2+1,none⟩=some (E J (l.getD i (0,0)).2)) (hl:b<w.heap.size) :
  ZH 249 #[F (some ⟨b,off,none⟩) len cap] w (E J (U8 l)):=by
 have HC:=Zd hc;have HZ:=Zd hz;clear hc hz;go_enter func249,ntmps249;go_wp2
 go_loopw [11] (λi wr=>∃ k:Nat,k<=len/\i = E J k/\U8 (l.take k)=0/\ZD w wr) (λi _=>len - (intOf i).toNat)
 case atStart=>exact⟨0,aL _,rfl,rfl,Below.refl _ _⟩
 case round=>
  obtain⟨k,hk,rfl,aq,Q⟩:=hrel;have af:=Zd aq;have z:=Zd Q;clear aq;by_cases ap:k<len
  ·obtain⟨c1,c2⟩:=HC k ap;rw[<-Q.cell (p:=⟨b,off+k*2,none⟩) hl] at c1;rw[<-Q.cell (p:=⟨b,off+k*2+1,none⟩) hl] at c2;obtain⟨q,hq⟩:=ZG (l.getD k (0,0));rw[<-hq] at c1 c2;have aj:k<l.length:=(by rw[Za HZ];exact ap);have ar:q=l[k]:=(by rw[hq];simp[aj]);have HQ:=Zd ar;clear Q hq ar;obtain⟨q1,q2⟩:=q;have CO:=Zd (Mi q1 q2);obtain⟨x,hx⟩:=ZG (Xy (q1,q2));rw[<-hx] at CO;have HX:=Zd hx;clear hx;by_cases ac:x=0
   ·subst ac;go_wp2_with fail;refine (CO _).mono ?_;rintro e w1 ⟨rfl,aa⟩;have ab:=z.trans (((Below.refl wr.heap.size wr).alloc (aF _) _).trans (aa.mono (by simp)) |>.mono z.size);have ae:=Zd ab;clear aa ab;go_wp2;go_roundw
    case rel=>
     refine⟨k+1,by omega,by go_num,?_,Za ae⟩;rw[Zia l k aj af,<-Za HQ,<-Za HX];rfl
    case measure=>simp[intOf];omega
   ·have bd:(x != 0)=true:=(by simp[ac]);have ay:=Zd ac;clear ac;go_wp2_with fail;refine (CO _).mono ?_;rintro e w1 ⟨rfl,aa⟩;have ab:=z.trans (((Below.refl wr.heap.size wr).alloc (aF _) _).trans (aa.mono (by simp)) |>.mono z.size);have ae:=Zd ab;clear aa ab;go_wp2;go_ret;refine⟨A9 ?_,Za ae⟩;rw[Zib l k aj af (by rw[<-Za HQ,<-Za HX];exact Za ay),<-Za HQ,<-Za HX]
  ·clear Q;go_wp2;go_ret;have e:k=len:=(by omega);subst e;refine⟨A9 ?_,Za z⟩;have h1:=Za af;rw[<-Za HZ,List.take_length] at h1;exact h1.symm
theorem Uo(a len cap l)(w:World)(h:OpsAt w a len l) :
  ZH 249 #[F a len cap] w (E J (chk l)):=by
 obtain⟨z,hc⟩:=h;unfold chk;rw[z];by_cases h1:16<len
 ·rw[if_pos h1];exact (Zcs a len cap w h1).mono λe w' ⟨x,y⟩=>⟨x,y ▸ Below.refl _ _⟩
 ·rw[if_neg h1];by_cases h2:len=0
  ·subst h2;have e:l=[]:=aP.1 z;subst e;exact (Mg a cap w).mono λe w' ⟨x,y⟩=>⟨x,y ▸ Below.refl _ _⟩
  ·obtain⟨b,off,rfl,Q⟩:=hc (by omega);exact Zcr b off len cap l w (by omega) z Q (aE _ _ (Q 0 (by omega)).1)
def RowAt(w:World)(a:Option Addr)(len:Nat)(Z:List Int):Prop:=
 Z.length=len/\len<=cW/\(0<len->∃ b off,a=some ⟨b,off,none⟩/\∀ i,i<len->w.cell? ⟨b,off+i,none⟩=some (E J (Z.getD i 0)))
theorem RowAt.later{w w':World}{a len Z}(h:RowAt w a len Z)(z:ZD w w'):RowAt w' a len Z:=by
 obtain⟨hz,hm,Q⟩:=h;refine⟨hz,hm,λh=>?_⟩;obtain⟨b,off,rfl,aa⟩:=Q h;refine⟨b,off,rfl,λi hi=>?_⟩;have h1:=aa i hi;rw[z.cell (p:=⟨b,off+i,none⟩) (aE _ _ h1)];exact h1
theorem RowAt.nil(w a):RowAt w a 0 []:=⟨rfl,aL _,λh=>absurd h (by omega)⟩
def RowsAt{α : Type}(R:World->Nat->Nat -> α->Prop)(sz:Nat)(w:World)(a:Option Addr)(len:Nat)(l:List α):Prop:=
 l.length=len/\(0<len->∃ b off,a=some ⟨b,off,none⟩/\b<w.heap.size/\∀ i (h:i<l.length),R w b (off+i*sz) l[i])
def Hf{α : Type}(R:World->Nat->Nat -> α->Prop):Prop:=∀ (w w':World) (b o:Nat) (x : α),ZD w w'->R w b o x->R w' b o x
theorem RowsAt.later{α : Type}{R:World->Nat->Nat -> α->Prop}(Q:Hf R){sz}{w w':World}{a len}{l:List α}(h:RowsAt R sz w a len l)(z:ZD w w'):RowsAt R sz w' a len l:=by
 refine⟨h.1,λh0=>?_⟩;obtain⟨b,off,e,hl,hc⟩:=h.2 h0;exact⟨b,off,e,aD hl z.size,λi hi=>Q w w' b _ _ z (hc i hi)⟩
theorem RowsAt.nil{α : Type}{R:World->Nat->Nat -> α->Prop}{sz}(w a):RowsAt R sz w a 0 []:=⟨rfl,λh=>absurd h (by omega)⟩
theorem Ze{w w':World}{p v}(z:ZD w w')(h:w.cell? p=some v):w'.cell? p=some v:=by
 rw[z.cell (p:=p) (aE _ _ h)];exact h
def SlOk(a:Option Addr)(n c:Nat):Prop:=n<=c/\c<=cW/\(a=none->n=0/\c=0)
theorem SlOk.len{a n c}(h:SlOk a n c):n<=cW:=Nat.le_trans h.1 h.2.1
def InAt(w:World)(b o:Nat)(x:InD):Prop:=
 w.cell? ⟨b,o,none⟩=some (E J x.1)/\w.cell? ⟨b,o+1,none⟩=some (E J x.2.1)/\∃ a n c,w.cell? ⟨b,o+2,none⟩=some (F a n c)/\OpsAt w a n x.2.2/\SlOk a n c
def OutAt(w:World)(b o:Nat)(x:Zy):Prop:=
 w.cell? ⟨b,o,none⟩=some (E J x.1)/\∃ a n c,w.cell? ⟨b,o+1,none⟩=some (F a n c)/\OpsAt w a n x.2/\SlOk a n c
theorem InAt.kept:Hf InAt:=λ_ _ _ _ _ z h=>by
 obtain⟨h1,h2,a,n,c,h3,h4,h5⟩:=h;exact⟨Ze z h1,Ze z h2,a,n,c,Ze z h3,h4.later z,h5⟩
theorem OutAt.kept:Hf OutAt:=λ_ _ _ _ _ z h=>by
 obtain⟨h1,a,n,c,h3,h4,h5⟩:=h;exact⟨Ze z h1,a,n,c,Ze z h3,h4.later z,h5⟩
def InsAt(w:World)(a:Option Addr)(len:Nat)(l:List InD):Prop:=RowsAt InAt 3 w a len l
def OutsAt(w:World)(a:Option Addr)(len:Nat)(l:List Zy):Prop:=RowsAt OutAt 2 w a len l
theorem InsAt.later{w w':World}{a len l}(h:InsAt w a len l)(z:ZD w w'):InsAt w' a len l:=RowsAt.later InAt.kept h z
theorem OutsAt.later{w w':World}{a len l}(h:OutsAt w a len l)(z:ZD w w'):OutsAt w' a len l:=RowsAt.later OutAt.kept h z
theorem RowsAt.take{α : Type}{R:World->Nat->Nat -> α->Prop}{sz w a len}{l:List α}(h:RowsAt R sz w a len l)(k:Nat)(hk:k<=len):RowsAt R sz w a k (l.take k):=by
 have hl:=h.1;refine⟨by rw[bP];omega,λh0=>?_⟩;obtain⟨b,off,e,z,Q⟩:=h.2 (by omega);refine⟨b,off,e,z,λi hi=>?_⟩;rw[bP] at hi;rw[List.getElem_take];exact Q i (by omega)
theorem Zf{w z w2:World}(h1:ZD w z)(h2:ZD z w2):ZD w w2:=h1.trans (h2.mono h1.size)
theorem Zh(w:World)(o:Obj):ZD w (w.alloc o):=(Below.refl _ _).alloc (aF _) _
theorem ka00(w:World)(l:List Value)(t:cR):∃ X,X=w.alloc (cZ l.toArray t)/\ZD w X/\X.heap[w.heap.size]? = some (cZ l.toArray t (0,0)):=⟨_,rfl,Zh _ _,aH _ _⟩
theorem ka01(w:World)(l:List Value)(t:cR):∃ X,X=w.alloc (cZ l.toArray t)/\ZD w X/\Hid (X.heap[w.heap.size]? = some (cZ l.toArray t (0,0))):=⟨_,rfl,Zh _ _,aH _ _⟩
theorem ka11(w:World)(l:List Value)(t:cR):∃ X,X=w.alloc (cZ l.toArray t)/\Hid (ZD w X)/\Hid (X.heap[w.heap.size]? = some (cZ l.toArray t (0,0))):=⟨_,rfl,Zh _ _,aH _ _⟩
theorem T5(n:Int)(w)(h1:0<=n)(h2:n<=1000000000) :
  Calls aB 174 #[E J n] w λe w'=>e = dA (E J 0)/\w=w':=by
 go_enter func174,ntmps174
 go_wp2_with (go_at_call 103;refine (Ws _ _ _ _ h1 h2).mono ?_;rintro e w' ⟨rfl,rfl⟩)
 go_ret;exact⟨rfl,rfl⟩
theorem Dq(n:Int)(w)(h:n<0\/1000000000<n) :
  Calls aB 174 #[E J n] w λe w'=>e = dA (E J 3)/\w=w':=by
 go_enter func174,ntmps174
 go_wp2_with (go_at_call 103;refine (Rj _ _ _ _ h).mono ?_;rintro e w' ⟨rfl,rfl⟩)
 go_ret;exact⟨rfl,rfl⟩
theorem Zdk(a len cap Z w)(h:RowAt w a len Z) :
  Calls aB 109 #[F a len cap] w λe w'=>e = dA (dB #[E J (sm 0 Z).1,E J (sm 0 Z).2])/\w=w':=by
 obtain⟨hz,hm,hc⟩:=h;unfold cW at hm
 rcases Nat.eq_zero_or_pos len with h0|h0
 ·subst h0;have HZ:Hid (Z=[]):=List.eq_nil_of_length_eq_zero hz;clear hz hc hm;go_enter func109,ntmps109;go_wp2;refine wp_loop_rounds 1 ?_;rw[bD];go_wp2;go_ret2;rw[HZ.out];exact⟨rfl,rfl⟩
 ·obtain⟨b,off,rfl,af⟩:=hc h0;have HC:Hid (∀ i,i<len->w.cell? ⟨b,off+i,none⟩=some (E J (Z.getD i 0))):=af;clear hc af;go_enter func109,ntmps109;go_wp2
  go_loop [4,10] (λs i=>∃ (k:Nat) (x:Int),k<=len/\i = E J k/\s = E J x/\0<=x/\x<=1000000000/\Hid (sm 0 Z=sm x (Z.drop k))) (λ_ i=>len - (intOf i).toNat)
  case atStart=>exact⟨0,0,aL _,rfl,rfl,by decide,by decide,by exact rfl⟩
  case round=>
   obtain⟨k,x,hk,rfl,rfl,au,av,Q⟩:=hrel;by_cases aq:k<len
   ·have an:=HC.out k aq;generalize hv:Z.getD k 0=v at an;have z:Hid (Z.getD k 0=v):=hv;clear hv;by_cases hr:v<0\/1000000000<v
    ·go_wp2_with (go_at_call 174;refine (Dq _ _ hr).mono ?_;rintro e w' ⟨rfl,rfl⟩)
     go_ret2;rw[Q.out,Zjg x Z k (by omega) (by rw[z.out];exact hr)];exact⟨rfl,rfl⟩
    ·have aa:0<=v:=(by omega);have ab:v<=1000000000:=(by omega);clear hr;by_cases hf:1000000000<x+v
     ·go_wp2_with fail;refine (T5 _ _ aa ab).mono ?_;rintro e w' ⟨rfl,rfl⟩;go_wp2_with fail;refine (Dq _ _ (.inr hf)).mono ?_;rintro e w' ⟨rfl,rfl⟩;go_wp2;go_ret2;rw[Q.out,Znp x Z k (by omega) (by rw[z.out];exact aa) (by rw[z.out];exact ab) (by rw[z.out];exact hf)];exact⟨rfl,rfl⟩
     ·have ag:x+v<=1000000000:=(by omega);have ap:0<=x+v:=(by omega);clear hf;go_wp2_with fail;refine (T5 _ _ aa ab).mono ?_;rintro e w' ⟨rfl,rfl⟩;go_wp2_with fail;refine (T5 _ _ ap ag).mono ?_;rintro e w' ⟨rfl,rfl⟩;go_wp2
      go_round
      case rel=>
       refine⟨k+1,x+v,by omega,by go_num,rfl,by omega,by omega,?_⟩;show sm 0 Z=_;rw[Q.out,Zno x Z k (by omega) (by rw[z.out];exact aa) (by rw[z.out];exact ab) (by rw[z.out];exact ag),z.out]
      case measure=>simp[intOf];omega
   ·go_wp2;go_ret2;rw[Q.out,Zqr x Z k (by omega)];exact⟨rfl,rfl⟩
theorem Je(x y:Int)(b:Bool)(w:World)(Q:((decide (1<=x) && decide (x<=120)) && (decide (0<=y) && decide (y<=5)))=b) :
  ZH 248 #[.agg #[E J x,E J y]] w (dD b):=by
 have HB:=Zd (Zh w (cZ #[E J x,E J y] 117));by_cases h1:1<=x/\x<=120
 ·have z:(decide (1<=x) && decide (x<=120))=true:=by simp[h1.1,h1.2]
  obtain⟨c,hc⟩:=ZF ((decide (0<=y) && decide (y<=5)));rw[z,hc,Bool.true_and] at Q;subst Q;have C1:Hid (∀ w,Calls aB 103 #[E J x,E J 1,E J 120] w λe w'=>e = dA (dD true)/\w=w'):=λw=>Y1 x 1 120 true w z.symm;have C2:Hid (∀ w,Calls aB 103 #[E J y,E J 0,E J 5] w λe w'=>e = dA (dD c)/\w=w'):=λw=>Y1 y 0 5 c w hc.symm;clear z hc h1;go_enter func248,ntmps248;go_wp2_with fail;refine (C1 _).mono ?_;rintro e w' ⟨rfl,rfl⟩;go_wp2_with fail;refine (C2 _).mono ?_;rintro e w' ⟨rfl,rfl⟩;go_wp2;go_ret;exact⟨rfl,Za HB⟩
 ·have z:(decide (1<=x) && decide (x<=120))=false:=by
   rw[Bool.and_eq_false_iff,decide_eq_false_iff_not,decide_eq_false_iff_not];omega
  rw[z,Bool.false_and] at Q;subst Q;have C1:Hid (∀ w,Calls aB 103 #[E J x,E J 1,E J 120] w λe w'=>e = dA (dD false)/\w=w'):=λw=>Y1 x 1 120 false w z.symm;clear z h1;go_enter func248,ntmps248;go_wp2_with fail;refine (C1 _).mono ?_;rintro e w' ⟨rfl,rfl⟩;go_wp2;go_ret;exact⟨rfl,Za HB⟩
theorem Zjl(x y Q y':Int)(a n c)(p:Nat)(b:Bool)(w:World)(h1:w.cell? ⟨p,0,none⟩=some (E J Q))(h2:w.cell? ⟨p,1,none⟩=some (E J y'))(hp:p<w.heap.size)
  (hb:(decide (x=Q) && decide (y=y'))=b) :
  ZH 256 #[.agg #[E J x,E J y,F a n c],dC (some ⟨p,0,none⟩)] w (dD b):=by
 subst hb;have z:=Zd (Zh w (cZ #[E J x,E J y,F a n c] 119));by_cases hx:x=Q
 ·subst hx;by_cases hy:y=y'
  ·subst hy;rw[decide_eq_true rfl,decide_eq_true rfl];go_enter func256,ntmps256;go_wp2;go_ret;exact⟨rfl,Za z⟩
  ·rw[decide_eq_true rfl,decide_eq_false hy];go_enter func256,ntmps256;go_wp2;go_ret;exact⟨rfl,Za z⟩
 ·rw[decide_eq_false hx,Bool.false_and];go_enter func256,ntmps256;go_wp2;go_ret;exact⟨rfl,Za z⟩
def Tq(x:InD):List InD->Nat->Int
 | [],_=>-1
 | y :: r,k=>if Ua x y then k else Tq x r (k+1)
theorem Zdw(x):∀ (l:List InD) (k:Nat),decide (0<=Tq x l k)=l.any (Ua x)
 | [],_=>rfl
 | y :: r,k=>by
  unfold Tq;by_cases h:Ua x y=true
  ·rw[if_pos h];simp[h]
  ·rw[if_neg h,Zdw x r (k+1)];simp[h]
theorem Zfu(x)(l:List InD)(k:Nat)(h:k<l.length):Tq x (l.drop k) k=if Ua x l[k] then (k:Int) else Tq x (l.drop (k+1)) (k+1):=by
 rw[aI h];rfl
theorem Fi(b off n c:Nat)(l:List InD)(x:InD)(p:Nat)(w:World)(hz:l.length=n)(hn:n<=6)(hc:∀ i (h:i<l.length),InAt w b (off+i*3) l[i])
  (h1:w.cell? ⟨p,0,none⟩=some (E J x.1)) (h2:w.cell? ⟨p,1,none⟩=some (E J x.2.1)) :
  ZH 285 #[F (some ⟨b,off,none⟩) n c,.func (.func 256) #[] #[dC (some ⟨p,0,none⟩)]] w (E J (Tq x l 0)):=by
 have HC:=Zd hc;have HZ:=Zd hz;have H1:=Zd h1;have H2:=Zd h2;clear hc hz h1 h2;go_enter func285,ntmps285;go_wp2
 go_loopw [5,8] (λ_ i wr=>∃ k:Nat,k<=n/\i = E J k/\Hid (Tq x l 0=Tq x (l.drop k) k)/\ZD w wr) (λ_ i _=>n - (intOf i).toNat)
 case atStart=>exact⟨0,aL _,rfl,rfl,Below.refl _ _⟩
 case round=>
  obtain⟨k,hk,rfl,A,z⟩:=hrel;have HB:=Zd z;by_cases ar:k<n
  ·have al:k<l.length:=(by rw[Za HZ];exact ar);have ak:=InAt.kept _ _ _ _ _ z (HC k al);have S:=Zd (Zfu x l k al);obtain⟨y,hy⟩:=ZF (l[k]);rw[hy] at ak S;obtain⟨g1,g2,ka,kn,kc,g3,_,_⟩:=ak
   have C1:Hid (∀ q,Ua x y=q->Calls aB 256 #[.agg #[E J y.1,E J y.2.1,F ka kn kc],dC (some ⟨p,0,none⟩)] wr λe w'=>e = dA (dD q)/\ZD wr w'):=
    λq hq=>Zjl y.1 y.2.1 x.1 x.2.1 ka kn kc p q wr (Ze z H1) (Ze z H2) (aE _ _ (Ze z H1)) hq
   by_cases Q:Ua x y=true
   ·have S2:Hid (Tq x l 0=k):=(by show _=_;rw[Za A,Za S,if_pos Q]);have C2:=Zd (C1 true Q);clear S A Q C1 z hy;go_wp2_with fail;refine C2.mono ?_;rintro e w' ⟨rfl,ab⟩;have ae:=Zd (Zf HB ab);clear ab;go_wp2;go_ret;exact⟨by rw[Za S2];rfl,Za ae⟩
   ·have am:Ua x y=false:=(by simpa using Q);have S2:Hid (Tq x l 0=Tq x (l.drop (k+1)) (k+1)):=(by show _=_;rw[Za A,Za S,if_neg Q]);have C2:=Zd (C1 false am);clear S A Q am C1 z hy;go_wp2_with fail;refine C2.mono ?_;rintro e w' ⟨rfl,ab⟩;have ae:=Zd (Zf HB ab);clear ab;go_wp2;go_roundw
    case rel=>exact⟨k+1,by omega,by go_num,S2,Za ae⟩
    case measure=>simp[intOf];omega
  ·have S2:Hid (Tq x l 0 = -1):=by
    show _=_;rw[Za A,bM (by rw[Za HZ];omega)];rfl
   clear A z;go_wp2;go_ret;exact⟨by rw[Za S2];rfl,Za HB⟩
theorem Fj(a c v w) :
  Calls aB 285 #[F a 0 c,v] w λe w'=>e = dA (E J (-1))/\w=w':=by
 go_enter func285,ntmps285;go_wp2;refine wp_loop_rounds 1 ?_;rw[bD];go_wp2;go_ret;exact⟨rfl,rfl⟩
theorem Cg(a)(n c:Nat)(l)(x:InD)(p:Nat)(w:World)(hn:n<=6)(h:InsAt w a n l)
  (h1:w.cell? ⟨p,0,none⟩=some (E J x.1)) (h2:w.cell? ⟨p,1,none⟩=some (E J x.2.1)) :
  ZH 285 #[F a n c,.func (.func 256) #[] #[dC (some ⟨p,0,none⟩)]] w (E J (Tq x l 0)):=by
 obtain⟨z,Q⟩:=h;by_cases h0:n=0
 ·subst h0;have e:l=[]:=aP.1 z;subst e;exact (Fj a c _ w).mono λe w' ⟨q1,q2⟩=>⟨q1,q2 ▸ Below.refl _ _⟩
 ·obtain⟨b,off,rfl,_,aa⟩:=Q (by omega);exact Fi b off n c l x p w z hn aa h1 h2
theorem Te(a)(n c:Nat)(l:List InD)(x:InD)(p:Nat)(o:Bool)(w:World)(hn:n<=6)(h:InsAt w a n l)
  (h1:w.cell? ⟨p,0,none⟩=some (E J x.1)) (h2:w.cell? ⟨p,1,none⟩=some (E J x.2.1)) (ho:l.any (Ua x)=o) :
  ZH 255 #[F a n c,.func (.func 256) #[] #[dC (some ⟨p,0,none⟩)]] w (dD o):=by
 have Q:Hid (decide (0<=Tq x l 0)=o):=by show _=_;rw[Zdw,ho]
 have C:=Cg a n c l x p w hn h h1 h2;obtain⟨ag,hz⟩:=ZF (Tq x l 0);rw[hz] at C Q;have CC:=Zd C;clear C hz h ho h1 h2;cases o with
 | true=>
  have h0:0<=ag:=of_decide_eq_true Q;go_enter func255,ntmps255;go_wp2_with fail;refine CC.mono ?_;rintro e w' ⟨rfl,z⟩;have HB:=Zd z;clear z;go_wp2;go_ret;exact⟨rfl,Za HB⟩
 | false=>
  have h2:decide (0<=ag)=false:=Za Q;have h1:ag<0:=by have:=of_decide_eq_false h2;omega
  go_enter func255,ntmps255;go_wp2_with fail;refine CC.mono ?_;rintro e w' ⟨rfl,z⟩;have HB:=Zd z;clear z;go_wp2;go_ret;exact⟨rfl,Za HB⟩
theorem Zsb{w z w2:World}(h1:ZD w z)(h2:ZD z w2):ZD w w2:=h1.trans (h2.mono h1.size)
structure FillV(B:Nat)(e:cR)(p:Nat)(f:Nat->Value)(w wr:World)(k:Nat):Prop where
 ex:∃ xs:List Value,wr.ownsRow B e 1 (F (some ⟨B,0,none⟩) p p) p xs/\∀ j,j<k->xs[j]? = some (f j)
 bel:Below B w wr
theorem FillV.lt{B:Nat}{e:cR}{p:Nat}{f:Nat->Value}{w wr:World}{k:Nat}(h:FillV B e p f w wr k):B<wr.heap.size:=by
 obtain⟨_,z,_⟩:=h.ex;exact (z.lt B rfl).2
theorem FillV.old{B:Nat}{e:cR}{p:Nat}{f:Nat->Value}{w wr:World}{k:Nat}(h:FillV B e p f w wr k)(Q:k<p):∃ v,wr.cell? ⟨B,k,none⟩=some v:=by
 obtain⟨xs,z,_⟩:=h.ex;have hl:xs.length=p:=by simpa using z.1
 exact⟨xs[k]'(by omega),by rw[z.cellAt k (by omega)];simp[hl,Q]⟩
theorem FillV.free{B:Nat}{e:cR}{p:Nat}{f:Nat->Value}{w wr:World}{k:Nat}(h:FillV B e p f w wr k)(j:Nat):wr.frozen? ⟨B,j,none⟩=false:=by
 obtain⟨xs,z,_⟩:=h.ex;exact z.frozenAt j
theorem FillV.step{B:Nat}{e:cR}{p:Nat}{f:Nat->Value}{w wr:World}{k:Nat}(h:FillV B e p f w wr k)(hk:k<p){v}(hv:v=f k):FillV B e p f w (wr.setCell ⟨B,k,none⟩ v) (k+1):=by
 obtain⟨xs,z,Q⟩:=h.ex;have hl:xs.length=p:=by simpa using z.1
 refine⟨⟨xs.set k v,(z.stored k _).1,λj hj=>?_⟩,h.bel.setCell (aF _) _⟩;by_cases e:j=k
 ·subst e;simp[hl,hk,hv]
 ·rw[List.getElem?_set_ne (by omega)];exact Q j (by omega)
theorem FillV.keep{B:Nat}{e:cR}{p:Nat}{f:Nat->Value}{w wr w':World}{k:Nat}(h:FillV B e p f w wr k)(z:ZD wr w'):FillV B e p f w w' k:=by
 obtain⟨xs,ho,hf⟩:=h.ex;refine⟨⟨xs,?_,hf⟩,h.bel.trans (z.mono (Nat.le_of_lt h.lt))⟩;obtain⟨hl,h0|⟨g,cap,ab,hv,hg,Q,r⟩⟩:=ho
 ·exact⟨hl,.inl h0⟩
 ·exact⟨hl,.inr ⟨g,cap,ab,hv,hg,(z.block g (lt_of_block Q)).trans Q,r⟩⟩
theorem FillV.cells{B:Nat}{e:cR}{p:Nat}{f:Nat->Value}{w wr:World}{k:Nat}(h:FillV B e p f w wr k)(hk:k<=p)(i:Nat)(hi:i<k):wr.cell? ⟨B,i,none⟩=some (f i):=by
 obtain⟨xs,Q,z⟩:=h.ex;rw[Q.cellAt i (by omega)];exact z i hi
theorem Qm(w:World)(x y z)(t:cR):(w.alloc (cZ #[x,y,z] t)).cell? ⟨w.heap.size,0,none⟩=some x/\(w.alloc (cZ #[x,y,z] t)).cell? ⟨w.heap.size,1,none⟩=some y/\(w.alloc (cZ #[x,y,z] t)).cell? ⟨w.heap.size,2,none⟩=some z:=
 ⟨by rw[World.cell?_alloc_at _ _ _ _ rfl];rfl,by rw[World.cell?_alloc_at _ _ _ _ rfl];rfl,by rw[World.cell?_alloc_at _ _ _ _ rfl];rfl⟩
theorem Nd(w:World)(x y)(t:cR):(w.alloc (cZ #[x,y] t)).cell? ⟨w.heap.size,0,none⟩=some x/\(w.alloc (cZ #[x,y] t)).cell? ⟨w.heap.size,1,none⟩=some y:=
 ⟨by rw[World.cell?_alloc_at _ _ _ _ rfl];rfl,by rw[World.cell?_alloc_at _ _ _ _ rfl];rfl⟩
theorem Ma(a len cap l)(x:Int)(w:World)(hx:chk l=x)(h:OpsAt w a len l) :
  ZH 249 #[F a len cap] w (E J x):=by
 subst hx;exact Uo a len cap l w h
theorem M8(b off n c:Nat)(L:List InD)(w:World)(hn:n<=6)(bz:n<=c)(hz:L.length=n)(bu:b<w.heap.size)(hc:∀ i (h:i<L.length),InAt w b (off+i*3) L[i]) :
  ZH 209 #[F (some ⟨b,off,none⟩) n c] w (E J (Ya [] L)):=by
 have HC:=Zd hc;have HZ:=Zd hz;clear hc hz;go_enter func209,ntmps209;go_wp2
 go_loopw [8] (λi wr=>∃ k:Nat,k<=n/\i = E J k/\Hid (Ya [] L=Ya (L.take k) (L.drop k))/\ZD w wr) (λi _=>n - (intOf i).toNat)
 case atStart=>exact⟨0,aL _,rfl,rfl,Below.refl _ _⟩
 case round=>
  obtain⟨k,hk,rfl,A,hb⟩:=hrel;have HB:=Zd hb;by_cases bv:k<n
  ·have be:k<L.length:=(by rw[Za HZ];exact bv);have bk:=InAt.kept _ _ _ _ _ hb (HC k be)
   have IA:Hid (InsAt wr (some ⟨b,off,none⟩) k (L.take k)):=by
    have h0:InsAt wr (some ⟨b,off,none⟩) n L:=⟨Za HZ,λ_=>⟨b,off,rfl,aD bu hb.size,λi hi=>InAt.kept _ _ _ _ _ hb (HC i hi)⟩⟩;exact RowsAt.take h0 k hk
   have ST:=Zd (Er L k be);have SS:=Zd (Es L k be);obtain⟨x,hx⟩:=ZF (L[k]);rw[hx] at bk ST SS;obtain⟨x1,x2,key⟩:=x;obtain⟨g1,g2,ka,kn,kc,g3,g4,_⟩:=bk;simp only at g1 g2 g3 g4;have bd:=Zh wr (cZ #[E J x1,E J x2,F ka kn kc] 119);obtain⟨n1,n2,n3⟩:=Qm wr (E J x1) (E J x2) (F ka kn kc) 119;have ap:=Zd bd;have KO:=Zd (g4.later bd);have N1:=Zd n1;have N2:=Zd n2;have N3:=Zd n3;clear hb hx g4 bd n1 n2 n3;cases hp:Tp (x1,x2,key) with
   | false=>
    have C1:=Zd (Je x1 x2 false _ hp:Calls aB 248 _ (wr.alloc (cZ #[E J x1,E J x2,F ka kn kc] 119)) _)
    have R:Hid (Ya [] L=3):=by
     have e:=Zic (pre:=L.take k) hp;show _=_;rw[Za A,(Za ST) (by rw[e];decide),e]
    clear A ST SS hp IA;go_wp2_with fail;refine C1.mono ?_;rintro e w2 ⟨rfl,z⟩;have aa:=Zd (Zf (Zf HB ap) z);clear z;go_wp2;go_ret;exact⟨by rw[Za R];rfl,Za aa⟩
   | true=>
    have C1:=Zd (Je x1 x2 true _ hp:Calls aB 248 _ (wr.alloc (cZ #[E J x1,E J x2,F ka kn kc] 119)) _);have HP:=Zd hp;clear hp;by_cases ab:chk key=0
    ·cases ht:(L.take k).any (Ua (x1,x2,key)) with
     | true=>
      have R:Hid (Ya [] L=6):=by
       have e:=F6 (pre:=L.take k) HP ab ht;show _=_;rw[Za A,(Za ST) (by rw[e];decide),e]
      have HT:=Zd ht;have HK:=Zd ab;clear A ST SS ht ab;go_wp2_with fail;refine C1.mono ?_;rintro e w2 ⟨rfl,z⟩;have m3:=Ze z N3;have aa:=Zd z;have al:=Zd (Zf ap z);have bo:wr.heap.size<w2.heap.size:=aE _ _ m3;clear z;go_wp2_with fail;refine (Ma ka kn kc key 0 _ HK (KO.later aa)).mono ?_;rintro e w3 ⟨rfl,Q⟩;have af:=Zd (Zf al Q);have CT:=Zd (Te (some ⟨b,off,none⟩) k c (L.take k) (x1,x2,key) wr.heap.size true w3 (by omega) (IA.later af) (Ze Q (Ze aa N1)) (Ze Q (Ze aa N2)) HT);clear Q m3;go_wp2_with fail;refine CT.mono ?_;rintro e w4 ⟨rfl,an⟩;have au:=Zd (Zf (Zf HB af) an);clear an;go_wp2;go_ret;exact⟨by rw[Za R];rfl,Za au⟩
     | false=>
      have R:Hid (Ya [] L=Ya (L.take (k+1)) (L.drop (k+1))):=by
       have e:=Zid (pre:=L.take k) HP ab ht;show _=_;rw[Za A,(Za SS) e]
      have HT:=Zd ht;have HK:=Zd ab;clear A ST SS ht ab;go_wp2_with fail;refine C1.mono ?_;rintro e w2 ⟨rfl,z⟩;have m3:=Ze z N3;have aa:=Zd z;have al:=Zd (Zf ap z);have bo:wr.heap.size<w2.heap.size:=aE _ _ m3;clear z;go_wp2_with fail;refine (Ma ka kn kc key 0 _ HK (KO.later aa)).mono ?_;rintro e w3 ⟨rfl,Q⟩;have af:=Zd (Zf al Q);have CT:=Zd (Te (some ⟨b,off,none⟩) k c (L.take k) (x1,x2,key) wr.heap.size false w3 (by omega) (IA.later af) (Ze Q (Ze aa N1)) (Ze Q (Ze aa N2)) HT);clear Q m3;go_wp2_with fail;refine CT.mono ?_;rintro e w4 ⟨rfl,an⟩;have au:=Zd (Zf (Zf HB af) an);clear an;go_wp2;go_roundw
      case rel=>exact⟨k+1,by omega,by go_num,R,Za au⟩
      case measure=>simp[intOf];omega
    ·obtain⟨cb,hz⟩:=ZF (chk key)
     have R:Hid (Ya [] L=cb):=by
      have e:=Zcp (pre:=L.take k) HP ab;show _=_;rw[Za A,(Za ST) (by rw[e];exact ab),e];exact hz
     have HK:=Zd hz;rw[hz] at ab;have gz:(cb != 0)=true:=(by simp[ab]);clear A ST SS hz ab IA;go_wp2_with fail;refine C1.mono ?_;rintro e w2 ⟨rfl,z⟩;have m3:=Ze z N3;have aa:=Zd z;have al:=Zd (Zf ap z);have bo:wr.heap.size<w2.heap.size:=aE _ _ m3;clear z;go_wp2_with fail;refine (Ma ka kn kc key cb _ HK (KO.later aa)).mono ?_;rintro e w3 ⟨rfl,Q⟩;have af:=Zd (Zf (Zf HB al) Q);clear Q m3;go_wp2;go_ret;exact⟨by rw[Za R];rfl,Za af⟩
  ·have R:Hid (Ya [] L=0):=(by show _=_;rw[Za A,Zco L k (by rw[Za HZ];omega)]);clear A hb;go_wp2;go_ret;exact⟨by rw[Za R];rfl,Za HB⟩
theorem M9(a c w) :
  Calls aB 209 #[F a 0 c] w λe w'=>e = dA (E J 0)/\w=w':=by
 go_enter func209,ntmps209;go_wp2;refine wp_loop_rounds 1 ?_;rw[bD];go_wp2;go_ret;exact⟨rfl,rfl⟩
theorem Hb(a)(n c:Nat)(L)(x:Int)(w:World)(hn:n<=6)(hs:SlOk a n c)(h:InsAt w a n L)(hx:Ya [] L=x) :
  ZH 209 #[F a n c] w (E J x):=by
 subst hx;obtain⟨z,Q⟩:=h;by_cases h0:n=0
 ·subst h0;have e:L=[]:=aP.1 z;subst e;exact (M9 a c w).mono λe w' ⟨q1,q2⟩=>⟨q1,q2 ▸ Below.refl _ _⟩
 ·obtain⟨b,off,rfl,hl,aa⟩:=Q (by omega);exact M8 b off n c L w hn hs.1 z hl aa
theorem Tryz.infoInt:(Tryz.prog.info? 3).map (λi=>(i.zero,i.size,i.bytes))=some (some (E J 0),1,8):=by kernel_rfl
def Zei(L:List Zy)(j:Nat):Value:=E J ((L.map (·.1)).getD j 0)
theorem Zcn{x:Zy}(h:x.1<1):Xa x=3:=by unfold Xa;rw[if_pos h]
theorem Mb{x:Zy}(h:¬x.1<1):Xa x=chk x.2:=by unfold Xa;rw[if_neg h]
theorem Mh(b off n c:Nat)(L:List Zy)(w:World)(hn:n<=6)(bf:0<n)(Q:L.length=n)(hc:∀ i (h:i<L.length),OutAt w b (off+i*2) L[i]) :
  ZH 210 #[F (some ⟨b,off,none⟩) n c] w (E J (Yq L)):=by
 obtain⟨i0,hi,cb,cc,cd⟩:=info_parts Tryz.infoInt;have HC:=Zd hc;have HZ:=Zd Q;have HP:=Zd bf;clear hc Q bf;go_enter func210,ntmps210
 go_wp2_with (at_make;refine wpList_make_full _ rfl _ _ 25 rfl w.heap.size 3 i0 (E J 0) 1 underlying25 hi cb cc .i64 .i64 _ _ n rfl rfl rfl rfl (by rw[cd];omega) (by unfold cW;omega) (aF _) ?_;intro w2 be bb)
 have bi:FillV w.heap.size 3 n (Zei L) w w2 0:=⟨⟨_,be,λj hj=>absurd hj (by omega)⟩,(Below.refl _ _).grown bb (aF _) (λk h=>by cases h)⟩;have bu:=Zd bi;clear bi be bb
 go_loopw [14] (λi wr=>∃ k:Nat,k<=n/\i = E J k/\Hid (Yi L=Yi (L.drop k))/\FillV w.heap.size 3 n (Zei L) w wr k) (λi _=>n - (intOf i).toNat)
 case atStart=>exact⟨0,aL _,rfl,rfl,Za bu⟩
 case round=>
  obtain⟨k,hk,rfl,A,ae⟩:=hrel;have HF:=Zd ae;have hb:ZD w wr:=ae.bel;have HB:=Zd hb;by_cases aj:k<n
  ·have ah:k<L.length:=(by rw[Za HZ];exact aj);have bd:=OutAt.kept _ _ _ _ _ hb (HC k ah);have ST:=Zd (F3 L k ah);have SS:=Zd (F4 L k ah);have av:Zei L k = E J (L[k]).1:=(by unfold Zei;simp[ah]);obtain⟨x,hx⟩:=ZF (L[k]);rw[hx] at bd ST SS av;have br:=Zd av;obtain⟨x1,key⟩:=x;obtain⟨g1,ka,kn,kc,g3,g4,_⟩:=bd;simp only at g1 g3 g4;have au:=Zh wr (cZ #[E J x1,F ka kn kc] 122);obtain⟨n1,n2⟩:=Nd wr (E J x1) (F ka kn kc) 122;have am:=Zd au;have KO:=Zd (g4.later au);have N1:=Zd n1;have N2:=Zd n2;clear hb hx g4 au n1 n2 ae av;by_cases aw:x1<1
   ·have R:Hid (Yq L=3):=by
     have e:Xa (x1,key)=3:=Zcn aw;have e2:Yi L=3:=(by rw[Za A,(Za ST) (by rw[e];decide),e]);show _=_;unfold Yq;rw[e2];rfl
    have bk:=Zd (Zf HB am);clear A ST SS;go_wp2;go_ret;exact⟨by rw[Za R];rfl,Za bk⟩
   ·by_cases z:chk key=0
    ·have R:Hid (Yi L=Yi (L.drop (k+1))):=by
      have e:Xa (x1,key)=0:=(by rw[Mb aw];exact z);show _=_;rw[Za A,(Za SS) e]
     have HK:=Zd z;clear A ST SS z;go_wp2_with fail;refine (Ma ka kn kc key 0 _ HK KO).mono ?_;rintro e w3 ⟨rfl,ab⟩;have m1:=Ze ab N1;have ag:=(HF.keep am).keep ab;obtain⟨v,cn⟩:=ag.old aj;have cl:=ag.free k;have bt:=Zd ag;have cp:wr.heap.size<w3.heap.size:=aE _ _ m1;clear ab ag;go_wp2;go_roundw
     case rel=>exact⟨k+1,by omega,by go_num,R,bt.step aj br.symm⟩
     case measure=>simp[intOf];omega
    ·obtain⟨cu,Q⟩:=ZF (chk key)
     have R:Hid (Yq L=cu):=by
      have e:Xa (x1,key)=chk key:=Mb aw;have e2:Yi L=cu:=(by rw[Za A,(Za ST) (by rw[e];exact z),e];exact Q);show _=_;unfold Yq;rw[e2,if_neg (by rw[<-Q];exact z)]
     have HK:=Zd Q;rw[Q] at z;have gz:(cu != 0)=true:=(by simp[z]);clear A ST SS Q z;go_wp2_with fail;refine (Ma ka kn kc key cu _ HK KO).mono ?_;rintro e w3 ⟨rfl,ab⟩;have bo:=Zd (Zf (Zf HB am) ab);clear ab;go_wp2;go_ret;exact⟨by rw[Za R];rfl,Za bo⟩
  ·have e:k=n:=(by omega);subst e
   have R:Hid (Yq L=(sm 0 (L.map (·.1))).2):=by
    show _=_;unfold Yq;rw[Za A,Ep L k (by rw[Za HZ];exact aF _)];rfl
   have bg:RowAt wr (some ⟨w.heap.size,0,none⟩) k (L.map (·.1)):=by
    refine⟨by rw[List.length_map];exact Za HZ,by unfold cW;omega,λ_=>⟨w.heap.size,0,rfl,λi hi=>?_⟩⟩;rw[Nat.zero_add,ae.cells (aF _) i hi];rfl
   have SM:=Zd (Zdk (some ⟨w.heap.size,0,none⟩) k k (L.map (·.1)) wr bg);obtain⟨s,hs⟩:=ZF (sm 0 (L.map (·.1)));rw[hs] at SM R;obtain⟨s1,s2⟩:=s;clear A hb ae bg hs aj hk;go_wp2_with fail;refine SM.mono ?_;rintro e w' ⟨rfl,rfl⟩;go_wp2;go_ret;exact⟨by rw[Za R];rfl,Za HB⟩
theorem F7(a)(n c:Nat)(L)(x:Int)(w:World)(hn:n<=6)(z:0<n)(h:OutsAt w a n L)(hx:Yq L=x) :
  ZH 210 #[F a n c] w (E J x):=by
 subst hx;obtain⟨hz,Q⟩:=h;obtain⟨b,off,rfl,_,aa⟩:=Q z;exact Mh b off n c L w hn z hz aa
theorem Ta(h:Int)(ai ao)(ni ci no co:Nat)(o:Bool)(w:World)(z:(if ni=0 then decide (1<=h) && decide (h<=1000) else decide (h=0))=o) :
  ZH 208 #[.agg #[E J h,F ai ni ci,F ao no co]] w (dD o):=by
 have HB:=Zd (Zh w (cZ #[E J h,F ai ni ci,F ao no co] 59));by_cases h0:ni=0
 ·subst h0;rw[if_pos rfl] at z;have C:Hid (∀ w,Calls aB 103 #[E J h,E J 1,E J 1000] w λe w'=>e = dA (dD o)/\w=w'):=λw=>Y1 h 1 1000 o w z.symm;clear z;go_enter func208,ntmps208;go_wp2_with fail;refine (C _).mono ?_;rintro e w' ⟨rfl,rfl⟩;go_wp2;go_ret;exact⟨rfl,Za HB⟩
 ·rw[if_neg h0] at z;have g:((ni:Int) == 0)=false:=by simp;omega
  by_cases Q:h=0
  ·rw[decide_eq_true Q] at z;subst z Q;go_enter func208,ntmps208;go_wp2;go_ret;exact⟨rfl,Za HB⟩
  ·rw[decide_eq_false Q] at z;subst z;have g2:(h == 0)=false:=(by simp[Q]);go_enter func208,ntmps208;go_wp2;go_ret;exact⟨rfl,Za HB⟩
theorem Zeg(h:Int)(I:List InD)(O)(ni:Nat)(z:I.length=ni):Fo (h,I,O)=if ni=0 then decide (1<=h) && decide (h<=1000) else decide (h=0):=by
 unfold Fo;simp only[z]
theorem Vw(h:Int)(ai ao ni ci no co I O)(w:World)(hI:InsAt w ai ni I)(hO:OutsAt w ao no O)(sI:SlOk ai ni ci) :
  ZH 152 #[.agg #[E J h,F ai ni ci,F ao no co]] w (E J (Zu (h,I,O))):=by
 have hb:=Zh w (cZ #[E J h,F ai ni ci,F ao no co] 59);obtain⟨n0,n1,n2⟩:=Qm w (E J h) (F ai ni ci) (F ao no co) 59;have HB:=Zd hb;have N0:=Zd n0;have N1:=Zd n1;have N2:=Zd n2;have HI:=Zd (hI.later hb);have HO:=Zd (hO.later hb);have HS:=Zd sI;have zi:=hI.1;have zo:=hO.1;clear hb n0 n1 n2 hI hO sI;by_cases h1:6<ni
 ·have e:Zu (h,I,O)=2:=by unfold Zu;rw[if_pos (Or.inl (by show 6<I.length;omega))]
  rw[e];have g:(6:Int)<(ni:Int):=by omega
  clear e h1 zi zo;go_enter func152,ntmps152;go_wp2;go_ret;exact⟨rfl,Za HB⟩
 ·by_cases h2:6<no
  ·have e:Zu (h,I,O)=2:=(by unfold Zu;rw[if_pos (Or.inr (by show 6<O.length;omega))]);rw[e];have g:¬(6:Int)<(ni:Int):=(by omega);have g':(6:Int)<(no:Int):=(by omega);clear e h1 h2 zi zo;go_enter func152,ntmps152;go_wp2;go_ret;exact⟨rfl,Za HB⟩
  ·have g:¬(6:Int)<(ni:Int):=(by omega);have g':¬(6:Int)<(no:Int):=(by omega);have Q:¬(6<I.length\/6<O.length):=(by omega);by_cases h3:no=0
   ·have e:Zu (h,I,O)=4:=(by unfold Zu;rw[if_neg Q,if_pos (by show O.length=0;omega)]);rw[e];subst h3;clear e Q h1 h2 zi zo;go_enter func152,ntmps152;go_wp2;go_ret;exact⟨rfl,Za HB⟩
   ·have g3:((no:Int) == 0)=false:=(by simp;omega);have e3:¬O.length=0:=(by omega);cases hf:Fo (h,I,O) with
    | false=>
     have e:Zu (h,I,O)=3:=(by unfold Zu;rw[if_neg Q,if_neg e3,if_pos hf]);rw[e];have C:=Zd (Ta h ai ao ni ci no co false (w.alloc (cZ #[E J h,F ai ni ci,F ao no co] 59)) (by rw[<-Zeg h I O ni zi];exact hf));clear e Q e3 h1 h2 h3 zi zo hf;go_enter func152,ntmps152;go_wp2_with fail;refine C.mono ?_;rintro e w2 ⟨rfl,z⟩;have ae:=Zd (Zf HB z);clear z;go_wp2;go_ret;exact⟨rfl,Za ae⟩
    | true=>
     have C:=Zd (Ta h ai ao ni ci no co true (w.alloc (cZ #[E J h,F ai ni ci,F ao no co] 59)) (by rw[<-Zeg h I O ni zi];exact hf));have e4:¬Fo (h,I,O)=false:=(by rw[hf];decide);by_cases h5:Ya [] I=0
     ·obtain⟨bt,hz⟩:=ZF (Yq O)
      have e:Zu (h,I,O)=bt:=by
       unfold Zu;rw[if_neg Q,if_neg e3,if_neg e4,if_neg (by intro q;exact q h5)];exact hz
      rw[e];have H5:=Zd h5;have HZ:=Zd hz;have am:Hid (ni<=6):=(by show _<=_;omega);have au:Hid (no<=6/\0<no):=⟨by omega,by omega⟩;clear e Q e3 e4 h1 h2 h3 zi zo hf h5 hz;go_enter func152,ntmps152;go_wp2_with fail;refine C.mono ?_;rintro e w2 ⟨rfl,z⟩;have m1:=Ze z N1;have M2:=Zd (Ze z N2);have az:w.heap.size<w2.heap.size:=aE _ _ m1;have CI:=Zd (Hb ai ni ci I 0 w2 am HS (HI.later z) H5);have ae:=Zd z;clear z;go_wp2_with fail;refine CI.mono ?_;rintro e w3 ⟨rfl,ac⟩;have m2:=Ze ac M2;have bs:w.heap.size<w3.heap.size:=aE _ _ m2;have CO:=Zd (F7 ao no co O bt w3 au.1 au.2 ((HO.later ae).later ac) HZ);have an:=Zd (Zf (Zf HB ae) ac);clear ac m1 az;go_wp2_with fail;refine CO.mono ?_;rintro e w4 ⟨rfl,ay⟩;have bg:=Zd (Zf an ay);clear ay;go_wp2;go_ret;exact⟨rfl,Za bg⟩
     ·obtain⟨bt,hz⟩:=ZF (Ya [] I)
      have e:Zu (h,I,O)=bt:=by
       unfold Zu;rw[if_neg Q,if_neg e3,if_neg e4,if_pos h5];exact hz
      rw[e];have HZ:=Zd hz;rw[hz] at h5;have gz:(bt != 0)=true:=(by simp[h5]);have am:Hid (ni<=6):=(by show _<=_;omega);clear e Q e3 e4 h1 h2 h3 zi zo hf h5 hz;go_enter func152,ntmps152;go_wp2_with fail;refine C.mono ?_;rintro e w2 ⟨rfl,z⟩;have m1:=Ze z N1;have az:w.heap.size<w2.heap.size:=aE _ _ m1;have CI:=Zd (Hb ai ni ci I bt w2 am HS (HI.later z) HZ);have ae:=Zd z;clear z;go_wp2_with fail;refine CI.mono ?_;rintro e w3 ⟨rfl,ac⟩;have an:=Zd (Zf (Zf HB ae) ac);clear ac;go_wp2;go_ret;exact⟨rfl,Za an⟩
