import Derived.Test.YtbddijbmepdliaaGreatDoorH
import Derived.Test.YtbddijbmepdliaaGreatDoorRows
import Derived.BigQuiet
import Derived.WalkLawsBesides
import Derived.Deep.RegionHeld3
import Derived.Laws.CopyOwn
import Derived.Lib.AppendZerosOnto
import Derived.Lib.Overlaps
open Option renaming none->aD,some->dG
open Go.Proofs.Tryz
open Bool renaming not_eq_true->cI,and_eq_true->aX
open Go renaming wp_loop_rounds->bB,rounds_succ->aS,maxLen->aT,TypeId->aY,heap_alloc_new->aG,lt_of_block->aA,info_parts->bX
open Go.Addr renaming add_lit->cW
open Go.Ending renaming returned->dB
open Go.IntKind renaming wrap_i64->aP,i64->J
open Go.Obj renaming cells->dA
open Go.Proofs.Tryz renaming prog->aB,underlying64->cH
open Go.Region renaming wanted->cL
open Go.Value renaming int->E,slice->F,tuple->dC,pointer->dE,bool->dF
open Go.World renaming block_lt_of_cell?->aC,cell?_alloc_at->bG,cell?->bF
open List renaming getD_eq_getElem?_getD->cM,getElem?_eq_getElem->bR,getElem_mem->aQ,take_succ_eq_append_getElem->aH,length_take->aV,length_append->bL,length_cons->cK,drop_eq_getElem_cons->aK,drop_of_length_le->bA,length_eq_zero_iff->aJ,length_map->cO,mem_cons->aW,mem_cons_self->cN,map_append->bN,mem_append->bM,take_append_of_le_length->cV,take_of_length_le->aM,getElem?_eq_some_iff->cD
open Nat renaming le_refl->aE,zero_le->aI,lt_of_lt_of_le->aF,le_trans->aO,zero_add->bO
open Option.some renaming injEq->aZ
set_option maxHeartbeats 6400000
set_option maxRecDepth 10000
namespace Go.Proofs.YtbddijbmepdliaaGreatDoor
open Go.RowKit
def fit(n:Int):Bool:=decide (-1000000<=n) && decide (n<=1000000)
theorem Xt(n:Int):fit n=true↔-1000000<=n/\n<=1000000:=by simp[fit]
theorem Kr(n:Int):fit n=false↔n < -1000000\/1000000<n:=by
 rw[<-cI,Xt];omega
def b01(b:Bool):Int:=if b then 1 else 0
def Hz(a:Int):Nat->Int
 | 0=>a+1000000
 | k+1=>(7919*Hz a k+104729) % 1000003
theorem Zfe(a:Int)(h:fit a=true):∀ k,0<=Hz a k/\Hz a k<=2000000
 | 0=>by have:=(Xt a).1 h;simp only[Hz];omega
 | k+1=>by simp only[Hz];omega
def Ez(a:Int):Int:=Hz a 3 % 1000001
def g2(k:Int)(a b:Int):Int:=
 if k=5 then a+b else if k=6 then a - b else if k=7 then b01 (a == b) else if k=8 then b01 (decide (a<b)) else b01 (a != 0 && b != 0)
def g1(k:Int)(a:Int):Int:=if k=9 then b01 (a == 0) else Ez a
def Qt(L:List Int)(x:Int):Option (List Int):=if L.length=16\/fit x=false then aD else dG (L++[x])
def Xe(L:List Int):Option (List Int):=if L.length=0 then aD else dG L.dropLast
def Jc(L:List Int):Int:=L.getLastD 0
def Ym(h:Int)(k n:Int)(L:List Int):Option (List Int):=
 if k=1 then Qt L n
 else if k=2 then (Xe L).bind λM=>(Qt M (Jc L)).bind λM=>Qt M (Jc L)
 else if k=3 then (Xe L).bind λM=>(Xe M).bind λN=>(Qt N (Jc L)).bind λQ=>Qt Q (Jc M)
 else if k=4 then Xe L
 else if k=9\/k=13 then (Xe L).bind λM=>Qt M (g1 k (Jc L))
 else if k=11 then (Xe L).bind λM=>if Jc L=0 then aD else dG M
 else if k=12 then Qt L h
 else (Xe L).bind λM=>(Xe M).bind λN=>Qt N (g2 k (Jc M) (Jc L))
def Y9(h:Int):List (Int×Int)->List Int->Option (List Int)
 | [],L=>dG L
 | o :: r,L=>(Ym h o.1 o.2 L).bind (Y9 h r)
theorem Uj(h:Int):∀ (l m:List (Int×Int)) (L:List Int),Y9 h (l++m) L=(Y9 h l L).bind (Y9 h m)
 | [],m,L=>by simp[Y9]
 | o :: r,m,L=>by
  simp only[List.cons_append,Y9];cases Ym h o.1 o.2 L with
  | none=>rfl
  | some M=>simp only[Option.bind];exact Uj h r m M
structure MS where
 cs:List Int
 n:Nat
 h:Int
 f:Bool
def MS.ok(s:MS):Prop:=s.cs.length=16/\s.n<=16/\∀ x∈s.cs,fit x=true
def MS.rep(s:MS):Option (List Int):=if s.f then aD else dG (s.cs.take s.n)
def MS.put(s:MS)(x:Int):MS:=if s.n=16\/fit x=false then { s with f:=true } else { s with cs:=s.cs.set s.n x,n:=s.n+1 }
def MS.top(s:MS):Int:=if s.n=0 then 0 else s.cs.getD (s.n - 1) 0
def MS.take(s:MS):MS:=if s.n=0 then { s with f:=true } else { s with n:=s.n - 1 }
def MS.fail(s:MS):MS:={ s with f:=true }
def MS.step(s:MS)(k n:Int):MS:=
 if k=1 then s.put n
 else if k=2 then (s.take.put s.top).put s.top
 else if k=3 then (s.take.take.put s.top).put s.take.top
 else if k=4 then s.take
 else if k=9\/k=13 then s.take.put (g1 k s.top)
 else if k=11 then (if s.top=0 then s.take.fail else s.take)
 else if k=12 then s.put s.h
 else s.take.take.put (g2 k s.take.top s.top)
theorem MS.put_h(s:MS)(x:Int):(s.put x).h=s.h:=by unfold MS.put;split <;> rfl
theorem MS.take_h(s:MS):s.take.h=s.h:=by unfold MS.take;split <;> rfl
theorem MS.fail_h(s:MS):s.fail.h=s.h:=rfl
theorem MS.step_h(s:MS)(k n:Int):(s.step k n).h=s.h:=by
 unfold MS.step;repeat' split
 all_goals simp only[MS.put_h,MS.take_h,MS.fail_h]
theorem MS.ok.put_ok{s:MS}(hs:s.ok)(x:Int):(s.put x).ok:=by
 have⟨h1,h2,h3⟩:=hs;unfold MS.put;split
 ·exact⟨h1,h2,h3⟩
 ·rename_i h;simp only[not_or,Bool.not_eq_false] at h;refine⟨by simpa using h1,by show s.n+1<=16;omega,λy hy=>?_⟩
  rcases List.mem_or_eq_of_mem_set hy with hy|rfl
  ·exact h3 y hy
  ·exact h.2
theorem MS.ok.take_ok{s:MS}(hs:s.ok):s.take.ok:=by
 have⟨h1,h2,h3⟩:=hs;unfold MS.take;split
 ·exact⟨h1,h2,h3⟩
 ·exact⟨h1,by show s.n - 1<=16;omega,h3⟩
theorem MS.ok.fail_ok{s:MS}(hs:s.ok):s.fail.ok:=hs
theorem MS.ok.top_fit{s:MS}(hs:s.ok):fit s.top=true:=by
 have⟨h1,h2,h3⟩:=hs;unfold MS.top;split
 ·decide
 ·rename_i h;have hl:s.n - 1<s.cs.length:=by omega
  rw[cM,bR hl,Option.getD_some];exact h3 _ (aQ hl)
theorem MS.rep_put{s:MS}(hs:s.ok)(x:Int):(s.put x).rep=s.rep.bind (Qt · x):=by
 have⟨h1,h2,_⟩:=hs;unfold MS.rep;cases hf:s.f with
 | true=>
  have:(s.put x).f=true:=by unfold MS.put;split <;> simp[hf]
  rw[this];rfl
 | false=>
  simp only[Bool.false_eq_true,if_false,Option.bind_some];have aa:(s.cs.take s.n).length=s.n:=by simp;omega
  unfold MS.put Qt;rw[aa];split
  ·rfl
  ·rename_i h;simp only[not_or,Bool.not_eq_false] at h;simp only[hf,Bool.false_eq_true,if_false];have hn:s.n<s.cs.length:=(by omega);rw[aH (by simpa using hn)];simp[List.take_set_of_le]
theorem MS.rep_take{s:MS}(hs:s.ok):s.take.rep=s.rep.bind Xe:=by
 have⟨h1,h2,_⟩:=hs;unfold MS.rep;cases hf:s.f with
 | true=>
  have:s.take.f=true:=by unfold MS.take;split <;> simp[hf]
  rw[this];rfl
 | false=>
  simp only[Bool.false_eq_true,if_false,Option.bind_some];have aa:(s.cs.take s.n).length=s.n:=by simp;omega
  unfold MS.take Xe;rw[aa];split
  ·rfl
  ·simp only[hf,Bool.false_eq_true,if_false];show dG (s.cs.take (s.n - 1))=_;rw[List.dropLast_eq_take,List.take_take,aa]
   congr 2
   omega
theorem MS.rep_top{s:MS}(hs:s.ok){L}(h:s.rep=dG L):s.top=Jc L:=by
 have⟨h1,h2,_⟩:=hs;unfold MS.rep at h;split at h
 ·cases h
 ·simp only[aZ] at h;subst h;unfold MS.top Jc;split
  ·rename_i e;rw[e];rfl
  ·have hl:s.n - 1<s.cs.length:=(by omega);rw[List.getLastD_eq_getLast?,List.getLast?_eq_getElem?,aV,cM];have e:min s.n s.cs.length - 1=s.n - 1:=(by omega);rw[e,List.getElem?_take_of_lt (by omega)]
theorem MS.rep_none_take{s:MS}(hs:s.ok)(h:s.rep=aD):s.take.rep=aD:=by rw[MS.rep_take hs,h];rfl
theorem MS.rep_none_put{s:MS}(hs:s.ok)(h:s.rep=aD)(x:Int):(s.put x).rep=aD:=by rw[MS.rep_put hs,h];rfl
theorem MS.rep_step{s:MS}(hs:s.ok)(k n:Int):(s.step k n).rep=s.rep.bind (Ym s.h k n):=by
 have ht:=hs.take_ok;have ae:=ht.take_ok;cases hr:s.rep with
 | none=>
  have h1:=MS.rep_none_take hs hr;have h2:=MS.rep_none_take ht h1;show _=aD;unfold MS.step;split
  ·exact MS.rep_none_put hs hr _
  split
  ·exact MS.rep_none_put (ht.put_ok _) (MS.rep_none_put ht h1 _) _
  split
  ·exact MS.rep_none_put (ae.put_ok _) (MS.rep_none_put ae h2 _) _
  split
  ·exact h1
  split
  ·exact MS.rep_none_put ht h1 _
  split
  ·split
   ·rfl
   ·exact h1
  split
  ·exact MS.rep_none_put hs hr _
  ·exact MS.rep_none_put ae h2 _
 | some L=>
  have e0:=MS.rep_top hs hr;have e1:s.take.rep=Xe L:=by rw[MS.rep_take hs,hr];rfl
  have e2:s.take.take.rep=(Xe L).bind Xe:=by rw[MS.rep_take ht,e1]
  have e3:∀ M,Xe L=dG M->s.take.top=Jc M:=λM hM=>MS.rep_top ht (e1.trans hM);show _=Ym s.h k n L;unfold MS.step Ym;split
  ·rw[MS.rep_put hs,hr];rfl
  split
  ·rw[MS.rep_put (ht.put_ok _),MS.rep_put ht,e1,e0];cases Xe L with
   | none=>rfl
   | some M=>rfl
  split
  ·rw[MS.rep_put (ae.put_ok _),MS.rep_put ae,e2,e0];cases hM:Xe L with
   | none=>rfl
   | some M=>
    rw[e3 M hM];show ((Xe M).bind (Qt · (Jc L))).bind _=(Xe M).bind _;cases Xe M <;> rfl
  split
  ·exact e1
  split
  ·rw[MS.rep_put ht,e1,e0]
  split
  ·rw[e0];cases hM:Xe L with
   | none=>
    show _=aD;split
    ·rfl
    ·rw[e1,hM]
   | some M=>
    show _=(if Jc L=0 then aD else dG M);split
    ·rfl
    ·rw[e1,hM]
  split
  ·rw[MS.rep_put hs,hr];rfl
  ·rw[MS.rep_put ae,e2,e0];cases hM:Xe L with
   | none=>rfl
   | some M=>
    rw[e3 M hM];show ((Xe M).bind _)=(Xe M).bind _;rfl
def Ye(Z:List Int):Bool:=decide (Z.length<=16) && Z.all fit
def Yf:List Int->List Int->Option (List Int)
 | L,[]=>dG L
 | L,x :: r=>(Qt L x).bind λM=>Yf M r
theorem Ls:∀ (Z L:List Int) (x:Int),Yf L (Z++[x])=(Yf L Z).bind (Qt · x)
 | [],L,x=>by simp[Yf]
 | y :: r,L,x=>by
  simp only[List.cons_append,Yf];cases Qt L y with
  | none=>rfl
  | some M=>exact Ls r M x
theorem Cw:∀ (Z L:List Int),L.length<=16->Yf L Z=if decide ((L++Z).length<=16) && Z.all fit then dG (L++Z) else aD
 | [],L,h=>by simp[Yf,h]
 | x :: r,L,h=>by
  simp only[Yf,Qt];by_cases h1:L.length=16
  ·rw[if_pos (Or.inl h1),if_neg];rfl;simp only[bL,cK,aX,decide_eq_true_eq];omega
  ·by_cases h2:fit x=false
   ·rw[if_pos (Or.inr h2),if_neg];rfl;simp[h2]
   ·rw[if_neg (by simp[h1];simpa using h2)];show Yf (L++[x]) r=_;rw[Cw r (L++[x]) (by simp;omega)];have h3:fit x=true:=(by simpa using h2);simp[h3]
theorem Zgz(Z):Yf [] Z=if Ye Z then dG Z else aD:=by
 rw[Cw Z [] (by simp)];rfl
theorem Qr{L M}{x:Int}(hL:Ye L=true)(h:Qt L x=dG M):Ye M=true:=by
 unfold Qt at h;split at h
 ·cases h
 ·rename_i hc;simp only[aZ] at h;subst h;simp only[not_or,Bool.not_eq_false] at hc;simp only[Ye,aX,decide_eq_true_eq] at hL ⊢;refine⟨by simp;omega,?_⟩;rw[List.all_append];simp[hL.2,hc.2]
theorem Un{L M}(hL:Ye L=true)(h:Xe L=dG M):Ye M=true:=by
 unfold Xe at h;split at h
 ·cases h
 ·simp only[aZ] at h;subst h;simp only[Ye,aX,decide_eq_true_eq,List.all_eq_true] at hL ⊢;exact⟨by simp;omega,λx hx=>hL.2 x (List.dropLast_subset _ hx)⟩
theorem Ug{α β : Type}{o:Option α}{f : α->Option β}{b : β}(h:o.bind f=dG b):∃ a,o=dG a/\f a=dG b:=by
 cases o with
 | none=>cases h
 | some a=>exact⟨a,rfl,h⟩
theorem Zkg{h k n:Int}{L M}(hL:Ye L=true)(e:Ym h k n L=dG M):Ye M=true:=by
 unfold Ym at e;split at e
 ·exact Qr hL e
 split at e
 ·have⟨A,hA,e⟩:=Ug e;have⟨B,hB,e⟩:=Ug e;exact Qr (Qr (Un hL hA) hB) e
 split at e
 ·have⟨A,hA,e⟩:=Ug e;have⟨B,hB,e⟩:=Ug e;have⟨C,hC,e⟩:=Ug e;exact Qr (Qr (Un (Un hL hA) hB) hC) e
 split at e
 ·exact Un hL e
 split at e
 ·have⟨A,hA,e⟩:=Ug e;exact Qr (Un hL hA) e
 split at e
 ·have⟨A,hA,e⟩:=Ug e;split at e
  ·cases e
  ·cases e;exact Un hL hA
 split at e
 ·exact Qr hL e
 ·have⟨A,hA,e⟩:=Ug e;have⟨B,hB,e⟩:=Ug e;exact Qr (Un (Un hL hA) hB) e
theorem Ki{h:Int}:∀ {l:List (Int×Int)} {L M:List Int},Ye L=true->Y9 h l L=dG M->Ye M=true
 | [],L,M,hL,e=>by cases e;exact hL
 | o :: r,L,M,hL,e=>by
  have⟨A,hA,e⟩:=Ug e;exact Ki (Zkg hL hA) e
def Xd(o:Int×Int):Int:=if o.1<1\/13<o.1 then 4 else if (o.1≠1/\o.2≠0)\/fit o.2=false then 3 else 0
def V8:List (Int×Int)->Int
 | []=>0
 | o :: r=>if Xd o=0 then V8 r else Xd o
def chk(l:List (Int×Int)):Int:=if 16<l.length then 2 else V8 l
theorem Fu(l:List (Int×Int))(k:Nat)(h:k<l.length)(h0:V8 (l.take k)=0):V8 (l.take (k+1))=if Xd (l[k])=0 then 0 else Xd (l[k]):=by
 induction l generalizing k with
 | nil=>simp at h
 | cons o r ih=>
  cases k with
  | zero=>simp[V8]
  | succ k=>
   simp only[List.take_succ_cons,V8,List.getElem_cons_succ] at h0 ⊢;split at h0
   ·rename_i e;rw[if_pos e];exact ih k (by simpa using h) h0
   ·contradiction
theorem Fv(l:List (Int×Int))(k:Nat)(h:k<l.length)(h0:V8 (l.take k)=0)(h1:Xd (l[k])≠0):V8 l=Xd (l[k]):=by
 induction l generalizing k with
 | nil=>simp at h
 | cons o r ih=>
  cases k with
  | zero=>simp only[List.getElem_cons_zero] at h1 ⊢;simp[V8,h1]
  | succ k=>
   simp only[List.take_succ_cons,V8,List.getElem_cons_succ] at h0 h1 ⊢;split at h0
   ·rename_i e;rw[if_pos e];exact ih k (by simpa using h) h0 h1
   ·contradiction
theorem Rj{l:List (Int×Int)}(h:V8 l=0):∀ (k:Nat) (hk:k<l.length),Xd (l[k])=0:=by
 induction l with
 | nil=>intro k hk;simp at hk
 | cons o r ih=>
  simp only[V8] at h;split at h
  ·rename_i e;intro k hk;cases k with
   | zero=>exact e
   | succ k=>exact ih h k (by simpa using hk)
  ·contradiction
def hOk(h:Int):Bool:=decide (0<=h) && decide (h<=1000)
def Tq(l:List (Int×Int))(Z:List Int)(h:Int):Int:=
 if chk l=0 then (if Ye Z && hOk h then (if (Y9 h l Z).isSome then 0 else 8) else 3) else chk l
def Hx(l:List (Int×Int))(Z:List Int)(h:Int):List Int:=if Tq l Z h=0 then (Y9 h l Z).getD [] else []
def Vl(l k:List (Int×Int))(h:Int):Int:=if chk l=0 then (if chk k=0 then (if hOk h then 0 else 3) else chk k) else chk l
def Ph(L:List Int):Bool:=decide (L.length=1) && (Jc L != 0)
def Xb(l k:List (Int×Int))(h:Int):Bool:=decide (Vl l k h=0) && (match (Y9 h k []).bind (Y9 h l) with|some L=>Ph L|none=>false)
abbrev InD:=Int×Int×List (Int×Int)
abbrev Yd:=Int×List (Int×Int)
abbrev TxD:=Int×List InD×List Yd
def P9(x:InD):Bool:=(decide (1<=x.1) && decide (x.1<=120)) && (decide (0<=x.2.1) && decide (x.2.1<=5))
def Wz(x y:InD):Bool:=decide (y.1=x.1) && decide (y.2.1=x.2.1)
def Wt(pre:List InD)(x:InD):Int:=if P9 x=false then 3 else if chk x.2.2≠0 then chk x.2.2 else if pre.any (Wz x) then 6 else 0
def Z8(pre:List InD):List InD->Int
 | []=>0
 | x :: r=>if Wt pre x=0 then Z8 (pre++[x]) r else Wt pre x
def Yz(x:Yd):Int:=if x.1<1 then 3 else chk x.2
def Z0:List Yd->Int
 | []=>0
 | x :: r=>if Yz x=0 then Z0 r else Yz x
def sm:Int->List Int->Int×Int
 | s,[]=>(s,0)
 | s,x :: l=>if 0<=x/\x<=1000000000 then (if s+x<=1000000000 then sm (s+x) l else (0,12)) else (0,3)
theorem Zep(s:Int)(Z:List Int)(k:Nat)(hk:k<Z.length)(h1:0<=Z.getD k 0)(h2:Z.getD k 0<=1000000000)(h3:s+Z.getD k 0<=1000000000) :
  sm s (Z.drop k)=sm (s+Z.getD k 0) (Z.drop (k+1)):=by
 have e:Z.drop k=Z.getD k 0 :: Z.drop (k+1):=by
  rw[aK hk];simp[List.getD,hk]
 rw[e,sm,if_pos ⟨h1,h2⟩,if_pos h3]
theorem Zeq(s:Int)(Z:List Int)(k:Nat)(hk:k<Z.length)(h1:0<=Z.getD k 0)(h2:Z.getD k 0<=1000000000)(h3:1000000000<s+Z.getD k 0) :
  sm s (Z.drop k)=(0,12):=by
 have e:Z.drop k=Z.getD k 0 :: Z.drop (k+1):=by
  rw[aK hk];simp[List.getD,hk]
 rw[e,sm,if_pos ⟨h1,h2⟩,if_neg (by omega)]
theorem Cc(s:Int)(Z:List Int)(k:Nat)(hk:k<Z.length)(h:Z.getD k 0<0\/1000000000<Z.getD k 0) :
  sm s (Z.drop k)=(0,3):=by
 have e:Z.drop k=Z.getD k 0 :: Z.drop (k+1):=by
  rw[aK hk];simp[List.getD,hk]
 rw[e,sm,if_neg (by omega)]
theorem Zkj(s:Int)(Z:List Int)(k:Nat)(hk:Z.length<=k):sm s (Z.drop k)=(s,0):=by
 rw[bA hk];rfl
def Mq(t:TxD):Bool:=if t.2.1.length=0 then decide (1<=t.1) && decide (t.1<=1000) else decide (t.1=0)
def Zx(l:List Yd):Int:=if Z0 l=0 then (sm 0 (l.map (·.1))).2 else Z0 l
def Zp(t:TxD):Int:=
 if 6<t.2.1.length\/6<t.2.2.length then 2 else if t.2.2.length=0 then 4 else if Mq t=false then 3
 else if Z8 [] t.2.1≠0 then Z8 [] t.2.1 else Zx t.2.2
theorem Hp(L:List InD)(k:Nat)(hk:k<L.length)(h:Wt (L.take k) L[k]=0):Z8 (L.take k) (L.drop k)=Z8 (L.take (k+1)) (L.drop (k+1)):=by
 rw[aK hk,Z8,if_pos h,aH hk]
theorem Ho(L:List InD)(k:Nat)(hk:k<L.length)(h:Wt (L.take k) L[k]≠0):Z8 (L.take k) (L.drop k)=Wt (L.take k) L[k]:=by
 rw[aK hk,Z8,if_neg h]
theorem Na(L:List InD)(k:Nat)(hk:L.length<=k):Z8 (L.take k) (L.drop k)=0:=by
 rw[bA hk];rfl
theorem Jy(L:List Yd)(k:Nat)(hk:k<L.length)(h:Yz L[k]=0):Z0 (L.drop k)=Z0 (L.drop (k+1)):=by
 rw[aK hk,Z0,if_pos h]
theorem Jx(L:List Yd)(k:Nat)(hk:k<L.length)(h:Yz L[k]≠0):Z0 (L.drop k)=Yz L[k]:=by
 rw[aK hk,Z0,if_neg h]
theorem Ri(L:List Yd)(k:Nat)(hk:L.length<=k):Z0 (L.drop k)=0:=by
 rw[bA hk];rfl
theorem Fw{pre x}(h:P9 x=false):Wt pre x=3:=by unfold Wt;rw[if_pos h]
theorem Nc{pre}{x:InD}(h:P9 x=true)(hk:chk x.2.2≠0):Wt pre x=chk x.2.2:=by
 unfold Wt;rw[if_neg (by rw[h];decide),if_pos hk]
theorem Pw{pre:List InD}{x:InD}(h:P9 x=true)(hk:chk x.2.2=0)(ht:pre.any (Wz x)=true):Wt pre x=6:=by
 unfold Wt;rw[if_neg (by rw[h];decide),if_neg (by rw[hk];decide),if_pos ht]
theorem Fx{pre:List InD}{x:InD}(h:P9 x=true)(hk:chk x.2.2=0)(ht:pre.any (Wz x)=false):Wt pre x=0:=by
 unfold Wt;rw[if_neg (by rw[h];decide),if_neg (by rw[hk];decide),if_neg (by rw[ht];decide)]
theorem ZA {α:Type}(l:List α)(i:Nat)(a:α):l.toArray.setIfInBounds i a=(l.set i a).toArray:=List.setIfInBounds_toArray ..
theorem ZB {α:Type}(a b:α)(l:List α):(a::l).set 0 b=b::l:=rfl
theorem ZC {α:Type}(a b:α)(l:List α)(n:Nat):(a::l).set (n+1) b=a::l.set n b:=rfl
theorem Zt {P:Program} {ops} {Q:Exit->Act->World->Prop} {md:Region.Mode} {S:World->Prop}(i:Nat)(oi:Oper)(v) {fuel:Nat} {listed:Array Bool} {a:Act} {w}(hi:ops[i]? = dG oi)(hy:∀ w,S w->(execOp a.eval oi).run P w = .ok (.value v) w)(hS:S w)(h:wpAnyH P md ops Q S fuel (listed.setIfInBounds i true) (a.put oi.dst v) w)(hQ:∀ c a w,Q (.panic c) (a.put oi.dst v) w->Q (.panic c) a w:=by exact λ_ _ _ h=>h)(hw:cL oi (yielded ops a.tmps)=true:=by rfl)(hs:Region.noSelect ops=true:=by kernel_rfl)(hf:Region.free md ops listed i=true:=by kernel_rfl)(hr:(Region.ready md ops listed).contains i=true:=by kernel_rfl):wpAnyH P md ops Q S (fuel+1) listed a w:=wpAnyH_take hi hs hf hr hQ (Or.inl ⟨hw,hy⟩) hS h
theorem Zb{p:Prop}(h:p):Hid p:=h
theorem kh2{a0 a1:Prop}(x0:a0)(x1:a1):Hid a0/\Hid a1:=⟨x0,x1⟩
theorem kh3{a0 a1 a2:Prop}(x0:a0)(x1:a1)(x2:a2):Hid a0/\Hid a1/\Hid a2:=⟨x0,x1,x2⟩
theorem kh4{a0 a1 a2 a3:Prop}(x0:a0)(x1:a1)(x2:a2)(x3:a3):Hid a0/\Hid a1/\Hid a2/\Hid a3:=⟨x0,x1,x2,x3⟩
theorem kh5{a0 a1 a2 a3 a4:Prop}(x0:a0)(x1:a1)(x2:a2)(x3:a3)(x4:a4):Hid a0/\Hid a1/\Hid a2/\Hid a3/\Hid a4:=⟨x0,x1,x2,x3,x4⟩
theorem kh6{a0 a1 a2 a3 a4 a5:Prop}(x0:a0)(x1:a1)(x2:a2)(x3:a3)(x4:a4)(x5:a5):Hid a0/\Hid a1/\Hid a2/\Hid a3/\Hid a4/\Hid a5:=⟨x0,x1,x2,x3,x4,x5⟩
theorem kh7{a0 a1 a2 a3 a4 a5 a6:Prop}(x0:a0)(x1:a1)(x2:a2)(x3:a3)(x4:a4)(x5:a5)(x6:a6):Hid a0/\Hid a1/\Hid a2/\Hid a3/\Hid a4/\Hid a5/\Hid a6:=⟨x0,x1,x2,x3,x4,x5,x6⟩
theorem kh8{a0 a1 a2 a3 a4 a5 a6 a7:Prop}(x0:a0)(x1:a1)(x2:a2)(x3:a3)(x4:a4)(x5:a5)(x6:a6)(x7:a7):Hid a0/\Hid a1/\Hid a2/\Hid a3/\Hid a4/\Hid a5/\Hid a6/\Hid a7:=⟨x0,x1,x2,x3,x4,x5,x6,x7⟩
theorem Za{p:Prop}(h:Hid p):p:=h
theorem Vv(n lo hi:Int)(w)(h1:lo<=n)(h2:n<=hi) :
  Calls aB 117 #[E J n,E J lo,E J hi] w λe w'=>e = dB (dF true)/\w=w':=by
 go_enter func117,ntmps117;go_wp2;go_ret;exact⟨rfl,rfl⟩
theorem Ro(n lo hi:Int)(w)(h:n<lo\/hi<n) :
  Calls aB 117 #[E J n,E J lo,E J hi] w λe w'=>e = dB (dF false)/\w=w':=by
 by_cases h1:n<lo
 ·go_enter func117,ntmps117;go_wp2;go_ret;exact⟨rfl,rfl⟩
 ·have h2:hi<n:=by omega
  have h3:lo<=n:=by omega
  have h4:decide (n<=hi)=false:=by simp;omega
  clear h;go_enter func117,ntmps117;go_wp2;go_ret;exact⟨rfl,rfl⟩
theorem Y3(n lo hi:Int)(b:Bool)(w)(hb:b=(decide (lo<=n) && decide (n<=hi))) :
  Calls aB 117 #[E J n,E J lo,E J hi] w λe w'=>e = dB (dF b)/\w=w':=by
 subst hb;by_cases h1:lo<=n
 ·by_cases h2:n<=hi
  ·simpa[h1,h2] using Vv n lo hi w h1 h2
  ·simpa[h1,h2] using Ro n lo hi w (by omega)
 ·simpa[h1] using Ro n lo hi w (by omega)
theorem Pn(n:Int)(b:Bool)(w)(hb:b=fit n) :
  Calls aB 273 #[E J n] w λe w'=>e = dB (dF b)/\w=w':=by
 have HB:=Zb hb;clear hb;go_enter func273,ntmps273
 go_wp2_with (go_at_call 117;refine (Y3 _ _ _ b _ HB).mono ?_;rintro e w' ⟨rfl,rfl⟩)
 go_ret;exact⟨rfl,rfl⟩
theorem S8{a b:Int}(h:a=b):Ending.returned (E J a) = dB (E J b):=by rw[h]
theorem Nk(k n:Int)(w:World) :
  ZH 261 #[.agg #[E J k,E J n]] w (E J (Xd (k,n))):=by
 have hb:∀ o,ZD w (w.alloc o):=λo=>(Below.refl _ _).alloc (aE _) _;have HB:=Zb hb;by_cases h1:k<1\/13<k
 ·have e:Xd (k,n)=4:=by simp[Xd,h1]
  rw[e];go_enter func261,ntmps261
  go_wp2_with (go_at_call 117;refine (Ro _ _ _ _ h1).mono ?_;rintro e w' ⟨rfl,rfl⟩)
  go_ret;exact⟨rfl,HB _⟩
 ·have g1:1<=k:=by omega
  have g2:k<=13:=by omega
  by_cases h2:k=1
  ·subst h2;cases h3:fit n with
   | false=>
    have e:Xd (1,n)=3:=(by simp[Xd,h3]);rw[e];have H3:=Zb h3;go_enter func261,ntmps261
    go_wp2_with (first|(go_at_call 117;refine (Vv _ _ _ _ (by decide) (by decide)).mono ?_;rintro e w' ⟨rfl,rfl⟩)|(go_at_call 273;refine (Pn _ false _ H3.symm).mono ?_;rintro e w' ⟨rfl,rfl⟩))
    go_ret;exact⟨rfl,HB _⟩
   | true=>
    have e:Xd (1,n)=0:=(by simp[Xd,h3]);rw[e];have H3:=Zb h3;go_enter func261,ntmps261
    go_wp2_with (first|(go_at_call 117;refine (Vv _ _ _ _ (by decide) (by decide)).mono ?_;rintro e w' ⟨rfl,rfl⟩)|(go_at_call 273;refine (Pn _ true _ H3.symm).mono ?_;rintro e w' ⟨rfl,rfl⟩))
    go_ret;exact⟨rfl,HB _⟩
  ·have g3:(k != 1)=true:=(by simp[h2]);by_cases h4:n=0
   ·subst h4;have h3:fit 0=true:=(by decide);have e:Xd (k,0)=0:=(by simp[Xd,h3,h1]);rw[e];have H3:=Zb h3;go_enter func261,ntmps261
    go_wp2_with (first|(go_at_call 117;refine (Vv _ _ _ _ g1 g2).mono ?_;rintro e w' ⟨rfl,rfl⟩)|(go_at_call 273;refine (Pn _ true _ H3.symm).mono ?_;rintro e w' ⟨rfl,rfl⟩))
    go_ret;exact⟨rfl,HB _⟩
   ·have g4:(n != 0)=true:=(by simp[h4]);have e:Xd (k,n)=3:=(by simp[Xd,h1,h2,h4]);rw[e];go_enter func261,ntmps261
    go_wp2_with (go_at_call 117;refine (Vv _ _ _ _ g1 g2).mono ?_;rintro e w' ⟨rfl,rfl⟩)
    go_ret;exact⟨rfl,HB _⟩
def OpsAt(w:World)(a:Option Addr)(len:Nat)(l:List (Int×Int)):Prop:=
 l.length=len/\(0<len->∃ b off,a=dG ⟨b,off,aD⟩/\∀ i,i<len->w.cell? ⟨b,off+i*2,aD⟩=dG (E J (l.getD i (0,0)).1)/\w.cell? ⟨b,off+i*2+1,aD⟩=dG (E J (l.getD i (0,0)).2))
theorem OpsAt.later{w w':World}{a len l}(h:OpsAt w a len l)(hb:ZD w w'):OpsAt w' a len l:=by
 have⟨hz,hc⟩:=h;refine⟨hz,λh=>?_⟩;obtain⟨b,off,rfl,ac⟩:=hc h;refine⟨b,off,rfl,λi hi=>?_⟩;have⟨h1,h2⟩:=ac i hi;refine⟨?_,?_⟩
 ·rw[hb.cell (p:=⟨b,off+i*2,aD⟩) (aC _ _ h1)];exact h1
 ·rw[hb.cell (p:=⟨b,off+i*2+1,aD⟩) (aC _ _ h2)];exact h2
theorem Zed(a)(len cap:Nat)(w)(h:16<len) :
  Calls aB 238 #[F a len cap] w λe w'=>e = dB (E J 2)/\w=w':=by
 go_enter func238,ntmps238;go_wp2;go_ret;exact⟨rfl,rfl⟩
theorem Ni(a cap w) :
  Calls aB 238 #[F a 0 cap] w λe w'=>e = dB (E J 0)/\w=w':=by
 go_enter func238,ntmps238;go_wp2;refine bB 1 ?_;rw[aS];go_wp2;go_ret;exact⟨rfl,rfl⟩
theorem Zec(b off len cap:Nat)(l:List (Int×Int))(w:World)(h0:len<=16)(hz:l.length=len)
  (hc:∀ i,i<len->w.cell? ⟨b,off+i*2,aD⟩=dG (E J (l.getD i (0,0)).1)/\w.cell? ⟨b,off+i*2+1,aD⟩=dG (E J (l.getD i (0,0)).2)) (hl:b<w.heap.size) :
  ZH 238 #[F (dG ⟨b,off,aD⟩) len cap] w (E J (V8 l)):=by
 have HC:=Zb hc;have HZ:=Zb hz;go_enter func238,ntmps238;go_wp2
 go_loopw [11] (λi wr=>∃ k:Nat,k<=len/\i = E J k/\V8 (l.take k)=0/\ZD w wr) (λi _=>len - (intOf i).toNat)
 case atStart=>exact⟨0,aI _,rfl,rfl,Below.refl _ _⟩
 case round=>
  obtain⟨k,hk,rfl,av,hb⟩:=hrel;have ag:=Zb av;have HB:=Zb hb;clear av;by_cases au:k<len
  ·have⟨c1,c2⟩:=HC k au;rw[<-hb.cell (p:=⟨b,off+k*2,aD⟩) hl] at c1;rw[<-hb.cell (p:=⟨b,off+k*2+1,aD⟩) hl] at c2;have⟨q,hq⟩:=ZG (l.getD k (0,0));rw[<-hq] at c1 c2;have ak:k<l.length:=(by rw[Za HZ];exact au);have aw:q=l[k]:=(by rw[hq];simp[ak]);have HQ:=Zb aw;clear hb hq aw;have⟨q1,q2⟩:=q;have CO:=Zb (Nk q1 q2);have⟨x,hx⟩:=ZG (Xd (q1,q2));rw[<-hx] at CO;have HX:=Zb hx;clear hx;by_cases an:x=0
   ·subst an;go_wp2_with fail;refine (CO _).mono ?_;rintro e w1 ⟨rfl,ac⟩;have ad:=HB.trans (((Below.refl wr.heap.size wr).alloc (aE _) _).trans (ac.mono (by simp)) |>.mono HB.size);have af:=Zb ad;clear ac ad;go_wp2;go_roundw
    case rel=>
     refine⟨k+1,by omega,by go_num,?_,Za af⟩;rw[Fu l k ak ag,<-Za HQ,<-Za HX];rfl
    case measure=>simp[intOf];omega
   ·have bi:(x != 0)=true:=(by simp[an]);have bd:=Zb an;go_wp2_with fail;refine (CO _).mono ?_;rintro e w1 ⟨rfl,ac⟩;have ad:=HB.trans (((Below.refl wr.heap.size wr).alloc (aE _) _).trans (ac.mono (by simp)) |>.mono HB.size);have af:=Zb ad;go_wp2;go_ret;refine⟨S8 ?_,Za af⟩;rw[Fv l k ak ag (by rw[<-Za HQ,<-Za HX];exact Za bd),<-Za HQ,<-Za HX]
  ·skip
   go_wp2;go_ret;have e:k=len:=(by omega);subst e;refine⟨S8 ?_,Za HB⟩;have h1:=Za ag;rw[<-Za HZ,List.take_length] at h1;exact h1.symm
theorem U9(a len cap l)(w:World)(h:OpsAt w a len l) :
  ZH 238 #[F a len cap] w (E J (chk l)):=by
 have⟨hz,hc⟩:=h;unfold chk;rw[hz];by_cases h1:16<len
 ·rw[if_pos h1];exact (Zed a len cap w h1).mono λe w' ⟨x,y⟩=>⟨x,y ▸ Below.refl _ _⟩
 ·rw[if_neg h1];by_cases h2:len=0
  ·subst h2;have e:l=[]:=aJ.1 hz;subst e;exact (Ni a cap w).mono λe w' ⟨x,y⟩=>⟨x,y ▸ Below.refl _ _⟩
  ·obtain⟨b,off,rfl,ab⟩:=hc (by omega);exact Zec b off len cap l w (by omega) hz ab (aC _ _ (ab 0 (by omega)).1)
def RowAt(w:World)(a:Option Addr)(len:Nat)(Z:List Int):Prop:=
 Z.length=len/\len<=aT/\(0<len->∃ b off,a=dG ⟨b,off,aD⟩/\∀ i,i<len->w.cell? ⟨b,off+i,aD⟩=dG (E J (Z.getD i 0)))
theorem RowAt.later{w w':World}{a len Z}(h:RowAt w a len Z)(hb:ZD w w'):RowAt w' a len Z:=by
 have⟨hz,hm,hc⟩:=h;refine⟨hz,hm,λh=>?_⟩;obtain⟨b,off,rfl,ac⟩:=hc h;refine⟨b,off,rfl,λi hi=>?_⟩;have h1:=ac i hi;rw[hb.cell (p:=⟨b,off+i,aD⟩) (aC _ _ h1)];exact h1
theorem RowAt.nil(w a):RowAt w a 0 []:=⟨rfl,aI _,λh=>absurd h (by omega)⟩
def RowsAt{α : Type}(R:World->Nat->Nat -> α->Prop)(sz:Nat)(w:World)(a:Option Addr)(len:Nat)(l:List α):Prop:=
 l.length=len/\(0<len->∃ b off,a=dG ⟨b,off,aD⟩/\b<w.heap.size/\∀ i (h:i<l.length),R w b (off+i*sz) l[i])
def Aa{α : Type}(R:World->Nat->Nat -> α->Prop):Prop:=∀ (w w':World) (b o:Nat) (x : α),ZD w w'->R w b o x->R w' b o x
theorem RowsAt.later{α : Type}{R:World->Nat->Nat -> α->Prop}(hR:Aa R){sz}{w w':World}{a len}{l:List α}(h:RowsAt R sz w a len l)(hb:ZD w w'):RowsAt R sz w' a len l:=by
 refine⟨h.1,λh0=>?_⟩;have⟨b,off,e,hl,hc⟩:=h.2 h0;exact⟨b,off,e,aF hl hb.size,λi hi=>hR w w' b _ _ hb (hc i hi)⟩
theorem RowsAt.nil{α : Type}{R:World->Nat->Nat -> α->Prop}{sz}(w a):RowsAt R sz w a 0 []:=⟨rfl,λh=>absurd h (by omega)⟩
theorem Ze{w w':World}{p v}(hb:ZD w w')(h:w.cell? p=dG v):w'.cell? p=dG v:=by
 rw[hb.cell (p:=p) (aC _ _ h)];exact h
def SlOk(a:Option Addr)(n c:Nat):Prop:=n<=c/\c<=aT/\(a=aD->n=0/\c=0)
theorem SlOk.len{a n c}(h:SlOk a n c):n<=aT:=aO h.1 h.2.1
def InAt(w:World)(b o:Nat)(x:InD):Prop:=
 w.cell? ⟨b,o,aD⟩=dG (E J x.1)/\w.cell? ⟨b,o+1,aD⟩=dG (E J x.2.1)/\∃ a n c,w.cell? ⟨b,o+2,aD⟩=dG (F a n c)/\OpsAt w a n x.2.2/\SlOk a n c
def OutAt(w:World)(b o:Nat)(x:Yd):Prop:=
 w.cell? ⟨b,o,aD⟩=dG (E J x.1)/\∃ a n c,w.cell? ⟨b,o+1,aD⟩=dG (F a n c)/\OpsAt w a n x.2/\SlOk a n c
theorem InAt.kept:Aa InAt:=λ_ _ _ _ _ hb h=>by
 have⟨h1,h2,a,n,c,h3,h4,h5⟩:=h;exact⟨Ze hb h1,Ze hb h2,a,n,c,Ze hb h3,h4.later hb,h5⟩
theorem OutAt.kept:Aa OutAt:=λ_ _ _ _ _ hb h=>by
 have⟨h1,a,n,c,h3,h4,h5⟩:=h;exact⟨Ze hb h1,a,n,c,Ze hb h3,h4.later hb,h5⟩
def InsAt(w:World)(a:Option Addr)(len:Nat)(l:List InD):Prop:=RowsAt InAt 3 w a len l
def OutsAt(w:World)(a:Option Addr)(len:Nat)(l:List Yd):Prop:=RowsAt OutAt 2 w a len l
theorem InsAt.later{w w':World}{a len l}(h:InsAt w a len l)(hb:ZD w w'):InsAt w' a len l:=RowsAt.later InAt.kept h hb
theorem OutsAt.later{w w':World}{a len l}(h:OutsAt w a len l)(hb:ZD w w'):OutsAt w' a len l:=RowsAt.later OutAt.kept h hb
theorem RowsAt.take{α : Type}{R:World->Nat->Nat -> α->Prop}{sz w a len}{l:List α}(h:RowsAt R sz w a len l)(k:Nat)(hk:k<=len):RowsAt R sz w a k (l.take k):=by
 have hl:=h.1;refine⟨by rw[aV];omega,λh0=>?_⟩;have⟨b,off,e,hb,hc⟩:=h.2 (by omega);refine⟨b,off,e,hb,λi hi=>?_⟩;rw[aV] at hi;rw[List.getElem_take];exact hc i (by omega)
theorem Zf{w w1 w2:World}(h1:ZD w w1)(h2:ZD w1 w2):ZD w w2:=h1.trans (h2.mono h1.size)
theorem Zh(w:World)(o:Obj):ZD w (w.alloc o):=(Below.refl _ _).alloc (aE _) _
theorem ka00(w:World)(l:List Value)(t:aY):∃ X,X=w.alloc (dA l.toArray t)/\ZD w X/\X.heap[w.heap.size]? = dG (dA l.toArray t (0,0)):=⟨_,rfl,Zh _ _,aG _ _⟩
theorem Sg(n:Int)(w)(h1:0<=n)(h2:n<=1000000000) :
  Calls aB 263 #[E J n] w λe w'=>e = dB (E J 0)/\w=w':=by
 go_enter func263,ntmps263
 go_wp2_with (go_at_call 117;refine (Vv _ _ _ _ h1 h2).mono ?_;rintro e w' ⟨rfl,rfl⟩)
 go_ret;exact⟨rfl,rfl⟩
theorem F8(n:Int)(w)(h:n<0\/1000000000<n) :
  Calls aB 263 #[E J n] w λe w'=>e = dB (E J 3)/\w=w':=by
 go_enter func263,ntmps263
 go_wp2_with (go_at_call 117;refine (Ro _ _ _ _ h).mono ?_;rintro e w' ⟨rfl,rfl⟩)
 go_ret;exact⟨rfl,rfl⟩
theorem Zpb(a len cap Z w)(h:RowAt w a len Z) :
  Calls aB 243 #[F a len cap] w λe w'=>e = dB (dC #[E J (sm 0 Z).1,E J (sm 0 Z).2])/\w=w':=by
 have⟨hz,hm,hc⟩:=h;unfold aT at hm
 rcases Nat.eq_zero_or_pos len with h0|h0
 ·subst h0;have HZ:Hid (Z=[]):=List.eq_nil_of_length_eq_zero hz;clear hz hc hm;go_enter func243,ntmps243;go_wp2;refine bB 1 ?_;rw[aS];go_wp2;go_ret2;rw[HZ.out];exact⟨rfl,rfl⟩
 ·obtain⟨b,off,rfl,ah⟩:=hc h0;have HC:Hid (∀ i,i<len->w.cell? ⟨b,off+i,aD⟩=dG (E J (Z.getD i 0))):=ah;clear hc ah;go_enter func243,ntmps243;go_wp2
  go_loop [4,10] (λs i=>∃ (k:Nat) (x:Int),k<=len/\i = E J k/\s = E J x/\0<=x/\x<=1000000000/\Hid (sm 0 Z=sm x (Z.drop k))) (λ_ i=>len - (intOf i).toNat)
  case atStart=>exact⟨0,0,aI _,rfl,rfl,by decide,by decide,by exact rfl⟩
  case round=>
   obtain⟨k,x,hk,rfl,rfl,aw,ax,HS⟩:=hrel;by_cases au:k<len
   ·have aq:=HC.out k au;generalize hv:Z.getD k 0=v at aq;have HV:Hid (Z.getD k 0=v):=hv;clear hv;by_cases hr:v<0\/1000000000<v
    ·go_wp2_with (go_at_call 263;refine (F8 _ _ hr).mono ?_;rintro e w' ⟨rfl,rfl⟩)
     go_ret2;rw[HS.out,Cc x Z k (by omega) (by rw[HV.out];exact hr)];exact⟨rfl,rfl⟩
    ·have ac:0<=v:=(by omega);have ad:v<=1000000000:=(by omega);clear hr;by_cases hf:1000000000<x+v
     ·go_wp2_with fail;refine (Sg _ _ ac ad).mono ?_;rintro e w' ⟨rfl,rfl⟩;go_wp2_with fail;refine (F8 _ _ (.inr hf)).mono ?_;rintro e w' ⟨rfl,rfl⟩;go_wp2;go_ret2;rw[HS.out,Zeq x Z k (by omega) (by rw[HV.out];exact ac) (by rw[HV.out];exact ad) (by rw[HV.out];exact hf)];exact⟨rfl,rfl⟩
     ·have aj:x+v<=1000000000:=(by omega);have ar:0<=x+v:=(by omega);clear hf;go_wp2_with fail;refine (Sg _ _ ac ad).mono ?_;rintro e w' ⟨rfl,rfl⟩;go_wp2_with fail;refine (Sg _ _ ar aj).mono ?_;rintro e w' ⟨rfl,rfl⟩;go_wp2
      go_round
      case rel=>
       refine⟨k+1,x+v,by omega,by go_num,rfl,by omega,by omega,?_⟩;show sm 0 Z=_;rw[HS.out,Zep x Z k (by omega) (by rw[HV.out];exact ac) (by rw[HV.out];exact ad) (by rw[HV.out];exact aj),HV.out]
      case measure=>simp[intOf];omega
   ·go_wp2;go_ret2;rw[HS.out,Zkj x Z k (by omega)];exact⟨rfl,rfl⟩
theorem Jr(x y:Int)(b:Bool)(w:World)(hb:((decide (1<=x) && decide (x<=120)) && (decide (0<=y) && decide (y<=5)))=b) :
  ZH 237 #[.agg #[E J x,E J y]] w (dF b):=by
 have HB:=Zb (Zh w (dA #[E J x,E J y] 87));by_cases h1:1<=x/\x<=120
 ·have e1:(decide (1<=x) && decide (x<=120))=true:=by simp[h1.1,h1.2]
  have⟨c,hc⟩:=ZF ((decide (0<=y) && decide (y<=5)));rw[e1,hc,Bool.true_and] at hb;subst hb;have C1:Hid (∀ w,Calls aB 117 #[E J x,E J 1,E J 120] w λe w'=>e = dB (dF true)/\w=w'):=λw=>Y3 x 1 120 true w e1.symm;have C2:Hid (∀ w,Calls aB 117 #[E J y,E J 0,E J 5] w λe w'=>e = dB (dF c)/\w=w'):=λw=>Y3 y 0 5 c w hc.symm;go_enter func237,ntmps237;go_wp2_with fail;refine (C1 _).mono ?_;rintro e w' ⟨rfl,rfl⟩;go_wp2_with fail;refine (C2 _).mono ?_;rintro e w' ⟨rfl,rfl⟩;go_wp2;go_ret;exact⟨rfl,Za HB⟩
 ·have e1:(decide (1<=x) && decide (x<=120))=false:=by
   rw[Bool.and_eq_false_iff,decide_eq_false_iff_not,decide_eq_false_iff_not];omega
  rw[e1,Bool.false_and] at hb;subst hb;have C1:Hid (∀ w,Calls aB 117 #[E J x,E J 1,E J 120] w λe w'=>e = dB (dF false)/\w=w'):=λw=>Y3 x 1 120 false w e1.symm;go_enter func237,ntmps237;go_wp2_with fail;refine (C1 _).mono ?_;rintro e w' ⟨rfl,rfl⟩;go_wp2;go_ret;exact⟨rfl,Za HB⟩
theorem Zko(x y x' y':Int)(a n c)(p:Nat)(b:Bool)(w:World)(h1:w.cell? ⟨p,0,aD⟩=dG (E J x'))(h2:w.cell? ⟨p,1,aD⟩=dG (E J y'))(hp:p<w.heap.size)
  (hb:(decide (x=x') && decide (y=y'))=b) :
  ZH 242 #[.agg #[E J x,E J y,F a n c],dE (dG ⟨p,0,aD⟩)] w (dF b):=by
 subst hb;have HB:=Zb (Zh w (dA #[E J x,E J y,F a n c] 90));by_cases hx:x=x'
 ·subst hx;by_cases hy:y=y'
  ·subst hy;rw[decide_eq_true rfl,decide_eq_true rfl];go_enter func242,ntmps242;go_wp2;go_ret;exact⟨rfl,Za HB⟩
  ·rw[decide_eq_true rfl,decide_eq_false hy];go_enter func242,ntmps242;go_wp2;go_ret;exact⟨rfl,Za HB⟩
 ·rw[decide_eq_false hx,Bool.false_and];go_enter func242,ntmps242;go_wp2;go_ret;exact⟨rfl,Za HB⟩
def Tt(x:InD):List InD->Nat->Int
 | [],_=>-1
 | y :: r,k=>if Wz x y then k else Tt x r (k+1)
theorem Zey(x):∀ (l:List InD) (k:Nat),decide (0<=Tt x l k)=l.any (Wz x)
 | [],_=>rfl
 | y :: r,k=>by
  unfold Tt;by_cases h:Wz x y=true
  ·rw[if_pos h];simp[h]
  ·rw[if_neg h,Zey x r (k+1)];simp[h]
theorem Zhc(x)(l:List InD)(k:Nat)(h:k<l.length):Tt x (l.drop k) k=if Wz x l[k] then (k:Int) else Tt x (l.drop (k+1)) (k+1):=by
 rw[aK h];rfl
theorem Au(b off n c:Nat)(l:List InD)(x:InD)(p:Nat)(w:World)(hz:l.length=n)(hn:n<=6)(hc:∀ i (h:i<l.length),InAt w b (off+i*3) l[i])
  (h1:w.cell? ⟨p,0,aD⟩=dG (E J x.1)) (h2:w.cell? ⟨p,1,aD⟩=dG (E J x.2.1)) :
  ZH 262 #[F (dG ⟨b,off,aD⟩) n c,.func (.func 242) #[] #[dE (dG ⟨p,0,aD⟩)]] w (E J (Tt x l 0)):=by
 have HC:=Zb hc;have HZ:=Zb hz;have H1:=Zb h1;have H2:=Zb h2;go_enter func262,ntmps262;go_wp2
 go_loopw [5,8] (λ_ i wr=>∃ k:Nat,k<=n/\i = E J k/\Hid (Tt x l 0=Tt x (l.drop k) k)/\ZD w wr) (λ_ i _=>n - (intOf i).toNat)
 case atStart=>exact⟨0,aI _,rfl,rfl,Below.refl _ _⟩
 case round=>
  obtain⟨k,hk,rfl,A,hb⟩:=hrel;have HB:=Zb hb;by_cases ar:k<n
  ·have am:k<l.length:=(by rw[Za HZ];exact ar);have al:=InAt.kept _ _ _ _ _ hb (HC k am);have S:=Zb (Zhc x l k am);have⟨y,hy⟩:=ZF (l[k]);rw[hy] at al S;have⟨g1,g2,ka,kn,kc,g3,_,_⟩:=al
   have C1:Hid (∀ q,Wz x y=q->Calls aB 242 #[.agg #[E J y.1,E J y.2.1,F ka kn kc],dE (dG ⟨p,0,aD⟩)] wr λe w'=>e = dB (dF q)/\ZD wr w'):=
    λq hq=>Zko y.1 y.2.1 x.1 x.2.1 ka kn kc p q wr (Ze hb H1) (Ze hb H2) (aC _ _ (Ze hb H1)) hq
   by_cases hs:Wz x y=true
   ·have S2:Hid (Tt x l 0=k):=(by show _=_;rw[Za A,Za S,if_pos hs]);have C2:=Zb (C1 true hs);go_wp2_with fail;refine C2.mono ?_;rintro e w' ⟨rfl,ag⟩;have af:=Zb (Zf HB ag);go_wp2;go_ret;exact⟨by rw[Za S2];rfl,Za af⟩
   ·have av:Wz x y=false:=(by simpa using hs);have S2:Hid (Tt x l 0=Tt x (l.drop (k+1)) (k+1)):=(by show _=_;rw[Za A,Za S,if_neg hs]);have C2:=Zb (C1 false av);go_wp2_with fail;refine C2.mono ?_;rintro e w' ⟨rfl,ag⟩;have af:=Zb (Zf HB ag);go_wp2;go_roundw
    case rel=>exact⟨k+1,by omega,by go_num,S2,Za af⟩
    case measure=>simp[intOf];omega
  ·have S2:Hid (Tt x l 0 = -1):=by
    show _=_;rw[Za A,bA (by rw[Za HZ];omega)];rfl
   go_wp2;go_ret;exact⟨by rw[Za S2];rfl,Za HB⟩
theorem Av(a c v w) :
  Calls aB 262 #[F a 0 c,v] w λe w'=>e = dB (E J (-1))/\w=w':=by
 go_enter func262,ntmps262;go_wp2;refine bB 1 ?_;rw[aS];go_wp2;go_ret;exact⟨rfl,rfl⟩
theorem Zad(a)(n c:Nat)(l)(x:InD)(p:Nat)(w:World)(hn:n<=6)(h:InsAt w a n l)
  (h1:w.cell? ⟨p,0,aD⟩=dG (E J x.1)) (h2:w.cell? ⟨p,1,aD⟩=dG (E J x.2.1)) :
  ZH 262 #[F a n c,.func (.func 242) #[] #[dE (dG ⟨p,0,aD⟩)]] w (E J (Tt x l 0)):=by
 have⟨hz,hc⟩:=h;by_cases h0:n=0
 ·subst h0;have e:l=[]:=aJ.1 hz;subst e;exact (Av a c _ w).mono λe w' ⟨q1,q2⟩=>⟨q1,q2 ▸ Below.refl _ _⟩
 ·obtain⟨b,off,rfl,_,ac⟩:=hc (by omega);exact Au b off n c l x p w hz hn ac h1 h2
theorem Tg(a)(n c:Nat)(l:List InD)(x:InD)(p:Nat)(o:Bool)(w:World)(hn:n<=6)(h:InsAt w a n l)
  (h1:w.cell? ⟨p,0,aD⟩=dG (E J x.1)) (h2:w.cell? ⟨p,1,aD⟩=dG (E J x.2.1)) (ho:l.any (Wz x)=o) :
  ZH 241 #[F a n c,.func (.func 242) #[] #[dE (dG ⟨p,0,aD⟩)]] w (dF o):=by
 have aa:Hid (decide (0<=Tt x l 0)=o):=by show _=_;rw[Zey,ho]
 have C:=Zad a n c l x p w hn h h1 h2;have⟨z,hz⟩:=ZF (Tt x l 0);rw[hz] at C aa;have CC:=Zb C;cases o with
 | true=>
  have h0:0<=z:=of_decide_eq_true aa;go_enter func241,ntmps241;go_wp2_with fail;refine CC.mono ?_;rintro e w' ⟨rfl,hb⟩;have HB:=Zb hb;go_wp2;go_ret;exact⟨rfl,Za HB⟩
 | false=>
  have h2:decide (0<=z)=false:=Za aa;have h1:z<0:=by have:=of_decide_eq_false h2;omega
  go_enter func241,ntmps241;go_wp2_with fail;refine CC.mono ?_;rintro e w' ⟨rfl,hb⟩;have HB:=Zb hb;go_wp2;go_ret;exact⟨rfl,Za HB⟩
theorem Bh{w w1 w2:World}(h1:ZD w w1)(h2:ZD w1 w2):ZD w w2:=h1.trans (h2.mono h1.size)
structure FillV(B:Nat)(e:aY)(p:Nat)(f:Nat->Value)(w wr:World)(k:Nat):Prop where
 ex:∃ xs:List Value,wr.ownsRow B e 1 (F (dG ⟨B,0,aD⟩) p p) p xs/\∀ j,j<k->xs[j]? = dG (f j)
 bel:Below B w wr
theorem FillV.lt{B:Nat}{e:aY}{p:Nat}{f:Nat->Value}{w wr:World}{k:Nat}(h:FillV B e p f w wr k):B<wr.heap.size:=by
 have⟨_,ho,_⟩:=h.ex;exact (ho.lt B rfl).2
theorem FillV.old{B:Nat}{e:aY}{p:Nat}{f:Nat->Value}{w wr:World}{k:Nat}(h:FillV B e p f w wr k)(hk:k<p):∃ v,wr.cell? ⟨B,k,aD⟩=dG v:=by
 have⟨xs,ho,_⟩:=h.ex;have hl:xs.length=p:=by simpa using ho.1
 exact⟨xs[k]'(by omega),by rw[ho.cellAt k (by omega)];simp[hl,hk]⟩
theorem FillV.free{B:Nat}{e:aY}{p:Nat}{f:Nat->Value}{w wr:World}{k:Nat}(h:FillV B e p f w wr k)(j:Nat):wr.frozen? ⟨B,j,aD⟩=false:=by
 have⟨xs,ho,_⟩:=h.ex;exact ho.frozenAt j
theorem FillV.step{B:Nat}{e:aY}{p:Nat}{f:Nat->Value}{w wr:World}{k:Nat}(h:FillV B e p f w wr k)(hk:k<p){v}(hv:v=f k):FillV B e p f w (wr.setCell ⟨B,k,aD⟩ v) (k+1):=by
 have⟨xs,ho,hf⟩:=h.ex;have hl:xs.length=p:=by simpa using ho.1
 refine⟨⟨xs.set k v,(ho.stored k _).1,λj hj=>?_⟩,h.bel.setCell (aE _) _⟩;by_cases e:j=k
 ·subst e;simp[hl,hk,hv]
 ·rw[List.getElem?_set_ne (by omega)];exact hf j (by omega)
theorem FillV.keep{B:Nat}{e:aY}{p:Nat}{f:Nat->Value}{w wr w':World}{k:Nat}(h:FillV B e p f w wr k)(hb:ZD wr w'):FillV B e p f w w' k:=by
 have⟨xs,ho,hf⟩:=h.ex;refine⟨⟨xs,?_,hf⟩,h.bel.trans (hb.mono (Nat.le_of_lt h.lt))⟩;obtain⟨hl,h0|⟨g,cap,ad,hv,hg,hh,r⟩⟩:=ho
 ·exact⟨hl,.inl h0⟩
 ·exact⟨hl,.inr ⟨g,cap,ad,hv,hg,(hb.block g (aA hh)).trans hh,r⟩⟩
theorem FillV.cells{B:Nat}{e:aY}{p:Nat}{f:Nat->Value}{w wr:World}{k:Nat}(h:FillV B e p f w wr k)(hk:k<=p)(i:Nat)(hi:i<k):wr.cell? ⟨B,i,aD⟩=dG (f i):=by
 have⟨xs,ho,hf⟩:=h.ex;rw[ho.cellAt i (by omega)];exact hf i hi
theorem Vd(w:World)(x y z)(t:aY):(w.alloc (dA #[x,y,z] t)).cell? ⟨w.heap.size,0,aD⟩=dG x/\(w.alloc (dA #[x,y,z] t)).cell? ⟨w.heap.size,1,aD⟩=dG y/\(w.alloc (dA #[x,y,z] t)).cell? ⟨w.heap.size,2,aD⟩=dG z:=
 ⟨by rw[bG _ _ _ _ rfl];rfl,by rw[bG _ _ _ _ rfl];rfl,by rw[bG _ _ _ _ rfl];rfl⟩
theorem U5(w:World)(x y)(t:aY):(w.alloc (dA #[x,y] t)).cell? ⟨w.heap.size,0,aD⟩=dG x/\(w.alloc (dA #[x,y] t)).cell? ⟨w.heap.size,1,aD⟩=dG y:=
 ⟨by rw[bG _ _ _ _ rfl];rfl,by rw[bG _ _ _ _ rfl];rfl⟩
theorem M8(a len cap l)(x:Int)(w:World)(hx:chk l=x)(h:OpsAt w a len l) :
  ZH 238 #[F a len cap] w (E J x):=by
 subst hx;exact U9 a len cap l w h
theorem Dd(b off n c:Nat)(L:List InD)(w:World)(hn:n<=6)(ce:n<=c)(hz:L.length=n)(bw:b<w.heap.size)(hc:∀ i (h:i<L.length),InAt w b (off+i*3) L[i]) :
  ZH 194 #[F (dG ⟨b,off,aD⟩) n c] w (E J (Z8 [] L)):=by
 have HC:=Zb hc;have HZ:=Zb hz;go_enter func194,ntmps194;go_wp2
 go_loopw [8] (λi wr=>∃ k:Nat,k<=n/\i = E J k/\Hid (Z8 [] L=Z8 (L.take k) (L.drop k))/\ZD w wr) (λi _=>n - (intOf i).toNat)
 case atStart=>exact⟨0,aI _,rfl,rfl,Below.refl _ _⟩
 case round=>
  obtain⟨k,hk,rfl,A,hb⟩:=hrel;have HB:=Zb hb;by_cases bx:k<n
  ·have be:k<L.length:=(by rw[Za HZ];exact bx);have bq:=InAt.kept _ _ _ _ _ hb (HC k be)
   have IA:Hid (InsAt wr (dG ⟨b,off,aD⟩) k (L.take k)):=by
    have h0:InsAt wr (dG ⟨b,off,aD⟩) n L:=⟨Za HZ,λ_=>⟨b,off,rfl,aF bw hb.size,λi hi=>InAt.kept _ _ _ _ _ hb (HC i hi)⟩⟩;exact RowsAt.take h0 k hk
   have ST:=Zb (Ho L k be);have SS:=Zb (Hp L k be);have⟨x,hx⟩:=ZF (L[k]);rw[hx] at bq ST SS;have⟨x1,x2,ad⟩:=x;have⟨g1,g2,ka,kn,kc,g3,g4,_⟩:=bq;simp only at g1 g2 g3 g4;have bo:=Zh wr (dA #[E J x1,E J x2,F ka kn kc] 90);have⟨n1,n2,n3⟩:=Vd wr (E J x1) (E J x2) (F ka kn kc) 90;have am:=Zb bo;have KO:=Zb (g4.later bo);have N1:=Zb n1;have N2:=Zb n2;have N3:=Zb n3;cases hp:P9 (x1,x2,ad) with
   | false=>
    have C1:=Zb (Jr x1 x2 false _ hp:Calls aB 237 _ (wr.alloc (dA #[E J x1,E J x2,F ka kn kc] 90)) _)
    have R:Hid (Z8 [] L=3):=by
     have e:=Fw (pre:=L.take k) hp;show _=_;rw[Za A,(Za ST) (by rw[e];decide),e]
    go_wp2_with fail;refine C1.mono ?_;rintro e w2 ⟨rfl,aa⟩;have ab:=Zb (Zf (Zf HB am) aa);go_wp2;go_ret;exact⟨by rw[Za R];rfl,Za ab⟩
   | true=>
    have C1:=Zb (Jr x1 x2 true _ hp:Calls aB 237 _ (wr.alloc (dA #[E J x1,E J x2,F ka kn kc] 90)) _);have HP:=Zb hp;by_cases ae:chk ad=0
    ·cases ht:(L.take k).any (Wz (x1,x2,ad)) with
     | true=>
      have R:Hid (Z8 [] L=6):=by
       have e:=Pw (pre:=L.take k) HP ae ht;show _=_;rw[Za A,(Za ST) (by rw[e];decide),e]
      have HT:=Zb ht;have HK:=Zb ae;go_wp2_with fail;refine C1.mono ?_;rintro e w2 ⟨rfl,aa⟩;have m3:=Ze aa N3;have ab:=Zb aa;have aj:=Zb (Zf am aa);have br:wr.heap.size<w2.heap.size:=aC _ _ m3;go_wp2_with fail;refine (M8 ka kn kc ad 0 _ HK (KO.later ab)).mono ?_;rintro e w3 ⟨rfl,ac⟩;have af:=Zb (Zf aj ac);have CT:=Zb (Tg (dG ⟨b,off,aD⟩) k c (L.take k) (x1,x2,ad) wr.heap.size true w3 (by omega) (IA.later af) (Ze ac (Ze ab N1)) (Ze ac (Ze ab N2)) HT);go_wp2_with fail;refine CT.mono ?_;rintro e w4 ⟨rfl,bd⟩;have au:=Zb (Zf (Zf HB af) bd);go_wp2;go_ret;exact⟨by rw[Za R];rfl,Za au⟩
     | false=>
      have R:Hid (Z8 [] L=Z8 (L.take (k+1)) (L.drop (k+1))):=by
       have e:=Fx (pre:=L.take k) HP ae ht;show _=_;rw[Za A,(Za SS) e]
      have HT:=Zb ht;have HK:=Zb ae;go_wp2_with fail;refine C1.mono ?_;rintro e w2 ⟨rfl,aa⟩;have m3:=Ze aa N3;have ab:=Zb aa;have aj:=Zb (Zf am aa);have br:wr.heap.size<w2.heap.size:=aC _ _ m3;go_wp2_with fail;refine (M8 ka kn kc ad 0 _ HK (KO.later ab)).mono ?_;rintro e w3 ⟨rfl,ac⟩;have af:=Zb (Zf aj ac);have CT:=Zb (Tg (dG ⟨b,off,aD⟩) k c (L.take k) (x1,x2,ad) wr.heap.size false w3 (by omega) (IA.later af) (Ze ac (Ze ab N1)) (Ze ac (Ze ab N2)) HT);go_wp2_with fail;refine CT.mono ?_;rintro e w4 ⟨rfl,bd⟩;have au:=Zb (Zf (Zf HB af) bd);go_wp2;go_roundw
      case rel=>exact⟨k+1,by omega,by go_num,R,Za au⟩
      case measure=>simp[intOf];omega
    ·have⟨z,hz⟩:=ZF (chk ad)
     have R:Hid (Z8 [] L=z):=by
      have e:=Nc (pre:=L.take k) HP ae;show _=_;rw[Za A,(Za ST) (by rw[e];exact ae),e];exact hz
     have HK:=Zb hz;rw[hz] at ae;have gz:(z != 0)=true:=(by simp[ae]);go_wp2_with fail;refine C1.mono ?_;rintro e w2 ⟨rfl,aa⟩;have m3:=Ze aa N3;have ab:=Zb aa;have aj:=Zb (Zf am aa);have br:wr.heap.size<w2.heap.size:=aC _ _ m3;go_wp2_with fail;refine (M8 ka kn kc ad z _ HK (KO.later ab)).mono ?_;rintro e w3 ⟨rfl,ac⟩;have af:=Zb (Zf (Zf HB aj) ac);go_wp2;go_ret;exact⟨by rw[Za R];rfl,Za af⟩
  ·have R:Hid (Z8 [] L=0):=(by show _=_;rw[Za A,Na L k (by rw[Za HZ];omega)]);go_wp2;go_ret;exact⟨by rw[Za R];rfl,Za HB⟩
theorem De(a c w) :
  Calls aB 194 #[F a 0 c] w λe w'=>e = dB (E J 0)/\w=w':=by
 go_enter func194,ntmps194;go_wp2;refine bB 1 ?_;rw[aS];go_wp2;go_ret;exact⟨rfl,rfl⟩
theorem Hs(a)(n c:Nat)(L)(x:Int)(w:World)(hn:n<=6)(hs:SlOk a n c)(h:InsAt w a n L)(hx:Z8 [] L=x) :
  ZH 194 #[F a n c] w (E J x):=by
 subst hx;have⟨hz,hc⟩:=h;by_cases h0:n=0
 ·subst h0;have e:L=[]:=aJ.1 hz;subst e;exact (De a c w).mono λe w' ⟨q1,q2⟩=>⟨q1,q2 ▸ Below.refl _ _⟩
 ·obtain⟨b,off,rfl,hl,ac⟩:=hc (by omega);exact Dd b off n c L w hn hs.1 hz hl ac
theorem Tryz.infoInt:(Tryz.prog.info? 3).map (λi=>(i.zero,i.size,i.bytes))=dG (dG (E J 0),1,8):=by kernel_rfl
def Zfn(L:List Yd)(j:Nat):Value:=E J ((L.map (·.1)).getD j 0)
theorem Sc{x:Yd}(h:x.1<1):Yz x=3:=by unfold Yz;rw[if_pos h]
theorem V7{x:Yd}(h:¬x.1<1):Yz x=chk x.2:=by unfold Yz;rw[if_neg h]
theorem Nj(b off n c:Nat)(L:List Yd)(w:World)(hn:n<=6)(bw:0<n)(hz:L.length=n)(hc:∀ i (h:i<L.length),OutAt w b (off+i*2) L[i]) :
  ZH 195 #[F (dG ⟨b,off,aD⟩) n c] w (E J (Zx L)):=by
 have⟨i0,hi,cc,cd,ce⟩:=bX Tryz.infoInt;have HC:=Zb hc;have HZ:=Zb hz;have HP:=Zb bw;go_enter func195,ntmps195
 go_wp2_with (at_make;refine wpList_make_full _ rfl _ _ 25 rfl w.heap.size 3 i0 (E J 0) 1 underlying25 hi cc cd .i64 .i64 _ _ n rfl rfl rfl rfl (by rw[ce];omega) (by unfold aT;omega) (aE _) ?_;intro w2 bv bs)
 have ca:FillV w.heap.size 3 n (Zfn L) w w2 0:=⟨⟨_,bv,λj hj=>absurd hj (by omega)⟩,(Below.refl _ _).grown bs (aE _) (λk h=>by cases h)⟩;have bo:=Zb ca
 go_loopw [14] (λi wr=>∃ k:Nat,k<=n/\i = E J k/\Hid (Z0 L=Z0 (L.drop k))/\FillV w.heap.size 3 n (Zfn L) w wr k) (λi _=>n - (intOf i).toNat)
 case atStart=>exact⟨0,aI _,rfl,rfl,Za bo⟩
 case round=>
  obtain⟨k,hk,rfl,A,an⟩:=hrel;have HF:=Zb an;have hb:ZD w wr:=an.bel;have HB:=Zb hb;by_cases aq:k<n
  ·have ae:k<L.length:=(by rw[Za HZ];exact aq);have bd:=OutAt.kept _ _ _ _ _ hb (HC k ae);have ST:=Zb (Jx L k ae);have SS:=Zb (Jy L k ae);have az:Zfn L k = E J (L[k]).1:=(by unfold Zfn;simp[ae]);have⟨x,hx⟩:=ZF (L[k]);rw[hx] at bd ST SS az;have bh:=Zb az;have⟨x1,aa⟩:=x;have⟨g1,ka,kn,kc,g3,g4,_⟩:=bd;simp only at g1 g3 g4;have ay:=Zh wr (dA #[E J x1,F ka kn kc] 92);have⟨n1,n2⟩:=U5 wr (E J x1) (F ka kn kc) 92;have ag:=Zb ay;have KO:=Zb (g4.later ay);have N1:=Zb n1;have N2:=Zb n2;by_cases ap:x1<1
   ·have R:Hid (Zx L=3):=by
     have e:Yz (x1,aa)=3:=Sc ap;have e2:Z0 L=3:=(by rw[Za A,(Za ST) (by rw[e];decide),e]);show _=_;unfold Zx;rw[e2];rfl
    have be:=Zb (Zf HB ag);go_wp2;go_ret;exact⟨by rw[Za R];rfl,Za be⟩
   ·by_cases ab:chk aa=0
    ·have R:Hid (Z0 L=Z0 (L.drop (k+1))):=by
      have e:Yz (x1,aa)=0:=(by rw[V7 ap];exact ab);show _=_;rw[Za A,(Za SS) e]
     have HK:=Zb ab;go_wp2_with fail;refine (M8 ka kn kc aa 0 _ HK KO).mono ?_;rintro e w3 ⟨rfl,ad⟩;have m1:=Ze ad N1;have am:=(HF.keep ag).keep ad;have⟨v,cq⟩:=am.old aq;have cn:=am.free k;have bj:=Zb am;have ct:wr.heap.size<w3.heap.size:=aC _ _ m1;go_wp2;go_roundw
     case rel=>exact⟨k+1,by omega,by go_num,R,bj.step aq bh.symm⟩
     case measure=>simp[intOf];omega
    ·have⟨z,hz⟩:=ZF (chk aa)
     have R:Hid (Zx L=z):=by
      have e:Yz (x1,aa)=chk aa:=V7 ap;have e2:Z0 L=z:=(by rw[Za A,(Za ST) (by rw[e];exact ab),e];exact hz);show _=_;unfold Zx;rw[e2,if_neg (by rw[<-hz];exact ab)]
     have HK:=Zb hz;rw[hz] at ab;have gz:(z != 0)=true:=(by simp[ab]);go_wp2_with fail;refine (M8 ka kn kc aa z _ HK KO).mono ?_;rintro e w3 ⟨rfl,ad⟩;have bf:=Zb (Zf (Zf HB ag) ad);go_wp2;go_ret;exact⟨by rw[Za R];rfl,Za bf⟩
  ·have e:k=n:=(by omega);subst e
   have R:Hid (Zx L=(sm 0 (L.map (·.1))).2):=by
    show _=_;unfold Zx;rw[Za A,Ri L k (by rw[Za HZ];exact aE _)];rfl
   have bx:RowAt wr (dG ⟨w.heap.size,0,aD⟩) k (L.map (·.1)):=by
    refine⟨by rw[cO];exact Za HZ,by unfold aT;omega,λ_=>⟨w.heap.size,0,rfl,λi hi=>?_⟩⟩;rw[bO,an.cells (aE _) i hi];rfl
   have SM:=Zb (Zpb (dG ⟨w.heap.size,0,aD⟩) k k (L.map (·.1)) wr bx);have⟨s,hs⟩:=ZF (sm 0 (L.map (·.1)));rw[hs] at SM R;have⟨s1,s2⟩:=s;go_wp2_with fail;refine SM.mono ?_;rintro e w' ⟨rfl,rfl⟩;go_wp2;go_ret;exact⟨by rw[Za R];rfl,Za HB⟩
theorem Bc(a)(n c:Nat)(L)(x:Int)(w:World)(hn:n<=6)(aa:0<n)(h:OutsAt w a n L)(hx:Zx L=x) :
  ZH 195 #[F a n c] w (E J x):=by
 subst hx;have⟨hz,hc⟩:=h;obtain⟨b,off,rfl,_,ac⟩:=hc aa;exact Nj b off n c L w hn aa hz ac
theorem Td(h:Int)(ai ao)(ni ci no co:Nat)(o:Bool)(w:World)(ho:(if ni=0 then decide (1<=h) && decide (h<=1000) else decide (h=0))=o) :
  ZH 193 #[.agg #[E J h,F ai ni ci,F ao no co]] w (dF o):=by
 have HB:=Zb (Zh w (dA #[E J h,F ai ni ci,F ao no co] 50));by_cases h0:ni=0
 ·subst h0;rw[if_pos rfl] at ho;have C:Hid (∀ w,Calls aB 117 #[E J h,E J 1,E J 1000] w λe w'=>e = dB (dF o)/\w=w'):=λw=>Y3 h 1 1000 o w ho.symm;go_enter func193,ntmps193;go_wp2_with fail;refine (C _).mono ?_;rintro e w' ⟨rfl,rfl⟩;go_wp2;go_ret;exact⟨rfl,Za HB⟩
 ·rw[if_neg h0] at ho;have g:((ni:Int) == 0)=false:=by simp;omega
  by_cases hh:h=0
  ·rw[decide_eq_true hh] at ho;subst ho hh;go_enter func193,ntmps193;go_wp2;go_ret;exact⟨rfl,Za HB⟩
  ·rw[decide_eq_false hh] at ho;subst ho;have g2:(h == 0)=false:=(by simp[hh]);go_enter func193,ntmps193;go_wp2;go_ret;exact⟨rfl,Za HB⟩
theorem Kn(h:Int)(I:List InD)(O)(ni:Nat)(hz:I.length=ni):Mq (h,I,O)=if ni=0 then decide (1<=h) && decide (h<=1000) else decide (h=0):=by
 unfold Mq;simp only[hz]
theorem Qo(h:Int)(ai ao ni ci no co I O)(w:World)(hI:InsAt w ai ni I)(hO:OutsAt w ao no O)(sI:SlOk ai ni ci) :
  ZH 150 #[.agg #[E J h,F ai ni ci,F ao no co]] w (E J (Zp (h,I,O))):=by
 have hb:=Zh w (dA #[E J h,F ai ni ci,F ao no co] 50);have⟨n0,n1,n2⟩:=Vd w (E J h) (F ai ni ci) (F ao no co) 50;have HB:=Zb hb;have N0:=Zb n0;have N1:=Zb n1;have N2:=Zb n2;have HI:=Zb (hI.later hb);have HO:=Zb (hO.later hb);have HS:=Zb sI;have zi:=hI.1;have zo:=hO.1;by_cases h1:6<ni
 ·have e:Zp (h,I,O)=2:=by unfold Zp;rw[if_pos (Or.inl (by show 6<I.length;omega))]
  rw[e];have g:(6:Int)<(ni:Int):=by omega
  go_enter func150,ntmps150;go_wp2;go_ret;exact⟨rfl,Za HB⟩
 ·by_cases h2:6<no
  ·have e:Zp (h,I,O)=2:=(by unfold Zp;rw[if_pos (Or.inr (by show 6<O.length;omega))]);rw[e];have g:¬(6:Int)<(ni:Int):=(by omega);have g':(6:Int)<(no:Int):=(by omega);go_enter func150,ntmps150;go_wp2;go_ret;exact⟨rfl,Za HB⟩
  ·have g:¬(6:Int)<(ni:Int):=(by omega);have g':¬(6:Int)<(no:Int):=(by omega);have e1:¬(6<I.length\/6<O.length):=(by omega);by_cases h3:no=0
   ·have e:Zp (h,I,O)=4:=(by unfold Zp;rw[if_neg e1,if_pos (by show O.length=0;omega)]);rw[e];subst h3;go_enter func150,ntmps150;go_wp2;go_ret;exact⟨rfl,Za HB⟩
   ·have g3:((no:Int) == 0)=false:=(by simp;omega);have e3:¬O.length=0:=(by omega);cases hf:Mq (h,I,O) with
    | false=>
     have e:Zp (h,I,O)=3:=(by unfold Zp;rw[if_neg e1,if_neg e3,if_pos hf]);rw[e];have C:=Zb (Td h ai ao ni ci no co false (w.alloc (dA #[E J h,F ai ni ci,F ao no co] 50)) (by rw[<-Kn h I O ni zi];exact hf));go_enter func150,ntmps150;go_wp2_with fail;refine C.mono ?_;rintro e w2 ⟨rfl,aa⟩;have ac:=Zb (Zf HB aa);go_wp2;go_ret;exact⟨rfl,Za ac⟩
    | true=>
     have C:=Zb (Td h ai ao ni ci no co true (w.alloc (dA #[E J h,F ai ni ci,F ao no co] 50)) (by rw[<-Kn h I O ni zi];exact hf));have e4:¬Mq (h,I,O)=false:=(by rw[hf];decide);by_cases h5:Z8 [] I=0
     ·have⟨z,hz⟩:=ZF (Zx O)
      have e:Zp (h,I,O)=z:=by
       unfold Zp;rw[if_neg e1,if_neg e3,if_neg e4,if_neg (by intro q;exact q h5)];exact hz
      rw[e];have H5:=Zb h5;have HZ:=Zb hz;have ah:Hid (ni<=6):=(by show _<=_;omega);have an:Hid (no<=6/\0<no):=⟨by omega,by omega⟩;go_enter func150,ntmps150;go_wp2_with fail;refine C.mono ?_;rintro e w2 ⟨rfl,aa⟩;have m1:=Ze aa N1;have M2:=Zb (Ze aa N2);have bi:w.heap.size<w2.heap.size:=aC _ _ m1;have CI:=Zb (Hs ai ni ci I 0 w2 ah HS (HI.later aa) H5);have ac:=Zb aa;go_wp2_with fail;refine CI.mono ?_;rintro e w3 ⟨rfl,ae⟩;have m2:=Ze ae M2;have bu:w.heap.size<w3.heap.size:=aC _ _ m2;have CO:=Zb (Bc ao no co O z w3 an.1 an.2 ((HO.later ac).later ae) HZ);have aj:=Zb (Zf (Zf HB ac) ae);go_wp2_with fail;refine CO.mono ?_;rintro e w4 ⟨rfl,bh⟩;have az:=Zb (Zf aj bh);go_wp2;go_ret;exact⟨rfl,Za az⟩
     ·have⟨z,hz⟩:=ZF (Z8 [] I)
      have e:Zp (h,I,O)=z:=by
       unfold Zp;rw[if_neg e1,if_neg e3,if_neg e4,if_pos h5];exact hz
      rw[e];have HZ:=Zb hz;rw[hz] at h5;have gz:(z != 0)=true:=(by simp[h5]);have ah:Hid (ni<=6):=(by show _<=_;omega);go_enter func150,ntmps150;go_wp2_with fail;refine C.mono ?_;rintro e w2 ⟨rfl,aa⟩;have m1:=Ze aa N1;have bi:w.heap.size<w2.heap.size:=aC _ _ m1;have CI:=Zb (Hs ai ni ci I z w2 ah HS (HI.later aa) HZ);have ac:=Zb aa;go_wp2_with fail;refine CI.mono ?_;rintro e w3 ⟨rfl,ae⟩;have aj:=Zb (Zf (Zf HB ac) ae);go_wp2;go_ret;exact⟨rfl,Za aj⟩
abbrev Zi:=Int×Int×Int×List (Int×Int)×Int×Bool
abbrev PtD:=Int×Int
def pt(c:Zi):PtD:=(c.1,c.2.1)
def cv(c:Zi):Int:=c.2.2.1
def ck(c:Zi):List (Int×Int):=c.2.2.2.1
def ch(c:Zi):Int:=c.2.2.2.2.1
def cr(c:Zi):Bool:=c.2.2.2.2.2
def lt(p q:PtD):Bool:=decide (p.1<q.1) || (decide (p.1=q.1) && decide (p.2<q.2))
theorem Qf(p q:PtD):lt p q=true↔p.1<q.1\/p.1=q.1/\p.2<q.2:=by simp[lt]
theorem lt_irrefl(p:PtD):lt p p=false:=by
 rw[<-cI,Qf];omega
theorem lt_trans{p q r:PtD}(h1:lt p q=true)(h2:lt q r=true):lt p r=true:=by
 rw[Qf] at *;omega
theorem Re{p q:PtD}(h1:lt p q=true):lt q p=false:=by
 rw[<-cI,Qf];rw[Qf] at h1;omega
theorem An(p q:PtD):lt p q=true\/p=q\/lt q p=true:=by
 rw[Qf,Qf,Prod.ext_iff];omega
theorem J0{p q:PtD}(h:lt p q=true):p≠q:=λe=>by
 subst e;rw[lt_irrefl] at h;exact Bool.noConfusion h
def Ka(p q:PtD):Int:=if lt p q then -1 else if p=q then 0 else 1
theorem Ay{p q:PtD}:Ka p q<0↔lt p q=true:=by
 unfold Ka;split
 ·simp[*]
 ·split
  ·rename_i h e;subst e;simp[lt_irrefl]
  ·simp[*]
theorem Zqx{p q:PtD}:Ka p q=0↔p=q:=by
 unfold Ka;split
 ·rename_i h;simp[J0 h]
 ·split <;> simp[*]
def Srt(L:List Zi):Prop:=L.Pairwise λa b=>lt (pt a) (pt b)=true
theorem Srt.tail{c:Zi}{L}(h:Srt (c :: L)):Srt L:=(List.pairwise_cons.1 h).2
theorem Srt.head{c:Zi}{L}(h:Srt (c :: L)):∀ x∈L,lt (pt c) (pt x)=true:=(List.pairwise_cons.1 h).1
theorem Srt.inj{L}(h:Srt L):∀ {x y:Zi},x∈L->y∈L->pt x=pt y->x=y:=by
 induction L with
 | nil=>intro x y hx;cases hx
 | cons c L ih=>
  intro x y hx hy e
  rcases aW.1 hx with rfl|hx <;> rcases aW.1 hy with rfl|hy
  ·rfl
  ·exact absurd e (J0 (h.head y ‹y∈L›))
  ·exact absurd e.symm (J0 (h.head x ‹x∈L›))
  ·exact ih h.tail hx hy e
theorem Srt.ext:∀ {L M:List Zi},Srt L->Srt M->(∀ x,x∈L↔x∈M)->L=M
 | [],[],_,_,_=>rfl
 | [],c :: M,_,_,h=>absurd ((h c).2 (cN ..)) (by simp)
 | c :: L,[],_,_,h=>absurd ((h c).1 (cN ..)) (by simp)
 | c :: L,d :: M,h1,h2,h=>by
  have e:c=d:=by
   rcases aW.1 ((h c).1 (cN ..)) with e|e
   ·exact e
   rcases aW.1 ((h d).2 (cN ..)) with f|f
   ·exact f.symm
   ·have g:=Re (h2.head _ e);rw[h1.head _ f] at g;exact Bool.noConfusion g
  subst e;rw[Srt.ext h1.tail h2.tail λx=>⟨λhx=>?_,λhx=>?_⟩]
  ·rcases aW.1 ((h x).1 (List.mem_cons_of_mem _ hx)) with rfl|q
   ·exact absurd rfl (J0 (h1.head _ hx))
   ·exact q
  ·rcases aW.1 ((h x).2 (List.mem_cons_of_mem _ hx)) with rfl|q
   ·exact absurd rfl (J0 (h2.head _ hx))
   ·exact q
def Zpw(p:PtD):Bool:=(decide (1<=p.1) && decide (p.1<=120)) && (decide (0<=p.2) && decide (p.2<=5))
def okV(n:Int):Bool:=decide (1<=n) && decide (n<=1000000000)
def okH(n:Int):Bool:=decide (1<=n) && decide (n<=1000)
def okC(c:Zi):Bool:=Zpw (pt c) && (okV (cv c) && okH (ch c))
def ck1(c:Zi):Int:=if okC c=false then 3 else chk (ck c)
theorem Yt{c:Zi}(h:ck1 c=0):1<=c.1/\c.1<=120/\0<=c.2.1/\c.2.1<=5/\1<=cv c/\cv c<=1000000000/\1<=ch c/\ch c<=1000/\chk (ck c)=0:=by
 unfold ck1 at h;split at h
 ·cases h
 ·rename_i q;simp only[Bool.not_eq_false,okC,Zpw,okV,okH,pt,aX,decide_eq_true_eq] at q;exact⟨of_decide_eq_true q.1.1.1,of_decide_eq_true q.1.1.2,of_decide_eq_true q.1.2.1,of_decide_eq_true q.1.2.2,q.2.1.1,q.2.1.2,q.2.2.1,q.2.2.2,h⟩
def Rn(p:Option PtD)(c:Zi):Bool:=match p with|none=>true|some p=>lt p (pt c)
def Ys:Option PtD->Int->List Zi->Int
 | _,_,[]=>0
 | p,s,c :: r=>if ck1 c≠0 then ck1 c else if Rn p c=false then 6 else if 1000000000<s+cv c then 12 else Ys (dG (pt c)) (s+cv c) r
def Zz(L:List Zi):Int:=if 720<L.length then 2 else Ys aD 0 L
def Vg(L:List Zi)(k:Nat):Option PtD:=if k=0 then aD else (L[k - 1]?).map pt
def Zm(L:List Zi):Int:=(L.map cv).sum
def Yk(L:List Yd):Int:=(L.map (·.1)).sum
theorem La:Zm []=0:=rfl
theorem Xx(c:Zi)(L):Zm (c :: L)=cv c+Zm L:=by simp[Zm]
theorem Wj(L M):Zm (L++M)=Zm L+Zm M:=by simp[Zm]
theorem Rq(L:List Zi)(k:Nat)(h:k<L.length):Zm (L.take (k+1))=Zm (L.take k)+cv L[k]:=by
 rw[aH h,Wj,Xx,La];omega
theorem Rp(L:List Yd)(k:Nat)(h:k<L.length):Yk (L.take (k+1))=Yk (L.take k)+L[k].1:=by
 rw[aH h];unfold Yk;rw[bN,List.sum_append];simp
theorem Jl(L:List Zi)(k:Nat)(h:k<L.length):Vg L (k+1)=dG (pt L[k]):=by
 unfold Vg;rw[if_neg (by omega)];simp[h]
theorem Zfo(L:List Zi)(k:Nat)(h:k<L.length)(p:Option PtD)(s:Int):Ys p s (L.drop k)=if ck1 L[k]≠0 then ck1 L[k] else if Rn p L[k]=false then 6 else if 1000000000<s+cv L[k] then 12 else Ys (dG (pt L[k])) (s+cv L[k]) (L.drop (k+1)):=by
 rw[aK h,Ys]
theorem Zbc(L:List Zi)(k:Nat)(h:L.length<=k)(p:Option PtD)(s:Int):Ys p s (L.drop k)=0:=by
 rw[bA h,Ys]
theorem Znm{c:Zi}{r}{p:Option PtD}{s:Int}(h:ck1 c≠0):Ys p s (c :: r)=ck1 c:=by rw[Ys,if_pos h]
theorem Zdz{c:Zi}{r}{p:Option PtD}{s:Int}(h:ck1 c=0)(h2:Rn p c=false):Ys p s (c :: r)=6:=by
 rw[Ys,if_neg (by rw[h];decide),if_pos h2]
theorem Ziq{c:Zi}{r}{p:Option PtD}{s:Int}(h:ck1 c=0)(h2:Rn p c=true)(h3:1000000000<s+cv c):Ys p s (c :: r)=12:=by
 rw[Ys,if_neg (by rw[h];decide),if_neg (by rw[h2];decide),if_pos h3]
theorem Zqz{c:Zi}{r}{p:Option PtD}{s:Int}(h:ck1 c=0)(h2:Rn p c=true)(h3:¬1000000000<s+cv c):Ys p s (c :: r)=Ys (dG (pt c)) (s+cv c) r:=by
 rw[Ys,if_neg (by rw[h];decide),if_neg (by rw[h2];decide),if_neg h3]
theorem Vf:∀ (L:List Zi),(∀ c∈L,0<=cv c)->0<=Zm L
 | [],_=>Int.le_refl _
 | c :: r,h=>by
  rw[Xx];have h1:=h c (cN ..);have h2:=Vf r λx hx=>h x (List.mem_cons_of_mem _ hx);omega
theorem Fs:∀ (L:List Zi) (p:Option PtD) (s:Int),0<=s->s<=1000000000->(Ys p s L=0↔(∀ c∈L,ck1 c=0)/\Srt L/\(∀ c∈L,Rn p c=true)/\s+Zm L<=1000000000)
 | [],p,s,_,h=>by simp[Ys,Srt,Zm,h]
 | c :: r,p,s,h0,h=>by
  by_cases h1:ck1 c=0
  ·have hv:1<=cv c:=(Yt h1).2.2.2.2.1;cases h2:Rn p c with
   | false=>
    rw[Zdz h1 h2];refine⟨λe=>(by cases e),λe=>?_⟩;have:=e.2.2.1 c (cN ..);rw[h2] at this;exact Bool.noConfusion this
   | true=>
    by_cases h3:1000000000<s+cv c
    ·rw[Ziq h1 h2 h3];refine⟨λe=>(by cases e),λe=>?_⟩
     have h4:0<=Zm r:=Vf r λx hx=>by
      have:=(Yt (e.1 x (List.mem_cons_of_mem _ hx))).2.2.2.2.1;omega
     have h5:=e.2.2.2;rw[Xx] at h5;omega
    ·rw[Zqz h1 h2 h3,Fs r (dG (pt c)) (s+cv c) (by omega) (by omega),Xx];constructor
     ·rintro ⟨a1,a2,a3,a4⟩;refine⟨λx hx=>?_,List.pairwise_cons.2 ⟨λx hx=>a3 x hx,a2⟩,λx hx=>?_,by omega⟩
      ·rcases aW.1 hx with rfl|hx
       ·exact h1
       ·exact a1 x hx
      ·rcases aW.1 hx with rfl|hx
       ·exact h2
       ·cases p with
        | none=>rfl
        | some p=>exact lt_trans h2 (a3 x hx)
     ·rintro ⟨a1,a2,a3,a4⟩;exact⟨λx hx=>a1 x (List.mem_cons_of_mem _ hx),Srt.tail a2,λx hx=>Srt.head a2 x hx,by omega⟩
  ·rw[Znm h1];exact⟨λe=>absurd e h1,λe=>absurd (e.1 c (cN ..)) h1⟩
structure Zy(L:List Zi):Prop where
 len:L.length<=720
 one:∀ c∈L,ck1 c=0
 srt:Srt L
 sum:Zm L<=1000000000
theorem Z6(L):Zz L=0↔Zy L:=by
 unfold Zz;by_cases h:720<L.length
 ·rw[if_pos h];exact⟨λe=>(by cases e),λe=>absurd e.len (by omega)⟩
 ·rw[if_neg h,Fs L aD 0 (by omega) (by omega)];exact⟨λ⟨a,b,_,c⟩=>⟨by omega,a,b,by omega⟩,λe=>⟨e.one,e.srt,λ_ _=>rfl,by have:=e.sum;omega⟩⟩
def pos(p:PtD)(L:List Zi):Nat:=L.countP λc=>lt (pt c) p
def We(p:PtD)(L:List Zi):Bool:=L.any λc=>decide (pt c=p)
def Ve(p:PtD)(L:List Zi):Option (Zi×List Zi):=
 match L.find? (λc=>decide (pt c=p)) with|none=>aD|some c=>dG (c,L.filter λc=>decide (pt c≠p))
def J2(c:Zi)(L:List Zi):List Zi:=L.filter (λx=>lt (pt x) (pt c))++c :: L.filter λx=>lt (pt c) (pt x)
theorem Srt.filter{L:List Zi}(h:Srt L)(f:Zi->Bool):Srt (L.filter f):=List.Pairwise.filter f h
theorem Vo(p:PtD)(L):We p L=true↔∃ c∈L,pt c=p:=by simp[We]
theorem Mg{c x:Zi}{L}(h:We (pt c) L=false):x∈J2 c L↔x=c\/x∈L:=by
 unfold J2;rw[bM,aW,List.mem_filter,List.mem_filter];constructor
 ·rintro (⟨a,_⟩|rfl|⟨a,_⟩)
  ·exact .inr a
  ·exact .inl rfl
  ·exact .inr a
 ·rintro (rfl|a)
  ·exact .inr (.inl rfl)
  ·rcases An (pt x) (pt c) with q|q|q
   ·exact .inl ⟨a,q⟩
   ·rw[<-cI,Vo] at h;exact absurd ⟨x,a,q⟩ h
   ·exact .inr (.inr ⟨a,q⟩)
theorem J8{c:Zi}{L}(h:Srt L):Srt (J2 c L):=by
 unfold J2 Srt;rw[List.pairwise_append];refine⟨h.filter _,List.pairwise_cons.2 ⟨λx hx=>(List.mem_filter.1 hx).2,h.filter _⟩,λa ha b hb=>?_⟩;have h1:=(List.mem_filter.1 ha).2
 rcases aW.1 hb with rfl|hb
 ·exact h1
 ·exact lt_trans h1 (List.mem_filter.1 hb).2
theorem U7{p:PtD}:∀ {L:List Zi},Srt L->L.take (pos p L)=L.filter (λx=>lt (pt x) p)/\L.drop (pos p L)=L.filter (λx=>!lt (pt x) p)
 | [],_=>by simp[pos]
 | c :: L,h=>by
  have⟨h1,h2⟩:=U7 (p:=p) h.tail;unfold pos at *;cases hc:lt (pt c) p with
  | true=>
   rw[List.countP_cons_of_pos (by simpa using hc),List.filter_cons_of_pos (by simpa using hc),List.filter_cons_of_neg (by simp[hc]),List.take_succ_cons,List.drop_succ_cons,h1,h2];exact⟨rfl,rfl⟩
  | false=>
   have h3:∀ x∈L,lt (pt x) p=false:=λx hx=>by
    rw[<-cI];intro q;rw[lt_trans (h.head x hx) q] at hc;exact Bool.noConfusion hc
   have e:(c :: L).countP (λc=>lt (pt c) p)=0:=by
    rw[List.countP_eq_zero];intro x hx
    rcases aW.1 hx with rfl|hx
    ·simp[hc]
    ·simp[h3 x hx]
   rw[e,List.take_zero,List.drop_zero];constructor
   ·symm;rw[List.filter_eq_nil_iff]
    intro x hx
    rcases aW.1 hx with rfl|hx
    ·simp[hc]
    ·simp[h3 x hx]
   ·symm;rw[List.filter_eq_self]
    intro x hx
    rcases aW.1 hx with rfl|hx
    ·simp[hc]
    ·simp[h3 x hx]
theorem Zlh(p:PtD)(L:List Zi):pos p L<=L.length:=List.countP_le_length ..
theorem Zaf{p:PtD}{L:List Zi}(h:Srt L):We p L=(decide (pos p L<L.length) && decide ((L[pos p L]?).map pt=dG p)):=by
 have⟨h1,h2⟩:=U7 (p:=p) h;rw[Bool.eq_iff_iff,Vo,aX,decide_eq_true_eq,decide_eq_true_eq];constructor
 ·rintro ⟨c,hc,e⟩;have hd:c∈L.drop (pos p L):=by rw[h2,List.mem_filter];exact⟨hc,by rw[e,lt_irrefl];rfl⟩
  have hl:pos p L<L.length:=by
   rcases Nat.lt_or_ge (pos p L) L.length with q|q
   ·exact q
   ·rw[bA q] at hd;cases hd
  refine⟨hl,?_⟩;have hs:Srt (L.drop (pos p L)):=by rw[h2];exact h.filter _
  rw[aK hl] at hd hs;rw[bR hl,Option.map_some]
  rcases aW.1 hd with rfl|q
  ·rw[e]
  ·have g:=hs.head c q;have h3:L[pos p L]∈L.drop (pos p L):=(by rw[aK hl];exact cN ..);rw[h2,List.mem_filter] at h3;rw[e] at g;rw[g] at h3;exact absurd h3.2 (by decide)
 ·rintro ⟨hl,e⟩;rw[bR hl,Option.map_some,aZ] at e;exact⟨L[pos p L],aQ hl,e⟩
theorem Zbt{p:PtD}{L}(h:We p L=false):Ve p L=aD:=by
 unfold Ve
 have:L.find? (λc=>decide (pt c=p))=aD:=by
  rw[List.find?_eq_none];intro x hx;rw[<-cI,Vo] at h;simp only[decide_eq_true_eq];exact λe=>h ⟨x,hx,e⟩
 rw[this]
theorem Dk{p:PtD}{L:List Zi}(h:Srt L){c:Zi}(hc:c∈L)(e:pt c=p):Ve p L=dG (c,L.filter λc=>decide (pt c≠p)):=by
 unfold Ve
 have:L.find? (λc=>decide (pt c=p))=dG c:=by
  cases q:L.find? (λc=>decide (pt c=p)) with
  | none=>rw[List.find?_eq_none] at q;exact absurd (decide_eq_true e) (q c hc)
  | some d=>
   have h1:=List.find?_some q;have h2:=List.mem_of_find?_eq_some q;simp only[decide_eq_true_eq] at h1;rw[h.inj h2 hc (by rw[h1,e])]
 rw[this]
theorem Tn{p:PtD}{L M:List Zi}{c:Zi}(h:Ve p L=dG (c,M)):c∈L/\pt c=p/\M=L.filter λc=>decide (pt c≠p):=by
 unfold Ve at h;split at h
 ·cases h
 ·rename_i d q;simp only[aZ,Prod.mk.injEq] at h;obtain⟨rfl,rfl⟩:=h;have h1:=List.find?_some q;simp only[decide_eq_true_eq] at h1;exact⟨List.mem_of_find?_eq_some q,h1,rfl⟩
theorem Zjt{p:PtD}{L:List Zi}(h:Srt L)(hl:pos p L<L.length)(e:pt L[pos p L]=p):Ve p L=dG (L[pos p L],L.take (pos p L)++L.drop (pos p L+1)):=by
 rw[Dk h (aQ hl) e];have⟨h1,h2⟩:=U7 (p:=p) h;have h3:=aK hl;rw[h2] at h3;have hs:Srt (L[pos p L] :: L.drop (pos p L+1)):=by rw[<-h3];exact h.filter _
 have e1:L.filter (λc=>decide (pt c≠p))=L.take (pos p L)++L.drop (pos p L+1):=by
  have e2:L=L.take (pos p L)++(L[pos p L] :: L.drop (pos p L+1)):=by rw[<-aK hl,List.take_append_drop]
  have e3:L.filter (λc=>decide (pt c≠p))=(L.take (pos p L)++(L[pos p L] :: L.drop (pos p L+1))).filter (λc=>decide (pt c≠p)):=congrArg _ e2;rw[e3,List.filter_append,List.filter_cons_of_neg (by simp[e])]
  congr 1
  ·rw[List.filter_eq_self];intro x hx;rw[h1,List.mem_filter] at hx;exact decide_eq_true (J0 hx.2)
  ·rw[List.filter_eq_self];intro x hx;have:=hs.head x hx;rw[e] at this;exact decide_eq_true (Ne.symm (J0 this))
 rw[e1]
theorem Zex{c:Zi}{L:List Zi}(h:Srt L)(hn:We (pt c) L=false):J2 c L=L.take (pos (pt c) L)++c :: L.drop (pos (pt c) L):=by
 have⟨h1,h2⟩:=U7 (p:=pt c) h;unfold J2;rw[h1,h2]
 congr 2
 refine List.filter_congr λx hx=>?_;rw[Bool.eq_iff_iff]
 rcases An (pt x) (pt c) with q|q|q
 ·simp[q,Re q]
 ·rw[<-cI,Vo] at hn;exact absurd ⟨x,hx,q⟩ hn
 ·simp[q,Re q]
def cnV(x:Zi)(a:Option Addr)(n c:Nat):Value:=.agg #[E J x.1,E J x.2.1,E J (cv x),F a n c,E J (ch x),dF (cr x)]
def CoinAt(w:World)(b o:Nat)(x:Zi):Prop:=
 w.cell? ⟨b,o,aD⟩=dG (E J x.1)/\w.cell? ⟨b,o+1,aD⟩=dG (E J x.2.1)/\w.cell? ⟨b,o+2,aD⟩=dG (E J (cv x)) /\
 (∃ a n c,w.cell? ⟨b,o+3,aD⟩=dG (F a n c)/\OpsAt w a n (ck x)/\SlOk a n c) /\
 w.cell? ⟨b,o+4,aD⟩=dG (E J (ch x))/\w.cell? ⟨b,o+5,aD⟩=dG (dF (cr x))
theorem CoinAt.kept:Aa CoinAt:=λ_ _ _ _ _ hb h=>by
 have⟨h1,h2,h3,⟨a,n,c,h4,h5,h6⟩,h7,h8⟩:=h;exact⟨Ze hb h1,Ze hb h2,Ze hb h3,⟨a,n,c,Ze hb h4,h5.later hb,h6⟩,Ze hb h7,Ze hb h8⟩
def CoinsAt(w:World)(a:Option Addr)(len:Nat)(l:List Zi):Prop:=RowsAt CoinAt 6 w a len l
theorem CoinsAt.later{w w':World}{a len l}(h:CoinsAt w a len l)(hb:ZD w w'):CoinsAt w' a len l:=RowsAt.later CoinAt.kept h hb
theorem Kf(w:World)(a b c d e f)(t:aY):(w.alloc (dA #[a,b,c,d,e,f] t)).cell? ⟨w.heap.size,0,aD⟩=dG a/\(w.alloc (dA #[a,b,c,d,e,f] t)).cell? ⟨w.heap.size,1,aD⟩=dG b/\(w.alloc (dA #[a,b,c,d,e,f] t)).cell? ⟨w.heap.size,2,aD⟩=dG c /\
  (w.alloc (dA #[a,b,c,d,e,f] t)).cell? ⟨w.heap.size,3,aD⟩=dG d/\(w.alloc (dA #[a,b,c,d,e,f] t)).cell? ⟨w.heap.size,4,aD⟩=dG e/\(w.alloc (dA #[a,b,c,d,e,f] t)).cell? ⟨w.heap.size,5,aD⟩=dG f:=by
 refine⟨?_,?_,?_,?_,?_,?_⟩ <;> (rw[bG _ _ _ _ rfl];rfl)
def Kb(x y:Int):Int:=if x<y then -1 else if y<x then 1 else 0
theorem Zaa(x:Int)(w):Calls aB 213 #[E J x] w λe w'=>e = dB (dF false)/\w=w':=by
 go_enter func213,ntmps213;go_wp2;go_ret;exact⟨rfl,rfl⟩
theorem Da(x y:Int)(w):Calls aB 240 #[E J x,E J y] w λe w'=>e = dB (E J (Kb x y))/\w=w':=by
 have C1:=Zb (Zaa x);have C2:=Zb (Zaa y);by_cases h1:x<y
 ·have e:Kb x y = -1:=by simp[Kb,h1]
  rw[e];go_enter func240,ntmps240;go_wp2_with fail;refine (C1 _).mono ?_;rintro e w' ⟨rfl,rfl⟩;go_wp2_with fail;refine (C2 _).mono ?_;rintro e w' ⟨rfl,rfl⟩;go_wp2;go_ret;exact⟨rfl,rfl⟩
 ·by_cases h2:y<x
  ·have e:Kb x y=1:=(by simp[Kb,h1,h2]);rw[e];go_enter func240,ntmps240;go_wp2_with fail;refine (C1 _).mono ?_;rintro e w' ⟨rfl,rfl⟩;go_wp2_with fail;refine (C2 _).mono ?_;rintro e w' ⟨rfl,rfl⟩;go_wp2;go_ret;exact⟨rfl,rfl⟩
  ·have e:Kb x y=0:=(by simp[Kb,h1,h2]);rw[e];go_enter func240,ntmps240;go_wp2_with fail;refine (C1 _).mono ?_;rintro e w' ⟨rfl,rfl⟩;go_wp2_with fail;refine (C2 _).mono ?_;rintro e w' ⟨rfl,rfl⟩;go_wp2;go_ret;exact⟨rfl,rfl⟩
def orI(x y:Int):Int:=if x=0 then y else x
theorem Znk(x y:Int)(b c:Nat)(w:World)(h1:w.cell? ⟨b,0,aD⟩=dG (E J x))(h2:w.cell? ⟨b,1,aD⟩=dG (E J y)) :
  Calls aB 239 #[F (dG ⟨b,0,aD⟩) 2 c] w λe w'=>e = dB (E J (orI x y))/\w=w':=by
 by_cases hx:x=0
 ·subst hx;by_cases hy:y=0
  ·subst hy;have e:orI 0 0=0:=rfl;rw[e];go_enter func239,ntmps239;go_wp2;refine bB 3 ?_;rw[aS];go_wp2;rw[aS];go_wp2;rw[aS];go_wp2;go_ret;exact⟨rfl,rfl⟩
  ·have e:orI 0 y=y:=rfl;rw[e];have gy:(y != 0)=true:=(by simp[hy]);go_enter func239,ntmps239;go_wp2;refine bB 2 ?_;rw[aS];go_wp2;rw[aS];go_wp2;go_ret;exact⟨rfl,rfl⟩
 ·have e:orI x y=x:=by simp[orI,hx]
  rw[e];have gx:(x != 0)=true:=by simp[hx]
  go_enter func239,ntmps239;go_wp2;refine bB 1 ?_;rw[aS];go_wp2;go_ret;exact⟨rfl,rfl⟩
theorem Zqw(p q:PtD):orI (Kb p.1 q.1) (Kb p.2 q.2)=Ka p q:=by
 have⟨a,b⟩:=p;have⟨c,d⟩:=q;unfold orI Kb Ka lt;simp only[Bool.or_eq_true,aX,decide_eq_true_eq,Prod.mk.injEq]
 repeat' split
 all_goals omega
theorem Yo(w:World)(x y)(t:aY):(w.alloc (dA #[x,y] t)).cell? ⟨w.heap.size,0,aD⟩=dG x/\(w.alloc (dA #[x,y] t)).cell? ⟨w.heap.size,1,aD⟩=dG y:=
 ⟨by rw[bG _ _ _ _ rfl];rfl,by rw[bG _ _ _ _ rfl];rfl⟩
theorem Zj(w:World):ZD w w.drew:=⟨rfl,rfl,rfl,aE _,λ_ _=>rfl⟩
theorem T9(p q:PtD)(z:Int)(w:World)(hz:Ka p q=z) :
  ZH 188 #[.agg #[E J p.1,E J p.2],.agg #[E J q.1,E J q.2]] w (E J z):=by
 have⟨a,b⟩:=p;have⟨c,d⟩:=q;have e:=Zqw (a,b) (c,d);rw[hz] at e;simp only at e ⊢;have ac:=Zb e;have⟨X,hX⟩:=ZG ((w.alloc (dA #[E J a,E J b] 87)).alloc (dA #[E J c,E J d] 87));have HB:Hid (ZD w X):=by rw[hX];exact (Zf (Zh w (dA #[E J a,E J b] 87)) (Zh _ (dA #[E J c,E J d] 87)))
 have x0:X.cell? ⟨w.heap.size,0,aD⟩=dG (E J a):=by rw[hX];exact Ze (Zh _ _) (Yo w _ _ _).1
 have x1:X.cell? ⟨w.heap.size,1,aD⟩=dG (E J b):=by rw[hX];exact Ze (Zh _ _) (Yo w _ _ _).2
 have x2:X.cell? ⟨w.heap.size+1,0,aD⟩=dG (E J c):=by rw[hX];have:=(Yo (w.alloc (dA #[E J a,E J b] 87)) (E J c) (E J d) 87).1;simp at this ⊢
 have x3:X.cell? ⟨w.heap.size+1,1,aD⟩=dG (E J d):=by rw[hX];have:=(Yo (w.alloc (dA #[E J a,E J b] 87)) (E J c) (E J d) 87).2;simp at this ⊢
 clear hz e;go_enter func188,ntmps188;go_wp2_with fail;rw[<-hX];clear hX
 go_region_held3 (λw'=>ZD X w'/\w'.cell? ⟨w.heap.size,0,aD⟩=dG (E J a)/\w'.cell? ⟨w.heap.size,1,aD⟩=dG (E J b)/\w'.cell? ⟨w.heap.size+1,0,aD⟩=dG (E J c)/\w'.cell? ⟨w.heap.size+1,1,aD⟩=dG (E J d))
  (first
  | exact⟨Zj _,x0,x1,x2,x3⟩
  | (go_split_ands;exact⟨by assumption,by assumption,by assumption,by assumption,by assumption⟩)
  | (go_split_ands;exact⟨Zf (by assumption) (Zh _ _),Ze (Zh _ _) (by assumption),Ze (Zh _ _) (by assumption),Ze (Zh _ _) (by assumption),Ze (Zh _ _) (by assumption)⟩))
  (first
  | (go_at_call 240;refine (Da _ _ _).mono ?_;rintro e w' ⟨rfl,rfl⟩)
  | (go_at_call 239;refine (Znk (Kb a c) (Kb b d) _ 2 _ ?_ ?_).mono ?_;exact (Yo _ _ _ _).1;exact (Yo _ _ _ _).2;rintro e w' ⟨rfl,rfl⟩))
 rename_i hH;have HH:=Zb (Zf HB hH.1);go_wp2;go_ret;exact⟨by rw[<-Za ac];rfl,Za HH⟩
theorem Ux(h:Int)(b:Bool)(w)(hb:okH h=b) :
  Calls aB 200 #[E J h] w λe w'=>e = dB (dF b)/\w=w':=by
 have C:=Zb (Y3 h 1 1000 b w (by rw[<-hb];rfl));go_enter func200,ntmps200;go_wp2_with fail;refine C.mono ?_;rintro e w' ⟨rfl,rfl⟩;go_wp2;go_ret;exact⟨rfl,rfl⟩
theorem Zda(a len cap l)(x:Int)(w:World)(hx:chk l=x)(h:OpsAt w a len l) :
  ZH 238 #[F a len cap] w (E J x):=by
 subst hx;exact U9 a len cap l w h
theorem Bd(x:Zi)(a)(n c:Nat)(z:Int)(w:World)(hO:OpsAt w a n (ck x))(hz:ck1 x=z) :
  ZH 187 #[cnV x a n c] w (E J z):=by
 have⟨x1,x2,x3,k,x4,x5⟩:=x;unfold cnV;simp only[cv,ck,ch,cr] at hO ⊢;have⟨X,hX⟩:=ZG (w.alloc (dA #[E J x1,E J x2,E J x3,F a n c,E J x4,dF x5] 162));have⟨n0,n1,n2,n3,n4,n5⟩:=Kf w (E J x1) (E J x2) (E J x3) (F a n c) (E J x4) (dF x5) 162;rw[<-hX] at n0 n1 n2 n3 n4 n5;have hb:ZD w X:=by rw[hX];exact Zh _ _
 have HB:=Zb hb;have HO:=Zb (hO.later hb);have N2:=Zb n2;have N3:=Zb n3;have N4:=Zb n4;cases hp:Zpw (x1,x2) with
 | false=>
  have e:z=3:=by rw[<-hz];unfold ck1;rw[if_pos (by unfold okC pt;rw[hp];rfl)]
  subst e;have C1:=Zb (Jr x1 x2 false X hp);go_enter func187,ntmps187;go_wp2_with fail;rw[<-hX];go_wp2_with fail;refine C1.mono ?_;rintro e w2 ⟨rfl,aa⟩;have ab:=Zb (Zf HB aa);go_wp2;go_ret;exact⟨rfl,Za ab⟩
 | true=>
  have C1:=Zb (Jr x1 x2 true X hp);cases hv:okV x3 with
  | false=>
   have e:z=3:=(by rw[<-hz];unfold ck1;rw[if_pos (by unfold okC pt;rw[hp];simp only[cv];rw[hv];rfl)]);subst e;have C2:=Zb (λw=>Y3 x3 1 1000000000 false w (by rw[<-hv];rfl));go_enter func187,ntmps187;go_wp2_with fail;rw[<-hX];go_wp2_with fail;refine C1.mono ?_;rintro e w2 ⟨rfl,aa⟩;have m2:=Ze aa N2;have an:w.heap.size<w2.heap.size:=aC _ _ m2;have ab:=Zb (Zf HB aa);go_wp2_with fail;refine (C2 _).mono ?_;rintro e w3 ⟨rfl,rfl⟩;go_wp2;go_ret;exact⟨rfl,Za ab⟩
  | true=>
   have C2:=Zb (λw=>Y3 x3 1 1000000000 true w (by rw[<-hv];rfl));cases hh:okH x4 with
   | false=>
    have e:z=3:=(by rw[<-hz];unfold ck1;rw[if_pos (by unfold okC pt;rw[hp];simp only[cv,ch];rw[hv,hh];rfl)]);subst e;have C3:=Zb (λw=>Ux x4 false w hh);go_enter func187,ntmps187;go_wp2_with fail;rw[<-hX];go_wp2_with fail;refine C1.mono ?_;rintro e w2 ⟨rfl,aa⟩;have m2:=Ze aa N2;have m4:=Ze aa N4;have an:w.heap.size<w2.heap.size:=aC _ _ m2;have ab:=Zb (Zf HB aa);go_wp2_with fail;refine (C2 _).mono ?_;rintro e w3 ⟨rfl,rfl⟩;go_wp2_with fail;refine (C3 _).mono ?_;rintro e w3 ⟨rfl,rfl⟩;go_wp2;go_ret;exact⟨rfl,Za ab⟩
   | true=>
    have e:chk k=z:=(by rw[<-hz];unfold ck1;rw[if_neg (by unfold okC pt;rw[hp];simp only[cv,ch];rw[hv,hh];decide)];rfl);have C3:=Zb (λw=>Ux x4 true w hh);have au:=Zb e;go_enter func187,ntmps187;go_wp2_with fail;rw[<-hX];go_wp2_with fail;refine C1.mono ?_;rintro e w2 ⟨rfl,aa⟩;have m2:=Ze aa N2;have m3:=Ze aa N3;have m4:=Ze aa N4;have an:w.heap.size<w2.heap.size:=aC _ _ m2;have C4:=Zb (Zda a n c k z w2 au (HO.later aa));have ab:=Zb (Zf HB aa);go_wp2_with fail;refine (C2 _).mono ?_;rintro e w3 ⟨rfl,rfl⟩;go_wp2_with fail;refine (C3 _).mono ?_;rintro e w3 ⟨rfl,rfl⟩;go_wp2_with fail;refine C4.mono ?_;rintro e w4 ⟨rfl,ay⟩;have av:=Zb (Zf ab ay);go_wp2;go_ret;exact⟨rfl,Za av⟩
theorem Gl(w:World)(n:Nat):ZD w (w.drewN n):=⟨rfl,rfl,rfl,aE _,λ_ _=>rfl⟩
theorem CoinAt.val{w:World}{b o}{x:Zi}(h:CoinAt w b o x):∃ a n c,w.cell? ⟨b,o,aD⟩=dG (E J x.1)/\w.cell? ⟨b,o+1,aD⟩=dG (E J x.2.1)/\w.cell? ⟨b,o+2,aD⟩=dG (E J (cv x)) /\
  w.cell? ⟨b,o+3,aD⟩=dG (F a n c)/\w.cell? ⟨b,o+4,aD⟩=dG (E J (ch x))/\w.cell? ⟨b,o+5,aD⟩=dG (dF (cr x))/\OpsAt w a n (ck x)/\SlOk a n c:=by
 have⟨h1,h2,h3,⟨a,n,c,h4,h5,h6⟩,h7,h8⟩:=h;exact⟨a,n,c,h1,h2,h3,h4,h7,h8,h5,h6⟩
theorem Bm(b off n c:Nat)(L:List Zi)(w:World)(hn:n<=720)(hz:L.length=n)(hc:∀ i (h:i<L.length),CoinAt w b (off+i*6) L[i]) :
  ZH 142 #[F (dG ⟨b,off,aD⟩) n c] w (E J (Ys aD 0 L)):=by
 have HC:=Zb hc;have HZ:=Zb hz;go_enter func142,ntmps142;go_wp2
 go_loopw [3,12] (λsv i wr=>∃ (k:Nat) (S:Int),k<=n/\i = E J k/\sv = E J S/\0<=S/\S<=1000000000/\Hid (Ys aD 0 L=Ys (Vg L k) S (L.drop k))/\ZD w wr) (λ_ i _=>n - (intOf i).toNat)
 case atStart=>exact⟨0,0,aI _,rfl,rfl,by decide,by decide,rfl,Below.refl _ _⟩
 case round=>
  obtain⟨k,S,hk,rfl,rfl,dd,de,A,hb⟩:=hrel;have HB:=Zb hb;by_cases cj:k<n
  ·have ar:k<L.length:=(by rw[Za HZ];exact cj);have bv:=CoinAt.kept _ _ _ _ _ hb (HC k ar);have ST:=Zb (Zfo L k ar (Vg L k) S)
   have HL:Hid (∀ j,k=j+1->∃ q,Vg L k=dG (pt q)/\CoinAt wr b (off+j*6) q):=λj hj=>by
    have ay:j<L.length:=(by omega);exact⟨L[j],by rw[hj];exact Jl L j ay,CoinAt.kept _ _ _ _ _ hb (HC j ay)⟩
   have HN:Hid (k+1<=L.length->Vg L (k+1)=dG (pt L[k])):=λ_=>Jl L k ar;have⟨x,hx⟩:=ZF (L[k]);rw[hx] at bv ST HN;have A2:Hid (Ys aD 0 L=if ck1 x≠0 then ck1 x else if Rn (Vg L k) x=false then 6 else if 1000000000<S+cv x then 12 else Ys (dG (pt x)) (S+cv x) (L.drop (k+1))):=(by show _=_;rw[Za A,Za ST]);have PN:Hid (Vg L (k+1)=dG (pt x)):=HN ar;have⟨a,m,d,g1,g2,g3,g4,g5,g6,hO,_⟩:=bv.val;have⟨X,hX⟩:=ZG (wr.alloc (dA #[E J x.1,E J x.2.1,E J (cv x),F a m d,E J (ch x),dF (cr x)] 162));have⟨n0,n1,n2,n3,n4,n5⟩:=Kf wr (E J x.1) (E J x.2.1) (E J (cv x)) (F a m d) (E J (ch x)) (dF (cr x)) 162;rw[<-hX] at n0 n1 n2 n3 n4 n5;have aq:ZD wr X:=(by rw[hX];exact Zh _ _);have dm:wr.heap.size<X.heap.size:=aC _ _ n0;have am:=Zb aq;have HO:=Zb (hO.later aq);have N0:=Zb n0;have N1:=Zb n1;have N2:=Zb n2;have⟨z,hz⟩:=ZF (ck1 x);have C1:=Zb (Bd x a m d z X HO hz);rw[hz] at A2;have HX:=Zb hX;by_cases az:z=0
   ·subst az;have K:=Yt hz;have cn:1<=cv x:=K.2.2.2.2.1;have cp:cv x<=1000000000:=K.2.2.2.2.2.1
    have A3:Hid (Ys aD 0 L=if Rn (Vg L k) x=false then 6 else if 1000000000<S+cv x then 12 else Ys (dG (pt x)) (S+cv x) (L.drop (k+1))):=by
     have h:=Za A2;rw[if_neg (by decide)] at h;exact h
    have⟨v,hv⟩:=ZF (cv x);rw[hv] at cn cp A3 n2 N2 g3 HX;unfold cnV at C1;rw[hv] at C1;by_cases ak:k=0
    ·have A4:Hid (Ys aD 0 L=if 1000000000<S+v then 12 else Ys (dG (pt x)) (S+v) (L.drop (k+1))):=by
      have h:=Za A3;rw[ak] at h;rw[if_neg (by show ¬true=false;decide)] at h;rw[ak];exact h
     have hg:decide ((0:Int)<(k:Int))=false:=(by rw[ak];decide);have dg:decide (0<k)=false:=(by rw[ak];decide);clear ak;go_wp2_with fail;rw[<-Za HX];go_wp2_with fail;refine C1.mono ?_;rintro e w2 ⟨rfl,aa⟩;have m2:=Ze aa N2;have bw:wr.heap.size<w2.heap.size:=aC _ _ m2;have ac:=Zb (Zf (Zf HB am) aa);go_wp2_with fail
     go_quiet (fail)
     by_cases hf:1000000000<S+v
     ·have R:Hid (Ys aD 0 L=12):=(by show _=_;rw[Za A4,if_pos hf]);go_wp2;go_ret;exact⟨by rw[Za R];rfl,Zf ac (Gl _ _)⟩
     ·have R:Hid (Ys aD 0 L=Ys (Vg L (k+1)) (S+v) (L.drop (k+1))):=(by show _=_;rw[Za A4,if_neg hf,Za PN]);go_wp2;go_roundw
      case rel=>exact⟨k+1,S+v,by omega,by go_num,rfl,by omega,by omega,R,Zf ac (Gl _ _)⟩
      case measure=>simp[intOf];omega
    ·obtain⟨j,rfl⟩:∃ j,k=j+1:=⟨k - 1,by omega⟩;have⟨q,hq,cm⟩:=HL j rfl;have⟨_,_,_,q1,q2,_,_,_,_,_,_⟩:=cm.val
     have A5:Hid (Ys aD 0 L=if lt (pt q) (pt x)=false then 6 else if 1000000000<S+v then 12 else Ys (dG (pt x)) (S+v) (L.drop (j+1+1))):=by
      have h:=Za A3;rw[hq] at h;exact h
     have Q1:=Zb (Ze aq q1);have Q2:=Zb (Ze aq q2);have G:Hid (decide ((0:Int)<((j+1:Nat):Int))=true):=(by show _=_;simp);have di:(j:Int)<(n:Int):=(by omega);have dp:IntKind.i64.wrap (j:Int)=(j:Int):=(by rw[aP];omega);have dq:IntKind.i64.wrap ((j:Int)+1 - 1)=(j:Int):=(by rw[aP];omega);have ay:j<n:=(by omega);have dh:(0:Int)<=(j:Int):=(by omega);have dn:IntKind.i64.wrap (((j+1:Nat):Int) - 1)=(j:Int):=(by rw[aP];omega);cases hl:lt (pt q) (pt x) with
     | false=>
      have R:Hid (Ys aD 0 L=6):=(by show _=_;rw[Za A5,if_pos hl]);have⟨y,hy⟩:=ZF (Ka (pt q) (pt x))
      have ct:0<=y:=by
       rw[<-hy];refine Int.not_lt.1 λh=>?_;rw[Ay,hl] at h;exact Bool.noConfusion h
      have CC:=Zb (λw=>T9 (pt q) (pt x) y w hy);unfold pt at CC;go_wp2_with fail;rw[<-Za HX];go_wp2_with fail;refine C1.mono ?_;rintro e w2 ⟨rfl,aa⟩;have m0:=Ze aa N0;have m1:=Ze aa N1;have p0:=Ze aa Q1;have p1:=Ze aa Q2;have bw:wr.heap.size<w2.heap.size:=aC _ _ m0;have ac:=Zb (Zf (Zf HB am) aa);have hG:=Za G;go_wp2_with fail
      go_region_held3 (λw'=>ZD w2 w'/\w'.cell? ⟨wr.heap.size,0,aD⟩=dG (E J x.1)/\w'.cell? ⟨wr.heap.size,1,aD⟩=dG (E J x.2.1)/\w'.cell? ⟨b,off+j*6,aD⟩=dG (E J q.1)/\w'.cell? ⟨b,off+j*6+1,aD⟩=dG (E J q.2.1))
       (first
       | exact⟨Zj _,m0,m1,p0,p1⟩
       | (go_split_ands;refine⟨Zf (by assumption) ab,Ze ab (by assumption),Ze ab (by assumption),Ze ab (by assumption),Ze ab (by assumption)⟩))
       (first|(go_at_call 188;refine (CC _).mono ?_;rintro e w' ⟨rfl,ab⟩))
      rename_i hH;have HH:=Zb (Zf ac hH.1);go_wp2;go_ret;exact⟨by rw[Za R];rfl,Za HH⟩
     | true=>
      have A4:Hid (Ys aD 0 L=if 1000000000<S+v then 12 else Ys (dG (pt x)) (S+v) (L.drop (j+1+1))):=by
       have h:=Za A5;rw[if_neg (by rw[hl];decide)] at h;exact h
      have⟨y,hy⟩:=ZF (Ka (pt q) (pt x));have ct:y<0:=(by rw[<-hy,Ay];exact hl);have CC:=Zb (λw=>T9 (pt q) (pt x) y w hy);unfold pt at CC;go_wp2_with fail;rw[<-Za HX];go_wp2_with fail;refine C1.mono ?_;rintro e w2 ⟨rfl,aa⟩;have m0:=Ze aa N0;have m1:=Ze aa N1;have M2:=Zb (Ze aa N2);have p0:=Ze aa Q1;have p1:=Ze aa Q2;have bw:wr.heap.size<w2.heap.size:=aC _ _ m0;have ac:=Zb (Zf (Zf HB am) aa);have hG:=Za G;go_wp2_with fail
      go_region_held3 (λw'=>ZD w2 w'/\w'.cell? ⟨wr.heap.size,0,aD⟩=dG (E J x.1)/\w'.cell? ⟨wr.heap.size,1,aD⟩=dG (E J x.2.1)/\w'.cell? ⟨b,off+j*6,aD⟩=dG (E J q.1)/\w'.cell? ⟨b,off+j*6+1,aD⟩=dG (E J q.2.1))
       (first
       | exact⟨Zj _,m0,m1,p0,p1⟩
       | (go_split_ands;refine⟨Zf (by assumption) ab,Ze ab (by assumption),Ze ab (by assumption),Ze ab (by assumption),Ze ab (by assumption)⟩))
       (first|(go_at_call 188;refine (CC _).mono ?_;rintro e w' ⟨rfl,ab⟩))
      rename_i hH;have HH:=Zb (Zf ac hH.1);have m2:=Ze hH.1 M2;have dl:=aC _ _ m2;by_cases hf:1000000000<S+v
      ·have R:Hid (Ys aD 0 L=12):=(by show _=_;rw[Za A4,if_pos hf]);go_wp2;go_ret;exact⟨by rw[Za R];rfl,Za HH⟩
      ·have R:Hid (Ys aD 0 L=Ys (Vg L (j+1+1)) (S+v) (L.drop (j+1+1))):=(by show _=_;rw[Za A4,if_neg hf,Za PN]);go_wp2;go_roundw
       case rel=>exact⟨j+1+1,S+v,by omega,by go_num,rfl,by omega,by omega,R,Za HH⟩
       case measure=>simp[intOf];omega
   ·have R:Hid (Ys aD 0 L=z):=(by show _=_;rw[Za A2,if_pos az]);have gz:(z != 0)=true:=(by simp[az]);unfold cnV at C1;go_wp2_with fail;rw[<-Za HX];go_wp2_with fail;refine C1.mono ?_;rintro e w2 ⟨rfl,aa⟩;have ac:=Zb (Zf (Zf HB am) aa);go_wp2;go_ret;exact⟨by rw[Za R];rfl,Za ac⟩
  ·have R:Hid (Ys aD 0 L=0):=(by show _=_;rw[Za A,Zbc L k (by rw[Za HZ];omega)]);go_wp2;go_ret;exact⟨by rw[Za R];rfl,Za HB⟩
theorem Bo(a)(n c:Nat)(w)(h:720<n) :
  Calls aB 142 #[F a n c] w λe w'=>e = dB (E J 2)/\w=w':=by
 go_enter func142,ntmps142;go_wp2;go_ret;exact⟨rfl,rfl⟩
theorem Bn(a c w) :
  Calls aB 142 #[F a 0 c] w λe w'=>e = dB (E J 0)/\w=w':=by
 go_enter func142,ntmps142;go_wp2;refine bB 1 ?_;rw[aS];go_wp2;go_ret;exact⟨rfl,rfl⟩
theorem Vw(a n c L)(z:Int)(w:World)(h:CoinsAt w a n L)(hz:Zz L=z) :
  ZH 142 #[F a n c] w (E J z):=by
 subst hz;have⟨hl,hc⟩:=h;unfold Zz;rw[hl];by_cases h1:720<n
 ·rw[if_pos h1];exact (Bo a n c w h1).mono λe w' ⟨x,y⟩=>⟨x,y ▸ Below.refl _ _⟩
 ·rw[if_neg h1];by_cases h2:n=0
  ·subst h2;have e:L=[]:=aJ.1 hl;subst e;exact (Bn a c w).mono λe w' ⟨x,y⟩=>⟨x,y ▸ Below.refl _ _⟩
  ·obtain⟨b,off,rfl,_,ac⟩:=hc (by omega);exact Bm b off n c L w (by omega) hl ac
def laid(L:List Value)(off:Nat)(cs:List Value):List Value:=L.take off++cs++L.drop (off+cs.length)
theorem Qg(L:List Value)(off:Nat)(cs:List Value)(h:off+cs.length<=L.length):(laid L off cs).length=L.length:=by simp[laid];omega
section
variable {P : Program}
theorem Ub(w:World)(dT sT ty elem:aY)(g o ac ah:Nat)(a:Addr)(aa ag k:Nat)(ab:Array Value)(t:aY)(cs:List Value)
  (hu:P.underlying dT=dG (.slice elem)) (hs:(P.info? elem).map (·.size)=dG k)
  (hg:w.heap[g]? = dG (dA ab t (0,0))) (hn:cs.length=Nat.min aa ac*k)
  (am:∀ j v,cs[j]? = dG v->w.cell? (a.add j)=dG v) (aj:o+cs.length<=ab.size) (h1:∀ v∈cs,v.oneCell'=true) :
  (Builtin.copy_ #[dT,sT] ty #[F (dG ⟨g,o,aD⟩) ac ah,F (dG a) aa ag]).run P w =
   .ok (goInt (Nat.min aa ac)) (w.setRow g (laid ab.toList o cs).toArray):=by
 have af:=run_storeCells_at P g o t cs 0 ab w hg (by simpa using aj) h1;cases hq:P.info? elem with
 | none=>simp[hq] at hs
 | some i=>
  have hi:i.size=k:=by simpa[hq] using hs
  have hl:=run_firstCells_some (P:=P) w k (Nat.min aa ac) a aa ag cs hn am;simp only[Nat.add_zero] at af;simp[Builtin.copy_,run_underlying hu,Builtin.lenOf,sizeOf,typeInfo,hq,hi,hl,af,laid]
theorem Lh(w:World)(t e ty:aY)(z:Value)(ht:P.underlying t=dG (.slice e))(hv:∀ w,(zeroValue e).run P w = .ok z w)(g o n c k:Nat)(aa:Array Value)(te:aY)(cs:List Value)(hn:0<n)
  (ad:(Builtin.zeroCells z.cells n).toList=cs) (hg:w.heap[g]? = dG (dA aa te (0,0))) (hk:cs.length=n*k) (ae:o+n*k<=aa.size) (h1:∀ v∈cs,v.oneCell'=true) :
  (Builtin.clear_ #[t] ty #[F (dG ⟨g,o,aD⟩) n c]).run P w = .ok (dC #[]) (w.setRow g (laid aa.toList o cs).toArray):=by
 have ab:=run_storeCells_at P g o te cs 0 aa w hg (by simpa[hk] using ae) h1;simp only[Nat.add_zero] at ab;obtain⟨m,rfl⟩:∃ m,n=m+1:=⟨n - 1,by omega⟩;simp[Builtin.clear_,run_underlying ht,hv,ad,ab,laid]
theorem To{ops}{o:Oper}{a:Act}{w:World}{K:Act->World->Prop}{Q:Exit->Act->World->Prop}{ae:Prop}
  (hg:o.guard=aD) (s x:Operand) (t:aY) (am:o.op=Op.call { callee:=Callee.builtin Builtin.append,args:=#[s,x],argTypes:=#[t,t] })
  (e:aY) (i:TypeInfo) (size:Nat) (h1:P.underlying t=dG (.slice e)) (h2:P.info? e=dG i) (h4:i.size=size)
  (b n cap:Nat) (hs:a.eval s = F (dG ⟨b,0,aD⟩) n cap)
  (ad:Addr) (m c:Nat) (news:List Value) (hx:a.eval x = F (dG ad) m c) (hn:news.length=m*size) (hc:∀ j u,news[j]? = dG u->w.cell? (ad.add j)=dG u) (af:∀ u∈news,u.oneCell'=true)
  (an:n+m<=cap) (aa:Array Value) (te:aY) (ap:w.heap[b]? = dG (dA aa te (0,0))) (ak:n*size+news.length<=aa.size)
  (hK:K (a.put o.dst (F (dG ⟨b,0,aD⟩) (n+m) cap)) (w.setRow b (laid aa.toList (n*size) news).toArray)) :
  if cL o (yielded ops a.tmps)=true then Oper.wp P o a w K Q else ae:=by
 have hw:cL o (yielded ops a.tmps)=true:=by simp[cL,hg]
 rw[if_pos hw];subst h4;have aj:=run_firstCells_some (P:=P) w i.size m ad m c news hn hc;have ac:=run_storeCells_at P b (n*i.size) te news 0 aa w ap (by simpa using ak) af;simp only[Nat.add_zero] at ac
 have aq:(Builtin.append_ #[t,t] o.type #[F (dG ⟨b,0,aD⟩) n cap,F (dG ad) m c]).run P w = .ok (F (dG ⟨b,0,aD⟩) (n+m) cap) (w.setRow b (laid aa.toList (n*i.size) news).toArray):=by
  simp[Builtin.append_,run_underlying h1,sizeOf,typeInfo,h2,Builtin.lenOf,an,aj,cW,ac,laid]
 unfold Oper.wp;simp[execOp,am,resolve,invoke,builtin,hs,hx,aq,Result.andThen];exact hK
theorem Uw(w){ops rest}{o:Oper}{a:Act}{Q:Exit->Act->World->Prop}(ad:o.guard=aD)(d s:Operand)(t t':aY)
  (ho:o.op = .call { callee:=.builtin .append,args:=#[d,s],argTypes:=#[t,t'] }) (v u) (hd:a.eval d=v) (hs:a.eval s=u) {v' w'}
  (hr:(Builtin.append_ #[t,t'] o.type #[v,u]).run P w = .ok v' w') (h:wpList P ops Q rest (a.put o.dst v') w'):wpList P ops Q (o :: rest) a w:=by
 refine wpList_plain ad λK hK=>?_;unfold Oper.wp;simp[execOp,ho,resolve,invoke,builtin,hd,hs,hr,Result.andThen];exact hK _ _ h
end
abbrev CV:=Zi×Option Addr×Nat×Nat
def Zl:List CV->List Value
 | []=>[]
 | x :: r=>E J x.1.1 :: E J x.1.2.1 :: E J (cv x.1) :: .slice x.2.1 x.2.2.1 x.2.2.2 :: E J (ch x.1) :: dF (cr x.1) :: Zl r
theorem Z7:∀ l:List CV,(Zl l).length=l.length*6
 | []=>rfl
 | _ :: r=>by simp only[Zl,cK,Z7 r];omega
theorem Yi:∀ l m:List CV,Zl (l++m)=Zl l++Zl m
 | [],_=>rfl
 | _ :: r,m=>by simp only[List.cons_append,Zl,Yi r m]
theorem Q7:∀ (l:List CV) (i:Nat) (h:i<l.length),(Zl l)[i*6]? = dG (E J (l[i]).1.1)/\(Zl l)[i*6+1]? = dG (E J (l[i]).1.2.1)/\(Zl l)[i*6+2]? = dG (E J (cv (l[i]).1))/\(Zl l)[i*6+3]? = dG (.slice (l[i]).2.1 (l[i]).2.2.1 (l[i]).2.2.2)/\(Zl l)[i*6+4]? = dG (E J (ch (l[i]).1))/\(Zl l)[i*6+5]? = dG (dF (cr (l[i]).1))
 | [],_,h=>absurd h (by simp)
 | x :: r,0,_=>⟨rfl,rfl,rfl,rfl,rfl,rfl⟩
 | x :: r,i+1,h=>by
  have:=Q7 r i (by simpa using h);have e:(i+1)*6=i*6+6:=by omega
  rw[e];exact this
theorem Xg:∀ (l:List CV) (u:Value),u∈Zl l->u.oneCell'=true
 | [],u,h=>by cases h
 | x :: r,u,h=>by
  simp only[Zl,aW] at h
  rcases h with rfl|rfl|rfl|rfl|rfl|rfl|h
  ·rfl
  ·rfl
  ·rfl
  ·rfl
  ·rfl
  ·rfl
  ·exact Xg r u h
theorem V5:∀ (l:List CV) (i:Nat),(Zl l).take (i*6)=Zl (l.take i)
 | [],i=>by simp[Zl]
 | x :: r,0=>by simp[Zl]
 | x :: r,i+1=>by
  rw[show (i+1)*6=i*6+6 by omega,List.take_succ_cons];simp only[Zl,List.take_succ_cons,V5 r i]
theorem V6:∀ (l:List CV) (i:Nat),(Zl l).drop (i*6)=Zl (l.drop i)
 | [],i=>by simp[Zl]
 | x :: r,0=>by simp[Zl]
 | x :: r,i+1=>by
  rw[show (i+1)*6=i*6+6 by omega,List.drop_succ_cons];simp only[Zl,List.drop_succ_cons,V6 r i]
def LkAt(w:World)(x:CV):Prop:=OpsAt w x.2.1 x.2.2.1 (ck x.1)/\SlOk x.2.1 x.2.2.1 x.2.2.2
theorem LkAt.later{w w':World}{x:CV}(h:LkAt w x)(hb:ZD w w'):LkAt w' x:=⟨h.1.later hb,h.2⟩
theorem Yr{w:World}{base:Nat}{v}{K:List CV}(h:w.ownsRow base 162 6 v K.length (Zl K))(hl:∀ x∈K,LkAt w x):∃ a c,v = F a K.length c/\CoinsAt w a K.length (K.map (·.1))/\SlOk a K.length c:=by
 rcases h.2 with ⟨rfl,hn⟩|⟨g,cap,ah,rfl,hg,hh,h1,h2,h3,h4⟩
 ·rw[hn];have e:K=[]:=aJ.1 hn;subst e;exact⟨aD,0,rfl,RowsAt.nil _ _,aE _,aI _,λ_=>⟨rfl,rfl⟩⟩
 ·refine⟨_,cap,rfl,⟨by simp,λ_=>⟨g,0,rfl,aA hh,λi hi=>?_⟩⟩,h1,h2,λe=>by cases e⟩;rw[cO] at hi;have⟨f0,f1,f2,f3,f4,f5⟩:=Q7 K i hi;rw[List.getElem_map];refine⟨?_,?_,?_,⟨_,_,_,?_,(hl _ (aQ hi)).1,(hl _ (aQ hi)).2⟩,?_,?_⟩
  all_goals rw[bO,World.ownsRow.cellAt h _ (by omega)]
  ·exact f0
  ·exact f1
  ·exact f2
  ·exact f3
  ·exact f4
  ·exact f5
theorem Qi{w:World}{b off:Nat}:∀ {L:List Zi},(∀ i (h:i<L.length),CoinAt w b (off+i*6) L[i])->∃ K:List CV,K.map (·.1)=L/\(∀ x∈K,LkAt w x)/\∀ j u,(Zl K)[j]? = dG u->w.cell? ⟨b,off+j,aD⟩=dG u:=by
 intro L h
 have h2:∀ k,k<=L.length->∃ K:List CV,K.map (·.1)=L.take k/\(∀ x∈K,LkAt w x)/\∀ j u,(Zl K)[j]? = dG u->w.cell? ⟨b,off+j,aD⟩=dG u:=by
  intro k
  induction k with
  | zero=>intro _;exact⟨[],by simp,λx hx=>(by cases hx),λj u hj=>by simp[Zl] at hj⟩
  | succ k ih=>
   intro hk;have⟨K,h1,h2,h3⟩:=ih (by omega);have⟨a,n,c,g1,g2,g3,g4,g5,g6,h5,h6⟩:=(h k (by omega)).val;have ac:K.length=k:=(by have:=congrArg List.length h1;simpa[Nat.min_eq_left (show k<=L.length by omega)] using this);refine⟨K++[(L[k],a,n,c)],by rw[bN,h1,aH (by omega)];rfl,λx hx=>?_,λj u hj=>?_⟩
   ·rcases bM.1 hx with hx|hx
    ·exact h2 x hx
    ·rw[List.mem_singleton.1 hx];exact⟨h5,h6⟩
   ·rw[Yi] at hj
    rcases Nat.lt_or_ge j (k*6) with q|q
    ·rw[List.getElem?_append_left (by rw[Z7,ac];exact q)] at hj;exact h3 j u hj
    ·rw[List.getElem?_append_right (by rw[Z7,ac];exact q),Z7,ac] at hj;obtain⟨r,rfl⟩:∃ r,j=k*6+r:=⟨j - k*6,by omega⟩;rw[Nat.add_sub_cancel_left] at hj;rw[show off+(k*6+r)=off+k*6+r by omega]
     match r,hj with
     | 0,hj=>simp only[Zl,List.getElem?_cons_zero,aZ] at hj;subst hj;exact g1
     | 1,hj=>simp only[Zl,List.getElem?_cons_zero,List.getElem?_cons_succ,aZ] at hj;subst hj;exact g2
     | 2,hj=>simp only[Zl,List.getElem?_cons_zero,List.getElem?_cons_succ,aZ] at hj;subst hj;exact g3
     | 3,hj=>simp only[Zl,List.getElem?_cons_zero,List.getElem?_cons_succ,aZ] at hj;subst hj;exact g4
     | 4,hj=>simp only[Zl,List.getElem?_cons_zero,List.getElem?_cons_succ,aZ] at hj;subst hj;exact g5
     | 5,hj=>simp only[Zl,List.getElem?_cons_zero,List.getElem?_cons_succ,aZ] at hj;subst hj;exact g6
     | r+6,hj=>simp[Zl] at hj
 have⟨K,h1,h3⟩:=h2 L.length (aE _);exact⟨K,by rw[h1,List.take_length],h3⟩
def zeroC:Value:=.agg #[E J 0,E J 0,E J 0,F aD 0 0,E J 0,dF false]
theorem Tryz.infoCoin:(Tryz.prog.info? 162).map (λi=>(i.zero,i.size,i.bytes))=dG (dG zeroC,6,64):=by kernel_rfl
theorem Xz{w:World}{base:Nat}{e:aY}{size:Nat}{v:Value}{n:Nat}{xs}(h:w.ownsRow base e size v n xs)(k:Nat)(hk:v.ownBlock=dG k):base<=k:=by
 rcases h.2 with ⟨rfl,_⟩|⟨g,cap,ac,rfl,hg,_⟩
 ·cases hk
 ·cases hk;exact hg
theorem U1(w:World)(e:aY)(size:Nat):(w.alloc (dA #[] e)).ownsRow w.heap.size e size (F (dG ⟨w.heap.size,0,aD⟩) 0 0) 0 []:=
 ⟨by simp,.inr ⟨w.heap.size,0,#[],rfl,aE _,aG w _,aE _,aI _,by simp,by simp⟩⟩
theorem Qx(w):Calls aB 98 #[F aD 0 0] w λe w'=>e = dB (F aD 0 0)/\w=w':=by
 have he:=λw=>Lib.run_eql_slice_nil (P:=aB) w 64 162 aD 0 0 0 0 cH;go_enter func98,ntmps98;go_wp2;go_ret;exact⟨rfl,rfl⟩
theorem Wl(ad:Addr)(n c:Nat)(K:List CV)(w:World)(hn:n<=4096)(hz:K.length=n)(hc:∀ j u,(Zl K)[j]? = dG u->w.cell? (ad.add j)=dG u) :
  Calls aB 98 #[F (dG ad) n c] w λe w'=>∃ v,e = dB v/\w'.ownsRow w.heap.size 162 6 v n (Zl K)/\ZD w w':=by
 have⟨i0,hi,ap,aq,ar⟩:=bX Tryz.infoCoin;have hb:=Zh w (dA #[] 162);have HC:Hid (∀ j u,(Zl K)[j]? = dG u->(w.alloc (dA #[] 162)).cell? (ad.add j)=dG u):=λj u hj=>Ze hb (hc j u hj);have HB:=Zb hb;have HZ:=Zb hz;have HO:=Zb (U1 w 162 6);have he:=λw=>Lib.run_eql_slice_nil (P:=aB) w 64 162 (dG ad) n c 0 0 cH;clear hc hb hz;go_enter func98,ntmps98
 go_wp2_with (at_builtin;refine wpList_append_own _ rfl _ _ 64 rfl w.heap.size 162 i0 zeroC 6 64 cH hi ap aq ar rfl (by decide) _ _ _ rfl HO ad n c (Zl K) rfl (by rw[Z7,Za HZ]) HC (Xg K) (by unfold aT;omega) (by omega) HB.size ?_;intro v2 w3 ag af _)
 have HW:Hid (w3.ownsRow w.heap.size 162 6 v2 n (Zl K)):=by show World.ownsRow _ _ _ _ _ _ _;simpa using ag
 have aj:=Zb (HB.grown af HB.size (Xz HO));clear ag af;go_wp2;go_ret;exact⟨v2,rfl,Za HW,Za aj⟩
theorem Ti(a)(n c:Nat)(L)(w:World)(hn:n<=4096)(h:CoinsAt w a n L)(hs:SlOk a n c) :
  Calls aB 98 #[F a n c] w λe w'=>∃ v,∃ K:List CV,e = dB v/\K.map (·.1)=L/\(∀ x∈K,LkAt w x)/\w'.ownsRow w.heap.size 162 6 v K.length (Zl K)/\ZD w w':=by
 have⟨hl,hc⟩:=h;cases a with
 | none=>
  obtain⟨rfl,rfl⟩:=hs.2.2 rfl;have e:L=[]:=aJ.1 hl;subst e;exact (Qx w).mono λe w' ⟨x,y⟩=>⟨_,[],x,rfl,λ_ hx=>(by cases hx),y ▸ ⟨rfl,.inl ⟨rfl,rfl⟩⟩,y ▸ Below.refl _ _⟩
 | some ad=>
  by_cases h0:n=0
  ·subst h0;have e:L=[]:=aJ.1 hl;subst e;exact (Wl ad 0 c [] w hn rfl (λj u hj=>by simp[Zl] at hj)).mono λe w' ⟨v,x,y,z⟩=>⟨v,[],x,rfl,λ_ hx=>(by cases hx),y,z⟩
  ·have⟨b,off,e,_,ag⟩:=hc (by omega);obtain⟨rfl⟩:=e;have⟨K,h1,h2,h3⟩:=Qi ag;have hk:K.length=n:=(by rw[<-hl,<-h1,cO]);exact (Wl ⟨b,off,aD⟩ n c K w hn hk (λj u hj=>by rw[cW];exact h3 j u hj)).mono λe w' ⟨v,x,y,z⟩=>⟨v,K,x,h1,h2,by rw[hk];exact y,z⟩
theorem Tryz.zeroCoin(w):(zeroValue 162).run aB w = .ok zeroC w:=by
 have⟨i0,hi,aa,_,_⟩:=bX Tryz.infoCoin;simp[zeroValue,typeInfo,hi,aa]
def zeroCs:List Value:=[E J 0,E J 0,E J 0,F aD 0 0,E J 0,dF false]
theorem Zjc:(Builtin.zeroCells zeroC.cells 1).toList=zeroCs:=by kernel_rfl
theorem Zbp:∀ v∈zeroCs,v.oneCell'=true:=by
 intro v hv;simp only[zeroCs,aW,List.not_mem_nil,or_false] at hv
 rcases hv with rfl|rfl|rfl|rfl|rfl|rfl <;> rfl
theorem Znf(X Z:List Value)(i n:Nat)(hi:i<n)(hX:n*6<=X.length) :
  (laid (laid X (i*6) ((X.take (n*6)).drop ((i+1)*6))) ((n - 1)*6) Z).take ((n - 1)*6)=(X.take (n*6)).take (i*6)++(X.take (n*6)).drop ((i+1)*6):=by
 have e1:((X.take (n*6)).drop ((i+1)*6)).length=(n - 1)*6 - i*6:=by simp;omega
 unfold laid;rw[List.append_assoc,cV (by simp;omega),aM (by simp;omega)];rw[e1,show i*6+((n - 1)*6 - i*6)=(n - 1)*6 by omega,cV (by rw[bL,e1];simp;omega),aM (by rw[bL,e1];simp;omega),List.take_take,Nat.min_eq_left (by omega)]
theorem N6(base g n c i j:Nat)(K:List CV)(w:World)(hi:i<n)(hj:j=i+1)(hz:K.length=n)(h:w.ownsRow base 162 6 (F (dG ⟨g,0,aD⟩) n c) n (Zl K)) :
  Calls aB 248 #[F (dG ⟨g,0,aD⟩) n c,E J i,E J j] w λe w'=>e = dB (F (dG ⟨g,0,aD⟩) (n - 1) c)/\w'.ownsRow base 162 6 (F (dG ⟨g,0,aD⟩) (n - 1) c) (n - 1) (Zl (K.take i++K.drop (i+1)))/\w.grownBy w' (dG g):=by
 have⟨i0,be,cf,bi,cg⟩:=bX Tryz.infoCoin;obtain⟨bf,h|⟨g',c',aa,hv,bd,hh,h1,h2,h3,h4⟩⟩:=h
 ·cases h.1
 simp only[Value.slice.injEq,aZ,Addr.mk.injEq,and_true,true_and] at hv;obtain⟨rfl,rfl⟩:=hv;unfold aT at h2;have aj:aa.toList.length=c*6:=by simpa using h3
 have⟨news,ad⟩:=ZG ((aa.toList.take (n*6)).drop ((i+1)*6));have ae:news.length=(n - j)*6:=by rw[ad];simp;omega
 have aq:∀ u∈news,u.oneCell'=true:=λu hu=>by
  rw[ad,h4] at hu;exact Xg K u (List.mem_of_mem_drop hu)
 obtain⟨A,hA,bg⟩:∃ A:Addr,(if c=j then dG (⟨g,0,aD⟩:Addr) else dG ⟨g,j*6,aD⟩)=dG A/\Hid (∀ t u,news[t]? = dG u->w.drew.cell? (A.add t)=dG u):=by
  by_cases hc:c=j
  ·refine⟨⟨g,0,aD⟩,by simp[hc],λt u hu=>?_⟩;have h0:news.length=0:=(by rw[ae];omega);rw[aJ.1 h0] at hu;simp at hu
  ·refine⟨⟨g,j*6,aD⟩,by simp[hc],λt u hu=>?_⟩;have ht:t<(n - j)*6:=(by rw[<-ae];exact (cD.1 hu).1);rw[ad,List.getElem?_drop,List.getElem?_take_of_lt (by omega)] at hu;rw[cW];show w.cell? _=_;simp only[bF,hh];rw[<-hu,<-hj];simp
 have h5:i*6+news.length<=aa.size:=by rw[ae,h3];omega
 have⟨W1,af⟩:=ZG (w.drew.setRow g (laid aa.toList (i*6) news).toArray);have ak:W1.heap[g]? = dG (dA (laid aa.toList (i*6) news).toArray 162 (0,0)):=by rw[af];exact setRow_heap w.drew g aa _ 162 (0,0) hh
 have ah:(laid aa.toList (i*6) news).length=c*6:=by rw[Qg _ _ _ (by simpa using h5),aj]
 have am:∀ ty d,(Builtin.clear_ #[64] ty #[F (dG ⟨g,(n - 1)*6,aD⟩) 1 d]).run aB W1 = .ok (dC #[]) (W1.setRow g (laid (laid aa.toList (i*6) news) ((n - 1)*6) zeroCs).toArray):=λty d=>by
  have:=Lh (P:=aB) W1 64 162 ty zeroC cH Tryz.zeroCoin g ((n - 1)*6) 1 d 6 (laid aa.toList (i*6) news).toArray 162 zeroCs (by decide) Zjc ak rfl (by simp[ah];omega) Zbp;simpa using this
 have cd:i+(n - j)=n - 1:=by omega
 have R:Hid (W1.setRow g (laid (laid aa.toList (i*6) news) ((n - 1)*6) zeroCs).toArray |>.ownsRow base 162 6 (F (dG ⟨g,0,aD⟩) (n - 1) c) (n - 1) (Zl (K.take i++K.drop (i+1)))):=by
  refine⟨by rw[Z7];simp;omega,.inr ⟨g,c,(laid (laid aa.toList (i*6) news) ((n - 1)*6) zeroCs).toArray,rfl,bd,setRow_heap _ g _ _ 162 (0,0) ak,by omega,by unfold aT;omega,?_,?_⟩⟩
  ·rw[List.size_toArray,Qg _ _ _ (by rw[ah];simp[zeroCs];omega),ah]
  ·rw[ad];show List.take _ (laid _ _ _)=_;rw[Znf aa.toList zeroCs i n hi (by rw[aj];omega),h4,Yi,V5,V6]
 have G:Hid (w.grownBy (W1.setRow g (laid (laid aa.toList (i*6) news) ((n - 1)*6) zeroCs).toArray) (dG g)):=by
  have e:W1.setRow g (laid (laid aa.toList (i*6) news) ((n - 1)*6) zeroCs).toArray=w.drew.setRow g (laid (laid aa.toList (i*6) news) ((n - 1)*6) zeroCs).toArray:=by rw[af,setRow_setRow]
  rw[e];refine⟨rfl,rfl,rfl,by simp[World.setRow],λk hk ap=>?_⟩;exact setRow_other w.drew g k _ (λe=>ap (by rw[e]))
 have au:=Zb am;have HW:=Zb af;have aw:=Zb aq;have ax:=Zb ae;have ay:=Zb hh;have az:=Zb h5;have bu:i<=c:=by omega
 have bx:j<=c:=by omega
 have bz:j<=n:=by omega
 have bv:¬(i=j):=by omega
 have ap:¬(c=i+(n - j)):=by omega
 have cb:i+(n - j)<=n:=by omega
 have cc:(i:Int)+((n - j:Nat):Int)<=(n:Int):=by omega
 have bw:((i:Int) == (j:Int))=false:=by simp;omega
 clear am af aq ae hh h5 ak ah ad h3 h4 bf aj hj hz;go_enter func248,ntmps248;go_wp2_with fail
 go_region_law (refine To rfl (.tmp 22) (.tmp 25) 64 rfl 162 i0 6 cH be bi g i c (by simp[Act.eval,Act.put]) A (n - j) (c - j) news (by simp[Act.eval,Act.put]) ax bg aw (by omega) aa 162 ay az ?_;rw[<-Za HW])
 have bs:∀ ty d,(Builtin.clear_ #[64] ty #[F (dG ⟨g,(n - 1)*6,aD⟩) (n - (n - 1)) d]).run aB W1 = .ok (dC #[]) (W1.setRow g (laid (laid aa.toList (i*6) news) ((n - 1)*6) zeroCs).toArray):=λty d=>by
  rw[show n - (n - 1)=1 by omega];exact au ty d
 go_wp2;go_ret;exact⟨rfl,Za R,Za G⟩
theorem Yh(y:CV):(Zl [y]).length=6:=Z7 [y]
theorem Ul{w:World}{b:Nat}{X:List Value}{t:aY}(h:w.heap[b]? = dG (dA X.toArray t (0,0)))(j:Nat)(u)(hj:X[j]? = dG u):w.cell? ⟨b,j,aD⟩=dG u:=by
 simp only[bF,h];simpa using hj
theorem Qh(ao)(n c vb:Nat)(K:List CV)(y:CV)(w:World)(hn:n<=4096)(az:n<=c)(aq:c<n+1)(hz:K.length=n)(an:ao=aD->n=0/\c=0)
  (hc:∀ b,ao=dG b->∀ j u,(Zl K)[j]? = dG u->w.cell? (b.add j)=dG u) (hv:w.heap[vb]? = dG (dA (Zl [y]).toArray 162 (0,0))) :
  Calls aB 251 #[F ao n c,E J n,F (dG ⟨vb,0,aD⟩) 1 1] w λe w'=>∃ v',e = dB v'/\w'.ownsRow w.heap.size 162 6 v' (n+1) (Zl (K++[y]))/\w.grownBy w' aD:=by
 have⟨i0,al,av,aw,ax⟩:=bX Tryz.infoCoin;have HC:=Zb hc;have HZ:Hid ((Zl K).length=n*6):=by show _=_;rw[Z7,hz]
 have HN:=Zb an
 have HV:Hid (∀ j u,(Zl [y])[j]? = dG u->w.cell? ((⟨vb,0,aD⟩:Addr).add j)=dG u):=λj u hj=>by
  rw[cW,bO];exact Ul hv j u hj
 have H1:Hid ((Zl [y]).length=1*6):=Yh y;go_enter func251,ntmps251
 go_wp2_with (at_builtin;refine wpList_append_grows _ rfl _ _ 64 rfl 162 i0 zeroC 6 64 cH al av aw ax rfl (by decide) ao n c (Zl K) rfl HN HZ HC ⟨vb,0,aD⟩ 1 1 (Zl [y]) rfl H1 HV (Xg [y]) aq (by unfold aT;omega) (by omega) ?_;intro v2 w3 ap ak)
 have HW:Hid (w3.ownsRow w.heap.size 162 6 v2 (n+1) (Zl (K++[y]))):=by rw[Yi];exact ap
 have HG:=Zb ak;go_wp2;go_ret;exact⟨v2,rfl,Za HW,Za HG⟩
theorem Sy{P:Program}(w:World)(t ty e:aY)(i:TypeInfo)(size:Nat)(h1:P.underlying t=dG (.slice e))(h2:P.info? e=dG i)(h4:i.size=size)
  (b n cap:Nat) (ad:Addr) (m c:Nat) (news:List Value) (hn:news.length=m*size) (hc:∀ j u,news[j]? = dG u->w.cell? (ad.add j)=dG u) (ae:∀ u∈news,u.oneCell'=true)
  (aj:n+m<=cap) (aa:Array Value) (te:aY) (ak:w.heap[b]? = dG (dA aa te (0,0))) (ah:n*size+news.length<=aa.size) :
  (Builtin.append_ #[t,t] ty #[F (dG ⟨b,0,aD⟩) n cap,F (dG ad) m c]).run P w = .ok (F (dG ⟨b,0,aD⟩) (n+m) cap) (w.setRow b (laid aa.toList (n*size) news).toArray):=by
 subst h4;have ag:=run_firstCells_some (P:=P) w i.size m ad m c news hn hc;have ac:=run_storeCells_at P b (n*i.size) te news 0 aa w ak (by simpa using ah) ae;simp only[Nat.add_zero] at ac;simp[Builtin.append_,run_underlying h1,sizeOf,typeInfo,h2,Builtin.lenOf,aj,ag,cW,ac,laid]
theorem Zql(X Y:List Value)(n c:Nat)(h:n+1<=c)(hX:X.length=c*6)(hY:Y.length=6):(laid X (n*6) Y).take ((n+1)*6)=X.take (n*6)++Y:=by
 unfold laid;rw[cV (by simp;omega),aM (by simp;omega)]
theorem Mk(base g n c vb:Nat)(K:List CV)(y:CV)(w:World)(ad:n+1<=c)(hz:K.length=n)(h:w.ownsRow base 162 6 (F (dG ⟨g,0,aD⟩) n c) n (Zl K))(hv:w.heap[vb]? = dG (dA (Zl [y]).toArray 162 (0,0))) :
  Calls aB 251 #[F (dG ⟨g,0,aD⟩) n c,E J n,F (dG ⟨vb,0,aD⟩) 1 1] w λe w'=>e = dB (F (dG ⟨g,0,aD⟩) (n+1) c)/\w'.ownsRow base 162 6 (F (dG ⟨g,0,aD⟩) (n+1) c) (n+1) (Zl (K++[y]))/\w.grownBy w' (dG g):=by
 have⟨i0,aj,ax,an,ay⟩:=bX Tryz.infoCoin;obtain⟨av,h|⟨g',c',aa,af,ah,hh,h1,h2,h3,h4⟩⟩:=h
 ·cases h.1
 simp only[Value.slice.injEq,aZ,Addr.mk.injEq,and_true,true_and] at af;obtain⟨rfl,rfl⟩:=af;unfold aT at h2;have ac:aa.toList.length=c*6:=by simpa using h3
 have HR:Hid (∀ ty,(Builtin.append_ #[64,64] ty #[F (dG ⟨g,0,aD⟩) n c,F (dG ⟨vb,0,aD⟩) 1 1]).run aB w = .ok (F (dG ⟨g,0,aD⟩) (n+1) c) (w.setRow g (laid aa.toList (n*6) (Zl [y])).toArray)):=λty=>
  Sy w 64 ty 162 i0 6 cH aj an g n c ⟨vb,0,aD⟩ 1 1 (Zl [y]) (Yh y) (λj u hj=>by rw[cW,bO];exact Ul hv j u hj) (Xg [y]) ad aa 162 hh (by rw[Yh,h3];omega)
 have R:Hid ((w.setRow g (laid aa.toList (n*6) (Zl [y])).toArray).ownsRow base 162 6 (F (dG ⟨g,0,aD⟩) (n+1) c) (n+1) (Zl (K++[y]))):=by
  refine⟨by rw[Z7];simp;omega,.inr ⟨g,c,(laid aa.toList (n*6) (Zl [y])).toArray,rfl,ah,setRow_heap _ g _ _ 162 (0,0) hh,ad,by unfold aT;omega,?_,?_⟩⟩
  ·rw[List.size_toArray,Qg _ _ _ (by rw[ac,Yh];omega),ac]
  ·show List.take _ (laid _ _ _)=_;rw[Zql _ _ n c ad ac (Yh y),h4,Yi]
 have G:Hid (w.grownBy (w.setRow g (laid aa.toList (n*6) (Zl [y])).toArray) (dG g)):=
  ⟨rfl,rfl,rfl,by simp[World.setRow],λk hk al=>setRow_other w g k _ (λe=>al (by rw[e]))⟩
 go_enter func251,ntmps251
 go_wp2_with (at_builtin;refine Uw _ rfl _ _ 64 64 rfl _ _ rfl rfl (HR _) ?_)
 go_wp2;go_ret;exact⟨rfl,Za R,Za G⟩
theorem Zqk(X Y:List Value)(i n c:Nat)(hi:i<n)(h:n+1<=c)(hX:X.length=c*6)(hY:Y.length=6) :
  (laid (laid X ((i+1)*6) ((X.take (n*6)).drop (i*6))) (i*6) Y).take ((n+1)*6)=(X.take (n*6)).take (i*6)++(Y++(X.take (n*6)).drop (i*6)):=by
 have e1:((X.take (n*6)).drop (i*6)).length=n*6 - i*6:=by simp;omega
 have⟨Z,hZ⟩:=ZG ((X.take (n*6)).drop (i*6));rw[<-hZ] at e1 ⊢
 have e2:(laid X ((i+1)*6) Z).take (i*6)=X.take (i*6):=by
  unfold laid;rw[List.append_assoc,cV (by simp;omega),List.take_take,Nat.min_eq_left (by omega)]
 have e3:(laid X ((i+1)*6) Z).drop (i*6+6)=Z++X.drop ((i+1)*6+Z.length):=by
  unfold laid;rw[List.append_assoc,show i*6+6=(i+1)*6 by omega,List.drop_append_of_le_length (by simp;omega),bA (by rw[aV];omega),List.nil_append]
 rw[show laid (laid X ((i+1)*6) Z) (i*6) Y=X.take (i*6)++Y++(Z++X.drop ((i+1)*6+Z.length)) by unfold laid at e2 e3 ⊢;rw[hY,e2,e3]];rw[<-List.append_assoc,cV (by simp[e1,hY];omega),aM (by simp[e1,hY];omega),List.take_take,Nat.min_eq_left (by omega),List.append_assoc]
theorem Fp(K:List CV)(y:CV)(i:Nat):Zl (K.take i++y :: K.drop i)=(Zl K).take (i*6)++(Zl [y]++(Zl K).drop (i*6)):=by
 rw[V5,V6,Yi,show y :: K.drop i=[y]++K.drop i from rfl,Yi]
theorem Ge(base g n c i vb:Nat)(K:List CV)(y:CV)(w:World)(hi:i<n)(aw:n+1<=c)(hz:K.length=n)(h:w.ownsRow base 162 6 (F (dG ⟨g,0,aD⟩) n c) n (Zl K))(hv:w.heap[vb]? = dG (dA (Zl [y]).toArray 162 (0,0)))(an:vb≠g) :
  Calls aB 251 #[F (dG ⟨g,0,aD⟩) n c,E J i,F (dG ⟨vb,0,aD⟩) 1 1] w λe w'=>e = dB (F (dG ⟨g,0,aD⟩) (n+1) c)/\w'.ownsRow base 162 6 (F (dG ⟨g,0,aD⟩) (n+1) c) (n+1) (Zl (K.take i++y :: K.drop i))/\w.grownBy w' (dG g):=by
 have⟨i0,be,cn,bj,cp⟩:=bX Tryz.infoCoin;obtain⟨bf,h|⟨g',c',aa,az,bd,hh,h1,h2,h3,h4⟩⟩:=h
 ·cases h.1
 simp only[Value.slice.injEq,aZ,Addr.mk.injEq,and_true,true_and] at az;obtain⟨rfl,rfl⟩:=az;unfold aT at h2;have al:aa.toList.length=c*6:=by simpa using h3
 have ax:(Tryz.prog.info? 162).map (·.size)=dG 6:=by rw[be];simp[bj]
 have bg:∀ lb ct,(callFunc 269 #[F (dG ⟨vb,0,aD⟩) 1 1,F (dG ⟨g,(i+1)*6,aD⟩) lb ct]).run aB w = .ok (.value (dF false)) w:=λlb ct=>by
  rw[run_callFunc_extern func269 (by kernel_rfl) (by kernel_rfl) (by kernel_rfl) (e:=Extern.SlicesOverlaps.overlaps #[64,64] #[4]) (by kernel_rfl),
   Lib.run_overlaps_apart w 64 4 162 cH 6 Tryz.sizeOf162 ⟨vb,0,aD⟩ ⟨g,(i+1)*6,aD⟩ 1 1 lb ct an 162 162 6 (c*6) (by simp[World.shape?,hv,Yh]) (by simp[World.shape?,hh,h3]) (by omega) (by simp[World.frozen?,hv]) (by simp[World.frozen?,hv])]
  rfl
 have⟨Z,hZ⟩:=ZG ((aa.toList.take (n*6)).drop (i*6));have ag:Z.length=(n - i)*6:=by rw[hZ];simp;omega
 have au:∀ u∈Z,u.oneCell'=true:=λu hu=>by
  rw[hZ,h4] at hu;exact Xg K u (List.mem_of_mem_drop hu)
 have⟨W1,ae⟩:=ZG (w.drew.setRow g (laid aa.toList ((i+1)*6) Z).toArray);have aq:W1.heap[g]? = dG (dA (laid aa.toList ((i+1)*6) Z).toArray 162 (0,0)):=by rw[ae];exact setRow_heap w.drew g aa _ 162 (0,0) hh
 have am:(laid aa.toList ((i+1)*6) Z).length=c*6:=by rw[Qg _ _ _ (by rw[al,ag];omega),al]
 have ca:∀ ty dc sc,(Builtin.copy_ #[64,64] ty #[F (dG ⟨g,(i+1)*6,aD⟩) (n - i) dc,F (dG ⟨g,i*6,aD⟩) (n+1 - i) sc]).run aB w.drew = .ok (goInt (n - i)) W1:=λty dc sc=>by
  have:=Ub (P:=aB) w.drew 64 64 ty 162 g ((i+1)*6) (n - i) dc ⟨g,i*6,aD⟩ (n+1 - i) sc 6 aa 162 Z cH ax hh (by rw[ag];simp only[Nat.min_def];split <;> omega)
   (λj u hj=>by
    have ht:j<(n - i)*6:=(by rw[<-ag];exact (cD.1 hj).1);rw[hZ,List.getElem?_drop,List.getElem?_take_of_lt (by omega)] at hj;rw[cW];show w.cell? _=_;simp only[bF,hh];rw[<-hj];simp) (by rw[ag,h3];omega) au
  rw[this,ae]
  congr 1
  simp only[Nat.min_def];split <;> (congr 1;omega)
 have hm:Nat.min 1 (n+1 - i)=1:=by simp only[Nat.min_def];split <;> omega
 have cb:∀ ty dc,(Builtin.copy_ #[64,64] ty #[F (dG ⟨g,i*6,aD⟩) (n+1 - i) dc,F (dG ⟨vb,0,aD⟩) 1 1]).run aB W1 = .ok (goInt 1) (W1.setRow g (laid (laid aa.toList ((i+1)*6) Z) (i*6) (Zl [y])).toArray):=λty dc=>by
  have bh:W1.heap[vb]? = dG (dA (Zl [y]).toArray 162 (0,0)):=by rw[ae,setRow_other _ _ _ _ an];exact hv
  have:=Ub (P:=aB) W1 64 64 ty 162 g (i*6) (n+1 - i) dc ⟨vb,0,aD⟩ 1 1 6 (laid aa.toList ((i+1)*6) Z).toArray 162 (Zl [y]) cH ax aq (by rw[Yh,hm])
   (λj u hj=>by rw[cW,bO];exact Ul bh j u hj) (by rw[Yh,List.size_toArray,am];omega) (Xg [y])
  rw[this,hm];rfl
 have R:Hid ((W1.setRow g (laid (laid aa.toList ((i+1)*6) Z) (i*6) (Zl [y])).toArray).ownsRow base 162 6 (F (dG ⟨g,0,aD⟩) (n+1) c) (n+1) (Zl (K.take i++y :: K.drop i))):=by
  refine⟨by rw[Z7];simp;omega,.inr ⟨g,c,(laid (laid aa.toList ((i+1)*6) Z) (i*6) (Zl [y])).toArray,rfl,bd,setRow_heap _ g _ _ 162 (0,0) aq,aw,by unfold aT;omega,?_,?_⟩⟩
  ·rw[List.size_toArray,Qg _ _ _ (by rw[am,Yh];omega),am]
  ·show List.take _ (laid _ _ _)=_;rw[hZ,Zqk _ _ i n c hi aw al (Yh y),h4,Fp]
 have G:Hid (w.grownBy (W1.setRow g (laid (laid aa.toList ((i+1)*6) Z) (i*6) (Zl [y])).toArray) (dG g)):=by
  have e:W1.setRow g (laid (laid aa.toList ((i+1)*6) Z) (i*6) (Zl [y])).toArray=w.drew.setRow g (laid (laid aa.toList ((i+1)*6) Z) (i*6) (Zl [y])).toArray:=by rw[ae,setRow_setRow]
  rw[e];exact⟨rfl,rfl,rfl,by simp[World.setRow],λk hk an=>setRow_other w.drew g k _ (λe=>an (by rw[e]))⟩
 have cd:i<=n:=by omega
 have br:(0:Int)<=(i:Int)+1:=by omega
 have cc:i<=c:=by omega
 have h9:¬((i:Int)=(n:Int)):=by omega
 have bs:¬(c=i+1):=by omega
 have bv:¬(c=i):=by omega
 have cl:IntKind.i64.wrap ((i:Int)+1)=(i:Int)+1:=by rw[aP];omega
 have cm:IntKind.i64.wrap ((n:Int)+1)=(n:Int)+1:=by rw[aP];omega
 have cg:((i:Int)+1).toNat=i+1:=by omega
 have cj:((n:Int)+1).toNat=n+1:=by omega
 have bu:(i:Int)<=(n:Int)+1:=by omega
 have bw:(i:Int)+1<=(n:Int)+1:=by omega
 have bx:(n:Int)+1<=(c:Int):=by omega
 have bz:¬((c:Int)<(n:Int)+1):=by omega
 clear ae aq am hh h3 h4 bf al hz hv hZ ag au;go_enter func251,ntmps251
 go_wp2_with (simp only[bg])
 go_region
 go_wp2;go_ret;exact⟨rfl,Za R,Za G⟩
theorem Zqj(X Y Z O:List Value)(i n C:Nat)(hi:i<n)(hC:n+1<=C)(hX:X.length=C*6)(hO:X.take (i*6)=O)(hY:Y.length=6)(hZ:Z.length=(n - i)*6) :
  (laid (laid X (i*6) Y) ((i+1)*6) Z).take ((n+1)*6)=O++(Y++Z):=by
 have e2:(laid X (i*6) Y).take ((i+1)*6)=O++Y:=by
  unfold laid;rw[cV (by simp;omega),aM (by simp;omega),hO]
 rw[show laid (laid X (i*6) Y) ((i+1)*6) Z=O++Y++Z++(laid X (i*6) Y).drop ((i+1)*6+Z.length) by rw[<-e2];rfl];have ad:O.length=i*6:=by rw[<-hO,aV];omega
 rw[cV (by simp;omega),aM (by simp;omega),List.append_assoc]
theorem H9(base g n c i vb:Nat)(K:List CV)(y:CV)(w:World)(hi:i<n)(hn:n<=4096)(dh:c<n+1)(hz:K.length=n)(h:w.ownsRow base 162 6 (F (dG ⟨g,0,aD⟩) n c) n (Zl K))(hv:w.heap[vb]? = dG (dA (Zl [y]).toArray 162 (0,0))) :
  Calls aB 251 #[F (dG ⟨g,0,aD⟩) n c,E J i,F (dG ⟨vb,0,aD⟩) 1 1] w λe w'=>∃ v',e = dB v'/\w'.ownsRow w.heap.size 162 6 v' (n+1) (Zl (K.take i++y :: K.drop i))/\w.grownBy w' aD:=by
 have⟨i0,bj,cp,be,bz⟩:=bX Tryz.infoCoin;obtain⟨bq,h|⟨g',c',cc,bw,dc,hh,h1,h2,h3,h4⟩⟩:=h
 ·cases h.1
 simp only[Value.slice.injEq,aZ,Addr.mk.injEq,and_true,true_and] at bw;obtain⟨rfl,rfl⟩:=bw;unfold aT at h2;have cf:cc.toList.length=c*6:=by simpa using h3
 have bu:(Tryz.prog.info? 162).map (·.size)=dG 6:=by rw[bj];simp[be]
 have cj:g<w.heap.size:=aA hh;have cl:vb<w.heap.size:=aA hv;have⟨k,hk⟩:=ZG (n+1 - i);have bo:i+k=n+1:=by omega
 have⟨O,hO⟩:=ZG (Zl (K.take i));have ah:O.length=i*6:=by rw[hO,Z7,aV];omega
 have av:∀ j u,(Zl K)[j]? = dG u->w.cell? ⟨g,j,aD⟩=dG u:=λj u hj=>by
  have az:j<n*6:=by rw[<-bq];exact (cD.1 hj).1
  rw[<-h4,List.getElem?_take_of_lt az] at hj;simp only[bF,hh];simpa using hj
 have⟨C,hC⟩:=ZG (grownCap w (i+k) c 162);have bg:n+1<=C:=by rw[hC,<-bo];exact grownCap_ge w (i+k) c 162
 have cd:C<=aT:=by rw[hC];exact grownCap_le_maxLen w (i+k) c 162 (by unfold aT;omega)
 have⟨X,hX⟩:=ZG ((O.toArray++Builtin.zeroCells zeroC.cells k++Builtin.zeroCells zeroC.cells (C - (i+k))))
 have au:X.size=C*6:=by
  rw[hX];have:zeroC.cells.size=6:=rfl;simp only[Array.size_append,List.size_toArray,size_zeroCells,this,ah];omega
 have ap:X.toList.length=C*6:=by simpa using au
 have bh:X.toList.take (i*6)=O:=by
  rw[hX,<-ah];simp
 have⟨W0,ab⟩:=ZG (w.drew.alloc (dA X 162))
 have bi:∀ ty,(Builtin.append_ #[64,3] ty #[F (dG ⟨g,0,aD⟩) i c,E J k]).run aB w = .ok (F (dG ⟨w.heap.size,0,aD⟩) (n+1) C) W0:=λty=>by
  have:=Lib.run_append_grow_zeros (P:=aB) w 64 3 ty 162 i0 zeroC .i64 .i64 cH underlying3 bj cp (dG ⟨g,0,aD⟩) i c O
   (run_firstCells_some (P:=aB) w.drew i0.size i ⟨g,0,aD⟩ i c O (by rw[ah,be]) (λj u hj=>by
    rw[cW,bO];have az:j<i*6:=(by rw[<-ah];exact (cD.1 hj).1);rw[hO,<-V5,List.getElem?_take_of_lt az] at hj;exact av j u hj))
   k (by omega) (by rw[be];decide) (by omega) (by omega) (by rw[bz];omega) (growslice_fits (by omega) (by rw[bz];omega))
  rw[this,ab,hX,hC,bo]
 have ax:W0.heap[w.heap.size]? = dG (dA X 162 (0,0)):=by rw[ab];exact aG w.drew _
 have⟨W1,ad⟩:=ZG (W0.setRow w.heap.size (laid X.toList (i*6) (Zl [y])).toArray);have ay:W1.heap[w.heap.size]? = dG (dA (laid X.toList (i*6) (Zl [y])).toArray 162 (0,0)):=by rw[ad];exact setRow_heap W0 _ _ _ 162 (0,0) ax
 have aq:(laid X.toList (i*6) (Zl [y])).length=C*6:=by rw[Qg _ _ _ (by rw[ap,Yh];omega),ap]
 have hm:Nat.min 1 (n+1 - i)=1:=by simp only[Nat.min_def];split <;> omega
 have bs:Nat.min (n - i) (n - i)=n - i:=by simp only[Nat.min_def];split <;> omega
 have dd:∀ ty dn,(Builtin.copy_ #[64,64] ty #[F (dG ⟨w.heap.size,i*6,aD⟩) (n+1 - i) dn,F (dG ⟨vb,0,aD⟩) 1 1]).run aB W0 = .ok (goInt 1) W1:=λty dn=>by
  have cn:W0.heap[vb]? = dG (dA (Zl [y]).toArray 162 (0,0)):=by rw[ab,Below.heap_alloc w.drew _ vb cl];exact hv
  have:=Ub (P:=aB) W0 64 64 ty 162 w.heap.size (i*6) (n+1 - i) dn ⟨vb,0,aD⟩ 1 1 6 X 162 (Zl [y]) cH bu ax (by rw[Yh,hm])
   (λj u hj=>by rw[cW,bO];exact Ul cn j u hj) (by rw[Yh,au];omega) (Xg [y])
  rw[this,hm,ad];rfl
 have⟨Z,hZ⟩:=ZG (Zl (K.drop i));have ak:Z.length=(n - i)*6:=by rw[hZ,Z7,List.length_drop,hz]
 have⟨W2,ae⟩:=ZG (W1.drew.setRow w.heap.size (laid (laid X.toList (i*6) (Zl [y])) ((i+1)*6) Z).toArray)
 have de:∀ ty dn sc,(Builtin.copy_ #[64,64] ty #[F (dG ⟨w.heap.size,(i+1)*6,aD⟩) (n - i) dn,F (dG ⟨g,i*6,aD⟩) (n - i) sc]).run aB W1.drew = .ok (goInt ((n - i:Nat):Int)) W2:=λty dn sc=>by
  have:=Ub (P:=aB) W1.drew 64 64 ty 162 w.heap.size ((i+1)*6) (n - i) dn ⟨g,i*6,aD⟩ (n - i) sc 6 (laid X.toList (i*6) (Zl [y])).toArray 162 Z cH bu ay (by rw[ak,bs])
   (λj u hj=>by
    rw[cW];show W1.cell? _=_;have ce:W1.heap[g]? = w.heap[g]?:=(by rw[ad,setRow_other _ _ _ _ (by omega),ab,Below.heap_alloc w.drew _ g cj];rfl);rw[World.cell?_of_block (a:=⟨g,i*6+j,aD⟩) ce];exact av _ u (by rw[hZ,<-V6,List.getElem?_drop] at hj;exact hj)) (by rw[ak,List.size_toArray,aq];omega) (λu hu=>Xg _ u (by rw[hZ] at hu;exact hu))
  rw[this,bs,ae]
 have R:Hid (W2.ownsRow w.heap.size 162 6 (F (dG ⟨w.heap.size,0,aD⟩) (n+1) C) (n+1) (Zl (K.take i++y :: K.drop i))):=by
  refine⟨by rw[Z7];simp;omega,.inr ⟨w.heap.size,C,(laid (laid X.toList (i*6) (Zl [y])) ((i+1)*6) Z).toArray,rfl,aE _,by rw[ae];exact setRow_heap W1.drew _ _ _ 162 (0,0) ay,bg,cd,?_,?_⟩⟩
  ·rw[List.size_toArray,Qg _ _ _ (by rw[aq,ak];omega),aq]
  ·show List.take _ (laid _ _ _)=_;rw[Zqj X.toList (Zl [y]) Z O i n C hi bg ap bh (Yh y) ak,Fp,V5,V6,hO,hZ]
 have G:Hid (w.grownBy W2 aD):=by
  refine⟨by rw[ae,ad,ab];rfl,by rw[ae,ad,ab];rfl,by rw[ae,ad,ab];rfl,by rw[ae,ad,ab];simp[World.setRow],λq hq _=>?_⟩;rw[ae,setRow_other _ _ _ _ (by omega)];show W1.heap[q]? = _;rw[ad,setRow_other _ _ _ _ (by omega),ab,Below.heap_alloc w.drew _ q hq];rfl
 have dg:i<=n:=by omega
 have df:i<=c:=by omega
 have h9:¬((i:Int)=(n:Int)):=by omega
 have cu:(0:Int)<=(i:Int)+1:=by omega
 have cw:¬(C=i+1):=by omega
 have cy:¬(C=i):=by omega
 have db:¬(c=i):=by omega
 have dj:IntKind.i64.wrap ((i:Int)+1)=(i:Int)+1:=by rw[aP];omega
 have dl:IntKind.i64.wrap ((n:Int)+1)=(n:Int)+1:=by rw[aP];omega
 have dm:IntKind.i64.wrap ((n:Int)+1 - (i:Int))=(k:Int):=by rw[aP];omega
 have di:((i:Int)+1).toNat=i+1:=by omega
 have cz:(i:Int)+1<=(n:Int)+1:=by omega
 have cx:(i:Int)<=(n:Int)+1:=by omega
 have da:(c:Int)<(n:Int)+1:=by omega
 have cb:=Zb bi;clear bi ab ad ae ax ay aq hh h3 h4 bq cf hz hv hZ ak hX au ap bh hO ah hC av hk;go_enter func251,ntmps251
 go_wp2_with (at_builtin;refine Uw _ rfl _ _ 64 3 rfl _ _ rfl rfl (cb _) ?_)
 go_wp2
 go_region
 go_wp2;go_ret;exact⟨_,rfl,Za R,Za G⟩
theorem Xy{w:World}{base aa:Nat}{e:aY}{size:Nat}{v}{n:Nat}{xs}(h:w.ownsRow aa e size v n xs)(hb:base<=aa):w.ownsRow base e size v n xs:=by
 obtain⟨hl,h0|⟨g,cap,ac,hv,hg,r⟩⟩:=h
 ·exact⟨hl,.inl h0⟩
 ·exact⟨hl,.inr ⟨g,cap,ac,hv,aO hb hg,r⟩⟩
theorem Gf{w w':World}{row:Option Nat}(h:w.grownBy w' aD):w.grownBy w' row:=⟨h.os,h.tape,h.output,h.size,λk hk _=>h.block k hk (by simp)⟩
theorem Ml(base:Nat)(a)(n c i vb:Nat)(K:List CV)(y:CV)(w:World)(hi:i<=n)(hn:n<=4096)(hz:K.length=n)(ag:base<=w.heap.size)(h:w.ownsRow base 162 6 (F a n c) n (Zl K))(hv:w.heap[vb]? = dG (dA (Zl [y]).toArray 162 (0,0)))
  (aq:(Value.slice a n c).ownBlock≠dG vb) :
  Calls aB 251 #[F a n c,E J i,F (dG ⟨vb,0,aD⟩) 1 1] w λe w'=>∃ v',e = dB v'/\w'.ownsRow base 162 6 v' (n+1) (Zl (K.take i++y :: K.drop i))/\w.grownBy w' (Value.slice a n c).ownBlock/\(v'.ownBlock=(Value.slice a n c).ownBlock\/∀ k,v'.ownBlock=dG k->w.heap.size<=k):=by
 have hO:=h
 rcases h.2 with ⟨e,h0⟩|⟨g,c',au,ak,av,hh,h1,h2,h3,h4⟩
 ·simp only[Value.slice.injEq] at e;obtain⟨rfl,rfl,rfl⟩:=e;obtain rfl:i=0:=by omega
  have eK:K=[]:=aJ.1 hz;subst eK;refine (Qh aD 0 0 vb [] y w hn (aE _) (by omega) rfl (λ_=>⟨rfl,rfl⟩) (λb hb=>by cases hb) hv).mono ?_;rintro e w' ⟨v',rfl,x,z⟩;exact⟨v',rfl,Xy x ag,Gf z,.inr λk hk=>Xz x k hk⟩
 ·simp only[Value.slice.injEq] at ak;obtain⟨rfl,_,rfl⟩:=ak;have am:vb≠g:=λe=>aq (by rw[e];rfl);by_cases an:i=n
  ·subst an;by_cases hr:i+1<=c
   ·refine (Mk base g i c vb K y w hr hz hO hv).mono ?_;rintro e w' ⟨rfl,x,z⟩;exact⟨_,rfl,by rw[<-hz,List.take_length,List.drop_length,hz];exact x,z,.inl rfl⟩
   ·refine (Qh (dG ⟨g,0,aD⟩) i c vb K y w hn h1 (by omega) hz (λe=>by cases e) (λb hb j u hj=>?_) hv).mono ?_
    ·cases hb;rw[cW,bO];have ap:j<i*6:=(by rw[<-hO.1];exact (cD.1 hj).1);rw[World.ownsRow.cellAt hO j ap];exact hj
    ·rintro e w' ⟨v',rfl,x,z⟩;exact⟨v',rfl,by rw[<-hz,List.take_length,List.drop_length,hz];exact Xy x ag,Gf z,.inr λk hk=>Xz x k hk⟩
  ·by_cases hr:n+1<=c
   ·refine (Ge base g n c i vb K y w (by omega) hr hz hO hv am).mono ?_;rintro e w' ⟨rfl,x,z⟩;exact⟨_,rfl,x,z,.inl rfl⟩
   ·refine (H9 base g n c i vb K y w (by omega) hn (by omega) hz hO hv).mono ?_;rintro e w' ⟨v',rfl,x,z⟩;exact⟨v',rfl,Xy x ag,Gf z,.inr λk hk=>Xz x k hk⟩
structure Gr(w w':World)(S:Nat->Prop):Prop where
 os:w'.os=w.os
 tape:w'.tape=w.tape
 output:w'.output=w.output
 size:w.heap.size<=w'.heap.size
 block:∀ k,k<w.heap.size->¬S k->w'.heap[k]? = w.heap[k]?
theorem Gr.refl(w)(S:Nat->Prop):Gr w w S:=⟨rfl,rfl,rfl,aE _,λ_ _ _=>rfl⟩
theorem Gr.of{w w':World}{S:Nat->Prop}(h:ZD w w'):Gr w w' S:=⟨h.os,h.tape,h.output,h.size,λk hk _=>h.block k hk⟩
theorem Gr.on{w w1 w2:World}{S:Nat->Prop}(h:Gr w w1 S)(k:ZD w1 w2):Gr w w2 S:=
 ⟨k.os.trans h.os,k.tape.trans h.tape,k.output.trans h.output,aO h.size k.size,λi hi hn=>(k.block i (aF hi h.size)).trans (h.block i hi hn)⟩
theorem Gr.trans{w w1 w2}{S:Nat->Prop}(h:Gr w w1 S)(k:Gr w1 w2 S):Gr w w2 S:=
 ⟨k.os.trans h.os,k.tape.trans h.tape,k.output.trans h.output,aO h.size k.size,λi hi hn=>(k.block i (aF hi h.size) hn).trans (h.block i hi hn)⟩
theorem Gr.mono{w w1:World}{S T:Nat->Prop}(h:Gr w w1 S)(hs:∀ k,k<w.heap.size->S k->T k):Gr w w1 T:=
 ⟨h.os,h.tape,h.output,h.size,λi hi hn=>h.block i hi (λq=>hn (hs i hi q))⟩
theorem Gr.grown{w w1 w2:World}{S:Nat->Prop}{row:Option Nat}(h:Gr w w1 S)(g:w1.grownBy w2 row)(hr:∀ k,row=dG k->S k\/w.heap.size<=k):Gr w w2 S:=
 ⟨g.os.trans h.os,g.tape.trans h.tape,g.output.trans h.output,aO h.size g.size,λi hi hn=>(g.block i (aF hi h.size) (λe=>by
  rcases hr i e.symm with q|q
  ·exact hn q
  ·omega)).trans (h.block i hi hn)⟩
theorem Gr.set{w w1:World}{S:Nat->Prop}(h:Gr w w1 S){p:Addr}(hp:S p.block\/w.heap.size<=p.block)(u):Gr w (w1.setCell p u) S:=
 ⟨h.os,h.tape,h.output,by simpa[World.setCell] using h.size,λi hi hn=>(Below.heap_setCell w1 p u i (λe=>by
  subst e
  rcases hp with q|q
  ·exact hn q
  ·omega)).trans (h.block i hi hn)⟩
theorem Gr.one{w w1:World}{S:Nat->Prop}(h:Gr w w1 S)(b i:Nat)(hb:S b\/w.heap.size<=b)(u):Gr w (w1.setCell ⟨b,i,aD⟩ u) S:=h.set (p:=⟨b,i,aD⟩) hb u
theorem Gr.six{w w1:World}{S:Nat->Prop}(h:Gr w w1 S)(b:Nat)(hb:S b\/w.heap.size<=b)(a0 a1 a2 a3 a4 a5):Gr w ((((((w1.setCell ⟨b,0,aD⟩ a0).setCell ⟨b,1,aD⟩ a1).setCell ⟨b,2,aD⟩ a2).setCell ⟨b,3,aD⟩ a3).setCell ⟨b,4,aD⟩ a4).setCell ⟨b,5,aD⟩ a5) S:=
 (((((h.one b 0 hb a0).one b 1 hb a1).one b 2 hb a2).one b 3 hb a3).one b 4 hb a4).one b 5 hb a5
theorem Gr.new{w w1:World}{S:Nat->Prop}(h:Gr w w1 S)(o:Obj):Gr w (w1.alloc o) S:=h.on (Zh _ _)
theorem Gr.draw{w w1:World}{S:Nat->Prop}(h:Gr w w1 S):Gr w w1.drew S:=⟨h.os,h.tape,h.output,h.size,h.block⟩
theorem Gr.below{w0 w w':World}{S:Nat->Prop}{B:Nat}(h:Gr w w' S)(hb:Below B w0 w)(hB:B<=w.heap.size)(hs:∀ k,S k->B<=k):Below B w0 w':=
 ⟨h.os.trans hb.os,h.tape.trans hb.tape,h.output.trans hb.output,aO hb.size h.size,λk hk=>(h.block k (by omega) (λq=>by have:=hs k q;omega)).trans (hb.block k hk)⟩
theorem Gr.own{w w':World}{S:Nat->Prop}(h:Gr w w' S){base:Nat}{e:aY}{size:Nat}{v:Value}{n:Nat}{xs}(ho:w.ownsRow base e size v n xs)(hn:∀ k,v.ownBlock=dG k->¬S k):w'.ownsRow base e size v n xs:=by
 obtain⟨hl,h0|⟨g,cap,ad,hv,hg,hh,r⟩⟩:=ho
 ·exact⟨hl,.inl h0⟩
 ·exact⟨hl,.inr ⟨g,cap,ad,hv,hg,(h.block g (aA hh) (hn g (by rw[hv];rfl))).trans hh,r⟩⟩
theorem Gr.heap{w w':World}{S:Nat->Prop}(h:Gr w w' S){b:Nat}{o:Obj}(ho:w.heap[b]? = dG o)(hn:¬S b):w'.heap[b]? = dG o:=(h.block b (aA ho) hn).trans ho
theorem Zd{w:World}{b:Nat}{X:List Value}{t:aY}(h:w.heap[b]? = dG (dA X.toArray t (0,0)))(j:Nat)(u)(hj:X[j]? = dG u):w.cell? ⟨b,j,aD⟩=dG u:=Ul h j u hj
theorem Zg{w:World}{b:Nat}{X}{t:aY}(h:w.heap[b]? = dG (dA X t (0,0)))(j:Nat):w.frozen? ⟨b,j,aD⟩=false:=by simp[World.frozen?,h]
theorem kc1{w:World}{b:Nat}{a0 X}{t:aY}(h:w.heap[b]? = dG (dA (a0::X).toArray t (0,0))):w.cell? ⟨b,0,aD⟩=dG a0/\b<w.heap.size:=⟨Zd h 0 _ rfl,aA h⟩
theorem kc2{w:World}{b:Nat}{a0 a1 X}{t:aY}(h:w.heap[b]? = dG (dA (a0::a1::X).toArray t (0,0))):w.cell? ⟨b,0,aD⟩=dG a0/\w.cell? ⟨b,1,aD⟩=dG a1/\b<w.heap.size:=⟨Zd h 0 _ rfl,Zd h 1 _ rfl,aA h⟩
theorem kc3{w:World}{b:Nat}{a0 a1 a2 X}{t:aY}(h:w.heap[b]? = dG (dA (a0::a1::a2::X).toArray t (0,0))):w.cell? ⟨b,0,aD⟩=dG a0/\w.cell? ⟨b,1,aD⟩=dG a1/\w.cell? ⟨b,2,aD⟩=dG a2/\b<w.heap.size:=⟨Zd h 0 _ rfl,Zd h 1 _ rfl,Zd h 2 _ rfl,aA h⟩
theorem kc4{w:World}{b:Nat}{a0 a1 a2 a3 X}{t:aY}(h:w.heap[b]? = dG (dA (a0::a1::a2::a3::X).toArray t (0,0))):w.cell? ⟨b,0,aD⟩=dG a0/\w.cell? ⟨b,1,aD⟩=dG a1/\w.cell? ⟨b,2,aD⟩=dG a2/\w.cell? ⟨b,3,aD⟩=dG a3/\b<w.heap.size:=⟨Zd h 0 _ rfl,Zd h 1 _ rfl,Zd h 2 _ rfl,Zd h 3 _ rfl,aA h⟩
theorem kc5{w:World}{b:Nat}{a0 a1 a2 a3 a4 X}{t:aY}(h:w.heap[b]? = dG (dA (a0::a1::a2::a3::a4::X).toArray t (0,0))):w.cell? ⟨b,0,aD⟩=dG a0/\w.cell? ⟨b,1,aD⟩=dG a1/\w.cell? ⟨b,2,aD⟩=dG a2/\w.cell? ⟨b,3,aD⟩=dG a3/\w.cell? ⟨b,4,aD⟩=dG a4/\b<w.heap.size:=⟨Zd h 0 _ rfl,Zd h 1 _ rfl,Zd h 2 _ rfl,Zd h 3 _ rfl,Zd h 4 _ rfl,aA h⟩
theorem kc6{w:World}{b:Nat}{a0 a1 a2 a3 a4 a5 X}{t:aY}(h:w.heap[b]? = dG (dA (a0::a1::a2::a3::a4::a5::X).toArray t (0,0))):w.cell? ⟨b,0,aD⟩=dG a0/\w.cell? ⟨b,1,aD⟩=dG a1/\w.cell? ⟨b,2,aD⟩=dG a2/\w.cell? ⟨b,3,aD⟩=dG a3/\w.cell? ⟨b,4,aD⟩=dG a4/\w.cell? ⟨b,5,aD⟩=dG a5/\b<w.heap.size:=⟨Zd h 0 _ rfl,Zd h 1 _ rfl,Zd h 2 _ rfl,Zd h 3 _ rfl,Zd h 4 _ rfl,Zd h 5 _ rfl,aA h⟩
theorem kf1{w:World}{b:Nat}{a0 X}{t:aY}(h:w.heap[b]? = dG (dA (a0::X).toArray t (0,0))):w.cell? ⟨b,0,aD⟩=dG a0/\w.frozen? ⟨b,0,aD⟩=false/\b<w.heap.size:=⟨Zd h 0 _ rfl,Zg h 0,aA h⟩
theorem kf2{w:World}{b:Nat}{a0 a1 X}{t:aY}(h:w.heap[b]? = dG (dA (a0::a1::X).toArray t (0,0))):w.cell? ⟨b,0,aD⟩=dG a0/\w.cell? ⟨b,1,aD⟩=dG a1/\w.frozen? ⟨b,0,aD⟩=false/\w.frozen? ⟨b,1,aD⟩=false/\b<w.heap.size:=⟨Zd h 0 _ rfl,Zd h 1 _ rfl,Zg h 0,Zg h 1,aA h⟩
theorem kf3{w:World}{b:Nat}{a0 a1 a2 X}{t:aY}(h:w.heap[b]? = dG (dA (a0::a1::a2::X).toArray t (0,0))):w.cell? ⟨b,0,aD⟩=dG a0/\w.cell? ⟨b,1,aD⟩=dG a1/\w.cell? ⟨b,2,aD⟩=dG a2/\w.frozen? ⟨b,0,aD⟩=false/\w.frozen? ⟨b,1,aD⟩=false/\w.frozen? ⟨b,2,aD⟩=false/\b<w.heap.size:=⟨Zd h 0 _ rfl,Zd h 1 _ rfl,Zd h 2 _ rfl,Zg h 0,Zg h 1,Zg h 2,aA h⟩
theorem kf4{w:World}{b:Nat}{a0 a1 a2 a3 X}{t:aY}(h:w.heap[b]? = dG (dA (a0::a1::a2::a3::X).toArray t (0,0))):w.cell? ⟨b,0,aD⟩=dG a0/\w.cell? ⟨b,1,aD⟩=dG a1/\w.cell? ⟨b,2,aD⟩=dG a2/\w.cell? ⟨b,3,aD⟩=dG a3/\w.frozen? ⟨b,0,aD⟩=false/\w.frozen? ⟨b,1,aD⟩=false/\w.frozen? ⟨b,2,aD⟩=false/\w.frozen? ⟨b,3,aD⟩=false/\b<w.heap.size:=⟨Zd h 0 _ rfl,Zd h 1 _ rfl,Zd h 2 _ rfl,Zd h 3 _ rfl,Zg h 0,Zg h 1,Zg h 2,Zg h 3,aA h⟩
theorem kf5{w:World}{b:Nat}{a0 a1 a2 a3 a4 X}{t:aY}(h:w.heap[b]? = dG (dA (a0::a1::a2::a3::a4::X).toArray t (0,0))):w.cell? ⟨b,0,aD⟩=dG a0/\w.cell? ⟨b,1,aD⟩=dG a1/\w.cell? ⟨b,2,aD⟩=dG a2/\w.cell? ⟨b,3,aD⟩=dG a3/\w.cell? ⟨b,4,aD⟩=dG a4/\w.frozen? ⟨b,0,aD⟩=false/\w.frozen? ⟨b,1,aD⟩=false/\w.frozen? ⟨b,2,aD⟩=false/\w.frozen? ⟨b,3,aD⟩=false/\w.frozen? ⟨b,4,aD⟩=false/\b<w.heap.size:=⟨Zd h 0 _ rfl,Zd h 1 _ rfl,Zd h 2 _ rfl,Zd h 3 _ rfl,Zd h 4 _ rfl,Zg h 0,Zg h 1,Zg h 2,Zg h 3,Zg h 4,aA h⟩
theorem kf6{w:World}{b:Nat}{a0 a1 a2 a3 a4 a5 X}{t:aY}(h:w.heap[b]? = dG (dA (a0::a1::a2::a3::a4::a5::X).toArray t (0,0))):w.cell? ⟨b,0,aD⟩=dG a0/\w.cell? ⟨b,1,aD⟩=dG a1/\w.cell? ⟨b,2,aD⟩=dG a2/\w.cell? ⟨b,3,aD⟩=dG a3/\w.cell? ⟨b,4,aD⟩=dG a4/\w.cell? ⟨b,5,aD⟩=dG a5/\w.frozen? ⟨b,0,aD⟩=false/\w.frozen? ⟨b,1,aD⟩=false/\w.frozen? ⟨b,2,aD⟩=false/\w.frozen? ⟨b,3,aD⟩=false/\w.frozen? ⟨b,4,aD⟩=false/\w.frozen? ⟨b,5,aD⟩=false/\b<w.heap.size:=⟨Zd h 0 _ rfl,Zd h 1 _ rfl,Zd h 2 _ rfl,Zd h 3 _ rfl,Zd h 4 _ rfl,Zd h 5 _ rfl,Zg h 0,Zg h 1,Zg h 2,Zg h 3,Zg h 4,Zg h 5,aA h⟩
structure Pu(w0 w:World)(p:Nat)(v:Value)(K:List CV):Prop where
 bel:ZD w0 w
 ge:w0.heap.size<=p
 box:w.heap[p]? = dG (dA #[v] 242 (0,0))
 own:w.ownsRow w0.heap.size 162 6 v K.length (Zl K)
 ne:v.ownBlock≠dG p
 lk:∀ x∈K,LkAt w0 x
def PuS(p:Nat)(v:Value):Nat->Prop:=λk=>k=p\/v.ownBlock=dG k
theorem Pu.coins{w0 w}{p:Nat}{v}{K:List CV}(h:Pu w0 w p v K):∃ a c,v = F a K.length c/\CoinsAt w a K.length (K.map (·.1))/\SlOk a K.length c:=
 Yr h.own (λx hx=>(h.lk x hx).later h.bel)
theorem Pu.lt{w0 w:World}{p:Nat}{v K}(h:Pu w0 w p v K):p<w.heap.size:=aA h.box
theorem Pu.kept{w0 w w':World}{p:Nat}{v K}(h:Pu w0 w p v K)(hb:ZD w w'):Pu w0 w' p v K:=
 ⟨Zf h.bel (hb.mono h.bel.size |> λq=>⟨q.os,q.tape,q.output,q.size,hb.block⟩),h.ge,(hb.block p h.lt).trans h.box,(Gr.of (S:=λ_=>False) hb).own h.own (λ_ _ q=>q),h.ne,h.lk⟩
theorem Zjk(a)(n c:Nat)(L w)(hn:n<=4096)(h:CoinsAt w a n L)(hs:SlOk a n c) :
  Calls aB 157 #[F a n c] w λe w'=>∃ p v,∃ K:List CV,e = dB (dE (dG ⟨p,0,aD⟩))/\K.map (·.1)=L/\Pu w w' p v K:=by
 have C:=Zb (Ti a n c L w hn h hs);clear h hs;go_enter func157,ntmps157;go_wp2_with fail;refine C.mono ?_;rintro e w2 ⟨v,K,rfl,hK,hl,ho,hb⟩;obtain⟨a',c',rfl,_,_⟩:=Yr ho (λx hx=>(hl x hx).later hb);have⟨n',ad⟩:=ZF (K.length);rw[ad] at ho ⊢
 have P:Hid (Pu w (w2.alloc (dA #[F a' n' c'] 242)) w2.heap.size (F a' n' c') K):=by
  refine⟨hb.alloc hb.size _,hb.size,aG w2 _,by rw[ad];exact ho.alloc _,λe=>?_,hl⟩;have:=(ho.lt _ e).2;omega
 have HK:=Zb hK;clear hK hl ho hb ad;go_wp2;go_ret;exact⟨w2.heap.size,_,K,rfl,Za HK,Za P⟩
theorem Dv(x:Zi)(a)(n c:Nat)(p:PtD)(z:Int)(w:World)(hz:Ka (pt x) p=z) :
  ZH 265 #[cnV x a n c,.agg #[E J p.1,E J p.2]] w (E J z):=by
 unfold cnV;have HB:=Zb (Zf (Zh w (dA #[E J x.1,E J x.2.1,E J (cv x),F a n c,E J (ch x),dF (cr x)] 162)) (Zh _ (dA #[E J p.1,E J p.2] 87)));have C:=Zb (λw=>T9 (pt x) p z w hz);unfold pt at C;go_enter func265,ntmps265;go_wp2_with fail;refine (C _).mono ?_;rintro e w2 ⟨rfl,ac⟩;have ab:=Zb (Zf HB ac);go_wp2;go_ret;exact⟨rfl,Za ab⟩
theorem Zhf{L:List Zi}(h:Srt L)(p:PtD)(i:Nat)(hi:i<=L.length)(h1:∀ t (ht:t<L.length),t<i->lt (pt L[t]) p=true)(h2:∀ t (ht:t<L.length),i<=t->lt (pt L[t]) p=false):pos p L=i:=by
 have⟨e1,_⟩:=U7 (p:=p) h;have hl:=Zlh p L
 rcases Nat.lt_trichotomy (pos p L) i with q|q|q
 ·have:=h1 (pos p L) (by omega) q;have hm:L[pos p L]'(by omega)∈L.drop (pos p L):=by rw[aK (by omega)];exact cN ..
  rw[(U7 (p:=p) h).2,List.mem_filter] at hm;rw[this] at hm;exact absurd hm.2 (by decide)
 ·exact q
 ·have:=h2 i (by omega) (aE _)
  have hm:L[i]'(by omega)∈L.take (pos p L):=by
   rw[List.mem_take_iff_getElem];exact⟨i,by omega,rfl⟩
  rw[e1,List.mem_filter,this] at hm;exact absurd hm.2 (by decide)
theorem Ca{L:List Zi}(h:Srt L)(p:PtD)(i j:Nat)(hi:i<L.length)(hj:j<L.length)(ac:i<=j)(hl:lt (pt L[j]) p=true):lt (pt L[i]) p=true:=by
 rcases Nat.lt_or_ge i j with q|q
 ·exact lt_trans (List.pairwise_iff_getElem.1 h i j hi hj q) hl
 ·obtain rfl:i=j:=by omega
  exact hl
theorem Znu(b off n c:Nat)(L:List Zi)(p:PtD)(k:Nat)(f:Bool)(w:World)(hs:Srt L)(hn:n<=4611686018427387903)(hz:L.length=n)(hc:∀ i (h:i<L.length),CoinAt w b (off+i*6) L[i])
  (hk:pos p L=k) (hf:We p L=f) :
  ZH 264 #[F (dG ⟨b,off,aD⟩) n c,.agg #[E J p.1,E J p.2],.func (.func 265) #[] #[]] w (dC #[E J k,dF f]):=by
 have HS:=Zb hs;have HC:=Zb hc;have HZ:=Zb hz;have HK:=Zb hk;have HF:=Zb hf;have⟨X,hX⟩:=ZG (w.alloc (dA #[E J p.1,E J p.2] 87));have⟨n0,n1⟩:=Yo w (E J p.1) (E J p.2) 87;rw[<-hX] at n0 n1;have bz:ZD w X:=by rw[hX];exact Zh _ _
 have al:=Zb bz;have N0:=Zb n0;have N1:=Zb n1;go_enter func264,ntmps264;go_wp2;rw[<-hX]
 go_loopw [9,10] (λs9 bf wr=>∃ lo hi:Nat,s9 = E J lo/\bf = E J hi/\lo<=hi/\hi<=n/\Hid ((∀ t (ht:t<L.length),t<lo->lt (pt L[t]) p=true)/\(∀ t (ht:t<L.length),hi<=t->lt (pt L[t]) p=false))/\ZD X wr) (λs9 bf _=>(intOf bf).toNat - (intOf s9).toNat)
 case atStart=>exact⟨0,n,rfl,rfl,aI _,aE _,(⟨λt _ h=>absurd h (by omega),λt ht h=>absurd ht (by rw[Za HZ];omega)⟩:(∀ t (ht:t<L.length),t<0->lt (pt L[t]) p=true)/\(∀ t (ht:t<L.length),n<=t->lt (pt L[t]) p=false)),Below.refl _ _⟩
 case round=>
  obtain⟨lo,hi,rfl,rfl,cl,au,I,hb⟩:=hrel;have HB:=Zb hb;have m0:=Ze hb N0;have m1:=Ze hb N1;have cu:=aC _ _ m0;by_cases cm:lo<hi
  ·obtain⟨m,hm⟩:∃ m:Nat,m=(lo+hi) / 2:=⟨_,rfl⟩;have cn:((lo:Int)+(hi:Int)) / 2=(m:Int):=(by omega);have ce:m<n:=(by omega);have ct:(m:Int)<(n:Int):=(by omega);have be:m<L.length:=(by rw[Za HZ];exact ce);have au:=CoinAt.kept _ _ _ _ _ (Zf al hb) (HC m be);have I1:Hid (lt (pt L[m]) p=true->(∀ t (ht:t<L.length),t<m+1->lt (pt L[t]) p=true)/\(∀ t (ht:t<L.length),hi<=t->lt (pt L[t]) p=false)):=λh=>⟨λt ht h2=>Ca HS p t m ht be (by omega) h,I.2⟩
   have I2:Hid (lt (pt L[m]) p=false->(∀ t (ht:t<L.length),t<lo->lt (pt L[t]) p=true)/\(∀ t (ht:t<L.length),m<=t->lt (pt L[t]) p=false)):=λh=>⟨I.1,λt ht h2=>by
    rw[<-cI];intro q;rw[Ca HS p m t be ht h2 q] at h;exact Bool.noConfusion h⟩
   have⟨x,hx⟩:=ZF (L[m]);rw[hx] at au I1 I2;have⟨a,l,d,g1,g2,g3,g4,g5,g6,_,_⟩:=au.val;have⟨z,hz⟩:=ZF (Ka (pt x) p);have C:=Zb (λw=>Dv x a l d p z w hz);unfold cnV at C;have ax:z<0↔lt (pt x) p=true:=(by rw[<-hz];exact Ay);have cq:lo<=m:=(by omega);have cp:m<hi:=(by omega);have HM:=Zb hm;clear au hx hz I hb hm;by_cases ah:z<0
   ·have ay:=Zb (I1 (ax.1 ah));clear ax;go_wp2_with fail
    go_region_held3 (λw'=>ZD wr w'/\w'.cell? ⟨w.heap.size,0,aD⟩=dG (E J p.1)/\w'.cell? ⟨w.heap.size,1,aD⟩=dG (E J p.2)/\w'.cell? ⟨b,off+m*6,aD⟩=dG (E J x.1)/\w'.cell? ⟨b,off+m*6+1,aD⟩=dG (E J x.2.1)/\w'.cell? ⟨b,off+m*6+2,aD⟩=dG (E J (cv x))/\w'.cell? ⟨b,off+m*6+3,aD⟩=dG (F a l d)/\w'.cell? ⟨b,off+m*6+4,aD⟩=dG (E J (ch x))/\w'.cell? ⟨b,off+m*6+5,aD⟩=dG (dF (cr x)))
     (first
     | exact⟨Zj _,m0,m1,g1,g2,g3,g4,g5,g6⟩
     | (go_split_ands;refine⟨Zf (by assumption) aa,Ze aa (by assumption),Ze aa (by assumption),Ze aa (by assumption),Ze aa (by assumption),Ze aa (by assumption),Ze aa (by assumption),Ze aa (by assumption),Ze aa (by assumption)⟩))
     (first|(go_at_call 265;refine (C _).mono ?_;rintro e w' ⟨rfl,aa⟩))
    rename_i hH;have HH:=Zb (Zf HB hH.1);clear hH;go_wp2;go_roundw
    case rel=>exact⟨m+1,hi,by go_num,rfl,by omega,by omega,ay,Za HH⟩
    case measure=>simp[intOf];omega
   ·have ay:=Zb (I2 (by rw[<-cI];intro q;exact ah (ax.2 q)));clear ax;go_wp2_with fail
    go_region_held3 (λw'=>ZD wr w'/\w'.cell? ⟨w.heap.size,0,aD⟩=dG (E J p.1)/\w'.cell? ⟨w.heap.size,1,aD⟩=dG (E J p.2)/\w'.cell? ⟨b,off+m*6,aD⟩=dG (E J x.1)/\w'.cell? ⟨b,off+m*6+1,aD⟩=dG (E J x.2.1)/\w'.cell? ⟨b,off+m*6+2,aD⟩=dG (E J (cv x))/\w'.cell? ⟨b,off+m*6+3,aD⟩=dG (F a l d)/\w'.cell? ⟨b,off+m*6+4,aD⟩=dG (E J (ch x))/\w'.cell? ⟨b,off+m*6+5,aD⟩=dG (dF (cr x)))
     (first
     | exact⟨Zj _,m0,m1,g1,g2,g3,g4,g5,g6⟩
     | (go_split_ands;refine⟨Zf (by assumption) aa,Ze aa (by assumption),Ze aa (by assumption),Ze aa (by assumption),Ze aa (by assumption),Ze aa (by assumption),Ze aa (by assumption),Ze aa (by assumption),Ze aa (by assumption)⟩))
     (first|(go_at_call 265;refine (C _).mono ?_;rintro e w' ⟨rfl,aa⟩))
    rename_i hH;have HH:=Zb (Zf HB hH.1);go_wp2;go_roundw
    case rel=>exact⟨lo,m,rfl,by go_num,by omega,by omega,ay,Za HH⟩
    case measure=>simp[intOf];omega
  ·have e:lo=hi:=(by omega);subst e;have ek:k=lo:=(by rw[<-Za HK];exact Zhf HS p lo (by rw[Za HZ];exact au) (λt ht h=>I.1 t ht h) (λt ht h=>I.2 t ht h));subst ek;have hf:=Zaf (p:=p) HS;rw[Za HF,Za HK,Za HZ] at hf;by_cases bd:k<n
   ·have bs:k<L.length:=(by rw[Za HZ];exact bd);have cd:(k:Int)<(n:Int):=(by omega);have br:=CoinAt.kept _ _ _ _ _ (Zf al hb) (HC k bs);rw[bR bs,Option.map_some] at hf;have⟨x,hx⟩:=ZF (L[k]);rw[hx] at br hf;have⟨a,l,d,g1,g2,g3,g4,g5,g6,_,_⟩:=br.val;have⟨z,hz⟩:=ZF (Ka (pt x) p);have C:=Zb (λw=>Dv x a l d p z w hz);unfold cnV at C;have hg:decide ((k:Int)<(n:Int))=true:=decide_eq_true cd
    have bq:Hid (f=decide (z=0)):=by
     show _=_;rw[hf,decide_eq_true bd,Bool.true_and,<-hz];exact decide_eq_decide.2 (by rw[aZ,Zqx])
    by_cases ah:z=0
    ·subst ah;have aj:Hid (f=true):=(by show _=_;rw[Za bq];rfl);go_wp2_with fail
     go_region_held3 (λw'=>ZD wr w'/\w'.cell? ⟨w.heap.size,0,aD⟩=dG (E J p.1)/\w'.cell? ⟨w.heap.size,1,aD⟩=dG (E J p.2)/\w'.cell? ⟨b,off+k*6,aD⟩=dG (E J x.1)/\w'.cell? ⟨b,off+k*6+1,aD⟩=dG (E J x.2.1)/\w'.cell? ⟨b,off+k*6+2,aD⟩=dG (E J (cv x))/\w'.cell? ⟨b,off+k*6+3,aD⟩=dG (F a l d)/\w'.cell? ⟨b,off+k*6+4,aD⟩=dG (E J (ch x))/\w'.cell? ⟨b,off+k*6+5,aD⟩=dG (dF (cr x)))
      (first
      | exact⟨Zj _,m0,m1,g1,g2,g3,g4,g5,g6⟩
      | (go_split_ands;refine⟨Zf (by assumption) aa,Ze aa (by assumption),Ze aa (by assumption),Ze aa (by assumption),Ze aa (by assumption),Ze aa (by assumption),Ze aa (by assumption),Ze aa (by assumption),Ze aa (by assumption)⟩))
      (first|(go_at_call 265;refine (C _).mono ?_;rintro e w' ⟨rfl,aa⟩))
     rename_i hH;have HH:=Zb (Zf HB hH.1);go_wp2;go_ret2;exact⟨by rw[Za aj];rfl,Zf al HH⟩
    ·have aj:Hid (f=false):=(by show _=_;rw[Za bq];exact decide_eq_false ah);have gz:(z == 0)=false:=(by simp[ah]);go_wp2_with fail
     go_region_held3 (λw'=>ZD wr w'/\w'.cell? ⟨w.heap.size,0,aD⟩=dG (E J p.1)/\w'.cell? ⟨w.heap.size,1,aD⟩=dG (E J p.2)/\w'.cell? ⟨b,off+k*6,aD⟩=dG (E J x.1)/\w'.cell? ⟨b,off+k*6+1,aD⟩=dG (E J x.2.1)/\w'.cell? ⟨b,off+k*6+2,aD⟩=dG (E J (cv x))/\w'.cell? ⟨b,off+k*6+3,aD⟩=dG (F a l d)/\w'.cell? ⟨b,off+k*6+4,aD⟩=dG (E J (ch x))/\w'.cell? ⟨b,off+k*6+5,aD⟩=dG (dF (cr x)))
      (first
      | exact⟨Zj _,m0,m1,g1,g2,g3,g4,g5,g6⟩
      | (go_split_ands;refine⟨Zf (by assumption) aa,Ze aa (by assumption),Ze aa (by assumption),Ze aa (by assumption),Ze aa (by assumption),Ze aa (by assumption),Ze aa (by assumption),Ze aa (by assumption),Ze aa (by assumption)⟩))
      (first|(go_at_call 265;refine (C _).mono ?_;rintro e w' ⟨rfl,aa⟩))
     rename_i hH;have HH:=Zb (Zf HB hH.1);go_wp2;go_ret2;exact⟨by rw[Za aj];rfl,Zf al HH⟩
   ·have aj:Hid (f=false):=(by show _=_;rw[hf,decide_eq_false bd,Bool.false_and]);have hg:decide ((k:Int)<(n:Int))=false:=decide_eq_false (by omega);go_wp2_with fail
    go_quiet (fail)
    go_wp2;go_ret2;exact⟨by rw[Za aj];rfl,Zf al (Zf HB (Gl _ _))⟩
theorem Znv(a c)(p:PtD)(v)(w:World) :
  ZH 264 #[F a 0 c,.agg #[E J p.1,E J p.2],v] w (dC #[E J 0,dF false]):=by
 have HB:=Zb (Zh w (dA #[E J p.1,E J p.2] 87));go_enter func264,ntmps264;go_wp2;refine bB 1 ?_;rw[aS];go_wp2_with fail
 go_quiet (fail)
 go_wp2;go_ret2;exact⟨rfl,Zf HB (Gl _ _)⟩
theorem Zra(a)(n c:Nat)(L)(p:PtD)(k:Nat)(f:Bool)(w:World)(hs:Srt L)(hn:n<=4611686018427387903)(h:CoinsAt w a n L)(hk:pos p L=k)(hf:We p L=f) :
  ZH 264 #[F a n c,.agg #[E J p.1,E J p.2],.func (.func 265) #[] #[]] w (dC #[E J k,dF f]):=by
 have⟨hl,hc⟩:=h;by_cases h2:n=0
 ·subst h2;have e:L=[]:=aJ.1 hl;subst e;subst hk hf;exact Znv a c p _ w
 ·obtain⟨b,off,rfl,_,ae⟩:=hc (by omega);exact Znu b off n c L p k f w hs hn hl ae hk hf
theorem Rt(a)(n c:Nat)(L)(p:PtD)(k:Nat)(f:Bool)(w:World)(hs:Srt L)(hn:n<=4611686018427387903)(h:CoinsAt w a n L)(hk:pos p L=k)(hf:We p L=f) :
  ZH 247 #[F a n c,.agg #[E J p.1,E J p.2]] w (dC #[E J k,dF f]):=by
 have hb:=Zh w (dA #[E J p.1,E J p.2] 87);have HB:=Zb hb;have C:=Zb (Zra a n c L p k f _ hs hn (h.later hb) hk hf);go_enter func247,ntmps247;go_wp2_with fail;refine C.mono ?_;rintro e w2 ⟨rfl,ad⟩;have ac:=Zb (Zf HB ad);go_wp2;go_ret2;exact⟨rfl,Za ac⟩
