import Derived.Test.YtpikejjiignchaaGreatDoorH
import Derived.OrdersHeld
import Derived.Test.YtpikejjiignchaaGreatDoorRows
import Derived.WalkLawsBesides
import Derived.Test.YtpikejjiignchaaGreatDoorG1
import Derived.Lib.AppendIntMem
import Derived.Lib.ItoaLen
import Derived.Lib.SmallJoins
import Derived.Lib.ParseIntBTie
open Go.Proofs.Tryz
open Bool renaming and_eq_true->bL
open Go renaming wp_loop_rounds->aQ,rounds_succ->aL,maxLen->cD,TypeId->bO
open Go.Ending renaming returned->dX
open Go.IntKind renaming i64->J
open Go.Obj renaming cells->dW
open Go.Proofs.Tryz renaming prog->aB
open Go.Value renaming string->cE,int->E,slice->F,tuple->dY,bool->eA
open Go.World renaming block_lt_of_cell?->aC
open List renaming cons_append->cG,getD_eq_getElem?_getD->aZ,take_succ_eq_append_getElem->aM,length_take->bG,length_cons->dQ,take_succ_cons->dK,length_eq_zero_iff->aJ,length_map->dF,map_append->bW,drop_eq_getElem_cons->aN,drop_of_length_le->cB
open Nat renaming le_refl->aE,zero_le->aP,le_trans->aT,lt_of_lt_of_le->aI
open Option.some renaming injEq->bE
set_option maxHeartbeats 3200000
set_option maxRecDepth 10000
namespace Go.Proofs.YtpikejjiignchaaGreatDoor
open Go.RowKit
def fit(n:Int):Bool:=decide (-1000000<=n) && decide (n<=1000000)
theorem Yf(n:Int):fit n=true↔-1000000<=n/\n<=1000000:=by simp[fit]
theorem Mc(n:Int):fit n=false↔n < -1000000\/1000000<n:=by
 rw[<-Bool.not_eq_true,Yf];omega
def b01(b:Bool):Int:=if b then 1 else 0
def Ls(a:Int):Nat->Int
 | 0=>a+1000000
 | k+1=>(7919*Ls a k+104729) % 1000003
theorem Zfx(a:Int)(h:fit a=true):∀ k,0<=Ls a k/\Ls a k<=2000000
 | 0=>by have:=(Yf a).1 h;simp only[Ls];omega
 | k+1=>by simp only[Ls];omega
def Zbg(a:Int):Int:=Ls a 3 % 1000001
def g2(k:Int)(a b:Int):Int:=
 if k=5 then a+b else if k=6 then a - b else if k=7 then b01 (a == b) else if k=8 then b01 (decide (a<b)) else b01 (a != 0 && b != 0)
def g1(k:Int)(a:Int):Int:=if k=9 then b01 (a == 0) else Zbg a
def Jj(L:List Int)(x:Int):Option (List Int):=if L.length=16\/fit x=false then none else some (L++[x])
def Xr(L:List Int):Option (List Int):=if L.length=0 then none else some L.dropLast
def Rd(L:List Int):Int:=L.getLastD 0
def Yi(h:Int)(k n:Int)(L:List Int):Option (List Int):=
 if k=1 then Jj L n
 else if k=2 then (Xr L).bind λM=>(Jj M (Rd L)).bind λM=>Jj M (Rd L)
 else if k=3 then (Xr L).bind λM=>(Xr M).bind λN=>(Jj N (Rd L)).bind λQ=>Jj Q (Rd M)
 else if k=4 then Xr L
 else if k=9\/k=13 then (Xr L).bind λM=>Jj M (g1 k (Rd L))
 else if k=11 then (Xr L).bind λM=>if Rd L=0 then none else some M
 else if k=12 then Jj L h
 else (Xr L).bind λM=>(Xr M).bind λN=>Jj N (g2 k (Rd M) (Rd L))
def Xh(h:Int):List (Int×Int)->List Int->Option (List Int)
 | [],L=>some L
 | o :: r,L=>(Yi h o.1 o.2 L).bind (Xh h r)
theorem Uv(h:Int):∀ (l m:List (Int×Int)) (L:List Int),Xh h (l++m) L=(Xh h l L).bind (Xh h m)
 | [],m,L=>by simp[Xh]
 | o :: r,m,L=>by
  simp only[cG,Xh];cases Yi h o.1 o.2 L with
  | none=>rfl
  | some M=>simp only[Option.bind];exact Uv h r m M
structure MS where
 cs:List Int
 n:Nat
 h:Int
 f:Bool
def MS.ok(s:MS):Prop:=s.cs.length=16/\s.n<=16/\∀ x∈s.cs,fit x=true
def MS.rep(s:MS):Option (List Int):=if s.f then none else some (s.cs.take s.n)
def MS.put(s:MS)(x:Int):MS:=if s.n=16\/fit x=false then { s with f:=true } else { s with cs:=s.cs.set s.n x,n:=s.n+1 }
def MS.top(s:MS):Int:=if s.n=0 then 0 else s.cs.getD (s.n - 1) 0
def MS.take(s:MS):MS:=if s.n=0 then { s with f:=true } else { s with n:=s.n - 1 }
def MS.fail(s:MS):MS:={ s with f:=true }
def MS.step(s:MS)(k n:Int):MS:=
 if k=1 then s.put n
 else if k=2 then (s.take.put s.top).put s.top
 else if k=3 then (s.take.take.put s.top).put s.take.top
 else if k=4 then s.take
 else if k=9\/k=13 then s.take.put (g1 k s.top)
 else if k=11 then (if s.top=0 then s.take.fail else s.take)
 else if k=12 then s.put s.h
 else s.take.take.put (g2 k s.take.top s.top)
theorem MS.put_h(s:MS)(x:Int):(s.put x).h=s.h:=by unfold MS.put;split <;> rfl
theorem MS.take_h(s:MS):s.take.h=s.h:=by unfold MS.take;split <;> rfl
theorem MS.fail_h(s:MS):s.fail.h=s.h:=rfl
theorem MS.step_h(s:MS)(k n:Int):(s.step k n).h=s.h:=by
 unfold MS.step;repeat' split
 all_goals simp only[MS.put_h,MS.take_h,MS.fail_h]
theorem MS.ok.put_ok{s:MS}(O:s.ok)(x:Int):(s.put x).ok:=by
 obtain⟨h1,h2,h3⟩:=O;unfold MS.put;split
 ·exact⟨h1,h2,h3⟩
 ·rename_i h;simp only[not_or,Bool.not_eq_false] at h;refine⟨by simpa using h1,by show s.n+1<=16;omega,λy z=>?_⟩
  rcases List.mem_or_eq_of_mem_set z with z|rfl
  ·exact h3 y z
  ·exact h.2
theorem MS.ok.take_ok{s:MS}(z:s.ok):s.take.ok:=by
 obtain⟨h1,h2,h3⟩:=z;unfold MS.take;split
 ·exact⟨h1,h2,h3⟩
 ·exact⟨h1,by show s.n - 1<=16;omega,h3⟩
theorem MS.ok.fail_ok{s:MS}(z:s.ok):s.fail.ok:=z
theorem MS.ok.top_fit{s:MS}(O:s.ok):fit s.top=true:=by
 obtain⟨h1,h2,h3⟩:=O;unfold MS.top;split
 ·decide
 ·rename_i h;have z:s.n - 1<s.cs.length:=by omega
  rw[aZ,List.getElem?_eq_getElem z,Option.getD_some];exact h3 _ (List.getElem_mem z)
theorem MS.rep_put{s:MS}(hs:s.ok)(x:Int):(s.put x).rep=s.rep.bind (Jj · x):=by
 obtain⟨h1,h2,_⟩:=hs;unfold MS.rep;cases hf:s.f with
 | true=>
  have:(s.put x).f=true:=by unfold MS.put;split <;> simp[hf]
  rw[this];rfl
 | false=>
  simp only[Bool.false_eq_true,if_false,Option.bind_some];have z:(s.cs.take s.n).length=s.n:=by simp;omega
  unfold MS.put Jj;rw[z];split
  ·rfl
  ·rename_i h;simp only[not_or,Bool.not_eq_false] at h;simp only[hf,Bool.false_eq_true,if_false];have O:s.n<s.cs.length:=(by omega);rw[aM (by simpa using O)];simp[List.take_set_of_le]
theorem MS.rep_take{s:MS}(O:s.ok):s.take.rep=s.rep.bind Xr:=by
 obtain⟨h1,h2,_⟩:=O;unfold MS.rep;cases hf:s.f with
 | true=>
  have:s.take.f=true:=by unfold MS.take;split <;> simp[hf]
  rw[this];rfl
 | false=>
  simp only[Bool.false_eq_true,if_false,Option.bind_some];have z:(s.cs.take s.n).length=s.n:=by simp;omega
  unfold MS.take Xr;rw[z];split
  ·rfl
  ·simp only[hf,Bool.false_eq_true,if_false];show some (s.cs.take (s.n - 1))=_;rw[List.dropLast_eq_take,List.take_take,z]
   congr 2
   omega
theorem MS.rep_top{s:MS}(z:s.ok){L}(h:s.rep=some L):s.top=Rd L:=by
 obtain⟨h1,h2,_⟩:=z;unfold MS.rep at h;split at h
 ·cases h
 ·simp only[bE] at h;subst h;unfold MS.top Rd;split
  ·rename_i e;rw[e];rfl
  ·have O:s.n - 1<s.cs.length:=(by omega);rw[List.getLastD_eq_getLast?,List.getLast?_eq_getElem?,bG,aZ];have e:min s.n s.cs.length - 1=s.n - 1:=(by omega);rw[e,List.getElem?_take_of_lt (by omega)]
theorem MS.rep_none_take{s:MS}(z:s.ok)(h:s.rep=none):s.take.rep=none:=by rw[MS.rep_take z,h];rfl
theorem MS.rep_none_put{s:MS}(z:s.ok)(h:s.rep=none)(x:Int):(s.put x).rep=none:=by rw[MS.rep_put z,h];rfl
theorem MS.rep_step{s:MS}(hs:s.ok)(k n:Int):(s.step k n).rep=s.rep.bind (Yi s.h k n):=by
 have z:=hs.take_ok;have ac:=z.take_ok;cases hr:s.rep with
 | none=>
  have h1:=MS.rep_none_take hs hr;have h2:=MS.rep_none_take z h1;show _=none;unfold MS.step;split
  ·exact MS.rep_none_put hs hr _
  split
  ·exact MS.rep_none_put (z.put_ok _) (MS.rep_none_put z h1 _) _
  split
  ·exact MS.rep_none_put (ac.put_ok _) (MS.rep_none_put ac h2 _) _
  split
  ·exact h1
  split
  ·exact MS.rep_none_put z h1 _
  split
  ·split
   ·rfl
   ·exact h1
  split
  ·exact MS.rep_none_put hs hr _
  ·exact MS.rep_none_put ac h2 _
 | some L=>
  have e0:=MS.rep_top hs hr;have e1:s.take.rep=Xr L:=by rw[MS.rep_take hs,hr];rfl
  have e2:s.take.take.rep=(Xr L).bind Xr:=by rw[MS.rep_take z,e1]
  have e3:∀ M,Xr L=some M->s.take.top=Rd M:=λM O=>MS.rep_top z (e1.trans O);show _=Yi s.h k n L;unfold MS.step Yi;split
  ·rw[MS.rep_put hs,hr];rfl
  split
  ·rw[MS.rep_put (z.put_ok _),MS.rep_put z,e1,e0];cases Xr L with
   | none=>rfl
   | some M=>rfl
  split
  ·rw[MS.rep_put (ac.put_ok _),MS.rep_put ac,e2,e0];cases O:Xr L with
   | none=>rfl
   | some M=>
    rw[e3 M O];show ((Xr M).bind (Jj · (Rd L))).bind _=(Xr M).bind _;cases Xr M <;> rfl
  split
  ·exact e1
  split
  ·rw[MS.rep_put z,e1,e0]
  split
  ·rw[e0];cases O:Xr L with
   | none=>
    show _=none;split
    ·rfl
    ·rw[e1,O]
   | some M=>
    show _=(if Rd L=0 then none else some M);split
    ·rfl
    ·rw[e1,O]
  split
  ·rw[MS.rep_put hs,hr];rfl
  ·rw[MS.rep_put ac,e2,e0];cases O:Xr L with
   | none=>rfl
   | some M=>
    rw[e3 M O];show ((Xr M).bind _)=(Xr M).bind _;rfl
def Yj(Z:List Int):Bool:=decide (Z.length<=16) && Z.all fit
def Yn:List Int->List Int->Option (List Int)
 | L,[]=>some L
 | L,x :: r=>(Jj L x).bind λM=>Yn M r
theorem M5:∀ (Z L:List Int) (x:Int),Yn L (Z++[x])=(Yn L Z).bind (Jj · x)
 | [],L,x=>by simp[Yn]
 | y :: r,L,x=>by
  simp only[cG,Yn];cases Jj L y with
  | none=>rfl
  | some M=>exact M5 r M x
theorem Zaq:∀ (Z L:List Int),L.length<=16->Yn L Z=if decide ((L++Z).length<=16) && Z.all fit then some (L++Z) else none
 | [],L,h=>by simp[Yn,h]
 | x :: r,L,h=>by
  simp only[Yn,Jj];by_cases h1:L.length=16
  ·rw[if_pos (Or.inl h1),if_neg];rfl;simp only[List.length_append,dQ,bL,decide_eq_true_eq];omega
  ·by_cases h2:fit x=false
   ·rw[if_pos (Or.inr h2),if_neg];rfl;simp[h2]
   ·rw[if_neg (by simp[h1];simpa using h2)];show Yn (L++[x]) r=_;rw[Zaq r (L++[x]) (by simp;omega)];have h3:fit x=true:=(by simpa using h2);simp[h3]
theorem Zhq(Z):Yn [] Z=if Yj Z then some Z else none:=by
 rw[Zaq Z [] (by simp)];rfl
theorem Je{L M}{x:Int}(z:Yj L=true)(h:Jj L x=some M):Yj M=true:=by
 unfold Jj at h;split at h
 ·cases h
 ·rename_i O;simp only[bE] at h;subst h;simp only[not_or,Bool.not_eq_false] at O;simp only[Yj,bL,decide_eq_true_eq] at z ⊢;refine⟨by simp;omega,?_⟩;rw[List.all_append];simp[z.2,O.2]
theorem U2{L M}(z:Yj L=true)(h:Xr L=some M):Yj M=true:=by
 unfold Xr at h;split at h
 ·cases h
 ·simp only[bE] at h;subst h;simp only[Yj,bL,decide_eq_true_eq,List.all_eq_true] at z ⊢;exact⟨by simp;omega,λx O=>z.2 x (List.dropLast_subset _ O)⟩
theorem Ur{α β : Type}{o:Option α}{f : α->Option β}{b : β}(h:o.bind f=some b):∃ a,o=some a/\f a=some b:=by
 cases o with
 | none=>cases h
 | some a=>exact⟨a,rfl,h⟩
theorem Zkd{h k n:Int}{L M}(O:Yj L=true)(e:Yi h k n L=some M):Yj M=true:=by
 unfold Yi at e;split at e
 ·exact Je O e
 split at e
 ·obtain⟨A,z,e⟩:=Ur e;obtain⟨B,hB,e⟩:=Ur e;exact Je (Je (U2 O z) hB) e
 split at e
 ·obtain⟨A,z,e⟩:=Ur e;obtain⟨B,hB,e⟩:=Ur e;obtain⟨C,hC,e⟩:=Ur e;exact Je (Je (U2 (U2 O z) hB) hC) e
 split at e
 ·exact U2 O e
 split at e
 ·obtain⟨A,z,e⟩:=Ur e;exact Je (U2 O z) e
 split at e
 ·obtain⟨A,z,e⟩:=Ur e;split at e
  ·cases e
  ·cases e;exact U2 O z
 split at e
 ·exact Je O e
 ·obtain⟨A,z,e⟩:=Ur e;obtain⟨B,hB,e⟩:=Ur e;exact Je (U2 (U2 O z) hB) e
theorem L5{h:Int}:∀ {l:List (Int×Int)} {L M:List Int},Yj L=true->Xh h l L=some M->Yj M=true
 | [],L,M,hL,e=>by cases e;exact hL
 | o :: r,L,M,hL,e=>by
  obtain⟨A,z,e⟩:=Ur e;exact L5 (Zkd hL z) e
def Xq(o:Int×Int):Int:=if o.1<1\/13<o.1 then 4 else if (o.1≠1/\o.2≠0)\/fit o.2=false then 3 else 0
def Un:List (Int×Int)->Int
 | []=>0
 | o :: r=>if Xq o=0 then Un r else Xq o
def chk(l:List (Int×Int)):Int:=if 16<l.length then 2 else Un l
theorem Az(l:List (Int×Int))(k:Nat)(h:k<l.length)(h0:Un (l.take k)=0):Un (l.take (k+1))=if Xq (l[k])=0 then 0 else Xq (l[k]):=by
 induction l generalizing k with
 | nil=>simp at h
 | cons o r ih=>
  cases k with
  | zero=>simp[Un]
  | succ k=>
   simp only[dK,Un,List.getElem_cons_succ] at h0 ⊢;split at h0
   ·rename_i e;rw[if_pos e];exact ih k (by simpa using h) h0
   ·contradiction
theorem A6(l:List (Int×Int))(k:Nat)(h:k<l.length)(h0:Un (l.take k)=0)(h1:Xq (l[k])≠0):Un l=Xq (l[k]):=by
 induction l generalizing k with
 | nil=>simp at h
 | cons o r ih=>
  cases k with
  | zero=>simp only[List.getElem_cons_zero] at h1 ⊢;simp[Un,h1]
  | succ k=>
   simp only[dK,Un,List.getElem_cons_succ] at h0 h1 ⊢;split at h0
   ·rename_i e;rw[if_pos e];exact ih k (by simpa using h) h0 h1
   ·contradiction
theorem Tu{l:List (Int×Int)}(h:Un l=0):∀ (k:Nat) (z:k<l.length),Xq (l[k])=0:=by
 induction l with
 | nil=>intro k z;simp at z
 | cons o r ih=>
  simp only[Un] at h;split at h
  ·rename_i e;intro k z;cases k with
   | zero=>exact e
   | succ k=>exact ih h k (by simpa using z)
  ·contradiction
def hOk(h:Int):Bool:=decide (0<=h) && decide (h<=1000)
def Pe(l:List (Int×Int))(Z:List Int)(h:Int):Int:=
 if chk l=0 then (if Yj Z && hOk h then (if (Xh h l Z).isSome then 0 else 8) else 3) else chk l
def Lr(l:List (Int×Int))(Z:List Int)(h:Int):List Int:=if Pe l Z h=0 then (Xh h l Z).getD [] else []
def V7(l k:List (Int×Int))(h:Int):Int:=if chk l=0 then (if chk k=0 then (if hOk h then 0 else 3) else chk k) else chk l
def Gk(L:List Int):Bool:=decide (L.length=1) && (Rd L != 0)
def Xi(l k:List (Int×Int))(h:Int):Bool:=decide (V7 l k h=0) && (match (Xh h k []).bind (Xh h l) with|some L=>Gk L|none=>false)
theorem ZA {α:Type}(l:List α)(i:Nat)(a:α):l.toArray.setIfInBounds i a=(l.set i a).toArray:=List.setIfInBounds_toArray ..
theorem ZB {α:Type}(a b:α)(l:List α):(a::l).set 0 b=b::l:=rfl
theorem ZC {α:Type}(a b:α)(l:List α)(n:Nat):(a::l).set (n+1) b=a::l.set n b:=rfl
theorem Zt {P:Program} {ops} {Q:Exit->Act->World->Prop} {z:Region.Mode} {S:World->Prop}(i:Nat)(oi:Oper)(v) {fuel:Nat} {listed:Array Bool} {a:Act} {w}(hi:ops[i]? = some oi)(hy:∀ w,S w->(execOp a.eval oi).run P w = .ok (.value v) w)(hS:S w)(h:wpAnyH P z ops Q S fuel (listed.setIfInBounds i true) (a.put oi.dst v) w)(O:∀ c a w,Q (.panic c) (a.put oi.dst v) w->Q (.panic c) a w:=by exact λ_ _ _ h=>h)(hw:Region.wanted oi (yielded ops a.tmps)=true:=by rfl)(hs:Region.noSelect ops=true:=by kernel_rfl)(hf:Region.free z ops listed i=true:=by kernel_rfl)(hr:(Region.ready z ops listed).contains i=true:=by kernel_rfl):wpAnyH P z ops Q S (fuel+1) listed a w:=wpAnyH_take hi hs hf hr O (Or.inl ⟨hw,hy⟩) hS h
theorem Zb{p:Prop}(h:p):Hid p:=h
theorem Za{p:Prop}(h:Hid p):p:=h
theorem Uh(n lo hi:Int)(w)(h1:lo<=n)(h2:n<=hi) :
  Calls aB 114 #[E J n,E J lo,E J hi] w λe w'=>e = dX (eA true)/\w=w':=by
 go_enter func114,ntmps114;go_wp2;go_ret;exact⟨rfl,rfl⟩
theorem Tx(n lo hi:Int)(w)(h:n<lo\/hi<n) :
  Calls aB 114 #[E J n,E J lo,E J hi] w λe w'=>e = dX (eA false)/\w=w':=by
 by_cases h1:n<lo
 ·go_enter func114,ntmps114;go_wp2;go_ret;exact⟨rfl,rfl⟩
 ·have h2:hi<n:=by omega
  have h3:lo<=n:=by omega
  have h4:decide (n<=hi)=false:=by simp;omega
  clear h;go_enter func114,ntmps114;go_wp2;go_ret;exact⟨rfl,rfl⟩
theorem Xc(n lo hi:Int)(b:Bool)(w)(z:b=(decide (lo<=n) && decide (n<=hi))) :
  Calls aB 114 #[E J n,E J lo,E J hi] w λe w'=>e = dX (eA b)/\w=w':=by
 subst z;by_cases h1:lo<=n
 ·by_cases h2:n<=hi
  ·simpa[h1,h2] using Uh n lo hi w h1 h2
  ·simpa[h1,h2] using Tx n lo hi w (by omega)
 ·simpa[h1] using Tx n lo hi w (by omega)
theorem Gs(n:Int)(b:Bool)(w)(z:b=fit n) :
  Calls aB 246 #[E J n] w λe w'=>e = dX (eA b)/\w=w':=by
 have O:=Zb z;clear z;go_enter func246,ntmps246
 go_wp2_with (go_at_call 114;refine (Xc _ _ _ b _ O).mono ?_;rintro e w' ⟨rfl,rfl⟩)
 go_ret;exact⟨rfl,rfl⟩
theorem Gd{a b:Int}(h:a=b):Ending.returned (E J a) = dX (E J b):=by rw[h]
theorem Dx(k n:Int)(w:World) :
  ZH 222 #[.agg #[E J k,E J n]] w (E J (Xq (k,n))):=by
 have hb:∀ o,ZD w (w.alloc o):=λo=>(Below.refl _ _).alloc (aE _) _;have O:=Zb hb;clear hb;by_cases h1:k<1\/13<k
 ·have e:Xq (k,n)=4:=by simp[Xq,h1]
  rw[e];clear e;go_enter func222,ntmps222
  go_wp2_with (go_at_call 114;refine (Tx _ _ _ _ h1).mono ?_;rintro e w' ⟨rfl,rfl⟩)
  go_ret;exact⟨rfl,O _⟩
 ·have g1:1<=k:=by omega
  have g2:k<=13:=by omega
  by_cases h2:k=1
  ·subst h2;clear h1;cases h3:fit n with
   | false=>
    have e:Xq (1,n)=3:=(by simp[Xq,h3]);rw[e];have z:=Zb h3;clear e h3;go_enter func222,ntmps222
    go_wp2_with (first|(go_at_call 114;refine (Uh _ _ _ _ (by decide) (by decide)).mono ?_;rintro e w' ⟨rfl,rfl⟩)|(go_at_call 246;refine (Gs _ false _ z.symm).mono ?_;rintro e w' ⟨rfl,rfl⟩))
    go_ret;exact⟨rfl,O _⟩
   | true=>
    have e:Xq (1,n)=0:=(by simp[Xq,h3]);rw[e];have z:=Zb h3;clear e h3;go_enter func222,ntmps222
    go_wp2_with (first|(go_at_call 114;refine (Uh _ _ _ _ (by decide) (by decide)).mono ?_;rintro e w' ⟨rfl,rfl⟩)|(go_at_call 246;refine (Gs _ true _ z.symm).mono ?_;rintro e w' ⟨rfl,rfl⟩))
    go_ret;exact⟨rfl,O _⟩
  ·have g3:(k != 1)=true:=(by simp[h2]);by_cases h4:n=0
   ·subst h4;have h3:fit 0=true:=(by decide);have e:Xq (k,0)=0:=(by simp[Xq,h3,h1]);rw[e];have z:=Zb h3;clear e h3 h1 h2;go_enter func222,ntmps222
    go_wp2_with (first|(go_at_call 114;refine (Uh _ _ _ _ g1 g2).mono ?_;rintro e w' ⟨rfl,rfl⟩)|(go_at_call 246;refine (Gs _ true _ z.symm).mono ?_;rintro e w' ⟨rfl,rfl⟩))
    go_ret;exact⟨rfl,O _⟩
   ·have g4:(n != 0)=true:=(by simp[h4]);have e:Xq (k,n)=3:=(by simp[Xq,h1,h2,h4]);rw[e];clear e h1 h2 h4;go_enter func222,ntmps222
    go_wp2_with (go_at_call 114;refine (Uh _ _ _ _ g1 g2).mono ?_;rintro e w' ⟨rfl,rfl⟩)
    go_ret;exact⟨rfl,O _⟩
def OpsAt(w:World)(a:Option Addr)(len:Nat)(l:List (Int×Int)):Prop:=
 l.length=len/\(0<len->∃ b off,a=some ⟨b,off,none⟩/\∀ i,i<len->w.cell? ⟨b,off+i*2,none⟩=some (E J (l.getD i (0,0)).1)/\w.cell? ⟨b,off+i*2+1,none⟩=some (E J (l.getD i (0,0)).2))
theorem OpsAt.later{w w':World}{a len l}(h:OpsAt w a len l)(z:ZD w w'):OpsAt w' a len l:=by
 obtain⟨hz,O⟩:=h;refine⟨hz,λh=>?_⟩;obtain⟨b,off,rfl,aa⟩:=O h;refine⟨b,off,rfl,λi hi=>?_⟩;obtain⟨h1,h2⟩:=aa i hi;refine⟨?_,?_⟩
 ·rw[z.cell (p:=⟨b,off+i*2,none⟩) (aC _ _ h1)];exact h1
 ·rw[z.cell (p:=⟨b,off+i*2+1,none⟩) (aC _ _ h2)];exact h2
theorem Zer(a)(len cap:Nat)(w)(h:16<len) :
  Calls aB 185 #[F a len cap] w λe w'=>e = dX (E J 2)/\w=w':=by
 go_enter func185,ntmps185;go_wp2;go_ret;exact⟨rfl,rfl⟩
theorem Dv(a cap)(w) :
  Calls aB 185 #[F a 0 cap] w λe w'=>e = dX (E J 0)/\w=w':=by
 go_enter func185,ntmps185;go_wp2;refine aQ 1 ?_;rw[aL];go_wp2;go_ret;exact⟨rfl,rfl⟩
theorem Zeq(b off len cap:Nat)(l:List (Int×Int))(w:World)(h0:len<=16)(hz:l.length=len)
  (hc:∀ i,i<len->w.cell? ⟨b,off+i*2,none⟩=some (E J (l.getD i (0,0)).1)/\w.cell? ⟨b,off+i*2+1,none⟩=some (E J (l.getD i (0,0)).2)) (hl:b<w.heap.size) :
  ZH 185 #[F (some ⟨b,off,none⟩) len cap] w (E J (Un l)):=by
 have HC:=Zb hc;have HZ:=Zb hz;clear hc hz;go_enter func185,ntmps185;go_wp2
 go_loopw [11] (λi wr=>∃ k:Nat,k<=len/\i = E J k/\Un (l.take k)=0/\ZD w wr) (λi _=>len - (intOf i).toNat)
 case atStart=>exact⟨0,aP _,rfl,rfl,Below.refl _ _⟩
 case round=>
  obtain⟨k,hk,rfl,aq,O⟩:=hrel;have af:=Zb aq;have z:=Zb O;clear aq;by_cases ap:k<len
  ·obtain⟨c1,c2⟩:=HC k ap;rw[<-O.cell (p:=⟨b,off+k*2,none⟩) hl] at c1;rw[<-O.cell (p:=⟨b,off+k*2+1,none⟩) hl] at c2;obtain⟨q,hq⟩:=ZG (l.getD k (0,0));rw[<-hq] at c1 c2;have ai:k<l.length:=(by rw[Za HZ];exact ap);have ar:q=l[k]:=(by rw[hq];simp[ai]);have HQ:=Zb ar;clear O hq ar;obtain⟨q1,q2⟩:=q;have CO:=Zb (Dx q1 q2);obtain⟨x,hx⟩:=ZG (Xq (q1,q2));rw[<-hx] at CO;have HX:=Zb hx;clear hx;by_cases ac:x=0
   ·subst ac;go_wp2_with fail;refine (CO _).mono ?_;rintro e w1 ⟨rfl,aa⟩;have ab:=z.trans (((Below.refl wr.heap.size wr).alloc (aE _) _).trans (aa.mono (by simp)) |>.mono z.size);have ae:=Zb ab;clear aa ab;go_wp2;go_roundw
    case rel=>
     refine⟨k+1,by omega,by go_num,?_,Za ae⟩;rw[Az l k ai (Za af),<-Za HQ,<-Za HX];rfl
    case measure=>simp[intOf];omega
   ·have bb:(x != 0)=true:=(by simp[ac]);have ay:=Zb ac;clear ac;go_wp2_with fail;refine (CO _).mono ?_;rintro e w1 ⟨rfl,aa⟩;have ab:=z.trans (((Below.refl wr.heap.size wr).alloc (aE _) _).trans (aa.mono (by simp)) |>.mono z.size);have ae:=Zb ab;clear aa ab;go_wp2;go_ret;refine⟨Gd ?_,Za ae⟩;rw[A6 l k ai (Za af) (by rw[<-Za HQ,<-Za HX];exact Za ay),<-Za HQ,<-Za HX]
  ·clear O;go_wp2;go_ret;have e:k=len:=(by omega);subst e;refine⟨Gd ?_,Za z⟩;have h1:=Za af;rw[<-Za HZ,List.take_length] at h1;exact h1.symm
theorem Qj(a len cap l)(w:World)(h:OpsAt w a len l) :
  ZH 185 #[F a len cap] w (E J (chk l)):=by
 obtain⟨z,hc⟩:=h;unfold chk;rw[z];by_cases h1:16<len
 ·rw[if_pos h1];exact (Zer a len cap w h1).mono λe w' ⟨x,y⟩=>⟨x,y ▸ Below.refl _ _⟩
 ·rw[if_neg h1];by_cases h2:len=0
  ·subst h2;have e:l=[]:=aJ.1 z;subst e;exact (Dv a cap w).mono λe w' ⟨x,y⟩=>⟨x,y ▸ Below.refl _ _⟩
  ·obtain⟨b,off,rfl,O⟩:=hc (by omega);exact Zeq b off len cap l w (by omega) z O (aC _ _ (O 0 (by omega)).1)
def RowAt(w:World)(a:Option Addr)(len:Nat)(Z:List Int):Prop:=
 Z.length=len/\len<=cD/\(0<len->∃ b off,a=some ⟨b,off,none⟩/\∀ i,i<len->w.cell? ⟨b,off+i,none⟩=some (E J (Z.getD i 0)))
theorem RowAt.later{w w':World}{a len Z}(h:RowAt w a len Z)(z:ZD w w'):RowAt w' a len Z:=by
 obtain⟨hz,hm,O⟩:=h;refine⟨hz,hm,λh=>?_⟩;obtain⟨b,off,rfl,aa⟩:=O h;refine⟨b,off,rfl,λi hi=>?_⟩;have h1:=aa i hi;rw[z.cell (p:=⟨b,off+i,none⟩) (aC _ _ h1)];exact h1
theorem RowAt.nil(w)(a):RowAt w a 0 []:=⟨rfl,aP _,λh=>absurd h (by omega)⟩
theorem C9{w z w2:World}(h1:ZD w z)(h2:ZD z w2):ZD w w2:=h1.trans (h2.mono h1.size)
structure FillV(B:Nat)(e:bO)(p:Nat)(f:Nat->Value)(w wr:World)(k:Nat):Prop where
 ex:∃ xs:List Value,wr.ownsRow B e 1 (F (some ⟨B,0,none⟩) p p) p xs/\∀ j,j<k->xs[j]? = some (f j)
 bel:Below B w wr
theorem FillV.lt{B:Nat}{e:bO}{p:Nat}{f:Nat->Value}{w wr:World}{k:Nat}(h:FillV B e p f w wr k):B<wr.heap.size:=by
 obtain⟨_,z,_⟩:=h.ex;exact (z.lt B rfl).2
theorem FillV.old{B:Nat}{e:bO}{p:Nat}{f:Nat->Value}{w wr:World}{k:Nat}(h:FillV B e p f w wr k)(O:k<p):∃ v,wr.cell? ⟨B,k,none⟩=some v:=by
 obtain⟨xs,z,_⟩:=h.ex;have hl:xs.length=p:=by simpa using z.1
 exact⟨xs[k]'(by omega),by rw[z.cellAt k (by omega)];simp[hl,O]⟩
theorem FillV.free{B:Nat}{e:bO}{p:Nat}{f:Nat->Value}{w wr:World}{k:Nat}(h:FillV B e p f w wr k)(j:Nat):wr.frozen? ⟨B,j,none⟩=false:=by
 obtain⟨xs,z,_⟩:=h.ex;exact z.frozenAt j
theorem FillV.step{B:Nat}{e:bO}{p:Nat}{f:Nat->Value}{w wr:World}{k:Nat}(h:FillV B e p f w wr k)(hk:k<p){v}(hv:v=f k):FillV B e p f w (wr.setCell ⟨B,k,none⟩ v) (k+1):=by
 obtain⟨xs,z,O⟩:=h.ex;have hl:xs.length=p:=by simpa using z.1
 refine⟨⟨xs.set k v,(z.stored k _).1,λj hj=>?_⟩,h.bel.setCell (aE _) _⟩;by_cases e:j=k
 ·subst e;simp[hl,hk,hv]
 ·rw[List.getElem?_set_ne (by omega)];exact O j (by omega)
theorem FillV.keep{B:Nat}{e:bO}{p:Nat}{f:Nat->Value}{w wr w':World}{k:Nat}(h:FillV B e p f w wr k)(z:ZD wr w'):FillV B e p f w w' k:=by
 obtain⟨xs,ho,hf⟩:=h.ex;refine⟨⟨xs,?_,hf⟩,h.bel.trans (z.mono (Nat.le_of_lt h.lt))⟩;obtain⟨hl,h0|⟨g,cap,ab,hv,hg,O,r⟩⟩:=ho
 ·exact⟨hl,.inl h0⟩
 ·exact⟨hl,.inr ⟨g,cap,ab,hv,hg,(z.block g (lt_of_block O)).trans O,r⟩⟩
theorem FillV.cells{B:Nat}{e:bO}{p:Nat}{f:Nat->Value}{w wr:World}{k:Nat}(h:FillV B e p f w wr k)(hk:k<=p)(i:Nat)(hi:i<k):wr.cell? ⟨B,i,none⟩=some (f i):=by
 obtain⟨xs,O,z⟩:=h.ex;rw[O.cellAt i (by omega)];exact z i hi
def namesL:List ByteArray:=[⟨#[]⟩,⟨#[]⟩,⟨#[100,117,112]⟩,⟨#[115,119,97,112]⟩,⟨#[100,114,111,112]⟩,⟨#[97,100,100]⟩,⟨#[115,117,98]⟩,⟨#[115,97,109,101]⟩,⟨#[108,101,115,115]⟩,⟨#[110,111,116]⟩,⟨#[97,110,100]⟩,⟨#[118,101,114,105,102,121]⟩,⟨#[104,101,105,103,104,116]⟩,⟨#[109,105,120]⟩]
def R6(k:Nat):ByteArray:=namesL.getD k ⟨#[]⟩
def Zdr:Array Value:=(namesL.map cE).toArray
def X2(o:Int×Int):ByteArray:=if o.1=1 then ⟨(Lib.itoa o.2).toArray⟩ else R6 o.1.toNat
def Yk(l:List (Int×Int)):ByteArray:=⟨(Lib.join ((l.map X2).map (·.data.toList)) [32]).toArray⟩
structure Env(w:World):Prop where
 tab:Lib.TabIs aB w "internal/strconv.uint64pow10" .u64 Lib.pow10Tab
 nam:w.var? aB "cairn/lock.names" = some Zdr
theorem Tryz.gTab:Tryz.prog.globalNamed "internal/strconv.uint64pow10" = some 3:=by kernel_rfl
theorem Tryz.gNam:Tryz.prog.globalNamed "cairn/lock.names" = some 2:=by kernel_rfl
theorem Env.later{w w':World}(h:Env w)(z:ZD w w'):Env w':=
 ⟨Joins.var_stays Tryz.gTab h.tab z (aE _),Joins.var_stays Tryz.gNam h.nam z (aE _)⟩
theorem Env.name{w:World}(h:Env w)(k:Nat)(z:k<14):w.cell? ⟨2,k,none⟩=some (.string (R6 k)):=by
 have:=World.var?_cell Tryz.gNam h.nam k;rw[this];have O:k<namesL.length:=z;simp[Zdr,R6,O]
theorem Env.lt{w:World}(h:Env w):2<w.heap.size:=aC _ _ (h.name 0 (by decide))
theorem L7{a b:ByteArray}(h:a=b):Ending.returned (.string a) = dX (.string b):=by rw[h]
theorem Nb(k n:Int)(w:World)(O:Env w)(z:Xq (k,n)=0) :
  ZH 193 #[.agg #[E J k,E J n]] w (.string (X2 (k,n))):=by
 have hb:ZD w (w.alloc (dW #[E J k,E J n] 122)):=(Below.refl _ _).alloc (aE _) _;have HB:=Zb hb;have HE:=Zb O;by_cases h1:k=1
 ·subst h1
  have hn : -1000000<=n/\n<=1000000:=by
   have:fit n=true:=by
    simp only[Xq] at z;cases h:fit n with
    | true=>rfl
    | false=>simp[h] at z
   exact (Yf n).1 this
  have g0 : -9223372036854775808<=n:=by omega
  have g1:n<=9223372036854775807:=by omega
  have e:X2 (1,n)=⟨(Lib.itoa n).toArray⟩:=by simp[X2]
  rw[e];have HT:=Zb (O.later hb).tab;clear O z hb e hn;go_enter func193,ntmps193;go_wp2_with fail;refine (Tryz.strconv_Itoa n g0 g1 _ HT).mono ?_;rintro e w1 ⟨rfl,k,os,rfl⟩;have ad:=Zb (HB.trans ((Lib.below_grow _ _ (aE _) k os).mono HB.size));go_wp2;go_ret;exact⟨rfl,Za ad⟩
 ·have hk:1<=k/\k<=13:=by
   simp only[Xq] at z;split at z
   ·cases z
   ·omega
  obtain⟨m,rfl⟩:=Int.eq_ofNat_of_zero_le (show 0<=k by omega);have e:X2 ((m:Int),n)=R6 m:=by simp[X2];intro h;omega
  have c1:=O.name m (by omega);have hl:=O.lt;have g1:((m:Int) == 1)=false:=by simp;omega
  have g2:(m:Int)<14:=by omega
  rw[e];obtain⟨x,hx⟩:=ZG (R6 m);rw[<-hx] at c1 ⊢;clear O z hb e h1 hk hx;go_enter func193,ntmps193;go_wp2;go_ret;exact⟨rfl,Za HB⟩
theorem Zag{a b:ByteArray}{v}(h:a=b):Ending.returned (dY #[.string a,v]) = dX (dY #[.string b,v]):=by rw[h]
theorem Tryz.info9:(Tryz.prog.info? 9).map (λi=>(i.zero,i.size,i.bytes))=some (some (.string ⟨#[]⟩),1,16):=by kernel_rfl
theorem Zdn(o:Int×Int)(h:Xq o=0):(X2 o).data.toList.length<=21:=by
 obtain⟨k,n⟩:=o;unfold X2;split
 ·rename_i h1;have h1:k=1:=h1;subst h1
  have hn : -1000000<=n/\n<=1000000:=by
   have:fit n=true:=by
    simp only[Xq] at h;cases hf:fit n with
    | true=>rfl
    | false=>simp[hf] at h
   exact (Yf n).1 this
  simpa using Lib.itoa_length_le n (by omega) (by omega)
 ·have O:1<=k/\k<=13:=by
   simp only[Xq] at h;split at h
   ·cases h
   ·omega
  show (R6 k.toNat).data.toList.length<=21;have z:k.toNat<14:=by omega
  have all:∀ j:Fin 14,(R6 j.val).data.toList.length<=21:=by decide
  exact all ⟨k.toNat,z⟩
theorem Zfy:∀ (xs:List (List UInt8)),(∀ x∈xs,x.length<=21)->Lib.lens xs<=21*xs.length
 | [],_=>by simp[Lib.lens]
 | x :: r,h=>by
  have h1:=h x (by simp);have h2:=Zfy r (λy z=>h y (by simp[z]));simp only[Lib.lens,dQ] at h2 ⊢;simp at h2 ⊢;omega
theorem Th(l:List (Int×Int))(h16:l.length<=16)(h:Un l=0):(Lib.join ((l.map X2).map (·.data.toList)) [32]).length<=400:=by
 cases l with
 | nil=>simp[Lib.join_nil]
 | cons o r=>
  rw[List.map_cons,List.map_cons,Lib.join_length]
  have O:=Zfy (((o :: r).map X2).map (·.data.toList)) (λx z=>by
   simp only[List.map_map,List.mem_map,Function.comp] at z;obtain⟨q,hq,rfl⟩:=z;obtain⟨i,hi,rfl⟩:=List.getElem_of_mem hq;exact Zdn _ (Tu h i hi))
  simp only[List.map_cons,dQ,dF,List.length_nil] at O h16 ⊢;omega
theorem Zht(a len cap l)(w:World)(hO:OpsAt w a len l)(z:chk l≠0) :
  ZH 166 #[F a len cap] w (dY #[.string ⟨#[]⟩,E J (chk l)]):=by
 have O:=Zb (Qj a len cap l w hO);obtain⟨x,hx⟩:=ZG (chk l);rw[<-hx] at z O ⊢;have ae:(x != 0)=true:=by simp[z]
 clear hO z hx;go_enter func166,ntmps166;go_wp2_with fail;refine O.mono ?_;rintro e w1 ⟨rfl,ab⟩;have ad:=Zb ab;clear ab;go_wp2;go_ret2;exact⟨rfl,Za ad⟩
def Zfa(l:List (Int×Int))(j:Nat):Value:=.string (X2 (l.getD j (0,0)))
theorem Zdk(b off len cap:Nat)(l:List (Int×Int))(w:World)(hE:Env w)(hz:l.length=len)(ci:0<len)(z:chk l=0)(bd:b<w.heap.size)
  (hc:∀ i,i<len->w.cell? ⟨b,off+i*2,none⟩=some (E J (l.getD i (0,0)).1)/\w.cell? ⟨b,off+i*2+1,none⟩=some (E J (l.getD i (0,0)).2)) :
  ZH 166 #[F (some ⟨b,off,none⟩) len cap] w (dY #[.string (Yk l),E J 0]):=by
 obtain⟨i0,hi,cb,cc,cd⟩:=info_parts Tryz.info9
 have h16:len<=16:=by
  unfold chk at z;split at z
  ·cases z
  ·omega
 have am:Un l=0:=by
  unfold chk at z;split at z
  ·cases z
  ·exact z
 have HK:=Zb (Tu am);have bx:=Zb (Th l (by omega) am);have CK:=Zb (Qj (some ⟨b,off,none⟩) len cap l w ⟨hz,λ_=>⟨b,off,rfl,hc⟩⟩);rw[z] at CK;have HE:=Zb hE;have HC:=Zb hc;have HZ:=Zb hz;clear hE hc hz z am;go_enter func166,ntmps166;go_wp2_with fail;refine CK.mono ?_;rintro e O ⟨rfl,ba⟩;have aw:=Zb ba;clear ba
 go_wp2_with (at_make;refine wpList_make_full _ rfl _ _ 22 rfl O.heap.size 9 i0 (.string ⟨#[]⟩) 1 underlying22 hi cb cc .i64 .i64 _ _ len rfl rfl rfl rfl (by rw[cd];omega) (by unfold cD;omega) (aE _) ?_;intro w2 bg be)
 have bi:FillV O.heap.size 9 len (Zfa l) O w2 0:=⟨⟨_,bg,λj hj=>absurd hj (by omega)⟩,(Below.refl _ _).grown be (aE _) (λk h=>by cases h)⟩;have bv:=Zb bi;clear bi bg be
 go_loopw [18] (λi wr=>∃ k:Nat,k<=len/\i = E J k/\FillV O.heap.size 9 len (Zfa l) O wr k) (λi _=>len - (intOf i).toNat)
 case atStart=>exact⟨0,aP _,rfl,Za bv⟩
 case round=>
  obtain⟨k,hk,rfl,af⟩:=hrel;have HF:=Zb af;have aa:ZD w wr:=aw.trans (af.bel.mono aw.size);have bn:=Zb aa;by_cases ac:k<len
  ·have bf:k<l.length:=(by rw[Za HZ];exact ac);obtain⟨c1,c2⟩:=HC k ac;rw[<-aa.cell (p:=⟨b,off+k*2,none⟩) bd] at c1;rw[<-aa.cell (p:=⟨b,off+k*2+1,none⟩) bd] at c2;obtain⟨q,hq⟩:=ZG (l.getD k (0,0));rw[<-hq] at c1 c2;have bh:q=l[k]:=(by rw[hq];simp[bf]);have ao:=HK k bf;rw[<-bh] at ao;have HQ:=Zb hq;obtain⟨kd,n⟩:=q;have ak:ZD wr (wr.alloc (dW #[E J kd,E J n] 122)):=(Below.refl _ _).alloc (aE _) _;have PO:=Zb (Nb kd n _ ((HE.later aa).later ak) ao);obtain⟨x,hx⟩:=ZG (X2 (kd,n));rw[<-hx] at PO;have HX:=Zb hx;have bk:=Zb ak;clear af aa hq bh ao hx ak;go_wp2_with fail;refine PO.mono ?_;rintro e w3 ⟨rfl,bb⟩;have ae:=(HF.keep bk).keep bb;obtain⟨v,cg⟩:=ae.old ac;have cf:=ae.free k;have br:=Zb ae;clear bb ae;go_wp2;go_roundw
   case rel=>
    refine⟨k+1,by omega,by go_num,br.step ac ?_⟩;show cE x=Zfa l k;rw[Za HX,Za HQ];rfl
   case measure=>simp[intOf];omega
  ·clear af aa;have e:k=len:=(by omega);subst e;clear hk ac
   have HJ:Hid (∀ (j:Nat) x,(l.map X2)[j]? = some x->wr.cell? ⟨O.heap.size,0+j,none⟩=some (.string x)):=λj x hj=>by
    have an:j<l.length:=by
     rcases Nat.lt_or_ge j l.length with h|h
     ·exact h
     ·rw[List.getElem?_eq_none (by simpa using h)] at hj;cases hj
    rw[Nat.zero_add,(Za HF).cells (aE _) j (by rw[<-Za HZ];exact an)];simp[an] at hj;simp[Zfa,an,hj]
   have HL:Hid ((l.map X2).length=k):=(by rw[dF];exact Za HZ);have JN:=Zb (Tryz.strings_Join O.heap.size 0 k (l.map X2) ⟨#[32]⟩ wr HJ HF.lt (by rw[Za HL];omega) (by rw[Za HL];exact aE _) (aT bx (by decide)));rw[Za HL] at JN
   change Hid (Calls _ _ _ _ λe w'=>e = dX (.string (Yk l))/\_) at JN
   obtain⟨t,ht⟩:=ZG (Yk l);rw[<-ht] at JN;have HT:=Zb ht;clear ht;go_wp2_with fail;refine JN.mono ?_;rintro e w4 ⟨rfl,bc⟩;have bj:=Zb (C9 bn bc);clear bc;go_wp2;go_ret2;exact⟨Zag HT,Za bj⟩
theorem Zdl(a cap)(w:World) :
  ZH 166 #[F a 0 cap] w (dY #[.string ⟨#[]⟩,E J 0]):=by
 obtain⟨i0,hi,ab,ac,ad⟩:=info_parts Tryz.info9;go_enter func166,ntmps166;go_wp2_with fail;refine (Dv a cap w).mono ?_;rintro e w1 ⟨rfl,rfl⟩
 go_wp2_with (at_make;refine wpList_make_full _ rfl _ _ 22 rfl w.heap.size 9 i0 (.string ⟨#[]⟩) 1 underlying22 hi ab ac .i64 .i64 _ _ 0 rfl rfl rfl rfl (by rw[ad];omega) (by unfold cD;omega) (aE _) ?_;intro w2 aa z)
 have O:Hid (ZD w w2):=(Below.refl _ _).grown z (aE _) (λk h=>by cases h);clear aa z;refine aQ 1 ?_;rw[aL];go_wp2_with fail;refine (Tryz.strings_Join_none _ _ _ _).mono ?_;rintro e w3 ⟨rfl,rfl⟩;go_wp2;go_ret2;exact⟨rfl,Za O⟩
def prT(l:List (Int×Int)):ByteArray:=if chk l=0 then Yk l else ⟨#[]⟩
theorem Zhu(a len cap l)(w:World)(hE:Env w)(O:OpsAt w a len l) :
  ZH 166 #[F a len cap] w (dY #[.string (prT l),E J (chk l)]):=by
 unfold prT;by_cases z:chk l=0
 ·rw[if_pos z,z];obtain⟨hz,hc⟩:=O;by_cases h:len=0
  ·subst h;have e:l=[]:=aJ.1 hz;subst e;exact Zdl a cap w
  ·obtain⟨b,off,rfl,aa⟩:=hc (by omega);exact Zdk b off len cap l w hE hz (by omega) z (aC _ _ (aa 0 (by omega)).1) aa
 ·rw[if_neg z];exact Zht a len cap l w O z
structure EnvP(w:World):Prop where
 env:Env w
 syn:∃ tp p,w.var? aB "strconv.ErrSyntax" = some #[.iface tp p]
 ran:∃ tp p,w.var? aB "strconv.ErrRange" = some #[.iface tp p]
 shp:w.ShapedOpen aB
def X4(v:Int):ByteArray:=⟨(Lib.itoa v).toArray⟩
structure EnvE(w:World):Prop where
 env:Env w
theorem EnvE.later{w w':World}(h:EnvE w)(z:ZD w w'):EnvE w':=⟨h.env.later z⟩
structure EnvF(w:World):Prop where
 envp:EnvE w
 spc:Lib.TabIs aB w "strings.asciiSpace" .u8 Lib.asciiSpaceTab
theorem Tryz.gSpc:Tryz.prog.globalNamed "strings.asciiSpace" = some 0:=by kernel_rfl
theorem EnvF.later{w w':World}(h:EnvF w)(z:ZD w w'):EnvF w':=
 ⟨h.envp.later z,Joins.var_stays Tryz.gSpc h.spc z (aE _)⟩
def refB:ByteArray:=⟨#[45,32,45,32,100,117,112,32,115,119,97,112,32,100,114,111,112,32,97,100,100,32,115,117,98,32,115,97,109,101,32,108,101,115,115,32,110,111,116,32,97,110,100,32,118,101,114,105,102,121,32,104,101,105,103,104,116,32,109,105,120]⟩
def refL:List ByteArray:=[⟨#[45]⟩,⟨#[45]⟩]++namesL.drop 2
theorem Zdz:(Lib.fields refB.data.toList).map (λl=>cE ⟨l.toArray⟩)=refL.map cE:=by
 have h:Lib.fields refB.data.toList=refL.map (·.data.toList):=by decide +kernel
 rw[h,List.map_map];rfl
theorem Zea:(Lib.fields refB.data.toList).length=14:=by decide +kernel
theorem Zhj:∀ (j:Nat) b,refB.data.toList[j]? = some b->b.toNat<128:=by
 have h:refB.data.toList.all (λb=>decide (b.toNat<128))=true:=by decide +kernel
 intro j b z;simpa using List.all_eq_true.1 h b (List.mem_of_getElem? z)
theorem Dg(w:World)(z:EnvF w) :
  Calls aB 148 #[.string refB] w λe w'=>e = dX (F (some ⟨w.heap.size,0,none⟩) 14 14)/\w'=w.alloc (dW (refL.map cE).toArray 9):=by
 have h:=Tryz.strings_Fields refB w (by decide) Zhj z.spc;rw[Zdz,Zea] at h;exact h
theorem Zku(w:World)(k:Nat)(z:k<14):(w.alloc (dW (refL.map cE).toArray 9)).cell? ⟨w.heap.size,k,none⟩=some (.string (refL.getD k ⟨#[]⟩)):=by
 rw[World.cell?_alloc_at _ _ _ _ rfl];have O:k<refL.length:=z;simp[O]
theorem Zhk(k:Nat)(h2:2<=k)(z:k<14):refL.getD k ⟨#[]⟩=R6 k:=by
 have:∀ m:Fin 14,2<=m.val->refL.getD m.val ⟨#[]⟩=R6 m.val:=by decide +kernel
 exact this ⟨k,z⟩ h2
theorem Zil(xs x z)(h:xs≠[]):Lib.join (xs++[x]) z=Lib.join xs z++(z++x):=by
 cases xs with
 | nil=>exact absurd rfl h
 | cons y r=>rw[cG,Lib.join_cons,Lib.join_cons,Lib.joinTail,Lib.joinTail,bW,List.flatten_append,List.append_assoc];simp
theorem Jp{a b:ByteArray}(h:a.data.toList=b.data.toList):a=b:=by
 cases a with|mk d=>cases b with|mk e=>cases d;cases e;simp at h;rw[h]
theorem Km(q:Int×Int):Yk [q]=⟨#[]⟩++X2 q:=by
 apply Jp
 simp[Yk,Lib.join_one,ByteArray.data_append]
theorem Gj(l)(q:Int×Int)(h:l≠[]):Yk (l++[q])=(Yk l++⟨#[32]⟩)++X2 q:=by
 apply Jp
 unfold Yk;rw[bW,bW,List.map_cons,List.map_nil,List.map_cons,List.map_nil,Zil _ _ _ (by simpa using h)];simp[ByteArray.data_append]
theorem Do:∀ (l:List (Int×Int)) (k:Nat),Un l=0->Un (l.take k)=0
 | [],k,_=>by rw[List.take_nil];rfl
 | o :: r,0,_=>rfl
 | o :: r,k+1,h=>by
  rw[dK];simp only[Un] at h ⊢;split at h
  ·rename_i e;rw[if_pos e];exact Do r k h
  ·contradiction
theorem Bu(l:List (Int×Int))(h16:l.length<=16)(h:Un l=0):(Yk l).size<=400:=by
 have:=Th l h16 h;simpa[Yk,ByteArray.size] using this
theorem Re{a b:ByteArray}(h:a=b):cE a = .string b:=by rw[h]
theorem Br(b off len cap:Nat)(l:List (Int×Int))(w:World)(hE:EnvF w)(hz:l.length=len)(ae:chk l=0)(bf:b<w.heap.size)
  (hc:∀ i,i<len->w.cell? ⟨b,off+i*2,none⟩=some (E J (l.getD i (0,0)).1)/\w.cell? ⟨b,off+i*2+1,none⟩=some (E J (l.getD i (0,0)).2)) :
  ZH 108 #[F (some ⟨b,off,none⟩) len cap] w (.string (Yk l)):=by
 have h16:len<=16:=by
  unfold chk at ae;split at ae
  ·cases ae
  ·omega
 have ba:Un l=0:=by
  unfold chk at ae;split at ae
  ·cases ae
  ·exact ae
 have HK:=Zb (Tu ba);have bu:=Zb ba;have HE:=Zb hE;have HC:=Zb hc;have HZ:=Zb hz;have FL:=Zb (Dg w hE);clear hE hc hz ae ba;go_enter func108,ntmps108;go_wp2_with fail;refine FL.mono ?_;rintro e w1 ⟨rfl,aw⟩;have br:Hid (ZD w w1):=by rw[aw];exact (Below.refl _ _).alloc (aE _) _
 have HN:Hid (∀ k,k<14->w1.cell? ⟨w.heap.size,k,none⟩=some (.string (refL.getD k ⟨#[]⟩))):=by rw[aw];exact λk hk=>Zku w k hk
 have bn:w.heap.size<w1.heap.size:=by rw[aw];simp
 clear aw;go_wp2
 go_loopw [4,10] (λs i wr=>∃ k:Nat,k<=len/\i = E J k/\s = .string (Yk (l.take k))/\ZD w1 wr) (λ_ i _=>len - (intOf i).toNat)
 case atStart=>exact⟨0,aP _,rfl,rfl,Below.refl _ _⟩
 case round=>
  obtain⟨k,hk,rfl,rfl,ac⟩:=hrel;have ad:ZD w wr:=C9 br ac;have bs:=Zb ad;have ai:=Zb ac;by_cases bj:k<len
  ·have ap:k<l.length:=(by rw[Za HZ];exact bj);obtain⟨c1,c2⟩:=HC k bj;rw[<-ad.cell (p:=⟨b,off+k*2,none⟩) bf] at c1;rw[<-ad.cell (p:=⟨b,off+k*2+1,none⟩) bf] at c2;obtain⟨q,hq⟩:=ZG (l.getD k (0,0));rw[<-hq] at c1 c2;have am:q=l[k]:=(by rw[hq];simp[ap]);have O:=HK k ap;rw[<-am] at O;have af:l.take (k+1)=l.take k++[q]:=(by rw[aM ap,am]);obtain⟨kd,n⟩:=q;have aj:ZD wr (wr.alloc (dW #[E J kd,E J n] 122)):=(Below.refl _ _).alloc (aE _) _;have ay:=Zb aj;obtain⟨T,z⟩:=ZG (Yk (l.take k));rw[<-z];obtain⟨T',ab⟩:=ZG (Yk (l.take (k+1)));have ar:=Zb ab
   have ak:0<k->l.take k≠[]:=λh e=>by
    rw[List.take_eq_nil_iff] at e
    rcases e with e|e
    ·omega
    ·rw[e] at ap;simp at ap
   have cc:T.size<=400:=(by rw[z];exact Bu _ (by rw[bG];omega) (Do l k bu));have cd:(T++⟨#[32]⟩:ByteArray).size<=401:=(by rw[ByteArray.size_append];show T.size+1<=401;omega);by_cases h1:kd=1
   ·subst h1
    have hn : -1000000<=n/\n<=1000000:=by
     have:fit n=true:=by
      simp only[Xq] at O;cases h:fit n with
      | true=>rfl
      | false=>simp[h] at O
     exact (Yf n).1 this
    have IT:Hid (∀ w,Env w->Calls aB 107 #[E J n] w λe w'=>e = dX (.string (X4 n))/\ZD w w'):=λw hw=>
     (Tryz.strconv_Itoa n (by omega) (by omega) w hw.tab).mono λe w' ⟨h1,k,os,h2⟩=>⟨h1,by rw[h2];exact Lib.below_grow _ _ (aE _) k os⟩
    have eo:X2 (1,n)=X4 n:=by simp[X2,X4]
    have ca:(X4 n).size<=21:=by
     have:=Lib.itoa_length_le n (by omega) (by omega);simpa[X4,ByteArray.size] using this
    have EE:=Zb (((HE.later ad).later aj).envp.env);by_cases h0:k=0
    ·subst h0;simp only[Nat.zero_mul,Nat.add_zero] at c1 c2
     have ag:Hid (T'=T++X4 n):=by
      show _=_;rw[ab,af,z,<-eo];exact Km _
     clear z ab af hq am O ac ad aj hn eo ak;go_wp2_with fail;refine (IT _ EE).mono ?_;rintro e w3 ⟨rfl,ao⟩;have ah:=Zb (ai.trans ((C9 ay ao).mono ai.size));clear ao;go_wp2;go_roundw
     case rel=>exact⟨0+1,by omega,by go_num,Re (ag.symm.trans ar),Za ah⟩
     case measure=>simp[intOf];omega
    ·have g0:(0:Int)<(k:Int):=by omega
     have ag:Hid (T'=(T++⟨#[32]⟩)++X4 n):=by
      show _=_;rw[ab,af,z,<-eo];exact Gj _ _ (ak (by omega))
     clear z ab af hq am O ac ad aj hn eo ak;go_wp2_with fail;refine (IT _ EE).mono ?_;rintro e w3 ⟨rfl,ao⟩;have ah:=Zb (ai.trans ((C9 ay ao).mono ai.size));clear ao;go_wp2;go_roundw
     case rel=>exact⟨k+1,by omega,by go_num,Re (ag.symm.trans ar),Za ah⟩
     case measure=>simp[intOf];omega
   ·have bi:1<=kd/\kd<=13:=by
     simp only[Xq] at O;split at O
     ·cases O
     ·omega
    obtain⟨m,rfl⟩:=Int.eq_ofNat_of_zero_le (show 0<=kd by omega);have eo:X2 ((m:Int),n)=R6 m:=(by simp[X2];intro h;omega);have c3:=HN m (by omega);rw[Zhk m (by omega) (by omega),<-ac.cell (p:=⟨w.heap.size,m,none⟩) bn] at c3;have ce:w.heap.size<wr.heap.size:=aI bn ac.size;obtain⟨x,hx⟩:=ZG (R6 m);rw[<-hx] at c3
    have ca:x.size<=21:=by
     have all:∀ j:Fin 14,(R6 j.val).size<=21:=(by decide);rw[hx];exact all ⟨m,by omega⟩
    have g1:((m:Int) == 1)=false:=(by simp;omega);have g2:(m:Int)<14:=(by omega);have ah:=Zb (ai.trans (ay.mono ai.size));by_cases h0:k=0
    ·subst h0;simp only[Nat.zero_mul,Nat.add_zero] at c1 c2
     have ag:Hid (T'=T++x):=by
      show _=_;rw[ab,af,z,hx,<-eo];exact Km _
     clear z ab af hq am O ac ad aj eo ak bi h1 hx;go_wp2;go_roundw
     case rel=>exact⟨0+1,by omega,by go_num,Re (ag.symm.trans ar),Za ah⟩
     case measure=>simp[intOf];omega
    ·have g0:(0:Int)<(k:Int):=by omega
     have ag:Hid (T'=(T++⟨#[32]⟩)++x):=by
      show _=_;rw[ab,af,z,hx,<-eo];exact Gj _ _ (ak (by omega))
     clear z ab af hq am O ac ad aj eo ak bi h1 hx;go_wp2;go_roundw
     case rel=>exact⟨k+1,by omega,by go_num,Re (ag.symm.trans ar),Za ah⟩
     case measure=>simp[intOf];omega
  ·have e:k=len:=(by omega);subst e;have HT:Hid (Yk (l.take k)=Yk l):=(by show _=_;rw[List.take_of_length_le (by rw[Za HZ];exact aE _)]);clear ac ad;go_wp2;go_ret;exact⟨L7 HT,Za bs⟩
theorem Bt(a cap)(w:World)(z:EnvF w) :
  ZH 108 #[F a 0 cap] w (.string ⟨#[]⟩):=by
 have FL:=Zb (Dg w z);clear z;go_enter func108,ntmps108;go_wp2_with fail;refine FL.mono ?_;rintro e w1 ⟨rfl,O⟩;have ab:Hid (ZD w w1):=by rw[O];exact (Below.refl _ _).alloc (aE _) _
 clear O;go_wp2;refine aQ 1 ?_;rw[aL];go_wp2;go_ret;exact⟨rfl,Za ab⟩
theorem Kl(a len cap l)(w:World)(z:EnvF w)(hO:OpsAt w a len l)(ad:chk l=0) :
  ZH 108 #[F a len cap] w (.string (Yk l)):=by
 obtain⟨hz,hc⟩:=hO;by_cases h0:len=0
 ·subst h0;have e:l=[]:=aJ.1 hz;subst e;exact Bt a cap w z
 ·obtain⟨b,off,rfl,O⟩:=hc (by omega);exact Br b off len cap l w z hz ad (aC _ _ (O 0 (by omega)).1) O
abbrev InD:=Int×Int×List (Int×Int)
abbrev Ya:=Int×List (Int×Int)
abbrev TxD:=Int×List InD×List Ya
def Hi(x:InD):Bool:=(decide (1<=x.1) && decide (x.1<=120)) && (decide (0<=x.2.1) && decide (x.2.1<=5))
def Vk(x y:InD):Bool:=decide (y.1=x.1) && decide (y.2.1=x.2.1)
def Vd(pre:List InD)(x:InD):Int:=if Hi x=false then 3 else if chk x.2.2≠0 then chk x.2.2 else if pre.any (Vk x) then 6 else 0
def Yd(pre:List InD):List InD->Int
 | []=>0
 | x :: r=>if Vd pre x=0 then Yd (pre++[x]) r else Vd pre x
def Xe(x:Ya):Int:=if x.1<1 then 3 else chk x.2
def Yc:List Ya->Int
 | []=>0
 | x :: r=>if Xe x=0 then Yc r else Xe x
def sm:Int->List Int->Int×Int
 | s,[]=>(s,0)
 | s,x :: l=>if 0<=x/\x<=1000000000 then (if s+x<=1000000000 then sm (s+x) l else (0,12)) else (0,3)
theorem Zfe(s:Int)(Z:List Int)(k:Nat)(z:k<Z.length)(h1:0<=Z.getD k 0)(h2:Z.getD k 0<=1000000000)(h3:s+Z.getD k 0<=1000000000) :
  sm s (Z.drop k)=sm (s+Z.getD k 0) (Z.drop (k+1)):=by
 have e:Z.drop k=Z.getD k 0 :: Z.drop (k+1):=by
  rw[aN z];simp[List.getD,z]
 rw[e,sm,if_pos ⟨h1,h2⟩,if_pos h3]
theorem Zff(s:Int)(Z:List Int)(k:Nat)(z:k<Z.length)(h1:0<=Z.getD k 0)(h2:Z.getD k 0<=1000000000)(h3:1000000000<s+Z.getD k 0) :
  sm s (Z.drop k)=(0,12):=by
 have e:Z.drop k=Z.getD k 0 :: Z.drop (k+1):=by
  rw[aN z];simp[List.getD,z]
 rw[e,sm,if_pos ⟨h1,h2⟩,if_neg (by omega)]
theorem Ew(s:Int)(Z:List Int)(k:Nat)(z:k<Z.length)(h:Z.getD k 0<0\/1000000000<Z.getD k 0) :
  sm s (Z.drop k)=(0,3):=by
 have e:Z.drop k=Z.getD k 0 :: Z.drop (k+1):=by
  rw[aN z];simp[List.getD,z]
 rw[e,sm,if_neg (by omega)]
theorem Zkg(s:Int)(Z:List Int)(k:Nat)(z:Z.length<=k):sm s (Z.drop k)=(s,0):=by
 rw[cB z];rfl
def Da(t:TxD):Bool:=if t.2.1.length=0 then decide (1<=t.1) && decide (t.1<=1000) else decide (t.1=0)
def Zw(l:List Ya):Int:=if Yc l=0 then (sm 0 (l.map (·.1))).2 else Yc l
def Zr(t:TxD):Int:=
 if 6<t.2.1.length\/6<t.2.2.length then 2 else if t.2.2.length=0 then 4 else if Da t=false then 3
 else if Yd [] t.2.1≠0 then Yd [] t.2.1 else Zw t.2.2
theorem Li(L:List InD)(k:Nat)(z:k<L.length)(h:Vd (L.take k) L[k]=0):Yd (L.take k) (L.drop k)=Yd (L.take (k+1)) (L.drop (k+1)):=by
 rw[aN z,Yd,if_pos h,aM z]
theorem Lh(L:List InD)(k:Nat)(z:k<L.length)(h:Vd (L.take k) L[k]≠0):Yd (L.take k) (L.drop k)=Vd (L.take k) L[k]:=by
 rw[aN z,Yd,if_neg h]
theorem Dp(L:List InD)(k:Nat)(z:L.length<=k):Yd (L.take k) (L.drop k)=0:=by
 rw[cB z];rfl
theorem Rz(L:List Ya)(k:Nat)(z:k<L.length)(h:Xe L[k]=0):Yc (L.drop k)=Yc (L.drop (k+1)):=by
 rw[aN z,Yc,if_pos h]
theorem Ry(L:List Ya)(k:Nat)(z:k<L.length)(h:Xe L[k]≠0):Yc (L.drop k)=Xe L[k]:=by
 rw[aN z,Yc,if_neg h]
theorem Tt(L:List Ya)(k:Nat)(z:L.length<=k):Yc (L.drop k)=0:=by
 rw[cB z];rfl
theorem A7{pre x}(h:Hi x=false):Vd pre x=3:=by unfold Vd;rw[if_pos h]
theorem Dr{pre}{x:InD}(h:Hi x=true)(z:chk x.2.2≠0):Vd pre x=chk x.2.2:=by
 unfold Vd;rw[if_neg (by rw[h];decide),if_pos z]
theorem G4{pre:List InD}{x:InD}(h:Hi x=true)(z:chk x.2.2=0)(O:pre.any (Vk x)=true):Vd pre x=6:=by
 unfold Vd;rw[if_neg (by rw[h];decide),if_neg (by rw[z];decide),if_pos O]
theorem A8{pre:List InD}{x:InD}(h:Hi x=true)(z:chk x.2.2=0)(O:pre.any (Vk x)=false):Vd pre x=0:=by
 unfold Vd;rw[if_neg (by rw[h];decide),if_neg (by rw[z];decide),if_neg (by rw[O];decide)]
def RowsAt{α : Type}(R:World->Nat->Nat -> α->Prop)(sz:Nat)(w:World)(a:Option Addr)(len:Nat)(l:List α):Prop:=
 l.length=len/\(0<len->∃ b off,a=some ⟨b,off,none⟩/\b<w.heap.size/\∀ i (h:i<l.length),R w b (off+i*sz) l[i])
def Bg{α : Type}(R:World->Nat->Nat -> α->Prop):Prop:=∀ (w w':World) (b o:Nat) (x : α),ZD w w'->R w b o x->R w' b o x
theorem RowsAt.later{α : Type}{R:World->Nat->Nat -> α->Prop}(O:Bg R){sz}{w w':World}{a len}{l:List α}(h:RowsAt R sz w a len l)(z:ZD w w'):RowsAt R sz w' a len l:=by
 refine⟨h.1,λh0=>?_⟩;obtain⟨b,off,e,hl,hc⟩:=h.2 h0;exact⟨b,off,e,aI hl z.size,λi hi=>O w w' b _ _ z (hc i hi)⟩
theorem RowsAt.nil{α : Type}{R:World->Nat->Nat -> α->Prop}{sz}(w)(a):RowsAt R sz w a 0 []:=⟨rfl,λh=>absurd h (by omega)⟩
theorem Zc{w w':World}{p v}(z:ZD w w')(h:w.cell? p=some v):w'.cell? p=some v:=by
 rw[z.cell (p:=p) (aC _ _ h)];exact h
def SlOk(a:Option Addr)(n c:Nat):Prop:=n<=c/\c<=cD/\(a=none->n=0/\c=0)
theorem SlOk.len{a n c}(h:SlOk a n c):n<=cD:=aT h.1 h.2.1
def InAt(w:World)(b o:Nat)(x:InD):Prop:=
 w.cell? ⟨b,o,none⟩=some (E J x.1)/\w.cell? ⟨b,o+1,none⟩=some (E J x.2.1)/\∃ a n c,w.cell? ⟨b,o+2,none⟩=some (F a n c)/\OpsAt w a n x.2.2/\SlOk a n c
def OutAt(w:World)(b o:Nat)(x:Ya):Prop:=
 w.cell? ⟨b,o,none⟩=some (E J x.1)/\∃ a n c,w.cell? ⟨b,o+1,none⟩=some (F a n c)/\OpsAt w a n x.2/\SlOk a n c
theorem InAt.kept:Bg InAt:=λ_ _ _ _ _ z h=>by
 obtain⟨h1,h2,a,n,c,h3,h4,h5⟩:=h;exact⟨Zc z h1,Zc z h2,a,n,c,Zc z h3,h4.later z,h5⟩
theorem OutAt.kept:Bg OutAt:=λ_ _ _ _ _ z h=>by
 obtain⟨h1,a,n,c,h3,h4,h5⟩:=h;exact⟨Zc z h1,a,n,c,Zc z h3,h4.later z,h5⟩
def InsAt(w:World)(a:Option Addr)(len:Nat)(l:List InD):Prop:=RowsAt InAt 3 w a len l
def OutsAt(w:World)(a:Option Addr)(len:Nat)(l:List Ya):Prop:=RowsAt OutAt 2 w a len l
theorem InsAt.later{w w':World}{a len l}(h:InsAt w a len l)(z:ZD w w'):InsAt w' a len l:=RowsAt.later InAt.kept h z
theorem OutsAt.later{w w':World}{a len l}(h:OutsAt w a len l)(z:ZD w w'):OutsAt w' a len l:=RowsAt.later OutAt.kept h z
theorem RowsAt.take{α : Type}{R:World->Nat->Nat -> α->Prop}{sz w a len}{l:List α}(h:RowsAt R sz w a len l)(k:Nat)(hk:k<=len):RowsAt R sz w a k (l.take k):=by
 have hl:=h.1;refine⟨by rw[bG];omega,λh0=>?_⟩;obtain⟨b,off,e,z,O⟩:=h.2 (by omega);refine⟨b,off,e,z,λi hi=>?_⟩;rw[bG] at hi;rw[List.getElem_take];exact O i (by omega)
theorem Ze{w z w2:World}(h1:ZD w z)(h2:ZD z w2):ZD w w2:=h1.trans (h2.mono h1.size)
theorem Zg(w:World)(o:Obj):ZD w (w.alloc o):=(Below.refl _ _).alloc (aE _) _
theorem Py(n:Int)(w)(h1:0<=n)(h2:n<=1000000000) :
  Calls aB 224 #[E J n] w λe w'=>e = dX (E J 0)/\w=w':=by
 go_enter func224,ntmps224
 go_wp2_with (go_at_call 114;refine (Uh _ _ _ _ h1 h2).mono ?_;rintro e w' ⟨rfl,rfl⟩)
 go_ret;exact⟨rfl,rfl⟩
theorem Be(n:Int)(w)(h:n<0\/1000000000<n) :
  Calls aB 224 #[E J n] w λe w'=>e = dX (E J 3)/\w=w':=by
 go_enter func224,ntmps224
 go_wp2_with (go_at_call 114;refine (Tx _ _ _ _ h).mono ?_;rintro e w' ⟨rfl,rfl⟩)
 go_ret;exact⟨rfl,rfl⟩
theorem Znu(a len cap Z w)(h:RowAt w a len Z) :
  Calls aB 188 #[F a len cap] w λe w'=>e = dX (dY #[E J (sm 0 Z).1,E J (sm 0 Z).2])/\w=w':=by
 obtain⟨hz,hm,hc⟩:=h;unfold cD at hm
 rcases Nat.eq_zero_or_pos len with h0|h0
 ·subst h0;have HZ:Hid (Z=[]):=List.eq_nil_of_length_eq_zero hz;clear hz hc hm;go_enter func188,ntmps188;go_wp2;refine aQ 1 ?_;rw[aL];go_wp2;go_ret2;rw[HZ.out];exact⟨rfl,rfl⟩
 ·obtain⟨b,off,rfl,af⟩:=hc h0;have HC:Hid (∀ i,i<len->w.cell? ⟨b,off+i,none⟩=some (E J (Z.getD i 0))):=af;clear hc af;go_enter func188,ntmps188;go_wp2
  go_loop [4,10] (λs i=>∃ (k:Nat) (x:Int),k<=len/\i = E J k/\s = E J x/\0<=x/\x<=1000000000/\Hid (sm 0 Z=sm x (Z.drop k))) (λ_ i=>len - (intOf i).toNat)
  case atStart=>exact⟨0,0,aP _,rfl,rfl,by decide,by decide,by exact rfl⟩
  case round=>
   obtain⟨k,x,hk,rfl,rfl,aq,ar,O⟩:=hrel;by_cases ao:k<len
   ·have am:=HC.out k ao;generalize hv:Z.getD k 0=v at am;have z:Hid (Z.getD k 0=v):=hv;clear hv;by_cases hr:v<0\/1000000000<v
    ·go_wp2_with (go_at_call 224;refine (Be _ _ hr).mono ?_;rintro e w' ⟨rfl,rfl⟩)
     go_ret2;rw[O.out,Ew x Z k (by omega) (by rw[z.out];exact hr)];exact⟨rfl,rfl⟩
    ·have aa:0<=v:=(by omega);have ab:v<=1000000000:=(by omega);clear hr;by_cases hf:1000000000<x+v
     ·go_wp2_with fail;refine (Py _ _ aa ab).mono ?_;rintro e w' ⟨rfl,rfl⟩;go_wp2_with fail;refine (Be _ _ (.inr hf)).mono ?_;rintro e w' ⟨rfl,rfl⟩;go_wp2;go_ret2;rw[O.out,Zff x Z k (by omega) (by rw[z.out];exact aa) (by rw[z.out];exact ab) (by rw[z.out];exact hf)];exact⟨rfl,rfl⟩
     ·have ag:x+v<=1000000000:=(by omega);have an:0<=x+v:=(by omega);clear hf;go_wp2_with fail;refine (Py _ _ aa ab).mono ?_;rintro e w' ⟨rfl,rfl⟩;go_wp2_with fail;refine (Py _ _ an ag).mono ?_;rintro e w' ⟨rfl,rfl⟩;go_wp2
      go_round
      case rel=>
       refine⟨k+1,x+v,by omega,by go_num,rfl,by omega,by omega,?_⟩;show sm 0 Z=_;rw[O.out,Zfe x Z k (by omega) (by rw[z.out];exact aa) (by rw[z.out];exact ab) (by rw[z.out];exact ag),z.out]
      case measure=>simp[intOf];omega
   ·go_wp2;go_ret2;rw[O.out,Zkg x Z k (by omega)];exact⟨rfl,rfl⟩
