/- What orders do, in plain functions: on a stack told as a list, and on the sixteen places of the machine; that the second does what the first says. No program is spoken of. -/
import Derived.WalkKit
import Derived.Test.YtepmnpapdknocaaGreatDoorRows
import Derived.WalkLawsBesides
import Derived.Deep.QuietTactic
import Derived.BigQuiet
import Derived.Deep.RegionWith
set_option maxHeartbeats 800000
namespace Go.Proofs.YtepmnpapdknocaaGreatDoor
open Go.RowKit
def fit(n:Int):Bool:=decide (-1000000≤n) && decide (n≤1000000)
theorem Zu(n:Int):fit n=true↔-1000000≤n∧n≤1000000:=by simp[fit]
theorem Px(n:Int):fit n=false↔n < -1000000∨1000000<n:=by
 rw[←Bool.not_eq_true,Zu];omega
def b01(b:Bool):Int:=if b then 1 else 0
def Pi(a:Int):Nat→Int
 | 0=>a+1000000
 | k+1=>(7919*Pi a k+104729) % 1000003
theorem Cs(a:Int)(h:fit a=true):∀ k,0≤Pi a k∧Pi a k≤2000000
 | 0=>by have:=(Zu a).1 h;simp only[Pi];omega
 | k+1=>by simp only[Pi];omega
def Fa(a:Int):Int:=Pi a 3 % 1000001
def g2(k:Int)(a b:Int):Int:=
 if k=5 then a+b else if k=6 then a - b else if k=7 then b01 (a == b) else if k=8 then b01 (decide (a<b)) else b01 (a != 0 && b != 0)
def g1(k:Int)(a:Int):Int:=if k=9 then b01 (a == 0) else Fa a
def Uw(L:List Int)(x:Int):Option (List Int):=if L.length=16∨fit x=false then none else some (L++[x])
def Yx(L:List Int):Option (List Int):=if L.length=0 then none else some L.dropLast
def Qe(L:List Int):Int:=L.getLastD 0
def Zz(h:Int)(k n:Int)(L:List Int):Option (List Int):=
 if k=1 then Uw L n
 else if k=2 then (Yx L).bind fun M=>(Uw M (Qe L)).bind fun M=>Uw M (Qe L)
 else if k=3 then (Yx L).bind fun M=>(Yx M).bind fun N=>(Uw N (Qe L)).bind fun Q=>Uw Q (Qe M)
 else if k=4 then Yx L
 else if k=9∨k=13 then (Yx L).bind fun M=>Uw M (g1 k (Qe L))
 else if k=11 then (Yx L).bind fun M=>if Qe L=0 then none else some M
 else if k=12 then Uw L h
 else (Yx L).bind fun M=>(Yx M).bind fun N=>Uw N (g2 k (Qe M) (Qe L))
def Yo(h:Int):List (Int×Int)→List Int→Option (List Int)
 | [],L=>some L
 | o :: r,L=>(Zz h o.1 o.2 L).bind (Yo h r)
theorem Vn(h:Int):∀ (l m:List (Int×Int)) (L:List Int),Yo h (l++m) L=(Yo h l L).bind (Yo h m)
 | [],m,L=>by simp[Yo]
 | o :: r,m,L=>by
  simp only[List.cons_append,Yo]
  cases Zz h o.1 o.2 L with
  | none=>rfl
  | some M=>simp only[Option.bind];exact Vn h r m M
structure MS where
 cs:List Int
 n:Nat
 h:Int
 f:Bool
def MS.ok(s:MS):Prop:=s.cs.length=16∧s.n≤16∧∀ x∈s.cs,fit x=true
def MS.rep(s:MS):Option (List Int):=if s.f then none else some (s.cs.take s.n)
def MS.put(s:MS)(x:Int):MS:=if s.n=16∨fit x=false then { s with f:=true } else { s with cs:=s.cs.set s.n x,n:=s.n+1 }
def MS.top(s:MS):Int:=if s.n=0 then 0 else s.cs.getD (s.n - 1) 0
def MS.take(s:MS):MS:=if s.n=0 then { s with f:=true } else { s with n:=s.n - 1 }
def MS.fail(s:MS):MS:={ s with f:=true }
def MS.step(s:MS)(k n:Int):MS:=
 if k=1 then s.put n
 else if k=2 then (s.take.put s.top).put s.top
 else if k=3 then (s.take.take.put s.top).put s.take.top
 else if k=4 then s.take
 else if k=9∨k=13 then s.take.put (g1 k s.top)
 else if k=11 then (if s.top=0 then s.take.fail else s.take)
 else if k=12 then s.put s.h
 else s.take.take.put (g2 k s.take.top s.top)
theorem MS.put_h(s:MS)(x:Int):(s.put x).h=s.h:=by unfold MS.put;split <;> rfl
theorem MS.take_h(s:MS):s.take.h=s.h:=by unfold MS.take;split <;> rfl
theorem MS.fail_h(s:MS):s.fail.h=s.h:=rfl
theorem MS.step_h(s:MS)(k n:Int):(s.step k n).h=s.h:=by
 unfold MS.step;repeat' split
 all_goals simp only[MS.put_h,MS.take_h,MS.fail_h]
theorem MS.ok.put_ok{s:MS}(hs:s.ok)(x:Int):(s.put x).ok:=by
 obtain⟨h1,h2,h3⟩:=hs
 unfold MS.put
 split
 ·exact⟨h1,h2,h3⟩
 ·rename_i h
  simp only[not_or,Bool.not_eq_false] at h
  refine⟨by simpa using h1,by show s.n+1≤16;omega,fun y hy=>?_⟩
  rcases List.mem_or_eq_of_mem_set hy with hy|rfl
  ·exact h3 y hy
  ·exact h.2
theorem MS.ok.take_ok{s:MS}(hs:s.ok):s.take.ok:=by
 obtain⟨h1,h2,h3⟩:=hs
 unfold MS.take
 split
 ·exact⟨h1,h2,h3⟩
 ·exact⟨h1,by show s.n - 1≤16;omega,h3⟩
theorem MS.ok.fail_ok{s:MS}(hs:s.ok):s.fail.ok:=hs
theorem MS.ok.top_fit{s:MS}(hs:s.ok):fit s.top=true:=by
 obtain⟨h1,h2,h3⟩:=hs
 unfold MS.top
 split
 ·decide
 ·rename_i h
  have hl:s.n - 1<s.cs.length:=by omega
  rw[List.getD_eq_getElem?_getD,List.getElem?_eq_getElem hl,Option.getD_some]
  exact h3 _ (List.getElem_mem hl)
theorem MS.rep_put{s:MS}(hs:s.ok)(x:Int):(s.put x).rep=s.rep.bind (Uw · x):=by
 obtain⟨h1,h2,_⟩:=hs
 unfold MS.rep
 cases hf:s.f with
 | true=>
  have:(s.put x).f=true:=by unfold MS.put;split <;> simp[hf]
  rw[this];rfl
 | false=>
  simp only[Bool.false_eq_true,if_false,Option.bind_some]
  have hlen:(s.cs.take s.n).length=s.n:=by simp;omega
  unfold MS.put Uw
  rw[hlen]
  split
  ·rfl
  ·rename_i h
   simp only[not_or,Bool.not_eq_false] at h
   simp only[hf,Bool.false_eq_true,if_false]
   have hn:s.n<s.cs.length:=by omega
   rw[List.take_succ_eq_append_getElem (by simpa using hn)]
   simp[List.take_set_of_le]
theorem MS.rep_take{s:MS}(hs:s.ok):s.take.rep=s.rep.bind Yx:=by
 obtain⟨h1,h2,_⟩:=hs
 unfold MS.rep
 cases hf:s.f with
 | true=>
  have:s.take.f=true:=by unfold MS.take;split <;> simp[hf]
  rw[this];rfl
 | false=>
  simp only[Bool.false_eq_true,if_false,Option.bind_some]
  have hlen:(s.cs.take s.n).length=s.n:=by simp;omega
  unfold MS.take Yx
  rw[hlen]
  split
  ·rfl
  ·simp only[hf,Bool.false_eq_true,if_false]
   show some (s.cs.take (s.n - 1))=_
   rw[List.dropLast_eq_take,List.take_take,hlen]
   congr 2
   omega
theorem MS.rep_top{s:MS}(hs:s.ok){L:List Int}(h:s.rep=some L):s.top=Qe L:=by
 obtain⟨h1,h2,_⟩:=hs
 unfold MS.rep at h
 split at h
 ·cases h
 ·simp only[Option.some.injEq] at h
  subst h
  unfold MS.top Qe
  split
  ·rename_i e;rw[e];rfl
  ·have hl:s.n - 1<s.cs.length:=by omega
   rw[List.getLastD_eq_getLast?,List.getLast?_eq_getElem?,List.length_take,List.getD_eq_getElem?_getD]
   have e:min s.n s.cs.length - 1=s.n - 1:=by omega
   rw[e,List.getElem?_take_of_lt (by omega)]
theorem MS.rep_none_take{s:MS}(hs:s.ok)(h:s.rep=none):s.take.rep=none:=by rw[MS.rep_take hs,h];rfl
theorem MS.rep_none_put{s:MS}(hs:s.ok)(h:s.rep=none)(x:Int):(s.put x).rep=none:=by rw[MS.rep_put hs,h];rfl
theorem MS.rep_step{s:MS}(hs:s.ok)(k n:Int):(s.step k n).rep=s.rep.bind (Zz s.h k n):=by
 have ht:=hs.take_ok
 have htt:=ht.take_ok
 cases hr:s.rep with
 | none=>
  have h1:=MS.rep_none_take hs hr
  have h2:=MS.rep_none_take ht h1
  show _=none
  unfold MS.step
  split
  ·exact MS.rep_none_put hs hr _
  split
  ·exact MS.rep_none_put (ht.put_ok _) (MS.rep_none_put ht h1 _) _
  split
  ·exact MS.rep_none_put (htt.put_ok _) (MS.rep_none_put htt h2 _) _
  split
  ·exact h1
  split
  ·exact MS.rep_none_put ht h1 _
  split
  ·split
   ·rfl
   ·exact h1
  split
  ·exact MS.rep_none_put hs hr _
  ·exact MS.rep_none_put htt h2 _
 | some L=>
  have e0:=MS.rep_top hs hr
  have e1:s.take.rep=Yx L:=by rw[MS.rep_take hs,hr];rfl
  have e2:s.take.take.rep=(Yx L).bind Yx:=by rw[MS.rep_take ht,e1]
  have e3:∀ M,Yx L=some M→s.take.top=Qe M:=fun M hM=>MS.rep_top ht (e1.trans hM)
  show _=Zz s.h k n L
  unfold MS.step Zz
  split
  ·rw[MS.rep_put hs,hr];rfl
  split
  ·rw[MS.rep_put (ht.put_ok _),MS.rep_put ht,e1,e0]
   cases Yx L with
   | none=>rfl
   | some M=>rfl
  split
  ·rw[MS.rep_put (htt.put_ok _),MS.rep_put htt,e2,e0]
   cases hM:Yx L with
   | none=>rfl
   | some M=>
    rw[e3 M hM]
    show ((Yx M).bind (Uw · (Qe L))).bind _=(Yx M).bind _
    cases Yx M <;> rfl
  split
  ·exact e1
  split
  ·rw[MS.rep_put ht,e1,e0]
  split
  ·rw[e0]
   cases hM:Yx L with
   | none=>
    show _=none
    split
    ·rfl
    ·rw[e1,hM]
   | some M=>
    show _=(if Qe L=0 then none else some M)
    split
    ·rfl
    ·rw[e1,hM]
  split
  ·rw[MS.rep_put hs,hr];rfl
  ·rw[MS.rep_put htt,e2,e0]
   cases hM:Yx L with
   | none=>rfl
   | some M=>
    rw[e3 M hM]
    show ((Yx M).bind _)=(Yx M).bind _
    rfl
def Z0(Z:List Int):Bool:=decide (Z.length≤16) && Z.all fit
def Z8:List Int→List Int→Option (List Int)
 | L,[]=>some L
 | L,x :: r=>(Uw L x).bind fun M=>Z8 M r
theorem Gf:∀ (Z L:List Int) (x:Int),Z8 L (Z++[x])=(Z8 L Z).bind (Uw · x)
 | [],L,x=>by simp[Z8]
 | y :: r,L,x=>by
  simp only[List.cons_append,Z8]
  cases Uw L y with
  | none=>rfl
  | some M=>exact Gf r M x
theorem Do:∀ (Z L:List Int),L.length≤16→Z8 L Z=if decide ((L++Z).length≤16) && Z.all fit then some (L++Z) else none
 | [],L,h=>by simp[Z8,h]
 | x :: r,L,h=>by
  simp only[Z8,Uw]
  by_cases h1:L.length=16
  ·rw[if_pos (Or.inl h1),if_neg];rfl
   simp only[List.length_append,List.length_cons,Bool.and_eq_true,decide_eq_true_eq];omega
  ·by_cases h2:fit x=false
   ·rw[if_pos (Or.inr h2),if_neg];rfl
    simp[h2]
   ·rw[if_neg (by simp[h1];simpa using h2)]
    show Z8 (L++[x]) r=_
    rw[Do r (L++[x]) (by simp;omega)]
    have h3:fit x=true:=by simpa using h2
    simp[h3]
theorem E5(Z:List Int):Z8 [] Z=if Z0 Z then some Z else none:=by
 rw[Do Z [] (by simp)];rfl
theorem Ut{L M:List Int}{x:Int}(hL:Z0 L=true)(h:Uw L x=some M):Z0 M=true:=by
 unfold Uw at h
 split at h
 ·cases h
 ·rename_i hc
  simp only[Option.some.injEq] at h
  subst h
  simp only[not_or,Bool.not_eq_false] at hc
  simp only[Z0,Bool.and_eq_true,decide_eq_true_eq] at hL ⊢
  refine⟨by simp;omega,?_⟩
  rw[List.all_append]
  simp[hL.2,hc.2]
theorem Vq{L M:List Int}(hL:Z0 L=true)(h:Yx L=some M):Z0 M=true:=by
 unfold Yx at h
 split at h
 ·cases h
 ·simp only[Option.some.injEq] at h
  subst h
  simp only[Z0,Bool.and_eq_true,decide_eq_true_eq,List.all_eq_true] at hL ⊢
  exact⟨by simp;omega,fun x hx=>hL.2 x (List.dropLast_subset _ hx)⟩
theorem Vj{α β : Type}{o:Option α}{f : α→Option β}{b : β}(h:o.bind f=some b):∃ a,o=some a∧f a=some b:=by
 cases o with
 | none=>cases h
 | some a=>exact⟨a,rfl,h⟩
theorem Zca{h k n:Int}{L M:List Int}(hL:Z0 L=true)(e:Zz h k n L=some M):Z0 M=true:=by
 unfold Zz at e
 split at e
 ·exact Ut hL e
 split at e
 ·obtain⟨A,hA,e⟩:=Vj e;obtain⟨B,hB,e⟩:=Vj e
  exact Ut (Ut (Vq hL hA) hB) e
 split at e
 ·obtain⟨A,hA,e⟩:=Vj e;obtain⟨B,hB,e⟩:=Vj e;obtain⟨C,hC,e⟩:=Vj e
  exact Ut (Ut (Vq (Vq hL hA) hB) hC) e
 split at e
 ·exact Vq hL e
 split at e
 ·obtain⟨A,hA,e⟩:=Vj e
  exact Ut (Vq hL hA) e
 split at e
 ·obtain⟨A,hA,e⟩:=Vj e
  split at e
  ·cases e
  ·cases e;exact Vq hL hA
 split at e
 ·exact Ut hL e
 ·obtain⟨A,hA,e⟩:=Vj e;obtain⟨B,hB,e⟩:=Vj e
  exact Ut (Vq (Vq hL hA) hB) e
theorem Pq{h:Int}:∀ {l:List (Int×Int)} {L M:List Int},Z0 L=true→Yo h l L=some M→Z0 M=true
 | [],L,M,hL,e=>by cases e;exact hL
 | o :: r,L,M,hL,e=>by
  obtain⟨A,hA,e⟩:=Vj e
  exact Pq (Zca hL hA) e
def Yw(o:Int×Int):Int:=if o.1<1∨13<o.1 then 4 else if (o.1≠1∧o.2≠0)∨fit o.2=false then 3 else 0
def Vd:List (Int×Int)→Int
 | []=>0
 | o :: r=>if Yw o=0 then Vd r else Yw o
def chk(l:List (Int×Int)):Int:=if 16<l.length then 2 else Vd l
theorem L0(l:List (Int×Int))(k:Nat)(h:k<l.length)(h0:Vd (l.take k)=0):Vd (l.take (k+1))=if Yw (l[k])=0 then 0 else Yw (l[k]):=by
 induction l generalizing k with
 | nil=>simp at h
 | cons o r ih=>
  cases k with
  | zero=>simp[Vd]
  | succ k=>
   simp only[List.take_succ_cons,Vd,List.getElem_cons_succ] at h0 ⊢
   split at h0
   ·rename_i e
    rw[if_pos e]
    exact ih k (by simpa using h) h0
   ·contradiction
theorem L4(l:List (Int×Int))(k:Nat)(h:k<l.length)(h0:Vd (l.take k)=0)(h1:Yw (l[k])≠0):Vd l=Yw (l[k]):=by
 induction l generalizing k with
 | nil=>simp at h
 | cons o r ih=>
  cases k with
  | zero=>simp only[List.getElem_cons_zero] at h1 ⊢;simp[Vd,h1]
  | succ k=>
   simp only[List.take_succ_cons,Vd,List.getElem_cons_succ] at h0 h1 ⊢
   split at h0
   ·rename_i e
    rw[if_pos e]
    exact ih k (by simpa using h) h0 h1
   ·contradiction
theorem Je{l:List (Int×Int)}(h:Vd l=0):∀ (k:Nat) (hk:k<l.length),Yw (l[k])=0:=by
 induction l with
 | nil=>intro k hk;simp at hk
 | cons o r ih=>
  simp only[Vd] at h
  split at h
  ·rename_i e
   intro k hk
   cases k with
   | zero=>exact e
   | succ k=>exact ih h k (by simpa using hk)
  ·contradiction
def hOk(h:Int):Bool:=decide (0≤h) && decide (h≤1000)
def J6(l:List (Int×Int))(Z:List Int)(h:Int):Int:=
 if chk l=0 then (if Z0 Z && hOk h then (if (Yo h l Z).isSome then 0 else 8) else 3) else chk l
def Ph(l:List (Int×Int))(Z:List Int)(h:Int):List Int:=if J6 l Z h=0 then (Yo h l Z).getD [] else []
def Wq(l k:List (Int×Int))(h:Int):Int:=if chk l=0 then (if chk k=0 then (if hOk h then 0 else 3) else chk k) else chk l
def Rx(L:List Int):Bool:=decide (L.length=1) && (Qe L != 0)
def Yq(l k:List (Int×Int))(h:Int):Bool:=decide (Wq l k h=0) && (match (Yo h k []).bind (Yo h l) with|some L=>Rx L|none=>false)
theorem hide{p:Prop}(h:p):Hid p:=h
theorem unhide{p:Prop}(h:Hid p):p:=h
theorem Wz(n lo hi:Int)(w:World)(h1:lo≤n)(h2:n≤hi) :
  Calls Tryz.prog 62 #[.int .i64 n,.int .i64 lo,.int .i64 hi] w fun e w'=>e = .returned (.bool true)∧w=w':=by
 go_enter Tryz.func62,Tryz.ntmps62
 go_wp2
 go_ret
 exact⟨rfl,rfl⟩
theorem Ji(n lo hi:Int)(w:World)(h:n<lo∨hi<n) :
  Calls Tryz.prog 62 #[.int .i64 n,.int .i64 lo,.int .i64 hi] w fun e w'=>e = .returned (.bool false)∧w=w':=by
 by_cases h1:n<lo
 ·go_enter Tryz.func62,Tryz.ntmps62
  go_wp2
  go_ret
  exact⟨rfl,rfl⟩
 ·have h2:hi<n:=by omega
  have h3:lo≤n:=by omega
  have h4:decide (n≤hi)=false:=by simp;omega
  clear h
  go_enter Tryz.func62,Tryz.ntmps62
  go_wp2
  go_ret
  exact⟨rfl,rfl⟩
theorem within_is(n lo hi:Int)(b:Bool)(w:World)(hb:b=(decide (lo≤n) && decide (n≤hi))) :
  Calls Tryz.prog 62 #[.int .i64 n,.int .i64 lo,.int .i64 hi] w fun e w'=>e = .returned (.bool b)∧w=w':=by
 subst hb
 by_cases h1:lo≤n
 ·by_cases h2:n≤hi
  ·simpa[h1,h2] using Wz n lo hi w h1 h2
  ·simpa[h1,h2] using Ji n lo hi w (by omega)
 ·simpa[h1] using Ji n lo hi w (by omega)
theorem R6(n:Int)(b:Bool)(w:World)(hb:b=fit n) :
  Calls Tryz.prog 222 #[.int .i64 n] w fun e w'=>e = .returned (.bool b)∧w=w':=by
 have HB:=hide hb
 clear hb
 go_enter Tryz.func222,Tryz.ntmps222
 go_wp2_with (go_at_call 62;refine (within_is _ _ _ b _ (unhide HB)).mono ?_;rintro e w' ⟨rfl,rfl⟩)
 go_ret
 exact⟨rfl,rfl⟩
theorem Rq{a b:Int}(h:a=b):Ending.returned (.int .i64 a) = .returned (.int .i64 b):=by rw[h]
theorem Hx(k n:Int)(w:World) :
  Calls Tryz.prog 173 #[.agg #[.int .i64 k,.int .i64 n]] w fun e w'=>e = .returned (.int .i64 (Yw (k,n)))∧Below w.heap.size w w':=by
 have hb:∀ o,Below w.heap.size w (w.alloc o):=fun o=>(Below.refl _ _).alloc (Nat.le_refl _) _
 have HB:=hide hb
 clear hb
 by_cases h1:k<1∨13<k
 ·have e:Yw (k,n)=4:=by simp[Yw,h1]
  rw[e]
  clear e
  go_enter Tryz.func173,Tryz.ntmps173
  go_wp2_with (go_at_call 62;refine (Ji _ _ _ _ h1).mono ?_;rintro e w' ⟨rfl,rfl⟩)
  go_ret
  exact⟨rfl,(unhide HB) _⟩
 ·have g1:1≤k:=by omega
  have g2:k≤13:=by omega
  by_cases h2:k=1
  ·subst h2
   clear h1
   cases h3:fit n with
   | false=>
    have e:Yw (1,n)=3:=by simp[Yw,h3]
    rw[e]
    have H3:=hide h3
    clear e h3
    go_enter Tryz.func173,Tryz.ntmps173
    go_wp2_with (first|(go_at_call 62;refine (Wz _ _ _ _ (by decide) (by decide)).mono ?_;rintro e w' ⟨rfl,rfl⟩)|(go_at_call 222;refine (R6 _ false _ (unhide H3).symm).mono ?_;rintro e w' ⟨rfl,rfl⟩))
    go_ret
    exact⟨rfl,(unhide HB) _⟩
   | true=>
    have e:Yw (1,n)=0:=by simp[Yw,h3]
    rw[e]
    have H3:=hide h3
    clear e h3
    go_enter Tryz.func173,Tryz.ntmps173
    go_wp2_with (first|(go_at_call 62;refine (Wz _ _ _ _ (by decide) (by decide)).mono ?_;rintro e w' ⟨rfl,rfl⟩)|(go_at_call 222;refine (R6 _ true _ (unhide H3).symm).mono ?_;rintro e w' ⟨rfl,rfl⟩))
    go_ret
    exact⟨rfl,(unhide HB) _⟩
  ·have g3:(k != 1)=true:=by simp[h2]
   by_cases h4:n=0
   ·subst h4
    have h3:fit 0=true:=by decide
    have e:Yw (k,0)=0:=by simp[Yw,h3,h1]
    rw[e]
    have H3:=hide h3
    clear e h3 h1 h2
    go_enter Tryz.func173,Tryz.ntmps173
    go_wp2_with (first|(go_at_call 62;refine (Wz _ _ _ _ g1 g2).mono ?_;rintro e w' ⟨rfl,rfl⟩)|(go_at_call 222;refine (R6 _ true _ (unhide H3).symm).mono ?_;rintro e w' ⟨rfl,rfl⟩))
    go_ret
    exact⟨rfl,(unhide HB) _⟩
   ·have g4:(n != 0)=true:=by simp[h4]
    have e:Yw (k,n)=3:=by simp[Yw,h1,h2,h4]
    rw[e]
    clear e h1 h2 h4
    go_enter Tryz.func173,Tryz.ntmps173
    go_wp2_with (go_at_call 62;refine (Wz _ _ _ _ g1 g2).mono ?_;rintro e w' ⟨rfl,rfl⟩)
    go_ret
    exact⟨rfl,(unhide HB) _⟩
def OpsAt(w:World)(a:Option Addr)(len:Nat)(l:List (Int×Int)):Prop:=
 l.length=len∧(0<len→∃ b off,a=some ⟨b,off,none⟩∧∀ i,i<len→w.cell? ⟨b,off+i*2,none⟩=some (.int .i64 (l.getD i (0,0)).1)∧w.cell? ⟨b,off+i*2+1,none⟩=some (.int .i64 (l.getD i (0,0)).2))
theorem OpsAt.later{w w':World}{a:Option Addr}{len:Nat}{l:List (Int×Int)}(h:OpsAt w a len l)(hb:Below w.heap.size w w'):OpsAt w' a len l:=by
 obtain⟨hz,hc⟩:=h
 refine⟨hz,fun h=>?_⟩
 obtain⟨b,off,rfl,hcell⟩:=hc h
 refine⟨b,off,rfl,fun i hi=>?_⟩
 obtain⟨h1,h2⟩:=hcell i hi
 refine⟨?_,?_⟩
 ·rw[hb.cell (p:=⟨b,off+i*2,none⟩) (World.block_lt_of_cell? _ _ h1)];exact h1
 ·rw[hb.cell (p:=⟨b,off+i*2+1,none⟩) (World.block_lt_of_cell? _ _ h2)];exact h2
theorem Bv(a:Option Addr)(len cap:Nat)(w:World)(h:16<len) :
  Calls Tryz.prog 138 #[.slice a len cap] w fun e w'=>e = .returned (.int .i64 2)∧w=w':=by
 go_enter Tryz.func138,Tryz.ntmps138
 go_wp2
 go_ret
 exact⟨rfl,rfl⟩
theorem Hv(a:Option Addr)(cap:Nat)(w:World) :
  Calls Tryz.prog 138 #[.slice a 0 cap] w fun e w'=>e = .returned (.int .i64 0)∧w=w':=by
 go_enter Tryz.func138,Tryz.ntmps138
 go_wp2
 refine wp_loop_rounds 1 ?_
 rw[rounds_succ]
 go_wp2
 go_ret
 exact⟨rfl,rfl⟩
theorem Bu(b off len cap:Nat)(l:List (Int×Int))(w:World)(h0:len≤16)(hz:l.length=len)
  (hc:∀ i,i<len→w.cell? ⟨b,off+i*2,none⟩=some (.int .i64 (l.getD i (0,0)).1)∧w.cell? ⟨b,off+i*2+1,none⟩=some (.int .i64 (l.getD i (0,0)).2)) (hl:b<w.heap.size) :
  Calls Tryz.prog 138 #[.slice (some ⟨b,off,none⟩) len cap] w fun e w'=>e = .returned (.int .i64 (Vd l))∧Below w.heap.size w w':=by
 have HC:=hide hc
 have HZ:=hide hz
 clear hc hz
 go_enter Tryz.func138,Tryz.ntmps138
 go_wp2
 go_loopw [11] (fun i wr=>∃ k:Nat,k≤len∧i = .int .i64 k∧Vd (l.take k)=0∧Below w.heap.size w wr) (fun i _=>len - (intOf i).toNat)
 case atStart=>exact⟨0,Nat.zero_le _,rfl,rfl,Below.refl _ _⟩
 case round=>
  obtain⟨k,hk,rfl,hok,hb⟩:=hrel
  have HOK:=hide hok
  have HB:=hide hb
  clear hok
  by_cases hlt:k<len
  ·obtain⟨c1,c2⟩:=(unhide HC) k hlt
   rw[←hb.cell (p:=⟨b,off+k*2,none⟩) hl] at c1
   rw[←hb.cell (p:=⟨b,off+k*2+1,none⟩) hl] at c2
   obtain⟨q,hq⟩:∃ q,q=l.getD k (0,0):=⟨_,rfl⟩
   rw[←hq] at c1 c2
   have hlk:k<l.length:=by rw[unhide HZ];exact hlt
   have hq':q=l[k]:=by rw[hq];simp[hlk]
   have HQ:=hide hq'
   clear hb hq hq'
   obtain⟨q1,q2⟩:=q
   have CO:=hide (Hx q1 q2)
   obtain⟨x,hx⟩:∃ x,x=Yw (q1,q2):=⟨_,rfl⟩
   rw[←hx] at CO
   have HX:=hide hx
   clear hx
   by_cases hx0:x=0
   ·subst hx0
    go_wp2_with fail
    refine ((unhide CO) _).mono ?_
    rintro e w1 ⟨rfl,hb1⟩
    have hb2:=(unhide HB).trans (((Below.refl wr.heap.size wr).alloc (Nat.le_refl _) _).trans (hb1.mono (by simp)) |>.mono (unhide HB).size)
    have HB2:=hide hb2
    clear hb1 hb2
    go_wp2
    go_roundw
    case rel=>
     refine⟨k+1,by omega,by go_num,?_,unhide HB2⟩
     rw[L0 l k hlk (unhide HOK),←unhide HQ,←unhide HX];rfl
    case measure=>simp[intOf];omega
   ·have hx1:(x != 0)=true:=by simp[hx0]
    have HX0:=hide hx0
    clear hx0
    go_wp2_with fail
    refine ((unhide CO) _).mono ?_
    rintro e w1 ⟨rfl,hb1⟩
    have hb2:=(unhide HB).trans (((Below.refl wr.heap.size wr).alloc (Nat.le_refl _) _).trans (hb1.mono (by simp)) |>.mono (unhide HB).size)
    have HB2:=hide hb2
    clear hb1 hb2
    go_wp2
    go_ret
    refine⟨Rq ?_,unhide HB2⟩
    rw[L4 l k hlk (unhide HOK) (by rw[←unhide HQ,←unhide HX];exact unhide HX0),←unhide HQ,←unhide HX]
  ·clear hb
   go_wp2
   go_ret
   have e:k=len:=by omega
   subst e
   refine⟨Rq ?_,unhide HB⟩
   have h1:=unhide HOK
   rw[←unhide HZ,List.take_length] at h1
   exact h1.symm
theorem Uc(a:Option Addr)(len cap:Nat)(l:List (Int×Int))(w:World)(h:OpsAt w a len l) :
  Calls Tryz.prog 138 #[.slice a len cap] w fun e w'=>e = .returned (.int .i64 (chk l))∧Below w.heap.size w w':=by
 obtain⟨hz,hc⟩:=h
 unfold chk
 rw[hz]
 by_cases h1:16<len
 ·rw[if_pos h1]
  exact (Bv a len cap w h1).mono fun e w' ⟨x,y⟩=>⟨x,y ▸ Below.refl _ _⟩
 ·rw[if_neg h1]
  by_cases h2:len=0
  ·subst h2
   have e:l=[]:=List.length_eq_zero_iff.1 hz
   subst e
   exact (Hv a cap w).mono fun e w' ⟨x,y⟩=>⟨x,y ▸ Below.refl _ _⟩
  ·obtain⟨b,off,rfl,hcell⟩:=hc (by omega)
   exact Bu b off len cap l w (by omega) hz hcell (World.block_lt_of_cell? _ _ (hcell 0 (by omega)).1)
def RowAt(w:World)(a:Option Addr)(len:Nat)(Z:List Int):Prop:=
 Z.length=len∧len≤maxLen∧(0<len→∃ b off,a=some ⟨b,off,none⟩∧∀ i,i<len→w.cell? ⟨b,off+i,none⟩=some (.int .i64 (Z.getD i 0)))
theorem RowAt.later{w w':World}{a:Option Addr}{len:Nat}{Z:List Int}(h:RowAt w a len Z)(hb:Below w.heap.size w w'):RowAt w' a len Z:=by
 obtain⟨hz,hm,hc⟩:=h
 refine⟨hz,hm,fun h=>?_⟩
 obtain⟨b,off,rfl,hcell⟩:=hc h
 refine⟨b,off,rfl,fun i hi=>?_⟩
 have h1:=hcell i hi
 rw[hb.cell (p:=⟨b,off+i,none⟩) (World.block_lt_of_cell? _ _ h1)];exact h1
theorem RowAt.nil(w:World)(a:Option Addr):RowAt w a 0 []:=⟨rfl,Nat.zero_le _,fun h=>absurd h (by omega)⟩
theorem Nh{w w1 w2:World}(h1:Below w.heap.size w w1)(h2:Below w1.heap.size w1 w2):Below w.heap.size w w2:=h1.trans (h2.mono h1.size)
structure FillV(B:Nat)(e:TypeId)(p:Nat)(f:Nat→Value)(w wr:World)(k:Nat):Prop where
 ex:∃ xs:List Value,wr.ownsRow B e 1 (.slice (some ⟨B,0,none⟩) p p) p xs∧∀ j,j<k→xs[j]? = some (f j)
 bel:Below B w wr
theorem FillV.lt{B:Nat}{e:TypeId}{p:Nat}{f:Nat→Value}{w wr:World}{k:Nat}(h:FillV B e p f w wr k):B<wr.heap.size:=by
 obtain⟨_,ho,_⟩:=h.ex
 exact (ho.lt B rfl).2
theorem FillV.old{B:Nat}{e:TypeId}{p:Nat}{f:Nat→Value}{w wr:World}{k:Nat}(h:FillV B e p f w wr k)(hk:k<p):∃ v,wr.cell? ⟨B,k,none⟩=some v:=by
 obtain⟨xs,ho,_⟩:=h.ex
 have hl:xs.length=p:=by simpa using ho.1
 exact⟨xs[k]'(by omega),by rw[ho.cellAt k (by omega)];simp[hl,hk]⟩
theorem FillV.free{B:Nat}{e:TypeId}{p:Nat}{f:Nat→Value}{w wr:World}{k:Nat}(h:FillV B e p f w wr k)(j:Nat):wr.frozen? ⟨B,j,none⟩=false:=by
 obtain⟨xs,ho,_⟩:=h.ex
 exact ho.frozenAt j
theorem FillV.step{B:Nat}{e:TypeId}{p:Nat}{f:Nat→Value}{w wr:World}{k:Nat}(h:FillV B e p f w wr k)(hk:k<p){v:Value}(hv:v=f k):FillV B e p f w (wr.setCell ⟨B,k,none⟩ v) (k+1):=by
 obtain⟨xs,ho,hf⟩:=h.ex
 have hl:xs.length=p:=by simpa using ho.1
 refine⟨⟨xs.set k v,(ho.stored k _).1,fun j hj=>?_⟩,h.bel.setCell (Nat.le_refl _) _⟩
 by_cases e:j=k
 ·subst e;simp[hl,hk,hv]
 ·rw[List.getElem?_set_ne (by omega)];exact hf j (by omega)
theorem FillV.keep{B:Nat}{e:TypeId}{p:Nat}{f:Nat→Value}{w wr w':World}{k:Nat}(h:FillV B e p f w wr k)(hb:Below wr.heap.size wr w'):FillV B e p f w w' k:=by
 obtain⟨xs,ho,hf⟩:=h.ex
 refine⟨⟨xs,?_,hf⟩,h.bel.trans (hb.mono (Nat.le_of_lt h.lt))⟩
 obtain⟨hl,h0|⟨g,cap,cur,hv,hg,hh,r⟩⟩:=ho
 ·exact⟨hl,.inl h0⟩
 ·exact⟨hl,.inr ⟨g,cap,cur,hv,hg,(hb.block g (lt_of_block hh)).trans hh,r⟩⟩
theorem FillV.cells{B:Nat}{e:TypeId}{p:Nat}{f:Nat→Value}{w wr:World}{k:Nat}(h:FillV B e p f w wr k)(hk:k≤p)(i:Nat)(hi:i<k):wr.cell? ⟨B,i,none⟩=some (f i):=by
 obtain⟨xs,ho,hf⟩:=h.ex
 rw[ho.cellAt i (by omega)]
 exact hf i hi
end Go.Proofs.YtepmnpapdknocaaGreatDoor
