import Derived.Test.YtmomfkikogbdeaaGreatDoorRows
import Derived.BigQuiet
import Derived.Deep.RegionWith
import Derived.WalkLawsBesides
set_option maxHeartbeats 3200000
set_option maxRecDepth 10000
namespace Go.Proofs.YtmomfkikogbdeaaGreatDoor
open Go.RowKit
def fit(n:Int):Bool:=decide (-1000000≤n) && decide (n≤1000000)
theorem Uk(n:Int):fit n=true↔-1000000≤n∧n≤1000000:=by simp[fit]
def b01(b:Bool):Int:=if b then 1 else 0
def Me(a:Int):Nat→Int
 | 0=>a+1000000
 | k+1=>(7919*Me a k+104729) % 1000003
theorem Zfy(a:Int)(h:fit a=true):∀ k,0≤Me a k∧Me a k≤2000000
 | 0=>by have:=(Uk a).1 h;simp only[Me];omega
 | k+1=>by simp only[Me];omega
def Zhg(a:Int):Int:=Me a 3 % 1000001
def g2(k:Int)(a b:Int):Int:=
 if k=5 then a+b else if k=6 then a - b else if k=7 then b01 (a == b) else if k=8 then b01 (decide (a<b)) else b01 (a != 0 && b != 0)
def g1(k:Int)(a:Int):Int:=if k=9 then b01 (a == 0) else Zhg a
def Q8(L:List Int)(x:Int):Option (List Int):=if L.length=16∨fit x=false then none else some (L++[x])
def Xb(L:List Int):Option (List Int):=if L.length=0 then none else some L.dropLast
def Rc(L:List Int):Int:=L.getLastD 0
def Ss(h:Int)(k n:Int)(L:List Int):Option (List Int):=
 if k=1 then Q8 L n
 else if k=2 then (Xb L).bind fun M=>(Q8 M (Rc L)).bind fun M=>Q8 M (Rc L)
 else if k=3 then (Xb L).bind fun M=>(Xb M).bind fun N=>(Q8 N (Rc L)).bind fun Q=>Q8 Q (Rc M)
 else if k=4 then Xb L
 else if k=9∨k=13 then (Xb L).bind fun M=>Q8 M (g1 k (Rc L))
 else if k=11 then (Xb L).bind fun M=>if Rc L=0 then none else some M
 else if k=12 then Q8 L h
 else (Xb L).bind fun M=>(Xb M).bind fun N=>Q8 N (g2 k (Rc M) (Rc L))
def Xw(h:Int):List (Int×Int)→List Int→Option (List Int)
 | [],L=>some L
 | o :: r,L=>(Ss h o.1 o.2 L).bind (Xw h r)
theorem Q6(h:Int):∀ (l m:List (Int×Int)) (L:List Int),Xw h (l++m) L=(Xw h l L).bind (Xw h m)
 | [],m,L=>by simp[Xw]
 | o :: r,m,L=>by
  simp only[List.cons_append,Xw]
  cases Ss h o.1 o.2 L with
  | none=>rfl
  | some M=>simp only[Option.bind];exact Q6 h r m M
structure MS where
 cs:List Int
 n:Nat
 h:Int
 f:Bool
def MS.ok(s:MS):Prop:=s.cs.length=16∧s.n≤16∧∀ x∈s.cs,fit x=true
def MS.rep(s:MS):Option (List Int):=if s.f then none else some (s.cs.take s.n)
def MS.put(s:MS)(x:Int):MS:=if s.n=16∨fit x=false then { s with f:=true } else { s with cs:=s.cs.set s.n x,n:=s.n+1 }
def MS.top(s:MS):Int:=if s.n=0 then 0 else s.cs.getD (s.n - 1) 0
def MS.take(s:MS):MS:=if s.n=0 then { s with f:=true } else { s with n:=s.n - 1 }
def MS.fail(s:MS):MS:={ s with f:=true }
def MS.step(s:MS)(k n:Int):MS:=
 if k=1 then s.put n
 else if k=2 then (s.take.put s.top).put s.top
 else if k=3 then (s.take.take.put s.top).put s.take.top
 else if k=4 then s.take
 else if k=9∨k=13 then s.take.put (g1 k s.top)
 else if k=11 then (if s.top=0 then s.take.fail else s.take)
 else if k=12 then s.put s.h
 else s.take.take.put (g2 k s.take.top s.top)
theorem MS.put_h(s:MS)(x:Int):(s.put x).h=s.h:=by unfold MS.put;split <;> rfl
theorem MS.take_h(s:MS):s.take.h=s.h:=by unfold MS.take;split <;> rfl
theorem MS.fail_h(s:MS):s.fail.h=s.h:=rfl
theorem MS.step_h(s:MS)(k n:Int):(s.step k n).h=s.h:=by
 unfold MS.step;repeat' split
 all_goals simp only[MS.put_h,MS.take_h,MS.fail_h]
theorem MS.ok.put_ok{s:MS}(hs:s.ok)(x:Int):(s.put x).ok:=by
 obtain⟨h1,h2,h3⟩:=hs
 unfold MS.put
 split
 ·exact⟨h1,h2,h3⟩
 ·rename_i h
  simp only[not_or,Bool.not_eq_false] at h
  refine⟨by simpa using h1,by show s.n+1≤16;omega,fun y hy=>?_⟩
  rcases List.mem_or_eq_of_mem_set hy with hy|rfl
  ·exact h3 y hy
  ·exact h.2
theorem MS.ok.take_ok{s:MS}(hs:s.ok):s.take.ok:=by
 obtain⟨h1,h2,h3⟩:=hs
 unfold MS.take
 split
 ·exact⟨h1,h2,h3⟩
 ·exact⟨h1,by show s.n - 1≤16;omega,h3⟩
theorem MS.ok.fail_ok{s:MS}(hs:s.ok):s.fail.ok:=hs
theorem MS.ok.top_fit{s:MS}(hs:s.ok):fit s.top=true:=by
 obtain⟨h1,h2,h3⟩:=hs
 unfold MS.top
 split
 ·decide
 ·rename_i h
  have hl:s.n - 1<s.cs.length:=by omega
  rw[List.getD_eq_getElem?_getD,List.getElem?_eq_getElem hl,Option.getD_some]
  exact h3 _ (List.getElem_mem hl)
theorem MS.rep_put{s:MS}(hs:s.ok)(x:Int):(s.put x).rep=s.rep.bind (Q8 · x):=by
 obtain⟨h1,h2,_⟩:=hs
 unfold MS.rep
 cases hf:s.f with
 | true=>
  have:(s.put x).f=true:=by unfold MS.put;split <;> simp[hf]
  rw[this];rfl
 | false=>
  simp only[Bool.false_eq_true,if_false,Option.bind_some]
  have hlen:(s.cs.take s.n).length=s.n:=by simp;omega
  unfold MS.put Q8
  rw[hlen]
  split
  ·rfl
  ·rename_i h
   simp only[not_or,Bool.not_eq_false] at h
   simp only[hf,Bool.false_eq_true,if_false]
   have hn:s.n<s.cs.length:=by omega
   rw[List.take_succ_eq_append_getElem (by simpa using hn)]
   simp[List.take_set_of_le]
theorem MS.rep_take{s:MS}(hs:s.ok):s.take.rep=s.rep.bind Xb:=by
 obtain⟨h1,h2,_⟩:=hs
 unfold MS.rep
 cases hf:s.f with
 | true=>
  have:s.take.f=true:=by unfold MS.take;split <;> simp[hf]
  rw[this];rfl
 | false=>
  simp only[Bool.false_eq_true,if_false,Option.bind_some]
  have hlen:(s.cs.take s.n).length=s.n:=by simp;omega
  unfold MS.take Xb
  rw[hlen]
  split
  ·rfl
  ·simp only[hf,Bool.false_eq_true,if_false]
   show some (s.cs.take (s.n - 1))=_
   rw[List.dropLast_eq_take,List.take_take,hlen]
   congr 2
   omega
theorem MS.rep_top{s:MS}(hs:s.ok){L:List Int}(h:s.rep=some L):s.top=Rc L:=by
 obtain⟨h1,h2,_⟩:=hs
 unfold MS.rep at h
 split at h
 ·cases h
 ·simp only[Option.some.injEq] at h
  subst h
  unfold MS.top Rc
  split
  ·rename_i e;rw[e];rfl
  ·have hl:s.n - 1<s.cs.length:=by omega
   rw[List.getLastD_eq_getLast?,List.getLast?_eq_getElem?,List.length_take,List.getD_eq_getElem?_getD]
   have e:min s.n s.cs.length - 1=s.n - 1:=by omega
   rw[e,List.getElem?_take_of_lt (by omega)]
theorem MS.rep_none_take{s:MS}(hs:s.ok)(h:s.rep=none):s.take.rep=none:=by rw[MS.rep_take hs,h];rfl
theorem MS.rep_none_put{s:MS}(hs:s.ok)(h:s.rep=none)(x:Int):(s.put x).rep=none:=by rw[MS.rep_put hs,h];rfl
theorem MS.rep_step{s:MS}(hs:s.ok)(k n:Int):(s.step k n).rep=s.rep.bind (Ss s.h k n):=by
 have ht:=hs.take_ok
 have htt:=ht.take_ok
 cases hr:s.rep with
 | none=>
  have h1:=MS.rep_none_take hs hr
  have h2:=MS.rep_none_take ht h1
  show _=none
  unfold MS.step
  split
  ·exact MS.rep_none_put hs hr _
  split
  ·exact MS.rep_none_put (ht.put_ok _) (MS.rep_none_put ht h1 _) _
  split
  ·exact MS.rep_none_put (htt.put_ok _) (MS.rep_none_put htt h2 _) _
  split
  ·exact h1
  split
  ·exact MS.rep_none_put ht h1 _
  split
  ·split
   ·rfl
   ·exact h1
  split
  ·exact MS.rep_none_put hs hr _
  ·exact MS.rep_none_put htt h2 _
 | some L=>
  have e0:=MS.rep_top hs hr
  have e1:s.take.rep=Xb L:=by rw[MS.rep_take hs,hr];rfl
  have e2:s.take.take.rep=(Xb L).bind Xb:=by rw[MS.rep_take ht,e1]
  have e3:∀ M,Xb L=some M→s.take.top=Rc M:=fun M hM=>MS.rep_top ht (e1.trans hM)
  show _=Ss s.h k n L
  unfold MS.step Ss
  split
  ·rw[MS.rep_put hs,hr];rfl
  split
  ·rw[MS.rep_put (ht.put_ok _),MS.rep_put ht,e1,e0]
   cases Xb L with
   | none=>rfl
   | some M=>rfl
  split
  ·rw[MS.rep_put (htt.put_ok _),MS.rep_put htt,e2,e0]
   cases hM:Xb L with
   | none=>rfl
   | some M=>
    rw[e3 M hM]
    show ((Xb M).bind (Q8 · (Rc L))).bind _=(Xb M).bind _
    cases Xb M <;> rfl
  split
  ·exact e1
  split
  ·rw[MS.rep_put ht,e1,e0]
  split
  ·rw[e0]
   cases hM:Xb L with
   | none=>
    show _=none
    split
    ·rfl
    ·rw[e1,hM]
   | some M=>
    show _=(if Rc L=0 then none else some M)
    split
    ·rfl
    ·rw[e1,hM]
  split
  ·rw[MS.rep_put hs,hr];rfl
  ·rw[MS.rep_put htt,e2,e0]
   cases hM:Xb L with
   | none=>rfl
   | some M=>
    rw[e3 M hM]
    show ((Xb M).bind _)=(Xb M).bind _
    rfl
def Yb(Z:List Int):Bool:=decide (Z.length≤16) && Z.all fit
def U5:List Int→List Int→Option (List Int)
 | L,[]=>some L
 | L,x :: r=>(Q8 L x).bind fun M=>U5 M r
theorem Gj:∀ (Z L:List Int) (x:Int),U5 L (Z++[x])=(U5 L Z).bind (Q8 · x)
 | [],L,x=>by simp[U5]
 | y :: r,L,x=>by
  simp only[List.cons_append,U5]
  cases Q8 L y with
  | none=>rfl
  | some M=>exact Gj r M x
theorem N5:∀ (Z L:List Int),L.length≤16→U5 L Z=if decide ((L++Z).length≤16) && Z.all fit then some (L++Z) else none
 | [],L,h=>by simp[U5,h]
 | x :: r,L,h=>by
  simp only[U5,Q8]
  by_cases h1:L.length=16
  ·rw[if_pos (Or.inl h1),if_neg];rfl
   simp only[List.length_append,List.length_cons,Bool.and_eq_true,decide_eq_true_eq];omega
  ·by_cases h2:fit x=false
   ·rw[if_pos (Or.inr h2),if_neg];rfl
    simp[h2]
   ·rw[if_neg (by simp[h1];simpa using h2)]
    show U5 (L++[x]) r=_
    rw[N5 r (L++[x]) (by simp;omega)]
    have h3:fit x=true:=by simpa using h2
    simp[h3]
theorem Ev(Z:List Int):U5 [] Z=if Yb Z then some Z else none:=by
 rw[N5 Z [] (by simp)];rfl
theorem Uh{L M:List Int}{x:Int}(hL:Yb L=true)(h:Q8 L x=some M):Yb M=true:=by
 unfold Q8 at h
 split at h
 ·cases h
 ·rename_i hc
  simp only[Option.some.injEq] at h
  subst h
  simp only[not_or,Bool.not_eq_false] at hc
  simp only[Yb,Bool.and_eq_true,decide_eq_true_eq] at hL ⊢
  refine⟨by simp;omega,?_⟩
  rw[List.all_append]
  simp[hL.2,hc.2]
theorem Vb{L M:List Int}(hL:Yb L=true)(h:Xb L=some M):Yb M=true:=by
 unfold Xb at h
 split at h
 ·cases h
 ·simp only[Option.some.injEq] at h
  subst h
  simp only[Yb,Bool.and_eq_true,decide_eq_true_eq,List.all_eq_true] at hL ⊢
  exact⟨by simp;omega,fun x hx=>hL.2 x (List.dropLast_subset _ hx)⟩
theorem W3{α β : Type}{o:Option α}{f : α→Option β}{b : β}(h:o.bind f=some b):∃ a,o=some a∧f a=some b:=by
 cases o with
 | none=>cases h
 | some a=>exact⟨a,rfl,h⟩
theorem Zcc{h k n:Int}{L M:List Int}(hL:Yb L=true)(e:Ss h k n L=some M):Yb M=true:=by
 unfold Ss at e
 split at e
 ·exact Uh hL e
 split at e
 ·obtain⟨A,hA,e⟩:=W3 e;obtain⟨B,hB,e⟩:=W3 e
  exact Uh (Uh (Vb hL hA) hB) e
 split at e
 ·obtain⟨A,hA,e⟩:=W3 e;obtain⟨B,hB,e⟩:=W3 e;obtain⟨C,hC,e⟩:=W3 e
  exact Uh (Uh (Vb (Vb hL hA) hB) hC) e
 split at e
 ·exact Vb hL e
 split at e
 ·obtain⟨A,hA,e⟩:=W3 e
  exact Uh (Vb hL hA) e
 split at e
 ·obtain⟨A,hA,e⟩:=W3 e
  split at e
  ·cases e
  ·cases e;exact Vb hL hA
 split at e
 ·exact Uh hL e
 ·obtain⟨A,hA,e⟩:=W3 e;obtain⟨B,hB,e⟩:=W3 e
  exact Uh (Vb (Vb hL hA) hB) e
theorem Cm{h:Int}:∀ {l:List (Int×Int)} {L M:List Int},Yb L=true→Xw h l L=some M→Yb M=true
 | [],L,M,hL,e=>by cases e;exact hL
 | o :: r,L,M,hL,e=>by
  obtain⟨A,hA,e⟩:=W3 e
  exact Cm (Zcc hL hA) e
def Wv(o:Int×Int):Int:=if o.1<1∨13<o.1 then 4 else if (o.1≠1∧o.2≠0)∨fit o.2=false then 3 else 0
def Qx:List (Int×Int)→Int
 | []=>0
 | o :: r=>if Wv o=0 then Qx r else Wv o
def chk(l:List (Int×Int)):Int:=if 16<l.length then 2 else Qx l
theorem Zbd(l:List (Int×Int))(k:Nat)(h:k<l.length)(h0:Qx (l.take k)=0):Qx (l.take (k+1))=if Wv (l[k])=0 then 0 else Wv (l[k]):=by
 induction l generalizing k with
 | nil=>simp at h
 | cons o r ih=>
  cases k with
  | zero=>simp[Qx]
  | succ k=>
   simp only[List.take_succ_cons,Qx,List.getElem_cons_succ] at h0 ⊢
   split at h0
   ·rename_i e
    rw[if_pos e]
    exact ih k (by simpa using h) h0
   ·contradiction
theorem Zbe(l:List (Int×Int))(k:Nat)(h:k<l.length)(h0:Qx (l.take k)=0)(h1:Wv (l[k])≠0):Qx l=Wv (l[k]):=by
 induction l generalizing k with
 | nil=>simp at h
 | cons o r ih=>
  cases k with
  | zero=>simp only[List.getElem_cons_zero] at h1 ⊢;simp[Qx,h1]
  | succ k=>
   simp only[List.take_succ_cons,Qx,List.getElem_cons_succ] at h0 h1 ⊢
   split at h0
   ·rename_i e
    rw[if_pos e]
    exact ih k (by simpa using h) h0 h1
   ·contradiction
theorem Ho{l:List (Int×Int)}(h:Qx l=0):∀ (k:Nat) (hk:k<l.length),Wv (l[k])=0:=by
 induction l with
 | nil=>intro k hk;simp at hk
 | cons o r ih=>
  simp only[Qx] at h
  split at h
  ·rename_i e
   intro k hk
   cases k with
   | zero=>exact e
   | succ k=>exact ih h k (by simpa using hk)
  ·contradiction
def hOk(h:Int):Bool:=decide (0≤h) && decide (h≤1000)
def Rg(l:List (Int×Int))(Z:List Int)(h:Int):Int:=
 if chk l=0 then (if Yb Z && hOk h then (if (Xw h l Z).isSome then 0 else 8) else 3) else chk l
def Pk(l:List (Int×Int))(Z:List Int)(h:Int):List Int:=if Rg l Z h=0 then (Xw h l Z).getD [] else []
def Wq(l k:List (Int×Int))(h:Int):Int:=if chk l=0 then (if chk k=0 then (if hOk h then 0 else 3) else chk k) else chk l
def Di(L:List Int):Bool:=decide (L.length=1) && (Rc L != 0)
def Y2(l k:List (Int×Int))(h:Int):Bool:=decide (Wq l k h=0) && (match (Xw h k []).bind (Xw h l) with|some L=>Di L|none=>false)
abbrev InD:=Int×Int×List (Int×Int)
abbrev Z0:=Int×List (Int×Int)
abbrev TxD:=Int×List InD×List Z0
def Pm(x:InD):Bool:=(decide (1≤x.1) && decide (x.1≤120)) && (decide (0≤x.2.1) && decide (x.2.1≤5))
def Vd(x y:InD):Bool:=decide (y.1=x.1) && decide (y.2.1=x.2.1)
def X3(pre:List InD)(x:InD):Int:=if Pm x=false then 3 else if chk x.2.2≠0 then chk x.2.2 else if pre.any (Vd x) then 6 else 0
def Yj(pre:List InD):List InD→Int
 | []=>0
 | x :: r=>if X3 pre x=0 then Yj (pre++[x]) r else X3 pre x
def Y6(x:Z0):Int:=if x.1<1 then 3 else chk x.2
def Yk:List Z0→Int
 | []=>0
 | x :: r=>if Y6 x=0 then Yk r else Y6 x
def sm:Int→List Int→Int×Int
 | s,[]=>(s,0)
 | s,x :: l=>if 0≤x∧x≤1000000000 then (if s+x≤1000000000 then sm (s+x) l else (0,12)) else (0,3)
theorem Zfl(s:Int)(Z:List Int)(k:Nat)(hk:k<Z.length)(h1:0≤Z.getD k 0)(h2:Z.getD k 0≤1000000000)(h3:s+Z.getD k 0≤1000000000) :
  sm s (Z.drop k)=sm (s+Z.getD k 0) (Z.drop (k+1)):=by
 have e:Z.drop k=Z.getD k 0 :: Z.drop (k+1):=by
  rw[List.drop_eq_getElem_cons hk];simp[List.getD,hk]
 rw[e,sm,if_pos ⟨h1,h2⟩,if_pos h3]
theorem Zfm(s:Int)(Z:List Int)(k:Nat)(hk:k<Z.length)(h1:0≤Z.getD k 0)(h2:Z.getD k 0≤1000000000)(h3:1000000000<s+Z.getD k 0) :
  sm s (Z.drop k)=(0,12):=by
 have e:Z.drop k=Z.getD k 0 :: Z.drop (k+1):=by
  rw[List.drop_eq_getElem_cons hk];simp[List.getD,hk]
 rw[e,sm,if_pos ⟨h1,h2⟩,if_neg (by omega)]
theorem Zce(s:Int)(Z:List Int)(k:Nat)(hk:k<Z.length)(h:Z.getD k 0<0∨1000000000<Z.getD k 0) :
  sm s (Z.drop k)=(0,3):=by
 have e:Z.drop k=Z.getD k 0 :: Z.drop (k+1):=by
  rw[List.drop_eq_getElem_cons hk];simp[List.getD,hk]
 rw[e,sm,if_neg (by omega)]
theorem Zhx(s:Int)(Z:List Int)(k:Nat)(hk:Z.length≤k):sm s (Z.drop k)=(s,0):=by
 rw[List.drop_of_length_le hk];rfl
def Mm(t:TxD):Bool:=if t.2.1.length=0 then decide (1≤t.1) && decide (t.1≤1000) else decide (t.1=0)
def Yn(l:List Z0):Int:=if Yk l=0 then (sm 0 (l.map (·.1))).2 else Yk l
def Zx(t:TxD):Int:=
 if 6<t.2.1.length∨6<t.2.2.length then 2 else if t.2.2.length=0 then 4 else if Mm t=false then 3
 else if Yj [] t.2.1≠0 then Yj [] t.2.1 else Yn t.2.2
theorem Fr(L:List InD)(k:Nat)(hk:k<L.length)(h:X3 (L.take k) L[k]=0):Yj (L.take k) (L.drop k)=Yj (L.take (k+1)) (L.drop (k+1)):=by
 rw[List.drop_eq_getElem_cons hk,Yj,if_pos h,List.take_succ_eq_append_getElem hk]
theorem Fq(L:List InD)(k:Nat)(hk:k<L.length)(h:X3 (L.take k) L[k]≠0):Yj (L.take k) (L.drop k)=X3 (L.take k) L[k]:=by
 rw[List.drop_eq_getElem_cons hk,Yj,if_neg h]
theorem Bt(L:List InD)(k:Nat)(hk:L.length≤k):Yj (L.take k) (L.drop k)=0:=by
 rw[List.drop_of_length_le hk];rfl
theorem Mx(L:List Z0)(k:Nat)(hk:k<L.length)(h:Y6 L[k]=0):Yk (L.drop k)=Yk (L.drop (k+1)):=by
 rw[List.drop_eq_getElem_cons hk,Yk,if_pos h]
theorem Mw(L:List Z0)(k:Nat)(hk:k<L.length)(h:Y6 L[k]≠0):Yk (L.drop k)=Y6 L[k]:=by
 rw[List.drop_eq_getElem_cons hk,Yk,if_neg h]
theorem Fp(L:List Z0)(k:Nat)(hk:L.length≤k):Yk (L.drop k)=0:=by
 rw[List.drop_of_length_le hk];rfl
theorem Zbf{pre:List InD}{x:InD}(h:Pm x=false):X3 pre x=3:=by unfold X3;rw[if_pos h]
theorem Bu{pre:List InD}{x:InD}(h:Pm x=true)(hk:chk x.2.2≠0):X3 pre x=chk x.2.2:=by
 unfold X3;rw[if_neg (by rw[h];decide),if_pos hk]
theorem My{pre:List InD}{x:InD}(h:Pm x=true)(hk:chk x.2.2=0)(ht:pre.any (Vd x)=true):X3 pre x=6:=by
 unfold X3;rw[if_neg (by rw[h];decide),if_neg (by rw[hk];decide),if_pos ht]
theorem Zbg{pre:List InD}{x:InD}(h:Pm x=true)(hk:chk x.2.2=0)(ht:pre.any (Vd x)=false):X3 pre x=0:=by
 unfold X3;rw[if_neg (by rw[h];decide),if_neg (by rw[hk];decide),if_neg (by rw[ht];decide)]
def Vh(t u:TxD):Bool:=decide (t.1=u.1) && (decide (t.2.1=u.2.1) && decide (t.2.2=u.2.2))
theorem Er(t u:TxD):Vh t u=true↔t=u:=by
 obtain⟨a,b,c⟩:=t
 obtain⟨d,e,f⟩:=u
 unfold Vh
 simp only[Bool.and_eq_true,decide_eq_true_eq,Prod.mk.injEq]
theorem F7(t:TxD):Vh t t=true:=(Er t t).2 rfl
theorem Zb{p:Prop}(h:p):Hid p:=h
theorem Za{p:Prop}(h:Hid p):p:=h
theorem Xu(n lo hi:Int)(w:World)(h1:lo≤n)(h2:n≤hi) :
  Calls Tryz.prog 103 #[.int .i64 n,.int .i64 lo,.int .i64 hi] w fun e w'=>e = .returned (.bool true)∧w=w':=by
 go_enter Tryz.func103,Tryz.ntmps103
 go_wp2
 go_ret
 exact⟨rfl,rfl⟩
theorem Jl(n lo hi:Int)(w:World)(h:n<lo∨hi<n) :
  Calls Tryz.prog 103 #[.int .i64 n,.int .i64 lo,.int .i64 hi] w fun e w'=>e = .returned (.bool false)∧w=w':=by
 by_cases h1:n<lo
 ·go_enter Tryz.func103,Tryz.ntmps103
  go_wp2
  go_ret
  exact⟨rfl,rfl⟩
 ·have h2:hi<n:=by omega
  have h3:lo≤n:=by omega
  have h4:decide (n≤hi)=false:=by simp;omega
  clear h
  go_enter Tryz.func103,Tryz.ntmps103
  go_wp2
  go_ret
  exact⟨rfl,rfl⟩
theorem Yi(n lo hi:Int)(b:Bool)(w:World)(hb:b=(decide (lo≤n) && decide (n≤hi))) :
  Calls Tryz.prog 103 #[.int .i64 n,.int .i64 lo,.int .i64 hi] w fun e w'=>e = .returned (.bool b)∧w=w':=by
 subst hb
 by_cases h1:lo≤n
 ·by_cases h2:n≤hi
  ·simpa[h1,h2] using Xu n lo hi w h1 h2
  ·simpa[h1,h2] using Jl n lo hi w (by omega)
 ·simpa[h1] using Jl n lo hi w (by omega)
theorem Tk(n:Int)(b:Bool)(w:World)(hb:b=fit n) :
  Calls Tryz.prog 302 #[.int .i64 n] w fun e w'=>e = .returned (.bool b)∧w=w':=by
 have HB:=Zb hb
 clear hb
 go_enter Tryz.func302,Tryz.ntmps302
 go_wp2_with (go_at_call 103;refine (Yi _ _ _ b _ (Za HB)).mono ?_;rintro e w' ⟨rfl,rfl⟩)
 go_ret
 exact⟨rfl,rfl⟩
theorem Nx{a b:Int}(h:a=b):Ending.returned (.int .i64 a) = .returned (.int .i64 b):=by rw[h]
theorem Hw(k n:Int)(w:World) :
  Calls Tryz.prog 277 #[.agg #[.int .i64 k,.int .i64 n]] w fun e w'=>e = .returned (.int .i64 (Wv (k,n)))∧Below w.heap.size w w':=by
 have hb:∀ o,Below w.heap.size w (w.alloc o):=fun o=>(Below.refl _ _).alloc (Nat.le_refl _) _
 have HB:=Zb hb
 clear hb
 by_cases h1:k<1∨13<k
 ·have e:Wv (k,n)=4:=by simp[Wv,h1]
  rw[e]
  clear e
  go_enter Tryz.func277,Tryz.ntmps277
  go_wp2_with (go_at_call 103;refine (Jl _ _ _ _ h1).mono ?_;rintro e w' ⟨rfl,rfl⟩)
  go_ret
  exact⟨rfl,(Za HB) _⟩
 ·have g1:1≤k:=by omega
  have g2:k≤13:=by omega
  by_cases h2:k=1
  ·subst h2
   clear h1
   cases h3:fit n with
   | false=>
    have e:Wv (1,n)=3:=by simp[Wv,h3]
    rw[e]
    have H3:=Zb h3
    clear e h3
    go_enter Tryz.func277,Tryz.ntmps277
    go_wp2_with (first|(go_at_call 103;refine (Xu _ _ _ _ (by decide) (by decide)).mono ?_;rintro e w' ⟨rfl,rfl⟩)|(go_at_call 302;refine (Tk _ false _ (Za H3).symm).mono ?_;rintro e w' ⟨rfl,rfl⟩))
    go_ret
    exact⟨rfl,(Za HB) _⟩
   | true=>
    have e:Wv (1,n)=0:=by simp[Wv,h3]
    rw[e]
    have H3:=Zb h3
    clear e h3
    go_enter Tryz.func277,Tryz.ntmps277
    go_wp2_with (first|(go_at_call 103;refine (Xu _ _ _ _ (by decide) (by decide)).mono ?_;rintro e w' ⟨rfl,rfl⟩)|(go_at_call 302;refine (Tk _ true _ (Za H3).symm).mono ?_;rintro e w' ⟨rfl,rfl⟩))
    go_ret
    exact⟨rfl,(Za HB) _⟩
  ·have g3:(k != 1)=true:=by simp[h2]
   by_cases h4:n=0
   ·subst h4
    have h3:fit 0=true:=by decide
    have e:Wv (k,0)=0:=by simp[Wv,h3,h1]
    rw[e]
    have H3:=Zb h3
    clear e h3 h1 h2
    go_enter Tryz.func277,Tryz.ntmps277
    go_wp2_with (first|(go_at_call 103;refine (Xu _ _ _ _ g1 g2).mono ?_;rintro e w' ⟨rfl,rfl⟩)|(go_at_call 302;refine (Tk _ true _ (Za H3).symm).mono ?_;rintro e w' ⟨rfl,rfl⟩))
    go_ret
    exact⟨rfl,(Za HB) _⟩
   ·have g4:(n != 0)=true:=by simp[h4]
    have e:Wv (k,n)=3:=by simp[Wv,h1,h2,h4]
    rw[e]
    clear e h1 h2 h4
    go_enter Tryz.func277,Tryz.ntmps277
    go_wp2_with (go_at_call 103;refine (Xu _ _ _ _ g1 g2).mono ?_;rintro e w' ⟨rfl,rfl⟩)
    go_ret
    exact⟨rfl,(Za HB) _⟩
def OpsAt(w:World)(a:Option Addr)(len:Nat)(l:List (Int×Int)):Prop:=
 l.length=len∧(0<len→∃ b off,a=some ⟨b,off,none⟩∧∀ i,i<len→w.cell? ⟨b,off+i*2,none⟩=some (.int .i64 (l.getD i (0,0)).1)∧w.cell? ⟨b,off+i*2+1,none⟩=some (.int .i64 (l.getD i (0,0)).2))
theorem OpsAt.later{w w':World}{a:Option Addr}{len:Nat}{l:List (Int×Int)}(h:OpsAt w a len l)(hb:Below w.heap.size w w'):OpsAt w' a len l:=by
 obtain⟨hz,hc⟩:=h
 refine⟨hz,fun h=>?_⟩
 obtain⟨b,off,rfl,hcell⟩:=hc h
 refine⟨b,off,rfl,fun i hi=>?_⟩
 obtain⟨h1,h2⟩:=hcell i hi
 refine⟨?_,?_⟩
 ·rw[hb.cell (p:=⟨b,off+i*2,none⟩) (World.block_lt_of_cell? _ _ h1)];exact h1
 ·rw[hb.cell (p:=⟨b,off+i*2+1,none⟩) (World.block_lt_of_cell? _ _ h2)];exact h2
theorem Bw(a:Option Addr)(len cap:Nat)(w:World)(h:16<len) :
  Calls Tryz.prog 249 #[.slice a len cap] w fun e w'=>e = .returned (.int .i64 2)∧w=w':=by
 go_enter Tryz.func249,Tryz.ntmps249
 go_wp2
 go_ret
 exact⟨rfl,rfl⟩
theorem Hu(a:Option Addr)(cap:Nat)(w:World) :
  Calls Tryz.prog 249 #[.slice a 0 cap] w fun e w'=>e = .returned (.int .i64 0)∧w=w':=by
 go_enter Tryz.func249,Tryz.ntmps249
 go_wp2
 refine wp_loop_rounds 1 ?_
 rw[rounds_succ]
 go_wp2
 go_ret
 exact⟨rfl,rfl⟩
theorem Bv(b off len cap:Nat)(l:List (Int×Int))(w:World)(h0:len≤16)(hz:l.length=len)
  (hc:∀ i,i<len→w.cell? ⟨b,off+i*2,none⟩=some (.int .i64 (l.getD i (0,0)).1)∧w.cell? ⟨b,off+i*2+1,none⟩=some (.int .i64 (l.getD i (0,0)).2)) (hl:b<w.heap.size) :
  Calls Tryz.prog 249 #[.slice (some ⟨b,off,none⟩) len cap] w fun e w'=>e = .returned (.int .i64 (Qx l))∧Below w.heap.size w w':=by
 have HC:=Zb hc
 have HZ:=Zb hz
 clear hc hz
 go_enter Tryz.func249,Tryz.ntmps249
 go_wp2
 go_loopw [11] (fun i wr=>∃ k:Nat,k≤len∧i = .int .i64 k∧Qx (l.take k)=0∧Below w.heap.size w wr) (fun i _=>len - (intOf i).toNat)
 case atStart=>exact⟨0,Nat.zero_le _,rfl,rfl,Below.refl _ _⟩
 case round=>
  obtain⟨k,hk,rfl,hok,hb⟩:=hrel
  have HOK:=Zb hok
  have HB:=Zb hb
  clear hok
  by_cases hlt:k<len
  ·obtain⟨c1,c2⟩:=(Za HC) k hlt
   rw[←hb.cell (p:=⟨b,off+k*2,none⟩) hl] at c1
   rw[←hb.cell (p:=⟨b,off+k*2+1,none⟩) hl] at c2
   obtain⟨q,hq⟩:∃ q,q=l.getD k (0,0):=⟨_,rfl⟩
   rw[←hq] at c1 c2
   have hlk:k<l.length:=by rw[Za HZ];exact hlt
   have hq':q=l[k]:=by rw[hq];simp[hlk]
   have HQ:=Zb hq'
   clear hb hq hq'
   obtain⟨q1,q2⟩:=q
   have CO:=Zb (Hw q1 q2)
   obtain⟨x,hx⟩:∃ x,x=Wv (q1,q2):=⟨_,rfl⟩
   rw[←hx] at CO
   have HX:=Zb hx
   clear hx
   by_cases hx0:x=0
   ·subst hx0
    go_wp2_with fail
    refine ((Za CO) _).mono ?_
    rintro e w1 ⟨rfl,hb1⟩
    have hb2:=(Za HB).trans (((Below.refl wr.heap.size wr).alloc (Nat.le_refl _) _).trans (hb1.mono (by simp)) |>.mono (Za HB).size)
    have HB2:=Zb hb2
    clear hb1 hb2
    go_wp2
    go_roundw
    case rel=>
     refine⟨k+1,by omega,by go_num,?_,Za HB2⟩
     rw[Zbd l k hlk (Za HOK),←Za HQ,←Za HX];rfl
    case measure=>simp[intOf];omega
   ·have hx1:(x != 0)=true:=by simp[hx0]
    have HX0:=Zb hx0
    clear hx0
    go_wp2_with fail
    refine ((Za CO) _).mono ?_
    rintro e w1 ⟨rfl,hb1⟩
    have hb2:=(Za HB).trans (((Below.refl wr.heap.size wr).alloc (Nat.le_refl _) _).trans (hb1.mono (by simp)) |>.mono (Za HB).size)
    have HB2:=Zb hb2
    clear hb1 hb2
    go_wp2
    go_ret
    refine⟨Nx ?_,Za HB2⟩
    rw[Zbe l k hlk (Za HOK) (by rw[←Za HQ,←Za HX];exact Za HX0),←Za HQ,←Za HX]
  ·clear hb
   go_wp2
   go_ret
   have e:k=len:=by omega
   subst e
   refine⟨Nx ?_,Za HB⟩
   have h1:=Za HOK
   rw[←Za HZ,List.take_length] at h1
   exact h1.symm
theorem Vs(a:Option Addr)(len cap:Nat)(l:List (Int×Int))(w:World)(h:OpsAt w a len l) :
  Calls Tryz.prog 249 #[.slice a len cap] w fun e w'=>e = .returned (.int .i64 (chk l))∧Below w.heap.size w w':=by
 obtain⟨hz,hc⟩:=h
 unfold chk
 rw[hz]
 by_cases h1:16<len
 ·rw[if_pos h1]
  exact (Bw a len cap w h1).mono fun e w' ⟨x,y⟩=>⟨x,y ▸ Below.refl _ _⟩
 ·rw[if_neg h1]
  by_cases h2:len=0
  ·subst h2
   have e:l=[]:=List.length_eq_zero_iff.1 hz
   subst e
   exact (Hu a cap w).mono fun e w' ⟨x,y⟩=>⟨x,y ▸ Below.refl _ _⟩
  ·obtain⟨b,off,rfl,hcell⟩:=hc (by omega)
   exact Bv b off len cap l w (by omega) hz hcell (World.block_lt_of_cell? _ _ (hcell 0 (by omega)).1)
def RowAt(w:World)(a:Option Addr)(len:Nat)(Z:List Int):Prop:=
 Z.length=len∧len≤maxLen∧(0<len→∃ b off,a=some ⟨b,off,none⟩∧∀ i,i<len→w.cell? ⟨b,off+i,none⟩=some (.int .i64 (Z.getD i 0)))
theorem RowAt.later{w w':World}{a:Option Addr}{len:Nat}{Z:List Int}(h:RowAt w a len Z)(hb:Below w.heap.size w w'):RowAt w' a len Z:=by
 obtain⟨hz,hm,hc⟩:=h
 refine⟨hz,hm,fun h=>?_⟩
 obtain⟨b,off,rfl,hcell⟩:=hc h
 refine⟨b,off,rfl,fun i hi=>?_⟩
 have h1:=hcell i hi
 rw[hb.cell (p:=⟨b,off+i,none⟩) (World.block_lt_of_cell? _ _ h1)];exact h1
theorem RowAt.nil(w:World)(a:Option Addr):RowAt w a 0 []:=⟨rfl,Nat.zero_le _,fun h=>absurd h (by omega)⟩
def RowsAt{α : Type}(R:World→Nat→Nat → α→Prop)(sz:Nat)(w:World)(a:Option Addr)(len:Nat)(l:List α):Prop:=
 l.length=len∧(0<len→∃ b off,a=some ⟨b,off,none⟩∧b<w.heap.size∧∀ i (h:i<l.length),R w b (off+i*sz) l[i])
def L5{α : Type}(R:World→Nat→Nat → α→Prop):Prop:=∀ (w w':World) (b o:Nat) (x : α),Below w.heap.size w w'→R w b o x→R w' b o x
theorem RowsAt.later{α : Type}{R:World→Nat→Nat → α→Prop}(hR:L5 R){sz:Nat}{w w':World}{a:Option Addr}{len:Nat}{l:List α}(h:RowsAt R sz w a len l)(hb:Below w.heap.size w w'):RowsAt R sz w' a len l:=by
 refine⟨h.1,fun h0=>?_⟩
 obtain⟨b,off,e,hl,hc⟩:=h.2 h0
 exact⟨b,off,e,Nat.lt_of_lt_of_le hl hb.size,fun i hi=>hR w w' b _ _ hb (hc i hi)⟩
theorem RowsAt.nil{α : Type}{R:World→Nat→Nat → α→Prop}{sz:Nat}(w:World)(a:Option Addr):RowsAt R sz w a 0 []:=⟨rfl,fun h=>absurd h (by omega)⟩
theorem Ze{w w':World}{p:Addr}{v:Value}(hb:Below w.heap.size w w')(h:w.cell? p=some v):w'.cell? p=some v:=by
 rw[hb.cell (p:=p) (World.block_lt_of_cell? _ _ h)];exact h
def SlOk(a:Option Addr)(n c:Nat):Prop:=n≤c∧c≤maxLen∧(a=none→n=0∧c=0)
theorem SlOk.len{a:Option Addr}{n c:Nat}(h:SlOk a n c):n≤maxLen:=Nat.le_trans h.1 h.2.1
def InAt(w:World)(b o:Nat)(x:InD):Prop:=
 w.cell? ⟨b,o,none⟩=some (.int .i64 x.1)∧w.cell? ⟨b,o+1,none⟩=some (.int .i64 x.2.1)∧∃ a n c,w.cell? ⟨b,o+2,none⟩=some (.slice a n c)∧OpsAt w a n x.2.2∧SlOk a n c
def OutAt(w:World)(b o:Nat)(x:Z0):Prop:=
 w.cell? ⟨b,o,none⟩=some (.int .i64 x.1)∧∃ a n c,w.cell? ⟨b,o+1,none⟩=some (.slice a n c)∧OpsAt w a n x.2∧SlOk a n c
theorem InAt.kept:L5 InAt:=fun _ _ _ _ _ hb h=>by
 obtain⟨h1,h2,a,n,c,h3,h4,h5⟩:=h
 exact⟨Ze hb h1,Ze hb h2,a,n,c,Ze hb h3,h4.later hb,h5⟩
theorem OutAt.kept:L5 OutAt:=fun _ _ _ _ _ hb h=>by
 obtain⟨h1,a,n,c,h3,h4,h5⟩:=h
 exact⟨Ze hb h1,a,n,c,Ze hb h3,h4.later hb,h5⟩
def InsAt(w:World)(a:Option Addr)(len:Nat)(l:List InD):Prop:=RowsAt InAt 3 w a len l
def OutsAt(w:World)(a:Option Addr)(len:Nat)(l:List Z0):Prop:=RowsAt OutAt 2 w a len l
theorem InsAt.later{w w':World}{a:Option Addr}{len:Nat}{l:List InD}(h:InsAt w a len l)(hb:Below w.heap.size w w'):InsAt w' a len l:=RowsAt.later InAt.kept h hb
theorem OutsAt.later{w w':World}{a:Option Addr}{len:Nat}{l:List Z0}(h:OutsAt w a len l)(hb:Below w.heap.size w w'):OutsAt w' a len l:=RowsAt.later OutAt.kept h hb
theorem RowsAt.take{α : Type}{R:World→Nat→Nat → α→Prop}{sz:Nat}{w:World}{a:Option Addr}{len:Nat}{l:List α}(h:RowsAt R sz w a len l)(k:Nat)(hk:k≤len):RowsAt R sz w a k (l.take k):=by
 have hl:=h.1
 refine⟨by rw[List.length_take];omega,fun h0=>?_⟩
 obtain⟨b,off,e,hb,hc⟩:=h.2 (by omega)
 refine⟨b,off,e,hb,fun i hi=>?_⟩
 rw[List.length_take] at hi
 rw[List.getElem_take]
 exact hc i (by omega)
theorem Zf{w w1 w2:World}(h1:Below w.heap.size w w1)(h2:Below w1.heap.size w1 w2):Below w.heap.size w w2:=h1.trans (h2.mono h1.size)
theorem Zi(w:World)(o:Obj):Below w.heap.size w (w.alloc o):=(Below.refl _ _).alloc (Nat.le_refl _) _
theorem Ru(n:Int)(w:World)(h1:0≤n)(h2:n≤1000000000) :
  Calls Tryz.prog 174 #[.int .i64 n] w fun e w'=>e = .returned (.int .i64 0)∧w=w':=by
 go_enter Tryz.func174,Tryz.ntmps174
 go_wp2_with (go_at_call 103;refine (Xu _ _ _ _ h1 h2).mono ?_;rintro e w' ⟨rfl,rfl⟩)
 go_ret
 exact⟨rfl,rfl⟩
theorem L3(n:Int)(w:World)(h:n<0∨1000000000<n) :
  Calls Tryz.prog 174 #[.int .i64 n] w fun e w'=>e = .returned (.int .i64 3)∧w=w':=by
 go_enter Tryz.func174,Tryz.ntmps174
 go_wp2_with (go_at_call 103;refine (Jl _ _ _ _ h).mono ?_;rintro e w' ⟨rfl,rfl⟩)
 go_ret
 exact⟨rfl,rfl⟩
theorem Cf(a:Option Addr)(len cap:Nat)(Z:List Int)(w:World)(h:RowAt w a len Z) :
  Calls Tryz.prog 109 #[.slice a len cap] w fun e w'=>e = .returned (.tuple #[.int .i64 (sm 0 Z).1,.int .i64 (sm 0 Z).2])∧w=w':=by
 obtain⟨hz,hm,hc⟩:=h
 unfold maxLen at hm
 rcases Nat.eq_zero_or_pos len with h0|h0
 ·subst h0
  have HZ:Hid (Z=[]):=List.eq_nil_of_length_eq_zero hz
  clear hz hc hm
  go_enter Tryz.func109,Tryz.ntmps109
  go_wp2
  refine wp_loop_rounds 1 ?_
  rw[rounds_succ]
  go_wp2
  go_ret2
  rw[HZ.out]
  exact⟨rfl,rfl⟩
 ·obtain⟨b,off,rfl,hcell⟩:=hc h0
  have HC:Hid (∀ i,i<len→w.cell? ⟨b,off+i,none⟩=some (.int .i64 (Z.getD i 0))):=hcell
  clear hc hcell
  go_enter Tryz.func109,Tryz.ntmps109
  go_wp2
  go_loop [4,10] (fun s i=>∃ (k:Nat) (x:Int),k≤len∧i = .int .i64 k∧s = .int .i64 x∧0≤x∧x≤1000000000∧Hid (sm 0 Z=sm x (Z.drop k))) (fun _ i=>len - (intOf i).toNat)
  case atStart=>exact⟨0,0,Nat.zero_le _,rfl,rfl,by decide,by decide,by exact rfl⟩
  case round=>
   obtain⟨k,x,hk,rfl,rfl,hx0,hx1,HS⟩:=hrel
   by_cases hlt:k<len
   ·have hck:=HC.out k hlt
    generalize hv:Z.getD k 0=v at hck
    have HV:Hid (Z.getD k 0=v):=hv
    clear hv
    by_cases hr:v<0∨1000000000<v
    ·go_wp2_with (go_at_call 174;refine (L3 _ _ hr).mono ?_;rintro e w' ⟨rfl,rfl⟩)
     go_ret2
     rw[HS.out,Zce x Z k (by omega) (by rw[HV.out];exact hr)]
     exact⟨rfl,rfl⟩
    ·have hr1:0≤v:=by omega
     have hr2:v≤1000000000:=by omega
     clear hr
     by_cases hf:1000000000<x+v
     ·go_wp2_with fail
      refine (Ru _ _ hr1 hr2).mono ?_
      rintro e w' ⟨rfl,rfl⟩
      go_wp2_with fail
      refine (L3 _ _ (.inr hf)).mono ?_
      rintro e w' ⟨rfl,rfl⟩
      go_wp2
      go_ret2
      rw[HS.out,Zfm x Z k (by omega) (by rw[HV.out];exact hr1) (by rw[HV.out];exact hr2) (by rw[HV.out];exact hf)]
      exact⟨rfl,rfl⟩
     ·have hf2:x+v≤1000000000:=by omega
      have hf1:0≤x+v:=by omega
      clear hf
      go_wp2_with fail
      refine (Ru _ _ hr1 hr2).mono ?_
      rintro e w' ⟨rfl,rfl⟩
      go_wp2_with fail
      refine (Ru _ _ hf1 hf2).mono ?_
      rintro e w' ⟨rfl,rfl⟩
      go_wp2
      go_round
      case rel=>
       refine⟨k+1,x+v,by omega,by go_num,rfl,by omega,by omega,?_⟩
       show sm 0 Z=_
       rw[HS.out,Zfl x Z k (by omega) (by rw[HV.out];exact hr1) (by rw[HV.out];exact hr2) (by rw[HV.out];exact hf2),HV.out]
      case measure=>simp[intOf];omega
   ·go_wp2
    go_ret2
    rw[HS.out,Zhx x Z k (by omega)]
    exact⟨rfl,rfl⟩
theorem Ql(x y:Int)(b:Bool)(w:World)(hb:((decide (1≤x) && decide (x≤120)) && (decide (0≤y) && decide (y≤5)))=b) :
  Calls Tryz.prog 248 #[.agg #[.int .i64 x,.int .i64 y]] w fun e w'=>e = .returned (.bool b)∧Below w.heap.size w w':=by
 have HB:=Zb (Zi w (.cells #[.int .i64 x,.int .i64 y] 117))
 by_cases h1:1≤x∧x≤120
 ·have e1:(decide (1≤x) && decide (x≤120))=true:=by simp[h1.1,h1.2]
  obtain⟨c,hc⟩:∃ c,(decide (0≤y) && decide (y≤5))=c:=⟨_,rfl⟩
  rw[e1,hc,Bool.true_and] at hb
  subst hb
  have C1:Hid (∀ w,Calls Tryz.prog 103 #[.int .i64 x,.int .i64 1,.int .i64 120] w fun e w'=>e = .returned (.bool true)∧w=w'):=fun w=>Yi x 1 120 true w e1.symm
  have C2:Hid (∀ w,Calls Tryz.prog 103 #[.int .i64 y,.int .i64 0,.int .i64 5] w fun e w'=>e = .returned (.bool c)∧w=w'):=fun w=>Yi y 0 5 c w hc.symm
  clear e1 hc h1
  go_enter Tryz.func248,Tryz.ntmps248
  go_wp2_with fail
  refine ((Za C1) _).mono ?_
  rintro e w' ⟨rfl,rfl⟩
  go_wp2_with fail
  refine ((Za C2) _).mono ?_
  rintro e w' ⟨rfl,rfl⟩
  go_wp2
  go_ret
  exact⟨rfl,Za HB⟩
 ·have e1:(decide (1≤x) && decide (x≤120))=false:=by
   rw[Bool.and_eq_false_iff,decide_eq_false_iff_not,decide_eq_false_iff_not];omega
  rw[e1,Bool.false_and] at hb
  subst hb
  have C1:Hid (∀ w,Calls Tryz.prog 103 #[.int .i64 x,.int .i64 1,.int .i64 120] w fun e w'=>e = .returned (.bool false)∧w=w'):=fun w=>Yi x 1 120 false w e1.symm
  clear e1 h1
  go_enter Tryz.func248,Tryz.ntmps248
  go_wp2_with fail
  refine ((Za C1) _).mono ?_
  rintro e w' ⟨rfl,rfl⟩
  go_wp2
  go_ret
  exact⟨rfl,Za HB⟩
theorem Zcg(x y x' y':Int)(a:Option Addr)(n c:Nat)(p:Nat)(b:Bool)(w:World)(h1:w.cell? ⟨p,0,none⟩=some (.int .i64 x'))(h2:w.cell? ⟨p,1,none⟩=some (.int .i64 y'))(hp:p<w.heap.size)
  (hb:(decide (x=x') && decide (y=y'))=b) :
  Calls Tryz.prog 256 #[.agg #[.int .i64 x,.int .i64 y,.slice a n c],.pointer (some ⟨p,0,none⟩)] w fun e w'=>e = .returned (.bool b)∧Below w.heap.size w w':=by
 subst hb
 have HB:=Zb (Zi w (.cells #[.int .i64 x,.int .i64 y,.slice a n c] 119))
 by_cases hx:x=x'
 ·subst hx
  by_cases hy:y=y'
  ·subst hy
   rw[decide_eq_true rfl,decide_eq_true rfl]
   go_enter Tryz.func256,Tryz.ntmps256
   go_wp2
   go_ret
   exact⟨rfl,Za HB⟩
  ·rw[decide_eq_true rfl,decide_eq_false hy]
   go_enter Tryz.func256,Tryz.ntmps256
   go_wp2
   go_ret
   exact⟨rfl,Za HB⟩
 ·rw[decide_eq_false hx,Bool.false_and]
  go_enter Tryz.func256,Tryz.ntmps256
  go_wp2
  go_ret
  exact⟨rfl,Za HB⟩
def Rh(x:InD):List InD→Nat→Int
 | [],_=>-1
 | y :: r,k=>if Vd x y then k else Rh x r (k+1)
theorem Cp(x:InD):∀ (l:List InD) (k:Nat),decide (0≤Rh x l k)=l.any (Vd x)
 | [],_=>rfl
 | y :: r,k=>by
  unfold Rh
  by_cases h:Vd x y=true
  ·rw[if_pos h];simp[h]
  ·rw[if_neg h,Cp x r (k+1)];simp[h]
theorem Ew(x:InD)(l:List InD)(k:Nat)(h:k<l.length):Rh x (l.drop k) k=if Vd x l[k] then (k:Int) else Rh x (l.drop (k+1)) (k+1):=by
 rw[List.drop_eq_getElem_cons h];rfl
theorem Mi(b off n c:Nat)(l:List InD)(x:InD)(p:Nat)(w:World)(hz:l.length=n)(hn:n≤6)(hc:∀ i (h:i<l.length),InAt w b (off+i*3) l[i])
  (h1:w.cell? ⟨p,0,none⟩=some (.int .i64 x.1)) (h2:w.cell? ⟨p,1,none⟩=some (.int .i64 x.2.1)) :
  Calls Tryz.prog 285 #[.slice (some ⟨b,off,none⟩) n c,.func (.func 256) #[] #[.pointer (some ⟨p,0,none⟩)]] w fun e w'=>e = .returned (.int .i64 (Rh x l 0))∧Below w.heap.size w w':=by
 have HC:=Zb hc
 have HZ:=Zb hz
 have H1:=Zb h1
 have H2:=Zb h2
 clear hc hz h1 h2
 go_enter Tryz.func285,Tryz.ntmps285
 go_wp2
 go_loopw [5,8] (fun _ i wr=>∃ k:Nat,k≤n∧i = .int .i64 k∧Hid (Rh x l 0=Rh x (l.drop k) k)∧Below w.heap.size w wr) (fun _ i _=>n - (intOf i).toNat)
 case atStart=>exact⟨0,Nat.zero_le _,rfl,rfl,Below.refl _ _⟩
 case round=>
  obtain⟨k,hk,rfl,A,hb⟩:=hrel
  have HB:=Zb hb
  by_cases hlt:k<n
  ·have hlk:k<l.length:=by rw[Za HZ];exact hlt
   have hin:=InAt.kept _ _ _ _ _ hb ((Za HC) k hlk)
   have S:=Zb (Ew x l k hlk)
   obtain⟨y,hy⟩:∃ y,l[k]=y:=⟨_,rfl⟩
   rw[hy] at hin S
   obtain⟨g1,g2,ka,kn,kc,g3,_,_⟩:=hin
   have C1:Hid (∀ q,Vd x y=q→Calls Tryz.prog 256 #[.agg #[.int .i64 y.1,.int .i64 y.2.1,.slice ka kn kc],.pointer (some ⟨p,0,none⟩)] wr fun e w'=>e = .returned (.bool q)∧Below wr.heap.size wr w'):=
    fun q hq=>Zcg y.1 y.2.1 x.1 x.2.1 ka kn kc p q wr (Ze hb (Za H1)) (Ze hb (Za H2)) (World.block_lt_of_cell? _ _ (Ze hb (Za H1))) hq
   by_cases hs:Vd x y=true
   ·have S2:Hid (Rh x l 0=k):=by show _=_;rw[Za A,Za S,if_pos hs]
    have C2:=Zb ((Za C1) true hs)
    clear S A hs C1 hb hy
    go_wp2_with fail
    refine (Za C2).mono ?_
    rintro e w' ⟨rfl,hb'⟩
    have HB':=Zb (Zf (Za HB) hb')
    clear hb'
    go_wp2
    go_ret
    exact⟨by rw[Za S2];rfl,Za HB'⟩
   ·have hs':Vd x y=false:=by simpa using hs
    have S2:Hid (Rh x l 0=Rh x (l.drop (k+1)) (k+1)):=by show _=_;rw[Za A,Za S,if_neg hs]
    have C2:=Zb ((Za C1) false hs')
    clear S A hs hs' C1 hb hy
    go_wp2_with fail
    refine (Za C2).mono ?_
    rintro e w' ⟨rfl,hb'⟩
    have HB':=Zb (Zf (Za HB) hb')
    clear hb'
    go_wp2
    go_roundw
    case rel=>exact⟨k+1,by omega,by go_num,S2,Za HB'⟩
    case measure=>simp[intOf];omega
  ·have S2:Hid (Rh x l 0 = -1):=by
    show _=_
    rw[Za A,List.drop_of_length_le (by rw[Za HZ];omega)];rfl
   clear A hb
   go_wp2
   go_ret
   exact⟨by rw[Za S2];rfl,Za HB⟩
theorem Mj(a:Option Addr)(c:Nat)(v:Value)(w:World) :
  Calls Tryz.prog 285 #[.slice a 0 c,v] w fun e w'=>e = .returned (.int .i64 (-1))∧w=w':=by
 go_enter Tryz.func285,Tryz.ntmps285
 go_wp2
 refine wp_loop_rounds 1 ?_
 rw[rounds_succ]
 go_wp2
 go_ret
 exact⟨rfl,rfl⟩
theorem Dr(a:Option Addr)(n c:Nat)(l:List InD)(x:InD)(p:Nat)(w:World)(hn:n≤6)(h:InsAt w a n l)
  (h1:w.cell? ⟨p,0,none⟩=some (.int .i64 x.1)) (h2:w.cell? ⟨p,1,none⟩=some (.int .i64 x.2.1)) :
  Calls Tryz.prog 285 #[.slice a n c,.func (.func 256) #[] #[.pointer (some ⟨p,0,none⟩)]] w fun e w'=>e = .returned (.int .i64 (Rh x l 0))∧Below w.heap.size w w':=by
 obtain⟨hz,hc⟩:=h
 by_cases h0:n=0
 ·subst h0
  have e:l=[]:=List.length_eq_zero_iff.1 hz
  subst e
  exact (Mj a c _ w).mono fun e w' ⟨q1,q2⟩=>⟨q1,q2 ▸ Below.refl _ _⟩
 ·obtain⟨b,off,rfl,_,hcell⟩:=hc (by omega)
  exact Mi b off n c l x p w hz hn hcell h1 h2
theorem J8(a:Option Addr)(n c:Nat)(l:List InD)(x:InD)(p:Nat)(o:Bool)(w:World)(hn:n≤6)(h:InsAt w a n l)
  (h1:w.cell? ⟨p,0,none⟩=some (.int .i64 x.1)) (h2:w.cell? ⟨p,1,none⟩=some (.int .i64 x.2.1)) (ho:l.any (Vd x)=o) :
  Calls Tryz.prog 255 #[.slice a n c,.func (.func 256) #[] #[.pointer (some ⟨p,0,none⟩)]] w fun e w'=>e = .returned (.bool o)∧Below w.heap.size w w':=by
 have E:Hid (decide (0≤Rh x l 0)=o):=by show _=_;rw[Cp,ho]
 have C:=Dr a n c l x p w hn h h1 h2
 obtain⟨z,hz⟩:∃ z,Rh x l 0=z:=⟨_,rfl⟩
 rw[hz] at C E
 have CC:=Zb C
 clear C hz h ho h1 h2
 cases o with
 | true=>
  have h0:0≤z:=of_decide_eq_true (Za E)
  go_enter Tryz.func255,Tryz.ntmps255
  go_wp2_with fail
  refine (Za CC).mono ?_
  rintro e w' ⟨rfl,hb⟩
  have HB:=Zb hb
  clear hb
  go_wp2
  go_ret
  exact⟨rfl,Za HB⟩
 | false=>
  have h2:decide (0≤z)=false:=Za E
  have h1:z<0:=by have:=of_decide_eq_false h2;omega
  go_enter Tryz.func255,Tryz.ntmps255
  go_wp2_with fail
  refine (Za CC).mono ?_
  rintro e w' ⟨rfl,hb⟩
  have HB:=Zb hb
  clear hb
  go_wp2
  go_ret
  exact⟨rfl,Za HB⟩
theorem Zix{w w1 w2:World}(h1:Below w.heap.size w w1)(h2:Below w1.heap.size w1 w2):Below w.heap.size w w2:=h1.trans (h2.mono h1.size)
structure FillV(B:Nat)(e:TypeId)(p:Nat)(f:Nat→Value)(w wr:World)(k:Nat):Prop where
 ex:∃ xs:List Value,wr.ownsRow B e 1 (.slice (some ⟨B,0,none⟩) p p) p xs∧∀ j,j<k→xs[j]? = some (f j)
 bel:Below B w wr
theorem FillV.lt{B:Nat}{e:TypeId}{p:Nat}{f:Nat→Value}{w wr:World}{k:Nat}(h:FillV B e p f w wr k):B<wr.heap.size:=by
 obtain⟨_,ho,_⟩:=h.ex
 exact (ho.lt B rfl).2
theorem FillV.old{B:Nat}{e:TypeId}{p:Nat}{f:Nat→Value}{w wr:World}{k:Nat}(h:FillV B e p f w wr k)(hk:k<p):∃ v,wr.cell? ⟨B,k,none⟩=some v:=by
 obtain⟨xs,ho,_⟩:=h.ex
 have hl:xs.length=p:=by simpa using ho.1
 exact⟨xs[k]'(by omega),by rw[ho.cellAt k (by omega)];simp[hl,hk]⟩
theorem FillV.free{B:Nat}{e:TypeId}{p:Nat}{f:Nat→Value}{w wr:World}{k:Nat}(h:FillV B e p f w wr k)(j:Nat):wr.frozen? ⟨B,j,none⟩=false:=by
 obtain⟨xs,ho,_⟩:=h.ex
 exact ho.frozenAt j
theorem FillV.step{B:Nat}{e:TypeId}{p:Nat}{f:Nat→Value}{w wr:World}{k:Nat}(h:FillV B e p f w wr k)(hk:k<p){v:Value}(hv:v=f k):FillV B e p f w (wr.setCell ⟨B,k,none⟩ v) (k+1):=by
 obtain⟨xs,ho,hf⟩:=h.ex
 have hl:xs.length=p:=by simpa using ho.1
 refine⟨⟨xs.set k v,(ho.stored k _).1,fun j hj=>?_⟩,h.bel.setCell (Nat.le_refl _) _⟩
 by_cases e:j=k
 ·subst e;simp[hl,hk,hv]
 ·rw[List.getElem?_set_ne (by omega)];exact hf j (by omega)
theorem FillV.keep{B:Nat}{e:TypeId}{p:Nat}{f:Nat→Value}{w wr w':World}{k:Nat}(h:FillV B e p f w wr k)(hb:Below wr.heap.size wr w'):FillV B e p f w w' k:=by
 obtain⟨xs,ho,hf⟩:=h.ex
 refine⟨⟨xs,?_,hf⟩,h.bel.trans (hb.mono (Nat.le_of_lt h.lt))⟩
 obtain⟨hl,h0|⟨g,cap,cur,hv,hg,hh,r⟩⟩:=ho
 ·exact⟨hl,.inl h0⟩
 ·exact⟨hl,.inr ⟨g,cap,cur,hv,hg,(hb.block g (lt_of_block hh)).trans hh,r⟩⟩
theorem FillV.cells{B:Nat}{e:TypeId}{p:Nat}{f:Nat→Value}{w wr:World}{k:Nat}(h:FillV B e p f w wr k)(hk:k≤p)(i:Nat)(hi:i<k):wr.cell? ⟨B,i,none⟩=some (f i):=by
 obtain⟨xs,ho,hf⟩:=h.ex
 rw[ho.cellAt i (by omega)]
 exact hf i hi
theorem Ut(w:World)(x y z:Value)(t:TypeId):(w.alloc (.cells #[x,y,z] t)).cell? ⟨w.heap.size,0,none⟩=some x∧(w.alloc (.cells #[x,y,z] t)).cell? ⟨w.heap.size,1,none⟩=some y∧(w.alloc (.cells #[x,y,z] t)).cell? ⟨w.heap.size,2,none⟩=some z:=
 ⟨by rw[World.cell?_alloc_at _ _ _ _ rfl];rfl,by rw[World.cell?_alloc_at _ _ _ _ rfl];rfl,by rw[World.cell?_alloc_at _ _ _ _ rfl];rfl⟩
theorem Kz(w:World)(x y:Value)(t:TypeId):(w.alloc (.cells #[x,y] t)).cell? ⟨w.heap.size,0,none⟩=some x∧(w.alloc (.cells #[x,y] t)).cell? ⟨w.heap.size,1,none⟩=some y:=
 ⟨by rw[World.cell?_alloc_at _ _ _ _ rfl];rfl,by rw[World.cell?_alloc_at _ _ _ _ rfl];rfl⟩
theorem Hm(a:Option Addr)(len cap:Nat)(l:List (Int×Int))(x:Int)(w:World)(hx:chk l=x)(h:OpsAt w a len l) :
  Calls Tryz.prog 249 #[.slice a len cap] w fun e w'=>e = .returned (.int .i64 x)∧Below w.heap.size w w':=by
 subst hx;exact Vs a len cap l w h
theorem Kt(b off n c:Nat)(L:List InD)(w:World)(hn:n≤6)(hcap:n≤c)(hz:L.length=n)(hlb:b<w.heap.size)(hc:∀ i (h:i<L.length),InAt w b (off+i*3) L[i]) :
  Calls Tryz.prog 209 #[.slice (some ⟨b,off,none⟩) n c] w fun e w'=>e = .returned (.int .i64 (Yj [] L))∧Below w.heap.size w w':=by
 have HC:=Zb hc
 have HZ:=Zb hz
 clear hc hz
 go_enter Tryz.func209,Tryz.ntmps209
 go_wp2
 go_loopw [8] (fun i wr=>∃ k:Nat,k≤n∧i = .int .i64 k∧Hid (Yj [] L=Yj (L.take k) (L.drop k))∧Below w.heap.size w wr) (fun i _=>n - (intOf i).toNat)
 case atStart=>exact⟨0,Nat.zero_le _,rfl,rfl,Below.refl _ _⟩
 case round=>
  obtain⟨k,hk,rfl,A,hb⟩:=hrel
  have HB:=Zb hb
  by_cases hlt:k<n
  ·have hlk:k<L.length:=by rw[Za HZ];exact hlt
   have hin:=InAt.kept _ _ _ _ _ hb ((Za HC) k hlk)
   have IA:Hid (InsAt wr (some ⟨b,off,none⟩) k (L.take k)):=by
    have h0:InsAt wr (some ⟨b,off,none⟩) n L:=⟨Za HZ,fun _=>⟨b,off,rfl,Nat.lt_of_lt_of_le hlb hb.size,fun i hi=>InAt.kept _ _ _ _ _ hb ((Za HC) i hi)⟩⟩
    exact RowsAt.take h0 k hk
   have ST:=Zb (Fq L k hlk)
   have SS:=Zb (Fr L k hlk)
   obtain⟨x,hx⟩:∃ x,L[k]=x:=⟨_,rfl⟩
   rw[hx] at hin ST SS
   obtain⟨x1,x2,key⟩:=x
   obtain⟨g1,g2,ka,kn,kc,g3,g4,_⟩:=hin
   simp only at g1 g2 g3 g4
   have hba:=Zi wr (.cells #[.int .i64 x1,.int .i64 x2,.slice ka kn kc] 119)
   obtain⟨n1,n2,n3⟩:=Ut wr (.int .i64 x1) (.int .i64 x2) (.slice ka kn kc) 119
   have HBA:=Zb hba
   have KO:=Zb (g4.later hba)
   have N1:=Zb n1
   have N2:=Zb n2
   have N3:=Zb n3
   clear hb hx g4 hba n1 n2 n3
   cases hp:Pm (x1,x2,key) with
   | false=>
    have C1:=Zb (Ql x1 x2 false _ hp:Calls Tryz.prog 248 _ (wr.alloc (.cells #[.int .i64 x1,.int .i64 x2,.slice ka kn kc] 119)) _)
    have R:Hid (Yj [] L=3):=by
     have e:=Zbf (pre:=L.take k) hp
     show _=_
     rw[Za A,(Za ST) (by rw[e];decide),e]
    clear A ST SS hp IA
    go_wp2_with fail
    refine (Za C1).mono ?_
    rintro e w2 ⟨rfl,hb2⟩
    have HB2:=Zb (Zf (Zf (Za HB) (Za HBA)) hb2)
    clear hb2
    go_wp2
    go_ret
    exact⟨by rw[Za R];rfl,Za HB2⟩
   | true=>
    have C1:=Zb (Ql x1 x2 true _ hp:Calls Tryz.prog 248 _ (wr.alloc (.cells #[.int .i64 x1,.int .i64 x2,.slice ka kn kc] 119)) _)
    have HP:=Zb hp
    clear hp
    by_cases hk0:chk key=0
    ·cases ht:(L.take k).any (Vd (x1,x2,key)) with
     | true=>
      have R:Hid (Yj [] L=6):=by
       have e:=My (pre:=L.take k) (Za HP) hk0 ht
       show _=_
       rw[Za A,(Za ST) (by rw[e];decide),e]
      have HT:=Zb ht
      have HK:=Zb hk0
      clear A ST SS ht hk0
      go_wp2_with fail
      refine (Za C1).mono ?_
      rintro e w2 ⟨rfl,hb2⟩
      have m3:=Ze hb2 (Za N3)
      have HB2:=Zb hb2
      have HB2':=Zb (Zf (Za HBA) hb2)
      have hs2:wr.heap.size<w2.heap.size:=World.block_lt_of_cell? _ _ m3
      clear hb2
      go_wp2_with fail
      refine (Hm ka kn kc key 0 _ (Za HK) ((Za KO).later (Za HB2))).mono ?_
      rintro e w3 ⟨rfl,hb3⟩
      have HB3:=Zb (Zf (Za HB2') hb3)
      have CT:=Zb (J8 (some ⟨b,off,none⟩) k c (L.take k) (x1,x2,key) wr.heap.size true w3 (by omega) ((Za IA).later (Za HB3)) (Ze hb3 (Ze (Za HB2) (Za N1))) (Ze hb3 (Ze (Za HB2) (Za N2))) (Za HT))
      clear hb3 m3
      go_wp2_with fail
      refine (Za CT).mono ?_
      rintro e w4 ⟨rfl,hb4⟩
      have HB4:=Zb (Zf (Zf (Za HB) (Za HB3)) hb4)
      clear hb4
      go_wp2
      go_ret
      exact⟨by rw[Za R];rfl,Za HB4⟩
     | false=>
      have R:Hid (Yj [] L=Yj (L.take (k+1)) (L.drop (k+1))):=by
       have e:=Zbg (pre:=L.take k) (Za HP) hk0 ht
       show _=_
       rw[Za A,(Za SS) e]
      have HT:=Zb ht
      have HK:=Zb hk0
      clear A ST SS ht hk0
      go_wp2_with fail
      refine (Za C1).mono ?_
      rintro e w2 ⟨rfl,hb2⟩
      have m3:=Ze hb2 (Za N3)
      have HB2:=Zb hb2
      have HB2':=Zb (Zf (Za HBA) hb2)
      have hs2:wr.heap.size<w2.heap.size:=World.block_lt_of_cell? _ _ m3
      clear hb2
      go_wp2_with fail
      refine (Hm ka kn kc key 0 _ (Za HK) ((Za KO).later (Za HB2))).mono ?_
      rintro e w3 ⟨rfl,hb3⟩
      have HB3:=Zb (Zf (Za HB2') hb3)
      have CT:=Zb (J8 (some ⟨b,off,none⟩) k c (L.take k) (x1,x2,key) wr.heap.size false w3 (by omega) ((Za IA).later (Za HB3)) (Ze hb3 (Ze (Za HB2) (Za N1))) (Ze hb3 (Ze (Za HB2) (Za N2))) (Za HT))
      clear hb3 m3
      go_wp2_with fail
      refine (Za CT).mono ?_
      rintro e w4 ⟨rfl,hb4⟩
      have HB4:=Zb (Zf (Zf (Za HB) (Za HB3)) hb4)
      clear hb4
      go_wp2
      go_roundw
      case rel=>exact⟨k+1,by omega,by go_num,R,Za HB4⟩
      case measure=>simp[intOf];omega
    ·obtain⟨z,hz⟩:∃ z,chk key=z:=⟨_,rfl⟩
     have R:Hid (Yj [] L=z):=by
      have e:=Bu (pre:=L.take k) (Za HP) hk0
      show _=_
      rw[Za A,(Za ST) (by rw[e];exact hk0),e];exact hz
     have HK:=Zb hz
     rw[hz] at hk0
     have gz:(z != 0)=true:=by simp[hk0]
     clear A ST SS hz hk0 IA
     go_wp2_with fail
     refine (Za C1).mono ?_
     rintro e w2 ⟨rfl,hb2⟩
     have m3:=Ze hb2 (Za N3)
     have HB2:=Zb hb2
     have HB2':=Zb (Zf (Za HBA) hb2)
     have hs2:wr.heap.size<w2.heap.size:=World.block_lt_of_cell? _ _ m3
     clear hb2
     go_wp2_with fail
     refine (Hm ka kn kc key z _ (Za HK) ((Za KO).later (Za HB2))).mono ?_
     rintro e w3 ⟨rfl,hb3⟩
     have HB3:=Zb (Zf (Zf (Za HB) (Za HB2')) hb3)
     clear hb3 m3
     go_wp2
     go_ret
     exact⟨by rw[Za R];rfl,Za HB3⟩
  ·have R:Hid (Yj [] L=0):=by show _=_;rw[Za A,Bt L k (by rw[Za HZ];omega)]
   clear A hb
   go_wp2
   go_ret
   exact⟨by rw[Za R];rfl,Za HB⟩
theorem Ku(a:Option Addr)(c:Nat)(w:World) :
  Calls Tryz.prog 209 #[.slice a 0 c] w fun e w'=>e = .returned (.int .i64 0)∧w=w':=by
 go_enter Tryz.func209,Tryz.ntmps209
 go_wp2
 refine wp_loop_rounds 1 ?_
 rw[rounds_succ]
 go_wp2
 go_ret
 exact⟨rfl,rfl⟩
theorem Pg(a:Option Addr)(n c:Nat)(L:List InD)(x:Int)(w:World)(hn:n≤6)(hs:SlOk a n c)(h:InsAt w a n L)(hx:Yj [] L=x) :
  Calls Tryz.prog 209 #[.slice a n c] w fun e w'=>e = .returned (.int .i64 x)∧Below w.heap.size w w':=by
 subst hx
 obtain⟨hz,hc⟩:=h
 by_cases h0:n=0
 ·subst h0
  have e:L=[]:=List.length_eq_zero_iff.1 hz
  subst e
  exact (Ku a c w).mono fun e w' ⟨q1,q2⟩=>⟨q1,q2 ▸ Below.refl _ _⟩
 ·obtain⟨b,off,rfl,hl,hcell⟩:=hc (by omega)
  exact Kt b off n c L w hn hs.1 hz hl hcell
theorem Tryz.infoInt:(Tryz.prog.info? 3).map (fun i=>(i.zero,i.size,i.bytes))=some (some (.int .i64 0),1,8):=by kernel_rfl
def Cy(L:List Z0)(j:Nat):Value:=.int .i64 ((L.map (·.1)).getD j 0)
theorem Bs{x:Z0}(h:x.1<1):Y6 x=3:=by unfold Y6;rw[if_pos h]
theorem Hn{x:Z0}(h:¬x.1<1):Y6 x=chk x.2:=by unfold Y6;rw[if_neg h]
theorem Hv(b off n c:Nat)(L:List Z0)(w:World)(hn:n≤6)(hpos:0<n)(hz:L.length=n)(hc:∀ i (h:i<L.length),OutAt w b (off+i*2) L[i]) :
  Calls Tryz.prog 210 #[.slice (some ⟨b,off,none⟩) n c] w fun e w'=>e = .returned (.int .i64 (Yn L))∧Below w.heap.size w w':=by
 obtain⟨i0,hi,hz0,hz1,hz2⟩:=info_parts Tryz.infoInt
 have HC:=Zb hc
 have HZ:=Zb hz
 have HP:=Zb hpos
 clear hc hz hpos
 go_enter Tryz.func210,Tryz.ntmps210
 go_wp2_with (at_make;refine wpList_make_full _ rfl _ _ 25 rfl w.heap.size 3 i0 (.int .i64 0) 1 Tryz.underlying25 hi hz0 hz1 .i64 .i64 _ _ n rfl rfl rfl rfl (by rw[hz2];omega) (by unfold maxLen;omega) (Nat.le_refl _) ?_;intro w2 hown2 hgrow2)
 have hst:FillV w.heap.size 3 n (Cy L) w w2 0:=⟨⟨_,hown2,fun j hj=>absurd hj (by omega)⟩,(Below.refl _ _).grown hgrow2 (Nat.le_refl _) (fun k h=>by cases h)⟩
 have HST:=Zb hst
 clear hst hown2 hgrow2
 go_loopw [14] (fun i wr=>∃ k:Nat,k≤n∧i = .int .i64 k∧Hid (Yk L=Yk (L.drop k))∧FillV w.heap.size 3 n (Cy L) w wr k) (fun i _=>n - (intOf i).toNat)
 case atStart=>exact⟨0,Nat.zero_le _,rfl,rfl,Za HST⟩
 case round=>
  obtain⟨k,hk,rfl,A,hfl⟩:=hrel
  have HF:=Zb hfl
  have hb:Below w.heap.size w wr:=hfl.bel
  have HB:=Zb hb
  by_cases hlt:k<n
  ·have hlk:k<L.length:=by rw[Za HZ];exact hlt
   have hin:=OutAt.kept _ _ _ _ _ hb ((Za HC) k hlk)
   have ST:=Zb (Mw L k hlk)
   have SS:=Zb (Mx L k hlk)
   have hcv:Cy L k = .int .i64 (L[k]).1:=by unfold Cy;simp[hlk]
   obtain⟨x,hx⟩:∃ x,L[k]=x:=⟨_,rfl⟩
   rw[hx] at hin ST SS hcv
   have HCV:=Zb hcv
   obtain⟨x1,key⟩:=x
   obtain⟨g1,ka,kn,kc,g3,g4,_⟩:=hin
   simp only at g1 g3 g4
   have hba:=Zi wr (.cells #[.int .i64 x1,.slice ka kn kc] 122)
   obtain⟨n1,n2⟩:=Kz wr (.int .i64 x1) (.slice ka kn kc) 122
   have HBA:=Zb hba
   have KO:=Zb (g4.later hba)
   have N1:=Zb n1
   have N2:=Zb n2
   clear hb hx g4 hba n1 n2 hfl hcv
   by_cases hlo:x1<1
   ·have R:Hid (Yn L=3):=by
     have e:Y6 (x1,key)=3:=Bs hlo
     have e2:Yk L=3:=by rw[Za A,(Za ST) (by rw[e];decide),e]
     show _=_
     unfold Yn;rw[e2];rfl
    have HB2:=Zb (Zf (Za HB) (Za HBA))
    clear A ST SS
    go_wp2
    go_ret
    exact⟨by rw[Za R];rfl,Za HB2⟩
   ·by_cases hk0:chk key=0
    ·have R:Hid (Yk L=Yk (L.drop (k+1))):=by
      have e:Y6 (x1,key)=0:=by rw[Hn hlo];exact hk0
      show _=_
      rw[Za A,(Za SS) e]
     have HK:=Zb hk0
     clear A ST SS hk0
     go_wp2_with fail
     refine (Hm ka kn kc key 0 _ (Za HK) (Za KO)).mono ?_
     rintro e w3 ⟨rfl,hb3⟩
     have m1:=Ze hb3 (Za N1)
     have hf3:=((Za HF).keep (Za HBA)).keep hb3
     obtain⟨v,hold⟩:=hf3.old hlt
     have hfree:=hf3.free k
     have HF3:=Zb hf3
     have hs3:wr.heap.size<w3.heap.size:=World.block_lt_of_cell? _ _ m1
     clear hb3 hf3
     go_wp2
     go_roundw
     case rel=>exact⟨k+1,by omega,by go_num,R,(Za HF3).step hlt (Za HCV).symm⟩
     case measure=>simp[intOf];omega
    ·obtain⟨z,hz⟩:∃ z,chk key=z:=⟨_,rfl⟩
     have R:Hid (Yn L=z):=by
      have e:Y6 (x1,key)=chk key:=Hn hlo
      have e2:Yk L=z:=by rw[Za A,(Za ST) (by rw[e];exact hk0),e];exact hz
      show _=_
      unfold Yn;rw[e2,if_neg (by rw[←hz];exact hk0)]
     have HK:=Zb hz
     rw[hz] at hk0
     have gz:(z != 0)=true:=by simp[hk0]
     clear A ST SS hz hk0
     go_wp2_with fail
     refine (Hm ka kn kc key z _ (Za HK) (Za KO)).mono ?_
     rintro e w3 ⟨rfl,hb3⟩
     have HB3:=Zb (Zf (Zf (Za HB) (Za HBA)) hb3)
     clear hb3
     go_wp2
     go_ret
     exact⟨by rw[Za R];rfl,Za HB3⟩
  ·have e:k=n:=by omega
   subst e
   have R:Hid (Yn L=(sm 0 (L.map (·.1))).2):=by
    show _=_
    unfold Yn;rw[Za A,Fp L k (by rw[Za HZ];exact Nat.le_refl _)];rfl
   have hrow:RowAt wr (some ⟨w.heap.size,0,none⟩) k (L.map (·.1)):=by
    refine⟨by rw[List.length_map];exact Za HZ,by unfold maxLen;omega,fun _=>⟨w.heap.size,0,rfl,fun i hi=>?_⟩⟩
    rw[Nat.zero_add,hfl.cells (Nat.le_refl _) i hi];rfl
   have SM:=Zb (Cf (some ⟨w.heap.size,0,none⟩) k k (L.map (·.1)) wr hrow)
   obtain⟨s,hs⟩:∃ s,sm 0 (L.map (·.1))=s:=⟨_,rfl⟩
   rw[hs] at SM R
   obtain⟨s1,s2⟩:=s
   clear A hb hfl hrow hs hlt hk
   go_wp2_with fail
   refine (Za SM).mono ?_
   rintro e w' ⟨rfl,rfl⟩
   go_wp2
   go_ret
   exact⟨by rw[Za R];rfl,Za HB⟩
theorem Mz(a:Option Addr)(n c:Nat)(L:List Z0)(x:Int)(w:World)(hn:n≤6)(hpos:0<n)(h:OutsAt w a n L)(hx:Yn L=x) :
  Calls Tryz.prog 210 #[.slice a n c] w fun e w'=>e = .returned (.int .i64 x)∧Below w.heap.size w w':=by
 subst hx
 obtain⟨hz,hc⟩:=h
 obtain⟨b,off,rfl,_,hcell⟩:=hc hpos
 exact Hv b off n c L w hn hpos hz hcell
theorem J4(h:Int)(ai ao:Option Addr)(ni ci no co:Nat)(o:Bool)(w:World)(ho:(if ni=0 then decide (1≤h) && decide (h≤1000) else decide (h=0))=o) :
  Calls Tryz.prog 208 #[.agg #[.int .i64 h,.slice ai ni ci,.slice ao no co]] w fun e w'=>e = .returned (.bool o)∧Below w.heap.size w w':=by
 have HB:=Zb (Zi w (.cells #[.int .i64 h,.slice ai ni ci,.slice ao no co] 59))
 by_cases h0:ni=0
 ·subst h0
  rw[if_pos rfl] at ho
  have C:Hid (∀ w,Calls Tryz.prog 103 #[.int .i64 h,.int .i64 1,.int .i64 1000] w fun e w'=>e = .returned (.bool o)∧w=w'):=fun w=>Yi h 1 1000 o w ho.symm
  clear ho
  go_enter Tryz.func208,Tryz.ntmps208
  go_wp2_with fail
  refine ((Za C) _).mono ?_
  rintro e w' ⟨rfl,rfl⟩
  go_wp2
  go_ret
  exact⟨rfl,Za HB⟩
 ·rw[if_neg h0] at ho
  have g:((ni:Int) == 0)=false:=by simp;omega
  by_cases hh:h=0
  ·rw[decide_eq_true hh] at ho
   subst ho hh
   go_enter Tryz.func208,Tryz.ntmps208
   go_wp2
   go_ret
   exact⟨rfl,Za HB⟩
  ·rw[decide_eq_false hh] at ho
   subst ho
   have g2:(h == 0)=false:=by simp[hh]
   go_enter Tryz.func208,Tryz.ntmps208
   go_wp2
   go_ret
   exact⟨rfl,Za HB⟩
end Go.Proofs.YtmomfkikogbdeaaGreatDoor
