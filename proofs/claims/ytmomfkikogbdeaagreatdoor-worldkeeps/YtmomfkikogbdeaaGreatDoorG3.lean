import Derived.Test.YtmomfkikogbdeaaGreatDoorH
import Derived.Test.YtmomfkikogbdeaaGreatDoorG2
import Derived.Deep.RegionHeld3
import Derived.Laws.CopyOwn
import Derived.Lib.AppendZerosOnto
import Derived.Lib.Overlaps
open Go.Proofs.Tryz
open Bool renaming and_eq_true->cB
open Go renaming TypeId->bO,rounds_succ->bF
open Go.Ending renaming returned->cS
open Go.IntKind renaming wrap_i64->bI,i64->J
open Go.Obj renaming cells->cR
open Go.Proofs.Tryz renaming prog->aA,underlying29->cA
open Go.Value renaming int->E,slice->F,tuple->cT,bool->cV
open Go.World renaming block_lt_of_cell?->aD
open List renaming mem_cons->bB,mem_cons_self->cN,take_succ_eq_append_getElem->aV,drop_eq_getElem_cons->aL,drop_of_length_le->cK,getElem?_eq_getElem->cM,getElem_mem->aX,length_eq_zero_iff->aG
open Nat renaming le_refl->aF,zero_le->aM
open Option.some renaming injEq->bG
set_option maxHeartbeats 6400000
set_option maxRecDepth 10000
namespace Go.Proofs.YtmomfkikogbdeaaGreatDoor
open Go.RowKit
theorem Zaw(h:Int)(I:List InD)(O)(ni:Nat)(z:I.length=ni):Nq (h,I,O)=if ni=0 then decide (1<=h) && decide (h<=1000) else decide (h=0):=by
 unfold Nq;simp only[z]
theorem Vd(h:Int)(ai ao ni ci no co I O)(w:World)(hI:InsAt w ai ni I)(hO:OutsAt w ao no O)(sI:SlOk ai ni ci) :
  ZH 152 #[.agg #[E J h,F ai ni ci,F ao no co]] w (E J (Zw (h,I,O))):=by
 have hb:=Zh w (cR #[E J h,F ai ni ci,F ao no co] 59);obtain⟨n0,n1,n2⟩:=U4 w (E J h) (F ai ni ci) (F ao no co) 59;have HB:=Zd hb;have N0:=Zd n0;have N1:=Zd n1;have N2:=Zd n2;have HI:=Zd (hI.later hb);have HO:=Zd (hO.later hb);have HS:=Zd sI;have zi:=hI.1;have zo:=hO.1;clear hb n0 n1 n2 hI hO sI;by_cases h1:6<ni
 ·have e:Zw (h,I,O)=2:=by unfold Zw;rw[if_pos (Or.inl (by show 6<I.length;omega))]
  rw[e];have g:(6:Int)<(ni:Int):=by omega
  clear e h1 zi zo;go_enter func152,ntmps152;go_wp2;go_ret;exact⟨rfl,Za HB⟩
 ·by_cases h2:6<no
  ·have e:Zw (h,I,O)=2:=(by unfold Zw;rw[if_pos (Or.inr (by show 6<O.length;omega))]);rw[e];have g:¬(6:Int)<(ni:Int):=(by omega);have g':(6:Int)<(no:Int):=(by omega);clear e h1 h2 zi zo;go_enter func152,ntmps152;go_wp2;go_ret;exact⟨rfl,Za HB⟩
  ·have g:¬(6:Int)<(ni:Int):=(by omega);have g':¬(6:Int)<(no:Int):=(by omega);have Q:¬(6<I.length\/6<O.length):=(by omega);by_cases h3:no=0
   ·have e:Zw (h,I,O)=4:=(by unfold Zw;rw[if_neg Q,if_pos (by show O.length=0;omega)]);rw[e];subst h3;clear e Q h1 h2 zi zo;go_enter func152,ntmps152;go_wp2;go_ret;exact⟨rfl,Za HB⟩
   ·have g3:((no:Int) == 0)=false:=(by simp;omega);have e3:¬O.length=0:=(by omega);cases hf:Nq (h,I,O) with
    | false=>
     have e:Zw (h,I,O)=3:=(by unfold Zw;rw[if_neg Q,if_neg e3,if_pos hf]);rw[e];have C:=Zd (Rl h ai ao ni ci no co false (w.alloc (cR #[E J h,F ai ni ci,F ao no co] 59)) (by rw[<-Zaw h I O ni zi];exact hf));clear e Q e3 h1 h2 h3 zi zo hf;go_enter func152,ntmps152;go_wp2_with fail;refine C.mono ?_;rintro e w2 ⟨rfl,z⟩;have ae:=Zd (Zf HB z);clear z;go_wp2;go_ret;exact⟨rfl,Za ae⟩
    | true=>
     have C:=Zd (Rl h ai ao ni ci no co true (w.alloc (cR #[E J h,F ai ni ci,F ao no co] 59)) (by rw[<-Zaw h I O ni zi];exact hf));have e4:¬Nq (h,I,O)=false:=(by rw[hf];decide);by_cases h5:Yb [] I=0
     ·obtain⟨bt,hz⟩:=ZF (Yj O)
      have e:Zw (h,I,O)=bt:=by
       unfold Zw;rw[if_neg Q,if_neg e3,if_neg e4,if_neg (by intro q;exact q h5)];exact hz
      rw[e];have H5:=Zd h5;have HZ:=Zd hz;have am:Hid (ni<=6):=(by show _<=_;omega);have au:Hid (no<=6/\0<no):=⟨by omega,by omega⟩;clear e Q e3 e4 h1 h2 h3 zi zo hf h5 hz;go_enter func152,ntmps152;go_wp2_with fail;refine C.mono ?_;rintro e w2 ⟨rfl,z⟩;have m1:=Ze z N1;have M2:=Zd (Ze z N2);have az:w.heap.size<w2.heap.size:=aD _ _ m1;have CI:=Zd (Ps ai ni ci I 0 w2 am HS (HI.later z) H5);have ae:=Zd z;clear z;go_wp2_with fail;refine CI.mono ?_;rintro e w3 ⟨rfl,ac⟩;have m2:=Ze ac M2;have bs:w.heap.size<w3.heap.size:=aD _ _ m2;have CO:=Zd (Dc ao no co O bt w3 au.1 au.2 ((HO.later ae).later ac) HZ);have an:=Zd (Zf (Zf HB ae) ac);clear ac m1 az;go_wp2_with fail;refine CO.mono ?_;rintro e w4 ⟨rfl,ay⟩;have bg:=Zd (Zf an ay);clear ay;go_wp2;go_ret;exact⟨rfl,Za bg⟩
     ·obtain⟨bt,hz⟩:=ZF (Yb [] I)
      have e:Zw (h,I,O)=bt:=by
       unfold Zw;rw[if_neg Q,if_neg e3,if_neg e4,if_pos h5];exact hz
      rw[e];have HZ:=Zd hz;rw[hz] at h5;have gz:(bt != 0)=true:=(by simp[h5]);have am:Hid (ni<=6):=(by show _<=_;omega);clear e Q e3 e4 h1 h2 h3 zi zo hf h5 hz;go_enter func152,ntmps152;go_wp2_with fail;refine C.mono ?_;rintro e w2 ⟨rfl,z⟩;have m1:=Ze z N1;have az:w.heap.size<w2.heap.size:=aD _ _ m1;have CI:=Zd (Ps ai ni ci I bt w2 am HS (HI.later z) HZ);have ae:=Zd z;clear z;go_wp2_with fail;refine CI.mono ?_;rintro e w3 ⟨rfl,ac⟩;have an:=Zd (Zf (Zf HB ae) ac);clear ac;go_wp2;go_ret;exact⟨rfl,Za an⟩
abbrev Zj:=Int×Int×Int×List (Int×Int)×Int×Bool
abbrev PtD:=Int×Int
def pt(c:Zj):PtD:=(c.1,c.2.1)
def cv(c:Zj):Int:=c.2.2.1
def ck(c:Zj):List (Int×Int):=c.2.2.2.1
def ch(c:Zj):Int:=c.2.2.2.2.1
def cr(c:Zj):Bool:=c.2.2.2.2.2
def lt(p q:PtD):Bool:=decide (p.1<q.1) || (decide (p.1=q.1) && decide (p.2<q.2))
theorem Sp(p q:PtD):lt p q=true↔p.1<q.1\/p.1=q.1/\p.2<q.2:=by simp[lt]
theorem So(p:PtD):lt p p=false:=by
 rw[<-Bool.not_eq_true,Sp];omega
theorem lt_trans{p q r:PtD}(h1:lt p q=true)(h2:lt q r=true):lt p r=true:=by
 rw[Sp] at *;omega
theorem Hu{p q:PtD}(h1:lt p q=true):lt q p=false:=by
 rw[<-Bool.not_eq_true,Sp];rw[Sp] at h1;omega
theorem Zmz(p q:PtD):lt p q=true\/p=q\/lt q p=true:=by
 rw[Sp,Sp,Prod.ext_iff];omega
theorem Tt{p q:PtD}(h:lt p q=true):p≠q:=λe=>by
 subst e;rw[So] at h;exact Bool.noConfusion h
def Gc(p q:PtD):Int:=if lt p q then -1 else if p=q then 0 else 1
theorem Nt{p q:PtD}:Gc p q<0↔lt p q=true:=by
 unfold Gc;split
 ·simp[*]
 ·split
  ·rename_i h e;subst e;simp[So]
  ·simp[*]
theorem Zkz{p q:PtD}:Gc p q=0↔p=q:=by
 unfold Gc;split
 ·rename_i h;simp[Tt h]
 ·split <;> simp[*]
def Srt(L:List Zj):Prop:=L.Pairwise λa b=>lt (pt a) (pt b)=true
theorem Srt.tail{c:Zj}{L}(h:Srt (c :: L)):Srt L:=(List.pairwise_cons.1 h).2
theorem Srt.head{c:Zj}{L}(h:Srt (c :: L)):∀ x∈L,lt (pt c) (pt x)=true:=(List.pairwise_cons.1 h).1
theorem Srt.inj{L}(h:Srt L):∀ {x y:Zj},x∈L->y∈L->pt x=pt y->x=y:=by
 induction L with
 | nil=>intro x y hx;cases hx
 | cons c L ih=>
  intro x y hx z e
  rcases bB.1 hx with rfl|hx <;> rcases bB.1 z with rfl|z
  ·rfl
  ·exact absurd e (Tt (h.head y ‹y∈L›))
  ·exact absurd e.symm (Tt (h.head x ‹x∈L›))
  ·exact ih h.tail hx z e
theorem Srt.ext:∀ {L M:List Zj},Srt L->Srt M->(∀ x,x∈L↔x∈M)->L=M
 | [],[],_,_,_=>rfl
 | [],c :: M,_,_,h=>absurd ((h c).2 (cN ..)) (by simp)
 | c :: L,[],_,_,h=>absurd ((h c).1 (cN ..)) (by simp)
 | c :: L,d :: M,h1,h2,h=>by
  have e:c=d:=by
   rcases bB.1 ((h c).1 (cN ..)) with e|e
   ·exact e
   rcases bB.1 ((h d).2 (cN ..)) with f|f
   ·exact f.symm
   ·have g:=Hu (h2.head _ e);rw[h1.head _ f] at g;exact Bool.noConfusion g
  subst e;rw[Srt.ext h1.tail h2.tail λx=>⟨λhx=>?_,λhx=>?_⟩]
  ·rcases bB.1 ((h x).1 (List.mem_cons_of_mem _ hx)) with rfl|q
   ·exact absurd rfl (Tt (h1.head _ hx))
   ·exact q
  ·rcases bB.1 ((h x).2 (List.mem_cons_of_mem _ hx)) with rfl|q
   ·exact absurd rfl (Tt (h2.head _ hx))
   ·exact q
def Zmm(p:PtD):Bool:=(decide (1<=p.1) && decide (p.1<=120)) && (decide (0<=p.2) && decide (p.2<=5))
def okV(n:Int):Bool:=decide (1<=n) && decide (n<=1000000000)
def okH(n:Int):Bool:=decide (1<=n) && decide (n<=1000)
def okC(c:Zj):Bool:=Zmm (pt c) && (okV (cv c) && okH (ch c))
def ck1(c:Zj):Int:=if okC c=false then 3 else chk (ck c)
theorem Y7{c:Zj}(h:ck1 c=0):1<=c.1/\c.1<=120/\0<=c.2.1/\c.2.1<=5/\1<=cv c/\cv c<=1000000000/\1<=ch c/\ch c<=1000/\chk (ck c)=0:=by
 unfold ck1 at h;split at h
 ·cases h
 ·rename_i q;simp only[Bool.not_eq_false,okC,Zmm,okV,okH,pt,cB,decide_eq_true_eq] at q;exact⟨of_decide_eq_true q.1.1.1,of_decide_eq_true q.1.1.2,of_decide_eq_true q.1.2.1,of_decide_eq_true q.1.2.2,q.2.1.1,q.2.1.2,q.2.2.1,q.2.2.2,h⟩
def Sg(p:Option PtD)(c:Zj):Bool:=match p with|none=>true|some p=>lt p (pt c)
def Yw:Option PtD->Int->List Zj->Int
 | _,_,[]=>0
 | p,s,c :: r=>if ck1 c≠0 then ck1 c else if Sg p c=false then 6 else if 1000000000<s+cv c then 12 else Yw (some (pt c)) (s+cv c) r
def Yi(L:List Zj):Int:=if 720<L.length then 2 else Yw none 0 L
def Jj(L:List Zj)(k:Nat):Option PtD:=if k=0 then none else (L[k - 1]?).map pt
def Zr(L:List Zj):Int:=(L.map cv).sum
def Yy(L:List Zz):Int:=(L.map (·.1)).sum
theorem Dw:Zr []=0:=rfl
theorem Xm(c:Zj)(L):Zr (c :: L)=cv c+Zr L:=by simp[Zr]
theorem Uo(L M):Zr (L++M)=Zr L+Zr M:=by simp[Zr]
theorem Si(L:List Zj)(k:Nat)(h:k<L.length):Zr (L.take (k+1))=Zr (L.take k)+cv L[k]:=by
 rw[aV h,Uo,Xm,Dw];omega
theorem L9(L:List Zz)(k:Nat)(h:k<L.length):Yy (L.take (k+1))=Yy (L.take k)+L[k].1:=by
 rw[aV h];unfold Yy;rw[List.map_append,List.sum_append];simp
theorem Hg(L:List Zj)(k:Nat)(h:k<L.length):Jj L (k+1)=some (pt L[k]):=by
 unfold Jj;rw[if_neg (by omega)];simp[h]
theorem Zlc(L:List Zj)(k:Nat)(h:k<L.length)(p:Option PtD)(s:Int):Yw p s (L.drop k)=if ck1 L[k]≠0 then ck1 L[k] else if Sg p L[k]=false then 6 else if 1000000000<s+cv L[k] then 12 else Yw (some (pt L[k])) (s+cv L[k]) (L.drop (k+1)):=by
 rw[aL h,Yw]
theorem Zid(L:List Zj)(k:Nat)(h:L.length<=k)(p:Option PtD)(s:Int):Yw p s (L.drop k)=0:=by
 rw[cK h,Yw]
theorem Zie{c:Zj}{r}{p:Option PtD}{s:Int}(h:ck1 c≠0):Yw p s (c :: r)=ck1 c:=by rw[Yw,if_pos h]
theorem Ez{c:Zj}{r}{p:Option PtD}{s:Int}(h:ck1 c=0)(h2:Sg p c=false):Yw p s (c :: r)=6:=by
 rw[Yw,if_neg (by rw[h];decide),if_pos h2]
theorem Zeg{c:Zj}{r}{p:Option PtD}{s:Int}(h:ck1 c=0)(h2:Sg p c=true)(h3:1000000000<s+cv c):Yw p s (c :: r)=12:=by
 rw[Yw,if_neg (by rw[h];decide),if_neg (by rw[h2];decide),if_pos h3]
theorem Zlb{c:Zj}{r}{p:Option PtD}{s:Int}(h:ck1 c=0)(h2:Sg p c=true)(h3:¬1000000000<s+cv c):Yw p s (c :: r)=Yw (some (pt c)) (s+cv c) r:=by
 rw[Yw,if_neg (by rw[h];decide),if_neg (by rw[h2];decide),if_neg h3]
theorem Vg:∀ (L:List Zj),(∀ c∈L,0<=cv c)->0<=Zr L
 | [],_=>Int.le_refl _
 | c :: r,h=>by
  rw[Xm];have h1:=h c (cN ..);have h2:=Vg r λx hx=>h x (List.mem_cons_of_mem _ hx);omega
theorem Mu:∀ (L:List Zj) (p:Option PtD) (s:Int),0<=s->s<=1000000000->(Yw p s L=0↔(∀ c∈L,ck1 c=0)/\Srt L/\(∀ c∈L,Sg p c=true)/\s+Zr L<=1000000000)
 | [],p,s,_,h=>by simp[Yw,Srt,Zr,h]
 | c :: r,p,s,h0,h=>by
  by_cases h1:ck1 c=0
  ·have hv:1<=cv c:=(Y7 h1).2.2.2.2.1;cases h2:Sg p c with
   | false=>
    rw[Ez h1 h2];refine⟨λe=>(by cases e),λe=>?_⟩;have:=e.2.2.1 c (cN ..);rw[h2] at this;exact Bool.noConfusion this
   | true=>
    by_cases h3:1000000000<s+cv c
    ·rw[Zeg h1 h2 h3];refine⟨λe=>(by cases e),λe=>?_⟩
     have h4:0<=Zr r:=Vg r λx hx=>by
      have:=(Y7 (e.1 x (List.mem_cons_of_mem _ hx))).2.2.2.2.1;omega
     have h5:=e.2.2.2;rw[Xm] at h5;omega
    ·rw[Zlb h1 h2 h3,Mu r (some (pt c)) (s+cv c) (by omega) (by omega),Xm];constructor
     ·rintro ⟨Q,z,a3,a4⟩;refine⟨λx hx=>?_,List.pairwise_cons.2 ⟨λx hx=>a3 x hx,z⟩,λx hx=>?_,by omega⟩
      ·rcases bB.1 hx with rfl|hx
       ·exact h1
       ·exact Q x hx
      ·rcases bB.1 hx with rfl|hx
       ·exact h2
       ·cases p with
        | none=>rfl
        | some p=>exact lt_trans h2 (a3 x hx)
     ·rintro ⟨Q,z,a3,a4⟩;exact⟨λx hx=>Q x (List.mem_cons_of_mem _ hx),Srt.tail z,λx hx=>Srt.head z x hx,by omega⟩
  ·rw[Zie h1];exact⟨λe=>absurd e h1,λe=>absurd (e.1 c (cN ..)) h1⟩
structure Y8(L:List Zj):Prop where
 len:L.length<=720
 one:∀ c∈L,ck1 c=0
 srt:Srt L
 sum:Zr L<=1000000000
theorem Yv(L):Yi L=0↔Y8 L:=by
 unfold Yi;by_cases h:720<L.length
 ·rw[if_pos h];exact⟨λe=>(by cases e),λe=>absurd e.len (by omega)⟩
 ·rw[if_neg h,Mu L none 0 (by omega) (by omega)];exact⟨λ⟨a,b,_,c⟩=>⟨by omega,a,b,by omega⟩,λe=>⟨e.one,e.srt,λ_ _=>rfl,by have:=e.sum;omega⟩⟩
def pos(p:PtD)(L:List Zj):Nat:=L.countP λc=>lt (pt c) p
def Ug(p:PtD)(L:List Zj):Bool:=L.any λc=>decide (pt c=p)
def Um(p:PtD)(L:List Zj):Option (Zj×List Zj):=
 match L.find? (λc=>decide (pt c=p)) with|none=>none|some c=>some (c,L.filter λc=>decide (pt c≠p))
def Ll(c:Zj)(L:List Zj):List Zj:=L.filter (λx=>lt (pt x) (pt c))++c :: L.filter λx=>lt (pt c) (pt x)
theorem Srt.filter{L:List Zj}(h:Srt L)(f:Zj->Bool):Srt (L.filter f):=List.Pairwise.filter f h
theorem Tx(p:PtD)(L):Ug p L=true↔∃ c∈L,pt c=p:=by simp[Ug]
theorem Fi{c:Zj}{L}(h:Srt L):Srt (Ll c L):=by
 unfold Ll Srt;rw[List.pairwise_append];refine⟨h.filter _,List.pairwise_cons.2 ⟨λx hx=>(List.mem_filter.1 hx).2,h.filter _⟩,λa Q b z=>?_⟩;have h1:=(List.mem_filter.1 Q).2
 rcases bB.1 z with rfl|z
 ·exact h1
 ·exact lt_trans h1 (List.mem_filter.1 z).2
theorem Vz{p:PtD}:∀ {L:List Zj},Srt L->L.take (pos p L)=L.filter (λx=>lt (pt x) p)/\L.drop (pos p L)=L.filter (λx=>!lt (pt x) p)
 | [],_=>by simp[pos]
 | c :: L,h=>by
  obtain⟨h1,h2⟩:=Vz (p:=p) h.tail;unfold pos at *;cases hc:lt (pt c) p with
  | true=>
   rw[List.countP_cons_of_pos (by simpa using hc),List.filter_cons_of_pos (by simpa using hc),List.filter_cons_of_neg (by simp[hc]),List.take_succ_cons,List.drop_succ_cons,h1,h2];exact⟨rfl,rfl⟩
  | false=>
   have h3:∀ x∈L,lt (pt x) p=false:=λx hx=>by
    rw[<-Bool.not_eq_true];intro q;rw[lt_trans (h.head x hx) q] at hc;exact Bool.noConfusion hc
   have e:(c :: L).countP (λc=>lt (pt c) p)=0:=by
    rw[List.countP_eq_zero];intro x hx
    rcases bB.1 hx with rfl|hx
    ·simp[hc]
    ·simp[h3 x hx]
   rw[e,List.take_zero,List.drop_zero];constructor
   ·symm;rw[List.filter_eq_nil_iff]
    intro x hx
    rcases bB.1 hx with rfl|hx
    ·simp[hc]
    ·simp[h3 x hx]
   ·symm;rw[List.filter_eq_self]
    intro x hx
    rcases bB.1 hx with rfl|hx
    ·simp[hc]
    ·simp[h3 x hx]
theorem Zfx(p:PtD)(L:List Zj):pos p L<=L.length:=List.countP_le_length ..
theorem Ad{p:PtD}{L:List Zj}(h:Srt L):Ug p L=(decide (pos p L<L.length) && decide ((L[pos p L]?).map pt=some p)):=by
 obtain⟨h1,h2⟩:=Vz (p:=p) h;rw[Bool.eq_iff_iff,Tx,cB,decide_eq_true_eq,decide_eq_true_eq];constructor
 ·rintro ⟨c,hc,e⟩;have Q:c∈L.drop (pos p L):=by rw[h2,List.mem_filter];exact⟨hc,by rw[e,So];rfl⟩
  have z:pos p L<L.length:=by
   rcases Nat.lt_or_ge (pos p L) L.length with q|q
   ·exact q
   ·rw[cK q] at Q;cases Q
  refine⟨z,?_⟩;have hs:Srt (L.drop (pos p L)):=by rw[h2];exact h.filter _
  rw[aL z] at Q hs;rw[cM z,Option.map_some]
  rcases bB.1 Q with rfl|q
  ·rw[e]
  ·have g:=hs.head c q;have h3:L[pos p L]∈L.drop (pos p L):=(by rw[aL z];exact cN ..);rw[h2,List.mem_filter] at h3;rw[e] at g;rw[g] at h3;exact absurd h3.2 (by decide)
 ·rintro ⟨z,e⟩;rw[cM z,Option.map_some,bG] at e;exact⟨L[pos p L],aX z,e⟩
theorem Bt{p:PtD}{L}(h:Ug p L=false):Um p L=none:=by
 unfold Um
 have:L.find? (λc=>decide (pt c=p))=none:=by
  rw[List.find?_eq_none];intro x hx;rw[<-Bool.not_eq_true,Tx] at h;simp only[decide_eq_true_eq];exact λe=>h ⟨x,hx,e⟩
 rw[this]
theorem Zbm{p:PtD}{L:List Zj}(h:Srt L){c:Zj}(z:c∈L)(e:pt c=p):Um p L=some (c,L.filter λc=>decide (pt c≠p)):=by
 unfold Um
 have:L.find? (λc=>decide (pt c=p))=some c:=by
  cases q:L.find? (λc=>decide (pt c=p)) with
  | none=>rw[List.find?_eq_none] at q;exact absurd (decide_eq_true e) (q c z)
  | some d=>
   have h1:=List.find?_some q;have h2:=List.mem_of_find?_eq_some q;simp only[decide_eq_true_eq] at h1;rw[h.inj h2 z (by rw[h1,e])]
 rw[this]
theorem Rw{p:PtD}{L M:List Zj}{c:Zj}(h:Um p L=some (c,M)):c∈L/\pt c=p/\M=L.filter λc=>decide (pt c≠p):=by
 unfold Um at h;split at h
 ·cases h
 ·rename_i d q;simp only[bG,Prod.mk.injEq] at h;obtain⟨rfl,rfl⟩:=h;have h1:=List.find?_some q;simp only[decide_eq_true_eq] at h1;exact⟨List.mem_of_find?_eq_some q,h1,rfl⟩
theorem Zfg{p:PtD}{L:List Zj}(h:Srt L)(z:pos p L<L.length)(e:pt L[pos p L]=p):Um p L=some (L[pos p L],L.take (pos p L)++L.drop (pos p L+1)):=by
 rw[Zbm h (aX z) e];obtain⟨h1,h2⟩:=Vz (p:=p) h;have h3:=aL z;rw[h2] at h3;have hs:Srt (L[pos p L] :: L.drop (pos p L+1)):=by rw[<-h3];exact h.filter _
 have Q:L.filter (λc=>decide (pt c≠p))=L.take (pos p L)++L.drop (pos p L+1):=by
  have e2:L=L.take (pos p L)++(L[pos p L] :: L.drop (pos p L+1)):=by rw[<-aL z,List.take_append_drop]
  have e3:L.filter (λc=>decide (pt c≠p))=(L.take (pos p L)++(L[pos p L] :: L.drop (pos p L+1))).filter (λc=>decide (pt c≠p)):=congrArg _ e2;rw[e3,List.filter_append,List.filter_cons_of_neg (by simp[e])]
  congr 1
  ·rw[List.filter_eq_self];intro x hx;rw[h1,List.mem_filter] at hx;exact decide_eq_true (Tt hx.2)
  ·rw[List.filter_eq_self];intro x hx;have:=hs.head x hx;rw[e] at this;exact decide_eq_true (Ne.symm (Tt this))
 rw[Q]
theorem Zam{c:Zj}{L:List Zj}(h:Srt L)(z:Ug (pt c) L=false):Ll c L=L.take (pos (pt c) L)++c :: L.drop (pos (pt c) L):=by
 obtain⟨h1,h2⟩:=Vz (p:=pt c) h;unfold Ll;rw[h1,h2]
 congr 2
 refine List.filter_congr λx hx=>?_;rw[Bool.eq_iff_iff]
 rcases Zmz (pt x) (pt c) with q|q|q
 ·simp[q,Hu q]
 ·rw[<-Bool.not_eq_true,Tx] at z;exact absurd ⟨x,hx,q⟩ z
 ·simp[q,Hu q]
def cnV(x:Zj)(a:Option Addr)(n c:Nat):Value:=.agg #[E J x.1,E J x.2.1,E J (cv x),F a n c,E J (ch x),cV (cr x)]
def CoinAt(w:World)(b o:Nat)(x:Zj):Prop:=
 w.cell? ⟨b,o,none⟩=some (E J x.1)/\w.cell? ⟨b,o+1,none⟩=some (E J x.2.1)/\w.cell? ⟨b,o+2,none⟩=some (E J (cv x)) /\
 (∃ a n c,w.cell? ⟨b,o+3,none⟩=some (F a n c)/\OpsAt w a n (ck x)/\SlOk a n c) /\
 w.cell? ⟨b,o+4,none⟩=some (E J (ch x))/\w.cell? ⟨b,o+5,none⟩=some (cV (cr x))
theorem CoinAt.kept:Px CoinAt:=λ_ _ _ _ _ z h=>by
 obtain⟨h1,h2,h3,⟨a,n,c,h4,h5,h6⟩,h7,h8⟩:=h;exact⟨Ze z h1,Ze z h2,Ze z h3,⟨a,n,c,Ze z h4,h5.later z,h6⟩,Ze z h7,Ze z h8⟩
def CoinsAt(w:World)(a:Option Addr)(len:Nat)(l:List Zj):Prop:=RowsAt CoinAt 6 w a len l
theorem CoinsAt.later{w w':World}{a len l}(h:CoinsAt w a len l)(z:ZD w w'):CoinsAt w' a len l:=RowsAt.later CoinAt.kept h z
theorem Nf(w:World)(a b c d e f)(t:bO):(w.alloc (cR #[a,b,c,d,e,f] t)).cell? ⟨w.heap.size,0,none⟩=some a/\(w.alloc (cR #[a,b,c,d,e,f] t)).cell? ⟨w.heap.size,1,none⟩=some b/\(w.alloc (cR #[a,b,c,d,e,f] t)).cell? ⟨w.heap.size,2,none⟩=some c /\
  (w.alloc (cR #[a,b,c,d,e,f] t)).cell? ⟨w.heap.size,3,none⟩=some d/\(w.alloc (cR #[a,b,c,d,e,f] t)).cell? ⟨w.heap.size,4,none⟩=some e/\(w.alloc (cR #[a,b,c,d,e,f] t)).cell? ⟨w.heap.size,5,none⟩=some f:=by
 refine⟨?_,?_,?_,?_,?_,?_⟩ <;> (rw[World.cell?_alloc_at _ _ _ _ rfl];rfl)
def Gd(x y:Int):Int:=if x<y then -1 else if y<x then 1 else 0
theorem Aa(x:Int)(w):Calls aA 223 #[E J x] w λe w'=>e = cS (cV false)/\w=w':=by
 go_enter func223,ntmps223;go_wp2;go_ret;exact⟨rfl,rfl⟩
theorem Lp(x y:Int)(w):Calls aA 231 #[E J x,E J y] w λe w'=>e = cS (E J (Gd x y))/\w=w':=by
 have C1:=Zd (Aa x);have z:=Zd (Aa y);by_cases h1:x<y
 ·have e:Gd x y = -1:=by simp[Gd,h1]
  rw[e];clear e;go_enter func231,ntmps231;go_wp2_with fail;refine (C1 _).mono ?_;rintro e w' ⟨rfl,rfl⟩;go_wp2_with fail;refine (z _).mono ?_;rintro e w' ⟨rfl,rfl⟩;go_wp2;go_ret;exact⟨rfl,rfl⟩
 ·by_cases h2:y<x
  ·have e:Gd x y=1:=(by simp[Gd,h1,h2]);rw[e];clear e;go_enter func231,ntmps231;go_wp2_with fail;refine (C1 _).mono ?_;rintro e w' ⟨rfl,rfl⟩;go_wp2_with fail;refine (z _).mono ?_;rintro e w' ⟨rfl,rfl⟩;go_wp2;go_ret;exact⟨rfl,rfl⟩
  ·have e:Gd x y=0:=(by simp[Gd,h1,h2]);rw[e];clear e;go_enter func231,ntmps231;go_wp2_with fail;refine (C1 _).mono ?_;rintro e w' ⟨rfl,rfl⟩;go_wp2_with fail;refine (z _).mono ?_;rintro e w' ⟨rfl,rfl⟩;go_wp2;go_ret;exact⟨rfl,rfl⟩
def orI(x y:Int):Int:=if x=0 then y else x
theorem Zib(x y:Int)(b c:Nat)(w:World)(h1:w.cell? ⟨b,0,none⟩=some (E J x))(h2:w.cell? ⟨b,1,none⟩=some (E J y)) :
  Calls aA 230 #[F (some ⟨b,0,none⟩) 2 c] w λe w'=>e = cS (E J (orI x y))/\w=w':=by
 by_cases hx:x=0
 ·subst hx;by_cases z:y=0
  ·subst z;have e:orI 0 0=0:=rfl;rw[e];clear e;go_enter func230,ntmps230;go_wp2;refine wp_loop_rounds 3 ?_;rw[bF];go_wp2;rw[bF];go_wp2;rw[bF];go_wp2;go_ret;exact⟨rfl,rfl⟩
  ·have e:orI 0 y=y:=rfl;rw[e];have gy:(y != 0)=true:=(by simp[z]);clear e z;go_enter func230,ntmps230;go_wp2;refine wp_loop_rounds 2 ?_;rw[bF];go_wp2;rw[bF];go_wp2;go_ret;exact⟨rfl,rfl⟩
 ·have e:orI x y=x:=by simp[orI,hx]
  rw[e];have Q:(x != 0)=true:=by simp[hx]
  clear e hx;go_enter func230,ntmps230;go_wp2;refine wp_loop_rounds 1 ?_;rw[bF];go_wp2;go_ret;exact⟨rfl,rfl⟩
theorem Zky(p q:PtD):orI (Gd p.1 q.1) (Gd p.2 q.2)=Gc p q:=by
 obtain⟨a,b⟩:=p;obtain⟨c,d⟩:=q;unfold orI Gd Gc lt;simp only[Bool.or_eq_true,cB,decide_eq_true_eq,Prod.mk.injEq]
 repeat' split
 all_goals omega
theorem Z5(w:World)(x y)(t:bO):(w.alloc (cR #[x,y] t)).cell? ⟨w.heap.size,0,none⟩=some x/\(w.alloc (cR #[x,y] t)).cell? ⟨w.heap.size,1,none⟩=some y:=
 ⟨by rw[World.cell?_alloc_at _ _ _ _ rfl];rfl,by rw[World.cell?_alloc_at _ _ _ _ rfl];rfl⟩
theorem Zi(w:World):ZD w w.drew:=⟨rfl,rfl,rfl,aF _,λ_ _=>rfl⟩
theorem R9(p q:PtD)(ak:Int)(w:World)(hz:Gc p q=ak) :
  ZH 201 #[.agg #[E J p.1,E J p.2],.agg #[E J q.1,E J q.2]] w (E J ak):=by
 obtain⟨a,b⟩:=p;obtain⟨c,d⟩:=q;have e:=Zky (a,b) (c,d);rw[hz] at e;simp only at e ⊢;have ac:=Zd e;obtain⟨X,z⟩:=ZG ((w.alloc (cR #[E J a,E J b] 117)).alloc (cR #[E J c,E J d] 117));have HB:Hid (ZD w X):=by rw[z];exact (Zf (Zh w (cR #[E J a,E J b] 117)) (Zh _ (cR #[E J c,E J d] 117)))
 have x0:X.cell? ⟨w.heap.size,0,none⟩=some (E J a):=by rw[z];exact Ze (Zh _ _) (Z5 w _ _ _).1
 have x1:X.cell? ⟨w.heap.size,1,none⟩=some (E J b):=by rw[z];exact Ze (Zh _ _) (Z5 w _ _ _).2
 have x2:X.cell? ⟨w.heap.size+1,0,none⟩=some (E J c):=by rw[z];have:=(Z5 (w.alloc (cR #[E J a,E J b] 117)) (E J c) (E J d) 117).1;simp at this ⊢
 have x3:X.cell? ⟨w.heap.size+1,1,none⟩=some (E J d):=by rw[z];have:=(Z5 (w.alloc (cR #[E J a,E J b] 117)) (E J c) (E J d) 117).2;simp at this ⊢
 clear hz e;go_enter func201,ntmps201;go_wp2_with fail;rw[<-z];clear z
 go_region_held3 (λw'=>ZD X w'/\w'.cell? ⟨w.heap.size,0,none⟩=some (E J a)/\w'.cell? ⟨w.heap.size,1,none⟩=some (E J b)/\w'.cell? ⟨w.heap.size+1,0,none⟩=some (E J c)/\w'.cell? ⟨w.heap.size+1,1,none⟩=some (E J d))
  (first
  | exact⟨Zi _,x0,x1,x2,x3⟩
  | (go_split_ands;exact⟨by assumption,by assumption,by assumption,by assumption,by assumption⟩)
  | (go_split_ands;exact⟨Zf (by assumption) (Zh _ _),Ze (Zh _ _) (by assumption),Ze (Zh _ _) (by assumption),Ze (Zh _ _) (by assumption),Ze (Zh _ _) (by assumption)⟩))
  (first
  | (go_at_call 231;refine (Lp _ _ _).mono ?_;rintro e w' ⟨rfl,rfl⟩)
  | (go_at_call 230;refine (Zib (Gd a c) (Gd b d) _ 2 _ ?_ ?_).mono ?_;exact (Z5 _ _ _ _).1;exact (Z5 _ _ _ _).2;rintro e w' ⟨rfl,rfl⟩))
 rename_i Q;have HH:=Zd (Zf HB Q.1);clear Q;go_wp2;go_ret;exact⟨by rw[<-Za ac];rfl,Za HH⟩
theorem Vt(h:Int)(b:Bool)(w)(z:okH h=b) :
  Calls aA 203 #[E J h] w λe w'=>e = cS (cV b)/\w=w':=by
 have C:=Zd (Ys h 1 1000 b w (by rw[<-z];rfl));clear z;go_enter func203,ntmps203;go_wp2_with fail;refine C.mono ?_;rintro e w' ⟨rfl,rfl⟩;go_wp2;go_ret;exact⟨rfl,rfl⟩
theorem C7(a len cap l)(x:Int)(w:World)(hx:chk l=x)(h:OpsAt w a len l) :
  ZH 249 #[F a len cap] w (E J x):=by
 subst hx;exact V7 a len cap l w h
theorem Dd(x:Zj)(a)(n c:Nat)(bf:Int)(w:World)(hO:OpsAt w a n (ck x))(hz:ck1 x=bf) :
  ZH 200 #[cnV x a n c] w (E J bf):=by
 obtain⟨x1,x2,x3,k,x4,x5⟩:=x;unfold cnV;simp only[cv,ck,ch,cr] at hO ⊢;obtain⟨X,Q⟩:=ZG (w.alloc (cR #[E J x1,E J x2,E J x3,F a n c,E J x4,cV x5] 124));obtain⟨n0,n1,n2,n3,n4,n5⟩:=Nf w (E J x1) (E J x2) (E J x3) (F a n c) (E J x4) (cV x5) 124;rw[<-Q] at n0 n1 n2 n3 n4 n5;have hb:ZD w X:=by rw[Q];exact Zh _ _
 have HB:=Zd hb;have HO:=Zd (hO.later hb);have N2:=Zd n2;have N3:=Zd n3;have N4:=Zd n4;clear hO hb n5;cases hp:Zmm (x1,x2) with
 | false=>
  have e:bf=3:=by rw[<-hz];unfold ck1;rw[if_pos (by unfold okC pt;rw[hp];rfl)]
  subst e;have C1:=Zd (Qo x1 x2 false X hp);clear hp hz;go_enter func200,ntmps200;go_wp2_with fail;rw[<-Q];clear Q;go_wp2_with fail;refine C1.mono ?_;rintro e w2 ⟨rfl,z⟩;have ab:=Zd (Zf HB z);clear z;go_wp2;go_ret;exact⟨rfl,Za ab⟩
 | true=>
  have C1:=Zd (Qo x1 x2 true X hp);cases hv:okV x3 with
  | false=>
   have e:bf=3:=(by rw[<-hz];unfold ck1;rw[if_pos (by unfold okC pt;rw[hp];simp only[cv];rw[hv];rfl)]);subst e;have C2:=Zd (λw=>Ys x3 1 1000000000 false w (by rw[<-hv];rfl));clear hp hz hv;go_enter func200,ntmps200;go_wp2_with fail;rw[<-Q];clear Q;go_wp2_with fail;refine C1.mono ?_;rintro e w2 ⟨rfl,z⟩;have m2:=Ze z N2;have ar:w.heap.size<w2.heap.size:=aD _ _ m2;have ab:=Zd (Zf HB z);clear z;go_wp2_with fail;refine (C2 _).mono ?_;rintro e w3 ⟨rfl,rfl⟩;go_wp2;go_ret;exact⟨rfl,Za ab⟩
  | true=>
   have C2:=Zd (λw=>Ys x3 1 1000000000 true w (by rw[<-hv];rfl));cases hh:okH x4 with
   | false=>
    have e:bf=3:=(by rw[<-hz];unfold ck1;rw[if_pos (by unfold okC pt;rw[hp];simp only[cv,ch];rw[hv,hh];rfl)]);subst e;have C3:=Zd (λw=>Vt x4 false w hh);clear hp hz hv hh;go_enter func200,ntmps200;go_wp2_with fail;rw[<-Q];clear Q;go_wp2_with fail;refine C1.mono ?_;rintro e w2 ⟨rfl,z⟩;have m2:=Ze z N2;have m4:=Ze z N4;have ar:w.heap.size<w2.heap.size:=aD _ _ m2;have ab:=Zd (Zf HB z);clear z;go_wp2_with fail;refine (C2 _).mono ?_;rintro e w3 ⟨rfl,rfl⟩;go_wp2_with fail;refine (C3 _).mono ?_;rintro e w3 ⟨rfl,rfl⟩;go_wp2;go_ret;exact⟨rfl,Za ab⟩
   | true=>
    have e:chk k=bf:=(by rw[<-hz];unfold ck1;rw[if_neg (by unfold okC pt;rw[hp];simp only[cv,ch];rw[hv,hh];decide)];rfl);have C3:=Zd (λw=>Vt x4 true w hh);have az:=Zd e;clear hp hz hv hh e;go_enter func200,ntmps200;go_wp2_with fail;rw[<-Q];clear Q;go_wp2_with fail;refine C1.mono ?_;rintro e w2 ⟨rfl,z⟩;have m2:=Ze z N2;have m3:=Ze z N3;have m4:=Ze z N4;have ar:w.heap.size<w2.heap.size:=aD _ _ m2;have C4:=Zd (C7 a n c k bf w2 az (HO.later z));have ab:=Zd (Zf HB z);clear z;go_wp2_with fail;refine (C2 _).mono ?_;rintro e w3 ⟨rfl,rfl⟩;go_wp2_with fail;refine (C3 _).mono ?_;rintro e w3 ⟨rfl,rfl⟩;go_wp2_with fail;refine C4.mono ?_;rintro e w4 ⟨rfl,aq⟩;have bb:=Zd (Zf ab aq);clear aq;go_wp2;go_ret;exact⟨rfl,Za bb⟩
theorem Df(w:World)(n:Nat):ZD w (w.drewN n):=⟨rfl,rfl,rfl,aF _,λ_ _=>rfl⟩
theorem CoinAt.val{w:World}{b o}{x:Zj}(h:CoinAt w b o x):∃ a n c,w.cell? ⟨b,o,none⟩=some (E J x.1)/\w.cell? ⟨b,o+1,none⟩=some (E J x.2.1)/\w.cell? ⟨b,o+2,none⟩=some (E J (cv x)) /\
  w.cell? ⟨b,o+3,none⟩=some (F a n c)/\w.cell? ⟨b,o+4,none⟩=some (E J (ch x))/\w.cell? ⟨b,o+5,none⟩=some (cV (cr x))/\OpsAt w a n (ck x)/\SlOk a n c:=by
 obtain⟨h1,h2,h3,⟨a,n,c,h4,h5,h6⟩,h7,h8⟩:=h;exact⟨a,n,c,h1,h2,h3,h4,h7,h8,h5,h6⟩
theorem Dl(b off n c:Nat)(L:List Zj)(w:World)(hn:n<=720)(hz:L.length=n)(hc:∀ i (h:i<L.length),CoinAt w b (off+i*6) L[i]) :
  ZH 143 #[F (some ⟨b,off,none⟩) n c] w (E J (Yw none 0 L)):=by
 have HC:=Zd hc;have HZ:=Zd hz;clear hc hz;go_enter func143,ntmps143;go_wp2
 go_loopw [3,12] (λsv i wr=>∃ (k:Nat) (S:Int),k<=n/\i = E J k/\sv = E J S/\0<=S/\S<=1000000000/\Hid (Yw none 0 L=Yw (Jj L k) S (L.drop k))/\ZD w wr) (λ_ i _=>n - (intOf i).toNat)
 case atStart=>exact⟨0,0,aM _,rfl,rfl,by decide,by decide,rfl,Below.refl _ _⟩
 case round=>
  obtain⟨k,S,hk,rfl,rfl,dc,dd,A,hb⟩:=hrel;have HB:=Zd hb;by_cases cw:k<n
  ·have bd:k<L.length:=(by rw[Za HZ];exact cw);have bb:=CoinAt.kept _ _ _ _ _ hb (HC k bd);have ST:=Zd (Zlc L k bd (Jj L k) S)
   have HL:Hid (∀ j,k=j+1->∃ q,Jj L k=some (pt q)/\CoinAt wr b (off+j*6) q):=λj hj=>by
    have bk:j<L.length:=(by omega);exact⟨L[j],by rw[hj];exact Hg L j bk,CoinAt.kept _ _ _ _ _ hb (HC j bk)⟩
   have HN:Hid (k+1<=L.length->Jj L (k+1)=some (pt L[k])):=λ_=>Hg L k bd;obtain⟨x,hx⟩:=ZF (L[k]);rw[hx] at bb ST HN;have A2:Hid (Yw none 0 L=if ck1 x≠0 then ck1 x else if Sg (Jj L k) x=false then 6 else if 1000000000<S+cv x then 12 else Yw (some (pt x)) (S+cv x) (L.drop (k+1))):=(by show _=_;rw[Za A,Za ST]);have PN:Hid (Jj L (k+1)=some (pt x)):=HN bd;obtain⟨a,m,d,g1,g2,g3,g4,g5,g6,hO,_⟩:=bb.val;obtain⟨X,hX⟩:=ZG (wr.alloc (cR #[E J x.1,E J x.2.1,E J (cv x),F a m d,E J (ch x),cV (cr x)] 124));obtain⟨n0,n1,n2,n3,n4,n5⟩:=Nf wr (E J x.1) (E J x.2.1) (E J (cv x)) (F a m d) (E J (ch x)) (cV (cr x)) 124;rw[<-hX] at n0 n1 n2 n3 n4 n5;have az:ZD wr X:=(by rw[hX];exact Zh _ _);have dl:wr.heap.size<X.heap.size:=aD _ _ n0;have au:=Zd az;have HO:=Zd (hO.later az);have N0:=Zd n0;have N1:=Zd n1;have N2:=Zd n2;obtain⟨dq,hz⟩:=ZF (ck1 x);have C1:=Zd (Dd x a m d dq X HO hz);rw[hz] at A2;have HX:=Zd hX;by_cases be:dq=0
   ·subst be;have K:=Y7 hz;have cx:1<=cv x:=K.2.2.2.2.1;have cy:cv x<=1000000000:=K.2.2.2.2.2.1
    have A3:Hid (Yw none 0 L=if Sg (Jj L k) x=false then 6 else if 1000000000<S+cv x then 12 else Yw (some (pt x)) (S+cv x) (L.drop (k+1))):=by
     have h:=Za A2;rw[if_neg (by decide)] at h;exact h
    clear K A A2 ST HN hx bb hO hb hz n3 n4 n5 hX;obtain⟨v,hv⟩:=ZF (cv x);rw[hv] at cx cy A3 n2 N2 g3 HX;unfold cnV at C1;rw[hv] at C1;by_cases ag:k=0
    ·have A4:Hid (Yw none 0 L=if 1000000000<S+v then 12 else Yw (some (pt x)) (S+v) (L.drop (k+1))):=by
      have h:=Za A3;rw[ag] at h;rw[if_neg (by show ¬true=false;decide)] at h;rw[ag];exact h
     clear A3 HL;have hg:decide ((0:Int)<(k:Int))=false:=(by rw[ag];decide);have df:decide (0<k)=false:=(by rw[ag];decide);clear ag;go_wp2_with fail;rw[<-Za HX];go_wp2_with fail;refine C1.mono ?_;rintro e w2 ⟨rfl,z⟩;have m2:=Ze z N2;have cj:wr.heap.size<w2.heap.size:=aD _ _ m2;have ab:=Zd (Zf (Zf HB au) z);clear z;go_wp2_with fail
     go_quiet (fail)
     by_cases hf:1000000000<S+v
     ·have R:Hid (Yw none 0 L=12):=(by show _=_;rw[Za A4,if_pos hf]);clear A4;go_wp2;go_ret;exact⟨by rw[Za R];rfl,Zf ab (Df _ _)⟩
     ·have R:Hid (Yw none 0 L=Yw (Jj L (k+1)) (S+v) (L.drop (k+1))):=(by show _=_;rw[Za A4,if_neg hf,Za PN]);clear A4;go_wp2;go_roundw
      case rel=>exact⟨k+1,S+v,by omega,by go_num,rfl,by omega,by omega,R,Zf ab (Df _ _)⟩
      case measure=>simp[intOf];omega
    ·obtain⟨j,rfl⟩:∃ j,k=j+1:=⟨k - 1,by omega⟩;obtain⟨q,hq,cg⟩:=HL j rfl;obtain⟨_,_,_,q1,q2,_,_,_,_,_,_⟩:=cg.val
     have A5:Hid (Yw none 0 L=if lt (pt q) (pt x)=false then 6 else if 1000000000<S+v then 12 else Yw (some (pt x)) (S+v) (L.drop (j+1+1))):=by
      have h:=Za A3;rw[hq] at h;exact h
     have Q1:=Zd (Ze az q1);have Q2:=Zd (Ze az q2);have G:Hid (decide ((0:Int)<((j+1:Nat):Int))=true):=(by show _=_;simp);have dh:(j:Int)<(n:Int):=(by omega);have dn:IntKind.i64.wrap (j:Int)=(j:Int):=(by rw[bI];omega);have dp:IntKind.i64.wrap ((j:Int)+1 - 1)=(j:Int):=(by rw[bI];omega);have bk:j<n:=(by omega);have dg:(0:Int)<=(j:Int):=(by omega);have dm:IntKind.i64.wrap (((j+1:Nat):Int) - 1)=(j:Int):=(by rw[bI];omega);clear A3 HL ag hq cg q1 q2;cases hl:lt (pt q) (pt x) with
     | false=>
      have R:Hid (Yw none 0 L=6):=(by show _=_;rw[Za A5,if_pos hl]);obtain⟨y,hy⟩:=ZF (Gc (pt q) (pt x))
      have cz:0<=y:=by
       rw[<-hy];refine Int.not_lt.1 λh=>?_;rw[Nt,hl] at h;exact Bool.noConfusion h
      have CC:=Zd (λw=>R9 (pt q) (pt x) y w hy);unfold pt at CC;clear A5 hl hy;go_wp2_with fail;rw[<-Za HX];go_wp2_with fail;refine C1.mono ?_;rintro e w2 ⟨rfl,z⟩;have m0:=Ze z N0;have m1:=Ze z N1;have p0:=Ze z Q1;have p1:=Ze z Q2;have cj:wr.heap.size<w2.heap.size:=aD _ _ m0;have ab:=Zd (Zf (Zf HB au) z);clear z n0 n1 n2 g1 g2 g3 g4 g5 g6;have hG:=Za G;go_wp2_with fail
      go_region_held3 (λw'=>ZD w2 w'/\w'.cell? ⟨wr.heap.size,0,none⟩=some (E J x.1)/\w'.cell? ⟨wr.heap.size,1,none⟩=some (E J x.2.1)/\w'.cell? ⟨b,off+j*6,none⟩=some (E J q.1)/\w'.cell? ⟨b,off+j*6+1,none⟩=some (E J q.2.1))
       (first
       | exact⟨Zi _,m0,m1,p0,p1⟩
       | (go_split_ands;refine⟨Zf (by assumption) Q,Ze Q (by assumption),Ze Q (by assumption),Ze Q (by assumption),Ze Q (by assumption)⟩))
       (first|(go_at_call 201;refine (CC _).mono ?_;rintro e w' ⟨rfl,Q⟩))
      rename_i hH;have HH:=Zd (Zf ab hH.1);clear hH;go_wp2;go_ret;exact⟨by rw[Za R];rfl,Za HH⟩
     | true=>
      have A4:Hid (Yw none 0 L=if 1000000000<S+v then 12 else Yw (some (pt x)) (S+v) (L.drop (j+1+1))):=by
       have h:=Za A5;rw[if_neg (by rw[hl];decide)] at h;exact h
      obtain⟨y,hy⟩:=ZF (Gc (pt q) (pt x));have cz:y<0:=(by rw[<-hy,Nt];exact hl);have CC:=Zd (λw=>R9 (pt q) (pt x) y w hy);unfold pt at CC;clear A5 hl hy;go_wp2_with fail;rw[<-Za HX];go_wp2_with fail;refine C1.mono ?_;rintro e w2 ⟨rfl,z⟩;have m0:=Ze z N0;have m1:=Ze z N1;have M2:=Zd (Ze z N2);have p0:=Ze z Q1;have p1:=Ze z Q2;have cj:wr.heap.size<w2.heap.size:=aD _ _ m0;have ab:=Zd (Zf (Zf HB au) z);clear z n0 n1 n2 g1 g2 g3 g4 g5 g6;have hG:=Za G;go_wp2_with fail
      go_region_held3 (λw'=>ZD w2 w'/\w'.cell? ⟨wr.heap.size,0,none⟩=some (E J x.1)/\w'.cell? ⟨wr.heap.size,1,none⟩=some (E J x.2.1)/\w'.cell? ⟨b,off+j*6,none⟩=some (E J q.1)/\w'.cell? ⟨b,off+j*6+1,none⟩=some (E J q.2.1))
       (first
       | exact⟨Zi _,m0,m1,p0,p1⟩
       | (go_split_ands;refine⟨Zf (by assumption) Q,Ze Q (by assumption),Ze Q (by assumption),Ze Q (by assumption),Ze Q (by assumption)⟩))
       (first|(go_at_call 201;refine (CC _).mono ?_;rintro e w' ⟨rfl,Q⟩))
      rename_i hH;have HH:=Zd (Zf ab hH.1);have m2:=Ze hH.1 M2;have dk:=aD _ _ m2;clear hH;by_cases hf:1000000000<S+v
      ·have R:Hid (Yw none 0 L=12):=(by show _=_;rw[Za A4,if_pos hf]);clear A4;go_wp2;go_ret;exact⟨by rw[Za R];rfl,Za HH⟩
      ·have R:Hid (Yw none 0 L=Yw (Jj L (j+1+1)) (S+v) (L.drop (j+1+1))):=(by show _=_;rw[Za A4,if_neg hf,Za PN]);clear A4;go_wp2;go_roundw
       case rel=>exact⟨j+1+1,S+v,by omega,by go_num,rfl,by omega,by omega,R,Za HH⟩
       case measure=>simp[intOf];omega
   ·have R:Hid (Yw none 0 L=dq):=(by show _=_;rw[Za A2,if_pos be]);have gz:(dq != 0)=true:=(by simp[be]);unfold cnV at C1;clear A A2 ST HN HL PN hx bb hO hb hz n3 n4 n5 hX be;go_wp2_with fail;rw[<-Za HX];go_wp2_with fail;refine C1.mono ?_;rintro e w2 ⟨rfl,z⟩;have ab:=Zd (Zf (Zf HB au) z);clear z;go_wp2;go_ret;exact⟨by rw[Za R];rfl,Za ab⟩
  ·have R:Hid (Yw none 0 L=0):=(by show _=_;rw[Za A,Zid L k (by rw[Za HZ];omega)]);clear A hb;go_wp2;go_ret;exact⟨by rw[Za R];rfl,Za HB⟩
theorem Dn(a)(n c:Nat)(w)(h:720<n) :
  Calls aA 143 #[F a n c] w λe w'=>e = cS (E J 2)/\w=w':=by
 go_enter func143,ntmps143;go_wp2;go_ret;exact⟨rfl,rfl⟩
theorem Dm(a c w) :
  Calls aA 143 #[F a 0 c] w λe w'=>e = cS (E J 0)/\w=w':=by
 go_enter func143,ntmps143;go_wp2;refine wp_loop_rounds 1 ?_;rw[bF];go_wp2;go_ret;exact⟨rfl,rfl⟩
theorem V9(a n c L)(ad:Int)(w:World)(h:CoinsAt w a n L)(hz:Yi L=ad) :
  ZH 143 #[F a n c] w (E J ad):=by
 subst hz;obtain⟨z,hc⟩:=h;unfold Yi;rw[z];by_cases h1:720<n
 ·rw[if_pos h1];exact (Dn a n c w h1).mono λe w' ⟨x,y⟩=>⟨x,y ▸ Below.refl _ _⟩
 ·rw[if_neg h1];by_cases h2:n=0
  ·subst h2;have e:L=[]:=aG.1 z;subst e;exact (Dm a c w).mono λe w' ⟨x,y⟩=>⟨x,y ▸ Below.refl _ _⟩
  ·obtain⟨b,off,rfl,_,ab⟩:=hc (by omega);exact Dl b off n c L w (by omega) z ab
def laid(L:List Value)(off:Nat)(cs:List Value):List Value:=L.take off++cs++L.drop (off+cs.length)
theorem Wo(L:List Value)(off:Nat)(cs:List Value)(h:off+cs.length<=L.length):(laid L off cs).length=L.length:=by simp[laid];omega
variable {P : Program}
theorem W9(w:World)(dT sT ty elem:bO)(g o aa af:Nat)(a:Addr)(z ae k:Nat)(Q:Array Value)(t:bO)(cs:List Value)
  (hu:P.underlying dT=some (.slice elem)) (hs:(P.info? elem).map (·.size)=some k)
  (hg:w.heap[g]? = some (cR Q t (0,0))) (hn:cs.length=Nat.min z aa*k)
  (al:∀ j v,cs[j]? = some v->w.cell? (a.add j)=some v) (ag:o+cs.length<=Q.size) (h1:∀ v∈cs,v.oneCell'=true) :
  (Builtin.copy_ #[dT,sT] ty #[F (some ⟨g,o,none⟩) aa af,F (some a) z ae]).run P w =
   .ok (goInt (Nat.min z aa)) (w.setRow g (laid Q.toList o cs).toArray):=by
 have ad:=run_storeCells_at P g o t cs 0 Q w hg (by simpa using ag) h1;cases hq:P.info? elem with
 | none=>simp[hq] at hs
 | some i=>
  have hi:i.size=k:=by simpa[hq] using hs
  have hl:=run_firstCells_some (P:=P) w k (Nat.min z aa) a z ae cs hn al;simp only[Nat.add_zero] at ad;simp[Builtin.copy_,run_underlying hu,Builtin.lenOf,sizeOf,typeInfo,hq,hi,hl,ad,laid]
theorem Jf(w:World)(t e ty:bO)(ak:Value)(ht:P.underlying t=some (.slice e))(hv:∀ w,(zeroValue e).run P w = .ok ak w)(g o n c k:Nat)(z:Array Value)(te:bO)(cs:List Value)(hn:0<n)
  (ac:(Builtin.zeroCells ak.cells n).toList=cs) (hg:w.heap[g]? = some (cR z te (0,0))) (hk:cs.length=n*k) (ad:o+n*k<=z.size) (h1:∀ v∈cs,v.oneCell'=true) :
  (Builtin.clear_ #[t] ty #[F (some ⟨g,o,none⟩) n c]).run P w = .ok (cT #[]) (w.setRow g (laid z.toList o cs).toArray):=by
 have Q:=run_storeCells_at P g o te cs 0 z w hg (by simpa[hk] using ad) h1;simp only[Nat.add_zero] at Q;obtain⟨m,rfl⟩:∃ m,n=m+1:=⟨n - 1,by omega⟩;simp[Builtin.clear_,run_underlying ht,hv,ac,Q,laid]
theorem Ub{ac}{o:Oper}{a:Act}{w:World}{K:Act->World->Prop}{aw:Exit->Act->World->Prop}{ae:Prop}
  (hg:o.guard=none) (s x:Operand) (t:bO) (an:o.op=Op.call { callee:=Callee.builtin Builtin.append,args:=#[s,x],argTypes:=#[t,t] })
  (e:bO) (i:TypeInfo) (size:Nat) (h1:P.underlying t=some (.slice e)) (h2:P.info? e=some i) (h4:i.size=size)
  (b n cap:Nat) (hs:a.eval s = F (some ⟨b,0,none⟩) n cap)
  (ad:Addr) (m c:Nat) (z:List Value) (hx:a.eval x = F (some ad) m c) (hn:z.length=m*size) (hc:∀ j u,z[j]? = some u->w.cell? (ad.add j)=some u) (ag:∀ u∈z,u.oneCell'=true)
  (ap:n+m<=cap) (Q:Array Value) (te:bO) (aq:w.heap[b]? = some (cR Q te (0,0))) (ak:n*size+z.length<=Q.size)
  (hK:K (a.put o.dst (F (some ⟨b,0,none⟩) (n+m) cap)) (w.setRow b (laid Q.toList (n*size) z).toArray)) :
  if Region.wanted o (yielded ac a.tmps)=true then Oper.wp P o a w K aw else ae:=by
 have hw:Region.wanted o (yielded ac a.tmps)=true:=by simp[Region.wanted,hg]
 rw[if_pos hw];subst h4;have aj:=run_firstCells_some (P:=P) w i.size m ad m c z hn hc;have ab:=run_storeCells_at P b (n*i.size) te z 0 Q w aq (by simpa using ak) ag;simp only[Nat.add_zero] at ab
 have ar:(Builtin.append_ #[t,t] o.type #[F (some ⟨b,0,none⟩) n cap,F (some ad) m c]).run P w = .ok (F (some ⟨b,0,none⟩) (n+m) cap) (w.setRow b (laid Q.toList (n*i.size) z).toArray):=by
  simp[Builtin.append_,run_underlying h1,sizeOf,typeInfo,h2,Builtin.lenOf,ap,aj,Addr.add_lit,ab,laid]
 unfold Oper.wp;simp[execOp,an,resolve,invoke,builtin,hs,hx,ar,Result.andThen];exact hK
theorem Vp(w){Q rest}{o:Oper}{a:Act}{ag:Exit->Act->World->Prop}(ac:o.guard=none)(d s:Operand)(t t':bO)
  (ho:o.op = .call { callee:=.builtin .append,args:=#[d,s],argTypes:=#[t,t'] }) (v u) (hd:a.eval d=v) (hs:a.eval s=u) {v' w'}
  (hr:(Builtin.append_ #[t,t'] o.type #[v,u]).run P w = .ok v' w') (h:wpList P Q ag rest (a.put o.dst v') w'):wpList P Q ag (o :: rest) a w:=by
 refine wpList_plain ac λK hK=>?_;unfold Oper.wp;simp[execOp,ho,resolve,invoke,builtin,hd,hs,hr,Result.andThen];exact hK _ _ h
abbrev CV:=Zj×Option Addr×Nat×Nat
def Zm:List CV->List Value
 | []=>[]
 | x :: r=>E J x.1.1 :: E J x.1.2.1 :: E J (cv x.1) :: .slice x.2.1 x.2.2.1 x.2.2.2 :: E J (ch x.1) :: cV (cr x.1) :: Zm r
theorem Z6:∀ l:List CV,(Zm l).length=l.length*6
 | []=>rfl
 | _ :: r=>by simp only[Zm,List.length_cons,Z6 r];omega
theorem Yh:∀ l m:List CV,Zm (l++m)=Zm l++Zm m
 | [],_=>rfl
 | _ :: r,m=>by simp only[List.cons_append,Zm,Yh r m]
theorem Tz:∀ (l:List CV) (i:Nat) (h:i<l.length),(Zm l)[i*6]? = some (E J (l[i]).1.1)/\(Zm l)[i*6+1]? = some (E J (l[i]).1.2.1)/\(Zm l)[i*6+2]? = some (E J (cv (l[i]).1))/\(Zm l)[i*6+3]? = some (.slice (l[i]).2.1 (l[i]).2.2.1 (l[i]).2.2.2)/\(Zm l)[i*6+4]? = some (E J (ch (l[i]).1))/\(Zm l)[i*6+5]? = some (cV (cr (l[i]).1))
 | [],_,h=>absurd h (by simp)
 | x :: r,0,_=>⟨rfl,rfl,rfl,rfl,rfl,rfl⟩
 | x :: r,i+1,h=>by
  have:=Tz r i (by simpa using h);have e:(i+1)*6=i*6+6:=by omega
  rw[e];exact this
theorem Xr:∀ (l:List CV) (u:Value),u∈Zm l->u.oneCell'=true
 | [],u,h=>by cases h
 | x :: r,u,h=>by
  simp only[Zm,bB] at h
  rcases h with rfl|rfl|rfl|rfl|rfl|rfl|h
  ·rfl
  ·rfl
  ·rfl
  ·rfl
  ·rfl
  ·rfl
  ·exact Xr r u h
theorem Ui:∀ (l:List CV) (i:Nat),(Zm l).take (i*6)=Zm (l.take i)
 | [],i=>by simp[Zm]
 | x :: r,0=>by simp[Zm]
 | x :: r,i+1=>by
  rw[show (i+1)*6=i*6+6 by omega,List.take_succ_cons];simp only[Zm,List.take_succ_cons,Ui r i]
theorem Uj:∀ (l:List CV) (i:Nat),(Zm l).drop (i*6)=Zm (l.drop i)
 | [],i=>by simp[Zm]
 | x :: r,0=>by simp[Zm]
 | x :: r,i+1=>by
  rw[show (i+1)*6=i*6+6 by omega,List.drop_succ_cons];simp only[Zm,List.drop_succ_cons,Uj r i]
def LkAt(w:World)(x:CV):Prop:=OpsAt w x.2.1 x.2.2.1 (ck x.1)/\SlOk x.2.1 x.2.2.1 x.2.2.2
theorem LkAt.later{w w':World}{x:CV}(h:LkAt w x)(z:ZD w w'):LkAt w' x:=⟨h.1.later z,h.2⟩
theorem Wq{w:World}{base:Nat}{v}{K:List CV}(h:w.ownsRow base 124 6 v K.length (Zm K))(z:∀ x∈K,LkAt w x):∃ a c,v = F a K.length c/\CoinsAt w a K.length (K.map (·.1))/\SlOk a K.length c:=by
 rcases h.2 with ⟨rfl,Q⟩|⟨g,cap,ah,rfl,hg,hh,h1,h2,h3,h4⟩
 ·rw[Q];have e:K=[]:=aG.1 Q;subst e;exact⟨none,0,rfl,RowsAt.nil _ _,aF _,aM _,λ_=>⟨rfl,rfl⟩⟩
 ·refine⟨_,cap,rfl,⟨by simp,λ_=>⟨g,0,rfl,lt_of_block hh,λi hi=>?_⟩⟩,h1,h2,λe=>by cases e⟩;rw[List.length_map] at hi;obtain⟨f0,f1,f2,f3,f4,f5⟩:=Tz K i hi;rw[List.getElem_map];refine⟨?_,?_,?_,⟨_,_,_,?_,(z _ (aX hi)).1,(z _ (aX hi)).2⟩,?_,?_⟩
  all_goals rw[Nat.zero_add,World.ownsRow.cellAt h _ (by omega)]
  ·exact f0
  ·exact f1
  ·exact f2
  ·exact f3
  ·exact f4
  ·exact f5
theorem Vj{w:World}{b off:Nat}:∀ {L:List Zj},(∀ i (h:i<L.length),CoinAt w b (off+i*6) L[i])->∃ K:List CV,K.map (·.1)=L/\(∀ x∈K,LkAt w x)/\∀ j u,(Zm K)[j]? = some u->w.cell? ⟨b,off+j,none⟩=some u:=by
 intro L h
 have h2:∀ k,k<=L.length->∃ K:List CV,K.map (·.1)=L.take k/\(∀ x∈K,LkAt w x)/\∀ j u,(Zm K)[j]? = some u->w.cell? ⟨b,off+j,none⟩=some u:=by
  intro k
  induction k with
  | zero=>intro _;exact⟨[],by simp,λx hx=>(by cases hx),λj u z=>by simp[Zm] at z⟩
  | succ k ih=>
   intro hk;obtain⟨K,h1,h2,h3⟩:=ih (by omega);obtain⟨a,n,c,g1,g2,g3,g4,g5,g6,h5,h6⟩:=(h k (by omega)).val;have Q:K.length=k:=(by have:=congrArg List.length h1;simpa[Nat.min_eq_left (show k<=L.length by omega)] using this);refine⟨K++[(L[k],a,n,c)],by rw[List.map_append,h1,aV (by omega)];rfl,λx hx=>?_,λj u z=>?_⟩
   ·rcases List.mem_append.1 hx with hx|hx
    ·exact h2 x hx
    ·rw[List.mem_singleton.1 hx];exact⟨h5,h6⟩
   ·rw[Yh] at z
    rcases Nat.lt_or_ge j (k*6) with q|q
    ·rw[List.getElem?_append_left (by rw[Z6,Q];exact q)] at z;exact h3 j u z
    ·rw[List.getElem?_append_right (by rw[Z6,Q];exact q),Z6,Q] at z;obtain⟨r,rfl⟩:∃ r,j=k*6+r:=⟨j - k*6,by omega⟩;rw[Nat.add_sub_cancel_left] at z;rw[show off+(k*6+r)=off+k*6+r by omega]
     match r,z with
     | 0,z=>simp only[Zm,List.getElem?_cons_zero,bG] at z;subst z;exact g1
     | 1,z=>simp only[Zm,List.getElem?_cons_zero,List.getElem?_cons_succ,bG] at z;subst z;exact g2
     | 2,z=>simp only[Zm,List.getElem?_cons_zero,List.getElem?_cons_succ,bG] at z;subst z;exact g3
     | 3,z=>simp only[Zm,List.getElem?_cons_zero,List.getElem?_cons_succ,bG] at z;subst z;exact g4
     | 4,z=>simp only[Zm,List.getElem?_cons_zero,List.getElem?_cons_succ,bG] at z;subst z;exact g5
     | 5,z=>simp only[Zm,List.getElem?_cons_zero,List.getElem?_cons_succ,bG] at z;subst z;exact g6
     | r+6,z=>simp[Zm] at z
 obtain⟨K,h1,h3⟩:=h2 L.length (aF _);exact⟨K,by rw[h1,List.take_length],h3⟩
def zeroC:Value:=.agg #[E J 0,E J 0,E J 0,F none 0 0,E J 0,cV false]
theorem Tryz.infoCoin:(Tryz.prog.info? 124).map (λi=>(i.zero,i.size,i.bytes))=some (some zeroC,6,64):=by kernel_rfl
theorem Xj{w:World}{base:Nat}{e:bO}{size:Nat}{v:Value}{n:Nat}{xs}(h:w.ownsRow base e size v n xs)(k:Nat)(z:v.ownBlock=some k):base<=k:=by
 rcases h.2 with ⟨rfl,_⟩|⟨g,cap,aa,rfl,Q,_⟩
 ·cases z
 ·cases z;exact Q
theorem Wa(w:World)(e:bO)(size:Nat):(w.alloc (cR #[] e)).ownsRow w.heap.size e size (F (some ⟨w.heap.size,0,none⟩) 0 0) 0 []:=
 ⟨by simp,.inr ⟨w.heap.size,0,#[],rfl,aF _,heap_alloc_new w _,aF _,aM _,by simp,by simp⟩⟩
theorem Lu(w):Calls aA 138 #[F none 0 0] w λe w'=>e = cS (F none 0 0)/\w=w':=by
 have z:=λw=>Lib.run_eql_slice_nil (P:=aA) w 29 124 none 0 0 0 0 cA;go_enter func138,ntmps138;go_wp2;go_ret;exact⟨rfl,rfl⟩
theorem Jt(z:Addr)(n c:Nat)(K:List CV)(w:World)(hn:n<=4096)(hz:K.length=n)(hc:∀ j u,(Zm K)[j]? = some u->w.cell? (z.add j)=some u) :
  Calls aA 138 #[F (some z) n c] w λe w'=>∃ v,e = cS v/\w'.ownsRow w.heap.size 124 6 v n (Zm K)/\ZD w w':=by
 obtain⟨i0,hi,am,an,ap⟩:=info_parts Tryz.infoCoin;have hb:=Zh w (cR #[] 124);have HC:Hid (∀ j u,(Zm K)[j]? = some u->(w.alloc (cR #[] 124)).cell? (z.add j)=some u):=λj u hj=>Ze hb (hc j u hj);have Q:=Zd hb;have HZ:=Zd hz;have HO:=Zd (Wa w 124 6);have he:=λw=>Lib.run_eql_slice_nil (P:=aA) w 29 124 (some z) n c 0 0 cA;clear hc hb hz;go_enter func138,ntmps138
 go_wp2_with (at_builtin;refine wpList_append_own _ rfl _ _ 29 rfl w.heap.size 124 i0 zeroC 6 64 cA hi am an ap rfl (by decide) _ _ _ rfl HO z n c (Zm K) rfl (by rw[Z6,Za HZ]) HC (Xr K) (by unfold maxLen;omega) (by omega) Q.size ?_;intro v2 w3 ae ad _)
 have HW:Hid (w3.ownsRow w.heap.size 124 6 v2 n (Zm K)):=by show World.ownsRow _ _ _ _ _ _ _;simpa using ae
 have ag:=Zd (Q.grown ad Q.size (Xj HO));clear ae ad;go_wp2;go_ret;exact⟨v2,rfl,Za HW,Za ag⟩
theorem Rs(a)(n c:Nat)(L)(w:World)(hn:n<=4096)(h:CoinsAt w a n L)(hs:SlOk a n c) :
  Calls aA 138 #[F a n c] w λe w'=>∃ v,∃ K:List CV,e = cS v/\K.map (·.1)=L/\(∀ x∈K,LkAt w x)/\w'.ownsRow w.heap.size 124 6 v K.length (Zm K)/\ZD w w':=by
 obtain⟨Q,hc⟩:=h;cases a with
 | none=>
  obtain⟨rfl,rfl⟩:=hs.2.2 rfl;have e:L=[]:=aG.1 Q;subst e;exact (Lu w).mono λe w' ⟨x,y⟩=>⟨_,[],x,rfl,λ_ hx=>(by cases hx),y ▸ ⟨rfl,.inl ⟨rfl,rfl⟩⟩,y ▸ Below.refl _ _⟩
 | some ad=>
  by_cases h0:n=0
  ·subst h0;have e:L=[]:=aG.1 Q;subst e;exact (Jt ad 0 c [] w hn rfl (λj u z=>by simp[Zm] at z)).mono λe w' ⟨v,x,y,ah⟩=>⟨v,[],x,rfl,λ_ hx=>(by cases hx),y,ah⟩
  ·obtain⟨b,off,e,_,af⟩:=hc (by omega);obtain⟨rfl⟩:=e;obtain⟨K,h1,h2,h3⟩:=Vj af;have hk:K.length=n:=(by rw[<-Q,<-h1,List.length_map]);exact (Jt ⟨b,off,none⟩ n c K w hn hk (λj u z=>by rw[Addr.add_lit];exact h3 j u z)).mono λe w' ⟨v,x,y,ah⟩=>⟨v,K,x,h1,h2,by rw[hk];exact y,ah⟩
