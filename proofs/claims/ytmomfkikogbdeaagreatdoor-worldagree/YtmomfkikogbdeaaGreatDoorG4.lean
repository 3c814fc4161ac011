import Derived.Test.YtmomfkikogbdeaaGreatDoorH
import Derived.Test.YtmomfkikogbdeaaGreatDoorG3
import Derived.Deep.RegionHeld3
import Derived.Laws.CopyOwn
import Derived.Lib.AppendZerosOnto
import Derived.Lib.Overlaps
open Go.Proofs.Tryz
open Bool renaming and_eq_true->cG
open Go renaming TypeId->cF,rounds_succ->bK
open Go.Ending renaming returned->dF
open Go.IntKind renaming wrap_i64->bR,i64->J
open Go.Obj renaming cells->dE
open Go.Proofs.Tryz renaming prog->aB,underlying29->cI
open Go.Value renaming int->E,slice->F,tuple->dG,bool->dI
open Go.World renaming block_lt_of_cell?->aE
open List renaming mem_cons->aO,mem_cons_of_mem->cH,take_succ_eq_append_getElem->bA,drop_eq_getElem_cons->aJ,drop_of_length_le->bU,mem_append->bL,getElem?_eq_getElem->aZ,getElem_mem->bE,length_eq_zero_iff->aL
open Nat renaming le_refl->aF,zero_le->aI
open Option.some renaming injEq->bJ
set_option maxHeartbeats 6400000
set_option maxRecDepth 10000
namespace Go.Proofs.YtmomfkikogbdeaaGreatDoor
open Go.RowKit
theorem Zec(h:Int)(I:List InD)(O)(ni:Nat)(hz:I.length=ni):Fs (h,I,O)=if ni=0 then decide (1<=h) && decide (h<=1000) else decide (h=0):=by
 unfold Fs;simp only[hz]
theorem Vn(h:Int)(ai ao ni ci no co I O)(w:World)(hI:InsAt w ai ni I)(hO:OutsAt w ao no O)(sI:SlOk ai ni ci) :
  ZH 152 #[.agg #[E J h,F ai ni ci,F ao no co]] w (E J (Zq (h,I,O))):=by
 have hb:=Zh w (dE #[E J h,F ai ni ci,F ao no co] 59);obtain⟨n0,n1,n2⟩:=Sy w (E J h) (F ai ni ci) (F ao no co) 59;obtain⟨HB,N0,N1,N2,HI,HO,HS⟩:=kh7 hb n0 n1 n2 (hI.later hb) (hO.later hb) sI;have zi:=hI.1;have zo:=hO.1;clear hb n0 n1 n2 hI hO sI;by_cases h1:6<ni
 ·have e:Zq (h,I,O)=2:=by unfold Zq;rw[if_pos (Or.inl (by show 6<I.length;omega))]
  rw[e];have g:(6:Int)<(ni:Int):=by omega
  clear e h1 zi zo;go_enter func152,ntmps152;go_wp2;go_ret;exact⟨rfl,Za HB⟩
 ·by_cases h2:6<no
  ·have e:Zq (h,I,O)=2:=(by unfold Zq;rw[if_pos (Or.inr (by show 6<O.length;omega))]);rw[e];have g:¬(6:Int)<(ni:Int):=(by omega);have g':(6:Int)<(no:Int):=(by omega);clear e h1 h2 zi zo;go_enter func152,ntmps152;go_wp2;go_ret;exact⟨rfl,Za HB⟩
  ·have g:¬(6:Int)<(ni:Int):=(by omega);have g':¬(6:Int)<(no:Int):=(by omega);have e1:¬(6<I.length\/6<O.length):=(by omega);by_cases h3:no=0
   ·have e:Zq (h,I,O)=4:=(by unfold Zq;rw[if_neg e1,if_pos (by show O.length=0;omega)]);rw[e];subst h3;clear e e1 h1 h2 zi zo;go_enter func152,ntmps152;go_wp2;go_ret;exact⟨rfl,Za HB⟩
   ·have g3:((no:Int) == 0)=false:=(by simp;omega);have e3:¬O.length=0:=(by omega);cases hf:Fs (h,I,O) with
    | false=>
     have e:Zq (h,I,O)=3:=(by unfold Zq;rw[if_neg e1,if_neg e3,if_pos hf]);rw[e];have C:=Zd (Rv h ai ao ni ci no co false (w.alloc (dE #[E J h,F ai ni ci,F ao no co] 59)) (by rw[<-Zec h I O ni zi];exact hf));clear e e1 e3 h1 h2 h3 zi zo hf;go_enter func152,ntmps152;go_wp2_with fail;refine C.mono ?_;rintro e w2 ⟨rfl,aa⟩;have ag:=Zd (Zf HB aa);clear aa;go_wp2;go_ret;exact⟨rfl,Za ag⟩
    | true=>
     have C:=Zd (Rv h ai ao ni ci no co true (w.alloc (dE #[E J h,F ai ni ci,F ao no co] 59)) (by rw[<-Zec h I O ni zi];exact hf));have e4:¬Fs (h,I,O)=false:=(by rw[hf];decide);by_cases h5:Yj [] I=0
     ·obtain⟨z,hz⟩:=ZF (Ym O)
      have e:Zq (h,I,O)=z:=by
       unfold Zq;rw[if_neg e1,if_neg e3,if_neg e4,if_neg (by intro q;exact q h5)];exact hz
      rw[e];obtain⟨H5,HZ⟩:=kh2 h5 hz;have ap:Hid (ni<=6):=(by show _<=_;omega);have aw:Hid (no<=6/\0<no):=⟨by omega,by omega⟩;clear e e1 e3 e4 h1 h2 h3 zi zo hf h5 hz;go_enter func152,ntmps152;go_wp2_with fail;refine C.mono ?_;rintro e w2 ⟨rfl,aa⟩;have m1:=Ze aa N1;have M2:=Zd (Ze aa N2);have bd:w.heap.size<w2.heap.size:=aE _ _ m1;obtain⟨CI,ag⟩:=kh2 (Gn ai ni ci I 0 w2 ap HS (HI.later aa) H5) aa;clear aa;go_wp2_with fail;refine CI.mono ?_;rintro e w3 ⟨rfl,ae⟩;have m2:=Ze ae M2;have bu:w.heap.size<w3.heap.size:=aE _ _ m2;obtain⟨CO,aq⟩:=kh2 (Ac ao no co O z w3 aw.1 aw.2 ((HO.later ag).later ae) HZ) (Zf (Zf HB ag) ae);clear ae m1 bd;go_wp2_with fail;refine CO.mono ?_;rintro e w4 ⟨rfl,bb⟩;have bi:=Zd (Zf aq bb);clear bb;go_wp2;go_ret;exact⟨rfl,Za bi⟩
     ·obtain⟨z,hz⟩:=ZF (Yj [] I)
      have e:Zq (h,I,O)=z:=by
       unfold Zq;rw[if_neg e1,if_neg e3,if_neg e4,if_pos h5];exact hz
      rw[e];have HZ:=Zd hz;rw[hz] at h5;have gz:(z != 0)=true:=(by simp[h5]);have ap:Hid (ni<=6):=(by show _<=_;omega);clear e e1 e3 e4 h1 h2 h3 zi zo hf h5 hz;go_enter func152,ntmps152;go_wp2_with fail;refine C.mono ?_;rintro e w2 ⟨rfl,aa⟩;have m1:=Ze aa N1;have bd:w.heap.size<w2.heap.size:=aE _ _ m1;obtain⟨CI,ag⟩:=kh2 (Gn ai ni ci I z w2 ap HS (HI.later aa) HZ) aa;clear aa;go_wp2_with fail;refine CI.mono ?_;rintro e w3 ⟨rfl,ae⟩;have aq:=Zd (Zf (Zf HB ag) ae);clear ae;go_wp2;go_ret;exact⟨rfl,Za aq⟩
abbrev Zj:=Int×Int×Int×List (Int×Int)×Int×Bool
abbrev PtD:=Int×Int
def pt(c:Zj):PtD:=(c.1,c.2.1)
def cv(c:Zj):Int:=c.2.2.1
def ck(c:Zj):List (Int×Int):=c.2.2.2.1
def ch(c:Zj):Int:=c.2.2.2.2.1
def cr(c:Zj):Bool:=c.2.2.2.2.2
def lt(p q:PtD):Bool:=decide (p.1<q.1) || (decide (p.1=q.1) && decide (p.2<q.2))
theorem Pg(p q:PtD):lt p q=true↔p.1<q.1\/p.1=q.1/\p.2<q.2:=by simp[lt]
theorem Pf(p:PtD):lt p p=false:=by
 rw[<-Bool.not_eq_true,Pg];omega
theorem lt_trans{p q r:PtD}(h1:lt p q=true)(h2:lt q r=true):lt p r=true:=by
 rw[Pg] at *;omega
theorem K5{p q:PtD}(h1:lt p q=true):lt q p=false:=by
 rw[<-Bool.not_eq_true,Pg];rw[Pg] at h1;omega
theorem Zkm(p q:PtD):lt p q=true\/p=q\/lt q p=true:=by
 rw[Pg,Pg,Prod.ext_iff];omega
theorem Sg{p q:PtD}(h:lt p q=true):p≠q:=λe=>by
 subst e;rw[Pf] at h;exact Bool.noConfusion h
def Gv(p q:PtD):Int:=if lt p q then -1 else if p=q then 0 else 1
theorem Fu{p q:PtD}:Gv p q<0↔lt p q=true:=by
 unfold Gv;split
 ·simp[*]
 ·split
  ·rename_i h e;subst e;simp[Pf]
  ·simp[*]
theorem Zov{p q:PtD}:Gv p q=0↔p=q:=by
 unfold Gv;split
 ·rename_i h;simp[Sg h]
 ·split <;> simp[*]
def Srt(L:List Zj):Prop:=L.Pairwise λa b=>lt (pt a) (pt b)=true
theorem Srt.tail{c:Zj}{L}(h:Srt (c :: L)):Srt L:=(List.pairwise_cons.1 h).2
theorem Srt.head{c:Zj}{L}(h:Srt (c :: L)):∀ x∈L,lt (pt c) (pt x)=true:=(List.pairwise_cons.1 h).1
theorem Srt.inj{L}(h:Srt L):∀ {x y:Zj},x∈L->y∈L->pt x=pt y->x=y:=by
 induction L with
 | nil=>intro x y hx;cases hx
 | cons c L ih=>
  intro x y hx hy e
  rcases aO.1 hx with rfl|hx <;> rcases aO.1 hy with rfl|hy
  ·rfl
  ·exact absurd e (Sg (h.head y ‹y∈L›))
  ·exact absurd e.symm (Sg (h.head x ‹x∈L›))
  ·exact ih h.tail hx hy e
theorem Srt.ext:∀ {L M:List Zj},Srt L->Srt M->(∀ x,x∈L↔x∈M)->L=M
 | [],[],_,_,_=>rfl
 | [],c :: M,_,_,h=>absurd ((h c).2 (List.mem_cons_self ..)) (by simp)
 | c :: L,[],_,_,h=>absurd ((h c).1 (List.mem_cons_self ..)) (by simp)
 | c :: L,d :: M,h1,h2,h=>by
  have e:c=d:=by
   rcases aO.1 ((h c).1 (List.mem_cons_self ..)) with e|e
   ·exact e
   rcases aO.1 ((h d).2 (List.mem_cons_self ..)) with f|f
   ·exact f.symm
   ·have g:=K5 (h2.head _ e);rw[h1.head _ f] at g;exact Bool.noConfusion g
  subst e;rw[Srt.ext h1.tail h2.tail λx=>⟨λhx=>?_,λhx=>?_⟩]
  ·rcases aO.1 ((h x).1 (cH _ hx)) with rfl|q
   ·exact absurd rfl (Sg (h1.head _ hx))
   ·exact q
  ·rcases aO.1 ((h x).2 (cH _ hx)) with rfl|q
   ·exact absurd rfl (Sg (h2.head _ hx))
   ·exact q
def Zqn(p:PtD):Bool:=(decide (1<=p.1) && decide (p.1<=120)) && (decide (0<=p.2) && decide (p.2<=5))
def okV(n:Int):Bool:=decide (1<=n) && decide (n<=1000000000)
def okH(n:Int):Bool:=decide (1<=n) && decide (n<=1000)
def okC(c:Zj):Bool:=Zqn (pt c) && (okV (cv c) && okH (ch c))
def ck1(c:Zj):Int:=if okC c=false then 3 else chk (ck c)
theorem Yy{c:Zj}(h:ck1 c=0):1<=c.1/\c.1<=120/\0<=c.2.1/\c.2.1<=5/\1<=cv c/\cv c<=1000000000/\1<=ch c/\ch c<=1000/\chk (ck c)=0:=by
 unfold ck1 at h;split at h
 ·cases h
 ·rename_i q;simp only[Bool.not_eq_false,okC,Zqn,okV,okH,pt,cG,decide_eq_true_eq] at q;exact⟨of_decide_eq_true q.1.1.1,of_decide_eq_true q.1.1.2,of_decide_eq_true q.1.2.1,of_decide_eq_true q.1.2.2,q.2.1.1,q.2.1.2,q.2.2.1,q.2.2.2,h⟩
def Ss(p:Option PtD)(c:Zj):Bool:=match p with|none=>true|some p=>lt p (pt c)
def Y8:Option PtD->Int->List Zj->Int
 | _,_,[]=>0
 | p,s,c :: r=>if ck1 c≠0 then ck1 c else if Ss p c=false then 6 else if 1000000000<s+cv c then 12 else Y8 (some (pt c)) (s+cv c) r
def Z8(L:List Zj):Int:=if 720<L.length then 2 else Y8 none 0 L
def Jn(L:List Zj)(k:Nat):Option PtD:=if k=0 then none else (L[k - 1]?).map pt
def Zp(L:List Zj):Int:=(L.map cv).sum
def Yz(L:List Z3):Int:=(L.map (·.1)).sum
theorem Hv:Zp []=0:=rfl
theorem Xt(c:Zj)(L):Zp (c :: L)=cv c+Zp L:=by simp[Zp]
theorem Wq(L M):Zp (L++M)=Zp L+Zp M:=by simp[Zp]
theorem Sz(L:List Zj)(k:Nat)(h:k<L.length):Zp (L.take (k+1))=Zp (L.take k)+cv L[k]:=by
 rw[bA h,Wq,Xt,Hv];omega
theorem Nf(L:List Z3)(k:Nat)(h:k<L.length):Yz (L.take (k+1))=Yz (L.take k)+L[k].1:=by
 rw[bA h];unfold Yz;rw[List.map_append,List.sum_append];simp
theorem Kg(L:List Zj)(k:Nat)(h:k<L.length):Jn L (k+1)=some (pt L[k]):=by
 unfold Jn;rw[if_neg (by omega)];simp[h]
theorem Zoy(L:List Zj)(k:Nat)(h:k<L.length)(p:Option PtD)(s:Int):Y8 p s (L.drop k)=if ck1 L[k]≠0 then ck1 L[k] else if Ss p L[k]=false then 6 else if 1000000000<s+cv L[k] then 12 else Y8 (some (pt L[k])) (s+cv L[k]) (L.drop (k+1)):=by
 rw[aJ h,Y8]
theorem Zlk(L:List Zj)(k:Nat)(h:L.length<=k)(p:Option PtD)(s:Int):Y8 p s (L.drop k)=0:=by
 rw[bU h,Y8]
theorem Zll{c:Zj}{r}{p:Option PtD}{s:Int}(h:ck1 c≠0):Y8 p s (c :: r)=ck1 c:=by rw[Y8,if_pos h]
theorem Zcn{c:Zj}{r}{p:Option PtD}{s:Int}(h:ck1 c=0)(h2:Ss p c=false):Y8 p s (c :: r)=6:=by
 rw[Y8,if_neg (by rw[h];decide),if_pos h2]
theorem Zhg{c:Zj}{r}{p:Option PtD}{s:Int}(h:ck1 c=0)(h2:Ss p c=true)(h3:1000000000<s+cv c):Y8 p s (c :: r)=12:=by
 rw[Y8,if_neg (by rw[h];decide),if_neg (by rw[h2];decide),if_pos h3]
theorem Zox{c:Zj}{r}{p:Option PtD}{s:Int}(h:ck1 c=0)(h2:Ss p c=true)(h3:¬1000000000<s+cv c):Y8 p s (c :: r)=Y8 (some (pt c)) (s+cv c) r:=by
 rw[Y8,if_neg (by rw[h];decide),if_neg (by rw[h2];decide),if_neg h3]
theorem Wp:∀ (L:List Zj),(∀ c∈L,0<=cv c)->0<=Zp L
 | [],_=>Int.le_refl _
 | c :: r,h=>by
  rw[Xt];have h1:=h c (List.mem_cons_self ..);have h2:=Wp r λx hx=>h x (cH _ hx);omega
theorem Dl:∀ (L:List Zj) (p:Option PtD) (s:Int),0<=s->s<=1000000000->(Y8 p s L=0↔(∀ c∈L,ck1 c=0)/\Srt L/\(∀ c∈L,Ss p c=true)/\s+Zp L<=1000000000)
 | [],p,s,_,h=>by simp[Y8,Srt,Zp,h]
 | c :: r,p,s,h0,h=>by
  by_cases h1:ck1 c=0
  ·have hv:1<=cv c:=(Yy h1).2.2.2.2.1;cases h2:Ss p c with
   | false=>
    rw[Zcn h1 h2];refine⟨λe=>(by cases e),λe=>?_⟩;have:=e.2.2.1 c (List.mem_cons_self ..);rw[h2] at this;exact Bool.noConfusion this
   | true=>
    by_cases h3:1000000000<s+cv c
    ·rw[Zhg h1 h2 h3];refine⟨λe=>(by cases e),λe=>?_⟩
     have h4:0<=Zp r:=Wp r λx hx=>by
      have:=(Yy (e.1 x (cH _ hx))).2.2.2.2.1;omega
     have h5:=e.2.2.2;rw[Xt] at h5;omega
    ·rw[Zox h1 h2 h3,Dl r (some (pt c)) (s+cv c) (by omega) (by omega),Xt];constructor
     ·rintro ⟨a1,a2,a3,a4⟩;refine⟨λx hx=>?_,List.pairwise_cons.2 ⟨λx hx=>a3 x hx,a2⟩,λx hx=>?_,by omega⟩
      ·rcases aO.1 hx with rfl|hx
       ·exact h1
       ·exact a1 x hx
      ·rcases aO.1 hx with rfl|hx
       ·exact h2
       ·cases p with
        | none=>rfl
        | some p=>exact lt_trans h2 (a3 x hx)
     ·rintro ⟨a1,a2,a3,a4⟩;exact⟨λx hx=>a1 x (cH _ hx),Srt.tail a2,λx hx=>Srt.head a2 x hx,by omega⟩
  ·rw[Zll h1];exact⟨λe=>absurd e h1,λe=>absurd (e.1 c (List.mem_cons_self ..)) h1⟩
structure Yd(L:List Zj):Prop where
 len:L.length<=720
 one:∀ c∈L,ck1 c=0
 srt:Srt L
 sum:Zp L<=1000000000
theorem Z7(L):Z8 L=0↔Yd L:=by
 unfold Z8;by_cases h:720<L.length
 ·rw[if_pos h];exact⟨λe=>(by cases e),λe=>absurd e.len (by omega)⟩
 ·rw[if_neg h,Dl L none 0 (by omega) (by omega)];exact⟨λ⟨a,b,_,c⟩=>⟨by omega,a,b,by omega⟩,λe=>⟨e.one,e.srt,λ_ _=>rfl,by have:=e.sum;omega⟩⟩
def pos(p:PtD)(L:List Zj):Nat:=L.countP λc=>lt (pt c) p
def Wx(p:PtD)(L:List Zj):Bool:=L.any λc=>decide (pt c=p)
def Uc(p:PtD)(L:List Zj):Option (Zj×List Zj):=
 match L.find? (λc=>decide (pt c=p)) with|none=>none|some c=>some (c,L.filter λc=>decide (pt c≠p))
def Pb(c:Zj)(L:List Zj):List Zj:=L.filter (λx=>lt (pt x) (pt c))++c :: L.filter λx=>lt (pt c) (pt x)
theorem Srt.filter{L:List Zj}(h:Srt L)(f:Zj->Bool):Srt (L.filter f):=List.Pairwise.filter f h
theorem Jw(p:PtD)(L):Wx p L=true↔∃ c∈L,pt c=p:=by simp[Wx]
theorem Ky{c x:Zj}{L}(h:Wx (pt c) L=false):x∈Pb c L↔x=c\/x∈L:=by
 unfold Pb;rw[bL,aO,List.mem_filter,List.mem_filter];constructor
 ·rintro (⟨a,_⟩|rfl|⟨a,_⟩)
  ·exact .inr a
  ·exact .inl rfl
  ·exact .inr a
 ·rintro (rfl|a)
  ·exact .inr (.inl rfl)
  ·rcases Zkm (pt x) (pt c) with q|q|q
   ·exact .inl ⟨a,q⟩
   ·rw[<-Bool.not_eq_true,Jw] at h;exact absurd ⟨x,a,q⟩ h
   ·exact .inr (.inr ⟨a,q⟩)
theorem T9{c:Zj}{L}(h:Srt L):Srt (Pb c L):=by
 unfold Pb Srt;rw[List.pairwise_append];refine⟨h.filter _,List.pairwise_cons.2 ⟨λx hx=>(List.mem_filter.1 hx).2,h.filter _⟩,λa ha b hb=>?_⟩;have h1:=(List.mem_filter.1 ha).2
 rcases aO.1 hb with rfl|hb
 ·exact h1
 ·exact lt_trans h1 (List.mem_filter.1 hb).2
theorem V8{p:PtD}:∀ {L:List Zj},Srt L->L.take (pos p L)=L.filter (λx=>lt (pt x) p)/\L.drop (pos p L)=L.filter (λx=>!lt (pt x) p)
 | [],_=>by simp[pos]
 | c :: L,h=>by
  obtain⟨h1,h2⟩:=V8 (p:=p) h.tail;unfold pos at *;cases hc:lt (pt c) p with
  | true=>
   rw[List.countP_cons_of_pos (by simpa using hc),List.filter_cons_of_pos (by simpa using hc),List.filter_cons_of_neg (by simp[hc]),List.take_succ_cons,List.drop_succ_cons,h1,h2];exact⟨rfl,rfl⟩
  | false=>
   have h3:∀ x∈L,lt (pt x) p=false:=λx hx=>by
    rw[<-Bool.not_eq_true];intro q;rw[lt_trans (h.head x hx) q] at hc;exact Bool.noConfusion hc
   have e:(c :: L).countP (λc=>lt (pt c) p)=0:=by
    rw[List.countP_eq_zero];intro x hx
    rcases aO.1 hx with rfl|hx
    ·simp[hc]
    ·simp[h3 x hx]
   rw[e,List.take_zero,List.drop_zero];constructor
   ·symm;rw[List.filter_eq_nil_iff]
    intro x hx
    rcases aO.1 hx with rfl|hx
    ·simp[hc]
    ·simp[h3 x hx]
   ·symm;rw[List.filter_eq_self]
    intro x hx
    rcases aO.1 hx with rfl|hx
    ·simp[hc]
    ·simp[h3 x hx]
theorem Zji(p:PtD)(L:List Zj):pos p L<=L.length:=List.countP_le_length ..
theorem Cu{p:PtD}{L:List Zj}(h:Srt L):Wx p L=(decide (pos p L<L.length) && decide ((L[pos p L]?).map pt=some p)):=by
 obtain⟨h1,h2⟩:=V8 (p:=p) h;rw[Bool.eq_iff_iff,Jw,cG,decide_eq_true_eq,decide_eq_true_eq];constructor
 ·rintro ⟨c,hc,e⟩;have hd:c∈L.drop (pos p L):=by rw[h2,List.mem_filter];exact⟨hc,by rw[e,Pf];rfl⟩
  have hl:pos p L<L.length:=by
   rcases Nat.lt_or_ge (pos p L) L.length with q|q
   ·exact q
   ·rw[bU q] at hd;cases hd
  refine⟨hl,?_⟩;have hs:Srt (L.drop (pos p L)):=by rw[h2];exact h.filter _
  rw[aJ hl] at hd hs;rw[aZ hl,Option.map_some]
  rcases aO.1 hd with rfl|q
  ·rw[e]
  ·have g:=hs.head c q;have h3:L[pos p L]∈L.drop (pos p L):=(by rw[aJ hl];exact List.mem_cons_self ..);rw[h2,List.mem_filter] at h3;rw[e] at g;rw[g] at h3;exact absurd h3.2 (by decide)
 ·rintro ⟨hl,e⟩;rw[aZ hl,Option.map_some,bJ] at e;exact⟨L[pos p L],bE hl,e⟩
theorem Zan{p:PtD}{L}(h:Wx p L=false):Uc p L=none:=by
 unfold Uc
 have:L.find? (λc=>decide (pt c=p))=none:=by
  rw[List.find?_eq_none];intro x hx;rw[<-Bool.not_eq_true,Jw] at h;simp only[decide_eq_true_eq];exact λe=>h ⟨x,hx,e⟩
 rw[this]
theorem Nd{p:PtD}{L:List Zj}(h:Srt L){c:Zj}(hc:c∈L)(e:pt c=p):Uc p L=some (c,L.filter λc=>decide (pt c≠p)):=by
 unfold Uc
 have:L.find? (λc=>decide (pt c=p))=some c:=by
  cases q:L.find? (λc=>decide (pt c=p)) with
  | none=>rw[List.find?_eq_none] at q;exact absurd (decide_eq_true e) (q c hc)
  | some d=>
   have h1:=List.find?_some q;have h2:=List.mem_of_find?_eq_some q;simp only[decide_eq_true_eq] at h1;rw[h.inj h2 hc (by rw[h1,e])]
 rw[this]
theorem Ta{p:PtD}{L M:List Zj}{c:Zj}(h:Uc p L=some (c,M)):c∈L/\pt c=p/\M=L.filter λc=>decide (pt c≠p):=by
 unfold Uc at h;split at h
 ·cases h
 ·rename_i d q;simp only[bJ,Prod.mk.injEq] at h;obtain⟨rfl,rfl⟩:=h;have h1:=List.find?_some q;simp only[decide_eq_true_eq] at h1;exact⟨List.mem_of_find?_eq_some q,h1,rfl⟩
theorem Zij{p:PtD}{L:List Zj}(h:Srt L)(hl:pos p L<L.length)(e:pt L[pos p L]=p):Uc p L=some (L[pos p L],L.take (pos p L)++L.drop (pos p L+1)):=by
 rw[Nd h (bE hl) e];obtain⟨h1,h2⟩:=V8 (p:=p) h;have h3:=aJ hl;rw[h2] at h3;have hs:Srt (L[pos p L] :: L.drop (pos p L+1)):=by rw[<-h3];exact h.filter _
 have e1:L.filter (λc=>decide (pt c≠p))=L.take (pos p L)++L.drop (pos p L+1):=by
  have e2:L=L.take (pos p L)++(L[pos p L] :: L.drop (pos p L+1)):=by rw[<-aJ hl,List.take_append_drop]
  have e3:L.filter (λc=>decide (pt c≠p))=(L.take (pos p L)++(L[pos p L] :: L.drop (pos p L+1))).filter (λc=>decide (pt c≠p)):=congrArg _ e2;rw[e3,List.filter_append,List.filter_cons_of_neg (by simp[e])]
  congr 1
  ·rw[List.filter_eq_self];intro x hx;rw[h1,List.mem_filter] at hx;exact decide_eq_true (Sg hx.2)
  ·rw[List.filter_eq_self];intro x hx;have:=hs.head x hx;rw[e] at this;exact decide_eq_true (Ne.symm (Sg this))
 rw[e1]
theorem Zdr{c:Zj}{L:List Zj}(h:Srt L)(hn:Wx (pt c) L=false):Pb c L=L.take (pos (pt c) L)++c :: L.drop (pos (pt c) L):=by
 obtain⟨h1,h2⟩:=V8 (p:=pt c) h;unfold Pb;rw[h1,h2]
 congr 2
 refine List.filter_congr λx hx=>?_;rw[Bool.eq_iff_iff]
 rcases Zkm (pt x) (pt c) with q|q|q
 ·simp[q,K5 q]
 ·rw[<-Bool.not_eq_true,Jw] at hn;exact absurd ⟨x,hx,q⟩ hn
 ·simp[q,K5 q]
def cnV(x:Zj)(a:Option Addr)(n c:Nat):Value:=.agg #[E J x.1,E J x.2.1,E J (cv x),F a n c,E J (ch x),dI (cr x)]
def CoinAt(w:World)(b o:Nat)(x:Zj):Prop:=
 w.cell? ⟨b,o,none⟩=some (E J x.1)/\w.cell? ⟨b,o+1,none⟩=some (E J x.2.1)/\w.cell? ⟨b,o+2,none⟩=some (E J (cv x)) /\
 (∃ a n c,w.cell? ⟨b,o+3,none⟩=some (F a n c)/\OpsAt w a n (ck x)/\SlOk a n c) /\
 w.cell? ⟨b,o+4,none⟩=some (E J (ch x))/\w.cell? ⟨b,o+5,none⟩=some (dI (cr x))
theorem CoinAt.kept:Gq CoinAt:=λ_ _ _ _ _ hb h=>by
 obtain⟨h1,h2,h3,⟨a,n,c,h4,h5,h6⟩,h7,h8⟩:=h;exact⟨Ze hb h1,Ze hb h2,Ze hb h3,⟨a,n,c,Ze hb h4,h5.later hb,h6⟩,Ze hb h7,Ze hb h8⟩
def CoinsAt(w:World)(a:Option Addr)(len:Nat)(l:List Zj):Prop:=RowsAt CoinAt 6 w a len l
theorem CoinsAt.later{w w':World}{a len l}(h:CoinsAt w a len l)(hb:ZD w w'):CoinsAt w' a len l:=RowsAt.later CoinAt.kept h hb
theorem D9(w:World)(a b c d e f)(t:cF):(w.alloc (dE #[a,b,c,d,e,f] t)).cell? ⟨w.heap.size,0,none⟩=some a/\(w.alloc (dE #[a,b,c,d,e,f] t)).cell? ⟨w.heap.size,1,none⟩=some b/\(w.alloc (dE #[a,b,c,d,e,f] t)).cell? ⟨w.heap.size,2,none⟩=some c /\
  (w.alloc (dE #[a,b,c,d,e,f] t)).cell? ⟨w.heap.size,3,none⟩=some d/\(w.alloc (dE #[a,b,c,d,e,f] t)).cell? ⟨w.heap.size,4,none⟩=some e/\(w.alloc (dE #[a,b,c,d,e,f] t)).cell? ⟨w.heap.size,5,none⟩=some f:=by
 refine⟨?_,?_,?_,?_,?_,?_⟩ <;> (rw[World.cell?_alloc_at _ _ _ _ rfl];rfl)
def Jb(x y:Int):Int:=if x<y then -1 else if y<x then 1 else 0
theorem Cp(x:Int)(w):Calls aB 223 #[E J x] w λe w'=>e = dF (dI false)/\w=w':=by
 go_enter func223,ntmps223;go_wp2;go_ret;exact⟨rfl,rfl⟩
theorem R0(x y:Int)(w):Calls aB 231 #[E J x,E J y] w λe w'=>e = dF (E J (Jb x y))/\w=w':=by
 obtain⟨C1,C2⟩:=kh2 (Cp x) (Cp y);by_cases h1:x<y
 ·have e:Jb x y = -1:=by simp[Jb,h1]
  rw[e];clear e;go_enter func231,ntmps231;go_wp2_with fail;refine (C1 _).mono ?_;rintro e w' ⟨rfl,rfl⟩;go_wp2_with fail;refine (C2 _).mono ?_;rintro e w' ⟨rfl,rfl⟩;go_wp2;go_ret;exact⟨rfl,rfl⟩
 ·by_cases h2:y<x
  ·have e:Jb x y=1:=(by simp[Jb,h1,h2]);rw[e];clear e;go_enter func231,ntmps231;go_wp2_with fail;refine (C1 _).mono ?_;rintro e w' ⟨rfl,rfl⟩;go_wp2_with fail;refine (C2 _).mono ?_;rintro e w' ⟨rfl,rfl⟩;go_wp2;go_ret;exact⟨rfl,rfl⟩
  ·have e:Jb x y=0:=(by simp[Jb,h1,h2]);rw[e];clear e;go_enter func231,ntmps231;go_wp2_with fail;refine (C1 _).mono ?_;rintro e w' ⟨rfl,rfl⟩;go_wp2_with fail;refine (C2 _).mono ?_;rintro e w' ⟨rfl,rfl⟩;go_wp2;go_ret;exact⟨rfl,rfl⟩
def orI(x y:Int):Int:=if x=0 then y else x
theorem El(x y:Int)(b c:Nat)(w:World)(h1:w.cell? ⟨b,0,none⟩=some (E J x))(h2:w.cell? ⟨b,1,none⟩=some (E J y)) :
  Calls aB 230 #[F (some ⟨b,0,none⟩) 2 c] w λe w'=>e = dF (E J (orI x y))/\w=w':=by
 by_cases hx:x=0
 ·subst hx;by_cases hy:y=0
  ·subst hy;have e:orI 0 0=0:=rfl;rw[e];clear e;go_enter func230,ntmps230;go_wp2;refine wp_loop_rounds 3 ?_;rw[bK];go_wp2;rw[bK];go_wp2;rw[bK];go_wp2;go_ret;exact⟨rfl,rfl⟩
  ·have e:orI 0 y=y:=rfl;rw[e];have gy:(y != 0)=true:=(by simp[hy]);clear e hy;go_enter func230,ntmps230;go_wp2;refine wp_loop_rounds 2 ?_;rw[bK];go_wp2;rw[bK];go_wp2;go_ret;exact⟨rfl,rfl⟩
 ·have e:orI x y=x:=by simp[orI,hx]
  rw[e];have gx:(x != 0)=true:=by simp[hx]
  clear e hx;go_enter func230,ntmps230;go_wp2;refine wp_loop_rounds 1 ?_;rw[bK];go_wp2;go_ret;exact⟨rfl,rfl⟩
theorem Zou(p q:PtD):orI (Jb p.1 q.1) (Jb p.2 q.2)=Gv p q:=by
 obtain⟨a,b⟩:=p;obtain⟨c,d⟩:=q;unfold orI Jb Gv lt;simp only[Bool.or_eq_true,cG,decide_eq_true_eq,Prod.mk.injEq]
 repeat' split
 all_goals omega
theorem Z4(w:World)(x y)(t:cF):(w.alloc (dE #[x,y] t)).cell? ⟨w.heap.size,0,none⟩=some x/\(w.alloc (dE #[x,y] t)).cell? ⟨w.heap.size,1,none⟩=some y:=
 ⟨by rw[World.cell?_alloc_at _ _ _ _ rfl];rfl,by rw[World.cell?_alloc_at _ _ _ _ rfl];rfl⟩
theorem Zi(w:World):ZD w w.drew:=⟨rfl,rfl,rfl,aF _,λ_ _=>rfl⟩
theorem Tm(p q:PtD)(z:Int)(w:World)(hz:Gv p q=z) :
  ZH 201 #[.agg #[E J p.1,E J p.2],.agg #[E J q.1,E J q.2]] w (E J z):=by
 obtain⟨a,b⟩:=p;obtain⟨c,d⟩:=q;have e:=Zou (a,b) (c,d);rw[hz] at e;simp only at e ⊢;have ad:=Zd e;obtain⟨X,hX⟩:=ZG ((w.alloc (dE #[E J a,E J b] 117)).alloc (dE #[E J c,E J d] 117));have HB:Hid (ZD w X):=by rw[hX];exact (Zf (Zh w (dE #[E J a,E J b] 117)) (Zh _ (dE #[E J c,E J d] 117)))
 have x0:X.cell? ⟨w.heap.size,0,none⟩=some (E J a):=by rw[hX];exact Ze (Zh _ _) (Z4 w _ _ _).1
 have x1:X.cell? ⟨w.heap.size,1,none⟩=some (E J b):=by rw[hX];exact Ze (Zh _ _) (Z4 w _ _ _).2
 have x2:X.cell? ⟨w.heap.size+1,0,none⟩=some (E J c):=by rw[hX];have:=(Z4 (w.alloc (dE #[E J a,E J b] 117)) (E J c) (E J d) 117).1;simp at this ⊢
 have x3:X.cell? ⟨w.heap.size+1,1,none⟩=some (E J d):=by rw[hX];have:=(Z4 (w.alloc (dE #[E J a,E J b] 117)) (E J c) (E J d) 117).2;simp at this ⊢
 clear hz e;go_enter func201,ntmps201;go_wp2_with fail;rw[<-hX];clear hX
 go_region_held3 (λw'=>ZD X w'/\w'.cell? ⟨w.heap.size,0,none⟩=some (E J a)/\w'.cell? ⟨w.heap.size,1,none⟩=some (E J b)/\w'.cell? ⟨w.heap.size+1,0,none⟩=some (E J c)/\w'.cell? ⟨w.heap.size+1,1,none⟩=some (E J d))
  (first
  | exact⟨Zi _,x0,x1,x2,x3⟩
  | (go_split_ands;exact⟨by assumption,by assumption,by assumption,by assumption,by assumption⟩)
  | (go_split_ands;exact⟨Zf (by assumption) (Zh _ _),Ze (Zh _ _) (by assumption),Ze (Zh _ _) (by assumption),Ze (Zh _ _) (by assumption),Ze (Zh _ _) (by assumption)⟩))
  (first
  | (go_at_call 231;refine (R0 _ _ _).mono ?_;rintro e w' ⟨rfl,rfl⟩)
  | (go_at_call 230;refine (El (Jb a c) (Jb b d) _ 2 _ ?_ ?_).mono ?_;exact (Z4 _ _ _ _).1;exact (Z4 _ _ _ _).2;rintro e w' ⟨rfl,rfl⟩))
 rename_i hH;have HH:=Zd (Zf HB hH.1);clear hH;go_wp2;go_ret;exact⟨by rw[<-Za ad];rfl,Za HH⟩
theorem V4(h:Int)(b:Bool)(w)(hb:okH h=b) :
  Calls aB 203 #[E J h] w λe w'=>e = dF (dI b)/\w=w':=by
 have C:=Zd (Yr h 1 1000 b w (by rw[<-hb];rfl));clear hb;go_enter func203,ntmps203;go_wp2_with fail;refine C.mono ?_;rintro e w' ⟨rfl,rfl⟩;go_wp2;go_ret;exact⟨rfl,rfl⟩
theorem Zbo(a len cap l)(x:Int)(w:World)(hx:chk l=x)(h:OpsAt w a len l) :
  ZH 249 #[F a len cap] w (E J x):=by
 subst hx;exact V9 a len cap l w h
theorem Ae(x:Zj)(a)(n c:Nat)(z:Int)(w:World)(hO:OpsAt w a n (ck x))(hz:ck1 x=z) :
  ZH 200 #[cnV x a n c] w (E J z):=by
 obtain⟨x1,x2,x3,k,x4,x5⟩:=x;unfold cnV;simp only[cv,ck,ch,cr] at hO ⊢;obtain⟨X,hX⟩:=ZG (w.alloc (dE #[E J x1,E J x2,E J x3,F a n c,E J x4,dI x5] 124));obtain⟨n0,n1,n2,n3,n4,n5⟩:=D9 w (E J x1) (E J x2) (E J x3) (F a n c) (E J x4) (dI x5) 124;rw[<-hX] at n0 n1 n2 n3 n4 n5;have hb:ZD w X:=by rw[hX];exact Zh _ _
 obtain⟨HB,HO,N2,N3,N4⟩:=kh5 hb (hO.later hb) n2 n3 n4;clear hO hb n5;cases hp:Zqn (x1,x2) with
 | false=>
  have e:z=3:=by rw[<-hz];unfold ck1;rw[if_pos (by unfold okC pt;rw[hp];rfl)]
  subst e;have C1:=Zd (Qt x1 x2 false X hp);clear hp hz;go_enter func200,ntmps200;go_wp2_with fail;rw[<-hX];clear hX;go_wp2_with fail;refine C1.mono ?_;rintro e w2 ⟨rfl,aa⟩;have ad:=Zd (Zf HB aa);clear aa;go_wp2;go_ret;exact⟨rfl,Za ad⟩
 | true=>
  have C1:=Zd (Qt x1 x2 true X hp);cases hv:okV x3 with
  | false=>
   have e:z=3:=(by rw[<-hz];unfold ck1;rw[if_pos (by unfold okC pt;rw[hp];simp only[cv];rw[hv];rfl)]);subst e;have C2:=Zd (λw=>Yr x3 1 1000000000 false w (by rw[<-hv];rfl));clear hp hz hv;go_enter func200,ntmps200;go_wp2_with fail;rw[<-hX];clear hX;go_wp2_with fail;refine C1.mono ?_;rintro e w2 ⟨rfl,aa⟩;have m2:=Ze aa N2;have av:w.heap.size<w2.heap.size:=aE _ _ m2;have ad:=Zd (Zf HB aa);clear aa;go_wp2_with fail;refine (C2 _).mono ?_;rintro e w3 ⟨rfl,rfl⟩;go_wp2;go_ret;exact⟨rfl,Za ad⟩
  | true=>
   have C2:=Zd (λw=>Yr x3 1 1000000000 true w (by rw[<-hv];rfl));cases hh:okH x4 with
   | false=>
    have e:z=3:=(by rw[<-hz];unfold ck1;rw[if_pos (by unfold okC pt;rw[hp];simp only[cv,ch];rw[hv,hh];rfl)]);subst e;have C3:=Zd (λw=>V4 x4 false w hh);clear hp hz hv hh;go_enter func200,ntmps200;go_wp2_with fail;rw[<-hX];clear hX;go_wp2_with fail;refine C1.mono ?_;rintro e w2 ⟨rfl,aa⟩;have m2:=Ze aa N2;have m4:=Ze aa N4;have av:w.heap.size<w2.heap.size:=aE _ _ m2;have ad:=Zd (Zf HB aa);clear aa;go_wp2_with fail;refine (C2 _).mono ?_;rintro e w3 ⟨rfl,rfl⟩;go_wp2_with fail;refine (C3 _).mono ?_;rintro e w3 ⟨rfl,rfl⟩;go_wp2;go_ret;exact⟨rfl,Za ad⟩
   | true=>
    have e:chk k=z:=(by rw[<-hz];unfold ck1;rw[if_neg (by unfold okC pt;rw[hp];simp only[cv,ch];rw[hv,hh];decide)];rfl);have C3:=Zd (λw=>V4 x4 true w hh);have bd:=Zd e;clear hp hz hv hh e;go_enter func200,ntmps200;go_wp2_with fail;rw[<-hX];clear hX;go_wp2_with fail;refine C1.mono ?_;rintro e w2 ⟨rfl,aa⟩;have m2:=Ze aa N2;have m3:=Ze aa N3;have m4:=Ze aa N4;have av:w.heap.size<w2.heap.size:=aE _ _ m2;obtain⟨C4,ad⟩:=kh2 (Zbo a n c k z w2 bd (HO.later aa)) (Zf HB aa);clear aa;go_wp2_with fail;refine (C2 _).mono ?_;rintro e w3 ⟨rfl,rfl⟩;go_wp2_with fail;refine (C3 _).mono ?_;rintro e w3 ⟨rfl,rfl⟩;go_wp2_with fail;refine C4.mono ?_;rintro e w4 ⟨rfl,au⟩;have be:=Zd (Zf ad au);clear au;go_wp2;go_ret;exact⟨rfl,Za be⟩
theorem Ai(w:World)(n:Nat):ZD w (w.drewN n):=⟨rfl,rfl,rfl,aF _,λ_ _=>rfl⟩
theorem CoinAt.val{w:World}{b o}{x:Zj}(h:CoinAt w b o x):∃ a n c,w.cell? ⟨b,o,none⟩=some (E J x.1)/\w.cell? ⟨b,o+1,none⟩=some (E J x.2.1)/\w.cell? ⟨b,o+2,none⟩=some (E J (cv x)) /\
  w.cell? ⟨b,o+3,none⟩=some (F a n c)/\w.cell? ⟨b,o+4,none⟩=some (E J (ch x))/\w.cell? ⟨b,o+5,none⟩=some (dI (cr x))/\OpsAt w a n (ck x)/\SlOk a n c:=by
 obtain⟨h1,h2,h3,⟨a,n,c,h4,h5,h6⟩,h7,h8⟩:=h;exact⟨a,n,c,h1,h2,h3,h4,h7,h8,h5,h6⟩
theorem An(b off n c:Nat)(L:List Zj)(w:World)(hn:n<=720)(hz:L.length=n)(hc:∀ i (h:i<L.length),CoinAt w b (off+i*6) L[i]) :
  ZH 143 #[F (some ⟨b,off,none⟩) n c] w (E J (Y8 none 0 L)):=by
 obtain⟨HC,HZ⟩:=kh2 hc hz;clear hc hz;go_enter func143,ntmps143;go_wp2
 go_loopw [3,12] (λsv i wr=>∃ (k:Nat) (S:Int),k<=n/\i = E J k/\sv = E J S/\0<=S/\S<=1000000000/\Hid (Y8 none 0 L=Y8 (Jn L k) S (L.drop k))/\ZD w wr) (λ_ i _=>n - (intOf i).toNat)
 case atStart=>exact⟨0,0,aI _,rfl,rfl,by decide,by decide,rfl,Below.refl _ _⟩
 case round=>
  obtain⟨k,S,hk,rfl,rfl,dd,de,A,hb⟩:=hrel;have HB:=Zd hb;by_cases cx:k<n
  ·have bg:k<L.length:=(by rw[Za HZ];exact cx);have bf:=CoinAt.kept _ _ _ _ _ hb (HC k bg);have ST:=Zd (Zoy L k bg (Jn L k) S)
   have HL:Hid (∀ j,k=j+1->∃ q,Jn L k=some (pt q)/\CoinAt wr b (off+j*6) q):=λj hj=>by
    have bq:j<L.length:=(by omega);exact⟨L[j],by rw[hj];exact Kg L j bq,CoinAt.kept _ _ _ _ _ hb (HC j bq)⟩
   have HN:Hid (k+1<=L.length->Jn L (k+1)=some (pt L[k])):=λ_=>Kg L k bg;obtain⟨x,hx⟩:=ZF (L[k]);rw[hx] at bf ST HN;have A2:Hid (Y8 none 0 L=if ck1 x≠0 then ck1 x else if Ss (Jn L k) x=false then 6 else if 1000000000<S+cv x then 12 else Y8 (some (pt x)) (S+cv x) (L.drop (k+1))):=(by show _=_;rw[Za A,Za ST]);have PN:Hid (Jn L (k+1)=some (pt x)):=HN bg;obtain⟨a,m,d,g1,g2,g3,g4,g5,g6,hO,_⟩:=bf.val;obtain⟨X,hX⟩:=ZG (wr.alloc (dE #[E J x.1,E J x.2.1,E J (cv x),F a m d,E J (ch x),dI (cr x)] 124));obtain⟨n0,n1,n2,n3,n4,n5⟩:=D9 wr (E J x.1) (E J x.2.1) (E J (cv x)) (F a m d) (E J (ch x)) (dI (cr x)) 124;rw[<-hX] at n0 n1 n2 n3 n4 n5;have be:ZD wr X:=(by rw[hX];exact Zh _ _);have dm:wr.heap.size<X.heap.size:=aE _ _ n0;obtain⟨ax,HO,N0,N1,N2⟩:=kh5 be (hO.later be) n0 n1 n2;obtain⟨z,hz⟩:=ZF (ck1 x);have C1:=Zd (Ae x a m d z X HO hz);rw[hz] at A2;have HX:=Zd hX;by_cases bh:z=0
   ·subst bh;have K:=Yy hz;have cy:1<=cv x:=K.2.2.2.2.1;have cz:cv x<=1000000000:=K.2.2.2.2.2.1
    have A3:Hid (Y8 none 0 L=if Ss (Jn L k) x=false then 6 else if 1000000000<S+cv x then 12 else Y8 (some (pt x)) (S+cv x) (L.drop (k+1))):=by
     have h:=Za A2;rw[if_neg (by decide)] at h;exact h
    clear K A A2 ST HN hx bf hO hb hz n3 n4 n5 hX;obtain⟨v,hv⟩:=ZF (cv x);rw[hv] at cy cz A3 n2 N2 g3 HX;unfold cnV at C1;rw[hv] at C1;by_cases aj:k=0
    ·have A4:Hid (Y8 none 0 L=if 1000000000<S+v then 12 else Y8 (some (pt x)) (S+v) (L.drop (k+1))):=by
      have h:=Za A3;rw[aj] at h;rw[if_neg (by show ¬true=false;decide)] at h;rw[aj];exact h
     clear A3 HL;have hg:decide ((0:Int)<(k:Int))=false:=(by rw[aj];decide);have dg:decide (0<k)=false:=(by rw[aj];decide);clear aj;go_wp2_with fail;rw[<-Za HX];go_wp2_with fail;refine C1.mono ?_;rintro e w2 ⟨rfl,aa⟩;have m2:=Ze aa N2;have cl:wr.heap.size<w2.heap.size:=aE _ _ m2;have ad:=Zd (Zf (Zf HB ax) aa);clear aa;go_wp2_with fail
     go_quiet (fail)
     by_cases hf:1000000000<S+v
     ·have R:Hid (Y8 none 0 L=12):=(by show _=_;rw[Za A4,if_pos hf]);clear A4;go_wp2;go_ret;exact⟨by rw[Za R];rfl,Zf ad (Ai _ _)⟩
     ·have R:Hid (Y8 none 0 L=Y8 (Jn L (k+1)) (S+v) (L.drop (k+1))):=(by show _=_;rw[Za A4,if_neg hf,Za PN]);clear A4;go_wp2;go_roundw
      case rel=>exact⟨k+1,S+v,by omega,by go_num,rfl,by omega,by omega,R,Zf ad (Ai _ _)⟩
      case measure=>simp[intOf];omega
    ·obtain⟨j,rfl⟩:∃ j,k=j+1:=⟨k - 1,by omega⟩;obtain⟨q,hq,cj⟩:=HL j rfl;obtain⟨_,_,_,q1,q2,_,_,_,_,_,_⟩:=cj.val
     have A5:Hid (Y8 none 0 L=if lt (pt q) (pt x)=false then 6 else if 1000000000<S+v then 12 else Y8 (some (pt x)) (S+v) (L.drop (j+1+1))):=by
      have h:=Za A3;rw[hq] at h;exact h
     obtain⟨Q1,Q2⟩:=kh2 (Ze be q1) (Ze be q2);have G:Hid (decide ((0:Int)<((j+1:Nat):Int))=true):=(by show _=_;simp);have di:(j:Int)<(n:Int):=(by omega);have dp:IntKind.i64.wrap (j:Int)=(j:Int):=(by rw[bR];omega);have dq:IntKind.i64.wrap ((j:Int)+1 - 1)=(j:Int):=(by rw[bR];omega);have bq:j<n:=(by omega);have dh:(0:Int)<=(j:Int):=(by omega);have dn:IntKind.i64.wrap (((j+1:Nat):Int) - 1)=(j:Int):=(by rw[bR];omega);clear A3 HL aj hq cj q1 q2;cases hl:lt (pt q) (pt x) with
     | false=>
      have R:Hid (Y8 none 0 L=6):=(by show _=_;rw[Za A5,if_pos hl]);obtain⟨y,hy⟩:=ZF (Gv (pt q) (pt x))
      have da:0<=y:=by
       rw[<-hy];refine Int.not_lt.1 λh=>?_;rw[Fu,hl] at h;exact Bool.noConfusion h
      have CC:=Zd (λw=>Tm (pt q) (pt x) y w hy);unfold pt at CC;clear A5 hl hy;go_wp2_with fail;rw[<-Za HX];go_wp2_with fail;refine C1.mono ?_;rintro e w2 ⟨rfl,aa⟩;have m0:=Ze aa N0;have m1:=Ze aa N1;have p0:=Ze aa Q1;have p1:=Ze aa Q2;have cl:wr.heap.size<w2.heap.size:=aE _ _ m0;have ad:=Zd (Zf (Zf HB ax) aa);clear aa n0 n1 n2 g1 g2 g3 g4 g5 g6;have hG:=Za G;go_wp2_with fail
      go_region_held3 (λw'=>ZD w2 w'/\w'.cell? ⟨wr.heap.size,0,none⟩=some (E J x.1)/\w'.cell? ⟨wr.heap.size,1,none⟩=some (E J x.2.1)/\w'.cell? ⟨b,off+j*6,none⟩=some (E J q.1)/\w'.cell? ⟨b,off+j*6+1,none⟩=some (E J q.2.1))
       (first
       | exact⟨Zi _,m0,m1,p0,p1⟩
       | (go_split_ands;refine⟨Zf (by assumption) ab,Ze ab (by assumption),Ze ab (by assumption),Ze ab (by assumption),Ze ab (by assumption)⟩))
       (first|(go_at_call 201;refine (CC _).mono ?_;rintro e w' ⟨rfl,ab⟩))
      rename_i hH;have HH:=Zd (Zf ad hH.1);clear hH;go_wp2;go_ret;exact⟨by rw[Za R];rfl,Za HH⟩
     | true=>
      have A4:Hid (Y8 none 0 L=if 1000000000<S+v then 12 else Y8 (some (pt x)) (S+v) (L.drop (j+1+1))):=by
       have h:=Za A5;rw[if_neg (by rw[hl];decide)] at h;exact h
      obtain⟨y,hy⟩:=ZF (Gv (pt q) (pt x));have da:y<0:=(by rw[<-hy,Fu];exact hl);have CC:=Zd (λw=>Tm (pt q) (pt x) y w hy);unfold pt at CC;clear A5 hl hy;go_wp2_with fail;rw[<-Za HX];go_wp2_with fail;refine C1.mono ?_;rintro e w2 ⟨rfl,aa⟩;have m0:=Ze aa N0;have m1:=Ze aa N1;have M2:=Zd (Ze aa N2);have p0:=Ze aa Q1;have p1:=Ze aa Q2;have cl:wr.heap.size<w2.heap.size:=aE _ _ m0;have ad:=Zd (Zf (Zf HB ax) aa);clear aa n0 n1 n2 g1 g2 g3 g4 g5 g6;have hG:=Za G;go_wp2_with fail
      go_region_held3 (λw'=>ZD w2 w'/\w'.cell? ⟨wr.heap.size,0,none⟩=some (E J x.1)/\w'.cell? ⟨wr.heap.size,1,none⟩=some (E J x.2.1)/\w'.cell? ⟨b,off+j*6,none⟩=some (E J q.1)/\w'.cell? ⟨b,off+j*6+1,none⟩=some (E J q.2.1))
       (first
       | exact⟨Zi _,m0,m1,p0,p1⟩
       | (go_split_ands;refine⟨Zf (by assumption) ab,Ze ab (by assumption),Ze ab (by assumption),Ze ab (by assumption),Ze ab (by assumption)⟩))
       (first|(go_at_call 201;refine (CC _).mono ?_;rintro e w' ⟨rfl,ab⟩))
      rename_i hH;have HH:=Zd (Zf ad hH.1);have m2:=Ze hH.1 M2;have dl:=aE _ _ m2;clear hH;by_cases hf:1000000000<S+v
      ·have R:Hid (Y8 none 0 L=12):=(by show _=_;rw[Za A4,if_pos hf]);clear A4;go_wp2;go_ret;exact⟨by rw[Za R];rfl,Za HH⟩
      ·have R:Hid (Y8 none 0 L=Y8 (Jn L (j+1+1)) (S+v) (L.drop (j+1+1))):=(by show _=_;rw[Za A4,if_neg hf,Za PN]);clear A4;go_wp2;go_roundw
       case rel=>exact⟨j+1+1,S+v,by omega,by go_num,rfl,by omega,by omega,R,Za HH⟩
       case measure=>simp[intOf];omega
   ·have R:Hid (Y8 none 0 L=z):=(by show _=_;rw[Za A2,if_pos bh]);have gz:(z != 0)=true:=(by simp[bh]);unfold cnV at C1;clear A A2 ST HN HL PN hx bf hO hb hz n3 n4 n5 hX bh;go_wp2_with fail;rw[<-Za HX];go_wp2_with fail;refine C1.mono ?_;rintro e w2 ⟨rfl,aa⟩;have ad:=Zd (Zf (Zf HB ax) aa);clear aa;go_wp2;go_ret;exact⟨by rw[Za R];rfl,Za ad⟩
  ·have R:Hid (Y8 none 0 L=0):=(by show _=_;rw[Za A,Zlk L k (by rw[Za HZ];omega)]);clear A hb;go_wp2;go_ret;exact⟨by rw[Za R];rfl,Za HB⟩
theorem Ap(a)(n c:Nat)(w)(h:720<n) :
  Calls aB 143 #[F a n c] w λe w'=>e = dF (E J 2)/\w=w':=by
 go_enter func143,ntmps143;go_wp2;go_ret;exact⟨rfl,rfl⟩
theorem Ao(a c w) :
  Calls aB 143 #[F a 0 c] w λe w'=>e = dF (E J 0)/\w=w':=by
 go_enter func143,ntmps143;go_wp2;refine wp_loop_rounds 1 ?_;rw[bK];go_wp2;go_ret;exact⟨rfl,rfl⟩
theorem Ub(a n c L)(z:Int)(w:World)(h:CoinsAt w a n L)(hz:Z8 L=z) :
  ZH 143 #[F a n c] w (E J z):=by
 subst hz;obtain⟨hl,hc⟩:=h;unfold Z8;rw[hl];by_cases h1:720<n
 ·rw[if_pos h1];exact (Ap a n c w h1).mono λe w' ⟨x,y⟩=>⟨x,y ▸ Below.refl _ _⟩
 ·rw[if_neg h1];by_cases h2:n=0
  ·subst h2;have e:L=[]:=aL.1 hl;subst e;exact (Ao a c w).mono λe w' ⟨x,y⟩=>⟨x,y ▸ Below.refl _ _⟩
  ·obtain⟨b,off,rfl,_,ac⟩:=hc (by omega);exact An b off n c L w (by omega) hl ac
def laid(L:List Value)(off:Nat)(cs:List Value):List Value:=L.take off++cs++L.drop (off+cs.length)
theorem Wb(L:List Value)(off:Nat)(cs:List Value)(h:off+cs.length<=L.length):(laid L off cs).length=L.length:=by simp[laid];omega
variable {P : Program}
theorem Vi(w:World)(dT sT ty elem:cF)(g o ac ah:Nat)(a:Addr)(aa ag k:Nat)(ab:Array Value)(t:cF)(cs:List Value)
  (hu:P.underlying dT=some (.slice elem)) (hs:(P.info? elem).map (·.size)=some k)
  (hg:w.heap[g]? = some (dE ab t (0,0))) (hn:cs.length=Nat.min aa ac*k)
  (ap:∀ j v,cs[j]? = some v->w.cell? (a.add j)=some v) (aj:o+cs.length<=ab.size) (h1:∀ v∈cs,v.oneCell'=true) :
  (Builtin.copy_ #[dT,sT] ty #[F (some ⟨g,o,none⟩) ac ah,F (some a) aa ag]).run P w =
   .ok (goInt (Nat.min aa ac)) (w.setRow g (laid ab.toList o cs).toArray):=by
 have af:=run_storeCells_at P g o t cs 0 ab w hg (by simpa using aj) h1;cases hq:P.info? elem with
 | none=>simp[hq] at hs
 | some i=>
  have hi:i.size=k:=by simpa[hq] using hs
  have hl:=run_firstCells_some (P:=P) w k (Nat.min aa ac) a aa ag cs hn ap;simp only[Nat.add_zero] at af;simp[Builtin.copy_,run_underlying hu,Builtin.lenOf,sizeOf,typeInfo,hq,hi,hl,af,laid]
theorem Ug(w:World)(t e ty:cF)(z:Value)(ht:P.underlying t=some (.slice e))(hv:∀ w,(zeroValue e).run P w = .ok z w)(g o n c k:Nat)(aa:Array Value)(te:cF)(cs:List Value)(hn:0<n)
  (ad:(Builtin.zeroCells z.cells n).toList=cs) (hg:w.heap[g]? = some (dE aa te (0,0))) (hk:cs.length=n*k) (ae:o+n*k<=aa.size) (h1:∀ v∈cs,v.oneCell'=true) :
  (Builtin.clear_ #[t] ty #[F (some ⟨g,o,none⟩) n c]).run P w = .ok (dG #[]) (w.setRow g (laid aa.toList o cs).toArray):=by
 have ab:=run_storeCells_at P g o te cs 0 aa w hg (by simpa[hk] using ae) h1;simp only[Nat.add_zero] at ab;obtain⟨m,rfl⟩:∃ m,n=m+1:=⟨n - 1,by omega⟩;simp[Builtin.clear_,run_underlying ht,hv,ad,ab,laid]
theorem Ud{ae}{o:Oper}{a:Act}{w:World}{K:Act->World->Prop}{Q:Exit->Act->World->Prop}{ag:Prop}
  (hg:o.guard=none) (s x:Operand) (t:cF) (aq:o.op=Op.call { callee:=Callee.builtin Builtin.append,args:=#[s,x],argTypes:=#[t,t] })
  (e:cF) (i:TypeInfo) (size:Nat) (h1:P.underlying t=some (.slice e)) (h2:P.info? e=some i) (h4:i.size=size)
  (b n cap:Nat) (hs:a.eval s = F (some ⟨b,0,none⟩) n cap)
  (ay:Addr) (m c:Nat) (aa:List Value) (hx:a.eval x = F (some ay) m c) (hn:aa.length=m*size) (hc:∀ j u,aa[j]? = some u->w.cell? (ay.add j)=some u) (ah:∀ u∈aa,u.oneCell'=true)
  (ar:n+m<=cap) (ab:Array Value) (te:cF) (au:w.heap[b]? = some (dE ab te (0,0))) (am:n*size+aa.length<=ab.size)
  (hK:K (a.put o.dst (F (some ⟨b,0,none⟩) (n+m) cap)) (w.setRow b (laid ab.toList (n*size) aa).toArray)) :
  if Region.wanted o (yielded ae a.tmps)=true then Oper.wp P o a w K Q else ag:=by
 have hw:Region.wanted o (yielded ae a.tmps)=true:=by simp[Region.wanted,hg]
 rw[if_pos hw];subst h4;have ak:=run_firstCells_some (P:=P) w i.size m ay m c aa hn hc;have ad:=run_storeCells_at P b (n*i.size) te aa 0 ab w au (by simpa using am) ah;simp only[Nat.add_zero] at ad
 have av:(Builtin.append_ #[t,t] o.type #[F (some ⟨b,0,none⟩) n cap,F (some ay) m c]).run P w = .ok (F (some ⟨b,0,none⟩) (n+m) cap) (w.setRow b (laid ab.toList (n*i.size) aa).toArray):=by
  simp[Builtin.append_,run_underlying h1,sizeOf,typeInfo,h2,Builtin.lenOf,ar,ak,Addr.add_lit,ad,laid]
 unfold Oper.wp;simp[execOp,aq,resolve,invoke,builtin,hs,hx,av,Result.andThen];exact hK
theorem Vy(w){aa rest}{o:Oper}{a:Act}{Q:Exit->Act->World->Prop}(ad:o.guard=none)(d s:Operand)(t t':cF)
  (ho:o.op = .call { callee:=.builtin .append,args:=#[d,s],argTypes:=#[t,t'] }) (v u) (hd:a.eval d=v) (hs:a.eval s=u) {v' w'}
  (hr:(Builtin.append_ #[t,t'] o.type #[v,u]).run P w = .ok v' w') (h:wpList P aa Q rest (a.put o.dst v') w'):wpList P aa Q (o :: rest) a w:=by
 refine wpList_plain ad λK hK=>?_;unfold Oper.wp;simp[execOp,ho,resolve,invoke,builtin,hd,hs,hr,Result.andThen];exact hK _ _ h
abbrev CV:=Zj×Option Addr×Nat×Nat
def Zn:List CV->List Value
 | []=>[]
 | x :: r=>E J x.1.1 :: E J x.1.2.1 :: E J (cv x.1) :: .slice x.2.1 x.2.2.1 x.2.2.2 :: E J (ch x.1) :: dI (cr x.1) :: Zn r
theorem Z6:∀ l:List CV,(Zn l).length=l.length*6
 | []=>rfl
 | _ :: r=>by simp only[Zn,List.length_cons,Z6 r];omega
theorem Yh:∀ l m:List CV,Zn (l++m)=Zn l++Zn m
 | [],_=>rfl
 | _ :: r,m=>by simp only[List.cons_append,Zn,Yh r m]
theorem Sj:∀ (l:List CV) (i:Nat) (h:i<l.length),(Zn l)[i*6]? = some (E J (l[i]).1.1)/\(Zn l)[i*6+1]? = some (E J (l[i]).1.2.1)/\(Zn l)[i*6+2]? = some (E J (cv (l[i]).1))/\(Zn l)[i*6+3]? = some (.slice (l[i]).2.1 (l[i]).2.2.1 (l[i]).2.2.2)/\(Zn l)[i*6+4]? = some (E J (ch (l[i]).1))/\(Zn l)[i*6+5]? = some (dI (cr (l[i]).1))
 | [],_,h=>absurd h (by simp)
 | x :: r,0,_=>⟨rfl,rfl,rfl,rfl,rfl,rfl⟩
 | x :: r,i+1,h=>by
  have:=Sj r i (by simpa using h);have e:(i+1)*6=i*6+6:=by omega
  rw[e];exact this
theorem Xv:∀ (l:List CV) (u:Value),u∈Zn l->u.oneCell'=true
 | [],u,h=>by cases h
 | x :: r,u,h=>by
  simp only[Zn,aO] at h
  rcases h with rfl|rfl|rfl|rfl|rfl|rfl|h
  ·rfl
  ·rfl
  ·rfl
  ·rfl
  ·rfl
  ·rfl
  ·exact Xv r u h
theorem Uk:∀ (l:List CV) (i:Nat),(Zn l).take (i*6)=Zn (l.take i)
 | [],i=>by simp[Zn]
 | x :: r,0=>by simp[Zn]
 | x :: r,i+1=>by
  rw[show (i+1)*6=i*6+6 by omega,List.take_succ_cons];simp only[Zn,List.take_succ_cons,Uk r i]
theorem Ul:∀ (l:List CV) (i:Nat),(Zn l).drop (i*6)=Zn (l.drop i)
 | [],i=>by simp[Zn]
 | x :: r,0=>by simp[Zn]
 | x :: r,i+1=>by
  rw[show (i+1)*6=i*6+6 by omega,List.drop_succ_cons];simp only[Zn,List.drop_succ_cons,Ul r i]
def LkAt(w:World)(x:CV):Prop:=OpsAt w x.2.1 x.2.2.1 (ck x.1)/\SlOk x.2.1 x.2.2.1 x.2.2.2
theorem LkAt.later{w w':World}{x:CV}(h:LkAt w x)(hb:ZD w w'):LkAt w' x:=⟨h.1.later hb,h.2⟩
theorem Wy{w:World}{base:Nat}{v}{K:List CV}(h:w.ownsRow base 124 6 v K.length (Zn K))(hl:∀ x∈K,LkAt w x):∃ a c,v = F a K.length c/\CoinsAt w a K.length (K.map (·.1))/\SlOk a K.length c:=by
 rcases h.2 with ⟨rfl,hn⟩|⟨g,cap,ak,rfl,hg,hh,h1,h2,h3,h4⟩
 ·rw[hn];have e:K=[]:=aL.1 hn;subst e;exact⟨none,0,rfl,RowsAt.nil _ _,aF _,aI _,λ_=>⟨rfl,rfl⟩⟩
 ·refine⟨_,cap,rfl,⟨by simp,λ_=>⟨g,0,rfl,lt_of_block hh,λi hi=>?_⟩⟩,h1,h2,λe=>by cases e⟩;rw[List.length_map] at hi;obtain⟨f0,f1,f2,f3,f4,f5⟩:=Sj K i hi;rw[List.getElem_map];refine⟨?_,?_,?_,⟨_,_,_,?_,(hl _ (bE hi)).1,(hl _ (bE hi)).2⟩,?_,?_⟩
  all_goals rw[Nat.zero_add,World.ownsRow.cellAt h _ (by omega)]
  ·exact f0
  ·exact f1
  ·exact f2
  ·exact f3
  ·exact f4
  ·exact f5
theorem Vr{w:World}{b off:Nat}:∀ {L:List Zj},(∀ i (h:i<L.length),CoinAt w b (off+i*6) L[i])->∃ K:List CV,K.map (·.1)=L/\(∀ x∈K,LkAt w x)/\∀ j u,(Zn K)[j]? = some u->w.cell? ⟨b,off+j,none⟩=some u:=by
 intro L h
 have h2:∀ k,k<=L.length->∃ K:List CV,K.map (·.1)=L.take k/\(∀ x∈K,LkAt w x)/\∀ j u,(Zn K)[j]? = some u->w.cell? ⟨b,off+j,none⟩=some u:=by
  intro k
  induction k with
  | zero=>intro _;exact⟨[],by simp,λx hx=>(by cases hx),λj u hj=>by simp[Zn] at hj⟩
  | succ k ih=>
   intro hk;obtain⟨K,h1,h2,h3⟩:=ih (by omega);obtain⟨a,n,c,g1,g2,g3,g4,g5,g6,h5,h6⟩:=(h k (by omega)).val;have ab:K.length=k:=(by have:=congrArg List.length h1;simpa[Nat.min_eq_left (show k<=L.length by omega)] using this);refine⟨K++[(L[k],a,n,c)],by rw[List.map_append,h1,bA (by omega)];rfl,λx hx=>?_,λj u hj=>?_⟩
   ·rcases bL.1 hx with hx|hx
    ·exact h2 x hx
    ·rw[List.mem_singleton.1 hx];exact⟨h5,h6⟩
   ·rw[Yh] at hj
    rcases Nat.lt_or_ge j (k*6) with q|q
    ·rw[List.getElem?_append_left (by rw[Z6,ab];exact q)] at hj;exact h3 j u hj
    ·rw[List.getElem?_append_right (by rw[Z6,ab];exact q),Z6,ab] at hj;obtain⟨r,rfl⟩:∃ r,j=k*6+r:=⟨j - k*6,by omega⟩;rw[Nat.add_sub_cancel_left] at hj;rw[show off+(k*6+r)=off+k*6+r by omega]
     match r,hj with
     | 0,hj=>simp only[Zn,List.getElem?_cons_zero,bJ] at hj;subst hj;exact g1
     | 1,hj=>simp only[Zn,List.getElem?_cons_zero,List.getElem?_cons_succ,bJ] at hj;subst hj;exact g2
     | 2,hj=>simp only[Zn,List.getElem?_cons_zero,List.getElem?_cons_succ,bJ] at hj;subst hj;exact g3
     | 3,hj=>simp only[Zn,List.getElem?_cons_zero,List.getElem?_cons_succ,bJ] at hj;subst hj;exact g4
     | 4,hj=>simp only[Zn,List.getElem?_cons_zero,List.getElem?_cons_succ,bJ] at hj;subst hj;exact g5
     | 5,hj=>simp only[Zn,List.getElem?_cons_zero,List.getElem?_cons_succ,bJ] at hj;subst hj;exact g6
     | r+6,hj=>simp[Zn] at hj
 obtain⟨K,h1,h3⟩:=h2 L.length (aF _);exact⟨K,by rw[h1,List.take_length],h3⟩
def zeroC:Value:=.agg #[E J 0,E J 0,E J 0,F none 0 0,E J 0,dI false]
theorem Tryz.infoCoin:(Tryz.prog.info? 124).map (λi=>(i.zero,i.size,i.bytes))=some (some zeroC,6,64):=by kernel_rfl
theorem Xn{w:World}{base:Nat}{e:cF}{size:Nat}{v:Value}{n:Nat}{xs}(h:w.ownsRow base e size v n xs)(k:Nat)(hk:v.ownBlock=some k):base<=k:=by
 rcases h.2 with ⟨rfl,_⟩|⟨g,cap,ac,rfl,hg,_⟩
 ·cases hk
 ·cases hk;exact hg
theorem We(w:World)(e:cF)(size:Nat):(w.alloc (dE #[] e)).ownsRow w.heap.size e size (F (some ⟨w.heap.size,0,none⟩) 0 0) 0 []:=
 ⟨by simp,.inr ⟨w.heap.size,0,#[],rfl,aF _,heap_alloc_new w _,aF _,aI _,by simp,by simp⟩⟩
theorem Mt(w):Calls aB 138 #[F none 0 0] w λe w'=>e = dF (F none 0 0)/\w=w':=by
 have he:=λw=>Lib.run_eql_slice_nil (P:=aB) w 29 124 none 0 0 0 0 cI;go_enter func138,ntmps138;go_wp2;go_ret;exact⟨rfl,rfl⟩
theorem J1(ad:Addr)(n c:Nat)(K:List CV)(w:World)(hn:n<=4096)(hz:K.length=n)(hc:∀ j u,(Zn K)[j]? = some u->w.cell? (ad.add j)=some u) :
  Calls aB 138 #[F (some ad) n c] w λe w'=>∃ v,e = dF v/\w'.ownsRow w.heap.size 124 6 v n (Zn K)/\ZD w w':=by
 obtain⟨i0,hi,aq,ar,au⟩:=info_parts Tryz.infoCoin;have hb:=Zh w (dE #[] 124);have HC:Hid (∀ j u,(Zn K)[j]? = some u->(w.alloc (dE #[] 124)).cell? (ad.add j)=some u):=λj u hj=>Ze hb (hc j u hj);obtain⟨HB,HZ,HO⟩:=kh3 hb hz (We w 124 6);have he:=λw=>Lib.run_eql_slice_nil (P:=aB) w 29 124 (some ad) n c 0 0 cI;clear hc hb hz;go_enter func138,ntmps138
 go_wp2_with (at_builtin;refine wpList_append_own _ rfl _ _ 29 rfl w.heap.size 124 i0 zeroC 6 64 cI hi aq ar au rfl (by decide) _ _ _ rfl HO ad n c (Zn K) rfl (by rw[Z6,Za HZ]) HC (Xv K) (by unfold maxLen;omega) (by omega) HB.size ?_;intro v2 w3 ag af _)
 have HW:Hid (w3.ownsRow w.heap.size 124 6 v2 n (Zn K)):=by show World.ownsRow _ _ _ _ _ _ _;simpa using ag
 have aj:=Zd (HB.grown af HB.size (Xn HO));clear ag af;go_wp2;go_ret;exact⟨v2,rfl,Za HW,Za aj⟩
theorem R6(a)(n c:Nat)(L)(w:World)(hn:n<=4096)(h:CoinsAt w a n L)(hs:SlOk a n c) :
  Calls aB 138 #[F a n c] w λe w'=>∃ v,∃ K:List CV,e = dF v/\K.map (·.1)=L/\(∀ x∈K,LkAt w x)/\w'.ownsRow w.heap.size 124 6 v K.length (Zn K)/\ZD w w':=by
 obtain⟨hl,hc⟩:=h;cases a with
 | none=>
  obtain⟨rfl,rfl⟩:=hs.2.2 rfl;have e:L=[]:=aL.1 hl;subst e;exact (Mt w).mono λe w' ⟨x,y⟩=>⟨_,[],x,rfl,λ_ hx=>(by cases hx),y ▸ ⟨rfl,.inl ⟨rfl,rfl⟩⟩,y ▸ Below.refl _ _⟩
 | some ad=>
  by_cases h0:n=0
  ·subst h0;have e:L=[]:=aL.1 hl;subst e;exact (J1 ad 0 c [] w hn rfl (λj u hj=>by simp[Zn] at hj)).mono λe w' ⟨v,x,y,z⟩=>⟨v,[],x,rfl,λ_ hx=>(by cases hx),y,z⟩
  ·obtain⟨b,off,e,_,ag⟩:=hc (by omega);obtain⟨rfl⟩:=e;obtain⟨K,h1,h2,h3⟩:=Vr ag;have hk:K.length=n:=(by rw[<-hl,<-h1,List.length_map]);exact (J1 ⟨b,off,none⟩ n c K w hn hk (λj u hj=>by rw[Addr.add_lit];exact h3 j u hj)).mono λe w' ⟨v,x,y,z⟩=>⟨v,K,x,h1,h2,by rw[hk];exact y,z⟩
