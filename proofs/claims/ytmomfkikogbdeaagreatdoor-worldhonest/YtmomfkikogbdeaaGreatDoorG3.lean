import Derived.Test.YtmomfkikogbdeaaGreatDoorH
import Derived.Test.YtmomfkikogbdeaaGreatDoorG2
import Derived.Deep.RegionHeld3
import Derived.Laws.CopyOwn
import Derived.Lib.AppendZerosOnto
import Derived.Lib.Overlaps
open Go.Proofs.Tryz
open Bool renaming and_eq_true->bY
open Go renaming TypeId->cR,rounds_succ->bD,maxLen->cW
open Go.Addr renaming add_lit->cC
open Go.Ending renaming returned->dA
open Go.IntKind renaming wrap_i64->bH,i64->J
open Go.Obj renaming cells->cZ
open Go.Proofs.Tryz renaming prog->aB,underlying29->cE
open Go.Value renaming int->E,slice->F,tuple->dB,bool->dD
open Go.World renaming block_lt_of_cell?->aE,cell?->bF
open List renaming mem_cons->aU,mem_cons_self->cV,take_succ_eq_append_getElem->aS,drop_eq_getElem_cons->aI,drop_of_length_le->bM,mem_append->bA,mem_filter->cU,getElem?_eq_getElem->cF,getElem_mem->aQ,length_eq_zero_iff->aP,take_append_of_le_length->cJ,take_of_length_le->aV,length_append->bW
open Nat renaming le_refl->aF,zero_le->aL
open Option.some renaming injEq->bG
set_option maxHeartbeats 6400000
set_option maxRecDepth 10000
namespace Go.Proofs.YtmomfkikogbdeaaGreatDoor
abbrev Zj:=Int×Int×Int×List (Int×Int)×Int×Bool
abbrev PtD:=Int×Int
def pt(c:Zj):PtD:=(c.1,c.2.1)
def cv(c:Zj):Int:=c.2.2.1
def ck(c:Zj):List (Int×Int):=c.2.2.2.1
def ch(c:Zj):Int:=c.2.2.2.2.1
def cr(c:Zj):Bool:=c.2.2.2.2.2
def lt(p q:PtD):Bool:=decide (p.1<q.1) || (decide (p.1=q.1) && decide (p.2<q.2))
theorem Px(p q:PtD):lt p q=true↔p.1<q.1\/p.1=q.1/\p.2<q.2:=by simp[lt]
theorem lt_irrefl(p:PtD):lt p p=false:=by
 rw[<-Bool.not_eq_true,Px];omega
theorem lt_trans{p q r:PtD}(h1:lt p q=true)(h2:lt q r=true):lt p r=true:=by
 rw[Px] at *;omega
theorem Li{p q:PtD}(h1:lt p q=true):lt q p=false:=by
 rw[<-Bool.not_eq_true,Px];rw[Px] at h1;omega
theorem Zkx(p q:PtD):lt p q=true\/p=q\/lt q p=true:=by
 rw[Px,Px,Prod.ext_iff];omega
theorem Sq{p q:PtD}(h:lt p q=true):p≠q:=λe=>by
 subst e;rw[lt_irrefl] at h;exact Bool.noConfusion h
def Hl(p q:PtD):Int:=if lt p q then -1 else if p=q then 0 else 1
theorem Fq{p q:PtD}:Hl p q<0↔lt p q=true:=by
 unfold Hl;split
 ·simp[*]
 ·split
  ·rename_i h e;subst e;simp[lt_irrefl]
  ·simp[*]
theorem Zph{p q:PtD}:Hl p q=0↔p=q:=by
 unfold Hl;split
 ·rename_i h;simp[Sq h]
 ·split <;> simp[*]
def Srt(L:List Zj):Prop:=L.Pairwise λa b=>lt (pt a) (pt b)=true
theorem Srt.tail{c:Zj}{L}(h:Srt (c :: L)):Srt L:=(List.pairwise_cons.1 h).2
theorem Srt.head{c:Zj}{L}(h:Srt (c :: L)):∀ x∈L,lt (pt c) (pt x)=true:=(List.pairwise_cons.1 h).1
theorem Srt.inj{L}(h:Srt L):∀ {x y:Zj},x∈L->y∈L->pt x=pt y->x=y:=by
 induction L with
 | nil=>intro x y hx;cases hx
 | cons c L ih=>
  intro x y hx z e
  rcases aU.1 hx with rfl|hx <;> rcases aU.1 z with rfl|z
  ·rfl
  ·exact absurd e (Sq (h.head y ‹y∈L›))
  ·exact absurd e.symm (Sq (h.head x ‹x∈L›))
  ·exact ih h.tail hx z e
theorem Srt.ext:∀ {L M:List Zj},Srt L->Srt M->(∀ x,x∈L↔x∈M)->L=M
 | [],[],_,_,_=>rfl
 | [],c :: M,_,_,h=>absurd ((h c).2 (cV ..)) (by simp)
 | c :: L,[],_,_,h=>absurd ((h c).1 (cV ..)) (by simp)
 | c :: L,d :: M,h1,h2,h=>by
  have e:c=d:=by
   rcases aU.1 ((h c).1 (cV ..)) with e|e
   ·exact e
   rcases aU.1 ((h d).2 (cV ..)) with f|f
   ·exact f.symm
   ·have g:=Li (h2.head _ e);rw[h1.head _ f] at g;exact Bool.noConfusion g
  subst e;rw[Srt.ext h1.tail h2.tail λx=>⟨λhx=>?_,λhx=>?_⟩]
  ·rcases aU.1 ((h x).1 (List.mem_cons_of_mem _ hx)) with rfl|q
   ·exact absurd rfl (Sq (h1.head _ hx))
   ·exact q
  ·rcases aU.1 ((h x).2 (List.mem_cons_of_mem _ hx)) with rfl|q
   ·exact absurd rfl (Sq (h2.head _ hx))
   ·exact q
def Zqz(p:PtD):Bool:=(decide (1<=p.1) && decide (p.1<=120)) && (decide (0<=p.2) && decide (p.2<=5))
def okV(n:Int):Bool:=decide (1<=n) && decide (n<=1000000000)
def okH(n:Int):Bool:=decide (1<=n) && decide (n<=1000)
def okC(c:Zj):Bool:=Zqz (pt c) && (okV (cv c) && okH (ch c))
def ck1(c:Zj):Int:=if okC c=false then 3 else chk (ck c)
theorem Yu{c:Zj}(h:ck1 c=0):1<=c.1/\c.1<=120/\0<=c.2.1/\c.2.1<=5/\1<=cv c/\cv c<=1000000000/\1<=ch c/\ch c<=1000/\chk (ck c)=0:=by
 unfold ck1 at h;split at h
 ·cases h
 ·rename_i q;simp only[Bool.not_eq_false,okC,Zqz,okV,okH,pt,bY,decide_eq_true_eq] at q;exact⟨of_decide_eq_true q.1.1.1,of_decide_eq_true q.1.1.2,of_decide_eq_true q.1.2.1,of_decide_eq_true q.1.2.2,q.2.1.1,q.2.1.2,q.2.2.1,q.2.2.2,h⟩
def Pg(p:Option PtD)(c:Zj):Bool:=match p with|none=>true|some p=>lt p (pt c)
def Y7:Option PtD->Int->List Zj->Int
 | _,_,[]=>0
 | p,s,c :: r=>if ck1 c≠0 then ck1 c else if Pg p c=false then 6 else if 1000000000<s+cv c then 12 else Y7 (some (pt c)) (s+cv c) r
def Z4(L:List Zj):Int:=if 720<L.length then 2 else Y7 none 0 L
def J5(L:List Zj)(k:Nat):Option PtD:=if k=0 then none else (L[k - 1]?).map pt
def Zp(L:List Zj):Int:=(L.map cv).sum
def Y6(L:List Zy):Int:=(L.map (·.1)).sum
theorem Kd:Zp []=0:=rfl
theorem Xc(c:Zj)(L):Zp (c :: L)=cv c+Zp L:=by simp[Zp]
theorem Xz(L M):Zp (L++M)=Zp L+Zp M:=by simp[Zp]
theorem Pk(L:List Zj)(k:Nat)(h:k<L.length):Zp (L.take (k+1))=Zp (L.take k)+cv L[k]:=by
 rw[aS h,Xz,Xc,Kd];omega
theorem Ni(L:List Zy)(k:Nat)(h:k<L.length):Y6 (L.take (k+1))=Y6 (L.take k)+L[k].1:=by
 rw[aS h];unfold Y6;rw[List.map_append,List.sum_append];simp
theorem Kw(L:List Zj)(k:Nat)(h:k<L.length):J5 L (k+1)=some (pt L[k]):=by
 unfold J5;rw[if_neg (by omega)];simp[h]
theorem Zpk(L:List Zj)(k:Nat)(h:k<L.length)(p:Option PtD)(s:Int):Y7 p s (L.drop k)=if ck1 L[k]≠0 then ck1 L[k] else if Pg p L[k]=false then 6 else if 1000000000<s+cv L[k] then 12 else Y7 (some (pt L[k])) (s+cv L[k]) (L.drop (k+1)):=by
 rw[aI h,Y7]
theorem Zmb(L:List Zj)(k:Nat)(h:L.length<=k)(p:Option PtD)(s:Int):Y7 p s (L.drop k)=0:=by
 rw[bM h,Y7]
theorem Zmc{c:Zj}{r}{p:Option PtD}{s:Int}(h:ck1 c≠0):Y7 p s (c :: r)=ck1 c:=by rw[Y7,if_pos h]
theorem Zcm{c:Zj}{r}{p:Option PtD}{s:Int}(h:ck1 c=0)(h2:Pg p c=false):Y7 p s (c :: r)=6:=by
 rw[Y7,if_neg (by rw[h];decide),if_pos h2]
theorem Zhy{c:Zj}{r}{p:Option PtD}{s:Int}(h:ck1 c=0)(h2:Pg p c=true)(h3:1000000000<s+cv c):Y7 p s (c :: r)=12:=by
 rw[Y7,if_neg (by rw[h];decide),if_neg (by rw[h2];decide),if_pos h3]
theorem Zpj{c:Zj}{r}{p:Option PtD}{s:Int}(h:ck1 c=0)(h2:Pg p c=true)(h3:¬1000000000<s+cv c):Y7 p s (c :: r)=Y7 (some (pt c)) (s+cv c) r:=by
 rw[Y7,if_neg (by rw[h];decide),if_neg (by rw[h2];decide),if_neg h3]
theorem Ww:∀ (L:List Zj),(∀ c∈L,0<=cv c)->0<=Zp L
 | [],_=>Int.le_refl _
 | c :: r,h=>by
  rw[Xc];have h1:=h c (cV ..);have h2:=Ww r λx hx=>h x (List.mem_cons_of_mem _ hx);omega
theorem Dj:∀ (L:List Zj) (p:Option PtD) (s:Int),0<=s->s<=1000000000->(Y7 p s L=0↔(∀ c∈L,ck1 c=0)/\Srt L/\(∀ c∈L,Pg p c=true)/\s+Zp L<=1000000000)
 | [],p,s,_,h=>by simp[Y7,Srt,Zp,h]
 | c :: r,p,s,h0,h=>by
  by_cases h1:ck1 c=0
  ·have hv:1<=cv c:=(Yu h1).2.2.2.2.1;cases h2:Pg p c with
   | false=>
    rw[Zcm h1 h2];refine⟨λe=>(by cases e),λe=>?_⟩;have:=e.2.2.1 c (cV ..);rw[h2] at this;exact Bool.noConfusion this
   | true=>
    by_cases h3:1000000000<s+cv c
    ·rw[Zhy h1 h2 h3];refine⟨λe=>(by cases e),λe=>?_⟩
     have h4:0<=Zp r:=Ww r λx hx=>by
      have:=(Yu (e.1 x (List.mem_cons_of_mem _ hx))).2.2.2.2.1;omega
     have h5:=e.2.2.2;rw[Xc] at h5;omega
    ·rw[Zpj h1 h2 h3,Dj r (some (pt c)) (s+cv c) (by omega) (by omega),Xc];constructor
     ·rintro ⟨Q,z,a3,a4⟩;refine⟨λx hx=>?_,List.pairwise_cons.2 ⟨λx hx=>a3 x hx,z⟩,λx hx=>?_,by omega⟩
      ·rcases aU.1 hx with rfl|hx
       ·exact h1
       ·exact Q x hx
      ·rcases aU.1 hx with rfl|hx
       ·exact h2
       ·cases p with
        | none=>rfl
        | some p=>exact lt_trans h2 (a3 x hx)
     ·rintro ⟨Q,z,a3,a4⟩;exact⟨λx hx=>Q x (List.mem_cons_of_mem _ hx),Srt.tail z,λx hx=>Srt.head z x hx,by omega⟩
  ·rw[Zmc h1];exact⟨λe=>absurd e h1,λe=>absurd (e.1 c (cV ..)) h1⟩
structure Ys(L:List Zj):Prop where
 len:L.length<=720
 one:∀ c∈L,ck1 c=0
 srt:Srt L
 sum:Zp L<=1000000000
theorem Z6(L):Z4 L=0↔Ys L:=by
 unfold Z4;by_cases h:720<L.length
 ·rw[if_pos h];exact⟨λe=>(by cases e),λe=>absurd e.len (by omega)⟩
 ·rw[if_neg h,Dj L none 0 (by omega) (by omega)];exact⟨λ⟨a,b,_,c⟩=>⟨by omega,a,b,by omega⟩,λe=>⟨e.one,e.srt,λ_ _=>rfl,by have:=e.sum;omega⟩⟩
def pos(p:PtD)(L:List Zj):Nat:=L.countP λc=>lt (pt c) p
def Y3(p:PtD)(L:List Zj):Bool:=L.any λc=>decide (pt c=p)
def Ue(p:PtD)(L:List Zj):Option (Zj×List Zj):=
 match L.find? (λc=>decide (pt c=p)) with|none=>none|some c=>some (c,L.filter λc=>decide (pt c≠p))
def Ps(c:Zj)(L:List Zj):List Zj:=L.filter (λx=>lt (pt x) (pt c))++c :: L.filter λx=>lt (pt c) (pt x)
theorem Srt.filter{L:List Zj}(h:Srt L)(f:Zj->Bool):Srt (L.filter f):=List.Pairwise.filter f h
theorem Y5(p:PtD)(L):Y3 p L=true↔∃ c∈L,pt c=p:=by simp[Y3]
theorem So{c x:Zj}{L}(h:Y3 (pt c) L=false):x∈Ps c L↔x=c\/x∈L:=by
 unfold Ps;rw[bA,aU,cU,cU];constructor
 ·rintro (⟨a,_⟩|rfl|⟨a,_⟩)
  ·exact .inr a
  ·exact .inl rfl
  ·exact .inr a
 ·rintro (rfl|a)
  ·exact .inr (.inl rfl)
  ·rcases Zkx (pt x) (pt c) with q|q|q
   ·exact .inl ⟨a,q⟩
   ·rw[<-Bool.not_eq_true,Y5] at h;exact absurd ⟨x,a,q⟩ h
   ·exact .inr (.inr ⟨a,q⟩)
theorem Sg{c:Zj}{L}(h:Srt L):Srt (Ps c L):=by
 unfold Ps Srt;rw[List.pairwise_append];refine⟨h.filter _,List.pairwise_cons.2 ⟨λx hx=>(cU.1 hx).2,h.filter _⟩,λa Q b z=>?_⟩;have h1:=(cU.1 Q).2
 rcases aU.1 z with rfl|z
 ·exact h1
 ·exact lt_trans h1 (cU.1 z).2
theorem Ul{p:PtD}:∀ {L:List Zj},Srt L->L.take (pos p L)=L.filter (λx=>lt (pt x) p)/\L.drop (pos p L)=L.filter (λx=>!lt (pt x) p)
 | [],_=>by simp[pos]
 | c :: L,h=>by
  obtain⟨h1,h2⟩:=Ul (p:=p) h.tail;unfold pos at *;cases hc:lt (pt c) p with
  | true=>
   rw[List.countP_cons_of_pos (by simpa using hc),List.filter_cons_of_pos (by simpa using hc),List.filter_cons_of_neg (by simp[hc]),List.take_succ_cons,List.drop_succ_cons,h1,h2];exact⟨rfl,rfl⟩
  | false=>
   have h3:∀ x∈L,lt (pt x) p=false:=λx hx=>by
    rw[<-Bool.not_eq_true];intro q;rw[lt_trans (h.head x hx) q] at hc;exact Bool.noConfusion hc
   have e:(c :: L).countP (λc=>lt (pt c) p)=0:=by
    rw[List.countP_eq_zero];intro x hx
    rcases aU.1 hx with rfl|hx
    ·simp[hc]
    ·simp[h3 x hx]
   rw[e,List.take_zero,List.drop_zero];constructor
   ·symm;rw[List.filter_eq_nil_iff]
    intro x hx
    rcases aU.1 hx with rfl|hx
    ·simp[hc]
    ·simp[h3 x hx]
   ·symm;rw[List.filter_eq_self]
    intro x hx
    rcases aU.1 hx with rfl|hx
    ·simp[hc]
    ·simp[h3 x hx]
theorem Zjt(p:PtD)(L:List Zj):pos p L<=L.length:=List.countP_le_length ..
theorem Cj{p:PtD}{L:List Zj}(h:Srt L):Y3 p L=(decide (pos p L<L.length) && decide ((L[pos p L]?).map pt=some p)):=by
 obtain⟨h1,h2⟩:=Ul (p:=p) h;rw[Bool.eq_iff_iff,Y5,bY,decide_eq_true_eq,decide_eq_true_eq];constructor
 ·rintro ⟨c,hc,e⟩;have Q:c∈L.drop (pos p L):=by rw[h2,cU];exact⟨hc,by rw[e,lt_irrefl];rfl⟩
  have z:pos p L<L.length:=by
   rcases Nat.lt_or_ge (pos p L) L.length with q|q
   ·exact q
   ·rw[bM q] at Q;cases Q
  refine⟨z,?_⟩;have hs:Srt (L.drop (pos p L)):=by rw[h2];exact h.filter _
  rw[aI z] at Q hs;rw[cF z,Option.map_some]
  rcases aU.1 Q with rfl|q
  ·rw[e]
  ·have g:=hs.head c q;have h3:L[pos p L]∈L.drop (pos p L):=(by rw[aI z];exact cV ..);rw[h2,cU] at h3;rw[e] at g;rw[g] at h3;exact absurd h3.2 (by decide)
 ·rintro ⟨z,e⟩;rw[cF z,Option.map_some,bG] at e;exact⟨L[pos p L],aQ z,e⟩
theorem Zac{p:PtD}{L}(h:Y3 p L=false):Ue p L=none:=by
 unfold Ue
 have:L.find? (λc=>decide (pt c=p))=none:=by
  rw[List.find?_eq_none];intro x hx;rw[<-Bool.not_eq_true,Y5] at h;simp only[decide_eq_true_eq];exact λe=>h ⟨x,hx,e⟩
 rw[this]
theorem Nh{p:PtD}{L:List Zj}(h:Srt L){c:Zj}(z:c∈L)(e:pt c=p):Ue p L=some (c,L.filter λc=>decide (pt c≠p)):=by
 unfold Ue
 have:L.find? (λc=>decide (pt c=p))=some c:=by
  cases q:L.find? (λc=>decide (pt c=p)) with
  | none=>rw[List.find?_eq_none] at q;exact absurd (decide_eq_true e) (q c z)
  | some d=>
   have h1:=List.find?_some q;have h2:=List.mem_of_find?_eq_some q;simp only[decide_eq_true_eq] at h1;rw[h.inj h2 z (by rw[h1,e])]
 rw[this]
theorem Vk{p:PtD}{L M:List Zj}{c:Zj}(h:Ue p L=some (c,M)):c∈L/\pt c=p/\M=L.filter λc=>decide (pt c≠p):=by
 unfold Ue at h;split at h
 ·cases h
 ·rename_i d q;simp only[bG,Prod.mk.injEq] at h;obtain⟨rfl,rfl⟩:=h;have h1:=List.find?_some q;simp only[decide_eq_true_eq] at h1;exact⟨List.mem_of_find?_eq_some q,h1,rfl⟩
theorem Ziz{p:PtD}{L:List Zj}(h:Srt L)(z:pos p L<L.length)(e:pt L[pos p L]=p):Ue p L=some (L[pos p L],L.take (pos p L)++L.drop (pos p L+1)):=by
 rw[Nh h (aQ z) e];obtain⟨h1,h2⟩:=Ul (p:=p) h;have h3:=aI z;rw[h2] at h3;have hs:Srt (L[pos p L] :: L.drop (pos p L+1)):=by rw[<-h3];exact h.filter _
 have Q:L.filter (λc=>decide (pt c≠p))=L.take (pos p L)++L.drop (pos p L+1):=by
  have e2:L=L.take (pos p L)++(L[pos p L] :: L.drop (pos p L+1)):=by rw[<-aI z,List.take_append_drop]
  have e3:L.filter (λc=>decide (pt c≠p))=(L.take (pos p L)++(L[pos p L] :: L.drop (pos p L+1))).filter (λc=>decide (pt c≠p)):=congrArg _ e2;rw[e3,List.filter_append,List.filter_cons_of_neg (by simp[e])]
  congr 1
  ·rw[List.filter_eq_self];intro x hx;rw[h1,cU] at hx;exact decide_eq_true (Sq hx.2)
  ·rw[List.filter_eq_self];intro x hx;have:=hs.head x hx;rw[e] at this;exact decide_eq_true (Ne.symm (Sq this))
 rw[Q]
theorem Zdv{c:Zj}{L:List Zj}(h:Srt L)(z:Y3 (pt c) L=false):Ps c L=L.take (pos (pt c) L)++c :: L.drop (pos (pt c) L):=by
 obtain⟨h1,h2⟩:=Ul (p:=pt c) h;unfold Ps;rw[h1,h2]
 congr 2
 refine List.filter_congr λx hx=>?_;rw[Bool.eq_iff_iff]
 rcases Zkx (pt x) (pt c) with q|q|q
 ·simp[q,Li q]
 ·rw[<-Bool.not_eq_true,Y5] at z;exact absurd ⟨x,hx,q⟩ z
 ·simp[q,Li q]
open Go.RowKit
def cnV(x:Zj)(a:Option Addr)(n c:Nat):Value:=.agg #[E J x.1,E J x.2.1,E J (cv x),F a n c,E J (ch x),dD (cr x)]
def CoinAt(w:World)(b o:Nat)(x:Zj):Prop:=
 w.cell? ⟨b,o,none⟩=some (E J x.1)/\w.cell? ⟨b,o+1,none⟩=some (E J x.2.1)/\w.cell? ⟨b,o+2,none⟩=some (E J (cv x)) /\
 (∃ a n c,w.cell? ⟨b,o+3,none⟩=some (F a n c)/\OpsAt w a n (ck x)/\SlOk a n c) /\
 w.cell? ⟨b,o+4,none⟩=some (E J (ch x))/\w.cell? ⟨b,o+5,none⟩=some (dD (cr x))
theorem CoinAt.kept:Hf CoinAt:=λ_ _ _ _ _ z h=>by
 obtain⟨h1,h2,h3,⟨a,n,c,h4,h5,h6⟩,h7,h8⟩:=h;exact⟨Ze z h1,Ze z h2,Ze z h3,⟨a,n,c,Ze z h4,h5.later z,h6⟩,Ze z h7,Ze z h8⟩
def CoinsAt(w:World)(a:Option Addr)(len:Nat)(l:List Zj):Prop:=RowsAt CoinAt 6 w a len l
theorem CoinsAt.later{w w':World}{a len l}(h:CoinsAt w a len l)(z:ZD w w'):CoinsAt w' a len l:=RowsAt.later CoinAt.kept h z
theorem Dz(w:World)(a b c d e f)(t:cR):(w.alloc (cZ #[a,b,c,d,e,f] t)).cell? ⟨w.heap.size,0,none⟩=some a/\(w.alloc (cZ #[a,b,c,d,e,f] t)).cell? ⟨w.heap.size,1,none⟩=some b/\(w.alloc (cZ #[a,b,c,d,e,f] t)).cell? ⟨w.heap.size,2,none⟩=some c /\
  (w.alloc (cZ #[a,b,c,d,e,f] t)).cell? ⟨w.heap.size,3,none⟩=some d/\(w.alloc (cZ #[a,b,c,d,e,f] t)).cell? ⟨w.heap.size,4,none⟩=some e/\(w.alloc (cZ #[a,b,c,d,e,f] t)).cell? ⟨w.heap.size,5,none⟩=some f:=by
 refine⟨?_,?_,?_,?_,?_,?_⟩ <;> (rw[World.cell?_alloc_at _ _ _ _ rfl];rfl)
def Hm(x y:Int):Int:=if x<y then -1 else if y<x then 1 else 0
theorem Cf(x:Int)(w):Calls aB 223 #[E J x] w λe w'=>e = dA (dD false)/\w=w':=by
 go_enter func223,ntmps223;go_wp2;go_ret;exact⟨rfl,rfl⟩
theorem Mx(x y:Int)(w):Calls aB 231 #[E J x,E J y] w λe w'=>e = dA (E J (Hm x y))/\w=w':=by
 obtain⟨C1,z⟩:=kh2 (Cf x) (Cf y);by_cases h1:x<y
 ·have e:Hm x y = -1:=by simp[Hm,h1]
  rw[e];clear e;go_enter func231,ntmps231;go_wp2_with fail;refine (C1 _).mono ?_;rintro e w' ⟨rfl,rfl⟩;go_wp2_with fail;refine (z _).mono ?_;rintro e w' ⟨rfl,rfl⟩;go_wp2;go_ret;exact⟨rfl,rfl⟩
 ·by_cases h2:y<x
  ·have e:Hm x y=1:=(by simp[Hm,h1,h2]);rw[e];clear e;go_enter func231,ntmps231;go_wp2_with fail;refine (C1 _).mono ?_;rintro e w' ⟨rfl,rfl⟩;go_wp2_with fail;refine (z _).mono ?_;rintro e w' ⟨rfl,rfl⟩;go_wp2;go_ret;exact⟨rfl,rfl⟩
  ·have e:Hm x y=0:=(by simp[Hm,h1,h2]);rw[e];clear e;go_enter func231,ntmps231;go_wp2_with fail;refine (C1 _).mono ?_;rintro e w' ⟨rfl,rfl⟩;go_wp2_with fail;refine (z _).mono ?_;rintro e w' ⟨rfl,rfl⟩;go_wp2;go_ret;exact⟨rfl,rfl⟩
def orI(x y:Int):Int:=if x=0 then y else x
theorem Zlz(x y:Int)(b c:Nat)(w:World)(h1:w.cell? ⟨b,0,none⟩=some (E J x))(h2:w.cell? ⟨b,1,none⟩=some (E J y)) :
  Calls aB 230 #[F (some ⟨b,0,none⟩) 2 c] w λe w'=>e = dA (E J (orI x y))/\w=w':=by
 by_cases hx:x=0
 ·subst hx;by_cases z:y=0
  ·subst z;have e:orI 0 0=0:=rfl;rw[e];clear e;go_enter func230,ntmps230;go_wp2;refine wp_loop_rounds 3 ?_;rw[bD];go_wp2;rw[bD];go_wp2;rw[bD];go_wp2;go_ret;exact⟨rfl,rfl⟩
  ·have e:orI 0 y=y:=rfl;rw[e];have gy:(y != 0)=true:=(by simp[z]);clear e z;go_enter func230,ntmps230;go_wp2;refine wp_loop_rounds 2 ?_;rw[bD];go_wp2;rw[bD];go_wp2;go_ret;exact⟨rfl,rfl⟩
 ·have e:orI x y=x:=by simp[orI,hx]
  rw[e];have Q:(x != 0)=true:=by simp[hx]
  clear e hx;go_enter func230,ntmps230;go_wp2;refine wp_loop_rounds 1 ?_;rw[bD];go_wp2;go_ret;exact⟨rfl,rfl⟩
theorem Zpg(p q:PtD):orI (Hm p.1 q.1) (Hm p.2 q.2)=Hl p q:=by
 obtain⟨a,b⟩:=p;obtain⟨c,d⟩:=q;unfold orI Hm Hl lt;simp only[Bool.or_eq_true,bY,decide_eq_true_eq,Prod.mk.injEq]
 repeat' split
 all_goals omega
theorem Yc(w:World)(x y)(t:cR):(w.alloc (cZ #[x,y] t)).cell? ⟨w.heap.size,0,none⟩=some x/\(w.alloc (cZ #[x,y] t)).cell? ⟨w.heap.size,1,none⟩=some y:=
 ⟨by rw[World.cell?_alloc_at _ _ _ _ rfl];rfl,by rw[World.cell?_alloc_at _ _ _ _ rfl];rfl⟩
theorem Zi(w:World):ZD w w.drew:=⟨rfl,rfl,rfl,aF _,λ_ _=>rfl⟩
theorem T2(p q:PtD)(ak:Int)(w:World)(hz:Hl p q=ak) :
  ZH 201 #[.agg #[E J p.1,E J p.2],.agg #[E J q.1,E J q.2]] w (E J ak):=by
 obtain⟨a,b⟩:=p;obtain⟨c,d⟩:=q;have e:=Zpg (a,b) (c,d);rw[hz] at e;simp only at e ⊢;have ac:=Zd e;obtain⟨X,z⟩:=ZG ((w.alloc (cZ #[E J a,E J b] 117)).alloc (cZ #[E J c,E J d] 117));have HB:Hid (ZD w X):=by rw[z];exact (Zf (Zh w (cZ #[E J a,E J b] 117)) (Zh _ (cZ #[E J c,E J d] 117)))
 have x0:X.cell? ⟨w.heap.size,0,none⟩=some (E J a):=by rw[z];exact Ze (Zh _ _) (Yc w _ _ _).1
 have x1:X.cell? ⟨w.heap.size,1,none⟩=some (E J b):=by rw[z];exact Ze (Zh _ _) (Yc w _ _ _).2
 have x2:X.cell? ⟨w.heap.size+1,0,none⟩=some (E J c):=by rw[z];have:=(Yc (w.alloc (cZ #[E J a,E J b] 117)) (E J c) (E J d) 117).1;simp at this ⊢
 have x3:X.cell? ⟨w.heap.size+1,1,none⟩=some (E J d):=by rw[z];have:=(Yc (w.alloc (cZ #[E J a,E J b] 117)) (E J c) (E J d) 117).2;simp at this ⊢
 clear hz e;go_enter func201,ntmps201;go_wp2_with fail;rw[<-z];clear z
 go_region_held3 (λw'=>ZD X w'/\w'.cell? ⟨w.heap.size,0,none⟩=some (E J a)/\w'.cell? ⟨w.heap.size,1,none⟩=some (E J b)/\w'.cell? ⟨w.heap.size+1,0,none⟩=some (E J c)/\w'.cell? ⟨w.heap.size+1,1,none⟩=some (E J d))
  (first
  | exact⟨Zi _,x0,x1,x2,x3⟩
  | (go_split_ands;exact⟨by assumption,by assumption,by assumption,by assumption,by assumption⟩)
  | (go_split_ands;exact⟨Zf (by assumption) (Zh _ _),Ze (Zh _ _) (by assumption),Ze (Zh _ _) (by assumption),Ze (Zh _ _) (by assumption),Ze (Zh _ _) (by assumption)⟩))
  (first
  | (go_at_call 231;refine (Mx _ _ _).mono ?_;rintro e w' ⟨rfl,rfl⟩)
  | (go_at_call 230;refine (Zlz (Hm a c) (Hm b d) _ 2 _ ?_ ?_).mono ?_;exact (Yc _ _ _ _).1;exact (Yc _ _ _ _).2;rintro e w' ⟨rfl,rfl⟩))
 rename_i Q;have HH:=Zd (Zf HB Q.1);clear Q;go_wp2;go_ret;exact⟨by rw[<-Za ac];rfl,Za HH⟩
theorem Ug(h:Int)(b:Bool)(w)(z:okH h=b) :
  Calls aB 203 #[E J h] w λe w'=>e = dA (dD b)/\w=w':=by
 have C:=Zd (Y1 h 1 1000 b w (by rw[<-z];rfl));clear z;go_enter func203,ntmps203;go_wp2_with fail;refine C.mono ?_;rintro e w' ⟨rfl,rfl⟩;go_wp2;go_ret;exact⟨rfl,rfl⟩
theorem Zbj(a len cap l)(x:Int)(w:World)(hx:chk l=x)(h:OpsAt w a len l) :
  ZH 249 #[F a len cap] w (E J x):=by
 subst hx;exact Uo a len cap l w h
theorem F8(x:Zj)(a)(n c:Nat)(bf:Int)(w:World)(hO:OpsAt w a n (ck x))(hz:ck1 x=bf) :
  ZH 200 #[cnV x a n c] w (E J bf):=by
 obtain⟨x1,x2,x3,k,x4,x5⟩:=x;unfold cnV;simp only[cv,ck,ch,cr] at hO ⊢;obtain⟨X,Q⟩:=ZG (w.alloc (cZ #[E J x1,E J x2,E J x3,F a n c,E J x4,dD x5] 124));obtain⟨n0,n1,n2,n3,n4,n5⟩:=Dz w (E J x1) (E J x2) (E J x3) (F a n c) (E J x4) (dD x5) 124;rw[<-Q] at n0 n1 n2 n3 n4 n5;have hb:ZD w X:=by rw[Q];exact Zh _ _
 obtain⟨HB,HO,N2,N3,N4⟩:=kh5 hb (hO.later hb) n2 n3 n4;clear hO hb n5;cases hp:Zqz (x1,x2) with
 | false=>
  have e:bf=3:=by rw[<-hz];unfold ck1;rw[if_pos (by unfold okC pt;rw[hp];rfl)]
  subst e;have C1:=Zd (Je x1 x2 false X hp);clear hp hz;go_enter func200,ntmps200;go_wp2_with fail;rw[<-Q];clear Q;go_wp2_with fail;refine C1.mono ?_;rintro e w2 ⟨rfl,z⟩;have ab:=Zd (Zf HB z);clear z;go_wp2;go_ret;exact⟨rfl,Za ab⟩
 | true=>
  have C1:=Zd (Je x1 x2 true X hp);cases hv:okV x3 with
  | false=>
   have e:bf=3:=(by rw[<-hz];unfold ck1;rw[if_pos (by unfold okC pt;rw[hp];simp only[cv];rw[hv];rfl)]);subst e;have C2:=Zd (λw=>Y1 x3 1 1000000000 false w (by rw[<-hv];rfl));clear hp hz hv;go_enter func200,ntmps200;go_wp2_with fail;rw[<-Q];clear Q;go_wp2_with fail;refine C1.mono ?_;rintro e w2 ⟨rfl,z⟩;have m2:=Ze z N2;have ar:w.heap.size<w2.heap.size:=aE _ _ m2;have ab:=Zd (Zf HB z);clear z;go_wp2_with fail;refine (C2 _).mono ?_;rintro e w3 ⟨rfl,rfl⟩;go_wp2;go_ret;exact⟨rfl,Za ab⟩
  | true=>
   have C2:=Zd (λw=>Y1 x3 1 1000000000 true w (by rw[<-hv];rfl));cases hh:okH x4 with
   | false=>
    have e:bf=3:=(by rw[<-hz];unfold ck1;rw[if_pos (by unfold okC pt;rw[hp];simp only[cv,ch];rw[hv,hh];rfl)]);subst e;have C3:=Zd (λw=>Ug x4 false w hh);clear hp hz hv hh;go_enter func200,ntmps200;go_wp2_with fail;rw[<-Q];clear Q;go_wp2_with fail;refine C1.mono ?_;rintro e w2 ⟨rfl,z⟩;have m2:=Ze z N2;have m4:=Ze z N4;have ar:w.heap.size<w2.heap.size:=aE _ _ m2;have ab:=Zd (Zf HB z);clear z;go_wp2_with fail;refine (C2 _).mono ?_;rintro e w3 ⟨rfl,rfl⟩;go_wp2_with fail;refine (C3 _).mono ?_;rintro e w3 ⟨rfl,rfl⟩;go_wp2;go_ret;exact⟨rfl,Za ab⟩
   | true=>
    have e:chk k=bf:=(by rw[<-hz];unfold ck1;rw[if_neg (by unfold okC pt;rw[hp];simp only[cv,ch];rw[hv,hh];decide)];rfl);have C3:=Zd (λw=>Ug x4 true w hh);have az:=Zd e;clear hp hz hv hh e;go_enter func200,ntmps200;go_wp2_with fail;rw[<-Q];clear Q;go_wp2_with fail;refine C1.mono ?_;rintro e w2 ⟨rfl,z⟩;have m2:=Ze z N2;have m3:=Ze z N3;have m4:=Ze z N4;have ar:w.heap.size<w2.heap.size:=aE _ _ m2;obtain⟨C4,ab⟩:=kh2 (Zbj a n c k bf w2 az (HO.later z)) (Zf HB z);clear z;go_wp2_with fail;refine (C2 _).mono ?_;rintro e w3 ⟨rfl,rfl⟩;go_wp2_with fail;refine (C3 _).mono ?_;rintro e w3 ⟨rfl,rfl⟩;go_wp2_with fail;refine C4.mono ?_;rintro e w4 ⟨rfl,aq⟩;have bb:=Zd (Zf ab aq);clear aq;go_wp2;go_ret;exact⟨rfl,Za bb⟩
theorem Aa(w:World)(n:Nat):ZD w (w.drewN n):=⟨rfl,rfl,rfl,aF _,λ_ _=>rfl⟩
theorem CoinAt.val{w:World}{b o}{x:Zj}(h:CoinAt w b o x):∃ a n c,w.cell? ⟨b,o,none⟩=some (E J x.1)/\w.cell? ⟨b,o+1,none⟩=some (E J x.2.1)/\w.cell? ⟨b,o+2,none⟩=some (E J (cv x)) /\
  w.cell? ⟨b,o+3,none⟩=some (F a n c)/\w.cell? ⟨b,o+4,none⟩=some (E J (ch x))/\w.cell? ⟨b,o+5,none⟩=some (dD (cr x))/\OpsAt w a n (ck x)/\SlOk a n c:=by
 obtain⟨h1,h2,h3,⟨a,n,c,h4,h5,h6⟩,h7,h8⟩:=h;exact⟨a,n,c,h1,h2,h3,h4,h7,h8,h5,h6⟩
theorem Ah(b off n c:Nat)(L:List Zj)(w:World)(hn:n<=720)(hz:L.length=n)(hc:∀ i (h:i<L.length),CoinAt w b (off+i*6) L[i]) :
  ZH 143 #[F (some ⟨b,off,none⟩) n c] w (E J (Y7 none 0 L)):=by
 obtain⟨HC,HZ⟩:=kh2 hc hz;clear hc hz;go_enter func143,ntmps143;go_wp2
 go_loopw [3,12] (λsv i wr=>∃ (k:Nat) (S:Int),k<=n/\i = E J k/\sv = E J S/\0<=S/\S<=1000000000/\Hid (Y7 none 0 L=Y7 (J5 L k) S (L.drop k))/\ZD w wr) (λ_ i _=>n - (intOf i).toNat)
 case atStart=>exact⟨0,0,aL _,rfl,rfl,by decide,by decide,rfl,Below.refl _ _⟩
 case round=>
  obtain⟨k,S,hk,rfl,rfl,dc,dd,A,hb⟩:=hrel;have HB:=Zd hb;by_cases cw:k<n
  ·have bd:k<L.length:=(by rw[Za HZ];exact cw);have bb:=CoinAt.kept _ _ _ _ _ hb (HC k bd);have ST:=Zd (Zpk L k bd (J5 L k) S)
   have HL:Hid (∀ j,k=j+1->∃ q,J5 L k=some (pt q)/\CoinAt wr b (off+j*6) q):=λj hj=>by
    have bk:j<L.length:=(by omega);exact⟨L[j],by rw[hj];exact Kw L j bk,CoinAt.kept _ _ _ _ _ hb (HC j bk)⟩
   have HN:Hid (k+1<=L.length->J5 L (k+1)=some (pt L[k])):=λ_=>Kw L k bd;obtain⟨x,hx⟩:=ZF (L[k]);rw[hx] at bb ST HN;have A2:Hid (Y7 none 0 L=if ck1 x≠0 then ck1 x else if Pg (J5 L k) x=false then 6 else if 1000000000<S+cv x then 12 else Y7 (some (pt x)) (S+cv x) (L.drop (k+1))):=(by show _=_;rw[Za A,Za ST]);have PN:Hid (J5 L (k+1)=some (pt x)):=HN bd;obtain⟨a,m,d,g1,g2,g3,g4,g5,g6,hO,_⟩:=bb.val;obtain⟨X,hX⟩:=ZG (wr.alloc (cZ #[E J x.1,E J x.2.1,E J (cv x),F a m d,E J (ch x),dD (cr x)] 124));obtain⟨n0,n1,n2,n3,n4,n5⟩:=Dz wr (E J x.1) (E J x.2.1) (E J (cv x)) (F a m d) (E J (ch x)) (dD (cr x)) 124;rw[<-hX] at n0 n1 n2 n3 n4 n5;have az:ZD wr X:=(by rw[hX];exact Zh _ _);have dl:wr.heap.size<X.heap.size:=aE _ _ n0;obtain⟨au,HO,N0,N1,N2⟩:=kh5 az (hO.later az) n0 n1 n2;obtain⟨dq,hz⟩:=ZF (ck1 x);have C1:=Zd (F8 x a m d dq X HO hz);rw[hz] at A2;have HX:=Zd hX;by_cases be:dq=0
   ·subst be;have K:=Yu hz;have cx:1<=cv x:=K.2.2.2.2.1;have cy:cv x<=1000000000:=K.2.2.2.2.2.1
    have A3:Hid (Y7 none 0 L=if Pg (J5 L k) x=false then 6 else if 1000000000<S+cv x then 12 else Y7 (some (pt x)) (S+cv x) (L.drop (k+1))):=by
     have h:=Za A2;rw[if_neg (by decide)] at h;exact h
    clear K A A2 ST HN hx bb hO hb hz n3 n4 n5 hX;obtain⟨v,hv⟩:=ZF (cv x);rw[hv] at cx cy A3 n2 N2 g3 HX;unfold cnV at C1;rw[hv] at C1;by_cases ag:k=0
    ·have A4:Hid (Y7 none 0 L=if 1000000000<S+v then 12 else Y7 (some (pt x)) (S+v) (L.drop (k+1))):=by
      have h:=Za A3;rw[ag] at h;rw[if_neg (by show ¬true=false;decide)] at h;rw[ag];exact h
     clear A3 HL;have hg:decide ((0:Int)<(k:Int))=false:=(by rw[ag];decide);have df:decide (0<k)=false:=(by rw[ag];decide);clear ag;go_wp2_with fail;rw[<-Za HX];go_wp2_with fail;refine C1.mono ?_;rintro e w2 ⟨rfl,z⟩;have m2:=Ze z N2;have cj:wr.heap.size<w2.heap.size:=aE _ _ m2;have ab:=Zd (Zf (Zf HB au) z);clear z;go_wp2_with fail
     go_quiet (fail)
     by_cases hf:1000000000<S+v
     ·have R:Hid (Y7 none 0 L=12):=(by show _=_;rw[Za A4,if_pos hf]);clear A4;go_wp2;go_ret;exact⟨by rw[Za R];rfl,Zf ab (Aa _ _)⟩
     ·have R:Hid (Y7 none 0 L=Y7 (J5 L (k+1)) (S+v) (L.drop (k+1))):=(by show _=_;rw[Za A4,if_neg hf,Za PN]);clear A4;go_wp2;go_roundw
      case rel=>exact⟨k+1,S+v,by omega,by go_num,rfl,by omega,by omega,R,Zf ab (Aa _ _)⟩
      case measure=>simp[intOf];omega
    ·obtain⟨j,rfl⟩:∃ j,k=j+1:=⟨k - 1,by omega⟩;obtain⟨q,hq,cg⟩:=HL j rfl;obtain⟨_,_,_,q1,q2,_,_,_,_,_,_⟩:=cg.val
     have A5:Hid (Y7 none 0 L=if lt (pt q) (pt x)=false then 6 else if 1000000000<S+v then 12 else Y7 (some (pt x)) (S+v) (L.drop (j+1+1))):=by
      have h:=Za A3;rw[hq] at h;exact h
     obtain⟨Q1,Q2⟩:=kh2 (Ze az q1) (Ze az q2);have G:Hid (decide ((0:Int)<((j+1:Nat):Int))=true):=(by show _=_;simp);have dh:(j:Int)<(n:Int):=(by omega);have dn:IntKind.i64.wrap (j:Int)=(j:Int):=(by rw[bH];omega);have dp:IntKind.i64.wrap ((j:Int)+1 - 1)=(j:Int):=(by rw[bH];omega);have bk:j<n:=(by omega);have dg:(0:Int)<=(j:Int):=(by omega);have dm:IntKind.i64.wrap (((j+1:Nat):Int) - 1)=(j:Int):=(by rw[bH];omega);clear A3 HL ag hq cg q1 q2;cases hl:lt (pt q) (pt x) with
     | false=>
      have R:Hid (Y7 none 0 L=6):=(by show _=_;rw[Za A5,if_pos hl]);obtain⟨y,hy⟩:=ZF (Hl (pt q) (pt x))
      have cz:0<=y:=by
       rw[<-hy];refine Int.not_lt.1 λh=>?_;rw[Fq,hl] at h;exact Bool.noConfusion h
      have CC:=Zd (λw=>T2 (pt q) (pt x) y w hy);unfold pt at CC;clear A5 hl hy;go_wp2_with fail;rw[<-Za HX];go_wp2_with fail;refine C1.mono ?_;rintro e w2 ⟨rfl,z⟩;have m0:=Ze z N0;have m1:=Ze z N1;have p0:=Ze z Q1;have p1:=Ze z Q2;have cj:wr.heap.size<w2.heap.size:=aE _ _ m0;have ab:=Zd (Zf (Zf HB au) z);clear z n0 n1 n2 g1 g2 g3 g4 g5 g6;have hG:=Za G;go_wp2_with fail
      go_region_held3 (λw'=>ZD w2 w'/\w'.cell? ⟨wr.heap.size,0,none⟩=some (E J x.1)/\w'.cell? ⟨wr.heap.size,1,none⟩=some (E J x.2.1)/\w'.cell? ⟨b,off+j*6,none⟩=some (E J q.1)/\w'.cell? ⟨b,off+j*6+1,none⟩=some (E J q.2.1))
       (first
       | exact⟨Zi _,m0,m1,p0,p1⟩
       | (go_split_ands;refine⟨Zf (by assumption) Q,Ze Q (by assumption),Ze Q (by assumption),Ze Q (by assumption),Ze Q (by assumption)⟩))
       (first|(go_at_call 201;refine (CC _).mono ?_;rintro e w' ⟨rfl,Q⟩))
      rename_i hH;have HH:=Zd (Zf ab hH.1);clear hH;go_wp2;go_ret;exact⟨by rw[Za R];rfl,Za HH⟩
     | true=>
      have A4:Hid (Y7 none 0 L=if 1000000000<S+v then 12 else Y7 (some (pt x)) (S+v) (L.drop (j+1+1))):=by
       have h:=Za A5;rw[if_neg (by rw[hl];decide)] at h;exact h
      obtain⟨y,hy⟩:=ZF (Hl (pt q) (pt x));have cz:y<0:=(by rw[<-hy,Fq];exact hl);have CC:=Zd (λw=>T2 (pt q) (pt x) y w hy);unfold pt at CC;clear A5 hl hy;go_wp2_with fail;rw[<-Za HX];go_wp2_with fail;refine C1.mono ?_;rintro e w2 ⟨rfl,z⟩;have m0:=Ze z N0;have m1:=Ze z N1;have M2:=Zd (Ze z N2);have p0:=Ze z Q1;have p1:=Ze z Q2;have cj:wr.heap.size<w2.heap.size:=aE _ _ m0;have ab:=Zd (Zf (Zf HB au) z);clear z n0 n1 n2 g1 g2 g3 g4 g5 g6;have hG:=Za G;go_wp2_with fail
      go_region_held3 (λw'=>ZD w2 w'/\w'.cell? ⟨wr.heap.size,0,none⟩=some (E J x.1)/\w'.cell? ⟨wr.heap.size,1,none⟩=some (E J x.2.1)/\w'.cell? ⟨b,off+j*6,none⟩=some (E J q.1)/\w'.cell? ⟨b,off+j*6+1,none⟩=some (E J q.2.1))
       (first
       | exact⟨Zi _,m0,m1,p0,p1⟩
       | (go_split_ands;refine⟨Zf (by assumption) Q,Ze Q (by assumption),Ze Q (by assumption),Ze Q (by assumption),Ze Q (by assumption)⟩))
       (first|(go_at_call 201;refine (CC _).mono ?_;rintro e w' ⟨rfl,Q⟩))
      rename_i hH;have HH:=Zd (Zf ab hH.1);have m2:=Ze hH.1 M2;have dk:=aE _ _ m2;clear hH;by_cases hf:1000000000<S+v
      ·have R:Hid (Y7 none 0 L=12):=(by show _=_;rw[Za A4,if_pos hf]);clear A4;go_wp2;go_ret;exact⟨by rw[Za R];rfl,Za HH⟩
      ·have R:Hid (Y7 none 0 L=Y7 (J5 L (j+1+1)) (S+v) (L.drop (j+1+1))):=(by show _=_;rw[Za A4,if_neg hf,Za PN]);clear A4;go_wp2;go_roundw
       case rel=>exact⟨j+1+1,S+v,by omega,by go_num,rfl,by omega,by omega,R,Za HH⟩
       case measure=>simp[intOf];omega
   ·have R:Hid (Y7 none 0 L=dq):=(by show _=_;rw[Za A2,if_pos be]);have gz:(dq != 0)=true:=(by simp[be]);unfold cnV at C1;clear A A2 ST HN HL PN hx bb hO hb hz n3 n4 n5 hX be;go_wp2_with fail;rw[<-Za HX];go_wp2_with fail;refine C1.mono ?_;rintro e w2 ⟨rfl,z⟩;have ab:=Zd (Zf (Zf HB au) z);clear z;go_wp2;go_ret;exact⟨by rw[Za R];rfl,Za ab⟩
  ·have R:Hid (Y7 none 0 L=0):=(by show _=_;rw[Za A,Zmb L k (by rw[Za HZ];omega)]);clear A hb;go_wp2;go_ret;exact⟨by rw[Za R];rfl,Za HB⟩
theorem Aj(a)(n c:Nat)(w)(h:720<n) :
  Calls aB 143 #[F a n c] w λe w'=>e = dA (E J 2)/\w=w':=by
 go_enter func143,ntmps143;go_wp2;go_ret;exact⟨rfl,rfl⟩
theorem Ai(a c w) :
  Calls aB 143 #[F a 0 c] w λe w'=>e = dA (E J 0)/\w=w':=by
 go_enter func143,ntmps143;go_wp2;refine wp_loop_rounds 1 ?_;rw[bD];go_wp2;go_ret;exact⟨rfl,rfl⟩
theorem Vi(a n c L)(ad:Int)(w:World)(h:CoinsAt w a n L)(hz:Z4 L=ad) :
  ZH 143 #[F a n c] w (E J ad):=by
 subst hz;obtain⟨z,hc⟩:=h;unfold Z4;rw[z];by_cases h1:720<n
 ·rw[if_pos h1];exact (Aj a n c w h1).mono λe w' ⟨x,y⟩=>⟨x,y ▸ Below.refl _ _⟩
 ·rw[if_neg h1];by_cases h2:n=0
  ·subst h2;have e:L=[]:=aP.1 z;subst e;exact (Ai a c w).mono λe w' ⟨x,y⟩=>⟨x,y ▸ Below.refl _ _⟩
  ·obtain⟨b,off,rfl,_,ab⟩:=hc (by omega);exact Ah b off n c L w (by omega) z ab
def laid(L:List Value)(off:Nat)(cs:List Value):List Value:=L.take off++cs++L.drop (off+cs.length)
theorem W8(L:List Value)(off:Nat)(cs:List Value)(h:off+cs.length<=L.length):(laid L off cs).length=L.length:=by simp[laid];omega
variable {P : Program}
theorem Vs(w:World)(dT sT ty elem:cR)(g o aa af:Nat)(a:Addr)(z ae k:Nat)(Q:Array Value)(t:cR)(cs:List Value)
  (hu:P.underlying dT=some (.slice elem)) (hs:(P.info? elem).map (·.size)=some k)
  (hg:w.heap[g]? = some (cZ Q t (0,0))) (hn:cs.length=Nat.min z aa*k)
  (al:∀ j v,cs[j]? = some v->w.cell? (a.add j)=some v) (ag:o+cs.length<=Q.size) (h1:∀ v∈cs,v.oneCell'=true) :
  (Builtin.copy_ #[dT,sT] ty #[F (some ⟨g,o,none⟩) aa af,F (some a) z ae]).run P w =
   .ok (goInt (Nat.min z aa)) (w.setRow g (laid Q.toList o cs).toArray):=by
 have ad:=run_storeCells_at P g o t cs 0 Q w hg (by simpa using ag) h1;cases hq:P.info? elem with
 | none=>simp[hq] at hs
 | some i=>
  have hi:i.size=k:=by simpa[hq] using hs
  have hl:=run_firstCells_some (P:=P) w k (Nat.min z aa) a z ae cs hn al;simp only[Nat.add_zero] at ad;simp[Builtin.copy_,run_underlying hu,Builtin.lenOf,sizeOf,typeInfo,hq,hi,hl,ad,laid]
theorem J0(w:World)(t e ty:cR)(ak:Value)(ht:P.underlying t=some (.slice e))(hv:∀ w,(zeroValue e).run P w = .ok ak w)(g o n c k:Nat)(z:Array Value)(te:cR)(cs:List Value)(hn:0<n)
  (ac:(Builtin.zeroCells ak.cells n).toList=cs) (hg:w.heap[g]? = some (cZ z te (0,0))) (hk:cs.length=n*k) (ad:o+n*k<=z.size) (h1:∀ v∈cs,v.oneCell'=true) :
  (Builtin.clear_ #[t] ty #[F (some ⟨g,o,none⟩) n c]).run P w = .ok (dB #[]) (w.setRow g (laid z.toList o cs).toArray):=by
 have Q:=run_storeCells_at P g o te cs 0 z w hg (by simpa[hk] using ad) h1;simp only[Nat.add_zero] at Q;obtain⟨m,rfl⟩:∃ m,n=m+1:=⟨n - 1,by omega⟩;simp[Builtin.clear_,run_underlying ht,hv,ac,Q,laid]
theorem Uu{ac}{o:Oper}{a:Act}{w:World}{K:Act->World->Prop}{aw:Exit->Act->World->Prop}{ae:Prop}
  (hg:o.guard=none) (s x:Operand) (t:cR) (an:o.op=Op.call { callee:=Callee.builtin Builtin.append,args:=#[s,x],argTypes:=#[t,t] })
  (e:cR) (i:TypeInfo) (size:Nat) (h1:P.underlying t=some (.slice e)) (h2:P.info? e=some i) (h4:i.size=size)
  (b n cap:Nat) (hs:a.eval s = F (some ⟨b,0,none⟩) n cap)
  (ad:Addr) (m c:Nat) (z:List Value) (hx:a.eval x = F (some ad) m c) (hn:z.length=m*size) (hc:∀ j u,z[j]? = some u->w.cell? (ad.add j)=some u) (ag:∀ u∈z,u.oneCell'=true)
  (ap:n+m<=cap) (Q:Array Value) (te:cR) (aq:w.heap[b]? = some (cZ Q te (0,0))) (ak:n*size+z.length<=Q.size)
  (hK:K (a.put o.dst (F (some ⟨b,0,none⟩) (n+m) cap)) (w.setRow b (laid Q.toList (n*size) z).toArray)) :
  if Region.wanted o (yielded ac a.tmps)=true then Oper.wp P o a w K aw else ae:=by
 have hw:Region.wanted o (yielded ac a.tmps)=true:=by simp[Region.wanted,hg]
 rw[if_pos hw];subst h4;have aj:=run_firstCells_some (P:=P) w i.size m ad m c z hn hc;have ab:=run_storeCells_at P b (n*i.size) te z 0 Q w aq (by simpa using ak) ag;simp only[Nat.add_zero] at ab
 have ar:(Builtin.append_ #[t,t] o.type #[F (some ⟨b,0,none⟩) n cap,F (some ad) m c]).run P w = .ok (F (some ⟨b,0,none⟩) (n+m) cap) (w.setRow b (laid Q.toList (n*i.size) z).toArray):=by
  simp[Builtin.append_,run_underlying h1,sizeOf,typeInfo,h2,Builtin.lenOf,ap,aj,cC,ab,laid]
 unfold Oper.wp;simp[execOp,an,resolve,invoke,builtin,hs,hx,ar,Result.andThen];exact hK
theorem Ud(w){Q rest}{o:Oper}{a:Act}{ag:Exit->Act->World->Prop}(ac:o.guard=none)(d s:Operand)(t t':cR)
  (ho:o.op = .call { callee:=.builtin .append,args:=#[d,s],argTypes:=#[t,t'] }) (v u) (hd:a.eval d=v) (hs:a.eval s=u) {v' w'}
  (hr:(Builtin.append_ #[t,t'] o.type #[v,u]).run P w = .ok v' w') (h:wpList P Q ag rest (a.put o.dst v') w'):wpList P Q ag (o :: rest) a w:=by
 refine wpList_plain ac λK hK=>?_;unfold Oper.wp;simp[execOp,ho,resolve,invoke,builtin,hd,hs,hr,Result.andThen];exact hK _ _ h
abbrev CV:=Zj×Option Addr×Nat×Nat
def Zm:List CV->List Value
 | []=>[]
 | x :: r=>E J x.1.1 :: E J x.1.2.1 :: E J (cv x.1) :: .slice x.2.1 x.2.2.1 x.2.2.2 :: E J (ch x.1) :: dD (cr x.1) :: Zm r
theorem Yd:∀ l:List CV,(Zm l).length=l.length*6
 | []=>rfl
 | _ :: r=>by simp only[Zm,List.length_cons,Yd r];omega
theorem Yp:∀ l m:List CV,Zm (l++m)=Zm l++Zm m
 | [],_=>rfl
 | _ :: r,m=>by simp only[List.cons_append,Zm,Yp r m]
theorem Sv:∀ (l:List CV) (i:Nat) (h:i<l.length),(Zm l)[i*6]? = some (E J (l[i]).1.1)/\(Zm l)[i*6+1]? = some (E J (l[i]).1.2.1)/\(Zm l)[i*6+2]? = some (E J (cv (l[i]).1))/\(Zm l)[i*6+3]? = some (.slice (l[i]).2.1 (l[i]).2.2.1 (l[i]).2.2.2)/\(Zm l)[i*6+4]? = some (E J (ch (l[i]).1))/\(Zm l)[i*6+5]? = some (dD (cr (l[i]).1))
 | [],_,h=>absurd h (by simp)
 | x :: r,0,_=>⟨rfl,rfl,rfl,rfl,rfl,rfl⟩
 | x :: r,i+1,h=>by
  have:=Sv r i (by simpa using h);have e:(i+1)*6=i*6+6:=by omega
  rw[e];exact this
theorem Wj:∀ (l:List CV) (u:Value),u∈Zm l->u.oneCell'=true
 | [],u,h=>by cases h
 | x :: r,u,h=>by
  simp only[Zm,aU] at h
  rcases h with rfl|rfl|rfl|rfl|rfl|rfl|h
  ·rfl
  ·rfl
  ·rfl
  ·rfl
  ·rfl
  ·rfl
  ·exact Wj r u h
theorem U4:∀ (l:List CV) (i:Nat),(Zm l).take (i*6)=Zm (l.take i)
 | [],i=>by simp[Zm]
 | x :: r,0=>by simp[Zm]
 | x :: r,i+1=>by
  rw[show (i+1)*6=i*6+6 by omega,List.take_succ_cons];simp only[Zm,List.take_succ_cons,U4 r i]
theorem U5:∀ (l:List CV) (i:Nat),(Zm l).drop (i*6)=Zm (l.drop i)
 | [],i=>by simp[Zm]
 | x :: r,0=>by simp[Zm]
 | x :: r,i+1=>by
  rw[show (i+1)*6=i*6+6 by omega,List.drop_succ_cons];simp only[Zm,List.drop_succ_cons,U5 r i]
def LkAt(w:World)(x:CV):Prop:=OpsAt w x.2.1 x.2.2.1 (ck x.1)/\SlOk x.2.1 x.2.2.1 x.2.2.2
theorem LkAt.later{w w':World}{x:CV}(h:LkAt w x)(z:ZD w w'):LkAt w' x:=⟨h.1.later z,h.2⟩
theorem Va{w:World}{base:Nat}{v}{K:List CV}(h:w.ownsRow base 124 6 v K.length (Zm K))(z:∀ x∈K,LkAt w x):∃ a c,v = F a K.length c/\CoinsAt w a K.length (K.map (·.1))/\SlOk a K.length c:=by
 rcases h.2 with ⟨rfl,Q⟩|⟨g,cap,ah,rfl,hg,hh,h1,h2,h3,h4⟩
 ·rw[Q];have e:K=[]:=aP.1 Q;subst e;exact⟨none,0,rfl,RowsAt.nil _ _,aF _,aL _,λ_=>⟨rfl,rfl⟩⟩
 ·refine⟨_,cap,rfl,⟨by simp,λ_=>⟨g,0,rfl,lt_of_block hh,λi hi=>?_⟩⟩,h1,h2,λe=>by cases e⟩;rw[List.length_map] at hi;obtain⟨f0,f1,f2,f3,f4,f5⟩:=Sv K i hi;rw[List.getElem_map];refine⟨?_,?_,?_,⟨_,_,_,?_,(z _ (aQ hi)).1,(z _ (aQ hi)).2⟩,?_,?_⟩
  all_goals rw[Nat.zero_add,World.ownsRow.cellAt h _ (by omega)]
  ·exact f0
  ·exact f1
  ·exact f2
  ·exact f3
  ·exact f4
  ·exact f5
theorem V6{w:World}{b off:Nat}:∀ {L:List Zj},(∀ i (h:i<L.length),CoinAt w b (off+i*6) L[i])->∃ K:List CV,K.map (·.1)=L/\(∀ x∈K,LkAt w x)/\∀ j u,(Zm K)[j]? = some u->w.cell? ⟨b,off+j,none⟩=some u:=by
 intro L h
 have h2:∀ k,k<=L.length->∃ K:List CV,K.map (·.1)=L.take k/\(∀ x∈K,LkAt w x)/\∀ j u,(Zm K)[j]? = some u->w.cell? ⟨b,off+j,none⟩=some u:=by
  intro k
  induction k with
  | zero=>intro _;exact⟨[],by simp,λx hx=>(by cases hx),λj u z=>by simp[Zm] at z⟩
  | succ k ih=>
   intro hk;obtain⟨K,h1,h2,h3⟩:=ih (by omega);obtain⟨a,n,c,g1,g2,g3,g4,g5,g6,h5,h6⟩:=(h k (by omega)).val;have Q:K.length=k:=(by have:=congrArg List.length h1;simpa[Nat.min_eq_left (show k<=L.length by omega)] using this);refine⟨K++[(L[k],a,n,c)],by rw[List.map_append,h1,aS (by omega)];rfl,λx hx=>?_,λj u z=>?_⟩
   ·rcases bA.1 hx with hx|hx
    ·exact h2 x hx
    ·rw[List.mem_singleton.1 hx];exact⟨h5,h6⟩
   ·rw[Yp] at z
    rcases Nat.lt_or_ge j (k*6) with q|q
    ·rw[List.getElem?_append_left (by rw[Yd,Q];exact q)] at z;exact h3 j u z
    ·rw[List.getElem?_append_right (by rw[Yd,Q];exact q),Yd,Q] at z;obtain⟨r,rfl⟩:∃ r,j=k*6+r:=⟨j - k*6,by omega⟩;rw[Nat.add_sub_cancel_left] at z;rw[show off+(k*6+r)=off+k*6+r by omega]
     match r,z with
     | 0,z=>simp only[Zm,List.getElem?_cons_zero,bG] at z;subst z;exact g1
     | 1,z=>simp only[Zm,List.getElem?_cons_zero,List.getElem?_cons_succ,bG] at z;subst z;exact g2
     | 2,z=>simp only[Zm,List.getElem?_cons_zero,List.getElem?_cons_succ,bG] at z;subst z;exact g3
     | 3,z=>simp only[Zm,List.getElem?_cons_zero,List.getElem?_cons_succ,bG] at z;subst z;exact g4
     | 4,z=>simp only[Zm,List.getElem?_cons_zero,List.getElem?_cons_succ,bG] at z;subst z;exact g5
     | 5,z=>simp only[Zm,List.getElem?_cons_zero,List.getElem?_cons_succ,bG] at z;subst z;exact g6
     | r+6,z=>simp[Zm] at z
 obtain⟨K,h1,h3⟩:=h2 L.length (aF _);exact⟨K,by rw[h1,List.take_length],h3⟩
def zeroC:Value:=.agg #[E J 0,E J 0,E J 0,F none 0 0,E J 0,dD false]
theorem Tryz.infoCoin:(Tryz.prog.info? 124).map (λi=>(i.zero,i.size,i.bytes))=some (some zeroC,6,64):=by kernel_rfl
theorem Wb{w:World}{base:Nat}{e:cR}{size:Nat}{v:Value}{n:Nat}{xs}(h:w.ownsRow base e size v n xs)(k:Nat)(z:v.ownBlock=some k):base<=k:=by
 rcases h.2 with ⟨rfl,_⟩|⟨g,cap,aa,rfl,Q,_⟩
 ·cases z
 ·cases z;exact Q
theorem Wn(w:World)(e:cR)(size:Nat):(w.alloc (cZ #[] e)).ownsRow w.heap.size e size (F (some ⟨w.heap.size,0,none⟩) 0 0) 0 []:=
 ⟨by simp,.inr ⟨w.heap.size,0,#[],rfl,aF _,heap_alloc_new w _,aF _,aL _,by simp,by simp⟩⟩
theorem M6(w):Calls aB 138 #[F none 0 0] w λe w'=>e = dA (F none 0 0)/\w=w':=by
 have z:=λw=>Lib.run_eql_slice_nil (P:=aB) w 29 124 none 0 0 0 0 cE;go_enter func138,ntmps138;go_wp2;go_ret;exact⟨rfl,rfl⟩
theorem Rf(z:Addr)(n c:Nat)(K:List CV)(w:World)(hn:n<=4096)(hz:K.length=n)(hc:∀ j u,(Zm K)[j]? = some u->w.cell? (z.add j)=some u) :
  Calls aB 138 #[F (some z) n c] w λe w'=>∃ v,e = dA v/\w'.ownsRow w.heap.size 124 6 v n (Zm K)/\ZD w w':=by
 obtain⟨i0,hi,am,an,ap⟩:=info_parts Tryz.infoCoin;have hb:=Zh w (cZ #[] 124);have HC:Hid (∀ j u,(Zm K)[j]? = some u->(w.alloc (cZ #[] 124)).cell? (z.add j)=some u):=λj u hj=>Ze hb (hc j u hj);obtain⟨Q,HZ,HO⟩:=kh3 hb hz (Wn w 124 6);have he:=λw=>Lib.run_eql_slice_nil (P:=aB) w 29 124 (some z) n c 0 0 cE;clear hc hb hz;go_enter func138,ntmps138
 go_wp2_with (at_builtin;refine wpList_append_own _ rfl _ _ 29 rfl w.heap.size 124 i0 zeroC 6 64 cE hi am an ap rfl (by decide) _ _ _ rfl HO z n c (Zm K) rfl (by rw[Yd,Za HZ]) HC (Wj K) (by unfold cW;omega) (by omega) Q.size ?_;intro v2 w3 ae ad _)
 have HW:Hid (w3.ownsRow w.heap.size 124 6 v2 n (Zm K)):=by show World.ownsRow _ _ _ _ _ _ _;simpa using ae
 have ag:=Zd (Q.grown ad Q.size (Wb HO));clear ae ad;go_wp2;go_ret;exact⟨v2,rfl,Za HW,Za ag⟩
theorem Th(a)(n c:Nat)(L)(w:World)(hn:n<=4096)(h:CoinsAt w a n L)(hs:SlOk a n c) :
  Calls aB 138 #[F a n c] w λe w'=>∃ v,∃ K:List CV,e = dA v/\K.map (·.1)=L/\(∀ x∈K,LkAt w x)/\w'.ownsRow w.heap.size 124 6 v K.length (Zm K)/\ZD w w':=by
 obtain⟨Q,hc⟩:=h;cases a with
 | none=>
  obtain⟨rfl,rfl⟩:=hs.2.2 rfl;have e:L=[]:=aP.1 Q;subst e;exact (M6 w).mono λe w' ⟨x,y⟩=>⟨_,[],x,rfl,λ_ hx=>(by cases hx),y ▸ ⟨rfl,.inl ⟨rfl,rfl⟩⟩,y ▸ Below.refl _ _⟩
 | some ad=>
  by_cases h0:n=0
  ·subst h0;have e:L=[]:=aP.1 Q;subst e;exact (Rf ad 0 c [] w hn rfl (λj u z=>by simp[Zm] at z)).mono λe w' ⟨v,x,y,ah⟩=>⟨v,[],x,rfl,λ_ hx=>(by cases hx),y,ah⟩
  ·obtain⟨b,off,e,_,af⟩:=hc (by omega);obtain⟨rfl⟩:=e;obtain⟨K,h1,h2,h3⟩:=V6 af;have hk:K.length=n:=(by rw[<-Q,<-h1,List.length_map]);exact (Rf ⟨b,off,none⟩ n c K w hn hk (λj u z=>by rw[cC];exact h3 j u z)).mono λe w' ⟨v,x,y,ah⟩=>⟨v,K,x,h1,h2,by rw[hk];exact y,ah⟩
theorem Tryz.zeroCoin(w):(zeroValue 124).run aB w = .ok zeroC w:=by
 obtain⟨Q,hi,z,_,_⟩:=info_parts Tryz.infoCoin;simp[zeroValue,typeInfo,hi,z]
def zeroCs:List Value:=[E J 0,E J 0,E J 0,F none 0 0,E J 0,dD false]
theorem Zin:(Builtin.zeroCells zeroC.cells 1).toList=zeroCs:=by kernel_rfl
theorem E7:∀ v∈zeroCs,v.oneCell'=true:=by
 intro v z;simp only[zeroCs,aU,List.not_mem_nil,or_false] at z
 rcases z with rfl|rfl|rfl|rfl|rfl|rfl <;> rfl
theorem Zlv(X Z:List Value)(i n:Nat)(hi:i<n)(Q:n*6<=X.length) :
  (laid (laid X (i*6) ((X.take (n*6)).drop ((i+1)*6))) ((n - 1)*6) Z).take ((n - 1)*6)=(X.take (n*6)).take (i*6)++(X.take (n*6)).drop ((i+1)*6):=by
 have z:((X.take (n*6)).drop ((i+1)*6)).length=(n - 1)*6 - i*6:=by simp;omega
 unfold laid;rw[List.append_assoc,cJ (by simp;omega),aV (by simp;omega)];rw[z,show i*6+((n - 1)*6 - i*6)=(n - 1)*6 by omega,cJ (by rw[bW,z];simp;omega),aV (by rw[bW,z];simp;omega),List.take_take,Nat.min_eq_left (by omega)]
theorem Mv(base g n c i j:Nat)(K:List CV)(w:World)(hi:i<n)(hj:j=i+1)(hz:K.length=n)(h:w.ownsRow base 124 6 (F (some ⟨g,0,none⟩) n c) n (Zm K)) :
  Calls aB 251 #[F (some ⟨g,0,none⟩) n c,E J i,E J j] w λe w'=>e = dA (F (some ⟨g,0,none⟩) (n - 1) c)/\w'.ownsRow base 124 6 (F (some ⟨g,0,none⟩) (n - 1) c) (n - 1) (Zm (K.take i++K.drop (i+1)))/\w.grownBy w' (some g):=by
 obtain⟨i0,bb,cc,bg,cd⟩:=info_parts Tryz.infoCoin;obtain⟨bd,h|⟨g',c',z,hv,az,hh,h1,h2,h3,h4⟩⟩:=h
 ·cases h.1
 simp only[Value.slice.injEq,bG,Addr.mk.injEq,and_true,true_and] at hv;obtain⟨rfl,rfl⟩:=hv;unfold cW at h2;have ah:z.toList.length=c*6:=by simpa using h3
 obtain⟨Q,ac⟩:=ZG ((z.toList.take (n*6)).drop ((i+1)*6));have ad:Q.length=(n - j)*6:=by rw[ac];simp;omega
 have ap:∀ u∈Q,u.oneCell'=true:=λu hu=>by
  rw[ac,h4] at hu;exact Wj K u (List.mem_of_mem_drop hu)
 obtain⟨A,hA,be⟩:∃ A:Addr,(if c=j then some (⟨g,0,none⟩:Addr) else some ⟨g,j*6,none⟩)=some A/\Hid (∀ t u,Q[t]? = some u->w.drew.cell? (A.add t)=some u):=by
  by_cases hc:c=j
  ·refine⟨⟨g,0,none⟩,by simp[hc],λt u hu=>?_⟩;have h0:Q.length=0:=(by rw[ad];omega);rw[aP.1 h0] at hu;simp at hu
  ·refine⟨⟨g,j*6,none⟩,by simp[hc],λt u hu=>?_⟩;have ht:t<(n - j)*6:=(by rw[<-ad];exact (List.getElem?_eq_some_iff.1 hu).1);rw[ac,List.getElem?_drop,List.getElem?_take_of_lt (by omega)] at hu;rw[cC];show w.cell? _=_;simp only[bF,hh];rw[<-hu,<-hj];simp
 have h5:i*6+Q.length<=z.size:=by rw[ad,h3];omega
 obtain⟨W1,ae⟩:=ZG (w.drew.setRow g (laid z.toList (i*6) Q).toArray);have aj:W1.heap[g]? = some (cZ (laid z.toList (i*6) Q).toArray 124 (0,0)):=by rw[ae];exact setRow_heap w.drew g z _ 124 (0,0) hh
 have ag:(laid z.toList (i*6) Q).length=c*6:=by rw[W8 _ _ _ (by simpa using h5),ah]
 have al:∀ ty d,(Builtin.clear_ #[29] ty #[F (some ⟨g,(n - 1)*6,none⟩) 1 d]).run aB W1 = .ok (dB #[]) (W1.setRow g (laid (laid z.toList (i*6) Q) ((n - 1)*6) zeroCs).toArray):=λty d=>by
  have:=J0 (P:=aB) W1 29 124 ty zeroC cE Tryz.zeroCoin g ((n - 1)*6) 1 d 6 (laid z.toList (i*6) Q).toArray 124 zeroCs (by decide) Zin aj rfl (by simp[ag];omega) E7;simpa using this
 have ca:i+(n - j)=n - 1:=by omega
 have R:Hid (W1.setRow g (laid (laid z.toList (i*6) Q) ((n - 1)*6) zeroCs).toArray |>.ownsRow base 124 6 (F (some ⟨g,0,none⟩) (n - 1) c) (n - 1) (Zm (K.take i++K.drop (i+1)))):=by
  refine⟨by rw[Yd];simp;omega,.inr ⟨g,c,(laid (laid z.toList (i*6) Q) ((n - 1)*6) zeroCs).toArray,rfl,az,setRow_heap _ g _ _ 124 (0,0) aj,by omega,by unfold cW;omega,?_,?_⟩⟩
  ·rw[List.size_toArray,W8 _ _ _ (by rw[ag];simp[zeroCs];omega),ag]
  ·rw[ac];show List.take _ (laid _ _ _)=_;rw[Zlv z.toList zeroCs i n hi (by rw[ah];omega),h4,Yp,U4,U5]
 have G:Hid (w.grownBy (W1.setRow g (laid (laid z.toList (i*6) Q) ((n - 1)*6) zeroCs).toArray) (some g)):=by
  have e:W1.setRow g (laid (laid z.toList (i*6) Q) ((n - 1)*6) zeroCs).toArray=w.drew.setRow g (laid (laid z.toList (i*6) Q) ((n - 1)*6) zeroCs).toArray:=by rw[ae,setRow_setRow]
  rw[e];refine⟨rfl,rfl,rfl,by simp[World.setRow],λk hk an=>?_⟩;exact setRow_other w.drew g k _ (λe=>an (by rw[e]))
 obtain⟨ar,HW,av,aw,ax,ay⟩:=kh6 al ae ap ad hh h5;have bq:i<=c:=by omega
 have bt:j<=c:=by omega
 have bu:j<=n:=by omega
 have br:¬(i=j):=by omega
 have an:¬(c=i+(n - j)):=by omega
 have bx:i+(n - j)<=n:=by omega
 have bz:(i:Int)+((n - j:Nat):Int)<=(n:Int):=by omega
 have bs:((i:Int) == (j:Int))=false:=by simp;omega
 clear al ae ap ad hh h5 aj ag ac h3 h4 bd ah hj hz;go_enter func251,ntmps251;go_wp2_with fail
 go_region_law (refine Uu rfl (.tmp 22) (.tmp 25) 29 rfl 124 i0 6 cE bb bg g i c (by simp[Act.eval,Act.put]) A (n - j) (c - j) Q (by simp[Act.eval,Act.put]) aw be av (by omega) z 124 ax ay ?_;rw[<-Za HW])
 have bo:∀ ty d,(Builtin.clear_ #[29] ty #[F (some ⟨g,(n - 1)*6,none⟩) (n - (n - 1)) d]).run aB W1 = .ok (dB #[]) (W1.setRow g (laid (laid z.toList (i*6) Q) ((n - 1)*6) zeroCs).toArray):=λty d=>by
  rw[show n - (n - 1)=1 by omega];exact ar ty d
 go_wp2;go_ret;exact⟨rfl,Za R,Za G⟩
theorem Z9(y:CV):(Zm [y]).length=6:=Yd [y]
theorem V5{w:World}{b:Nat}{X:List Value}{t:cR}(h:w.heap[b]? = some (cZ X.toArray t (0,0)))(j:Nat)(u)(z:X[j]? = some u):w.cell? ⟨b,j,none⟩=some u:=by
 simp only[bF,h];simpa using z
theorem Uz(ao)(n c z:Nat)(K:List CV)(y:CV)(w:World)(hn:n<=4096)(ay:n<=c)(aq:c<n+1)(hz:K.length=n)(ab:ao=none->n=0/\c=0)
  (Q:∀ b,ao=some b->∀ j u,(Zm K)[j]? = some u->w.cell? (b.add j)=some u) (hv:w.heap[z]? = some (cZ (Zm [y]).toArray 124 (0,0))) :
  Calls aB 254 #[F ao n c,E J n,F (some ⟨z,0,none⟩) 1 1] w λe w'=>∃ v',e = dA v'/\w'.ownsRow w.heap.size 124 6 v' (n+1) (Zm (K++[y]))/\w.grownBy w' none:=by
 obtain⟨i0,an,ar,au,av⟩:=info_parts Tryz.infoCoin;have HC:=Zd Q;have HZ:Hid ((Zm K).length=n*6):=by show _=_;rw[Yd,hz]
 have HN:=Zd ab
 have HV:Hid (∀ j u,(Zm [y])[j]? = some u->w.cell? ((⟨z,0,none⟩:Addr).add j)=some u):=λj u hj=>by
  rw[cC,Nat.zero_add];exact V5 hv j u hj
 have H1:Hid ((Zm [y]).length=1*6):=Z9 y;clear Q hz ab hv;go_enter func254,ntmps254
 go_wp2_with (at_builtin;refine wpList_append_grows _ rfl _ _ 29 rfl 124 i0 zeroC 6 64 cE an ar au av rfl (by decide) ao n c (Zm K) rfl HN HZ HC ⟨z,0,none⟩ 1 1 (Zm [y]) rfl H1 HV (Wj [y]) aq (by unfold cW;omega) (by omega) ?_;intro v2 w3 ac aa)
 have HW:Hid (w3.ownsRow w.heap.size 124 6 v2 (n+1) (Zm (K++[y]))):=by rw[Yp];exact ac
 have HG:=Zd aa;clear ac aa;go_wp2;go_ret;exact⟨v2,rfl,Za HW,Za HG⟩
theorem Se{P:Program}(w:World)(t ty e:cR)(i:TypeInfo)(size:Nat)(h1:P.underlying t=some (.slice e))(h2:P.info? e=some i)(h4:i.size=size)
  (b n cap:Nat) (al:Addr) (m c:Nat) (z:List Value) (hn:z.length=m*size) (hc:∀ j u,z[j]? = some u->w.cell? (al.add j)=some u) (ad:∀ u∈z,u.oneCell'=true)
  (aj:n+m<=cap) (Q:Array Value) (te:cR) (ak:w.heap[b]? = some (cZ Q te (0,0))) (ag:n*size+z.length<=Q.size) :
  (Builtin.append_ #[t,t] ty #[F (some ⟨b,0,none⟩) n cap,F (some al) m c]).run P w = .ok (F (some ⟨b,0,none⟩) (n+m) cap) (w.setRow b (laid Q.toList (n*size) z).toArray):=by
 subst h4;have af:=run_firstCells_some (P:=P) w i.size m al m c z hn hc;have ab:=run_storeCells_at P b (n*i.size) te z 0 Q w ak (by simpa using ag) ad;simp only[Nat.add_zero] at ab;simp[Builtin.append_,run_underlying h1,sizeOf,typeInfo,h2,Builtin.lenOf,aj,af,cC,ab,laid]
theorem Zos(X Y:List Value)(n c:Nat)(h:n+1<=c)(z:X.length=c*6)(Q:Y.length=6):(laid X (n*6) Y).take ((n+1)*6)=X.take (n*6)++Y:=by
 unfold laid;rw[cJ (by simp;omega),aV (by simp;omega)]
theorem Lp(base g n c vb:Nat)(K:List CV)(y:CV)(w:World)(ac:n+1<=c)(hz:K.length=n)(h:w.ownsRow base 124 6 (F (some ⟨g,0,none⟩) n c) n (Zm K))(hv:w.heap[vb]? = some (cZ (Zm [y]).toArray 124 (0,0))) :
  Calls aB 254 #[F (some ⟨g,0,none⟩) n c,E J n,F (some ⟨vb,0,none⟩) 1 1] w λe w'=>e = dA (F (some ⟨g,0,none⟩) (n+1) c)/\w'.ownsRow base 124 6 (F (some ⟨g,0,none⟩) (n+1) c) (n+1) (Zm (K++[y]))/\w.grownBy w' (some g):=by
 obtain⟨i0,ah,av,an,aw⟩:=info_parts Tryz.infoCoin;obtain⟨ak,h|⟨g',c',z,ae,ag,hh,h1,h2,h3,h4⟩⟩:=h
 ·cases h.1
 simp only[Value.slice.injEq,bG,Addr.mk.injEq,and_true,true_and] at ae;obtain⟨rfl,rfl⟩:=ae;unfold cW at h2;have Q:z.toList.length=c*6:=by simpa using h3
 have HR:Hid (∀ ty,(Builtin.append_ #[29,29] ty #[F (some ⟨g,0,none⟩) n c,F (some ⟨vb,0,none⟩) 1 1]).run aB w = .ok (F (some ⟨g,0,none⟩) (n+1) c) (w.setRow g (laid z.toList (n*6) (Zm [y])).toArray)):=λty=>
  Se w 29 ty 124 i0 6 cE ah an g n c ⟨vb,0,none⟩ 1 1 (Zm [y]) (Z9 y) (λj u hj=>by rw[cC,Nat.zero_add];exact V5 hv j u hj) (Wj [y]) ac z 124 hh (by rw[Z9,h3];omega)
 have R:Hid ((w.setRow g (laid z.toList (n*6) (Zm [y])).toArray).ownsRow base 124 6 (F (some ⟨g,0,none⟩) (n+1) c) (n+1) (Zm (K++[y]))):=by
  refine⟨by rw[Yd];simp;omega,.inr ⟨g,c,(laid z.toList (n*6) (Zm [y])).toArray,rfl,ag,setRow_heap _ g _ _ 124 (0,0) hh,ac,by unfold cW;omega,?_,?_⟩⟩
  ·rw[List.size_toArray,W8 _ _ _ (by rw[Q,Z9];omega),Q]
  ·show List.take _ (laid _ _ _)=_;rw[Zos _ _ n c ac Q (Z9 y),h4,Yp]
 have G:Hid (w.grownBy (w.setRow g (laid z.toList (n*6) (Zm [y])).toArray) (some g)):=
  ⟨rfl,rfl,rfl,by simp[World.setRow],λk hk al=>setRow_other w g k _ (λe=>al (by rw[e]))⟩
 clear hh h3 h4 ak Q hz hv;go_enter func254,ntmps254
 go_wp2_with (at_builtin;refine Ud _ rfl _ _ 29 29 rfl _ _ rfl rfl (HR _) ?_)
 go_wp2;go_ret;exact⟨rfl,Za R,Za G⟩
