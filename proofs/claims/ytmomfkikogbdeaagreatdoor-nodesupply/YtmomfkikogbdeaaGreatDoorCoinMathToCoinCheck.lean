/- Coins as plain data: their order, what is wrong with some, one taken, one put. Nothing of the program. -/
import Derived.Test.YtmomfkikogbdeaaGreatDoorLockMathToTxSum
import Derived.Deep.RegionHeld3
import Derived.Test.YtmomfkikogbdeaaGreatDoorTxCheckToTxCheckD
set_option maxHeartbeats 1600000
set_option maxRecDepth 10000
namespace Go.Proofs.YtmomfkikogbdeaaGreatDoor
abbrev Zd:=Int×Int×Int×List (Int×Int)×Int×Bool
abbrev PtD:=Int×Int
def pt(c:Zd):PtD:=(c.1,c.2.1)
def cv(c:Zd):Int:=c.2.2.1
def ck(c:Zd):List (Int×Int):=c.2.2.2.1
def ch(c:Zd):Int:=c.2.2.2.2.1
def cr(c:Zd):Bool:=c.2.2.2.2.2
def lt(p q:PtD):Bool:=decide (p.1<q.1) || (decide (p.1=q.1) && decide (p.2<q.2))
theorem Jr(p q:PtD):lt p q=true↔p.1<q.1∨p.1=q.1∧p.2<q.2:=by simp[lt]
theorem Jq(p:PtD):lt p p=false:=by
 rw[←Bool.not_eq_true,Jr];omega
theorem lt_trans{p q r:PtD}(h1:lt p q=true)(h2:lt q r=true):lt p r=true:=by
 rw[Jr] at *;omega
theorem Tp{p q:PtD}(h1:lt p q=true):lt q p=false:=by
 rw[←Bool.not_eq_true,Jr];rw[Jr] at h1;omega
theorem Bi(p q:PtD):lt p q=true∨p=q∨lt q p=true:=by
 rw[Jr,Jr,Prod.ext_iff];omega
theorem Qy{p q:PtD}(h:lt p q=true):p≠q:=fun e=>by
 subst e;rw[Jq] at h;exact Bool.noConfusion h
def Rk(p q:PtD):Int:=if lt p q then -1 else if p=q then 0 else 1
theorem Gu{p q:PtD}:Rk p q<0↔lt p q=true:=by
 unfold Rk;split
 ·simp[*]
 ·split
  ·rename_i h e;subst e;simp[Jq]
  ·simp[*]
theorem Zal{p q:PtD}:Rk p q=0↔p=q:=by
 unfold Rk;split
 ·rename_i h;simp[Qy h]
 ·split <;> simp[*]
def Srt(L:List Zd):Prop:=L.Pairwise fun a b=>lt (pt a) (pt b)=true
theorem Srt.tail{c:Zd}{L:List Zd}(h:Srt (c :: L)):Srt L:=(List.pairwise_cons.1 h).2
theorem Srt.head{c:Zd}{L:List Zd}(h:Srt (c :: L)):∀ x∈L,lt (pt c) (pt x)=true:=(List.pairwise_cons.1 h).1
theorem Srt.inj{L:List Zd}(h:Srt L):∀ {x y:Zd},x∈L→y∈L→pt x=pt y→x=y:=by
 induction L with
 | nil=>intro x y hx;cases hx
 | cons c L ih=>
  intro x y hx hy e
  rcases List.mem_cons.1 hx with rfl|hx <;> rcases List.mem_cons.1 hy with rfl|hy
  ·rfl
  ·exact absurd e (Qy (h.head y ‹y∈L›))
  ·exact absurd e.symm (Qy (h.head x ‹x∈L›))
  ·exact ih h.tail hx hy e
theorem Srt.ext:∀ {L M:List Zd},Srt L→Srt M→(∀ x,x∈L↔x∈M)→L=M
 | [],[],_,_,_=>rfl
 | [],c :: M,_,_,h=>absurd ((h c).2 (List.mem_cons_self ..)) (by simp)
 | c :: L,[],_,_,h=>absurd ((h c).1 (List.mem_cons_self ..)) (by simp)
 | c :: L,d :: M,h1,h2,h=>by
  have e:c=d:=by
   rcases List.mem_cons.1 ((h c).1 (List.mem_cons_self ..)) with e|e
   ·exact e
   rcases List.mem_cons.1 ((h d).2 (List.mem_cons_self ..)) with f|f
   ·exact f.symm
   ·have g:=Tp (h2.head _ e)
    rw[h1.head _ f] at g
    exact Bool.noConfusion g
  subst e
  rw[Srt.ext h1.tail h2.tail fun x=>⟨fun hx=>?_,fun hx=>?_⟩]
  ·rcases List.mem_cons.1 ((h x).1 (List.mem_cons_of_mem _ hx)) with rfl|q
   ·exact absurd rfl (Qy (h1.head _ hx))
   ·exact q
  ·rcases List.mem_cons.1 ((h x).2 (List.mem_cons_of_mem _ hx)) with rfl|q
   ·exact absurd rfl (Qy (h2.head _ hx))
   ·exact q
def Zbw(p:PtD):Bool:=(decide (1≤p.1) && decide (p.1≤120)) && (decide (0≤p.2) && decide (p.2≤5))
def okV(n:Int):Bool:=decide (1≤n) && decide (n≤1000000000)
def okH(n:Int):Bool:=decide (1≤n) && decide (n≤1000)
def okC(c:Zd):Bool:=Zbw (pt c) && (okV (cv c) && okH (ch c))
def ck1(c:Zd):Int:=if okC c=false then 3 else chk (ck c)
theorem Z9{c:Zd}(h:ck1 c=0):1≤c.1∧c.1≤120∧0≤c.2.1∧c.2.1≤5∧1≤cv c∧cv c≤1000000000∧1≤ch c∧ch c≤1000∧chk (ck c)=0:=by
 unfold ck1 at h
 split at h
 ·cases h
 ·rename_i q
  simp only[Bool.not_eq_false,okC,Zbw,okV,okH,pt,Bool.and_eq_true,decide_eq_true_eq] at q
  exact⟨of_decide_eq_true q.1.1.1,of_decide_eq_true q.1.1.2,of_decide_eq_true q.1.2.1,of_decide_eq_true q.1.2.2,q.2.1.1,q.2.1.2,q.2.2.1,q.2.2.2,h⟩
def Jd(p:Option PtD)(c:Zd):Bool:=match p with|none=>true|some p=>lt p (pt c)
def Ym:Option PtD→Int→List Zd→Int
 | _,_,[]=>0
 | p,s,c :: r=>if ck1 c≠0 then ck1 c else if Jd p c=false then 6 else if 1000000000<s+cv c then 12 else Ym (some (pt c)) (s+cv c) r
def Zn(L:List Zd):Int:=if 720<L.length then 2 else Ym none 0 L
def Ua(L:List Zd)(k:Nat):Option PtD:=if k=0 then none else (L[k - 1]?).map pt
def Zi(L:List Zd):Int:=(L.map cv).sum
def Yf(L:List Zw):Int:=(L.map (·.1)).sum
theorem Ry:Zi []=0:=rfl
theorem Yi(c:Zd)(L:List Zd):Zi (c :: L)=cv c+Zi L:=by simp[Zi]
theorem Yx(L M:List Zd):Zi (L++M)=Zi L+Zi M:=by simp[Zi]
theorem Jf(L:List Zd)(k:Nat)(h:k<L.length):Zi (L.take (k+1))=Zi (L.take k)+cv L[k]:=by
 rw[List.take_succ_eq_append_getElem h,Yx,Yi,Ry];omega
theorem Pi(L:List Zw)(k:Nat)(h:k<L.length):Yf (L.take (k+1))=Yf (L.take k)+L[k].1:=by
 rw[List.take_succ_eq_append_getElem h];unfold Yf;rw[List.map_append,List.sum_append];simp
theorem Ta(L:List Zd)(k:Nat)(h:k<L.length):Ua L (k+1)=some (pt L[k]):=by
 unfold Ua;rw[if_neg (by omega)];simp[h]
theorem Zao(L:List Zd)(k:Nat)(h:k<L.length)(p:Option PtD)(s:Int):Ym p s (L.drop k)=if ck1 L[k]≠0 then ck1 L[k] else if Jd p L[k]=false then 6 else if 1000000000<s+cv L[k] then 12 else Ym (some (pt L[k])) (s+cv L[k]) (L.drop (k+1)):=by
 rw[List.drop_eq_getElem_cons h,Ym]
theorem Ce(L:List Zd)(k:Nat)(h:L.length≤k)(p:Option PtD)(s:Int):Ym p s (L.drop k)=0:=by
 rw[List.drop_of_length_le h,Ym]
theorem Cf{c:Zd}{r:List Zd}{p:Option PtD}{s:Int}(h:ck1 c≠0):Ym p s (c :: r)=ck1 c:=by rw[Ym,if_pos h]
theorem M7{c:Zd}{r:List Zd}{p:Option PtD}{s:Int}(h:ck1 c=0)(h2:Jd p c=false):Ym p s (c :: r)=6:=by
 rw[Ym,if_neg (by rw[h];decide),if_pos h2]
theorem Fs{c:Zd}{r:List Zd}{p:Option PtD}{s:Int}(h:ck1 c=0)(h2:Jd p c=true)(h3:1000000000<s+cv c):Ym p s (c :: r)=12:=by
 rw[Ym,if_neg (by rw[h];decide),if_neg (by rw[h2];decide),if_pos h3]
theorem Zan{c:Zd}{r:List Zd}{p:Option PtD}{s:Int}(h:ck1 c=0)(h2:Jd p c=true)(h3:¬1000000000<s+cv c):Ym p s (c :: r)=Ym (some (pt c)) (s+cv c) r:=by
 rw[Ym,if_neg (by rw[h];decide),if_neg (by rw[h2];decide),if_neg h3]
theorem Xg:∀ (L:List Zd),(∀ c∈L,0≤cv c)→0≤Zi L
 | [],_=>Int.le_refl _
 | c :: r,h=>by
  rw[Yi]
  have h1:=h c (List.mem_cons_self ..)
  have h2:=Xg r fun x hx=>h x (List.mem_cons_of_mem _ hx)
  omega
theorem P4:∀ (L:List Zd) (p:Option PtD) (s:Int),0≤s→s≤1000000000→(Ym p s L=0↔(∀ c∈L,ck1 c=0)∧Srt L∧(∀ c∈L,Jd p c=true)∧s+Zi L≤1000000000)
 | [],p,s,_,h=>by simp[Ym,Srt,Zi,h]
 | c :: r,p,s,h0,h=>by
  by_cases h1:ck1 c=0
  ·have hv:1≤cv c:=(Z9 h1).2.2.2.2.1
   cases h2:Jd p c with
   | false=>
    rw[M7 h1 h2]
    refine⟨fun e=>(by cases e),fun e=>?_⟩
    have:=e.2.2.1 c (List.mem_cons_self ..)
    rw[h2] at this;exact Bool.noConfusion this
   | true=>
    by_cases h3:1000000000<s+cv c
    ·rw[Fs h1 h2 h3]
     refine⟨fun e=>(by cases e),fun e=>?_⟩
     have h4:0≤Zi r:=Xg r fun x hx=>by
      have:=(Z9 (e.1 x (List.mem_cons_of_mem _ hx))).2.2.2.2.1
      omega
     have h5:=e.2.2.2
     rw[Yi] at h5
     omega
    ·rw[Zan h1 h2 h3,P4 r (some (pt c)) (s+cv c) (by omega) (by omega),Yi]
     constructor
     ·rintro ⟨a1,a2,a3,a4⟩
      refine⟨fun x hx=>?_,List.pairwise_cons.2 ⟨fun x hx=>a3 x hx,a2⟩,fun x hx=>?_,by omega⟩
      ·rcases List.mem_cons.1 hx with rfl|hx
       ·exact h1
       ·exact a1 x hx
      ·rcases List.mem_cons.1 hx with rfl|hx
       ·exact h2
       ·cases p with
        | none=>rfl
        | some p=>exact lt_trans h2 (a3 x hx)
     ·rintro ⟨a1,a2,a3,a4⟩
      exact⟨fun x hx=>a1 x (List.mem_cons_of_mem _ hx),Srt.tail a2,fun x hx=>Srt.head a2 x hx,by omega⟩
  ·rw[Cf h1]
   exact⟨fun e=>absurd e h1,fun e=>absurd (e.1 c (List.mem_cons_self ..)) h1⟩
structure Yc(L:List Zd):Prop where
 len:L.length≤720
 one:∀ c∈L,ck1 c=0
 srt:Srt L
 sum:Zi L≤1000000000
theorem Zs(L:List Zd):Zn L=0↔Yc L:=by
 unfold Zn
 by_cases h:720<L.length
 ·rw[if_pos h];exact⟨fun e=>(by cases e),fun e=>absurd e.len (by omega)⟩
 ·rw[if_neg h,P4 L none 0 (by omega) (by omega)]
  exact⟨fun ⟨a,b,_,c⟩=>⟨by omega,a,b,by omega⟩,fun e=>⟨e.one,e.srt,fun _ _=>rfl,by have:=e.sum;omega⟩⟩
def pos(p:PtD)(L:List Zd):Nat:=L.countP fun c=>lt (pt c) p
def Xl(p:PtD)(L:List Zd):Bool:=L.any fun c=>decide (pt c=p)
def Wt(p:PtD)(L:List Zd):Option (Zd×List Zd):=
 match L.find? (fun c=>decide (pt c=p)) with|none=>none|some c=>some (c,L.filter fun c=>decide (pt c≠p))
def Jm(c:Zd)(L:List Zd):List Zd:=L.filter (fun x=>lt (pt x) (pt c))++c :: L.filter fun x=>lt (pt c) (pt x)
theorem Srt.filter{L:List Zd}(h:Srt L)(f:Zd→Bool):Srt (L.filter f):=List.Pairwise.filter f h
theorem Ue(p:PtD)(L:List Zd):Xl p L=true↔∃ c∈L,pt c=p:=by simp[Xl]
theorem Tn{c x:Zd}{L:List Zd}(h:Xl (pt c) L=false):x∈Jm c L↔x=c∨x∈L:=by
 unfold Jm
 rw[List.mem_append,List.mem_cons,List.mem_filter,List.mem_filter]
 constructor
 ·rintro (⟨a,_⟩|rfl|⟨a,_⟩)
  ·exact .inr a
  ·exact .inl rfl
  ·exact .inr a
 ·rintro (rfl|a)
  ·exact .inr (.inl rfl)
  ·rcases Bi (pt x) (pt c) with q|q|q
   ·exact .inl ⟨a,q⟩
   ·rw[←Bool.not_eq_true,Ue] at h
    exact absurd ⟨x,a,q⟩ h
   ·exact .inr (.inr ⟨a,q⟩)
theorem Qt{c:Zd}{L:List Zd}(h:Srt L):Srt (Jm c L):=by
 unfold Jm Srt
 rw[List.pairwise_append]
 refine⟨h.filter _,List.pairwise_cons.2 ⟨fun x hx=>(List.mem_filter.1 hx).2,h.filter _⟩,fun a ha b hb=>?_⟩
 have h1:=(List.mem_filter.1 ha).2
 rcases List.mem_cons.1 hb with rfl|hb
 ·exact h1
 ·exact lt_trans h1 (List.mem_filter.1 hb).2
theorem Wo{p:PtD}:∀ {L:List Zd},Srt L→L.take (pos p L)=L.filter (fun x=>lt (pt x) p)∧L.drop (pos p L)=L.filter (fun x=>!lt (pt x) p)
 | [],_=>by simp[pos]
 | c :: L,h=>by
  obtain⟨h1,h2⟩:=Wo (p:=p) h.tail
  unfold pos at *
  cases hc:lt (pt c) p with
  | true=>
   rw[List.countP_cons_of_pos (by simpa using hc),List.filter_cons_of_pos (by simpa using hc),List.filter_cons_of_neg (by simp[hc]),List.take_succ_cons,List.drop_succ_cons,h1,h2]
   exact⟨rfl,rfl⟩
  | false=>
   have h3:∀ x∈L,lt (pt x) p=false:=fun x hx=>by
    rw[←Bool.not_eq_true]
    intro q
    rw[lt_trans (h.head x hx) q] at hc
    exact Bool.noConfusion hc
   have e:(c :: L).countP (fun c=>lt (pt c) p)=0:=by
    rw[List.countP_eq_zero]
    intro x hx
    rcases List.mem_cons.1 hx with rfl|hx
    ·simp[hc]
    ·simp[h3 x hx]
   rw[e,List.take_zero,List.drop_zero]
   constructor
   ·symm;rw[List.filter_eq_nil_iff]
    intro x hx
    rcases List.mem_cons.1 hx with rfl|hx
    ·simp[hc]
    ·simp[h3 x hx]
   ·symm;rw[List.filter_eq_self]
    intro x hx
    rcases List.mem_cons.1 hx with rfl|hx
    ·simp[hc]
    ·simp[h3 x hx]
theorem Aw(p:PtD)(L:List Zd):pos p L≤L.length:=List.countP_le_length ..
theorem K7{p:PtD}{L:List Zd}(h:Srt L):Xl p L=(decide (pos p L<L.length) && decide ((L[pos p L]?).map pt=some p)):=by
 obtain⟨h1,h2⟩:=Wo (p:=p) h
 rw[Bool.eq_iff_iff,Ue,Bool.and_eq_true,decide_eq_true_eq,decide_eq_true_eq]
 constructor
 ·rintro ⟨c,hc,e⟩
  have hd:c∈L.drop (pos p L):=by rw[h2,List.mem_filter];exact⟨hc,by rw[e,Jq];rfl⟩
  have hl:pos p L<L.length:=by
   rcases Nat.lt_or_ge (pos p L) L.length with q|q
   ·exact q
   ·rw[List.drop_of_length_le q] at hd;cases hd
  refine⟨hl,?_⟩
  have hs:Srt (L.drop (pos p L)):=by rw[h2];exact h.filter _
  rw[List.drop_eq_getElem_cons hl] at hd hs
  rw[List.getElem?_eq_getElem hl,Option.map_some]
  rcases List.mem_cons.1 hd with rfl|q
  ·rw[e]
  ·have g:=hs.head c q
   have h3:L[pos p L]∈L.drop (pos p L):=by rw[List.drop_eq_getElem_cons hl];exact List.mem_cons_self ..
   rw[h2,List.mem_filter] at h3
   rw[e] at g
   rw[g] at h3
   exact absurd h3.2 (by decide)
 ·rintro ⟨hl,e⟩
  rw[List.getElem?_eq_getElem hl,Option.map_some,Option.some.injEq] at e
  exact⟨L[pos p L],List.getElem_mem hl,e⟩
theorem Lz{p:PtD}{L:List Zd}(h:Xl p L=false):Wt p L=none:=by
 unfold Wt
 have:L.find? (fun c=>decide (pt c=p))=none:=by
  rw[List.find?_eq_none]
  intro x hx
  rw[←Bool.not_eq_true,Ue] at h
  simp only[decide_eq_true_eq]
  exact fun e=>h ⟨x,hx,e⟩
 rw[this]
theorem Ph{p:PtD}{L:List Zd}(h:Srt L){c:Zd}(hc:c∈L)(e:pt c=p):Wt p L=some (c,L.filter fun c=>decide (pt c≠p)):=by
 unfold Wt
 have:L.find? (fun c=>decide (pt c=p))=some c:=by
  cases q:L.find? (fun c=>decide (pt c=p)) with
  | none=>rw[List.find?_eq_none] at q;exact absurd (decide_eq_true e) (q c hc)
  | some d=>
   have h1:=List.find?_some q
   have h2:=List.mem_of_find?_eq_some q
   simp only[decide_eq_true_eq] at h1
   rw[h.inj h2 hc (by rw[h1,e])]
 rw[this]
theorem U9{p:PtD}{L M:List Zd}{c:Zd}(h:Wt p L=some (c,M)):c∈L∧pt c=p∧M=L.filter fun c=>decide (pt c≠p):=by
 unfold Wt at h
 split at h
 ·cases h
 ·rename_i d q
  simp only[Option.some.injEq,Prod.mk.injEq] at h
  obtain⟨rfl,rfl⟩:=h
  have h1:=List.find?_some q
  simp only[decide_eq_true_eq] at h1
  exact⟨List.mem_of_find?_eq_some q,h1,rfl⟩
theorem Ah{p:PtD}{L:List Zd}(h:Srt L)(hl:pos p L<L.length)(e:pt L[pos p L]=p):Wt p L=some (L[pos p L],L.take (pos p L)++L.drop (pos p L+1)):=by
 rw[Ph h (List.getElem_mem hl) e]
 obtain⟨h1,h2⟩:=Wo (p:=p) h
 have h3:=List.drop_eq_getElem_cons hl
 rw[h2] at h3
 have hs:Srt (L[pos p L] :: L.drop (pos p L+1)):=by rw[←h3];exact h.filter _
 have e1:L.filter (fun c=>decide (pt c≠p))=L.take (pos p L)++L.drop (pos p L+1):=by
  have e2:L=L.take (pos p L)++(L[pos p L] :: L.drop (pos p L+1)):=by rw[←List.drop_eq_getElem_cons hl,List.take_append_drop]
  have e3:L.filter (fun c=>decide (pt c≠p))=(L.take (pos p L)++(L[pos p L] :: L.drop (pos p L+1))).filter (fun c=>decide (pt c≠p)):=congrArg _ e2
  rw[e3,List.filter_append,List.filter_cons_of_neg (by simp[e])]
  congr 1
  ·rw[List.filter_eq_self]
   intro x hx
   rw[h1,List.mem_filter] at hx
   exact decide_eq_true (Qy hx.2)
  ·rw[List.filter_eq_self]
   intro x hx
   have:=hs.head x hx
   rw[e] at this
   exact decide_eq_true (Ne.symm (Qy this))
 rw[e1]
theorem Np{c:Zd}{L:List Zd}(h:Srt L)(hn:Xl (pt c) L=false):Jm c L=L.take (pos (pt c) L)++c :: L.drop (pos (pt c) L):=by
 obtain⟨h1,h2⟩:=Wo (p:=pt c) h
 unfold Jm
 rw[h1,h2]
 congr 2
 refine List.filter_congr fun x hx=>?_
 rw[Bool.eq_iff_iff]
 rcases Bi (pt x) (pt c) with q|q|q
 ·simp[q,Tp q]
 ·rw[←Bool.not_eq_true,Ue] at hn
  exact absurd ⟨x,hx,q⟩ hn
 ·simp[q,Tp q]
open Go.RowKit
def cnV(x:Zd)(a:Option Addr)(n c:Nat):Value:=.agg #[.int .i64 x.1,.int .i64 x.2.1,.int .i64 (cv x),.slice a n c,.int .i64 (ch x),.bool (cr x)]
def CoinAt(w:World)(b o:Nat)(x:Zd):Prop:=
 w.cell? ⟨b,o,none⟩=some (.int .i64 x.1)∧w.cell? ⟨b,o+1,none⟩=some (.int .i64 x.2.1)∧w.cell? ⟨b,o+2,none⟩=some (.int .i64 (cv x)) ∧
 (∃ a n c,w.cell? ⟨b,o+3,none⟩=some (.slice a n c)∧OpsAt w a n (ck x)∧SlOk a n c) ∧
 w.cell? ⟨b,o+4,none⟩=some (.int .i64 (ch x))∧w.cell? ⟨b,o+5,none⟩=some (.bool (cr x))
theorem CoinAt.kept:Ga CoinAt:=fun _ _ _ _ _ hb h=>by
 obtain⟨h1,h2,h3,⟨a,n,c,h4,h5,h6⟩,h7,h8⟩:=h
 exact⟨cell_later hb h1,cell_later hb h2,cell_later hb h3,⟨a,n,c,cell_later hb h4,h5.later hb,h6⟩,cell_later hb h7,cell_later hb h8⟩
def CoinsAt(w:World)(a:Option Addr)(len:Nat)(l:List Zd):Prop:=RowsAt CoinAt 6 w a len l
theorem CoinsAt.later{w w':World}{a:Option Addr}{len:Nat}{l:List Zd}(h:CoinsAt w a len l)(hb:Below w.heap.size w w'):CoinsAt w' a len l:=RowsAt.later CoinAt.kept h hb
theorem Gh(w:World)(a b c d e f:Value)(t:TypeId):(w.alloc (.cells #[a,b,c,d,e,f] t)).cell? ⟨w.heap.size,0,none⟩=some a∧(w.alloc (.cells #[a,b,c,d,e,f] t)).cell? ⟨w.heap.size,1,none⟩=some b∧(w.alloc (.cells #[a,b,c,d,e,f] t)).cell? ⟨w.heap.size,2,none⟩=some c ∧
  (w.alloc (.cells #[a,b,c,d,e,f] t)).cell? ⟨w.heap.size,3,none⟩=some d∧(w.alloc (.cells #[a,b,c,d,e,f] t)).cell? ⟨w.heap.size,4,none⟩=some e∧(w.alloc (.cells #[a,b,c,d,e,f] t)).cell? ⟨w.heap.size,5,none⟩=some f:=by
 refine⟨?_,?_,?_,?_,?_,?_⟩ <;> (rw[World.cell?_alloc_at _ _ _ _ rfl];rfl)
def Rl(x y:Int):Int:=if x<y then -1 else if y<x then 1 else 0
theorem Ky(x:Int)(w:World):Calls Tryz.prog 223 #[.int .i64 x] w fun e w'=>e = .returned (.bool false)∧w=w':=by
 go_enter Tryz.func223,Tryz.ntmps223
 go_wp2
 go_ret
 exact⟨rfl,rfl⟩
theorem Sw(x y:Int)(w:World):Calls Tryz.prog 231 #[.int .i64 x,.int .i64 y] w fun e w'=>e = .returned (.int .i64 (Rl x y))∧w=w':=by
 have C1:=hide (Ky x)
 have C2:=hide (Ky y)
 by_cases h1:x<y
 ·have e:Rl x y = -1:=by simp[Rl,h1]
  rw[e]
  clear e
  go_enter Tryz.func231,Tryz.ntmps231
  go_wp2_with fail
  refine ((unhide C1) _).mono ?_
  rintro e w' ⟨rfl,rfl⟩
  go_wp2_with fail
  refine ((unhide C2) _).mono ?_
  rintro e w' ⟨rfl,rfl⟩
  go_wp2
  go_ret
  exact⟨rfl,rfl⟩
 ·by_cases h2:y<x
  ·have e:Rl x y=1:=by simp[Rl,h1,h2]
   rw[e]
   clear e
   go_enter Tryz.func231,Tryz.ntmps231
   go_wp2_with fail
   refine ((unhide C1) _).mono ?_
   rintro e w' ⟨rfl,rfl⟩
   go_wp2_with fail
   refine ((unhide C2) _).mono ?_
   rintro e w' ⟨rfl,rfl⟩
   go_wp2
   go_ret
   exact⟨rfl,rfl⟩
  ·have e:Rl x y=0:=by simp[Rl,h1,h2]
   rw[e]
   clear e
   go_enter Tryz.func231,Tryz.ntmps231
   go_wp2_with fail
   refine ((unhide C1) _).mono ?_
   rintro e w' ⟨rfl,rfl⟩
   go_wp2_with fail
   refine ((unhide C2) _).mono ?_
   rintro e w' ⟨rfl,rfl⟩
   go_wp2
   go_ret
   exact⟨rfl,rfl⟩
def orI(x y:Int):Int:=if x=0 then y else x
theorem Cc(x y:Int)(b c:Nat)(w:World)(h1:w.cell? ⟨b,0,none⟩=some (.int .i64 x))(h2:w.cell? ⟨b,1,none⟩=some (.int .i64 y)) :
  Calls Tryz.prog 230 #[.slice (some ⟨b,0,none⟩) 2 c] w fun e w'=>e = .returned (.int .i64 (orI x y))∧w=w':=by
 by_cases hx:x=0
 ·subst hx
  by_cases hy:y=0
  ·subst hy
   have e:orI 0 0=0:=rfl
   rw[e]
   clear e
   go_enter Tryz.func230,Tryz.ntmps230
   go_wp2
   refine wp_loop_rounds 3 ?_
   rw[rounds_succ]
   go_wp2
   rw[rounds_succ]
   go_wp2
   rw[rounds_succ]
   go_wp2
   go_ret
   exact⟨rfl,rfl⟩
  ·have e:orI 0 y=y:=rfl
   rw[e]
   have gy:(y != 0)=true:=by simp[hy]
   clear e hy
   go_enter Tryz.func230,Tryz.ntmps230
   go_wp2
   refine wp_loop_rounds 2 ?_
   rw[rounds_succ]
   go_wp2
   rw[rounds_succ]
   go_wp2
   go_ret
   exact⟨rfl,rfl⟩
 ·have e:orI x y=x:=by simp[orI,hx]
  rw[e]
  have gx:(x != 0)=true:=by simp[hx]
  clear e hx
  go_enter Tryz.func230,Tryz.ntmps230
  go_wp2
  refine wp_loop_rounds 1 ?_
  rw[rounds_succ]
  go_wp2
  go_ret
  exact⟨rfl,rfl⟩
theorem Zak(p q:PtD):orI (Rl p.1 q.1) (Rl p.2 q.2)=Rk p q:=by
 obtain⟨a,b⟩:=p
 obtain⟨c,d⟩:=q
 unfold orI Rl Rk lt
 simp only[Bool.or_eq_true,Bool.and_eq_true,decide_eq_true_eq,Prod.mk.injEq]
 repeat' split
 all_goals omega
theorem Zu(w:World)(x y:Value)(t:TypeId):(w.alloc (.cells #[x,y] t)).cell? ⟨w.heap.size,0,none⟩=some x∧(w.alloc (.cells #[x,y] t)).cell? ⟨w.heap.size,1,none⟩=some y:=
 ⟨by rw[World.cell?_alloc_at _ _ _ _ rfl];rfl,by rw[World.cell?_alloc_at _ _ _ _ rfl];rfl⟩
theorem Ze(w:World):Below w.heap.size w w.drew:=⟨rfl,rfl,rfl,Nat.le_refl _,fun _ _=>rfl⟩
theorem Qh(p q:PtD)(z:Int)(w:World)(hz:Rk p q=z) :
  Calls Tryz.prog 201 #[.agg #[.int .i64 p.1,.int .i64 p.2],.agg #[.int .i64 q.1,.int .i64 q.2]] w fun e w'=>e = .returned (.int .i64 z)∧Below w.heap.size w w':=by
 obtain⟨a,b⟩:=p
 obtain⟨c,d⟩:=q
 have e:=Zak (a,b) (c,d)
 rw[hz] at e
 simp only at e ⊢
 have E:=hide e
 obtain⟨X,hX⟩:∃ X,X=(w.alloc (.cells #[.int .i64 a,.int .i64 b] 117)).alloc (.cells #[.int .i64 c,.int .i64 d] 117):=⟨_,rfl⟩
 have HB:Hid (Below w.heap.size w X):=by rw[hX];exact (bel_on (bel_new w (.cells #[.int .i64 a,.int .i64 b] 117)) (bel_new _ (.cells #[.int .i64 c,.int .i64 d] 117)))
 have x0:X.cell? ⟨w.heap.size,0,none⟩=some (.int .i64 a):=by rw[hX];exact cell_later (bel_new _ _) (Zu w _ _ _).1
 have x1:X.cell? ⟨w.heap.size,1,none⟩=some (.int .i64 b):=by rw[hX];exact cell_later (bel_new _ _) (Zu w _ _ _).2
 have x2:X.cell? ⟨w.heap.size+1,0,none⟩=some (.int .i64 c):=by rw[hX];have:=(Zu (w.alloc (.cells #[.int .i64 a,.int .i64 b] 117)) (.int .i64 c) (.int .i64 d) 117).1;simp at this ⊢
 have x3:X.cell? ⟨w.heap.size+1,1,none⟩=some (.int .i64 d):=by rw[hX];have:=(Zu (w.alloc (.cells #[.int .i64 a,.int .i64 b] 117)) (.int .i64 c) (.int .i64 d) 117).2;simp at this ⊢
 clear hz e
 go_enter Tryz.func201,Tryz.ntmps201
 go_wp2_with fail
 rw[←hX]
 clear hX
 go_region_held3 (fun w'=>Below X.heap.size X w'∧w'.cell? ⟨w.heap.size,0,none⟩=some (.int .i64 a)∧w'.cell? ⟨w.heap.size,1,none⟩=some (.int .i64 b)∧w'.cell? ⟨w.heap.size+1,0,none⟩=some (.int .i64 c)∧w'.cell? ⟨w.heap.size+1,1,none⟩=some (.int .i64 d))
  (first
  | exact⟨Ze _,x0,x1,x2,x3⟩
  | (go_split_ands;exact⟨by assumption,by assumption,by assumption,by assumption,by assumption⟩)
  | (go_split_ands;exact⟨bel_on (by assumption) (bel_new _ _),cell_later (bel_new _ _) (by assumption),cell_later (bel_new _ _) (by assumption),cell_later (bel_new _ _) (by assumption),cell_later (bel_new _ _) (by assumption)⟩))
  (first
  | (go_at_call 231;refine (Sw _ _ _).mono ?_;rintro e w' ⟨rfl,rfl⟩)
  | (go_at_call 230;refine (Cc (Rl a c) (Rl b d) _ 2 _ ?_ ?_).mono ?_;exact (Zu _ _ _ _).1;exact (Zu _ _ _ _).2;rintro e w' ⟨rfl,rfl⟩))
 rename_i hH
 have HH:=hide (bel_on (unhide HB) hH.1)
 clear hH
 go_wp2
 go_ret
 exact⟨by rw[←unhide E];rfl,unhide HH⟩
theorem Wi(h:Int)(b:Bool)(w:World)(hb:okH h=b) :
  Calls Tryz.prog 203 #[.int .i64 h] w fun e w'=>e = .returned (.bool b)∧w=w':=by
 have C:=hide (within_is h 1 1000 b w (by rw[←hb];rfl))
 clear hb
 go_enter Tryz.func203,Tryz.ntmps203
 go_wp2_with fail
 refine (unhide C).mono ?_
 rintro e w' ⟨rfl,rfl⟩
 go_wp2
 go_ret
 exact⟨rfl,rfl⟩
theorem Ml(a:Option Addr)(len cap:Nat)(l:List (Int×Int))(x:Int)(w:World)(hx:chk l=x)(h:OpsAt w a len l) :
  Calls Tryz.prog 249 #[.slice a len cap] w fun e w'=>e = .returned (.int .i64 x)∧Below w.heap.size w w':=by
 subst hx;exact Wq a len cap l w h
theorem Hc(x:Zd)(a:Option Addr)(n c:Nat)(z:Int)(w:World)(hO:OpsAt w a n (ck x))(hz:ck1 x=z) :
  Calls Tryz.prog 200 #[cnV x a n c] w fun e w'=>e = .returned (.int .i64 z)∧Below w.heap.size w w':=by
 obtain⟨x1,x2,x3,k,x4,x5⟩:=x
 unfold cnV
 simp only[cv,ck,ch,cr] at hO ⊢
 obtain⟨X,hX⟩:∃ X,X=w.alloc (.cells #[.int .i64 x1,.int .i64 x2,.int .i64 x3,.slice a n c,.int .i64 x4,.bool x5] 124):=⟨_,rfl⟩
 obtain⟨n0,n1,n2,n3,n4,n5⟩:=Gh w (.int .i64 x1) (.int .i64 x2) (.int .i64 x3) (.slice a n c) (.int .i64 x4) (.bool x5) 124
 rw[←hX] at n0 n1 n2 n3 n4 n5
 have hb:Below w.heap.size w X:=by rw[hX];exact bel_new _ _
 have HB:=hide hb
 have HO:=hide (hO.later hb)
 have N2:=hide n2
 have N3:=hide n3
 have N4:=hide n4
 clear hO hb n5
 cases hp:Zbw (x1,x2) with
 | false=>
  have e:z=3:=by rw[←hz];unfold ck1;rw[if_pos (by unfold okC pt;rw[hp];rfl)]
  subst e
  have C1:=hide (Vo x1 x2 false X hp)
  clear hp hz
  go_enter Tryz.func200,Tryz.ntmps200
  go_wp2_with fail
  rw[←hX]
  clear hX
  go_wp2_with fail
  refine (unhide C1).mono ?_
  rintro e w2 ⟨rfl,hb2⟩
  have HB2:=hide (bel_on (unhide HB) hb2)
  clear hb2
  go_wp2
  go_ret
  exact⟨rfl,unhide HB2⟩
 | true=>
  have C1:=hide (Vo x1 x2 true X hp)
  cases hv:okV x3 with
  | false=>
   have e:z=3:=by rw[←hz];unfold ck1;rw[if_pos (by unfold okC pt;rw[hp];simp only[cv];rw[hv];rfl)]
   subst e
   have C2:=hide (fun w=>within_is x3 1 1000000000 false w (by rw[←hv];rfl))
   clear hp hz hv
   go_enter Tryz.func200,Tryz.ntmps200
   go_wp2_with fail
   rw[←hX]
   clear hX
   go_wp2_with fail
   refine (unhide C1).mono ?_
   rintro e w2 ⟨rfl,hb2⟩
   have m2:=cell_later hb2 (unhide N2)
   have hs2:w.heap.size<w2.heap.size:=World.block_lt_of_cell? _ _ m2
   have HB2:=hide (bel_on (unhide HB) hb2)
   clear hb2
   go_wp2_with fail
   refine ((unhide C2) _).mono ?_
   rintro e w3 ⟨rfl,rfl⟩
   go_wp2
   go_ret
   exact⟨rfl,unhide HB2⟩
  | true=>
   have C2:=hide (fun w=>within_is x3 1 1000000000 true w (by rw[←hv];rfl))
   cases hh:okH x4 with
   | false=>
    have e:z=3:=by rw[←hz];unfold ck1;rw[if_pos (by unfold okC pt;rw[hp];simp only[cv,ch];rw[hv,hh];rfl)]
    subst e
    have C3:=hide (fun w=>Wi x4 false w hh)
    clear hp hz hv hh
    go_enter Tryz.func200,Tryz.ntmps200
    go_wp2_with fail
    rw[←hX]
    clear hX
    go_wp2_with fail
    refine (unhide C1).mono ?_
    rintro e w2 ⟨rfl,hb2⟩
    have m2:=cell_later hb2 (unhide N2)
    have m4:=cell_later hb2 (unhide N4)
    have hs2:w.heap.size<w2.heap.size:=World.block_lt_of_cell? _ _ m2
    have HB2:=hide (bel_on (unhide HB) hb2)
    clear hb2
    go_wp2_with fail
    refine ((unhide C2) _).mono ?_
    rintro e w3 ⟨rfl,rfl⟩
    go_wp2_with fail
    refine ((unhide C3) _).mono ?_
    rintro e w3 ⟨rfl,rfl⟩
    go_wp2
    go_ret
    exact⟨rfl,unhide HB2⟩
   | true=>
    have e:chk k=z:=by rw[←hz];unfold ck1;rw[if_neg (by unfold okC pt;rw[hp];simp only[cv,ch];rw[hv,hh];decide)];rfl
    have C3:=hide (fun w=>Wi x4 true w hh)
    have E:=hide e
    clear hp hz hv hh e
    go_enter Tryz.func200,Tryz.ntmps200
    go_wp2_with fail
    rw[←hX]
    clear hX
    go_wp2_with fail
    refine (unhide C1).mono ?_
    rintro e w2 ⟨rfl,hb2⟩
    have m2:=cell_later hb2 (unhide N2)
    have m3:=cell_later hb2 (unhide N3)
    have m4:=cell_later hb2 (unhide N4)
    have hs2:w.heap.size<w2.heap.size:=World.block_lt_of_cell? _ _ m2
    have C4:=hide (Ml a n c k z w2 (unhide E) ((unhide HO).later hb2))
    have HB2:=hide (bel_on (unhide HB) hb2)
    clear hb2
    go_wp2_with fail
    refine ((unhide C2) _).mono ?_
    rintro e w3 ⟨rfl,rfl⟩
    go_wp2_with fail
    refine ((unhide C3) _).mono ?_
    rintro e w3 ⟨rfl,rfl⟩
    go_wp2_with fail
    refine (unhide C4).mono ?_
    rintro e w4 ⟨rfl,hb4⟩
    have HB4:=hide (bel_on (unhide HB2) hb4)
    clear hb4
    go_wp2
    go_ret
    exact⟨rfl,unhide HB4⟩
end Go.Proofs.YtmomfkikogbdeaaGreatDoor
