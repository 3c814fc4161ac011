/- Coins as plain data: their order, what is wrong with some, one taken, one put. Nothing of the program. -/
import Derived.Test.YtepmnpapdknocaaGreatDoorRefWholeToTxCheck
import Derived.Deep.RegionHeld3
set_option maxHeartbeats 1600000
set_option maxRecDepth 10000
namespace Go.Proofs.YtepmnpapdknocaaGreatDoor
abbrev Zb:=Int×Int×Int×List (Int×Int)×Int×Bool
abbrev PtD:=Int×Int
def pt(c:Zb):PtD:=(c.1,c.2.1)
def cv(c:Zb):Int:=c.2.2.1
def ck(c:Zb):List (Int×Int):=c.2.2.2.1
def ch(c:Zb):Int:=c.2.2.2.2.1
def cr(c:Zb):Bool:=c.2.2.2.2.2
def lt(p q:PtD):Bool:=decide (p.1<q.1) || (decide (p.1=q.1) && decide (p.2<q.2))
theorem Ui(p q:PtD):lt p q=true↔p.1<q.1∨p.1=q.1∧p.2<q.2:=by simp[lt]
theorem lt_irrefl(p:PtD):lt p p=false:=by
 rw[←Bool.not_eq_true,Ui];omega
theorem lt_trans{p q r:PtD}(h1:lt p q=true)(h2:lt q r=true):lt p r=true:=by
 rw[Ui] at *;omega
theorem Ja{p q:PtD}(h1:lt p q=true):lt q p=false:=by
 rw[←Bool.not_eq_true,Ui];rw[Ui] at h1;omega
theorem Mt(p q:PtD):lt p q=true∨p=q∨lt q p=true:=by
 rw[Ui,Ui,Prod.ext_iff];omega
theorem Qw{p q:PtD}(h:lt p q=true):p≠q:=fun e=>by
 subst e;rw[lt_irrefl] at h;exact Bool.noConfusion h
def Pm(p q:PtD):Int:=if lt p q then -1 else if p=q then 0 else 1
theorem Na{p q:PtD}:Pm p q<0↔lt p q=true:=by
 unfold Pm;split
 ·simp[*]
 ·split
  ·rename_i h e;subst e;simp[lt_irrefl]
  ·simp[*]
theorem Zgj{p q:PtD}:Pm p q=0↔p=q:=by
 unfold Pm;split
 ·rename_i h;simp[Qw h]
 ·split <;> simp[*]
def Srt(L:List Zb):Prop:=L.Pairwise fun a b=>lt (pt a) (pt b)=true
theorem Srt.tail{c:Zb}{L:List Zb}(h:Srt (c :: L)):Srt L:=(List.pairwise_cons.1 h).2
theorem Srt.head{c:Zb}{L:List Zb}(h:Srt (c :: L)):∀ x∈L,lt (pt c) (pt x)=true:=(List.pairwise_cons.1 h).1
theorem Srt.inj{L:List Zb}(h:Srt L):∀ {x y:Zb},x∈L→y∈L→pt x=pt y→x=y:=by
 induction L with
 | nil=>intro x y hx;cases hx
 | cons c L ih=>
  intro x y hx hy e
  rcases List.mem_cons.1 hx with rfl|hx <;> rcases List.mem_cons.1 hy with rfl|hy
  ·rfl
  ·exact absurd e (Qw (h.head y ‹y∈L›))
  ·exact absurd e.symm (Qw (h.head x ‹x∈L›))
  ·exact ih h.tail hx hy e
theorem Srt.ext:∀ {L M:List Zb},Srt L→Srt M→(∀ x,x∈L↔x∈M)→L=M
 | [],[],_,_,_=>rfl
 | [],c :: M,_,_,h=>absurd ((h c).2 (List.mem_cons_self ..)) (by simp)
 | c :: L,[],_,_,h=>absurd ((h c).1 (List.mem_cons_self ..)) (by simp)
 | c :: L,d :: M,h1,h2,h=>by
  have e:c=d:=by
   rcases List.mem_cons.1 ((h c).1 (List.mem_cons_self ..)) with e|e
   ·exact e
   rcases List.mem_cons.1 ((h d).2 (List.mem_cons_self ..)) with f|f
   ·exact f.symm
   ·have g:=Ja (h2.head _ e)
    rw[h1.head _ f] at g
    exact Bool.noConfusion g
  subst e
  rw[Srt.ext h1.tail h2.tail fun x=>⟨fun hx=>?_,fun hx=>?_⟩]
  ·rcases List.mem_cons.1 ((h x).1 (List.mem_cons_of_mem _ hx)) with rfl|q
   ·exact absurd rfl (Qw (h1.head _ hx))
   ·exact q
  ·rcases List.mem_cons.1 ((h x).2 (List.mem_cons_of_mem _ hx)) with rfl|q
   ·exact absurd rfl (Qw (h2.head _ hx))
   ·exact q
def Zfn(p:PtD):Bool:=(decide (1≤p.1) && decide (p.1≤120)) && (decide (0≤p.2) && decide (p.2≤5))
def okV(n:Int):Bool:=decide (1≤n) && decide (n≤1000000000)
def okH(n:Int):Bool:=decide (1≤n) && decide (n≤1000)
def okC(c:Zb):Bool:=Zfn (pt c) && (okV (cv c) && okH (ch c))
def ck1(c:Zb):Int:=if okC c=false then 3 else chk (ck c)
theorem Xk{c:Zb}(h:ck1 c=0):1≤c.1∧c.1≤120∧0≤c.2.1∧c.2.1≤5∧1≤cv c∧cv c≤1000000000∧1≤ch c∧ch c≤1000∧chk (ck c)=0:=by
 unfold ck1 at h
 split at h
 ·cases h
 ·rename_i q
  simp only[Bool.not_eq_false,okC,Zfn,okV,okH,pt,Bool.and_eq_true,decide_eq_true_eq] at q
  exact⟨of_decide_eq_true q.1.1.1,of_decide_eq_true q.1.1.2,of_decide_eq_true q.1.2.1,of_decide_eq_true q.1.2.2,q.2.1.1,q.2.1.2,q.2.2.1,q.2.2.2,h⟩
def Jh(p:Option PtD)(c:Zb):Bool:=match p with|none=>true|some p=>lt p (pt c)
def Ye:Option PtD→Int→List Zb→Int
 | _,_,[]=>0
 | p,s,c :: r=>if ck1 c≠0 then ck1 c else if Jh p c=false then 6 else if 1000000000<s+cv c then 12 else Ye (some (pt c)) (s+cv c) r
def Zh(L:List Zb):Int:=if 720<L.length then 2 else Ye none 0 L
def Wl(L:List Zb)(k:Nat):Option PtD:=if k=0 then none else (L[k - 1]?).map pt
def Zy(L:List Zb):Int:=(L.map cv).sum
def Yc(L:List Z7):Int:=(L.map (·.1)).sum
theorem Nx:Zy []=0:=rfl
theorem Xw(c:Zb)(L:List Zb):Zy (c :: L)=cv c+Zy L:=by simp[Zy]
theorem Wi(L M:List Zb):Zy (L++M)=Zy L+Zy M:=by simp[Zy]
theorem Ti(L:List Zb)(k:Nat)(h:k<L.length):Zy (L.take (k+1))=Zy (L.take k)+cv L[k]:=by
 rw[List.take_succ_eq_append_getElem h,Wi,Xw,Nx];omega
theorem Jj(L:List Z7)(k:Nat)(h:k<L.length):Yc (L.take (k+1))=Yc (L.take k)+L[k].1:=by
 rw[List.take_succ_eq_append_getElem h];unfold Yc;rw[List.map_append,List.sum_append];simp
theorem Qi(L:List Zb)(k:Nat)(h:k<L.length):Wl L (k+1)=some (pt L[k]):=by
 unfold Wl;rw[if_neg (by omega)];simp[h]
theorem Ea(L:List Zb)(k:Nat)(h:k<L.length)(p:Option PtD)(s:Int):Ye p s (L.drop k)=if ck1 L[k]≠0 then ck1 L[k] else if Jh p L[k]=false then 6 else if 1000000000<s+cv L[k] then 12 else Ye (some (pt L[k])) (s+cv L[k]) (L.drop (k+1)):=by
 rw[List.drop_eq_getElem_cons h,Ye]
theorem F2(L:List Zb)(k:Nat)(h:L.length≤k)(p:Option PtD)(s:Int):Ye p s (L.drop k)=0:=by
 rw[List.drop_of_length_le h,Ye]
theorem Zei{c:Zb}{r:List Zb}{p:Option PtD}{s:Int}(h:ck1 c≠0):Ye p s (c :: r)=ck1 c:=by rw[Ye,if_pos h]
theorem Bt{c:Zb}{r:List Zb}{p:Option PtD}{s:Int}(h:ck1 c=0)(h2:Jh p c=false):Ye p s (c :: r)=6:=by
 rw[Ye,if_neg (by rw[h];decide),if_pos h2]
theorem Zbb{c:Zb}{r:List Zb}{p:Option PtD}{s:Int}(h:ck1 c=0)(h2:Jh p c=true)(h3:1000000000<s+cv c):Ye p s (c :: r)=12:=by
 rw[Ye,if_neg (by rw[h];decide),if_neg (by rw[h2];decide),if_pos h3]
theorem Zgl{c:Zb}{r:List Zb}{p:Option PtD}{s:Int}(h:ck1 c=0)(h2:Jh p c=true)(h3:¬1000000000<s+cv c):Ye p s (c :: r)=Ye (some (pt c)) (s+cv c) r:=by
 rw[Ye,if_neg (by rw[h];decide),if_neg (by rw[h2];decide),if_neg h3]
theorem Q0:∀ (L:List Zb),(∀ c∈L,0≤cv c)→0≤Zy L
 | [],_=>Int.le_refl _
 | c :: r,h=>by
  rw[Xw]
  have h1:=h c (List.mem_cons_self ..)
  have h2:=Q0 r fun x hx=>h x (List.mem_cons_of_mem _ hx)
  omega
theorem Lx:∀ (L:List Zb) (p:Option PtD) (s:Int),0≤s→s≤1000000000→(Ye p s L=0↔(∀ c∈L,ck1 c=0)∧Srt L∧(∀ c∈L,Jh p c=true)∧s+Zy L≤1000000000)
 | [],p,s,_,h=>by simp[Ye,Srt,Zy,h]
 | c :: r,p,s,h0,h=>by
  by_cases h1:ck1 c=0
  ·have hv:1≤cv c:=(Xk h1).2.2.2.2.1
   cases h2:Jh p c with
   | false=>
    rw[Bt h1 h2]
    refine⟨fun e=>(by cases e),fun e=>?_⟩
    have:=e.2.2.1 c (List.mem_cons_self ..)
    rw[h2] at this;exact Bool.noConfusion this
   | true=>
    by_cases h3:1000000000<s+cv c
    ·rw[Zbb h1 h2 h3]
     refine⟨fun e=>(by cases e),fun e=>?_⟩
     have h4:0≤Zy r:=Q0 r fun x hx=>by
      have:=(Xk (e.1 x (List.mem_cons_of_mem _ hx))).2.2.2.2.1
      omega
     have h5:=e.2.2.2
     rw[Xw] at h5
     omega
    ·rw[Zgl h1 h2 h3,Lx r (some (pt c)) (s+cv c) (by omega) (by omega),Xw]
     constructor
     ·rintro ⟨a1,a2,a3,a4⟩
      refine⟨fun x hx=>?_,List.pairwise_cons.2 ⟨fun x hx=>a3 x hx,a2⟩,fun x hx=>?_,by omega⟩
      ·rcases List.mem_cons.1 hx with rfl|hx
       ·exact h1
       ·exact a1 x hx
      ·rcases List.mem_cons.1 hx with rfl|hx
       ·exact h2
       ·cases p with
        | none=>rfl
        | some p=>exact lt_trans h2 (a3 x hx)
     ·rintro ⟨a1,a2,a3,a4⟩
      exact⟨fun x hx=>a1 x (List.mem_cons_of_mem _ hx),Srt.tail a2,fun x hx=>Srt.head a2 x hx,by omega⟩
  ·rw[Zei h1]
   exact⟨fun e=>absurd e h1,fun e=>absurd (e.1 c (List.mem_cons_self ..)) h1⟩
structure Zs(L:List Zb):Prop where
 len:L.length≤720
 one:∀ c∈L,ck1 c=0
 srt:Srt L
 sum:Zy L≤1000000000
theorem Z6(L:List Zb):Zh L=0↔Zs L:=by
 unfold Zh
 by_cases h:720<L.length
 ·rw[if_pos h];exact⟨fun e=>(by cases e),fun e=>absurd e.len (by omega)⟩
 ·rw[if_neg h,Lx L none 0 (by omega) (by omega)]
  exact⟨fun ⟨a,b,_,c⟩=>⟨by omega,a,b,by omega⟩,fun e=>⟨e.one,e.srt,fun _ _=>rfl,by have:=e.sum;omega⟩⟩
def pos(p:PtD)(L:List Zb):Nat:=L.countP fun c=>lt (pt c) p
def Yv(p:PtD)(L:List Zb):Bool:=L.any fun c=>decide (pt c=p)
def Xr(p:PtD)(L:List Zb):Option (Zb×List Zb):=
 match L.find? (fun c=>decide (pt c=p)) with|none=>none|some c=>some (c,L.filter fun c=>decide (pt c≠p))
def Xy(c:Zb)(L:List Zb):List Zb:=L.filter (fun x=>lt (pt x) (pt c))++c :: L.filter fun x=>lt (pt c) (pt x)
theorem Srt.filter{L:List Zb}(h:Srt L)(f:Zb→Bool):Srt (L.filter f):=List.Pairwise.filter f h
theorem Wv(p:PtD)(L:List Zb):Yv p L=true↔∃ c∈L,pt c=p:=by simp[Yv]
theorem Gy{c x:Zb}{L:List Zb}(h:Yv (pt c) L=false):x∈Xy c L↔x=c∨x∈L:=by
 unfold Xy
 rw[List.mem_append,List.mem_cons,List.mem_filter,List.mem_filter]
 constructor
 ·rintro (⟨a,_⟩|rfl|⟨a,_⟩)
  ·exact .inr a
  ·exact .inl rfl
  ·exact .inr a
 ·rintro (rfl|a)
  ·exact .inr (.inl rfl)
  ·rcases Mt (pt x) (pt c) with q|q|q
   ·exact .inl ⟨a,q⟩
   ·rw[←Bool.not_eq_true,Wv] at h
    exact absurd ⟨x,a,q⟩ h
   ·exact .inr (.inr ⟨a,q⟩)
theorem X2{c:Zb}{L:List Zb}(h:Srt L):Srt (Xy c L):=by
 unfold Xy Srt
 rw[List.pairwise_append]
 refine⟨h.filter _,List.pairwise_cons.2 ⟨fun x hx=>(List.mem_filter.1 hx).2,h.filter _⟩,fun a ha b hb=>?_⟩
 have h1:=(List.mem_filter.1 ha).2
 rcases List.mem_cons.1 hb with rfl|hb
 ·exact h1
 ·exact lt_trans h1 (List.mem_filter.1 hb).2
theorem V7{p:PtD}:∀ {L:List Zb},Srt L→L.take (pos p L)=L.filter (fun x=>lt (pt x) p)∧L.drop (pos p L)=L.filter (fun x=>!lt (pt x) p)
 | [],_=>by simp[pos]
 | c :: L,h=>by
  obtain⟨h1,h2⟩:=V7 (p:=p) h.tail
  unfold pos at *
  cases hc:lt (pt c) p with
  | true=>
   rw[List.countP_cons_of_pos (by simpa using hc),List.filter_cons_of_pos (by simpa using hc),List.filter_cons_of_neg (by simp[hc]),List.take_succ_cons,List.drop_succ_cons,h1,h2]
   exact⟨rfl,rfl⟩
  | false=>
   have h3:∀ x∈L,lt (pt x) p=false:=fun x hx=>by
    rw[←Bool.not_eq_true]
    intro q
    rw[lt_trans (h.head x hx) q] at hc
    exact Bool.noConfusion hc
   have e:(c :: L).countP (fun c=>lt (pt c) p)=0:=by
    rw[List.countP_eq_zero]
    intro x hx
    rcases List.mem_cons.1 hx with rfl|hx
    ·simp[hc]
    ·simp[h3 x hx]
   rw[e,List.take_zero,List.drop_zero]
   constructor
   ·symm;rw[List.filter_eq_nil_iff]
    intro x hx
    rcases List.mem_cons.1 hx with rfl|hx
    ·simp[hc]
    ·simp[h3 x hx]
   ·symm;rw[List.filter_eq_self]
    intro x hx
    rcases List.mem_cons.1 hx with rfl|hx
    ·simp[hc]
    ·simp[h3 x hx]
theorem Zcv(p:PtD)(L:List Zb):pos p L≤L.length:=List.countP_le_length ..
theorem Fk{p:PtD}{L:List Zb}(h:Srt L):Yv p L=(decide (pos p L<L.length) && decide ((L[pos p L]?).map pt=some p)):=by
 obtain⟨h1,h2⟩:=V7 (p:=p) h
 rw[Bool.eq_iff_iff,Wv,Bool.and_eq_true,decide_eq_true_eq,decide_eq_true_eq]
 constructor
 ·rintro ⟨c,hc,e⟩
  have hd:c∈L.drop (pos p L):=by rw[h2,List.mem_filter];exact⟨hc,by rw[e,lt_irrefl];rfl⟩
  have hl:pos p L<L.length:=by
   rcases Nat.lt_or_ge (pos p L) L.length with q|q
   ·exact q
   ·rw[List.drop_of_length_le q] at hd;cases hd
  refine⟨hl,?_⟩
  have hs:Srt (L.drop (pos p L)):=by rw[h2];exact h.filter _
  rw[List.drop_eq_getElem_cons hl] at hd hs
  rw[List.getElem?_eq_getElem hl,Option.map_some]
  rcases List.mem_cons.1 hd with rfl|q
  ·rw[e]
  ·have g:=hs.head c q
   have h3:L[pos p L]∈L.drop (pos p L):=by rw[List.drop_eq_getElem_cons hl];exact List.mem_cons_self ..
   rw[h2,List.mem_filter] at h3
   rw[e] at g
   rw[g] at h3
   exact absurd h3.2 (by decide)
 ·rintro ⟨hl,e⟩
  rw[List.getElem?_eq_getElem hl,Option.map_some,Option.some.injEq] at e
  exact⟨L[pos p L],List.getElem_mem hl,e⟩
theorem P2{p:PtD}{L:List Zb}(h:Yv p L=false):Xr p L=none:=by
 unfold Xr
 have:L.find? (fun c=>decide (pt c=p))=none:=by
  rw[List.find?_eq_none]
  intro x hx
  rw[←Bool.not_eq_true,Wv] at h
  simp only[decide_eq_true_eq]
  exact fun e=>h ⟨x,hx,e⟩
 rw[this]
theorem Kw{p:PtD}{L:List Zb}(h:Srt L){c:Zb}(hc:c∈L)(e:pt c=p):Xr p L=some (c,L.filter fun c=>decide (pt c≠p)):=by
 unfold Xr
 have:L.find? (fun c=>decide (pt c=p))=some c:=by
  cases q:L.find? (fun c=>decide (pt c=p)) with
  | none=>rw[List.find?_eq_none] at q;exact absurd (decide_eq_true e) (q c hc)
  | some d=>
   have h1:=List.find?_some q
   have h2:=List.mem_of_find?_eq_some q
   simp only[decide_eq_true_eq] at h1
   rw[h.inj h2 hc (by rw[h1,e])]
 rw[this]
theorem J3{p:PtD}{L M:List Zb}{c:Zb}(h:Xr p L=some (c,M)):c∈L∧pt c=p∧M=L.filter fun c=>decide (pt c≠p):=by
 unfold Xr at h
 split at h
 ·cases h
 ·rename_i d q
  simp only[Option.some.injEq,Prod.mk.injEq] at h
  obtain⟨rfl,rfl⟩:=h
  have h1:=List.find?_some q
  simp only[decide_eq_true_eq] at h1
  exact⟨List.mem_of_find?_eq_some q,h1,rfl⟩
theorem Zbs{p:PtD}{L:List Zb}(h:Srt L)(hl:pos p L<L.length)(e:pt L[pos p L]=p):Xr p L=some (L[pos p L],L.take (pos p L)++L.drop (pos p L+1)):=by
 rw[Kw h (List.getElem_mem hl) e]
 obtain⟨h1,h2⟩:=V7 (p:=p) h
 have h3:=List.drop_eq_getElem_cons hl
 rw[h2] at h3
 have hs:Srt (L[pos p L] :: L.drop (pos p L+1)):=by rw[←h3];exact h.filter _
 have e1:L.filter (fun c=>decide (pt c≠p))=L.take (pos p L)++L.drop (pos p L+1):=by
  have e2:L=L.take (pos p L)++(L[pos p L] :: L.drop (pos p L+1)):=by rw[←List.drop_eq_getElem_cons hl,List.take_append_drop]
  have e3:L.filter (fun c=>decide (pt c≠p))=(L.take (pos p L)++(L[pos p L] :: L.drop (pos p L+1))).filter (fun c=>decide (pt c≠p)):=congrArg _ e2
  rw[e3,List.filter_append,List.filter_cons_of_neg (by simp[e])]
  congr 1
  ·rw[List.filter_eq_self]
   intro x hx
   rw[h1,List.mem_filter] at hx
   exact decide_eq_true (Qw hx.2)
  ·rw[List.filter_eq_self]
   intro x hx
   have:=hs.head x hx
   rw[e] at this
   exact decide_eq_true (Ne.symm (Qw this))
 rw[e1]
theorem Ci{c:Zb}{L:List Zb}(h:Srt L)(hn:Yv (pt c) L=false):Xy c L=L.take (pos (pt c) L)++c :: L.drop (pos (pt c) L):=by
 obtain⟨h1,h2⟩:=V7 (p:=pt c) h
 unfold Xy
 rw[h1,h2]
 congr 2
 refine List.filter_congr fun x hx=>?_
 rw[Bool.eq_iff_iff]
 rcases Mt (pt x) (pt c) with q|q|q
 ·simp[q,Ja q]
 ·rw[←Bool.not_eq_true,Wv] at hn
  exact absurd ⟨x,hx,q⟩ hn
 ·simp[q,Ja q]
open Go.RowKit
def cnV(x:Zb)(a:Option Addr)(n c:Nat):Value:=.agg #[.int .i64 x.1,.int .i64 x.2.1,.int .i64 (cv x),.slice a n c,.int .i64 (ch x),.bool (cr x)]
def CoinAt(w:World)(b o:Nat)(x:Zb):Prop:=
 w.cell? ⟨b,o,none⟩=some (.int .i64 x.1)∧w.cell? ⟨b,o+1,none⟩=some (.int .i64 x.2.1)∧w.cell? ⟨b,o+2,none⟩=some (.int .i64 (cv x)) ∧
 (∃ a n c,w.cell? ⟨b,o+3,none⟩=some (.slice a n c)∧OpsAt w a n (ck x)∧SlOk a n c) ∧
 w.cell? ⟨b,o+4,none⟩=some (.int .i64 (ch x))∧w.cell? ⟨b,o+5,none⟩=some (.bool (cr x))
theorem CoinAt.kept:F9 CoinAt:=fun _ _ _ _ _ hb h=>by
 obtain⟨h1,h2,h3,⟨a,n,c,h4,h5,h6⟩,h7,h8⟩:=h
 exact⟨cell_later hb h1,cell_later hb h2,cell_later hb h3,⟨a,n,c,cell_later hb h4,h5.later hb,h6⟩,cell_later hb h7,cell_later hb h8⟩
def CoinsAt(w:World)(a:Option Addr)(len:Nat)(l:List Zb):Prop:=RowsAt CoinAt 6 w a len l
theorem CoinsAt.later{w w':World}{a:Option Addr}{len:Nat}{l:List Zb}(h:CoinsAt w a len l)(hb:Below w.heap.size w w'):CoinsAt w' a len l:=RowsAt.later CoinAt.kept h hb
theorem Jk(w:World)(a b c d e f:Value)(t:TypeId):(w.alloc (.cells #[a,b,c,d,e,f] t)).cell? ⟨w.heap.size,0,none⟩=some a∧(w.alloc (.cells #[a,b,c,d,e,f] t)).cell? ⟨w.heap.size,1,none⟩=some b∧(w.alloc (.cells #[a,b,c,d,e,f] t)).cell? ⟨w.heap.size,2,none⟩=some c ∧
  (w.alloc (.cells #[a,b,c,d,e,f] t)).cell? ⟨w.heap.size,3,none⟩=some d∧(w.alloc (.cells #[a,b,c,d,e,f] t)).cell? ⟨w.heap.size,4,none⟩=some e∧(w.alloc (.cells #[a,b,c,d,e,f] t)).cell? ⟨w.heap.size,5,none⟩=some f:=by
 refine⟨?_,?_,?_,?_,?_,?_⟩ <;> (rw[World.cell?_alloc_at _ _ _ _ rfl];rfl)
def Pn(x y:Int):Int:=if x<y then -1 else if y<x then 1 else 0
theorem Ff(x:Int)(w:World):Calls Tryz.prog 174 #[.int .i64 x] w fun e w'=>e = .returned (.bool false)∧w=w':=by
 go_enter Tryz.func174,Tryz.ntmps174
 go_wp2
 go_ret
 exact⟨rfl,rfl⟩
theorem Kj(x y:Int)(w:World):Calls Tryz.prog 140 #[.int .i64 x,.int .i64 y] w fun e w'=>e = .returned (.int .i64 (Pn x y))∧w=w':=by
 have C1:=hide (Ff x)
 have C2:=hide (Ff y)
 by_cases h1:x<y
 ·have e:Pn x y = -1:=by simp[Pn,h1]
  rw[e]
  clear e
  go_enter Tryz.func140,Tryz.ntmps140
  go_wp2_with fail
  refine ((unhide C1) _).mono ?_
  rintro e w' ⟨rfl,rfl⟩
  go_wp2_with fail
  refine ((unhide C2) _).mono ?_
  rintro e w' ⟨rfl,rfl⟩
  go_wp2
  go_ret
  exact⟨rfl,rfl⟩
 ·by_cases h2:y<x
  ·have e:Pn x y=1:=by simp[Pn,h1,h2]
   rw[e]
   clear e
   go_enter Tryz.func140,Tryz.ntmps140
   go_wp2_with fail
   refine ((unhide C1) _).mono ?_
   rintro e w' ⟨rfl,rfl⟩
   go_wp2_with fail
   refine ((unhide C2) _).mono ?_
   rintro e w' ⟨rfl,rfl⟩
   go_wp2
   go_ret
   exact⟨rfl,rfl⟩
  ·have e:Pn x y=0:=by simp[Pn,h1,h2]
   rw[e]
   clear e
   go_enter Tryz.func140,Tryz.ntmps140
   go_wp2_with fail
   refine ((unhide C1) _).mono ?_
   rintro e w' ⟨rfl,rfl⟩
   go_wp2_with fail
   refine ((unhide C2) _).mono ?_
   rintro e w' ⟨rfl,rfl⟩
   go_wp2
   go_ret
   exact⟨rfl,rfl⟩
def orI(x y:Int):Int:=if x=0 then y else x
theorem Zeg(x y:Int)(b c:Nat)(w:World)(h1:w.cell? ⟨b,0,none⟩=some (.int .i64 x))(h2:w.cell? ⟨b,1,none⟩=some (.int .i64 y)) :
  Calls Tryz.prog 139 #[.slice (some ⟨b,0,none⟩) 2 c] w fun e w'=>e = .returned (.int .i64 (orI x y))∧w=w':=by
 by_cases hx:x=0
 ·subst hx
  by_cases hy:y=0
  ·subst hy
   have e:orI 0 0=0:=rfl
   rw[e]
   clear e
   go_enter Tryz.func139,Tryz.ntmps139
   go_wp2
   refine wp_loop_rounds 3 ?_
   rw[rounds_succ]
   go_wp2
   rw[rounds_succ]
   go_wp2
   rw[rounds_succ]
   go_wp2
   go_ret
   exact⟨rfl,rfl⟩
  ·have e:orI 0 y=y:=rfl
   rw[e]
   have gy:(y != 0)=true:=by simp[hy]
   clear e hy
   go_enter Tryz.func139,Tryz.ntmps139
   go_wp2
   refine wp_loop_rounds 2 ?_
   rw[rounds_succ]
   go_wp2
   rw[rounds_succ]
   go_wp2
   go_ret
   exact⟨rfl,rfl⟩
 ·have e:orI x y=x:=by simp[orI,hx]
  rw[e]
  have gx:(x != 0)=true:=by simp[hx]
  clear e hx
  go_enter Tryz.func139,Tryz.ntmps139
  go_wp2
  refine wp_loop_rounds 1 ?_
  rw[rounds_succ]
  go_wp2
  go_ret
  exact⟨rfl,rfl⟩
theorem Zgi(p q:PtD):orI (Pn p.1 q.1) (Pn p.2 q.2)=Pm p q:=by
 obtain⟨a,b⟩:=p
 obtain⟨c,d⟩:=q
 unfold orI Pn Pm lt
 simp only[Bool.or_eq_true,Bool.and_eq_true,decide_eq_true_eq,Prod.mk.injEq]
 repeat' split
 all_goals omega
theorem Yj(w:World)(x y:Value)(t:TypeId):(w.alloc (.cells #[x,y] t)).cell? ⟨w.heap.size,0,none⟩=some x∧(w.alloc (.cells #[x,y] t)).cell? ⟨w.heap.size,1,none⟩=some y:=
 ⟨by rw[World.cell?_alloc_at _ _ _ _ rfl];rfl,by rw[World.cell?_alloc_at _ _ _ _ rfl];rfl⟩
theorem Zc(w:World):Below w.heap.size w w.drew:=⟨rfl,rfl,rfl,Nat.le_refl _,fun _ _=>rfl⟩
theorem Rf(p q:PtD)(z:Int)(w:World)(hz:Pm p q=z) :
  Calls Tryz.prog 109 #[.agg #[.int .i64 p.1,.int .i64 p.2],.agg #[.int .i64 q.1,.int .i64 q.2]] w fun e w'=>e = .returned (.int .i64 z)∧Below w.heap.size w w':=by
 obtain⟨a,b⟩:=p
 obtain⟨c,d⟩:=q
 have e:=Zgi (a,b) (c,d)
 rw[hz] at e
 simp only at e ⊢
 have E:=hide e
 obtain⟨X,hX⟩:∃ X,X=(w.alloc (.cells #[.int .i64 a,.int .i64 b] 86)).alloc (.cells #[.int .i64 c,.int .i64 d] 86):=⟨_,rfl⟩
 have HB:Hid (Below w.heap.size w X):=by rw[hX];exact (bel_on (bel_new w (.cells #[.int .i64 a,.int .i64 b] 86)) (bel_new _ (.cells #[.int .i64 c,.int .i64 d] 86)))
 have x0:X.cell? ⟨w.heap.size,0,none⟩=some (.int .i64 a):=by rw[hX];exact cell_later (bel_new _ _) (Yj w _ _ _).1
 have x1:X.cell? ⟨w.heap.size,1,none⟩=some (.int .i64 b):=by rw[hX];exact cell_later (bel_new _ _) (Yj w _ _ _).2
 have x2:X.cell? ⟨w.heap.size+1,0,none⟩=some (.int .i64 c):=by rw[hX];have:=(Yj (w.alloc (.cells #[.int .i64 a,.int .i64 b] 86)) (.int .i64 c) (.int .i64 d) 86).1;simp at this ⊢
 have x3:X.cell? ⟨w.heap.size+1,1,none⟩=some (.int .i64 d):=by rw[hX];have:=(Yj (w.alloc (.cells #[.int .i64 a,.int .i64 b] 86)) (.int .i64 c) (.int .i64 d) 86).2;simp at this ⊢
 clear hz e
 go_enter Tryz.func109,Tryz.ntmps109
 go_wp2_with fail
 rw[←hX]
 clear hX
 go_region_held3 (fun w'=>Below X.heap.size X w'∧w'.cell? ⟨w.heap.size,0,none⟩=some (.int .i64 a)∧w'.cell? ⟨w.heap.size,1,none⟩=some (.int .i64 b)∧w'.cell? ⟨w.heap.size+1,0,none⟩=some (.int .i64 c)∧w'.cell? ⟨w.heap.size+1,1,none⟩=some (.int .i64 d))
  (first
  | exact⟨Zc _,x0,x1,x2,x3⟩
  | (go_split_ands;exact⟨by assumption,by assumption,by assumption,by assumption,by assumption⟩)
  | (go_split_ands;exact⟨bel_on (by assumption) (bel_new _ _),cell_later (bel_new _ _) (by assumption),cell_later (bel_new _ _) (by assumption),cell_later (bel_new _ _) (by assumption),cell_later (bel_new _ _) (by assumption)⟩))
  (first
  | (go_at_call 140;refine (Kj _ _ _).mono ?_;rintro e w' ⟨rfl,rfl⟩)
  | (go_at_call 139;refine (Zeg (Pn a c) (Pn b d) _ 2 _ ?_ ?_).mono ?_;exact (Yj _ _ _ _).1;exact (Yj _ _ _ _).2;rintro e w' ⟨rfl,rfl⟩))
 rename_i hH
 have HH:=hide (bel_on (unhide HB) hH.1)
 clear hH
 go_wp2
 go_ret
 exact⟨by rw[←unhide E];rfl,unhide HH⟩
theorem Vv(h:Int)(b:Bool)(w:World)(hb:okH h=b) :
  Calls Tryz.prog 110 #[.int .i64 h] w fun e w'=>e = .returned (.bool b)∧w=w':=by
 have C:=hide (within_is h 1 1000 b w (by rw[←hb];rfl))
 clear hb
 go_enter Tryz.func110,Tryz.ntmps110
 go_wp2_with fail
 refine (unhide C).mono ?_
 rintro e w' ⟨rfl,rfl⟩
 go_wp2
 go_ret
 exact⟨rfl,rfl⟩
theorem A8(a:Option Addr)(len cap:Nat)(l:List (Int×Int))(x:Int)(w:World)(hx:chk l=x)(h:OpsAt w a len l) :
  Calls Tryz.prog 138 #[.slice a len cap] w fun e w'=>e = .returned (.int .i64 x)∧Below w.heap.size w w':=by
 subst hx;exact Uc a len cap l w h
theorem Nf(x:Zb)(a:Option Addr)(n c:Nat)(z:Int)(w:World)(hO:OpsAt w a n (ck x))(hz:ck1 x=z) :
  Calls Tryz.prog 108 #[cnV x a n c] w fun e w'=>e = .returned (.int .i64 z)∧Below w.heap.size w w':=by
 obtain⟨x1,x2,x3,k,x4,x5⟩:=x
 unfold cnV
 simp only[cv,ck,ch,cr] at hO ⊢
 obtain⟨X,hX⟩:∃ X,X=w.alloc (.cells #[.int .i64 x1,.int .i64 x2,.int .i64 x3,.slice a n c,.int .i64 x4,.bool x5] 88):=⟨_,rfl⟩
 obtain⟨n0,n1,n2,n3,n4,n5⟩:=Jk w (.int .i64 x1) (.int .i64 x2) (.int .i64 x3) (.slice a n c) (.int .i64 x4) (.bool x5) 88
 rw[←hX] at n0 n1 n2 n3 n4 n5
 have hb:Below w.heap.size w X:=by rw[hX];exact bel_new _ _
 have HB:=hide hb
 have HO:=hide (hO.later hb)
 have N2:=hide n2
 have N3:=hide n3
 have N4:=hide n4
 clear hO hb n5
 cases hp:Zfn (x1,x2) with
 | false=>
  have e:z=3:=by rw[←hz];unfold ck1;rw[if_pos (by unfold okC pt;rw[hp];rfl)]
  subst e
  have C1:=hide (Ql x1 x2 false X hp)
  clear hp hz
  go_enter Tryz.func108,Tryz.ntmps108
  go_wp2_with fail
  rw[←hX]
  clear hX
  go_wp2_with fail
  refine (unhide C1).mono ?_
  rintro e w2 ⟨rfl,hb2⟩
  have HB2:=hide (bel_on (unhide HB) hb2)
  clear hb2
  go_wp2
  go_ret
  exact⟨rfl,unhide HB2⟩
 | true=>
  have C1:=hide (Ql x1 x2 true X hp)
  cases hv:okV x3 with
  | false=>
   have e:z=3:=by rw[←hz];unfold ck1;rw[if_pos (by unfold okC pt;rw[hp];simp only[cv];rw[hv];rfl)]
   subst e
   have C2:=hide (fun w=>within_is x3 1 1000000000 false w (by rw[←hv];rfl))
   clear hp hz hv
   go_enter Tryz.func108,Tryz.ntmps108
   go_wp2_with fail
   rw[←hX]
   clear hX
   go_wp2_with fail
   refine (unhide C1).mono ?_
   rintro e w2 ⟨rfl,hb2⟩
   have m2:=cell_later hb2 (unhide N2)
   have hs2:w.heap.size<w2.heap.size:=World.block_lt_of_cell? _ _ m2
   have HB2:=hide (bel_on (unhide HB) hb2)
   clear hb2
   go_wp2_with fail
   refine ((unhide C2) _).mono ?_
   rintro e w3 ⟨rfl,rfl⟩
   go_wp2
   go_ret
   exact⟨rfl,unhide HB2⟩
  | true=>
   have C2:=hide (fun w=>within_is x3 1 1000000000 true w (by rw[←hv];rfl))
   cases hh:okH x4 with
   | false=>
    have e:z=3:=by rw[←hz];unfold ck1;rw[if_pos (by unfold okC pt;rw[hp];simp only[cv,ch];rw[hv,hh];rfl)]
    subst e
    have C3:=hide (fun w=>Vv x4 false w hh)
    clear hp hz hv hh
    go_enter Tryz.func108,Tryz.ntmps108
    go_wp2_with fail
    rw[←hX]
    clear hX
    go_wp2_with fail
    refine (unhide C1).mono ?_
    rintro e w2 ⟨rfl,hb2⟩
    have m2:=cell_later hb2 (unhide N2)
    have m4:=cell_later hb2 (unhide N4)
    have hs2:w.heap.size<w2.heap.size:=World.block_lt_of_cell? _ _ m2
    have HB2:=hide (bel_on (unhide HB) hb2)
    clear hb2
    go_wp2_with fail
    refine ((unhide C2) _).mono ?_
    rintro e w3 ⟨rfl,rfl⟩
    go_wp2_with fail
    refine ((unhide C3) _).mono ?_
    rintro e w3 ⟨rfl,rfl⟩
    go_wp2
    go_ret
    exact⟨rfl,unhide HB2⟩
   | true=>
    have e:chk k=z:=by rw[←hz];unfold ck1;rw[if_neg (by unfold okC pt;rw[hp];simp only[cv,ch];rw[hv,hh];decide)];rfl
    have C3:=hide (fun w=>Vv x4 true w hh)
    have E:=hide e
    clear hp hz hv hh e
    go_enter Tryz.func108,Tryz.ntmps108
    go_wp2_with fail
    rw[←hX]
    clear hX
    go_wp2_with fail
    refine (unhide C1).mono ?_
    rintro e w2 ⟨rfl,hb2⟩
    have m2:=cell_later hb2 (unhide N2)
    have m3:=cell_later hb2 (unhide N3)
    have m4:=cell_later hb2 (unhide N4)
    have hs2:w.heap.size<w2.heap.size:=World.block_lt_of_cell? _ _ m2
    have C4:=hide (A8 a n c k z w2 (unhide E) ((unhide HO).later hb2))
    have HB2:=hide (bel_on (unhide HB) hb2)
    clear hb2
    go_wp2_with fail
    refine ((unhide C2) _).mono ?_
    rintro e w3 ⟨rfl,rfl⟩
    go_wp2_with fail
    refine ((unhide C3) _).mono ?_
    rintro e w3 ⟨rfl,rfl⟩
    go_wp2_with fail
    refine (unhide C4).mono ?_
    rintro e w4 ⟨rfl,hb4⟩
    have HB4:=hide (bel_on (unhide HB2) hb4)
    clear hb4
    go_wp2
    go_ret
    exact⟨rfl,unhide HB4⟩
end Go.Proofs.YtepmnpapdknocaaGreatDoor
