import Derived.Test.YtmomfkikogbdeaaGreatDoorG2
import Derived.Deep.RegionHeld3
import Derived.Laws.CopyOwn
import Derived.Lib.AppendZerosOnto
import Derived.Lib.Overlaps
set_option maxHeartbeats 6400000
set_option maxRecDepth 10000
namespace Go.Proofs.YtmomfkikogbdeaaGreatDoor
open Go.RowKit
theorem Cv(h:Int)(I:List InD)(O:List Z0)(ni:Nat)(hz:I.length=ni):Mm (h,I,O)=if ni=0 then decide (1≤h) && decide (h≤1000) else decide (h=0):=by
 unfold Mm;simp only[hz]
theorem Ub(h:Int)(ai ao:Option Addr)(ni ci no co:Nat)(I:List InD)(O:List Z0)(w:World)(hI:InsAt w ai ni I)(hO:OutsAt w ao no O)(sI:SlOk ai ni ci) :
  Calls Tryz.prog 152 #[.agg #[.int .i64 h,.slice ai ni ci,.slice ao no co]] w fun e w'=>e = .returned (.int .i64 (Zx (h,I,O)))∧Below w.heap.size w w':=by
 have hb:=Zi w (.cells #[.int .i64 h,.slice ai ni ci,.slice ao no co] 59)
 obtain⟨n0,n1,n2⟩:=Ut w (.int .i64 h) (.slice ai ni ci) (.slice ao no co) 59
 have HB:=Zb hb
 have N0:=Zb n0
 have N1:=Zb n1
 have N2:=Zb n2
 have HI:=Zb (hI.later hb)
 have HO:=Zb (hO.later hb)
 have HS:=Zb sI
 have zi:=hI.1
 have zo:=hO.1
 clear hb n0 n1 n2 hI hO sI
 by_cases h1:6<ni
 ·have e:Zx (h,I,O)=2:=by unfold Zx;rw[if_pos (Or.inl (by show 6<I.length;omega))]
  rw[e]
  have g:(6:Int)<(ni:Int):=by omega
  clear e h1 zi zo
  go_enter Tryz.func152,Tryz.ntmps152
  go_wp2
  go_ret
  exact⟨rfl,Za HB⟩
 ·by_cases h2:6<no
  ·have e:Zx (h,I,O)=2:=by unfold Zx;rw[if_pos (Or.inr (by show 6<O.length;omega))]
   rw[e]
   have g:¬(6:Int)<(ni:Int):=by omega
   have g':(6:Int)<(no:Int):=by omega
   clear e h1 h2 zi zo
   go_enter Tryz.func152,Tryz.ntmps152
   go_wp2
   go_ret
   exact⟨rfl,Za HB⟩
  ·have g:¬(6:Int)<(ni:Int):=by omega
   have g':¬(6:Int)<(no:Int):=by omega
   have e1:¬(6<I.length∨6<O.length):=by omega
   by_cases h3:no=0
   ·have e:Zx (h,I,O)=4:=by unfold Zx;rw[if_neg e1,if_pos (by show O.length=0;omega)]
    rw[e]
    subst h3
    clear e e1 h1 h2 zi zo
    go_enter Tryz.func152,Tryz.ntmps152
    go_wp2
    go_ret
    exact⟨rfl,Za HB⟩
   ·have g3:((no:Int) == 0)=false:=by simp;omega
    have e3:¬O.length=0:=by omega
    cases hf:Mm (h,I,O) with
    | false=>
     have e:Zx (h,I,O)=3:=by unfold Zx;rw[if_neg e1,if_neg e3,if_pos hf]
     rw[e]
     have C:=Zb (J4 h ai ao ni ci no co false (w.alloc (.cells #[.int .i64 h,.slice ai ni ci,.slice ao no co] 59)) (by rw[←Cv h I O ni zi];exact hf))
     clear e e1 e3 h1 h2 h3 zi zo hf
     go_enter Tryz.func152,Tryz.ntmps152
     go_wp2_with fail
     refine (Za C).mono ?_
     rintro e w2 ⟨rfl,hb2⟩
     have HB2:=Zb (Zf (Za HB) hb2)
     clear hb2
     go_wp2
     go_ret
     exact⟨rfl,Za HB2⟩
    | true=>
     have C:=Zb (J4 h ai ao ni ci no co true (w.alloc (.cells #[.int .i64 h,.slice ai ni ci,.slice ao no co] 59)) (by rw[←Cv h I O ni zi];exact hf))
     have e4:¬Mm (h,I,O)=false:=by rw[hf];decide
     by_cases h5:Yj [] I=0
     ·obtain⟨z,hz⟩:∃ z,Yn O=z:=⟨_,rfl⟩
      have e:Zx (h,I,O)=z:=by
       unfold Zx;rw[if_neg e1,if_neg e3,if_neg e4,if_neg (by intro q;exact q h5)];exact hz
      rw[e]
      have H5:=Zb h5
      have HZ:=Zb hz
      have H6i:Hid (ni≤6):=by show _≤_;omega
      have H6o:Hid (no≤6∧0<no):=⟨by omega,by omega⟩
      clear e e1 e3 e4 h1 h2 h3 zi zo hf h5 hz
      go_enter Tryz.func152,Tryz.ntmps152
      go_wp2_with fail
      refine (Za C).mono ?_
      rintro e w2 ⟨rfl,hb2⟩
      have m1:=Ze hb2 (Za N1)
      have M2:=Zb (Ze hb2 (Za N2))
      have hs2:w.heap.size<w2.heap.size:=World.block_lt_of_cell? _ _ m1
      have CI:=Zb (Pg ai ni ci I 0 w2 (Za H6i) (Za HS) ((Za HI).later hb2) (Za H5))
      have HB2:=Zb hb2
      clear hb2
      go_wp2_with fail
      refine (Za CI).mono ?_
      rintro e w3 ⟨rfl,hb3⟩
      have m2:=Ze hb3 (Za M2)
      have hs3:w.heap.size<w3.heap.size:=World.block_lt_of_cell? _ _ m2
      have CO:=Zb (Mz ao no co O z w3 (Za H6o).1 (Za H6o).2 (((Za HO).later (Za HB2)).later hb3) (Za HZ))
      have HB3:=Zb (Zf (Zf (Za HB) (Za HB2)) hb3)
      clear hb3 m1 hs2
      go_wp2_with fail
      refine (Za CO).mono ?_
      rintro e w4 ⟨rfl,hb4⟩
      have HB4:=Zb (Zf (Za HB3) hb4)
      clear hb4
      go_wp2
      go_ret
      exact⟨rfl,Za HB4⟩
     ·obtain⟨z,hz⟩:∃ z,Yj [] I=z:=⟨_,rfl⟩
      have e:Zx (h,I,O)=z:=by
       unfold Zx;rw[if_neg e1,if_neg e3,if_neg e4,if_pos h5];exact hz
      rw[e]
      have HZ:=Zb hz
      rw[hz] at h5
      have gz:(z != 0)=true:=by simp[h5]
      have H6i:Hid (ni≤6):=by show _≤_;omega
      clear e e1 e3 e4 h1 h2 h3 zi zo hf h5 hz
      go_enter Tryz.func152,Tryz.ntmps152
      go_wp2_with fail
      refine (Za C).mono ?_
      rintro e w2 ⟨rfl,hb2⟩
      have m1:=Ze hb2 (Za N1)
      have hs2:w.heap.size<w2.heap.size:=World.block_lt_of_cell? _ _ m1
      have CI:=Zb (Pg ai ni ci I z w2 (Za H6i) (Za HS) ((Za HI).later hb2) (Za HZ))
      have HB2:=Zb hb2
      clear hb2
      go_wp2_with fail
      refine (Za CI).mono ?_
      rintro e w3 ⟨rfl,hb3⟩
      have HB3:=Zb (Zf (Zf (Za HB) (Za HB2)) hb3)
      clear hb3
      go_wp2
      go_ret
      exact⟨rfl,Za HB3⟩
abbrev Zh:=Int×Int×Int×List (Int×Int)×Int×Bool
abbrev PtD:=Int×Int
def pt(c:Zh):PtD:=(c.1,c.2.1)
def cv(c:Zh):Int:=c.2.2.1
def ck(c:Zh):List (Int×Int):=c.2.2.2.1
def ch(c:Zh):Int:=c.2.2.2.2.1
def cr(c:Zh):Bool:=c.2.2.2.2.2
def lt(p q:PtD):Bool:=decide (p.1<q.1) || (decide (p.1=q.1) && decide (p.2<q.2))
theorem Sh(p q:PtD):lt p q=true↔p.1<q.1∨p.1=q.1∧p.2<q.2:=by simp[lt]
theorem Sg(p:PtD):lt p p=false:=by
 rw[←Bool.not_eq_true,Sh];omega
theorem lt_trans{p q r:PtD}(h1:lt p q=true)(h2:lt q r=true):lt p r=true:=by
 rw[Sh] at *;omega
theorem G9{p q:PtD}(h1:lt p q=true):lt q p=false:=by
 rw[←Bool.not_eq_true,Sh];rw[Sh] at h1;omega
theorem Zdn(p q:PtD):lt p q=true∨p=q∨lt q p=true:=by
 rw[Sh,Sh,Prod.ext_iff];omega
theorem Tg{p q:PtD}(h:lt p q=true):p≠q:=fun e=>by
 subst e;rw[Sg] at h;exact Bool.noConfusion h
def Pp(p q:PtD):Int:=if lt p q then -1 else if p=q then 0 else 1
theorem Mo{p q:PtD}:Pp p q<0↔lt p q=true:=by
 unfold Pp;split
 ·simp[*]
 ·split
  ·rename_i h e;subst e;simp[Sg]
  ·simp[*]
theorem Zgs{p q:PtD}:Pp p q=0↔p=q:=by
 unfold Pp;split
 ·rename_i h;simp[Tg h]
 ·split <;> simp[*]
def Srt(L:List Zh):Prop:=L.Pairwise fun a b=>lt (pt a) (pt b)=true
theorem Srt.tail{c:Zh}{L:List Zh}(h:Srt (c :: L)):Srt L:=(List.pairwise_cons.1 h).2
theorem Srt.head{c:Zh}{L:List Zh}(h:Srt (c :: L)):∀ x∈L,lt (pt c) (pt x)=true:=(List.pairwise_cons.1 h).1
theorem Srt.inj{L:List Zh}(h:Srt L):∀ {x y:Zh},x∈L→y∈L→pt x=pt y→x=y:=by
 induction L with
 | nil=>intro x y hx;cases hx
 | cons c L ih=>
  intro x y hx hy e
  rcases List.mem_cons.1 hx with rfl|hx <;> rcases List.mem_cons.1 hy with rfl|hy
  ·rfl
  ·exact absurd e (Tg (h.head y ‹y∈L›))
  ·exact absurd e.symm (Tg (h.head x ‹x∈L›))
  ·exact ih h.tail hx hy e
theorem Srt.ext:∀ {L M:List Zh},Srt L→Srt M→(∀ x,x∈L↔x∈M)→L=M
 | [],[],_,_,_=>rfl
 | [],c :: M,_,_,h=>absurd ((h c).2 (List.mem_cons_self ..)) (by simp)
 | c :: L,[],_,_,h=>absurd ((h c).1 (List.mem_cons_self ..)) (by simp)
 | c :: L,d :: M,h1,h2,h=>by
  have e:c=d:=by
   rcases List.mem_cons.1 ((h c).1 (List.mem_cons_self ..)) with e|e
   ·exact e
   rcases List.mem_cons.1 ((h d).2 (List.mem_cons_self ..)) with f|f
   ·exact f.symm
   ·have g:=G9 (h2.head _ e)
    rw[h1.head _ f] at g
    exact Bool.noConfusion g
  subst e
  rw[Srt.ext h1.tail h2.tail fun x=>⟨fun hx=>?_,fun hx=>?_⟩]
  ·rcases List.mem_cons.1 ((h x).1 (List.mem_cons_of_mem _ hx)) with rfl|q
   ·exact absurd rfl (Tg (h1.head _ hx))
   ·exact q
  ·rcases List.mem_cons.1 ((h x).2 (List.mem_cons_of_mem _ hx)) with rfl|q
   ·exact absurd rfl (Tg (h2.head _ hx))
   ·exact q
def Zie(p:PtD):Bool:=(decide (1≤p.1) && decide (p.1≤120)) && (decide (0≤p.2) && decide (p.2≤5))
def okV(n:Int):Bool:=decide (1≤n) && decide (n≤1000000000)
def okH(n:Int):Bool:=decide (1≤n) && decide (n≤1000)
def okC(c:Zh):Bool:=Zie (pt c) && (okV (cv c) && okH (ch c))
def ck1(c:Zh):Int:=if okC c=false then 3 else chk (ck c)
theorem Yp{c:Zh}(h:ck1 c=0):1≤c.1∧c.1≤120∧0≤c.2.1∧c.2.1≤5∧1≤cv c∧cv c≤1000000000∧1≤ch c∧ch c≤1000∧chk (ck c)=0:=by
 unfold ck1 at h
 split at h
 ·cases h
 ·rename_i q
  simp only[Bool.not_eq_false,okC,Zie,okV,okH,pt,Bool.and_eq_true,decide_eq_true_eq] at q
  exact⟨of_decide_eq_true q.1.1.1,of_decide_eq_true q.1.1.2,of_decide_eq_true q.1.2.1,of_decide_eq_true q.1.2.2,q.2.1.1,q.2.1.2,q.2.2.1,q.2.2.2,h⟩
def Tx(p:Option PtD)(c:Zh):Bool:=match p with|none=>true|some p=>lt p (pt c)
def Y5:Option PtD→Int→List Zh→Int
 | _,_,[]=>0
 | p,s,c :: r=>if ck1 c≠0 then ck1 c else if Tx p c=false then 6 else if 1000000000<s+cv c then 12 else Y5 (some (pt c)) (s+cv c) r
def Zy(L:List Zh):Int:=if 720<L.length then 2 else Y5 none 0 L
def Ja(L:List Zh)(k:Nat):Option PtD:=if k=0 then none else (L[k - 1]?).map pt
def Zo(L:List Zh):Int:=(L.map cv).sum
def Yw(L:List Z0):Int:=(L.map (·.1)).sum
theorem Ga:Zo []=0:=rfl
theorem Y0(c:Zh)(L:List Zh):Zo (c :: L)=cv c+Zo L:=by simp[Zo]
theorem Xg(L M:List Zh):Zo (L++M)=Zo L+Zo M:=by simp[Zo]
theorem Tz(L:List Zh)(k:Nat)(h:k<L.length):Zo (L.take (k+1))=Zo (L.take k)+cv L[k]:=by
 rw[List.take_succ_eq_append_getElem h,Xg,Y0,Ga];omega
theorem K9(L:List Z0)(k:Nat)(h:k<L.length):Yw (L.take (k+1))=Yw (L.take k)+L[k].1:=by
 rw[List.take_succ_eq_append_getElem h];unfold Yw;rw[List.map_append,List.sum_append];simp
theorem Gl(L:List Zh)(k:Nat)(h:k<L.length):Ja L (k+1)=some (pt L[k]):=by
 unfold Ja;rw[if_neg (by omega)];simp[h]
theorem Zgv(L:List Zh)(k:Nat)(h:k<L.length)(p:Option PtD)(s:Int):Y5 p s (L.drop k)=if ck1 L[k]≠0 then ck1 L[k] else if Tx p L[k]=false then 6 else if 1000000000<s+cv L[k] then 12 else Y5 (some (pt L[k])) (s+cv L[k]) (L.drop (k+1)):=by
 rw[List.drop_eq_getElem_cons h,Y5]
theorem Zef(L:List Zh)(k:Nat)(h:L.length≤k)(p:Option PtD)(s:Int):Y5 p s (L.drop k)=0:=by
 rw[List.drop_of_length_le h,Y5]
theorem Zeg{c:Zh}{r:List Zh}{p:Option PtD}{s:Int}(h:ck1 c≠0):Y5 p s (c :: r)=ck1 c:=by rw[Y5,if_pos h]
theorem Br{c:Zh}{r:List Zh}{p:Option PtD}{s:Int}(h:ck1 c=0)(h2:Tx p c=false):Y5 p s (c :: r)=6:=by
 rw[Y5,if_neg (by rw[h];decide),if_pos h2]
theorem Zbb{c:Zh}{r:List Zh}{p:Option PtD}{s:Int}(h:ck1 c=0)(h2:Tx p c=true)(h3:1000000000<s+cv c):Y5 p s (c :: r)=12:=by
 rw[Y5,if_neg (by rw[h];decide),if_neg (by rw[h2];decide),if_pos h3]
theorem Zgu{c:Zh}{r:List Zh}{p:Option PtD}{s:Int}(h:ck1 c=0)(h2:Tx p c=true)(h3:¬1000000000<s+cv c):Y5 p s (c :: r)=Y5 (some (pt c)) (s+cv c) r:=by
 rw[Y5,if_neg (by rw[h];decide),if_neg (by rw[h2];decide),if_neg h3]
theorem X4:∀ (L:List Zh),(∀ c∈L,0≤cv c)→0≤Zo L
 | [],_=>Int.le_refl _
 | c :: r,h=>by
  rw[Y0]
  have h1:=h c (List.mem_cons_self ..)
  have h2:=X4 r fun x hx=>h x (List.mem_cons_of_mem _ hx)
  omega
theorem Lv:∀ (L:List Zh) (p:Option PtD) (s:Int),0≤s→s≤1000000000→(Y5 p s L=0↔(∀ c∈L,ck1 c=0)∧Srt L∧(∀ c∈L,Tx p c=true)∧s+Zo L≤1000000000)
 | [],p,s,_,h=>by simp[Y5,Srt,Zo,h]
 | c :: r,p,s,h0,h=>by
  by_cases h1:ck1 c=0
  ·have hv:1≤cv c:=(Yp h1).2.2.2.2.1
   cases h2:Tx p c with
   | false=>
    rw[Br h1 h2]
    refine⟨fun e=>(by cases e),fun e=>?_⟩
    have:=e.2.2.1 c (List.mem_cons_self ..)
    rw[h2] at this;exact Bool.noConfusion this
   | true=>
    by_cases h3:1000000000<s+cv c
    ·rw[Zbb h1 h2 h3]
     refine⟨fun e=>(by cases e),fun e=>?_⟩
     have h4:0≤Zo r:=X4 r fun x hx=>by
      have:=(Yp (e.1 x (List.mem_cons_of_mem _ hx))).2.2.2.2.1
      omega
     have h5:=e.2.2.2
     rw[Y0] at h5
     omega
    ·rw[Zgu h1 h2 h3,Lv r (some (pt c)) (s+cv c) (by omega) (by omega),Y0]
     constructor
     ·rintro ⟨a1,a2,a3,a4⟩
      refine⟨fun x hx=>?_,List.pairwise_cons.2 ⟨fun x hx=>a3 x hx,a2⟩,fun x hx=>?_,by omega⟩
      ·rcases List.mem_cons.1 hx with rfl|hx
       ·exact h1
       ·exact a1 x hx
      ·rcases List.mem_cons.1 hx with rfl|hx
       ·exact h2
       ·cases p with
        | none=>rfl
        | some p=>exact lt_trans h2 (a3 x hx)
     ·rintro ⟨a1,a2,a3,a4⟩
      exact⟨fun x hx=>a1 x (List.mem_cons_of_mem _ hx),Srt.tail a2,fun x hx=>Srt.head a2 x hx,by omega⟩
  ·rw[Zeg h1]
   exact⟨fun e=>absurd e h1,fun e=>absurd (e.1 c (List.mem_cons_self ..)) h1⟩
structure Z6(L:List Zh):Prop where
 len:L.length≤720
 one:∀ c∈L,ck1 c=0
 srt:Srt L
 sum:Zo L≤1000000000
theorem Zz(L:List Zh):Zy L=0↔Z6 L:=by
 unfold Zy
 by_cases h:720<L.length
 ·rw[if_pos h];exact⟨fun e=>(by cases e),fun e=>absurd e.len (by omega)⟩
 ·rw[if_neg h,Lv L none 0 (by omega) (by omega)]
  exact⟨fun ⟨a,b,_,c⟩=>⟨by omega,a,b,by omega⟩,fun e=>⟨e.one,e.srt,fun _ _=>rfl,by have:=e.sum;omega⟩⟩
def pos(p:PtD)(L:List Zh):Nat:=L.countP fun c=>lt (pt c) p
def We(p:PtD)(L:List Zh):Bool:=L.any fun c=>decide (pt c=p)
def Vu(p:PtD)(L:List Zh):Option (Zh×List Zh):=
 match L.find? (fun c=>decide (pt c=p)) with|none=>none|some c=>some (c,L.filter fun c=>decide (pt c≠p))
def Sd(c:Zh)(L:List Zh):List Zh:=L.filter (fun x=>lt (pt x) (pt c))++c :: L.filter fun x=>lt (pt c) (pt x)
theorem Srt.filter{L:List Zh}(h:Srt L)(f:Zh→Bool):Srt (L.filter f):=List.Pairwise.filter f h
theorem Je(p:PtD)(L:List Zh):We p L=true↔∃ c∈L,pt c=p:=by simp[We]
theorem G5{c x:Zh}{L:List Zh}(h:We (pt c) L=false):x∈Sd c L↔x=c∨x∈L:=by
 unfold Sd
 rw[List.mem_append,List.mem_cons,List.mem_filter,List.mem_filter]
 constructor
 ·rintro (⟨a,_⟩|rfl|⟨a,_⟩)
  ·exact .inr a
  ·exact .inl rfl
  ·exact .inr a
 ·rintro (rfl|a)
  ·exact .inr (.inl rfl)
  ·rcases Zdn (pt x) (pt c) with q|q|q
   ·exact .inl ⟨a,q⟩
   ·rw[←Bool.not_eq_true,Je] at h
    exact absurd ⟨x,a,q⟩ h
   ·exact .inr (.inr ⟨a,q⟩)
theorem R9{c:Zh}{L:List Zh}(h:Srt L):Srt (Sd c L):=by
 unfold Sd Srt
 rw[List.pairwise_append]
 refine⟨h.filter _,List.pairwise_cons.2 ⟨fun x hx=>(List.mem_filter.1 hx).2,h.filter _⟩,fun a ha b hb=>?_⟩
 have h1:=(List.mem_filter.1 ha).2
 rcases List.mem_cons.1 hb with rfl|hb
 ·exact h1
 ·exact lt_trans h1 (List.mem_filter.1 hb).2
theorem Vp{p:PtD}:∀ {L:List Zh},Srt L→L.take (pos p L)=L.filter (fun x=>lt (pt x) p)∧L.drop (pos p L)=L.filter (fun x=>!lt (pt x) p)
 | [],_=>by simp[pos]
 | c :: L,h=>by
  obtain⟨h1,h2⟩:=Vp (p:=p) h.tail
  unfold pos at *
  cases hc:lt (pt c) p with
  | true=>
   rw[List.countP_cons_of_pos (by simpa using hc),List.filter_cons_of_pos (by simpa using hc),List.filter_cons_of_neg (by simp[hc]),List.take_succ_cons,List.drop_succ_cons,h1,h2]
   exact⟨rfl,rfl⟩
  | false=>
   have h3:∀ x∈L,lt (pt x) p=false:=fun x hx=>by
    rw[←Bool.not_eq_true]
    intro q
    rw[lt_trans (h.head x hx) q] at hc
    exact Bool.noConfusion hc
   have e:(c :: L).countP (fun c=>lt (pt c) p)=0:=by
    rw[List.countP_eq_zero]
    intro x hx
    rcases List.mem_cons.1 hx with rfl|hx
    ·simp[hc]
    ·simp[h3 x hx]
   rw[e,List.take_zero,List.drop_zero]
   constructor
   ·symm;rw[List.filter_eq_nil_iff]
    intro x hx
    rcases List.mem_cons.1 hx with rfl|hx
    ·simp[hc]
    ·simp[h3 x hx]
   ·symm;rw[List.filter_eq_self]
    intro x hx
    rcases List.mem_cons.1 hx with rfl|hx
    ·simp[hc]
    ·simp[h3 x hx]
theorem Zco(p:PtD)(L:List Zh):pos p L≤L.length:=List.countP_le_length ..
theorem Dt{p:PtD}{L:List Zh}(h:Srt L):We p L=(decide (pos p L<L.length) && decide ((L[pos p L]?).map pt=some p)):=by
 obtain⟨h1,h2⟩:=Vp (p:=p) h
 rw[Bool.eq_iff_iff,Je,Bool.and_eq_true,decide_eq_true_eq,decide_eq_true_eq]
 constructor
 ·rintro ⟨c,hc,e⟩
  have hd:c∈L.drop (pos p L):=by rw[h2,List.mem_filter];exact⟨hc,by rw[e,Sg];rfl⟩
  have hl:pos p L<L.length:=by
   rcases Nat.lt_or_ge (pos p L) L.length with q|q
   ·exact q
   ·rw[List.drop_of_length_le q] at hd;cases hd
  refine⟨hl,?_⟩
  have hs:Srt (L.drop (pos p L)):=by rw[h2];exact h.filter _
  rw[List.drop_eq_getElem_cons hl] at hd hs
  rw[List.getElem?_eq_getElem hl,Option.map_some]
  rcases List.mem_cons.1 hd with rfl|q
  ·rw[e]
  ·have g:=hs.head c q
   have h3:L[pos p L]∈L.drop (pos p L):=by rw[List.drop_eq_getElem_cons hl];exact List.mem_cons_self ..
   rw[h2,List.mem_filter] at h3
   rw[e] at g
   rw[g] at h3
   exact absurd h3.2 (by decide)
 ·rintro ⟨hl,e⟩
  rw[List.getElem?_eq_getElem hl,Option.map_some,Option.some.injEq] at e
  exact⟨L[pos p L],List.getElem_mem hl,e⟩
theorem F4{p:PtD}{L:List Zh}(h:We p L=false):Vu p L=none:=by
 unfold Vu
 have:L.find? (fun c=>decide (pt c=p))=none:=by
  rw[List.find?_eq_none]
  intro x hx
  rw[←Bool.not_eq_true,Je] at h
  simp only[decide_eq_true_eq]
  exact fun e=>h ⟨x,hx,e⟩
 rw[this]
theorem K8{p:PtD}{L:List Zh}(h:Srt L){c:Zh}(hc:c∈L)(e:pt c=p):Vu p L=some (c,L.filter fun c=>decide (pt c≠p)):=by
 unfold Vu
 have:L.find? (fun c=>decide (pt c=p))=some c:=by
  cases q:L.find? (fun c=>decide (pt c=p)) with
  | none=>rw[List.find?_eq_none] at q;exact absurd (decide_eq_true e) (q c hc)
  | some d=>
   have h1:=List.find?_some q
   have h2:=List.mem_of_find?_eq_some q
   simp only[decide_eq_true_eq] at h1
   rw[h.inj h2 hc (by rw[h1,e])]
 rw[this]
theorem Rd{p:PtD}{L M:List Zh}{c:Zh}(h:Vu p L=some (c,M)):c∈L∧pt c=p∧M=L.filter fun c=>decide (pt c≠p):=by
 unfold Vu at h
 split at h
 ·cases h
 ·rename_i d q
  simp only[Option.some.injEq,Prod.mk.injEq] at h
  obtain⟨rfl,rfl⟩:=h
  have h1:=List.find?_some q
  simp only[decide_eq_true_eq] at h1
  exact⟨List.mem_of_find?_eq_some q,h1,rfl⟩
theorem Zby{p:PtD}{L:List Zh}(h:Srt L)(hl:pos p L<L.length)(e:pt L[pos p L]=p):Vu p L=some (L[pos p L],L.take (pos p L)++L.drop (pos p L+1)):=by
 rw[K8 h (List.getElem_mem hl) e]
 obtain⟨h1,h2⟩:=Vp (p:=p) h
 have h3:=List.drop_eq_getElem_cons hl
 rw[h2] at h3
 have hs:Srt (L[pos p L] :: L.drop (pos p L+1)):=by rw[←h3];exact h.filter _
 have e1:L.filter (fun c=>decide (pt c≠p))=L.take (pos p L)++L.drop (pos p L+1):=by
  have e2:L=L.take (pos p L)++(L[pos p L] :: L.drop (pos p L+1)):=by rw[←List.drop_eq_getElem_cons hl,List.take_append_drop]
  have e3:L.filter (fun c=>decide (pt c≠p))=(L.take (pos p L)++(L[pos p L] :: L.drop (pos p L+1))).filter (fun c=>decide (pt c≠p)):=congrArg _ e2
  rw[e3,List.filter_append,List.filter_cons_of_neg (by simp[e])]
  congr 1
  ·rw[List.filter_eq_self]
   intro x hx
   rw[h1,List.mem_filter] at hx
   exact decide_eq_true (Tg hx.2)
  ·rw[List.filter_eq_self]
   intro x hx
   have:=hs.head x hx
   rw[e] at this
   exact decide_eq_true (Ne.symm (Tg this))
 rw[e1]
theorem Co{c:Zh}{L:List Zh}(h:Srt L)(hn:We (pt c) L=false):Sd c L=L.take (pos (pt c) L)++c :: L.drop (pos (pt c) L):=by
 obtain⟨h1,h2⟩:=Vp (p:=pt c) h
 unfold Sd
 rw[h1,h2]
 congr 2
 refine List.filter_congr fun x hx=>?_
 rw[Bool.eq_iff_iff]
 rcases Zdn (pt x) (pt c) with q|q|q
 ·simp[q,G9 q]
 ·rw[←Bool.not_eq_true,Je] at hn
  exact absurd ⟨x,hx,q⟩ hn
 ·simp[q,G9 q]
def cnV(x:Zh)(a:Option Addr)(n c:Nat):Value:=.agg #[.int .i64 x.1,.int .i64 x.2.1,.int .i64 (cv x),.slice a n c,.int .i64 (ch x),.bool (cr x)]
def CoinAt(w:World)(b o:Nat)(x:Zh):Prop:=
 w.cell? ⟨b,o,none⟩=some (.int .i64 x.1)∧w.cell? ⟨b,o+1,none⟩=some (.int .i64 x.2.1)∧w.cell? ⟨b,o+2,none⟩=some (.int .i64 (cv x)) ∧
 (∃ a n c,w.cell? ⟨b,o+3,none⟩=some (.slice a n c)∧OpsAt w a n (ck x)∧SlOk a n c) ∧
 w.cell? ⟨b,o+4,none⟩=some (.int .i64 (ch x))∧w.cell? ⟨b,o+5,none⟩=some (.bool (cr x))
theorem CoinAt.kept:L5 CoinAt:=fun _ _ _ _ _ hb h=>by
 obtain⟨h1,h2,h3,⟨a,n,c,h4,h5,h6⟩,h7,h8⟩:=h
 exact⟨Ze hb h1,Ze hb h2,Ze hb h3,⟨a,n,c,Ze hb h4,h5.later hb,h6⟩,Ze hb h7,Ze hb h8⟩
def CoinsAt(w:World)(a:Option Addr)(len:Nat)(l:List Zh):Prop:=RowsAt CoinAt 6 w a len l
theorem CoinsAt.later{w w':World}{a:Option Addr}{len:Nat}{l:List Zh}(h:CoinsAt w a len l)(hb:Below w.heap.size w w'):CoinsAt w' a len l:=RowsAt.later CoinAt.kept h hb
theorem R6(w:World)(a b c d e f:Value)(t:TypeId):(w.alloc (.cells #[a,b,c,d,e,f] t)).cell? ⟨w.heap.size,0,none⟩=some a∧(w.alloc (.cells #[a,b,c,d,e,f] t)).cell? ⟨w.heap.size,1,none⟩=some b∧(w.alloc (.cells #[a,b,c,d,e,f] t)).cell? ⟨w.heap.size,2,none⟩=some c ∧
  (w.alloc (.cells #[a,b,c,d,e,f] t)).cell? ⟨w.heap.size,3,none⟩=some d∧(w.alloc (.cells #[a,b,c,d,e,f] t)).cell? ⟨w.heap.size,4,none⟩=some e∧(w.alloc (.cells #[a,b,c,d,e,f] t)).cell? ⟨w.heap.size,5,none⟩=some f:=by
 refine⟨?_,?_,?_,?_,?_,?_⟩ <;> (rw[World.cell?_alloc_at _ _ _ _ rfl];rfl)
def Pq(x y:Int):Int:=if x<y then -1 else if y<x then 1 else 0
theorem Dq(x:Int)(w:World):Calls Tryz.prog 223 #[.int .i64 x] w fun e w'=>e = .returned (.bool false)∧w=w':=by
 go_enter Tryz.func223,Tryz.ntmps223
 go_wp2
 go_ret
 exact⟨rfl,rfl⟩
theorem Kp(x y:Int)(w:World):Calls Tryz.prog 231 #[.int .i64 x,.int .i64 y] w fun e w'=>e = .returned (.int .i64 (Pq x y))∧w=w':=by
 have C1:=Zb (Dq x)
 have C2:=Zb (Dq y)
 by_cases h1:x<y
 ·have e:Pq x y = -1:=by simp[Pq,h1]
  rw[e]
  clear e
  go_enter Tryz.func231,Tryz.ntmps231
  go_wp2_with fail
  refine ((Za C1) _).mono ?_
  rintro e w' ⟨rfl,rfl⟩
  go_wp2_with fail
  refine ((Za C2) _).mono ?_
  rintro e w' ⟨rfl,rfl⟩
  go_wp2
  go_ret
  exact⟨rfl,rfl⟩
 ·by_cases h2:y<x
  ·have e:Pq x y=1:=by simp[Pq,h1,h2]
   rw[e]
   clear e
   go_enter Tryz.func231,Tryz.ntmps231
   go_wp2_with fail
   refine ((Za C1) _).mono ?_
   rintro e w' ⟨rfl,rfl⟩
   go_wp2_with fail
   refine ((Za C2) _).mono ?_
   rintro e w' ⟨rfl,rfl⟩
   go_wp2
   go_ret
   exact⟨rfl,rfl⟩
  ·have e:Pq x y=0:=by simp[Pq,h1,h2]
   rw[e]
   clear e
   go_enter Tryz.func231,Tryz.ntmps231
   go_wp2_with fail
   refine ((Za C1) _).mono ?_
   rintro e w' ⟨rfl,rfl⟩
   go_wp2_with fail
   refine ((Za C2) _).mono ?_
   rintro e w' ⟨rfl,rfl⟩
   go_wp2
   go_ret
   exact⟨rfl,rfl⟩
def orI(x y:Int):Int:=if x=0 then y else x
theorem Zee(x y:Int)(b c:Nat)(w:World)(h1:w.cell? ⟨b,0,none⟩=some (.int .i64 x))(h2:w.cell? ⟨b,1,none⟩=some (.int .i64 y)) :
  Calls Tryz.prog 230 #[.slice (some ⟨b,0,none⟩) 2 c] w fun e w'=>e = .returned (.int .i64 (orI x y))∧w=w':=by
 by_cases hx:x=0
 ·subst hx
  by_cases hy:y=0
  ·subst hy
   have e:orI 0 0=0:=rfl
   rw[e]
   clear e
   go_enter Tryz.func230,Tryz.ntmps230
   go_wp2
   refine wp_loop_rounds 3 ?_
   rw[rounds_succ]
   go_wp2
   rw[rounds_succ]
   go_wp2
   rw[rounds_succ]
   go_wp2
   go_ret
   exact⟨rfl,rfl⟩
  ·have e:orI 0 y=y:=rfl
   rw[e]
   have gy:(y != 0)=true:=by simp[hy]
   clear e hy
   go_enter Tryz.func230,Tryz.ntmps230
   go_wp2
   refine wp_loop_rounds 2 ?_
   rw[rounds_succ]
   go_wp2
   rw[rounds_succ]
   go_wp2
   go_ret
   exact⟨rfl,rfl⟩
 ·have e:orI x y=x:=by simp[orI,hx]
  rw[e]
  have gx:(x != 0)=true:=by simp[hx]
  clear e hx
  go_enter Tryz.func230,Tryz.ntmps230
  go_wp2
  refine wp_loop_rounds 1 ?_
  rw[rounds_succ]
  go_wp2
  go_ret
  exact⟨rfl,rfl⟩
theorem Zgr(p q:PtD):orI (Pq p.1 q.1) (Pq p.2 q.2)=Pp p q:=by
 obtain⟨a,b⟩:=p
 obtain⟨c,d⟩:=q
 unfold orI Pq Pp lt
 simp only[Bool.or_eq_true,Bool.and_eq_true,decide_eq_true_eq,Prod.mk.injEq]
 repeat' split
 all_goals omega
theorem Z7(w:World)(x y:Value)(t:TypeId):(w.alloc (.cells #[x,y] t)).cell? ⟨w.heap.size,0,none⟩=some x∧(w.alloc (.cells #[x,y] t)).cell? ⟨w.heap.size,1,none⟩=some y:=
 ⟨by rw[World.cell?_alloc_at _ _ _ _ rfl];rfl,by rw[World.cell?_alloc_at _ _ _ _ rfl];rfl⟩
theorem Zj(w:World):Below w.heap.size w w.drew:=⟨rfl,rfl,rfl,Nat.le_refl _,fun _ _=>rfl⟩
theorem Rp(p q:PtD)(z:Int)(w:World)(hz:Pp p q=z) :
  Calls Tryz.prog 201 #[.agg #[.int .i64 p.1,.int .i64 p.2],.agg #[.int .i64 q.1,.int .i64 q.2]] w fun e w'=>e = .returned (.int .i64 z)∧Below w.heap.size w w':=by
 obtain⟨a,b⟩:=p
 obtain⟨c,d⟩:=q
 have e:=Zgr (a,b) (c,d)
 rw[hz] at e
 simp only at e ⊢
 have E:=Zb e
 obtain⟨X,hX⟩:∃ X,X=(w.alloc (.cells #[.int .i64 a,.int .i64 b] 117)).alloc (.cells #[.int .i64 c,.int .i64 d] 117):=⟨_,rfl⟩
 have HB:Hid (Below w.heap.size w X):=by rw[hX];exact (Zf (Zi w (.cells #[.int .i64 a,.int .i64 b] 117)) (Zi _ (.cells #[.int .i64 c,.int .i64 d] 117)))
 have x0:X.cell? ⟨w.heap.size,0,none⟩=some (.int .i64 a):=by rw[hX];exact Ze (Zi _ _) (Z7 w _ _ _).1
 have x1:X.cell? ⟨w.heap.size,1,none⟩=some (.int .i64 b):=by rw[hX];exact Ze (Zi _ _) (Z7 w _ _ _).2
 have x2:X.cell? ⟨w.heap.size+1,0,none⟩=some (.int .i64 c):=by rw[hX];have:=(Z7 (w.alloc (.cells #[.int .i64 a,.int .i64 b] 117)) (.int .i64 c) (.int .i64 d) 117).1;simp at this ⊢
 have x3:X.cell? ⟨w.heap.size+1,1,none⟩=some (.int .i64 d):=by rw[hX];have:=(Z7 (w.alloc (.cells #[.int .i64 a,.int .i64 b] 117)) (.int .i64 c) (.int .i64 d) 117).2;simp at this ⊢
 clear hz e
 go_enter Tryz.func201,Tryz.ntmps201
 go_wp2_with fail
 rw[←hX]
 clear hX
 go_region_held3 (fun w'=>Below X.heap.size X w'∧w'.cell? ⟨w.heap.size,0,none⟩=some (.int .i64 a)∧w'.cell? ⟨w.heap.size,1,none⟩=some (.int .i64 b)∧w'.cell? ⟨w.heap.size+1,0,none⟩=some (.int .i64 c)∧w'.cell? ⟨w.heap.size+1,1,none⟩=some (.int .i64 d))
  (first
  | exact⟨Zj _,x0,x1,x2,x3⟩
  | (go_split_ands;exact⟨by assumption,by assumption,by assumption,by assumption,by assumption⟩)
  | (go_split_ands;exact⟨Zf (by assumption) (Zi _ _),Ze (Zi _ _) (by assumption),Ze (Zi _ _) (by assumption),Ze (Zi _ _) (by assumption),Ze (Zi _ _) (by assumption)⟩))
  (first
  | (go_at_call 231;refine (Kp _ _ _).mono ?_;rintro e w' ⟨rfl,rfl⟩)
  | (go_at_call 230;refine (Zee (Pq a c) (Pq b d) _ 2 _ ?_ ?_).mono ?_;exact (Z7 _ _ _ _).1;exact (Z7 _ _ _ _).2;rintro e w' ⟨rfl,rfl⟩))
 rename_i hH
 have HH:=Zb (Zf (Za HB) hH.1)
 clear hH
 go_wp2
 go_ret
 exact⟨by rw[←Za E];rfl,Za HH⟩
theorem Vi(h:Int)(b:Bool)(w:World)(hb:okH h=b) :
  Calls Tryz.prog 203 #[.int .i64 h] w fun e w'=>e = .returned (.bool b)∧w=w':=by
 have C:=Zb (Yi h 1 1000 b w (by rw[←hb];rfl))
 clear hb
 go_enter Tryz.func203,Tryz.ntmps203
 go_wp2_with fail
 refine (Za C).mono ?_
 rintro e w' ⟨rfl,rfl⟩
 go_wp2
 go_ret
 exact⟨rfl,rfl⟩
theorem Aw(a:Option Addr)(len cap:Nat)(l:List (Int×Int))(x:Int)(w:World)(hx:chk l=x)(h:OpsAt w a len l) :
  Calls Tryz.prog 249 #[.slice a len cap] w fun e w'=>e = .returned (.int .i64 x)∧Below w.heap.size w w':=by
 subst hx;exact Vs a len cap l w h
theorem M0(x:Zh)(a:Option Addr)(n c:Nat)(z:Int)(w:World)(hO:OpsAt w a n (ck x))(hz:ck1 x=z) :
  Calls Tryz.prog 200 #[cnV x a n c] w fun e w'=>e = .returned (.int .i64 z)∧Below w.heap.size w w':=by
 obtain⟨x1,x2,x3,k,x4,x5⟩:=x
 unfold cnV
 simp only[cv,ck,ch,cr] at hO ⊢
 obtain⟨X,hX⟩:∃ X,X=w.alloc (.cells #[.int .i64 x1,.int .i64 x2,.int .i64 x3,.slice a n c,.int .i64 x4,.bool x5] 124):=⟨_,rfl⟩
 obtain⟨n0,n1,n2,n3,n4,n5⟩:=R6 w (.int .i64 x1) (.int .i64 x2) (.int .i64 x3) (.slice a n c) (.int .i64 x4) (.bool x5) 124
 rw[←hX] at n0 n1 n2 n3 n4 n5
 have hb:Below w.heap.size w X:=by rw[hX];exact Zi _ _
 have HB:=Zb hb
 have HO:=Zb (hO.later hb)
 have N2:=Zb n2
 have N3:=Zb n3
 have N4:=Zb n4
 clear hO hb n5
 cases hp:Zie (x1,x2) with
 | false=>
  have e:z=3:=by rw[←hz];unfold ck1;rw[if_pos (by unfold okC pt;rw[hp];rfl)]
  subst e
  have C1:=Zb (Ql x1 x2 false X hp)
  clear hp hz
  go_enter Tryz.func200,Tryz.ntmps200
  go_wp2_with fail
  rw[←hX]
  clear hX
  go_wp2_with fail
  refine (Za C1).mono ?_
  rintro e w2 ⟨rfl,hb2⟩
  have HB2:=Zb (Zf (Za HB) hb2)
  clear hb2
  go_wp2
  go_ret
  exact⟨rfl,Za HB2⟩
 | true=>
  have C1:=Zb (Ql x1 x2 true X hp)
  cases hv:okV x3 with
  | false=>
   have e:z=3:=by rw[←hz];unfold ck1;rw[if_pos (by unfold okC pt;rw[hp];simp only[cv];rw[hv];rfl)]
   subst e
   have C2:=Zb (fun w=>Yi x3 1 1000000000 false w (by rw[←hv];rfl))
   clear hp hz hv
   go_enter Tryz.func200,Tryz.ntmps200
   go_wp2_with fail
   rw[←hX]
   clear hX
   go_wp2_with fail
   refine (Za C1).mono ?_
   rintro e w2 ⟨rfl,hb2⟩
   have m2:=Ze hb2 (Za N2)
   have hs2:w.heap.size<w2.heap.size:=World.block_lt_of_cell? _ _ m2
   have HB2:=Zb (Zf (Za HB) hb2)
   clear hb2
   go_wp2_with fail
   refine ((Za C2) _).mono ?_
   rintro e w3 ⟨rfl,rfl⟩
   go_wp2
   go_ret
   exact⟨rfl,Za HB2⟩
  | true=>
   have C2:=Zb (fun w=>Yi x3 1 1000000000 true w (by rw[←hv];rfl))
   cases hh:okH x4 with
   | false=>
    have e:z=3:=by rw[←hz];unfold ck1;rw[if_pos (by unfold okC pt;rw[hp];simp only[cv,ch];rw[hv,hh];rfl)]
    subst e
    have C3:=Zb (fun w=>Vi x4 false w hh)
    clear hp hz hv hh
    go_enter Tryz.func200,Tryz.ntmps200
    go_wp2_with fail
    rw[←hX]
    clear hX
    go_wp2_with fail
    refine (Za C1).mono ?_
    rintro e w2 ⟨rfl,hb2⟩
    have m2:=Ze hb2 (Za N2)
    have m4:=Ze hb2 (Za N4)
    have hs2:w.heap.size<w2.heap.size:=World.block_lt_of_cell? _ _ m2
    have HB2:=Zb (Zf (Za HB) hb2)
    clear hb2
    go_wp2_with fail
    refine ((Za C2) _).mono ?_
    rintro e w3 ⟨rfl,rfl⟩
    go_wp2_with fail
    refine ((Za C3) _).mono ?_
    rintro e w3 ⟨rfl,rfl⟩
    go_wp2
    go_ret
    exact⟨rfl,Za HB2⟩
   | true=>
    have e:chk k=z:=by rw[←hz];unfold ck1;rw[if_neg (by unfold okC pt;rw[hp];simp only[cv,ch];rw[hv,hh];decide)];rfl
    have C3:=Zb (fun w=>Vi x4 true w hh)
    have E:=Zb e
    clear hp hz hv hh e
    go_enter Tryz.func200,Tryz.ntmps200
    go_wp2_with fail
    rw[←hX]
    clear hX
    go_wp2_with fail
    refine (Za C1).mono ?_
    rintro e w2 ⟨rfl,hb2⟩
    have m2:=Ze hb2 (Za N2)
    have m3:=Ze hb2 (Za N3)
    have m4:=Ze hb2 (Za N4)
    have hs2:w.heap.size<w2.heap.size:=World.block_lt_of_cell? _ _ m2
    have C4:=Zb (Aw a n c k z w2 (Za E) ((Za HO).later hb2))
    have HB2:=Zb (Zf (Za HB) hb2)
    clear hb2
    go_wp2_with fail
    refine ((Za C2) _).mono ?_
    rintro e w3 ⟨rfl,rfl⟩
    go_wp2_with fail
    refine ((Za C3) _).mono ?_
    rintro e w3 ⟨rfl,rfl⟩
    go_wp2_with fail
    refine (Za C4).mono ?_
    rintro e w4 ⟨rfl,hb4⟩
    have HB4:=Zb (Zf (Za HB2) hb4)
    clear hb4
    go_wp2
    go_ret
    exact⟨rfl,Za HB4⟩
theorem M7(w:World)(n:Nat):Below w.heap.size w (w.drewN n):=⟨rfl,rfl,rfl,Nat.le_refl _,fun _ _=>rfl⟩
theorem CoinAt.val{w:World}{b o:Nat}{x:Zh}(h:CoinAt w b o x):∃ a n c,w.cell? ⟨b,o,none⟩=some (.int .i64 x.1)∧w.cell? ⟨b,o+1,none⟩=some (.int .i64 x.2.1)∧w.cell? ⟨b,o+2,none⟩=some (.int .i64 (cv x)) ∧
  w.cell? ⟨b,o+3,none⟩=some (.slice a n c)∧w.cell? ⟨b,o+4,none⟩=some (.int .i64 (ch x))∧w.cell? ⟨b,o+5,none⟩=some (.bool (cr x))∧OpsAt w a n (ck x)∧SlOk a n c:=by
 obtain⟨h1,h2,h3,⟨a,n,c,h4,h5,h6⟩,h7,h8⟩:=h
 exact⟨a,n,c,h1,h2,h3,h4,h7,h8,h5,h6⟩
theorem Na(b off n c:Nat)(L:List Zh)(w:World)(hn:n≤720)(hz:L.length=n)(hc:∀ i (h:i<L.length),CoinAt w b (off+i*6) L[i]) :
  Calls Tryz.prog 143 #[.slice (some ⟨b,off,none⟩) n c] w fun e w'=>e = .returned (.int .i64 (Y5 none 0 L))∧Below w.heap.size w w':=by
 have HC:=Zb hc
 have HZ:=Zb hz
 clear hc hz
 go_enter Tryz.func143,Tryz.ntmps143
 go_wp2
 go_loopw [3,12] (fun sv i wr=>∃ (k:Nat) (S:Int),k≤n∧i = .int .i64 k∧sv = .int .i64 S∧0≤S∧S≤1000000000∧Hid (Y5 none 0 L=Y5 (Ja L k) S (L.drop k))∧Below w.heap.size w wr) (fun _ i _=>n - (intOf i).toNat)
 case atStart=>exact⟨0,0,Nat.zero_le _,rfl,rfl,by decide,by decide,rfl,Below.refl _ _⟩
 case round=>
  obtain⟨k,S,hk,rfl,rfl,hS0,hS1,A,hb⟩:=hrel
  have HB:=Zb hb
  by_cases hlt:k<n
  ·have hlk:k<L.length:=by rw[Za HZ];exact hlt
   have hin:=CoinAt.kept _ _ _ _ _ hb ((Za HC) k hlk)
   have ST:=Zb (Zgv L k hlk (Ja L k) S)
   have HL:Hid (∀ j,k=j+1→∃ q,Ja L k=some (pt q)∧CoinAt wr b (off+j*6) q):=fun j hj=>by
    have hj2:j<L.length:=by omega
    exact⟨L[j],by rw[hj];exact Gl L j hj2,CoinAt.kept _ _ _ _ _ hb ((Za HC) j hj2)⟩
   have HN:Hid (k+1≤L.length→Ja L (k+1)=some (pt L[k])):=fun _=>Gl L k hlk
   obtain⟨x,hx⟩:∃ x,L[k]=x:=⟨_,rfl⟩
   rw[hx] at hin ST HN
   have A2:Hid (Y5 none 0 L=if ck1 x≠0 then ck1 x else if Tx (Ja L k) x=false then 6 else if 1000000000<S+cv x then 12 else Y5 (some (pt x)) (S+cv x) (L.drop (k+1))):=by show _=_;rw[Za A,Za ST]
   have PN:Hid (Ja L (k+1)=some (pt x)):=(Za HN) hlk
   obtain⟨a,m,d,g1,g2,g3,g4,g5,g6,hO,_⟩:=hin.val
   obtain⟨X,hX⟩:∃ X,X=wr.alloc (.cells #[.int .i64 x.1,.int .i64 x.2.1,.int .i64 (cv x),.slice a m d,.int .i64 (ch x),.bool (cr x)] 124):=⟨_,rfl⟩
   obtain⟨n0,n1,n2,n3,n4,n5⟩:=R6 wr (.int .i64 x.1) (.int .i64 x.2.1) (.int .i64 (cv x)) (.slice a m d) (.int .i64 (ch x)) (.bool (cr x)) 124
   rw[←hX] at n0 n1 n2 n3 n4 n5
   have hbX:Below wr.heap.size wr X:=by rw[hX];exact Zi _ _
   have hsX:wr.heap.size<X.heap.size:=World.block_lt_of_cell? _ _ n0
   have HBX:=Zb hbX
   have HO:=Zb (hO.later hbX)
   have N0:=Zb n0
   have N1:=Zb n1
   have N2:=Zb n2
   obtain⟨z,hz⟩:∃ z,ck1 x=z:=⟨_,rfl⟩
   have C1:=Zb (M0 x a m d z X (Za HO) hz)
   rw[hz] at A2
   have HX:=Zb hX
   by_cases hz0:z=0
   ·subst hz0
    have K:=Yp hz
    have hv1:1≤cv x:=K.2.2.2.2.1
    have hv2:cv x≤1000000000:=K.2.2.2.2.2.1
    have A3:Hid (Y5 none 0 L=if Tx (Ja L k) x=false then 6 else if 1000000000<S+cv x then 12 else Y5 (some (pt x)) (S+cv x) (L.drop (k+1))):=by
     have h:=Za A2
     rw[if_neg (by decide)] at h
     exact h
    clear K A A2 ST HN hx hin hO hb hz n3 n4 n5 hX
    obtain⟨v,hv⟩:∃ v,cv x=v:=⟨_,rfl⟩
    rw[hv] at hv1 hv2 A3 n2 N2 g3 HX
    unfold cnV at C1
    rw[hv] at C1
    by_cases hk0:k=0
    ·have A4:Hid (Y5 none 0 L=if 1000000000<S+v then 12 else Y5 (some (pt x)) (S+v) (L.drop (k+1))):=by
      have h:=Za A3
      rw[hk0] at h
      rw[if_neg (by show ¬true=false;decide)] at h
      rw[hk0]
      exact h
     clear A3 HL
     have hg:decide ((0:Int)<(k:Int))=false:=by rw[hk0];decide
     have hg2:decide (0<k)=false:=by rw[hk0];decide
     clear hk0
     go_wp2_with fail
     rw[←Za HX]
     go_wp2_with fail
     refine (Za C1).mono ?_
     rintro e w2 ⟨rfl,hb2⟩
     have m2:=Ze hb2 (Za N2)
     have hs2:wr.heap.size<w2.heap.size:=World.block_lt_of_cell? _ _ m2
     have HB2:=Zb (Zf (Zf (Za HB) (Za HBX)) hb2)
     clear hb2
     go_wp2_with fail
     go_quiet (fail)
     by_cases hf:1000000000<S+v
     ·have R:Hid (Y5 none 0 L=12):=by show _=_;rw[Za A4,if_pos hf]
      clear A4
      go_wp2
      go_ret
      exact⟨by rw[Za R];rfl,Zf (Za HB2) (M7 _ _)⟩
     ·have R:Hid (Y5 none 0 L=Y5 (Ja L (k+1)) (S+v) (L.drop (k+1))):=by show _=_;rw[Za A4,if_neg hf,Za PN]
      clear A4
      go_wp2
      go_roundw
      case rel=>exact⟨k+1,S+v,by omega,by go_num,rfl,by omega,by omega,R,Zf (Za HB2) (M7 _ _)⟩
      case measure=>simp[intOf];omega
    ·obtain⟨j,rfl⟩:∃ j,k=j+1:=⟨k - 1,by omega⟩
     obtain⟨q,hq,hqa⟩:=(Za HL) j rfl
     obtain⟨_,_,_,q1,q2,_,_,_,_,_,_⟩:=hqa.val
     have A5:Hid (Y5 none 0 L=if lt (pt q) (pt x)=false then 6 else if 1000000000<S+v then 12 else Y5 (some (pt x)) (S+v) (L.drop (j+1+1))):=by
      have h:=Za A3
      rw[hq] at h
      exact h
     have Q1:=Zb (Ze hbX q1)
     have Q2:=Zb (Ze hbX q2)
     have G:Hid (decide ((0:Int)<((j+1:Nat):Int))=true):=by show _=_;simp
     have hj1:(j:Int)<(n:Int):=by omega
     have hw2:IntKind.i64.wrap (j:Int)=(j:Int):=by rw[IntKind.wrap_i64];omega
     have hw3:IntKind.i64.wrap ((j:Int)+1 - 1)=(j:Int):=by rw[IntKind.wrap_i64];omega
     have hj2:j<n:=by omega
     have hj0:(0:Int)≤(j:Int):=by omega
     have hw1:IntKind.i64.wrap (((j+1:Nat):Int) - 1)=(j:Int):=by rw[IntKind.wrap_i64];omega
     clear A3 HL hk0 hq hqa q1 q2
     cases hl:lt (pt q) (pt x) with
     | false=>
      have R:Hid (Y5 none 0 L=6):=by show _=_;rw[Za A5,if_pos hl]
      obtain⟨y,hy⟩:∃ y,Pp (pt q) (pt x)=y:=⟨_,rfl⟩
      have hy0:0≤y:=by
       rw[←hy]
       refine Int.not_lt.1 fun h=>?_
       rw[Mo,hl] at h;exact Bool.noConfusion h
      have CC:=Zb (fun w=>Rp (pt q) (pt x) y w hy)
      unfold pt at CC
      clear A5 hl hy
      go_wp2_with fail
      rw[←Za HX]
      go_wp2_with fail
      refine (Za C1).mono ?_
      rintro e w2 ⟨rfl,hb2⟩
      have m0:=Ze hb2 (Za N0)
      have m1:=Ze hb2 (Za N1)
      have p0:=Ze hb2 (Za Q1)
      have p1:=Ze hb2 (Za Q2)
      have hs2:wr.heap.size<w2.heap.size:=World.block_lt_of_cell? _ _ m0
      have HB2:=Zb (Zf (Zf (Za HB) (Za HBX)) hb2)
      clear hb2 n0 n1 n2 g1 g2 g3 g4 g5 g6
      have hG:=Za G
      go_wp2_with fail
      go_region_held3 (fun w'=>Below w2.heap.size w2 w'∧w'.cell? ⟨wr.heap.size,0,none⟩=some (.int .i64 x.1)∧w'.cell? ⟨wr.heap.size,1,none⟩=some (.int .i64 x.2.1)∧w'.cell? ⟨b,off+j*6,none⟩=some (.int .i64 q.1)∧w'.cell? ⟨b,off+j*6+1,none⟩=some (.int .i64 q.2.1))
       (first
       | exact⟨Zj _,m0,m1,p0,p1⟩
       | (go_split_ands;refine⟨Zf (by assumption) hbc,Ze hbc (by assumption),Ze hbc (by assumption),Ze hbc (by assumption),Ze hbc (by assumption)⟩))
       (first|(go_at_call 201;refine ((Za CC) _).mono ?_;rintro e w' ⟨rfl,hbc⟩))
      rename_i hH
      have HH:=Zb (Zf (Za HB2) hH.1)
      clear hH
      go_wp2
      go_ret
      exact⟨by rw[Za R];rfl,Za HH⟩
     | true=>
      have A4:Hid (Y5 none 0 L=if 1000000000<S+v then 12 else Y5 (some (pt x)) (S+v) (L.drop (j+1+1))):=by
       have h:=Za A5
       rw[if_neg (by rw[hl];decide)] at h
       exact h
      obtain⟨y,hy⟩:∃ y,Pp (pt q) (pt x)=y:=⟨_,rfl⟩
      have hy0:y<0:=by rw[←hy,Mo];exact hl
      have CC:=Zb (fun w=>Rp (pt q) (pt x) y w hy)
      unfold pt at CC
      clear A5 hl hy
      go_wp2_with fail
      rw[←Za HX]
      go_wp2_with fail
      refine (Za C1).mono ?_
      rintro e w2 ⟨rfl,hb2⟩
      have m0:=Ze hb2 (Za N0)
      have m1:=Ze hb2 (Za N1)
      have M2:=Zb (Ze hb2 (Za N2))
      have p0:=Ze hb2 (Za Q1)
      have p1:=Ze hb2 (Za Q2)
      have hs2:wr.heap.size<w2.heap.size:=World.block_lt_of_cell? _ _ m0
      have HB2:=Zb (Zf (Zf (Za HB) (Za HBX)) hb2)
      clear hb2 n0 n1 n2 g1 g2 g3 g4 g5 g6
      have hG:=Za G
      go_wp2_with fail
      go_region_held3 (fun w'=>Below w2.heap.size w2 w'∧w'.cell? ⟨wr.heap.size,0,none⟩=some (.int .i64 x.1)∧w'.cell? ⟨wr.heap.size,1,none⟩=some (.int .i64 x.2.1)∧w'.cell? ⟨b,off+j*6,none⟩=some (.int .i64 q.1)∧w'.cell? ⟨b,off+j*6+1,none⟩=some (.int .i64 q.2.1))
       (first
       | exact⟨Zj _,m0,m1,p0,p1⟩
       | (go_split_ands;refine⟨Zf (by assumption) hbc,Ze hbc (by assumption),Ze hbc (by assumption),Ze hbc (by assumption),Ze hbc (by assumption)⟩))
       (first|(go_at_call 201;refine ((Za CC) _).mono ?_;rintro e w' ⟨rfl,hbc⟩))
      rename_i hH
      have HH:=Zb (Zf (Za HB2) hH.1)
      have m2:=Ze hH.1 (Za M2)
      have hs3:=World.block_lt_of_cell? _ _ m2
      clear hH
      by_cases hf:1000000000<S+v
      ·have R:Hid (Y5 none 0 L=12):=by show _=_;rw[Za A4,if_pos hf]
       clear A4
       go_wp2
       go_ret
       exact⟨by rw[Za R];rfl,Za HH⟩
      ·have R:Hid (Y5 none 0 L=Y5 (Ja L (j+1+1)) (S+v) (L.drop (j+1+1))):=by show _=_;rw[Za A4,if_neg hf,Za PN]
       clear A4
       go_wp2
       go_roundw
       case rel=>exact⟨j+1+1,S+v,by omega,by go_num,rfl,by omega,by omega,R,Za HH⟩
       case measure=>simp[intOf];omega
   ·have R:Hid (Y5 none 0 L=z):=by show _=_;rw[Za A2,if_pos hz0]
    have gz:(z != 0)=true:=by simp[hz0]
    unfold cnV at C1
    clear A A2 ST HN HL PN hx hin hO hb hz n3 n4 n5 hX hz0
    go_wp2_with fail
    rw[←Za HX]
    go_wp2_with fail
    refine (Za C1).mono ?_
    rintro e w2 ⟨rfl,hb2⟩
    have HB2:=Zb (Zf (Zf (Za HB) (Za HBX)) hb2)
    clear hb2
    go_wp2
    go_ret
    exact⟨by rw[Za R];rfl,Za HB2⟩
  ·have R:Hid (Y5 none 0 L=0):=by show _=_;rw[Za A,Zef L k (by rw[Za HZ];omega)]
   clear A hb
   go_wp2
   go_ret
   exact⟨by rw[Za R];rfl,Za HB⟩
theorem Nc(a:Option Addr)(n c:Nat)(w:World)(h:720<n) :
  Calls Tryz.prog 143 #[.slice a n c] w fun e w'=>e = .returned (.int .i64 2)∧w=w':=by
 go_enter Tryz.func143,Tryz.ntmps143
 go_wp2
 go_ret
 exact⟨rfl,rfl⟩
theorem Nb(a:Option Addr)(c:Nat)(w:World) :
  Calls Tryz.prog 143 #[.slice a 0 c] w fun e w'=>e = .returned (.int .i64 0)∧w=w':=by
 go_enter Tryz.func143,Tryz.ntmps143
 go_wp2
 refine wp_loop_rounds 1 ?_
 rw[rounds_succ]
 go_wp2
 go_ret
 exact⟨rfl,rfl⟩
theorem Wo(a:Option Addr)(n c:Nat)(L:List Zh)(z:Int)(w:World)(h:CoinsAt w a n L)(hz:Zy L=z) :
  Calls Tryz.prog 143 #[.slice a n c] w fun e w'=>e = .returned (.int .i64 z)∧Below w.heap.size w w':=by
 subst hz
 obtain⟨hl,hc⟩:=h
 unfold Zy
 rw[hl]
 by_cases h1:720<n
 ·rw[if_pos h1]
  exact (Nc a n c w h1).mono fun e w' ⟨x,y⟩=>⟨x,y ▸ Below.refl _ _⟩
 ·rw[if_neg h1]
  by_cases h2:n=0
  ·subst h2
   have e:L=[]:=List.length_eq_zero_iff.1 hl
   subst e
   exact (Nb a c w).mono fun e w' ⟨x,y⟩=>⟨x,y ▸ Below.refl _ _⟩
  ·obtain⟨b,off,rfl,_,hcell⟩:=hc (by omega)
   exact Na b off n c L w (by omega) hl hcell
def laid(L:List Value)(off:Nat)(cs:List Value):List Value:=L.take off++cs++L.drop (off+cs.length)
theorem Vy(L:List Value)(off:Nat)(cs:List Value)(h:off+cs.length≤L.length):(laid L off cs).length=L.length:=by simp[laid];omega
variable {P : Program}
theorem Wx(w:World)(dT sT ty elem:TypeId)(g o dLen dCap:Nat)(a:Addr)(sLen sCap k:Nat)(cur:Array Value)(t:TypeId)(cs:List Value)
  (hu:P.underlying dT=some (.slice elem)) (hs:(P.info? elem).map (·.size)=some k)
  (hg:w.heap[g]? = some (.cells cur t (0,0))) (hn:cs.length=Nat.min sLen dLen*k)
  (hsrc:∀ j v,cs[j]? = some v→w.cell? (a.add j)=some v) (hfit:o+cs.length≤cur.size) (h1:∀ v∈cs,v.oneCell'=true) :
  (Builtin.copy_ #[dT,sT] ty #[.slice (some ⟨g,o,none⟩) dLen dCap,.slice (some a) sLen sCap]).run P w =
   .ok (goInt (Nat.min sLen dLen)) (w.setRow g (laid cur.toList o cs).toArray):=by
 have hst:=run_storeCells_at P g o t cs 0 cur w hg (by simpa using hfit) h1
 cases hq:P.info? elem with
 | none=>simp[hq] at hs
 | some i=>
  have hi:i.size=k:=by simpa[hq] using hs
  have hl:=run_firstCells_some (P:=P) w k (Nat.min sLen dLen) a sLen sCap cs hn hsrc
  simp only[Nat.add_zero] at hst
  simp[Builtin.copy_,run_underlying hu,Builtin.lenOf,sizeOf,typeInfo,hq,hi,hl,hst,laid]
theorem Gg(w:World)(t e ty:TypeId)(z:Value)(ht:P.underlying t=some (.slice e))(hv:∀ w,(zeroValue e).run P w = .ok z w)(g o n c k:Nat)(cur:Array Value)(te:TypeId)(cs:List Value)(hn:0<n)
  (hcs:(Builtin.zeroCells z.cells n).toList=cs) (hg:w.heap[g]? = some (.cells cur te (0,0))) (hk:cs.length=n*k) (hfit:o+n*k≤cur.size) (h1:∀ v∈cs,v.oneCell'=true) :
  (Builtin.clear_ #[t] ty #[.slice (some ⟨g,o,none⟩) n c]).run P w = .ok (.tuple #[]) (w.setRow g (laid cur.toList o cs).toArray):=by
 have hst:=run_storeCells_at P g o te cs 0 cur w hg (by simpa[hk] using hfit) h1
 simp only[Nat.add_zero] at hst
 obtain⟨m,rfl⟩:∃ m,n=m+1:=⟨n - 1,by omega⟩
 simp[Builtin.clear_,run_underlying ht,hv,hcs,hst,laid]
theorem Rf{ops:Array Oper}{o:Oper}{a:Act}{w:World}{K:Act→World→Prop}{Q:Exit→Act→World→Prop}{E:Prop}
  (hg:o.guard=none) (s x:Operand) (t:TypeId) (hop:o.op=Op.call { callee:=Callee.builtin Builtin.append,args:=#[s,x],argTypes:=#[t,t] })
  (e:TypeId) (i:TypeInfo) (size:Nat) (h1:P.underlying t=some (.slice e)) (h2:P.info? e=some i) (h4:i.size=size)
  (b n cap:Nat) (hs:a.eval s = .slice (some ⟨b,0,none⟩) n cap)
  (ad:Addr) (m c:Nat) (news:List Value) (hx:a.eval x = .slice (some ad) m c) (hn:news.length=m*size) (hc:∀ j u,news[j]? = some u→w.cell? (ad.add j)=some u) (h1c:∀ u∈news,u.oneCell'=true)
  (hroom:n+m≤cap) (cur:Array Value) (te:TypeId) (hrow:w.heap[b]? = some (.cells cur te (0,0))) (hfit:n*size+news.length≤cur.size)
  (hK:K (a.put o.dst (.slice (some ⟨b,0,none⟩) (n+m) cap)) (w.setRow b (laid cur.toList (n*size) news).toArray)) :
  if Region.wanted o (yielded ops a.tmps)=true then Oper.wp P o a w K Q else E:=by
 have hw:Region.wanted o (yielded ops a.tmps)=true:=by simp[Region.wanted,hg]
 rw[if_pos hw]
 subst h4
 have hfc:=run_firstCells_some (P:=P) w i.size m ad m c news hn hc
 have hst:=run_storeCells_at P b (n*i.size) te news 0 cur w hrow (by simpa using hfit) h1c
 simp only[Nat.add_zero] at hst
 have hrun:(Builtin.append_ #[t,t] o.type #[.slice (some ⟨b,0,none⟩) n cap,.slice (some ad) m c]).run P w = .ok (.slice (some ⟨b,0,none⟩) (n+m) cap) (w.setRow b (laid cur.toList (n*i.size) news).toArray):=by
  simp[Builtin.append_,run_underlying h1,sizeOf,typeInfo,h2,Builtin.lenOf,hroom,hfc,Addr.add_lit,hst,laid]
 unfold Oper.wp
 simp[execOp,hop,resolve,invoke,builtin,hs,hx,hrun,Result.andThen]
 exact hK
theorem Vg(w:World){ops:Array Oper}{rest:List Oper}{o:Oper}{a:Act}{Q:Exit→Act→World→Prop}(hgd:o.guard=none)(d s:Operand)(t t':TypeId)
  (ho:o.op = .call { callee:=.builtin .append,args:=#[d,s],argTypes:=#[t,t'] }) (v u:Value) (hd:a.eval d=v) (hs:a.eval s=u) {v':Value} {w':World}
  (hr:(Builtin.append_ #[t,t'] o.type #[v,u]).run P w = .ok v' w') (h:wpList P ops Q rest (a.put o.dst v') w'):wpList P ops Q (o :: rest) a w:=by
 refine wpList_plain hgd fun K hK=>?_
 unfold Oper.wp
 simp[execOp,ho,resolve,invoke,builtin,hd,hs,hr,Result.andThen]
 exact hK _ _ h
abbrev CV:=Zh×Option Addr×Nat×Nat
def Zn:List CV→List Value
 | []=>[]
 | x :: r=>.int .i64 x.1.1 :: .int .i64 x.1.2.1 :: .int .i64 (cv x.1) :: .slice x.2.1 x.2.2.1 x.2.2.2 :: .int .i64 (ch x.1) :: .bool (cr x.1) :: Zn r
theorem Z8:∀ l:List CV,(Zn l).length=l.length*6
 | []=>rfl
 | _ :: r=>by simp only[Zn,List.length_cons,Z8 r];omega
theorem Yg:∀ l m:List CV,Zn (l++m)=Zn l++Zn m
 | [],_=>rfl
 | _ :: r,m=>by simp only[List.cons_append,Zn,Yg r m]
theorem Tj:∀ (l:List CV) (i:Nat) (h:i<l.length),(Zn l)[i*6]? = some (.int .i64 (l[i]).1.1)∧(Zn l)[i*6+1]? = some (.int .i64 (l[i]).1.2.1)∧(Zn l)[i*6+2]? = some (.int .i64 (cv (l[i]).1))∧(Zn l)[i*6+3]? = some (.slice (l[i]).2.1 (l[i]).2.2.1 (l[i]).2.2.2)∧(Zn l)[i*6+4]? = some (.int .i64 (ch (l[i]).1))∧(Zn l)[i*6+5]? = some (.bool (cr (l[i]).1))
 | [],_,h=>absurd h (by simp)
 | x :: r,0,_=>⟨rfl,rfl,rfl,rfl,rfl,rfl⟩
 | x :: r,i+1,h=>by
  have:=Tj r i (by simpa using h)
  have e:(i+1)*6=i*6+6:=by omega
  rw[e]
  exact this
theorem Xm:∀ (l:List CV) (u:Value),u∈Zn l→u.oneCell'=true
 | [],u,h=>by cases h
 | x :: r,u,h=>by
  simp only[Zn,List.mem_cons] at h
  rcases h with rfl|rfl|rfl|rfl|rfl|rfl|h
  ·rfl
  ·rfl
  ·rfl
  ·rfl
  ·rfl
  ·rfl
  ·exact Xm r u h
theorem V5:∀ (l:List CV) (i:Nat),(Zn l).take (i*6)=Zn (l.take i)
 | [],i=>by simp[Zn]
 | x :: r,0=>by simp[Zn]
 | x :: r,i+1=>by
  rw[show (i+1)*6=i*6+6 by omega,List.take_succ_cons]
  simp only[Zn,List.take_succ_cons,V5 r i]
theorem V6:∀ (l:List CV) (i:Nat),(Zn l).drop (i*6)=Zn (l.drop i)
 | [],i=>by simp[Zn]
 | x :: r,0=>by simp[Zn]
 | x :: r,i+1=>by
  rw[show (i+1)*6=i*6+6 by omega,List.drop_succ_cons]
  simp only[Zn,List.drop_succ_cons,V6 r i]
def LkAt(w:World)(x:CV):Prop:=OpsAt w x.2.1 x.2.2.1 (ck x.1)∧SlOk x.2.1 x.2.2.1 x.2.2.2
theorem LkAt.later{w w':World}{x:CV}(h:LkAt w x)(hb:Below w.heap.size w w'):LkAt w' x:=⟨h.1.later hb,h.2⟩
theorem Wn{w:World}{base:Nat}{v:Value}{K:List CV}(h:w.ownsRow base 124 6 v K.length (Zn K))(hl:∀ x∈K,LkAt w x):∃ a c,v = .slice a K.length c∧CoinsAt w a K.length (K.map (·.1))∧SlOk a K.length c:=by
 rcases h.2 with ⟨rfl,hn⟩|⟨g,cap,cur,rfl,hg,hh,h1,h2,h3,h4⟩
 ·rw[hn]
  have e:K=[]:=List.length_eq_zero_iff.1 hn
  subst e
  exact⟨none,0,rfl,RowsAt.nil _ _,Nat.le_refl _,Nat.zero_le _,fun _=>⟨rfl,rfl⟩⟩
 ·refine⟨_,cap,rfl,⟨by simp,fun _=>⟨g,0,rfl,lt_of_block hh,fun i hi=>?_⟩⟩,h1,h2,fun e=>by cases e⟩
  rw[List.length_map] at hi
  obtain⟨f0,f1,f2,f3,f4,f5⟩:=Tj K i hi
  rw[List.getElem_map]
  refine⟨?_,?_,?_,⟨_,_,_,?_,(hl _ (List.getElem_mem hi)).1,(hl _ (List.getElem_mem hi)).2⟩,?_,?_⟩
  all_goals rw[Nat.zero_add,World.ownsRow.cellAt h _ (by omega)]
  ·exact f0
  ·exact f1
  ·exact f2
  ·exact f3
  ·exact f4
  ·exact f5
theorem Qa{w:World}{b off:Nat}:∀ {L:List Zh},(∀ i (h:i<L.length),CoinAt w b (off+i*6) L[i])→∃ K:List CV,K.map (·.1)=L∧(∀ x∈K,LkAt w x)∧∀ j u,(Zn K)[j]? = some u→w.cell? ⟨b,off+j,none⟩=some u:=by
 intro L h
 have h2:∀ k,k≤L.length→∃ K:List CV,K.map (·.1)=L.take k∧(∀ x∈K,LkAt w x)∧∀ j u,(Zn K)[j]? = some u→w.cell? ⟨b,off+j,none⟩=some u:=by
  intro k
  induction k with
  | zero=>intro _;exact⟨[],by simp,fun x hx=>(by cases hx),fun j u hj=>by simp[Zn] at hj⟩
  | succ k ih=>
   intro hk
   obtain⟨K,h1,h2,h3⟩:=ih (by omega)
   obtain⟨a,n,c,g1,g2,g3,g4,g5,g6,h5,h6⟩:=(h k (by omega)).val
   have hlen:K.length=k:=by have:=congrArg List.length h1;simpa[Nat.min_eq_left (show k≤L.length by omega)] using this
   refine⟨K++[(L[k],a,n,c)],by rw[List.map_append,h1,List.take_succ_eq_append_getElem (by omega)];rfl,fun x hx=>?_,fun j u hj=>?_⟩
   ·rcases List.mem_append.1 hx with hx|hx
    ·exact h2 x hx
    ·rw[List.mem_singleton.1 hx];exact⟨h5,h6⟩
   ·rw[Yg] at hj
    rcases Nat.lt_or_ge j (k*6) with q|q
    ·rw[List.getElem?_append_left (by rw[Z8,hlen];exact q)] at hj
     exact h3 j u hj
    ·rw[List.getElem?_append_right (by rw[Z8,hlen];exact q),Z8,hlen] at hj
     obtain⟨r,rfl⟩:∃ r,j=k*6+r:=⟨j - k*6,by omega⟩
     rw[Nat.add_sub_cancel_left] at hj
     rw[show off+(k*6+r)=off+k*6+r by omega]
     match r,hj with
     | 0,hj=>simp only[Zn,List.getElem?_cons_zero,Option.some.injEq] at hj;subst hj;exact g1
     | 1,hj=>simp only[Zn,List.getElem?_cons_zero,List.getElem?_cons_succ,Option.some.injEq] at hj;subst hj;exact g2
     | 2,hj=>simp only[Zn,List.getElem?_cons_zero,List.getElem?_cons_succ,Option.some.injEq] at hj;subst hj;exact g3
     | 3,hj=>simp only[Zn,List.getElem?_cons_zero,List.getElem?_cons_succ,Option.some.injEq] at hj;subst hj;exact g4
     | 4,hj=>simp only[Zn,List.getElem?_cons_zero,List.getElem?_cons_succ,Option.some.injEq] at hj;subst hj;exact g5
     | 5,hj=>simp only[Zn,List.getElem?_cons_zero,List.getElem?_cons_succ,Option.some.injEq] at hj;subst hj;exact g6
     | r+6,hj=>simp[Zn] at hj
 obtain⟨K,h1,h3⟩:=h2 L.length (Nat.le_refl _)
 exact⟨K,by rw[h1,List.take_length],h3⟩
def zeroC:Value:=.agg #[.int .i64 0,.int .i64 0,.int .i64 0,.slice none 0 0,.int .i64 0,.bool false]
theorem Tryz.infoCoin:(Tryz.prog.info? 124).map (fun i=>(i.zero,i.size,i.bytes))=some (some zeroC,6,64):=by kernel_rfl
theorem Wk{w:World}{base:Nat}{e:TypeId}{size:Nat}{v:Value}{n:Nat}{xs:List Value}(h:w.ownsRow base e size v n xs)(k:Nat)(hk:v.ownBlock=some k):base≤k:=by
 rcases h.2 with ⟨rfl,_⟩|⟨g,cap,cur,rfl,hg,_⟩
 ·cases hk
 ·cases hk;exact hg
theorem Vl(w:World)(e:TypeId)(size:Nat):(w.alloc (.cells #[] e)).ownsRow w.heap.size e size (.slice (some ⟨w.heap.size,0,none⟩) 0 0) 0 []:=
 ⟨by simp,.inr ⟨w.heap.size,0,#[],rfl,Nat.le_refl _,heap_alloc_new w _,Nat.le_refl _,Nat.zero_le _,by simp,by simp⟩⟩
theorem Ks(w:World):Calls Tryz.prog 138 #[.slice none 0 0] w fun e w'=>e = .returned (.slice none 0 0)∧w=w':=by
 have he:=fun w=>Lib.run_eql_slice_nil (P:=Tryz.prog) w 29 124 none 0 0 0 0 Tryz.underlying29
 go_enter Tryz.func138,Tryz.ntmps138
 go_wp2
 go_ret
 exact⟨rfl,rfl⟩
theorem Jj(ad:Addr)(n c:Nat)(K:List CV)(w:World)(hn:n≤4096)(hz:K.length=n)(hc:∀ j u,(Zn K)[j]? = some u→w.cell? (ad.add j)=some u) :
  Calls Tryz.prog 138 #[.slice (some ad) n c] w fun e w'=>∃ v,e = .returned v∧w'.ownsRow w.heap.size 124 6 v n (Zn K)∧Below w.heap.size w w':=by
 obtain⟨i0,hi,hz0,hz1,hz2⟩:=info_parts Tryz.infoCoin
 have hb:=Zi w (.cells #[] 124)
 have HC:Hid (∀ j u,(Zn K)[j]? = some u→(w.alloc (.cells #[] 124)).cell? (ad.add j)=some u):=fun j u hj=>Ze hb (hc j u hj)
 have HB:=Zb hb
 have HZ:=Zb hz
 have HO:=Zb (Vl w 124 6)
 have he:=fun w=>Lib.run_eql_slice_nil (P:=Tryz.prog) w 29 124 (some ad) n c 0 0 Tryz.underlying29
 clear hc hb hz
 go_enter Tryz.func138,Tryz.ntmps138
 go_wp2_with (at_builtin;refine wpList_append_own _ rfl _ _ 29 rfl w.heap.size 124 i0 zeroC 6 64 Tryz.underlying29 hi hz0 hz1 hz2 rfl (by decide) _ _ _ rfl (Za HO) ad n c (Zn K) rfl (by rw[Z8,Za HZ]) (Za HC) (Xm K) (by unfold maxLen;omega) (by omega) (Za HB).size ?_;intro v2 w3 hown3 hgrow3 _)
 have HW:Hid (w3.ownsRow w.heap.size 124 6 v2 n (Zn K)):=by show World.ownsRow _ _ _ _ _ _ _;simpa using hown3
 have HB3:=Zb ((Za HB).grown hgrow3 (Za HB).size (Wk (Za HO)))
 clear hown3 hgrow3
 go_wp2
 go_ret
 exact⟨v2,rfl,Za HW,Za HB3⟩
theorem Ra(a:Option Addr)(n c:Nat)(L:List Zh)(w:World)(hn:n≤4096)(h:CoinsAt w a n L)(hs:SlOk a n c) :
  Calls Tryz.prog 138 #[.slice a n c] w fun e w'=>∃ v,∃ K:List CV,e = .returned v∧K.map (·.1)=L∧(∀ x∈K,LkAt w x)∧w'.ownsRow w.heap.size 124 6 v K.length (Zn K)∧Below w.heap.size w w':=by
 obtain⟨hl,hc⟩:=h
 cases a with
 | none=>
  obtain⟨rfl,rfl⟩:=hs.2.2 rfl
  have e:L=[]:=List.length_eq_zero_iff.1 hl
  subst e
  exact (Ks w).mono fun e w' ⟨x,y⟩=>⟨_,[],x,rfl,fun _ hx=>(by cases hx),y ▸ ⟨rfl,.inl ⟨rfl,rfl⟩⟩,y ▸ Below.refl _ _⟩
 | some ad=>
  by_cases h0:n=0
  ·subst h0
   have e:L=[]:=List.length_eq_zero_iff.1 hl
   subst e
   exact (Jj ad 0 c [] w hn rfl (fun j u hj=>by simp[Zn] at hj)).mono fun e w' ⟨v,x,y,z⟩=>⟨v,[],x,rfl,fun _ hx=>(by cases hx),y,z⟩
  ·obtain⟨b,off,e,_,hcell⟩:=hc (by omega)
   obtain⟨rfl⟩:=e
   obtain⟨K,h1,h2,h3⟩:=Qa hcell
   have hk:K.length=n:=by rw[←hl,←h1,List.length_map]
   exact (Jj ⟨b,off,none⟩ n c K w hn hk (fun j u hj=>by rw[Addr.add_lit];exact h3 j u hj)).mono fun e w' ⟨v,x,y,z⟩=>⟨v,K,x,h1,h2,by rw[hk];exact y,z⟩
end Go.Proofs.YtmomfkikogbdeaaGreatDoor
