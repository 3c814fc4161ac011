import Derived.Laws.AppendOwnNone
import Derived.Deep.AppendLies
import Derived.Test.YtpikejjiignchaaGreatDoorG6
set_option maxHeartbeats 3200000
set_option maxRecDepth 10000
namespace Go.Proofs.YtpikejjiignchaaGreatDoor.Bk
def place(s:ByteArray):List ByteArray→Nat
 | []=>0
 | x :: r=>if x=s then 1 else if place s r=0 then 0 else place s r+1
theorem place_zero{s:ByteArray}:∀ {L:List ByteArray},place s L=0↔s∉L
 | []=>by simp[place]
 | x :: r=>by
  unfold place
  have ih:=place_zero (s:=s) (L:=r)
  by_cases h:x=s
  ·simp[h]
  ·have h':¬s=x:=fun e=>h e.symm
   rw[if_neg h]
   by_cases hr:place s r=0
   ·rw[if_pos hr];simp[h',ih.1 hr]
   ·rw[if_neg hr]
    have:s∈r:=by
     rcases Classical.em (s∈r) with m|m
     ·exact m
     ·exact absurd (ih.2 m) hr
    simp[this]
theorem Bi(s:ByteArray):∀ L:List ByteArray,place s L≤L.length
 | []=>by simp[place]
 | x :: r=>by
  unfold place
  have:=Bi s r
  split
  ·simp
  ·split
   ·simp
   ·simp;exact this
theorem Wn(s:ByteArray):∀ (L M:List ByteArray),place s (L++M)=if place s L=0 then (if place s M=0 then 0 else L.length+place s M) else place s L
 | [],M=>by
  have e:place s []=0:=rfl
  rw[e,if_pos rfl,List.nil_append]
  by_cases hM:place s M=0
  ·rw[if_pos hM];exact hM
  ·rw[if_neg hM];simp
 | x :: r,M=>by
  have e1:place s (x :: r)=if x=s then 1 else if place s r=0 then 0 else place s r+1:=rfl
  have e2:place s ((x :: r)++M)=if x=s then 1 else if place s (r++M)=0 then 0 else place s (r++M)+1:=rfl
  rw[e2,Wn s r M]
  by_cases hx:x=s
  ·rw[if_pos hx] at *
   rw[e1];simp
  ·rw[if_neg hx] at *
   by_cases hr:place s r=0
   ·rw[if_pos hr] at e1
    rw[e1,hr]
    by_cases hM:place s M=0
    ·simp[hM]
    ·simp only[hM,if_true,if_false,List.length_cons]
     rw[if_neg (by omega)];omega
   ·rw[if_neg hr] at e1
    rw[e1,if_neg hr,if_neg hr,if_neg (by omega)]
theorem Kl{s:ByteArray}{L:List ByteArray}(h:s∉L):place s (L++[s])=L.length+1:=by
 rw[Wn,if_pos (place_zero.2 h)];simp[place]
theorem Bh{s t:ByteArray}(L:List ByteArray)(h:s≠t):place s (L++[t])=place s L:=by
 rw[Wn]
 have e:place s [t]=0:=by rw[place_zero];simp[h]
 rw[e]
 split
 ·rw[if_pos rfl];rename_i e2;exact e2.symm
 ·rfl
theorem Q9(s:ByteArray):∀ (L:List ByteArray) (k:Nat),place s (L.take k)=if place s L≤k then place s L else 0
 | [],k=>by simp[place]
 | x :: r,0=>by
  have e:place s (List.take 0 (x :: r))=0:=rfl
  rw[e];split <;> omega
 | x :: r,k+1=>by
  have e1:place s (x :: r)=if x=s then 1 else if place s r=0 then 0 else place s r+1:=rfl
  have e2:place s ((x :: r).take (k+1))=if x=s then 1 else if place s (r.take k)=0 then 0 else place s (r.take k)+1:=rfl
  rw[e2,Q9 s r k]
  by_cases hx:x=s
  ·rw[if_pos hx] at *
   rw[e1,if_pos (by omega)]
  ·rw[if_neg hx] at *
   by_cases hr:place s r=0
   ·rw[if_pos hr] at e1
    rw[e1,hr];simp
   ·rw[if_neg hr] at e1
    rw[e1]
    by_cases hk:place s r≤k
    ·rw[if_pos hk,if_neg hr,if_pos (by omega)]
    ·rw[if_neg hk,if_pos rfl,if_neg (by omega)]
theorem Zgo{L:List ByteArray}{k:Nat}(h:k<L.length):0<place L[k] L∧place L[k] L≤k+1:=by
 have h1:0<place L[k] L:=by
  rcases Nat.eq_zero_or_pos (place L[k] L) with e|e
  ·exact absurd (List.getElem_mem h) (place_zero.1 e)
  ·exact e
 refine⟨h1,?_⟩
 have h2:=Q9 L[k] L (k+1)
 by_cases h3:place L[k] L≤k+1
 ·exact h3
 ·rw[if_neg h3,place_zero] at h2
  exact absurd (List.mem_take_iff_getElem.2 ⟨k,Nat.lt_min.2 ⟨Nat.lt_succ_self k,h⟩,rfl⟩) h2
def Rc(seen:List ByteArray):List ByteArray→Int
 | []=>0
 | s :: r=>if 4000<s.size then 2 else if place s seen≠0 then 6 else Rc (seen++[s]) r
def bkChk(L:List ByteArray):Int:=if 120<L.length then 2 else Rc [] L
theorem Zkp{L:List ByteArray}{k:Nat}(h:k<L.length):Rc (L.take k) (L.drop k)=if 4000<L[k].size then 2 else if place L[k] (L.take k)≠0 then 6 else Rc (L.take (k+1)) (L.drop (k+1)):=by
 rw[List.drop_eq_getElem_cons h,Rc,List.take_succ_eq_append_getElem h]
theorem Zil{L:List ByteArray}{k:Nat}(h:L.length≤k):Rc (L.take k) (L.drop k)=0:=by
 rw[List.drop_of_length_le h];rfl
theorem Di:∀ (L seen:List ByteArray),Rc seen L=0→seen.Nodup→(seen++L).Nodup∧∀ s∈L,s.size≤4000
 | [],seen,_,hs=>by simpa using hs
 | s :: r,seen,h,hs=>by
  unfold Rc at h
  by_cases h1:4000<s.size
  ·rw[if_pos h1] at h;omega
  ·rw[if_neg h1] at h
   by_cases h2:place s seen≠0
   ·rw[if_pos h2] at h;omega
   ·rw[if_neg h2] at h
    have h3:s∉seen:=place_zero.1 (by omega)
    have hn:(seen++[s]).Nodup:=by
     rw[List.nodup_append]
     exact⟨hs,by simp,fun a ha b hb=>by simp at hb;subst hb;exact fun e=>h3 (e ▸ ha)⟩
    have ih:=Di r (seen++[s]) h hn
    rw[List.append_assoc] at ih
    refine⟨ih.1,fun x hx=>?_⟩
    rcases List.mem_cons.1 hx with rfl|hx
    ·omega
    ·exact ih.2 x hx
theorem Mg:∀ (L seen:List ByteArray),(seen++L).Nodup→(∀ s∈L,s.size≤4000)→Rc seen L=0
 | [],_,_,_=>rfl
 | s :: r,seen,hn,hs=>by
  unfold Rc
  have h1:¬4000<s.size:=by have:=hs s (by simp);omega
  have h2:s∉seen:=by
   intro hm
   rw[List.nodup_append] at hn
   exact hn.2.2 s hm s (by simp) rfl
  rw[if_neg h1,if_neg (by rw[place_zero.2 h2];decide)]
  refine Mg r (seen++[s]) (by rw[List.append_assoc];exact hn) (fun x hx=>hs x (by simp[hx]))
def Right(L:List ByteArray):Prop:=L.length≤120∧L.Nodup∧∀ s∈L,s.size≤4000
theorem right_iff(L:List ByteArray):bkChk L=0↔Right L:=by
 unfold bkChk Right
 by_cases h:120<L.length
 ·rw[if_pos h];constructor
  ·intro e;omega
  ·intro ⟨e,_⟩;omega
 ·rw[if_neg h]
  constructor
  ·intro e
   have:=Di L [] e List.nodup_nil
   exact⟨by omega,this.1,this.2⟩
  ·intro ⟨_,h1,h2⟩
   exact Mg L [] h1 h2
def nm(L:List ByteArray)(s:ByteArray):List ByteArray×Int×Int:=
 if 4000<s.size then ([],0,2) else if place s L≠0 then (L,(place s L:Int),0) else if 120≤L.length then ([],0,12) else (L++[s],L.length+1,0)
def nmGo(L:List ByteArray)(N:List Int):List ByteArray→List ByteArray×List Int×Int
 | []=>(L,N,0)
 | s :: r=>if (nm L s).2.2=0 then nmGo (nm L s).1 (N++[(nm L s).2.1]) r else ([],[],(nm L s).2.2)
theorem Ky{L:List ByteArray}{s:ByteArray}(h:Right L)(h0:(nm L s).2.2=0):Right (nm L s).1:=by
 unfold nm at *
 by_cases h1:4000<s.size
 ·rw[if_pos h1] at h0;cases h0
 ·rw[if_neg h1] at *
  by_cases h2:place s L≠0
  ·rw[if_pos h2] at *;exact h
  ·rw[if_neg h2] at *
   by_cases h3:120≤L.length
   ·rw[if_pos h3] at h0;cases h0
   ·rw[if_neg h3] at *
    have h4:s∉L:=place_zero.1 (by omega)
    refine⟨by simp;omega,?_,fun x hx=>?_⟩
    ·rw[List.nodup_append]
     exact⟨h.2.1,by simp,fun a ha b hb=>by simp at hb;subst hb;exact fun e=>h4 (e ▸ ha)⟩
    ·rcases List.mem_append.1 hx with hx|hx
     ·exact h.2.2 x hx
     ·simp at hx;subst hx;omega
theorem Zgx{L:List ByteArray}{s:ByteArray}(h0:(nm L s).2.2=0):∃ M,(nm L s).1=L++M:=by
 unfold nm at *
 by_cases h1:4000<s.size
 ·rw[if_pos h1] at h0;cases h0
 ·rw[if_neg h1] at *
  by_cases h2:place s L≠0
  ·rw[if_pos h2];exact⟨[],by simp⟩
  ·rw[if_neg h2] at *
   by_cases h3:120≤L.length
   ·rw[if_pos h3] at h0;cases h0
   ·rw[if_neg h3];exact⟨[s],rfl⟩
theorem nm_place{L:List ByteArray}{s:ByteArray}(h0:(nm L s).2.2=0):(nm L s).2.1=(place s (nm L s).1:Int)∧0<place s (nm L s).1∧s.size≤4000:=by
 unfold nm at *
 by_cases h1:4000<s.size
 ·rw[if_pos h1] at h0;cases h0
 ·rw[if_neg h1] at *
  by_cases h2:place s L≠0
  ·rw[if_pos h2];exact⟨rfl,by show 0<place s L;omega,by omega⟩
  ·rw[if_neg h2] at *
   by_cases h3:120≤L.length
   ·rw[if_pos h3] at h0;cases h0
   ·rw[if_neg h3]
    have h4:s∉L:=place_zero.1 (by omega)
    show (L.length:Int)+1=_∧_
    simp only[Kl h4]
    exact⟨by simp,by omega,by omega⟩
theorem nmGo_grows:∀ (l:List ByteArray) (L:List ByteArray) (N:List Int),(nmGo L N l).2.2=0→∃ M,(nmGo L N l).1=L++M
 | [],L,N,_=>⟨[],by simp[nmGo]⟩
 | s :: r,L,N,h=>by
  unfold nmGo at *
  by_cases h0:(nm L s).2.2=0
  ·rw[if_pos h0] at *
   obtain⟨M,hM⟩:=Zgx h0
   obtain⟨K,hK⟩:=nmGo_grows r _ _ h
   exact⟨M++K,by rw[hK,hM,List.append_assoc]⟩
  ·rw[if_neg h0] at *;exact absurd h h0
theorem nmGo_right:∀ (l:List ByteArray) (L:List ByteArray) (N:List Int),Right L→(nmGo L N l).2.2=0→Right (nmGo L N l).1
 | [],L,N,hR,_=>hR
 | s :: r,L,N,hR,h=>by
  unfold nmGo at *
  by_cases h0:(nm L s).2.2=0
  ·rw[if_pos h0] at *
   exact nmGo_right r _ _ (Ky hR h0) h
  ·rw[if_neg h0] at *;exact absurd h h0
theorem place_stays{s:ByteArray}{L:List ByteArray}(M:List ByteArray)(h:0<place s L):place s (L++M)=place s L:=by
 rw[Wn,if_neg (by omega)]
open Go.RowKit Go.Maps
theorem Zb{p:Prop}(h:p):Hid p:=h
theorem Za{p:Prop}(h:Hid p):p:=h
theorem Ze{w w1 w2:World}(h1:Below w.heap.size w w1)(h2:Below w1.heap.size w1 w2):Below w.heap.size w w2:=h1.trans (h2.mono h1.size)
theorem Zg(w:World)(o:Obj):Below w.heap.size w (w.alloc o):=(Below.refl _ _).alloc (Nat.le_refl _) _
theorem Pc(w:World)(n:Nat):Below w.heap.size w (w.drewN n):=⟨rfl,rfl,rfl,Nat.le_refl _,fun _ _=>rfl⟩
theorem Zc{w w':World}{p:Addr}{v:Value}(hb:Below w.heap.size w w')(h:w.cell? p=some v):w'.cell? p=some v:=by
 rw[hb.cell (p:=p) (World.block_lt_of_cell? _ _ h)];exact h
theorem Rk(w:World)(x:Value)(t:TypeId):(w.alloc (.cells #[x] t)).cell? ⟨w.heap.size,0,none⟩=some x:=by
 rw[World.cell?_alloc_at _ _ _ _ rfl];rfl
def TextsAt(w:World)(a:Option Addr)(len:Nat)(L:List ByteArray):Prop:=
 L.length=len∧(0<len→∃ b off,a=some ⟨b,off,none⟩∧∀ i (h:i<L.length),w.cell? ⟨b,off+i,none⟩=some (.string L[i]))
theorem TextsAt.later{w w':World}{a:Option Addr}{len:Nat}{L:List ByteArray}(h:TextsAt w a len L)(hb:Below w.heap.size w w'):TextsAt w' a len L:=by
 refine⟨h.1,fun h0=>?_⟩
 obtain⟨b,off,e,hc⟩:=h.2 h0
 exact⟨b,off,e,fun i hi=>Zc hb (hc i hi)⟩
theorem TextsAt.nil(w:World)(a:Option Addr):TextsAt w a 0 []:=⟨rfl,fun h=>absurd h (by omega)⟩
theorem TextsAt.lt{w:World}{a:Option Addr}{len:Nat}{L:List ByteArray}(h:TextsAt w a len L)(x:Addr)(hx:a=some x)(h0:0<len):x.block<w.heap.size:=by
 obtain⟨b,off,e,hc⟩:=h.2 h0
 have hz:=h.1
 rw[hx] at e
 cases e
 exact World.block_lt_of_cell? _ _ (hc 0 (by omega))
theorem Ut{w:World}{base:Nat}{e:TypeId}{size:Nat}{v:Value}{n:Nat}{xs:List Value}(h:w.ownsRow base e size v n xs)(k:Nat)(hk:v.ownBlock=some k):base≤k:=by
 rcases h.2 with ⟨rfl,_⟩|⟨g,cap,cur,rfl,hg,_⟩
 ·cases hk
 ·cases hk;exact hg
theorem Wq{w w':World}{base:Nat}{e:TypeId}{size:Nat}{v:Value}{n:Nat}{xs:List Value}(h:w.ownsRow base e size v n xs)(hk:∀ (k:Nat) (cs:Array Value),base≤k→w.heap[k]? = some (.cells cs e (0,0))→w'.heap[k]? = w.heap[k]?):w'.ownsRow base e size v n xs:=by
 obtain⟨hl,h0|⟨g,cap,cur,hv,hg,hh,r⟩⟩:=h
 ·exact⟨hl,.inl h0⟩
 ·exact⟨hl,.inr ⟨g,cap,cur,hv,hg,(hk g cur hg hh).trans hh,r⟩⟩
theorem Pv{w w':World}{base:Nat}{e:TypeId}{size:Nat}{v:Value}{n:Nat}{xs:List Value}(h:w.ownsRow base e size v n xs)(hg:w.grownBy w' v.ownBlock)(k:Nat)(cs:Array Value)(t:TypeId)(hk:w.heap[k]? = some (.cells cs t (0,0)))(ht:t≠e):w'.heap[k]? = w.heap[k]?:=by
 refine hg.block k (lt_of_block hk) (fun e1=>?_)
 obtain⟨_,⟨rfl,_⟩|⟨g,cap,cur,rfl,_,hh,_⟩⟩:=h
 ·cases e1
 ·have e2:k=g:=by injection e1
  subst e2
  rw[hk] at hh
  injection hh with hh
  injection hh with _ hh
  exact ht hh
theorem Wl{w:World}{base:Nat}{v:Value}{n:Nat}{L:List ByteArray}(h:w.ownsRow base 9 1 v n (L.map Value.string)):∃ a cap,v = .slice a n cap∧n≤cap∧cap≤maxLen∧(a=none→n=0∧cap=0)∧TextsAt w a n L:=by
 have hl:L.length=n:=by have:=h.1;simpa using this
 rcases h.2 with ⟨rfl,rfl⟩|⟨g,cap,cur,rfl,_,_,h1,h2,_,_⟩
 ·have e:L=[]:=List.length_eq_zero_iff.1 hl
  subst e
  exact⟨none,0,rfl,Nat.le_refl _,by unfold maxLen;omega,fun _=>⟨rfl,rfl⟩,TextsAt.nil _ _⟩
 ·refine⟨_,cap,rfl,h1,h2,fun e=>(by cases e),hl,fun _=>⟨g,0,rfl,fun i hi=>?_⟩⟩
  rw[Nat.zero_add,World.ownsRow.cellAt h i (by omega)]
  simp[hi]
theorem Yu(n lo hi:Int)(b:Bool)(w:World)(hb:b=(decide (lo≤n) && decide (n≤hi))) :
  Calls Tryz.prog 114 #[.int .i64 n,.int .i64 lo,.int .i64 hi] w fun e w'=>e = .returned (.bool b)∧w=w':=by
 by_cases h1:lo≤n
 ·by_cases h2:n≤hi
  ·have e:b=true:=by rw[hb];simp[h1,h2]
   subst e
   clear hb
   go_enter Tryz.func114,Tryz.ntmps114
   go_wp2
   go_ret
   exact⟨rfl,rfl⟩
  ·have e:b=false:=by rw[hb];simp[h2]
   have h4:decide (n≤hi)=false:=by simp;omega
   have h5:hi<n:=by omega
   subst e
   clear hb h2
   go_enter Tryz.func114,Tryz.ntmps114
   go_wp2
   go_ret
   exact⟨rfl,rfl⟩
 ·have e:b=false:=by rw[hb];simp[h1]
  have h5:n<lo:=by omega
  subst e
  clear hb h1
  go_enter Tryz.func114,Tryz.ntmps114
  go_wp2
  go_ret
  exact⟨rfl,rfl⟩
theorem Tryz.info9:(Tryz.prog.info? 9).map (fun i=>(i.zero,i.size,i.bytes))=some (some (.string ⟨#[]⟩),1,16):=by kernel_rfl
theorem Tryz.infoInt:(Tryz.prog.info? 3).map (fun i=>(i.zero,i.size,i.bytes))=some (some (.int .i64 0),1,8):=by kernel_rfl
theorem key9:Keyed Tryz.prog 9:=string_keyed Tryz.underlying9
theorem Xf(w:World):(zeroValue 3).run Tryz.prog w = .ok (.int .i64 0) w:=by kernel_rfl
open Go.RowKit Go.Maps
abbrev D9(s:ByteArray):Lit:=.string s.data.toList
abbrev Pp(n:Int):DataW Unit:=.lit (.int .i64 n)
structure Wr(base p bm:Nat)(wr:World)(v:Value)(D:DataW Unit)(L:List ByteArray):Prop where
 box:wr.heap[p]? = some (.cells #[v,.map (some bm)] 193 (0,0))
 pge:base≤p
 mge:base≤bm
 own:wr.ownsRow base 9 1 v L.length (L.map Value.string)
 map:wr.ownsMap Tryz.prog 9 (plainElem (H:=Unit) Tryz.prog 3) bm L.length D
 ism:IsMap D
 names:∀ s:ByteArray,D.atKey (D9 s) (Pp 0)=Pp (place s L:Nat)
def Far(w w':World):Prop:=∀ (k:Nat) (cs:Array Value) (t:TypeId),w.heap[k]? = some (.cells cs t (0,0))→t≠9→t≠193→w'.heap[k]? = w.heap[k]?
theorem Far.refl(w:World):Far w w:=fun _ _ _ _ _ _=>rfl
theorem Far.trans{a b c:World}(h:Far a b)(g:Far b c):Far a c:=fun k cs t hk h1 h2=>(g k cs t ((h k cs t hk h1 h2).trans hk) h1 h2).trans (h k cs t hk h1 h2)
theorem Zka{w w':World}(h:Below w.heap.size w w'):Far w w':=fun k _ _ hk _ _=>h.block k (lt_of_block hk)
theorem Wr.keep{base p bm:Nat}{w w':World}{v:Value}{D:DataW Unit}{L:List ByteArray}(h:Wr base p bm w v D L)(hb:Below w.heap.size w w'):Wr base p bm w' v D L:=by
 refine⟨(hb.block p (lt_of_block h.box)).trans h.box,h.pge,h.mge,Wq h.own (fun k cs _ hk=>hb.block k (lt_of_block hk)),?_,h.ism,h.names⟩
 obtain⟨es,clock,h1,r⟩:=h.map
 exact⟨es,clock,(hb.block bm (lt_of_block h1)).trans h1,r⟩
theorem Wr.cell0{base p bm:Nat}{w:World}{v:Value}{D:DataW Unit}{L:List ByteArray}(h:Wr base p bm w v D L):w.cell? ⟨p,0,none⟩=some v∧w.cell? ⟨p,1,none⟩=some (.map (some bm))∧w.frozen? ⟨p,0,none⟩=false:=by
 refine⟨?_,?_,?_⟩
 ·simp[World.cell?,h.box]
 ·simp[World.cell?,h.box]
 ·simp[World.frozen?,h.box]
theorem Zdv{D:DataW Unit}{L:List ByteArray}{s:ByteArray}(hm:IsMap D)(h:∀ s:ByteArray,D.atKey (D9 s) (Pp 0)=Pp (place s L:Nat))(hs:s∉L) :
  ∀ x:ByteArray,(D.put (D9 s) (Pp ((L.length:Int)+1))).atKey (D9 x) (Pp 0)=Pp (place x (L++[s]):Nat):=by
 intro x
 by_cases e:x=s
 ·subst e
  rw[atKey_put_same hm (by simp[WideAt.IsKeyLit]),Kl hs];simp
 ·have hne:D9 x≠D9 s:=by
   intro h2
   apply e
   have h3:x.data.toList=s.data.toList:=by injection h2
   have h4:x.data=s.data:=by rw[←Array.toList_inj];exact h3
   cases x;cases s;simp_all
  rw[atKey_put_other hne,h x,Bh L e]
theorem My(w:World)(p:Nat)(x y v:Value)(t:TypeId)(h:w.heap[p]? = some (.cells #[x,y] t (0,0))):(w.setCell ⟨p,0,none⟩ v).heap[p]? = some (.cells #[v,y] t (0,0)):=by
 rw[heap_setCell_same w p 0 #[x,y] t v h];rfl
structure Mid(base p bm:Nat)(X Y:World)(v:Value)(D:DataW Unit)(L:List ByteArray)(s:ByteArray):Prop where
 box:Y.heap[p]? = some (.cells #[v,.map (some bm)] 193 (0,0))
 own:Y.ownsRow base 9 1 v (L.length+1) ((L++[s]).map Value.string)
 map:Y.ownsMap Tryz.prog 9 (plainElem (H:=Unit) Tryz.prog 3) bm L.length D
 bel:Below base X Y
 far:Far X Y
theorem Wr.mid{base p bm:Nat}{X w3:World}{v v3:Value}{D:DataW Unit}{L:List ByteArray}{s:ByteArray}(h:Wr base p bm X v D L)
  (hown:w3.ownsRow base 9 1 v3 (L.length+1) (L.map Value.string++[.string s])) (hg:X.grownBy w3 v.ownBlock):Mid base p bm X (w3.setCell ⟨p,0,none⟩ v3) v3 D L s:=by
 have hpl:=lt_of_block h.box
 have hbase:base≤X.heap.size:=Nat.le_trans h.pge (Nat.le_of_lt hpl)
 have far:∀ (k:Nat) (cs:Array Value) (t:TypeId),X.heap[k]? = some (.cells cs t (0,0))→t≠9→w3.heap[k]? = X.heap[k]?:=fun k cs t hk ht=>Pv h.own hg k cs t hk ht
 have box3:w3.heap[p]? = some (.cells #[v,.map (some bm)] 193 (0,0)):=(far _ _ _ h.box (by decide)).trans h.box
 have far3:∀ (k:Nat),k≠p→(w3.setCell ⟨p,0,none⟩ v3).heap[k]? = w3.heap[k]?:=fun k hk=>heap_setCell_other w3 ⟨p,0,none⟩ k v3 hk
 refine⟨My w3 p v _ v3 _ box3,?_,?_,?_,?_⟩
 ·rw[List.map_append]
  refine Wq hown (fun k cs _ hk=>far3 k (fun e=>?_))
  subst e
  rw[box3] at hk
  injection hk with hk
  injection hk with _ hk
  exact absurd hk (by decide)
 ·obtain⟨es,clock,h1,r⟩:=h.map
  have hne:some bm≠v.ownBlock:=by
   intro e
   obtain⟨_,⟨rfl,_⟩|⟨g,cap,cur,rfl,_,hh,_⟩⟩:=h.own
   ·cases e
   ·have e2:bm=g:=by injection e
    subst e2
    rw[h1] at hh
    cases hh
  have h3:w3.heap[bm]? = X.heap[bm]?:=hg.block bm (lt_of_block h1) hne
  have hp:bm≠p:=by
   intro e
   subst e
   rw[h.box] at h1
   cases h1
  exact⟨es,clock,(far3 bm hp).trans (h3.trans h1),r⟩
 ·exact ((Below.refl base X).grown hg hbase (fun k hk=>Ut h.own k hk)).setCell h.pge _
 ·intro k cs t hk h9 h50
  have hp:k≠p:=by
   intro e
   subst e
   rw[h.box] at hk
   injection hk with hk
   injection hk with _ hk
   exact h50 hk.symm
  exact (far3 k hp).trans (far k cs t hk h9)
theorem Mid.wr{base p bm:Nat}{X Y w4:World}{v:Value}{D:DataW Unit}{L:List ByteArray}{s:ByteArray}(h:Mid base p bm X Y v D L s)(hm:IsMap D)(hp:base≤p)(hb:base≤bm)(hs:s∉L)
  (names:∀ s:ByteArray,D.atKey (D9 s) (Pp 0)=Pp (place s L:Nat))
  (hown:w4.ownsMap Tryz.prog 9 (plainElem (H:=Unit) Tryz.prog 3) bm (L.length+1) (D.put (D9 s) (Pp ((L.length:Int)+1)))) (hg:Y.grownBy w4 (some bm)) :
  Wr base p bm w4 v (D.put (D9 s) (Pp ((L.length:Int)+1))) (L++[s])∧Below base X w4∧Far X w4:=by
 have kept:∀ (k:Nat) (cs:Array Value) (t:TypeId),Y.heap[k]? = some (.cells cs t (0,0))→w4.heap[k]? = Y.heap[k]?:=fun k cs t hk=>hg.block k (lt_of_block hk) (fun e=>by
  have e2:k=bm:=by injection e
  subst e2
  obtain⟨es,clock,h1,_⟩:=h.map
  rw[h1] at hk
  cases hk)
 have hl:(L++[s]).length=L.length+1:=by simp
 have hYs:base≤Y.heap.size:=Nat.le_trans hp (Nat.le_of_lt (lt_of_block h.box))
 refine⟨⟨(kept _ _ _ h.box).trans h.box,hp,hb,?_,?_,?_,Zdv hm names hs⟩,?_,?_⟩
 ·rw[hl];exact Wq h.own (fun k cs _ hk=>kept k cs _ hk)
 ·rw[hl];exact hown
 ·obtain⟨es,rfl⟩:=hm
  exact⟨_,rfl⟩
 ·exact h.bel.trans ((Below.refl base Y).grown hg hYs (fun k hk=>by injection hk with hk;omega))
 ·exact fun k cs t hk h9 h50=>(kept k cs t ((h.far k cs t hk h9 h50).trans hk)).trans (h.far k cs t hk h9 h50)
open Go.RowKit Go.Maps
theorem add_is(base p bm:Nat)(v:Value)(D:DataW Unit)(L:List ByteArray)(s:ByteArray)(w:World)(hW:Wr base p bm w v D L)(hL:L.length≤120)(hs:s∉L)(hz:s.size≤4000) :
  Calls Tryz.prog 118 #[.pointer (some ⟨p,0,none⟩),.string s] w fun e w'=>e = .returned (.int .i64 ((L.length:Int)+1))∧(∃ v' D',Wr base p bm w' v' D' (L++[s]))∧Below base w w'∧Far w w':=by
 obtain⟨i0,hi,hz0,hz1,hz2⟩:=info_parts Tryz.info9
 have hpl:=lt_of_block hW.box
 have hbase:base≤w.heap.size:=Nat.le_trans hW.pge (Nat.le_of_lt hpl)
 obtain⟨X,hX⟩:∃ X,X=w.alloc (.cells #[.string s] 9):=⟨_,rfl⟩
 have hbX:Below w.heap.size w X:=by rw[hX];exact Zg _ _
 have hXs:X.heap.size=w.heap.size+1:=by rw[hX];simp
 have hnew:X.heap[w.heap.size]? = some (.cells #[.string s] 9 (0,0)):=by rw[hX];exact heap_alloc_new _ _
 have WX:=hW.keep hbX
 obtain⟨c0,c1,cf⟩:=hW.cell0
 have NEWS:=Zb (World.news_of_block hnew)
 obtain⟨a,cap,rfl,-,-,-,-⟩:=Wl hW.own
 have OWN:=Zb WX.own
 have HW:=Zb WX
 have HL:=Zb hL
 have HS:=Zb hs
 have HZ:=Zb hz
 have HBX:=Zb hbX
 have HB:=Zb hbase
 have HXS:=Zb hXs
 clear WX hbX hnew hL hs hz hW hbase
 subst hX
 go_enter Tryz.func118,Tryz.ntmps118
 go_wp2_with (at_builtin;refine wpList_append_lies _ rfl _ _ 22 rfl base 9 i0 (.string ⟨#[]⟩) 1 16 Tryz.underlying22 hi hz0 hz1 hz2 rfl (by decide) _ _ _ rfl (Za OWN) ⟨w.heap.size,0,none⟩ 1 1 [.string s] rfl rfl (Za NEWS) (fun u hu=>by simp at hu;subst hu;rfl) (by decide) (by have:=Za HL;unfold maxLen;omega) (by have:=Za HL;omega) (by have:=Za HB;have:=Za HXS;omega) (w.heap.size+1) (Za HXS) ?_;intro g cap2 w3 hown3 hgrow3 hor3 hlt3;have M:=(Za HW).mid hown3 hgrow3;have hbox3:=(Pv (Za HW).own hgrow3 p _ _ (Za HW).box (by decide)).trans (Za HW).box;have d0:w3.cell? ⟨p,0,none⟩=some (.slice a L.length cap):=(by simp[World.cell?,hbox3]);have df:w3.frozen? ⟨p,0,none⟩=false:=(by simp[World.frozen?,hbox3]);have HM:=Zb M;clear M hbox3 hown3 hgrow3 hor3)
 obtain⟨Y,hY⟩:∃ Y,Y=w3.setCell ⟨p,0,none⟩ (.slice (some ⟨g,0,none⟩) (L.length+1) cap2):=⟨_,rfl⟩
 rw[←hY] at HM ⊢
 have M:=Za HM
 have e0:Y.cell? ⟨p,0,none⟩=some (.slice (some ⟨g,0,none⟩) (L.length+1) cap2):=by simp[World.cell?,M.box]
 have e1:Y.cell? ⟨p,1,none⟩=some (.map (some bm)):=by simp[World.cell?,M.box]
 have hD:Y.drew.ownsMap Tryz.prog 9 (plainElem (H:=Unit) Tryz.prog 3) bm L.length D:=M.map.drew
 obtain⟨w4,hrun,hown4,hg4⟩:=hD.update key9 Tryz.underlying191 (by have:=Za HL;unfold maxLen;omega) (Go.WideMaps.keyOf_string_mk Tryz.underlying9 (s:=s) (by have:=Za HZ;unfold maxLen;omega)) (plainElem_int (H:=Unit) Tryz.underlying3 (q:=.i64) (a:=(L.length:Int)+1) (by have:=Za HL;simp[Lit.wf,IntKind.min,IntKind.max,IntKind.signed,IntKind.bits];omega))
 have hg5:Y.grownBy w4 (some bm):=⟨hg4.1,hg4.2,hg4.3,hg4.4,hg4.5⟩
 have R:=Zb (M.wr (Za HW).ism (Za HW).pge (Za HW).mge (Za HS) (Za HW).names hown4 hg5)
 obtain⟨f0,f1,f2⟩:=(Za R).1.cell0
 clear hY M hD hown4 hg4 hg5 d0 df
 go_region
 go_wp2
 go_ret
 exact⟨rfl,⟨_,_,(Za R).1⟩,((Za HBX).mono (Za HB)).trans (Za R).2.1,(Zka (Za HBX)).trans (Za R).2.2⟩
theorem Zjp{a b:Int}(h:Pp a=Pp b):a=b:=by
 injection h with h
 injection h
theorem Wr.look{base p bm:Nat}{w:World}{v:Value}{D:DataW Unit}{L:List ByteArray}(h:Wr base p bm w v D L)(s:ByteArray)(hs:s.size≤4000) :
  Sem.run Tryz.prog (Instr.lookup 191 (.map (some bm)) (.string s) false) w = .ok (.int .i64 (place s L:Nat)) w:=by
 obtain⟨c,hrun,hat,_⟩:=h.map.lookup_int key9 Tryz.underlying191 Tryz.underlying3 (Xf w) (Go.WideMaps.keyOf_string_mk Tryz.underlying9 (s:=s) (by unfold maxLen;omega))
 have e:c=(place s L:Nat):=by
  have h2:=h.names s
  rw[h2] at hat
  exact (Zjp hat).symm
 subst e
 exact hrun
theorem Zjn(base p bm:Nat)(v:Value)(D:DataW Unit)(L M:List ByteArray)(s:ByteArray)(n e:Int)(w:World)(hW:Wr base p bm w v D L)(hL:L.length≤120)(hn:nm L s=(M,n,e)) :
  Calls Tryz.prog 128 #[.pointer (some ⟨p,0,none⟩),.string s] w fun x w'=>x = .returned (.tuple #[.int .i64 n,.int .i64 e])∧(e=0→∃ v' D',Wr base p bm w' v' D' M)∧Below base w w'∧Far w w':=by
 obtain⟨c0,c1,cf⟩:=hW.cell0
 have hW2:=hW
 obtain⟨a,cap,rfl,-,-,-,-⟩:=Wl hW.own
 have HW:=Zb hW2
 clear hW hW2
 by_cases h1:4000<s.size
 ·have e1:nm L s=([],0,2):=by unfold nm;rw[if_pos h1]
  rw[e1] at hn
  obtain⟨rfl,hn2⟩:=Prod.mk.injEq .. ▸ hn
  obtain⟨rfl,rfl⟩:=Prod.mk.injEq .. ▸ hn2
  have g:(4000:Int)<(s.size:Int):=by omega
  clear hn hn2 e1 h1
  go_enter Tryz.func128,Tryz.ntmps128
  go_wp2
  go_ret2
  exact⟨rfl,fun h=>absurd h (by decide),Below.refl _ _,Far.refl _⟩
 ·have hz:s.size≤4000:=by omega
  have g:¬(4000:Int)<(s.size:Int):=by omega
  have hrun:=(Za HW).look s hz
  by_cases h2:place s L≠0
  ·have e1:nm L s=(L,(place s L:Int),0):=by unfold nm;rw[if_neg h1,if_pos h2]
   rw[e1] at hn
   obtain⟨rfl,hn2⟩:=Prod.mk.injEq .. ▸ hn
   obtain⟨rfl,rfl⟩:=Prod.mk.injEq .. ▸ hn2
   obtain⟨q,hq⟩:∃ q,place s L=q:=⟨_,rfl⟩
   rw[hq] at hrun h2 ⊢
   have g2:((q:Int) != 0)=true:=by simp;omega
   clear hn hn2 e1 h1 h2 hq
   go_enter Tryz.func128,Tryz.ntmps128
   go_wp2
   go_ret2
   first|exact⟨rfl,fun _=>⟨_,_,Za HW⟩,Below.refl _ _,Far.refl _⟩|exact⟨rfl,⟨_,_,Za HW⟩,Below.refl _ _,Far.refl _⟩
  ·have h3:place s L=0:=by omega
   rw[h3] at hrun
   by_cases h4:120≤L.length
   ·have e1:nm L s=([],0,12):=by unfold nm;rw[if_neg h1,if_neg h2,if_pos h4]
    rw[e1] at hn
    obtain⟨rfl,hn2⟩:=Prod.mk.injEq .. ▸ hn
    obtain⟨rfl,rfl⟩:=Prod.mk.injEq .. ▸ hn2
    have g2:((L.length:Int) == 120)=true:=by simp;omega
    clear hn hn2 e1 h1 h2 h3 h4
    go_enter Tryz.func128,Tryz.ntmps128
    go_wp2
    go_ret2
    first|exact⟨rfl,fun h=>absurd h (by decide),Below.refl _ _,Far.refl _⟩|exact⟨rfl,Below.refl _ _,Far.refl _⟩
   ·have e1:nm L s=(L++[s],(L.length:Int)+1,0):=by unfold nm;rw[if_neg h1,if_neg h2,if_neg h4]
    rw[e1] at hn
    obtain⟨rfl,hn2⟩:=Prod.mk.injEq .. ▸ hn
    obtain⟨rfl,rfl⟩:=Prod.mk.injEq .. ▸ hn2
    have g2:((L.length:Int) == 120)=false:=by simp;omega
    have A:=Zb (add_is base p bm _ D L s w (Za HW) hL (place_zero.1 h3) hz)
    clear hn hn2 e1 h1 h2 h3 h4
    go_enter Tryz.func128,Tryz.ntmps128
    go_wp2_with fail
    refine (Za A).mono ?_
    rintro x w2 ⟨rfl,hw2,hb2,hf2⟩
    have H2:=Zb hw2
    have HB2:=Zb hb2
    have HF2:=Zb hf2
    clear hw2 hb2 hf2
    go_wp2
    go_ret2
    first|exact⟨rfl,fun _=>Za H2,Za HB2,Za HF2⟩|exact⟨rfl,Za H2,Za HB2,Za HF2⟩
open Go.RowKit Go.Maps
theorem La(n:Int)(w:World):(Instr.makeMap 191 (some (.int .i64 n))).run Tryz.prog w = .ok (.map (some w.heap.size)) (w.alloc (.map #[] 0)):=by kernel_rfl
theorem Zet(w:World)(base:Nat)(hb:base≤w.heap.size):Wr base (w.heap.size+1) w.heap.size ((w.alloc (.map #[] 0)).alloc (.cells #[.slice none 0 0,.map (some w.heap.size)] 193)) (.slice none 0 0) (.map []) []:=by
 have e:(w.alloc (.map #[] 0)).heap.size=w.heap.size+1:=by simp
 refine⟨?_,by omega,hb,⟨rfl,Or.inl ⟨rfl,rfl⟩⟩,?_,⟨[],rfl⟩,fun s=>rfl⟩
 ·have:=heap_alloc_new (w.alloc (.map #[] 0)) (.cells #[.slice none 0 0,.map (some w.heap.size)] 193)
  rw[e] at this
  exact this
 ·exact (World.ownsMap_made w Tryz.prog 9 (plainElem (H:=Unit) Tryz.prog 3)).alloc _
theorem Zdt(b off n c:Nat)(L:List ByteArray)(w:World)(hz:L.length=n)(h0:0<n)(h1:n≤120)(hb:b<w.heap.size)(hc:∀ i (h:i<L.length),w.cell? ⟨b,off+i,none⟩=some (.string L[i]))(x:Int)(hx:Rc [] L=x) :
  Calls Tryz.prog 72 #[.agg #[.slice (some ⟨b,off,none⟩) n c]] w fun e w'=>∃ v,e = .returned (.tuple #[v,.int .i64 x])∧(x=0→∃ p bm v' D',v = .pointer (some ⟨p,0,none⟩)∧Wr w.heap.size p bm w' v' D' L)∧Below w.heap.size w w':=by
 have hb1:=Zg w (.cells #[.slice (some ⟨b,off,none⟩) n c] 24)
 have hs1:(w.alloc (.cells #[.slice (some ⟨b,off,none⟩) n c] 24)).heap.size=w.heap.size+1:=by simp
 have W0:=Zet (w.alloc (.cells #[.slice (some ⟨b,off,none⟩) n c] 24)) w.heap.size (by omega)
 rw[hs1] at W0
 obtain⟨X,hX⟩:∃ X,X=((w.alloc (.cells #[.slice (some ⟨b,off,none⟩) n c] 24)).alloc (.map #[] 0)).alloc (.cells #[.slice none 0 0,.map (some (w.heap.size+1))] 193):=⟨_,rfl⟩
 have hbX:Below w.heap.size w X:=by
  rw[hX]
  exact Ze (Ze hb1 (Zg _ _)) (Zg _ _)
 have cX:X.cell? ⟨w.heap.size,0,none⟩=some (.slice (some ⟨b,off,none⟩) n c):=by
  rw[hX]
  exact Zc (Ze (Zg _ _) (Zg _ _)) (Rk w (.slice (some ⟨b,off,none⟩) n c) 24)
 rw[←hX] at W0
 have HW0:=Zb W0
 have HBX:=Zb hbX
 have HC:=Zb hc
 have HZ:=Zb hz
 have HX:=Zb hx
 have hmm:=La
 have g:¬(120:Int)<(n:Int):=by omega
 clear W0 hbX hc hz hx hb1 hs1
 go_enter Tryz.func72,Tryz.ntmps72
 go_wp2
 rw[←hX]
 clear hX
 go_loopw [20] (fun i wr=>∃ j:Nat,j≤n∧i = .int .i64 j∧Below w.heap.size w wr∧(∃ v D,Hid (Wr w.heap.size (w.heap.size+2) (w.heap.size+1) wr v D (L.take j)))∧Hid (Rc (L.take j) (L.drop j)=x)) (fun i _=>n - (intOf i).toNat)
 case atStart=>exact⟨0,Nat.zero_le _,rfl,Za HBX,⟨_,_,HW0⟩,Za HX⟩
 case round=>
  obtain⟨j,hk,rfl,hbw,⟨v,D,HW⟩,A⟩:=hrel
  have HB:=Zb hbw
  by_cases hlt:j<n
  ·have hlj:j<L.length:=by rw[Za HZ];exact hlt
   have f:=(World.cell?_of_block (hbw.block b hb)).trans ((Za HC) j hlj)
   have hlb:b<wr.heap.size:=Nat.lt_of_lt_of_le hb hbw.size
   obtain⟨c0,c1,cf⟩:=(Za HW).cell0
   have S:=Zkp hlj
   rw[Za A] at S
   have hl1:(L.take j).length=j:=by rw[List.length_take];omega
   have TK:=Zb (List.take_succ_eq_append_getElem hlj)
   obtain⟨s,hs⟩:∃ s,L[j]=s:=⟨_,rfl⟩
   rw[hs] at f S TK
   clear hs hbw A
   by_cases h2:4000<s.size
   ·rw[if_pos h2] at S
    subst S
    have g2:(4000:Int)<(s.size:Int):=by omega
    clear h2
    go_wp2
    go_ret2
    first|exact⟨_,rfl,fun h=>absurd h (by decide),Za HB⟩|exact⟨⟨_,rfl⟩,Za HB⟩
   ·rw[if_neg h2] at S
    have g2:¬(4000:Int)<(s.size:Int):=by omega
    have hz:s.size≤4000:=by omega
    have hrun:=(Za HW).look s hz
    by_cases h3:place s (L.take j)≠0
    ·rw[if_pos h3] at S
     subst S
     obtain⟨q,hq⟩:∃ q,place s (L.take j)=q:=⟨_,rfl⟩
     rw[hq] at hrun h3
     have g3:((q:Int) != 0)=true:=by simp;omega
     clear h2 h3 hq
     go_wp2
     go_ret2
     first|exact⟨_,rfl,fun h=>absurd h (by decide),Za HB⟩|exact⟨⟨_,rfl⟩,Za HB⟩
    ·rw[if_neg h3] at S
     have h4:place s (L.take j)=0:=by omega
     rw[h4] at hrun
     have AD:=Zb (add_is w.heap.size (w.heap.size+2) (w.heap.size+1) v D (L.take j) s wr (Za HW) (by omega) (place_zero.1 h4) hz)
     have HS:Hid (Rc (L.take (j+1)) (L.drop (j+1))=x):=S.symm
     clear h2 h3 h4 S
     go_wp2_with fail
     refine (Za AD).mono ?_
     rintro e w2 ⟨rfl,hw2,hb2,hf2⟩
     have H2:=Zb hw2
     have HB2:=Zb ((Za HB).trans hb2)
     clear hw2 hb2 hf2
     go_wp2
     go_roundw
     case rel=>
      obtain⟨v',D',hw'⟩:=Za H2
      exact⟨j+1,by omega,by go_num,Za HB2,⟨v',D',by rw[Za TK];exact hw'⟩,HS⟩
     case measure=>simp[intOf];omega
  ·have R:Hid (x=0):=by show _=_;rw[←Za A];exact Zil (by rw[Za HZ];omega)
   have HW2:Hid (∃ v' D',Wr w.heap.size (w.heap.size+2) (w.heap.size+1) wr v' D' L):=⟨v,D,by have:=Za HW;rw[List.take_of_length_le (by rw[Za HZ];omega)] at this;exact this⟩
   clear A hbw HW
   go_wp2
   go_ret2
   refine⟨.pointer (some ⟨w.heap.size+2,0,none⟩),?_,fun _=>?_,Za HB⟩
   ·rw[Za R];rfl
   ·obtain⟨v',D',hw'⟩:=Za HW2
    exact⟨_,_,v',D',rfl,hw'⟩
theorem D6(a:Option Addr)(n c:Nat)(L:List ByteArray)(w:World)(h:TextsAt w a n L)(x:Int)(hx:bkChk L=x) :
  Calls Tryz.prog 72 #[.agg #[.slice a n c]] w fun e w'=>∃ v,e = .returned (.tuple #[v,.int .i64 x])∧(x=0→∃ p bm v' D',v = .pointer (some ⟨p,0,none⟩)∧Wr w.heap.size p bm w' v' D' L)∧Below w.heap.size w w':=by
 have hz:=h.1
 by_cases h1:120<n
 ·have e:x=2:=by rw[←hx];unfold bkChk;rw[if_pos (by omega)]
  subst e
  have g:(120:Int)<(n:Int):=by omega
  have HB:=Zb (Zg w (.cells #[.slice a n c] 24))
  clear h hx h1 hz
  go_enter Tryz.func72,Tryz.ntmps72
  go_wp2
  go_ret2
  first|exact⟨_,rfl,fun h=>absurd h (by decide),Za HB⟩|exact⟨⟨_,rfl⟩,Za HB⟩
 ·have hx2:Rc [] L=x:=by rw[←hx];unfold bkChk;rw[if_neg (by omega)]
  by_cases h0:n=0
  ·subst h0
   have e:L=[]:=List.length_eq_zero_iff.1 hz
   subst e
   have e:x=0:=by rw[←hx2];rfl
   subst e
   have hs1:(w.alloc (.cells #[.slice a 0 c] 24)).heap.size=w.heap.size+1:=by simp
   have W0:=Zet (w.alloc (.cells #[.slice a 0 c] 24)) w.heap.size (by omega)
   rw[hs1] at W0
   have HW0:=Zb W0
   have HB:=Zb (Ze (Ze (Zg w (.cells #[.slice a 0 c] 24)) (Zg _ (.map #[] 0))) (Zg _ (.cells #[.slice none 0 0,.map (some (w.heap.size+1))] 193)))
   have hmm:=La
   clear h hx h1 hz hx2 hs1 W0
   go_enter Tryz.func72,Tryz.ntmps72
   go_wp2
   refine wp_loop_rounds 1 ?_
   rw[rounds_succ]
   go_wp2
   go_ret2
   refine⟨_,rfl,fun _=>⟨_,_,_,_,rfl,Za HW0⟩,Za HB⟩
  ·obtain⟨b,off,rfl,hc⟩:=h.2 (by omega)
   exact Zdt b off n c L w hz (by omega) (by omega) (World.block_lt_of_cell? _ _ (hc 0 (by omega))) hc x hx2
open Go.RowKit Go.Maps
def allR(L l:List ByteArray):List ByteArray×List Int×Int:=if bkChk L=0 then nmGo L [] l else ([],[],bkChk L)
def IntsAt(w:World)(a:Option Addr)(len:Nat)(Z:List Int):Prop:=
 Z.length=len∧(0<len→∃ b off,a=some ⟨b,off,none⟩∧∀ i (h:i<Z.length),w.cell? ⟨b,off+i,none⟩=some (.int .i64 Z[i]))
theorem IntsAt.later{w w':World}{a:Option Addr}{len:Nat}{Z:List Int}(h:IntsAt w a len Z)(hb:Below w.heap.size w w'):IntsAt w' a len Z:=by
 refine⟨h.1,fun h0=>?_⟩
 obtain⟨b,off,e,hc⟩:=h.2 h0
 exact⟨b,off,e,fun i hi=>Zc hb (hc i hi)⟩
theorem IntsAt.nil(w:World)(a:Option Addr):IntsAt w a 0 []:=⟨rfl,fun h=>absurd h (by omega)⟩
def SlOk(a:Option Addr)(n c:Nat):Prop:=n≤c∧c≤maxLen∧(a=none→n=0∧c=0)
theorem SlOk.nil:SlOk none 0 0:=⟨Nat.le_refl _,by unfold maxLen;omega,fun _=>⟨rfl,rfl⟩⟩
theorem Wr.beside{base p bm g j:Nat}{w:World}{v u:Value}{D:DataW Unit}{L:List ByteArray}(h:Wr base p bm w v D L)(hg:∃ cs,w.heap[g]? = some (.cells cs 3 (0,0))):Wr base p bm (w.setCell ⟨g,j,none⟩ u) v D L:=by
 obtain⟨cs,hg⟩:=hg
 have far:∀ k,k≠g→(w.setCell ⟨g,j,none⟩ u).heap[k]? = w.heap[k]?:=fun k hk=>heap_setCell_other w ⟨g,j,none⟩ k u hk
 refine⟨?_,h.pge,h.mge,?_,?_,h.ism,h.names⟩
 ·rw[far p (fun e=>?_)]
  ·exact h.box
  ·subst e
   rw[h.box] at hg
   injection hg with hg
   injection hg with _ hg
   exact absurd hg (by decide)
 ·refine Wq h.own (fun k cs' _ hk=>far k (fun e=>?_))
  subst e
  rw[hk] at hg
  injection hg with hg
  injection hg with _ hg
  exact absurd hg (by decide)
 ·obtain⟨es,clock,h1,r⟩:=h.map
  refine⟨es,clock,(far bm (fun e=>?_)).trans h1,r⟩
  subst e
  rw[h1] at hg
  cases hg
def Filled(base g n:Nat)(N:List Int)(w:World):Prop:=∃ xs:List Value,w.ownsRow base 3 1 (.slice (some ⟨g,0,none⟩) n n) n xs∧∀ j (h:j<N.length),xs[j]? = some (.int .i64 N[j])
theorem Filled.block{base g n:Nat}{N:List Int}{w:World}(h:Filled base g n N w):base≤g∧∃ cs,w.heap[g]? = some (.cells cs 3 (0,0)):=by
 obtain⟨xs,ho,_⟩:=h
 obtain⟨_,⟨e,_⟩|⟨g',cap,cur,e,hg,hh,_⟩⟩:=ho
 ·cases e
 ·cases e;exact⟨hg,cur,hh⟩
theorem Filled.far{base g n:Nat}{N:List Int}{w w':World}(h:Filled base g n N w)(hf:Far w w'):Filled base g n N w':=by
 obtain⟨xs,ho,hx⟩:=h
 exact⟨xs,Wq ho (fun k cs _ hk=>hf k cs _ hk (by decide) (by decide)),hx⟩
theorem Filled.old{base g n:Nat}{N:List Int}{w:World}(h:Filled base g n N w){k:Nat}(hk:k<n):(∃ v,w.cell? ⟨g,k,none⟩=some v)∧w.frozen? ⟨g,k,none⟩=false∧g<w.heap.size:=by
 obtain⟨xs,ho,_⟩:=h
 have hl:xs.length=n:=by simpa using ho.1
 exact⟨⟨xs[k]'(by omega),by rw[ho.cellAt k (by omega)];simp[hl,hk]⟩,ho.frozenAt k,(ho.lt g rfl).2⟩
theorem Filled.step{base g n:Nat}{N:List Int}{w:World}(h:Filled base g n N w)(hk:N.length<n)(x:Int):Filled base g n (N++[x]) (w.setCell ⟨g,N.length,none⟩ (.int .i64 x)):=by
 obtain⟨xs,ho,hx⟩:=h
 have hl:xs.length=n:=by simpa using ho.1
 refine⟨xs.set N.length (.int .i64 x),(ho.stored N.length _).1,fun j hj=>?_⟩
 by_cases e:j=N.length
 ·subst e;simp[hl,hk]
 ·have hj2:j<N.length:=by simp at hj;omega
  rw[List.getElem?_set_ne (by omega),hx j hj2]
  simp[hj2]
theorem Filled.ints{base g n:Nat}{N:List Int}{w:World}(h:Filled base g n N w)(hn:N.length=n):IntsAt w (some ⟨g,0,none⟩) n N:=by
 obtain⟨xs,ho,hx⟩:=h
 have hl:xs.length=n:=by simpa using ho.1
 refine⟨hn,fun _=>⟨g,0,rfl,fun i hi=>?_⟩⟩
 rw[Nat.zero_add,ho.cellAt i (by omega),hx i hi]
theorem Vf{fn:Func}{p u v:Tmp}{ty:TypeId}(h:fn.results=#[.cell p ty,.tmp u,.tmp v])(tmps:Array Value)(P:Program)(w:World) :
  (results fn tmps).run P w =
   ((asAddr (tmps.getD p undef)).run P w).andThen fun a w₁=>((loadVar ty a).run P w₁).andThen fun x w₂=>.ok (.tuple #[x,tmps.getD u undef,tmps.getD v undef]) w₂:=by
 simp only[results,h]
 simp[Sem.run_bind,Result.andThen]
theorem texts_own{w:World}{base n c:Nat}{a:Option Addr}{L:List ByteArray}(h:w.ownsRow base 9 1 (.slice a n c) n (L.map Value.string)):TextsAt w a n L:=by
 obtain⟨a',c',e,_,_,_,ht⟩:=Wl h
 cases e
 exact ht
theorem Zbw{l:List ByteArray}{j:Nat}(h:j<l.length)(L:List ByteArray)(N:List Int):nmGo L N (l.drop j)=if (nm L l[j]).2.2=0 then nmGo (nm L l[j]).1 (N++[(nm L l[j]).2.1]) (l.drop (j+1)) else ([],[],(nm L l[j]).2.2):=by
 rw[List.drop_eq_getElem_cons h,nmGo]
theorem Bq{l:List ByteArray}{j:Nat}(h:l.length≤j)(L:List ByteArray)(N:List Int):nmGo L N (l.drop j)=(L,N,0):=by
 rw[List.drop_of_length_le h];rfl
theorem Zkm(a al:Option Addr)(n c nl cl:Nat)(L:List ByteArray)(w:World)(h:TextsAt w a n L)(x:Int)(hx:bkChk L=x)(h0:x≠0) :
  Calls Tryz.prog 80 #[.agg #[.slice a n c],.slice al nl cl] w fun e w'=>e = .returned (.tuple #[.agg #[.slice none 0 0],.slice none 0 0,.int .i64 x])∧Below w.heap.size w w':=by
 have hb1:=Zg w (.cells #[.slice a n c] 24)
 have hb2:=Zg (w.alloc (.cells #[.slice a n c] 24)) (.cells #[.slice none 0 0] 24)
 have hb:=Ze hb1 hb2
 have hs1:(w.alloc (.cells #[.slice a n c] 24)).heap.size=w.heap.size+1:=by simp
 have c1:=heap_alloc_new (w.alloc (.cells #[.slice a n c] 24)) (.cells #[.slice none 0 0] 24)
 rw[hs1] at c1
 have O:=Zb (D6 a n c L _ (h.later hb) x hx)
 have HB:=Zb hb
 have C1:=Zb c1
 have g:(x != 0)=true:=by simp[h0]
 clear h hx hb hb1 hb2 c1 hs1
 go_enter Tryz.func80,Tryz.ntmps80
 go_wp2_with fail
 refine (Za O).mono ?_
 rintro e w2 ⟨v,rfl,-,hb2⟩
 have HB2:=Zb (Ze (Za HB) hb2)
 have c1:=(hb2.block _ (lt_of_block (Za C1))).trans (Za C1)
 have d0:w2.cell? ⟨w.heap.size+1,0,none⟩=some (.slice none 0 0):=by simp[World.cell?,c1]
 have df:w2.frozen? ⟨w.heap.size+1,0,none⟩=false:=by simp[World.frozen?,c1]
 have hl2:w.heap.size+1<w2.heap.size:=lt_of_block c1
 clear hb2 c1
 go_wp2
 (try simp only[Exit.inBlock,Exit.then])
 refine bodyPost_ret (v:=.tuple #[.agg #[.slice none 0 0],.slice none 0 0,.int .i64 x]) ?_ rfl ⟨rfl,?_⟩
 ·rw[Vf rfl]
  go_simp
 ·exact (Za HB2).setCell (Nat.le_succ _) _
theorem Zbe(a al:Option Addr)(n c nl cl:Nat)(L l M:List ByteArray)(N:List Int)(x:Int)(w:World)(h:TextsAt w a n L)(hl:TextsAt w al nl l)(hnl:nl≤17592186044416)(hR:Right L)(hx:nmGo L [] l=(M,N,x)) :
  Calls Tryz.prog 80 #[.agg #[.slice a n c],.slice al nl cl] w fun e w'=>(∃ a' n' c' a2 n2 c2,e = .returned (.tuple #[.agg #[.slice a' n' c'],.slice a2 n2 c2,.int .i64 x])∧(∀ w2,Gr w' w2 (fun k=>k<w.heap.size)→TextsAt w2 a' n' M)∧SlOk a' n' c'∧IntsAt w' a2 n2 N∧n2≤nl∧n2≤c2)∧Below w.heap.size w w':=by
 obtain⟨i0,hi,hz0,hz1,hz2⟩:=info_parts Tryz.infoInt
 have hb1:=Zg w (.cells #[.slice a n c] 24)
 have hb2:=Zg (w.alloc (.cells #[.slice a n c] 24)) (.cells #[.slice none 0 0] 24)
 have hb:=Ze hb1 hb2
 have hs1:(w.alloc (.cells #[.slice a n c] 24)).heap.size=w.heap.size+1:=by simp
 have hs2:((w.alloc (.cells #[.slice a n c] 24)).alloc (.cells #[.slice none 0 0] 24)).heap.size=w.heap.size+2:=by simp
 have c1:=heap_alloc_new (w.alloc (.cells #[.slice a n c] 24)) (.cells #[.slice none 0 0] 24)
 rw[hs1] at c1
 have O:=Zb (D6 a n c L _ (h.later hb) 0 ((right_iff L).2 hR))
 rw[hs2] at O
 have HB:=Zb hb
 have C1:=Zb c1
 have HLL:=Zb hl
 have HNL:=Zb hnl
 have HR:=Zb hR
 have HX:=Zb hx
 clear h hl hx hb hb1 hb2 c1 hs1 hs2 hR
 go_enter Tryz.func80,Tryz.ntmps80
 go_wp2_with fail
 refine (Za O).mono ?_
 rintro e w2 ⟨v,rfl,hwr,hb2⟩
 obtain⟨p,bm,v0,D0,rfl,hw0⟩:=hwr (by trivial)
 have hw2s:w.heap.size+2≤w2.heap.size:=Nat.le_trans hw0.pge (Nat.le_of_lt (lt_of_block hw0.box))
 have c1:=(hb2.block _ (by omega)).trans (Za C1)
 have HBW:Hid (Below w.heap.size w w2):=(Za HB).trans (hb2.mono (by omega))
 have HW:=Zb hw0
 have C2:=Zb c1
 clear hw0 hwr hb2 c1
 go_wp2_with (at_make;refine wpList_make_full _ rfl _ _ 25 rfl (w.heap.size+2) 3 i0 (.int .i64 0) 1 Tryz.underlying25 hi hz0 hz1 .i64 .i64 _ _ nl rfl rfl rfl rfl (by rw[hz2];have:=Za HNL;omega) (by have:=Za HNL;unfold maxLen;omega) hw2s ?_;intro w3 hown3 hgrow3)
 have hb3:Below w2.heap.size w2 w3:=(Below.refl _ _).grown hgrow3 (Nat.le_refl _) (fun k h=>by cases h)
 have HW3:=Zb ((Za HW).keep hb3)
 have HF3:Hid (Filled (w.heap.size+2) w2.heap.size nl [] w3):=⟨_,hown3,fun j hj=>absurd hj (by simp)⟩
 have C3:=Zb ((hb3.block _ (lt_of_block (Za C2))).trans (Za C2))
 have HB3:=Zb (Ze (Za HBW) hb3)
 obtain⟨g,hg⟩:∃ g,w2.heap.size=g:=⟨_,rfl⟩
 rw[hg] at HF3 ⊢
 clear hb3 hown3 hgrow3 HW C2 HBW hg
 go_loopw [26] (fun i wr=>∃ (j:Nat) (L':List ByteArray) (N':List Int),j≤nl∧i = .int .i64 j∧Below w.heap.size w wr∧Hid (∃ v D,Wr (w.heap.size+2) p bm wr v D L')∧Hid (Filled (w.heap.size+2) g nl N' wr)∧Hid (N'.length=j∧Right L'∧nmGo L' N' (l.drop j)=(M,N,x))∧Hid (wr.heap[w.heap.size+1]? = some (.cells #[.slice none 0 0] 24 (0,0)))) (fun i _=>nl - (intOf i).toNat)
 case atStart=>exact⟨0,L,[],Nat.zero_le _,rfl,Za HB3,⟨_,_,Za HW3⟩,HF3,⟨rfl,Za HR,Za HX⟩,C3⟩
 case round=>
  obtain⟨j,L',N',hk,rfl,hbw,HWr,HF,HN,HC⟩:=hrel
  have HB4:=Zb hbw
  by_cases hlt:j<nl
  ·obtain⟨hz,hcs⟩:=Za HLL
   obtain⟨b,off,rfl,hc⟩:=hcs (by omega)
   have hlj:j<l.length:=by omega
   have f:=Zc hbw (hc j hlj)
   obtain⟨v,D,hwr⟩:=Za HWr
   obtain⟨q1,q2,q3⟩:=Za HN
   rw[Zbw hlj] at q3
   obtain⟨s,hs⟩:∃ s,l[j]=s:=⟨_,rfl⟩
   rw[hs] at f q3
   obtain⟨r,hr⟩:∃ r,nm L' s=r:=⟨_,rfl⟩
   rw[hr] at q3
   obtain⟨M',n',e'⟩:=r
   simp only at q3
   have CN:=Zb (Zjn (w.heap.size+2) p bm v D L' M' s n' e' wr hwr q2.1 hr)
   have NR:Hid (e'=0→Right M'):=fun h=>by
    have:=Ky (L:=L') (s:=s) q2
    rw[hr] at this
    exact this h
   clear hwr hs hc hcs hbw hr
   by_cases he:e'=0
   ·subst he
    rw[if_pos rfl] at q3
    have Q3:=Zb q3
    have hq1:=Zb q1
    clear q3 q2 q1
    go_wp2_with fail
    refine (Za CN).mono ?_
    rintro y w5 ⟨rfl,hw5,hb5,hf5⟩
    have F5:=(Za HF).far hf5
    obtain⟨⟨u,hu⟩,hfz,hgl⟩:=F5.old hlt
    have HF5:=Zb F5
    have hq:N'.length=j:=Za hq1
    have ST:=Zb (F5.step (by omega) n')
    rw[hq] at ST
    have HB5:=Zb ((Za HB4).trans (hb5.mono (by omega)))
    have W5:Hid (∃ v D,Wr (w.heap.size+2) p bm (w5.setCell ⟨g,j,none⟩ (.int .i64 n')) v D M'):=by
     obtain⟨v',D',h'⟩:=(by first|exact hw5|exact hw5 rfl|exact hw5 (by trivial):∃ v' D',Wr (w.heap.size+2) p bm w5 v' D' M')
     exact⟨v',D',h'.beside F5.block.2⟩
    have C5:Hid ((w5.setCell ⟨g,j,none⟩ (.int .i64 n')).heap[w.heap.size+1]? = some (.cells #[.slice none 0 0] 24 (0,0))):=by
     show _=_
     rw[heap_setCell_other _ _ _ _ (by show w.heap.size+1≠g;have:=F5.block.1;omega),hb5.block _ (by omega)]
     exact Za HC
    have HB6:=Zb ((Za HB5).setCell (p:=⟨g,j,none⟩) (by show w.heap.size≤g;have:=F5.block.1;omega) (.int .i64 n'))
    clear hw5 hb5 hf5 F5
    go_wp2
    go_roundw
    case rel=>exact⟨j+1,M',N'++[n'],by omega,by go_num,Za HB6,W5,ST,⟨by simp;exact Za hq1,(Za NR) (by trivial),Za Q3⟩,C5⟩
    case measure=>simp[intOf];omega
   ·rw[if_neg he] at q3
    have e1:M=[]:=by injection q3 with q3 _;exact q3.symm
    have e2:N=[]:=by injection q3 with _ q3;injection q3 with q3 _;exact q3.symm
    have e3:x=e':=by injection q3 with _ q3;injection q3 with _ q3;exact q3.symm
    subst e1 e2 e3
    have g5:(x != 0)=true:=by simp[he]
    clear q3 q2 q1
    go_wp2_with fail
    refine (Za CN).mono ?_
    rintro y w5 ⟨rfl,-,hb5,hf5⟩
    have F5:=(Za HF).far hf5
    obtain⟨⟨u,hu⟩,hfz,hgl⟩:=F5.old hlt
    have hgb:w.heap.size+2≤g:=F5.block.1
    have c5:(w5.setCell ⟨g,j,none⟩ (.int .i64 n')).heap[w.heap.size+1]? = some (.cells #[.slice none 0 0] 24 (0,0)):=by
     rw[heap_setCell_other _ _ _ _ (by show w.heap.size+1≠g;omega),hb5.block _ (by omega)]
     exact Za HC
    obtain⟨Z,hZ⟩:∃ Z,Z=w5.setCell ⟨g,j,none⟩ (.int .i64 n'):=⟨_,rfl⟩
    have HB6:=Zb (((Za HB4).trans (hb5.mono (by omega))).setCell (p:=⟨g,j,none⟩) (by show w.heap.size≤g;omega) (.int .i64 n'))
    rw[←hZ] at c5 HB6
    have d0:Z.cell? ⟨w.heap.size+1,0,none⟩=some (.slice none 0 0):=by simp[World.cell?,c5]
    have df:Z.frozen? ⟨w.heap.size+1,0,none⟩=false:=by simp[World.frozen?,c5]
    clear hb5 hf5 F5 c5
    rw[hZ] at d0 df HB6
    clear hZ
    go_wp2
    (try simp only[Exit.inBlock,Exit.then])
    refine bodyPost_ret (v:=.tuple #[.agg #[.slice none 0 0],.slice none 0 0,.int .i64 x]) ?_ rfl ⟨⟨_,_,_,_,_,_,rfl,fun _ _=>TextsAt.nil _ _,SlOk.nil,IntsAt.nil _ _,Nat.zero_le _,Nat.le_refl _⟩,?_⟩
    ·rw[Vf rfl]
     go_simp
    ·exact (Za HB6).setCell (Nat.le_succ _) _
  ·have e:j=nl:=by omega
   subst e
   obtain⟨q1,q2,q3⟩:=Za HN
   rw[Bq (by rw[(Za HLL).1];exact Nat.le_refl _)] at q3
   have e1:M=L':=by injection q3 with q3 _;exact q3.symm
   have e2:N=N':=by injection q3 with _ q3;injection q3 with q3 _;exact q3.symm
   have e3:x=0:=by injection q3 with _ q3;injection q3 with _ q3;exact q3.symm
   subst e1 e2 e3
   obtain⟨v,D,hwr⟩:=Za HWr
   obtain⟨d1,d2,-⟩:=hwr.cell0
   have ho:=hwr.own
   obtain⟨a',c',rfl,s1,s2,s3,s4⟩:=Wl hwr.own
   have HOK:Hid (SlOk a' M.length c'):=⟨s1,s2,s3⟩
   have HT:Hid (∀ u w2,Gr (wr.setCell ⟨w.heap.size+1,0,none⟩ u) w2 (fun k=>k<w.heap.size)→TextsAt w2 a' M.length M):=fun u w2 g2=>texts_own (Wq ho (fun k cs hge hk=>(g2.block k (by simpa[World.setCell] using lt_of_block hk) (by omega)).trans (heap_setCell_other _ _ _ _ (by show k≠w.heap.size+1;omega))))
   have HI:Hid (∀ u,IntsAt (wr.setCell ⟨w.heap.size+1,0,none⟩ u) (some ⟨g,0,none⟩) j N):=fun u=>by
    obtain⟨xs,hxs,hx2⟩:=Za HF
    exact Filled.ints ⟨xs,Wq hxs (fun k cs hge _=>heap_setCell_other _ _ _ _ (by show k≠w.heap.size+1;omega)),hx2⟩ q1
   have c5:=Za HC
   have d0:wr.cell? ⟨w.heap.size+1,0,none⟩=some (.slice none 0 0):=by simp[World.cell?,c5]
   have df:wr.frozen? ⟨w.heap.size+1,0,none⟩=false:=by simp[World.frozen?,c5]
   have hpne:w.heap.size+1≠p:=by have:=hwr.pge;omega
   clear q1 q2 q3 hwr ho s1 s2 s3 s4 c5 hbw
   go_wp2
   (try simp only[Exit.inBlock,Exit.then])
   refine bodyPost_ret (v:=.tuple #[.agg #[.slice a' M.length c'],.slice (some ⟨g,0,none⟩) j j,.int .i64 0]) ?_ rfl ⟨⟨_,_,_,_,_,_,rfl,(Za HT) _,Za HOK,(Za HI) _,Nat.le_refl _,Nat.le_refl _⟩,?_⟩
   ·rw[Vf rfl]
    go_simp
   ·exact (Za HB4).setCell (Nat.le_succ _) _
theorem Zeq(a al:Option Addr)(n c nl cl:Nat)(L l M:List ByteArray)(N:List Int)(x:Int)(w:World)(h:TextsAt w a n L)(hl:TextsAt w al nl l)(hnl:nl≤17592186044416)(hR:Right L)(hx:nmGo L [] l=(M,N,x)) :
  Calls Tryz.prog 80 #[.agg #[.slice a n c],.slice al nl cl] w fun e w'=>(∃ a' n' c' a2 n2 c2,e = .returned (.tuple #[.agg #[.slice a' n' c'],.slice a2 n2 c2,.int .i64 x])∧TextsAt w' a' n' M∧SlOk a' n' c'∧IntsAt w' a2 n2 N∧n2≤nl∧n2≤c2)∧Below w.heap.size w w':=by
 refine (Zbe a al n c nl cl L l M N x w h hl hnl hR hx).mono ?_
 rintro e w' ⟨⟨a',n',c',a2,n2,c2,h1,h2,h3⟩,hb⟩
 exact⟨⟨a',n',c',a2,n2,c2,h1,h2 _ (Gr.refl _ _),h3⟩,hb⟩
open Go.RowKit Go.Maps
def Gj(L:List ByteArray)(s:ByteArray):List ByteArray×Int×Int:=if bkChk L=0 then nm L s else ([],0,bkChk L)
theorem Zgu(w:World)(s:ByteArray):TextsAt (w.alloc (.cells #[.string s] 9)) (some ⟨w.heap.size,0,none⟩) 1 [s]:=
 ⟨rfl,fun _=>⟨w.heap.size,0,rfl,fun i hi=>by
  have e:i=0:=by simp at hi;omega
  subst e
  exact Rk w (.string s) 9⟩⟩
theorem all_is(a al:Option Addr)(n c nl cl:Nat)(L l M:List ByteArray)(N:List Int)(x:Int)(w:World)(h:TextsAt w a n L)(hl:TextsAt w al nl l)(hnl:nl≤17592186044416)(hx:allR L l=(M,N,x)) :
  Calls Tryz.prog 80 #[.agg #[.slice a n c],.slice al nl cl] w fun e w'=>(∃ a' n' c' a2 n2 c2,e = .returned (.tuple #[.agg #[.slice a' n' c'],.slice a2 n2 c2,.int .i64 x])∧TextsAt w' a' n' M∧SlOk a' n' c'∧IntsAt w' a2 n2 N∧n2≤nl∧n2≤c2)∧Below w.heap.size w w':=by
 unfold allR at hx
 by_cases h0:bkChk L=0
 ·rw[if_pos h0] at hx
  exact Zeq a al n c nl cl L l M N x w h hl hnl ((right_iff L).1 h0) hx
 ·rw[if_neg h0] at hx
  have e1:M=[]:=by injection hx with hx _;exact hx.symm
  have e2:N=[]:=by injection hx with _ hx;injection hx with hx _;exact hx.symm
  have e3:bkChk L=x:=by injection hx with _ hx;injection hx with _ hx
  subst e1 e2
  refine (Zkm a al n c nl cl L w h x e3 (by rw[←e3];exact h0)).mono ?_
  rintro e w' ⟨rfl,hb⟩
  exact⟨⟨_,_,_,_,_,_,rfl,TextsAt.nil _ _,SlOk.nil,IntsAt.nil _ _,Nat.zero_le _,Nat.le_refl _⟩,hb⟩
end Go.Proofs.YtpikejjiignchaaGreatDoor.Bk
