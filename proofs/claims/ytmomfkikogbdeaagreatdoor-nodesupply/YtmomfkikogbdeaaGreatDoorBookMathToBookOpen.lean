/- Names of texts: what Check, Name and All answer; plain mathematics. -/
import Derived.Test.YtmomfkikogbdeaaGreatDoorRows
import Derived.WalkKit
import Derived.WalkLawsBesides
import Derived.Deep.QuietTactic
import Derived.BigQuiet
import Derived.Deep.RegionWith
import Derived.Maps.OwnOps
import Derived.Maps.Views
import Derived.Laws.AppendOwnNone
import Derived.Deep.AppendLies
set_option maxHeartbeats 3200000
set_option maxRecDepth 10000
namespace Go.Proofs.YtmomfkikogbdeaaGreatDoor.Bk
def place(s:ByteArray):List ByteArray→Nat
 | []=>0
 | x :: r=>if x=s then 1 else if place s r=0 then 0 else place s r+1
theorem place_zero{s:ByteArray}:∀ {L:List ByteArray},place s L=0↔s∉L
 | []=>by simp[place]
 | x :: r=>by
  unfold place
  have ih:=place_zero (s:=s) (L:=r)
  by_cases h:x=s
  ·simp[h]
  ·have h':¬s=x:=fun e=>h e.symm
   rw[if_neg h]
   by_cases hr:place s r=0
   ·rw[if_pos hr];simp[h',ih.1 hr]
   ·rw[if_neg hr]
    have:s∈r:=by
     rcases Classical.em (s∈r) with m|m
     ·exact m
     ·exact absurd (ih.2 m) hr
    simp[this]
theorem place_le(s:ByteArray):∀ L:List ByteArray,place s L≤L.length
 | []=>by simp[place]
 | x :: r=>by
  unfold place
  have:=place_le s r
  split
  ·simp
  ·split
   ·simp
   ·simp;exact this
theorem Wk(s:ByteArray):∀ (L M:List ByteArray),place s (L++M)=if place s L=0 then (if place s M=0 then 0 else L.length+place s M) else place s L
 | [],M=>by
  have e:place s []=0:=rfl
  rw[e,if_pos rfl,List.nil_append]
  by_cases hM:place s M=0
  ·rw[if_pos hM];exact hM
  ·rw[if_neg hM];simp
 | x :: r,M=>by
  have e1:place s (x :: r)=if x=s then 1 else if place s r=0 then 0 else place s r+1:=rfl
  have e2:place s ((x :: r)++M)=if x=s then 1 else if place s (r++M)=0 then 0 else place s (r++M)+1:=rfl
  rw[e2,Wk s r M]
  by_cases hx:x=s
  ·rw[if_pos hx] at *
   rw[e1];simp
  ·rw[if_neg hx] at *
   by_cases hr:place s r=0
   ·rw[if_pos hr] at e1
    rw[e1,hr]
    by_cases hM:place s M=0
    ·simp[hM]
    ·simp only[hM,if_true,if_false,List.length_cons]
     rw[if_neg (by omega)];omega
   ·rw[if_neg hr] at e1
    rw[e1,if_neg hr,if_neg hr,if_neg (by omega)]
theorem Tb{s:ByteArray}{L:List ByteArray}(h:s∉L):place s (L++[s])=L.length+1:=by
 rw[Wk,if_pos (place_zero.2 h)];simp[place]
theorem Ki{s t:ByteArray}(L:List ByteArray)(h:s≠t):place s (L++[t])=place s L:=by
 rw[Wk]
 have e:place s [t]=0:=by rw[place_zero];simp[h]
 rw[e]
 split
 ·rw[if_pos rfl];rename_i e2;exact e2.symm
 ·rfl
def Jb(seen:List ByteArray):List ByteArray→Int
 | []=>0
 | s :: r=>if 4000<s.size then 2 else if place s seen≠0 then 6 else Jb (seen++[s]) r
def bkChk(L:List ByteArray):Int:=if 120<L.length then 2 else Jb [] L
theorem bk_at{L:List ByteArray}{k:Nat}(h:k<L.length):Jb (L.take k) (L.drop k)=if 4000<L[k].size then 2 else if place L[k] (L.take k)≠0 then 6 else Jb (L.take (k+1)) (L.drop (k+1)):=by
 rw[List.drop_eq_getElem_cons h,Jb,List.take_succ_eq_append_getElem h]
theorem Zco{L:List ByteArray}{k:Nat}(h:L.length≤k):Jb (L.take k) (L.drop k)=0:=by
 rw[List.drop_of_length_le h];rfl
theorem P7:∀ (L seen:List ByteArray),Jb seen L=0→seen.Nodup→(seen++L).Nodup∧∀ s∈L,s.size≤4000
 | [],seen,_,hs=>by simpa using hs
 | s :: r,seen,h,hs=>by
  unfold Jb at h
  by_cases h1:4000<s.size
  ·rw[if_pos h1] at h;omega
  ·rw[if_neg h1] at h
   by_cases h2:place s seen≠0
   ·rw[if_pos h2] at h;omega
   ·rw[if_neg h2] at h
    have h3:s∉seen:=place_zero.1 (by omega)
    have hn:(seen++[s]).Nodup:=by
     rw[List.nodup_append]
     exact⟨hs,by simp,fun a ha b hb=>by simp at hb;subst hb;exact fun e=>h3 (e ▸ ha)⟩
    have ih:=P7 r (seen++[s]) h hn
    rw[List.append_assoc] at ih
    refine⟨ih.1,fun x hx=>?_⟩
    rcases List.mem_cons.1 hx with rfl|hx
    ·omega
    ·exact ih.2 x hx
theorem Si:∀ (L seen:List ByteArray),(seen++L).Nodup→(∀ s∈L,s.size≤4000)→Jb seen L=0
 | [],_,_,_=>rfl
 | s :: r,seen,hn,hs=>by
  unfold Jb
  have h1:¬4000<s.size:=by have:=hs s (by simp);omega
  have h2:s∉seen:=by
   intro hm
   rw[List.nodup_append] at hn
   exact hn.2.2 s hm s (by simp) rfl
  rw[if_neg h1,if_neg (by rw[place_zero.2 h2];decide)]
  refine Si r (seen++[s]) (by rw[List.append_assoc];exact hn) (fun x hx=>hs x (by simp[hx]))
def Right(L:List ByteArray):Prop:=L.length≤120∧L.Nodup∧∀ s∈L,s.size≤4000
theorem right_iff(L:List ByteArray):bkChk L=0↔Right L:=by
 unfold bkChk Right
 by_cases h:120<L.length
 ·rw[if_pos h];constructor
  ·intro e;omega
  ·intro ⟨e,_⟩;omega
 ·rw[if_neg h]
  constructor
  ·intro e
   have:=P7 L [] e List.nodup_nil
   exact⟨by omega,this.1,this.2⟩
  ·intro ⟨_,h1,h2⟩
   exact Si L [] h1 h2
def nm(L:List ByteArray)(s:ByteArray):List ByteArray×Int×Int:=
 if 4000<s.size then ([],0,2) else if place s L≠0 then (L,(place s L:Int),0) else if 120≤L.length then ([],0,12) else (L++[s],L.length+1,0)
def nmGo(L:List ByteArray)(N:List Int):List ByteArray→List ByteArray×List Int×Int
 | []=>(L,N,0)
 | s :: r=>if (nm L s).2.2=0 then nmGo (nm L s).1 (N++[(nm L s).2.1]) r else ([],[],(nm L s).2.2)
theorem nm_right{L:List ByteArray}{s:ByteArray}(h:Right L)(h0:(nm L s).2.2=0):Right (nm L s).1:=by
 unfold nm at *
 by_cases h1:4000<s.size
 ·rw[if_pos h1] at h0;cases h0
 ·rw[if_neg h1] at *
  by_cases h2:place s L≠0
  ·rw[if_pos h2] at *;exact h
  ·rw[if_neg h2] at *
   by_cases h3:120≤L.length
   ·rw[if_pos h3] at h0;cases h0
   ·rw[if_neg h3] at *
    have h4:s∉L:=place_zero.1 (by omega)
    refine⟨by simp;omega,?_,fun x hx=>?_⟩
    ·rw[List.nodup_append]
     exact⟨h.2.1,by simp,fun a ha b hb=>by simp at hb;subst hb;exact fun e=>h4 (e ▸ ha)⟩
    ·rcases List.mem_append.1 hx with hx|hx
     ·exact h.2.2 x hx
     ·simp at hx;subst hx;omega
theorem nm_grows{L:List ByteArray}{s:ByteArray}(h0:(nm L s).2.2=0):∃ M,(nm L s).1=L++M:=by
 unfold nm at *
 by_cases h1:4000<s.size
 ·rw[if_pos h1] at h0;cases h0
 ·rw[if_neg h1] at *
  by_cases h2:place s L≠0
  ·rw[if_pos h2];exact⟨[],by simp⟩
  ·rw[if_neg h2] at *
   by_cases h3:120≤L.length
   ·rw[if_pos h3] at h0;cases h0
   ·rw[if_neg h3];exact⟨[s],rfl⟩
theorem nm_place{L:List ByteArray}{s:ByteArray}(h0:(nm L s).2.2=0):(nm L s).2.1=(place s (nm L s).1:Int)∧0<place s (nm L s).1∧s.size≤4000:=by
 unfold nm at *
 by_cases h1:4000<s.size
 ·rw[if_pos h1] at h0;cases h0
 ·rw[if_neg h1] at *
  by_cases h2:place s L≠0
  ·rw[if_pos h2];exact⟨rfl,by show 0<place s L;omega,by omega⟩
  ·rw[if_neg h2] at *
   by_cases h3:120≤L.length
   ·rw[if_pos h3] at h0;cases h0
   ·rw[if_neg h3]
    have h4:s∉L:=place_zero.1 (by omega)
    show (L.length:Int)+1=_∧_
    simp only[Tb h4]
    exact⟨by simp,by omega,by omega⟩
theorem nm_there{L:List ByteArray}{s:ByteArray}(hs:s.size≤4000)(h:0<place s L):nm L s=(L,(place s L:Int),0):=by
 unfold nm
 rw[if_neg (by omega),if_pos (by omega)]
theorem nmGo_grows:∀ (l:List ByteArray) (L:List ByteArray) (N:List Int),(nmGo L N l).2.2=0→∃ M,(nmGo L N l).1=L++M
 | [],L,N,_=>⟨[],by simp[nmGo]⟩
 | s :: r,L,N,h=>by
  unfold nmGo at *
  by_cases h0:(nm L s).2.2=0
  ·rw[if_pos h0] at *
   obtain⟨M,hM⟩:=nm_grows h0
   obtain⟨K,hK⟩:=nmGo_grows r _ _ h
   exact⟨M++K,by rw[hK,hM,List.append_assoc]⟩
  ·rw[if_neg h0] at *;exact absurd h h0
theorem nmGo_right:∀ (l:List ByteArray) (L:List ByteArray) (N:List Int),Right L→(nmGo L N l).2.2=0→Right (nmGo L N l).1
 | [],L,N,hR,_=>hR
 | s :: r,L,N,hR,h=>by
  unfold nmGo at *
  by_cases h0:(nm L s).2.2=0
  ·rw[if_pos h0] at *
   exact nmGo_right r _ _ (nm_right hR h0) h
  ·rw[if_neg h0] at *;exact absurd h h0
theorem place_stays{s:ByteArray}{L:List ByteArray}(M:List ByteArray)(h:0<place s L):place s (L++M)=place s L:=by
 rw[Wk,if_neg (by omega)]
open Go.RowKit Go.Maps
theorem hide{p:Prop}(h:p):Hid p:=h
theorem unhide{p:Prop}(h:Hid p):p:=h
theorem bel_on{w w1 w2:World}(h1:Below w.heap.size w w1)(h2:Below w1.heap.size w1 w2):Below w.heap.size w w2:=h1.trans (h2.mono h1.size)
theorem bel_new(w:World)(o:Obj):Below w.heap.size w (w.alloc o):=(Below.refl _ _).alloc (Nat.le_refl _) _
theorem below_dw(w:World)(n:Nat):Below w.heap.size w (w.drewN n):=⟨rfl,rfl,rfl,Nat.le_refl _,fun _ _=>rfl⟩
theorem cell_later{w w':World}{p:Addr}{v:Value}(hb:Below w.heap.size w w')(h:w.cell? p=some v):w'.cell? p=some v:=by
 rw[hb.cell (p:=p) (World.block_lt_of_cell? _ _ h)];exact h
theorem one_new(w:World)(x:Value)(t:TypeId):(w.alloc (.cells #[x] t)).cell? ⟨w.heap.size,0,none⟩=some x:=by
 rw[World.cell?_alloc_at _ _ _ _ rfl];rfl
def TextsAt(w:World)(a:Option Addr)(len:Nat)(L:List ByteArray):Prop:=
 L.length=len∧(0<len→∃ b off,a=some ⟨b,off,none⟩∧∀ i (h:i<L.length),w.cell? ⟨b,off+i,none⟩=some (.string L[i]))
theorem TextsAt.later{w w':World}{a:Option Addr}{len:Nat}{L:List ByteArray}(h:TextsAt w a len L)(hb:Below w.heap.size w w'):TextsAt w' a len L:=by
 refine⟨h.1,fun h0=>?_⟩
 obtain⟨b,off,e,hc⟩:=h.2 h0
 exact⟨b,off,e,fun i hi=>cell_later hb (hc i hi)⟩
theorem TextsAt.nil(w:World)(a:Option Addr):TextsAt w a 0 []:=⟨rfl,fun h=>absurd h (by omega)⟩
theorem TextsAt.lt{w:World}{a:Option Addr}{len:Nat}{L:List ByteArray}(h:TextsAt w a len L)(x:Addr)(hx:a=some x)(h0:0<len):x.block<w.heap.size:=by
 obtain⟨b,off,e,hc⟩:=h.2 h0
 have hz:=h.1
 rw[hx] at e
 cases e
 exact World.block_lt_of_cell? _ _ (hc 0 (by omega))
theorem own_ge{w:World}{base:Nat}{e:TypeId}{size:Nat}{v:Value}{n:Nat}{xs:List Value}(h:w.ownsRow base e size v n xs)(k:Nat)(hk:v.ownBlock=some k):base≤k:=by
 rcases h.2 with ⟨rfl,_⟩|⟨g,cap,cur,rfl,hg,_⟩
 ·cases hk
 ·cases hk;exact hg
theorem own_type{w w':World}{base:Nat}{e:TypeId}{size:Nat}{v:Value}{n:Nat}{xs:List Value}(h:w.ownsRow base e size v n xs)(hk:∀ (k:Nat) (cs:Array Value),base≤k→w.heap[k]? = some (.cells cs e (0,0))→w'.heap[k]? = w.heap[k]?):w'.ownsRow base e size v n xs:=by
 obtain⟨hl,h0|⟨g,cap,cur,hv,hg,hh,r⟩⟩:=h
 ·exact⟨hl,.inl h0⟩
 ·exact⟨hl,.inr ⟨g,cap,cur,hv,hg,(hk g cur hg hh).trans hh,r⟩⟩
theorem grow_type{w w':World}{base:Nat}{e:TypeId}{size:Nat}{v:Value}{n:Nat}{xs:List Value}(h:w.ownsRow base e size v n xs)(hg:w.grownBy w' v.ownBlock)(k:Nat)(cs:Array Value)(t:TypeId)(hk:w.heap[k]? = some (.cells cs t (0,0)))(ht:t≠e):w'.heap[k]? = w.heap[k]?:=by
 refine hg.block k (lt_of_block hk) (fun e1=>?_)
 obtain⟨_,⟨rfl,_⟩|⟨g,cap,cur,rfl,_,hh,_⟩⟩:=h
 ·cases e1
 ·have e2:k=g:=by injection e1
  subst e2
  rw[hk] at hh
  injection hh with hh
  injection hh with _ hh
  exact ht hh
theorem Wj{w:World}{base:Nat}{v:Value}{n:Nat}{L:List ByteArray}(h:w.ownsRow base 9 1 v n (L.map Value.string)):∃ a cap,v = .slice a n cap∧n≤cap∧cap≤maxLen∧(a=none→n=0∧cap=0)∧TextsAt w a n L:=by
 have hl:L.length=n:=by have:=h.1;simpa using this
 rcases h.2 with ⟨rfl,rfl⟩|⟨g,cap,cur,rfl,_,_,h1,h2,_,_⟩
 ·have e:L=[]:=List.length_eq_zero_iff.1 hl
  subst e
  exact⟨none,0,rfl,Nat.le_refl _,by unfold maxLen;omega,fun _=>⟨rfl,rfl⟩,TextsAt.nil _ _⟩
 ·refine⟨_,cap,rfl,h1,h2,fun e=>(by cases e),hl,fun _=>⟨g,0,rfl,fun i hi=>?_⟩⟩
  rw[Nat.zero_add,World.ownsRow.cellAt h i (by omega)]
  simp[hi]
theorem within_is(n lo hi:Int)(b:Bool)(w:World)(hb:b=(decide (lo≤n) && decide (n≤hi))) :
  Calls Tryz.prog 103 #[.int .i64 n,.int .i64 lo,.int .i64 hi] w fun e w'=>e = .returned (.bool b)∧w=w':=by
 by_cases h1:lo≤n
 ·by_cases h2:n≤hi
  ·have e:b=true:=by rw[hb];simp[h1,h2]
   subst e
   clear hb
   go_enter Tryz.func103,Tryz.ntmps103
   go_wp2
   go_ret
   exact⟨rfl,rfl⟩
  ·have e:b=false:=by rw[hb];simp[h2]
   have h4:decide (n≤hi)=false:=by simp;omega
   have h5:hi<n:=by omega
   subst e
   clear hb h2
   go_enter Tryz.func103,Tryz.ntmps103
   go_wp2
   go_ret
   exact⟨rfl,rfl⟩
 ·have e:b=false:=by rw[hb];simp[h1]
  have h5:n<lo:=by omega
  subst e
  clear hb h1
  go_enter Tryz.func103,Tryz.ntmps103
  go_wp2
  go_ret
  exact⟨rfl,rfl⟩
theorem Tryz.info9:(Tryz.prog.info? 9).map (fun i=>(i.zero,i.size,i.bytes))=some (some (.string ⟨#[]⟩),1,16):=by kernel_rfl
theorem Tryz.infoInt:(Tryz.prog.info? 3).map (fun i=>(i.zero,i.size,i.bytes))=some (some (.int .i64 0),1,8):=by kernel_rfl
theorem key9:Keyed Tryz.prog 9:=string_keyed Tryz.underlying9
theorem zero3(w:World):(zeroValue 3).run Tryz.prog w = .ok (.int .i64 0) w:=by kernel_rfl
open Go.RowKit Go.Maps
abbrev Gm(s:ByteArray):Lit:=.string s.data.toList
abbrev Js(n:Int):DataW Unit:=.lit (.int .i64 n)
structure Wr(base p bm:Nat)(wr:World)(v:Value)(D:DataW Unit)(L:List ByteArray):Prop where
 box:wr.heap[p]? = some (.cells #[v,.map (some bm)] 243 (0,0))
 pge:base≤p
 mge:base≤bm
 own:wr.ownsRow base 9 1 v L.length (L.map Value.string)
 map:wr.ownsMap Tryz.prog 9 (plainElem (H:=Unit) Tryz.prog 3) bm L.length D
 ism:IsMap D
 names:∀ s:ByteArray,D.atKey (Gm s) (Js 0)=Js (place s L:Nat)
def Far(w w':World):Prop:=∀ (k:Nat) (cs:Array Value) (t:TypeId),w.heap[k]? = some (.cells cs t (0,0))→t≠9→t≠243→w'.heap[k]? = w.heap[k]?
theorem Far.refl(w:World):Far w w:=fun _ _ _ _ _ _=>rfl
theorem Far.trans{a b c:World}(h:Far a b)(g:Far b c):Far a c:=fun k cs t hk h1 h2=>(g k cs t ((h k cs t hk h1 h2).trans hk) h1 h2).trans (h k cs t hk h1 h2)
theorem Zag{w w':World}(h:Below w.heap.size w w'):Far w w':=fun k _ _ hk _ _=>h.block k (lt_of_block hk)
theorem Wr.keep{base p bm:Nat}{w w':World}{v:Value}{D:DataW Unit}{L:List ByteArray}(h:Wr base p bm w v D L)(hb:Below w.heap.size w w'):Wr base p bm w' v D L:=by
 refine⟨(hb.block p (lt_of_block h.box)).trans h.box,h.pge,h.mge,own_type h.own (fun k cs _ hk=>hb.block k (lt_of_block hk)),?_,h.ism,h.names⟩
 obtain⟨es,clock,h1,r⟩:=h.map
 exact⟨es,clock,(hb.block bm (lt_of_block h1)).trans h1,r⟩
theorem Wr.cell0{base p bm:Nat}{w:World}{v:Value}{D:DataW Unit}{L:List ByteArray}(h:Wr base p bm w v D L):w.cell? ⟨p,0,none⟩=some v∧w.cell? ⟨p,1,none⟩=some (.map (some bm))∧w.frozen? ⟨p,0,none⟩=false:=by
 refine⟨?_,?_,?_⟩
 ·simp[World.cell?,h.box]
 ·simp[World.cell?,h.box]
 ·simp[World.frozen?,h.box]
theorem Fa{D:DataW Unit}{L:List ByteArray}{s:ByteArray}(hm:IsMap D)(h:∀ s:ByteArray,D.atKey (Gm s) (Js 0)=Js (place s L:Nat))(hs:s∉L) :
  ∀ x:ByteArray,(D.put (Gm s) (Js ((L.length:Int)+1))).atKey (Gm x) (Js 0)=Js (place x (L++[s]):Nat):=by
 intro x
 by_cases e:x=s
 ·subst e
  rw[atKey_put_same hm (by simp[WideAt.IsKeyLit]),Tb hs];simp
 ·have hne:Gm x≠Gm s:=by
   intro h2
   apply e
   have h3:x.data.toList=s.data.toList:=by injection h2
   have h4:x.data=s.data:=by rw[←Array.toList_inj];exact h3
   cases x;cases s;simp_all
  rw[atKey_put_other hne,h x,Ki L e]
theorem Pd(w:World)(p:Nat)(x y v:Value)(t:TypeId)(h:w.heap[p]? = some (.cells #[x,y] t (0,0))):(w.setCell ⟨p,0,none⟩ v).heap[p]? = some (.cells #[v,y] t (0,0)):=by
 rw[heap_setCell_same w p 0 #[x,y] t v h];rfl
structure Mid(base p bm:Nat)(X Y:World)(v:Value)(D:DataW Unit)(L:List ByteArray)(s:ByteArray):Prop where
 box:Y.heap[p]? = some (.cells #[v,.map (some bm)] 243 (0,0))
 own:Y.ownsRow base 9 1 v (L.length+1) ((L++[s]).map Value.string)
 map:Y.ownsMap Tryz.prog 9 (plainElem (H:=Unit) Tryz.prog 3) bm L.length D
 bel:Below base X Y
 far:Far X Y
theorem Wr.mid{base p bm:Nat}{X w3:World}{v v3:Value}{D:DataW Unit}{L:List ByteArray}{s:ByteArray}(h:Wr base p bm X v D L)
  (hown:w3.ownsRow base 9 1 v3 (L.length+1) (L.map Value.string++[.string s])) (hg:X.grownBy w3 v.ownBlock):Mid base p bm X (w3.setCell ⟨p,0,none⟩ v3) v3 D L s:=by
 have hpl:=lt_of_block h.box
 have hbase:base≤X.heap.size:=Nat.le_trans h.pge (Nat.le_of_lt hpl)
 have far:∀ (k:Nat) (cs:Array Value) (t:TypeId),X.heap[k]? = some (.cells cs t (0,0))→t≠9→w3.heap[k]? = X.heap[k]?:=fun k cs t hk ht=>grow_type h.own hg k cs t hk ht
 have box3:w3.heap[p]? = some (.cells #[v,.map (some bm)] 243 (0,0)):=(far _ _ _ h.box (by decide)).trans h.box
 have far3:∀ (k:Nat),k≠p→(w3.setCell ⟨p,0,none⟩ v3).heap[k]? = w3.heap[k]?:=fun k hk=>heap_setCell_other w3 ⟨p,0,none⟩ k v3 hk
 refine⟨Pd w3 p v _ v3 _ box3,?_,?_,?_,?_⟩
 ·rw[List.map_append]
  refine own_type hown (fun k cs _ hk=>far3 k (fun e=>?_))
  subst e
  rw[box3] at hk
  injection hk with hk
  injection hk with _ hk
  exact absurd hk (by decide)
 ·obtain⟨es,clock,h1,r⟩:=h.map
  have hne:some bm≠v.ownBlock:=by
   intro e
   obtain⟨_,⟨rfl,_⟩|⟨g,cap,cur,rfl,_,hh,_⟩⟩:=h.own
   ·cases e
   ·have e2:bm=g:=by injection e
    subst e2
    rw[h1] at hh
    cases hh
  have h3:w3.heap[bm]? = X.heap[bm]?:=hg.block bm (lt_of_block h1) hne
  have hp:bm≠p:=by
   intro e
   subst e
   rw[h.box] at h1
   cases h1
  exact⟨es,clock,(far3 bm hp).trans (h3.trans h1),r⟩
 ·exact ((Below.refl base X).grown hg hbase (fun k hk=>own_ge h.own k hk)).setCell h.pge _
 ·intro k cs t hk h9 h50
  have hp:k≠p:=by
   intro e
   subst e
   rw[h.box] at hk
   injection hk with hk
   injection hk with _ hk
   exact h50 hk.symm
  exact (far3 k hp).trans (far k cs t hk h9)
theorem Mid.wr{base p bm:Nat}{X Y w4:World}{v:Value}{D:DataW Unit}{L:List ByteArray}{s:ByteArray}(h:Mid base p bm X Y v D L s)(hm:IsMap D)(hp:base≤p)(hb:base≤bm)(hs:s∉L)
  (names:∀ s:ByteArray,D.atKey (Gm s) (Js 0)=Js (place s L:Nat))
  (hown:w4.ownsMap Tryz.prog 9 (plainElem (H:=Unit) Tryz.prog 3) bm (L.length+1) (D.put (Gm s) (Js ((L.length:Int)+1)))) (hg:Y.grownBy w4 (some bm)) :
  Wr base p bm w4 v (D.put (Gm s) (Js ((L.length:Int)+1))) (L++[s])∧Below base X w4∧Far X w4:=by
 have kept:∀ (k:Nat) (cs:Array Value) (t:TypeId),Y.heap[k]? = some (.cells cs t (0,0))→w4.heap[k]? = Y.heap[k]?:=fun k cs t hk=>hg.block k (lt_of_block hk) (fun e=>by
  have e2:k=bm:=by injection e
  subst e2
  obtain⟨es,clock,h1,_⟩:=h.map
  rw[h1] at hk
  cases hk)
 have hl:(L++[s]).length=L.length+1:=by simp
 have hYs:base≤Y.heap.size:=Nat.le_trans hp (Nat.le_of_lt (lt_of_block h.box))
 refine⟨⟨(kept _ _ _ h.box).trans h.box,hp,hb,?_,?_,?_,Fa hm names hs⟩,?_,?_⟩
 ·rw[hl];exact own_type h.own (fun k cs _ hk=>kept k cs _ hk)
 ·rw[hl];exact hown
 ·obtain⟨es,rfl⟩:=hm
  exact⟨_,rfl⟩
 ·exact h.bel.trans ((Below.refl base Y).grown hg hYs (fun k hk=>by injection hk with hk;omega))
 ·exact fun k cs t hk h9 h50=>(kept k cs t ((h.far k cs t hk h9 h50).trans hk)).trans (h.far k cs t hk h9 h50)
open Go.RowKit Go.Maps
theorem add_is(base p bm:Nat)(v:Value)(D:DataW Unit)(L:List ByteArray)(s:ByteArray)(w:World)(hW:Wr base p bm w v D L)(hL:L.length≤120)(hs:s∉L)(hz:s.size≤4000) :
  Calls Tryz.prog 195 #[.pointer (some ⟨p,0,none⟩),.string s] w fun e w'=>e = .returned (.int .i64 ((L.length:Int)+1))∧(∃ v' D',Wr base p bm w' v' D' (L++[s]))∧Below base w w'∧Far w w':=by
 obtain⟨i0,hi,hz0,hz1,hz2⟩:=info_parts Tryz.info9
 have hpl:=lt_of_block hW.box
 have hbase:base≤w.heap.size:=Nat.le_trans hW.pge (Nat.le_of_lt hpl)
 obtain⟨X,hX⟩:∃ X,X=w.alloc (.cells #[.string s] 9):=⟨_,rfl⟩
 have hbX:Below w.heap.size w X:=by rw[hX];exact bel_new _ _
 have hXs:X.heap.size=w.heap.size+1:=by rw[hX];simp
 have hnew:X.heap[w.heap.size]? = some (.cells #[.string s] 9 (0,0)):=by rw[hX];exact heap_alloc_new _ _
 have WX:=hW.keep hbX
 obtain⟨c0,c1,cf⟩:=hW.cell0
 have NEWS:=hide (World.news_of_block hnew)
 obtain⟨a,cap,rfl,-,-,-,-⟩:=Wj hW.own
 have OWN:=hide WX.own
 have HW:=hide WX
 have HL:=hide hL
 have HS:=hide hs
 have HZ:=hide hz
 have HBX:=hide hbX
 have HB:=hide hbase
 have HXS:=hide hXs
 clear WX hbX hnew hL hs hz hW hbase
 subst hX
 go_enter Tryz.func195,Tryz.ntmps195
 go_wp2_with (at_builtin;refine wpList_append_lies _ rfl _ _ 22 rfl base 9 i0 (.string ⟨#[]⟩) 1 16 Tryz.underlying22 hi hz0 hz1 hz2 rfl (by decide) _ _ _ rfl (unhide OWN) ⟨w.heap.size,0,none⟩ 1 1 [.string s] rfl rfl (unhide NEWS) (fun u hu=>by simp at hu;subst hu;rfl) (by decide) (by have:=unhide HL;unfold maxLen;omega) (by have:=unhide HL;omega) (by have:=unhide HB;have:=unhide HXS;omega) (w.heap.size+1) (unhide HXS) ?_;intro g cap2 w3 hown3 hgrow3 hor3 hlt3;have M:=(unhide HW).mid hown3 hgrow3;have hbox3:=(grow_type (unhide HW).own hgrow3 p _ _ (unhide HW).box (by decide)).trans (unhide HW).box;have d0:w3.cell? ⟨p,0,none⟩=some (.slice a L.length cap):=(by simp[World.cell?,hbox3]);have df:w3.frozen? ⟨p,0,none⟩=false:=(by simp[World.frozen?,hbox3]);have HM:=hide M;clear M hbox3 hown3 hgrow3 hor3)
 obtain⟨Y,hY⟩:∃ Y,Y=w3.setCell ⟨p,0,none⟩ (.slice (some ⟨g,0,none⟩) (L.length+1) cap2):=⟨_,rfl⟩
 rw[←hY] at HM ⊢
 have M:=unhide HM
 have e0:Y.cell? ⟨p,0,none⟩=some (.slice (some ⟨g,0,none⟩) (L.length+1) cap2):=by simp[World.cell?,M.box]
 have e1:Y.cell? ⟨p,1,none⟩=some (.map (some bm)):=by simp[World.cell?,M.box]
 have hD:Y.drew.ownsMap Tryz.prog 9 (plainElem (H:=Unit) Tryz.prog 3) bm L.length D:=M.map.drew
 obtain⟨w4,hrun,hown4,hg4⟩:=hD.update key9 Tryz.underlying241 (by have:=unhide HL;unfold maxLen;omega) (Go.WideMaps.keyOf_string_mk Tryz.underlying9 (s:=s) (by have:=unhide HZ;unfold maxLen;omega)) (plainElem_int (H:=Unit) Tryz.underlying3 (q:=.i64) (a:=(L.length:Int)+1) (by have:=unhide HL;simp[Lit.wf,IntKind.min,IntKind.max,IntKind.signed,IntKind.bits];omega))
 have hg5:Y.grownBy w4 (some bm):=⟨hg4.1,hg4.2,hg4.3,hg4.4,hg4.5⟩
 have R:=hide (M.wr (unhide HW).ism (unhide HW).pge (unhide HW).mge (unhide HS) (unhide HW).names hown4 hg5)
 obtain⟨f0,f1,f2⟩:=(unhide R).1.cell0
 clear hY M hD hown4 hg4 hg5 d0 df
 go_region
 go_wp2
 go_ret
 exact⟨rfl,⟨_,_,(unhide R).1⟩,((unhide HBX).mono (unhide HB)).trans (unhide R).2.1,(Zag (unhide HBX)).trans (unhide R).2.2⟩
theorem Ew{a b:Int}(h:Js a=Js b):a=b:=by
 injection h with h
 injection h
theorem Wr.look{base p bm:Nat}{w:World}{v:Value}{D:DataW Unit}{L:List ByteArray}(h:Wr base p bm w v D L)(s:ByteArray)(hs:s.size≤4000) :
  Sem.run Tryz.prog (Instr.lookup 241 (.map (some bm)) (.string s) false) w = .ok (.int .i64 (place s L:Nat)) w:=by
 obtain⟨c,hrun,hat,_⟩:=h.map.lookup_int key9 Tryz.underlying241 Tryz.underlying3 (zero3 w) (Go.WideMaps.keyOf_string_mk Tryz.underlying9 (s:=s) (by unfold maxLen;omega))
 have e:c=(place s L:Nat):=by
  have h2:=h.names s
  rw[h2] at hat
  exact (Ew hat).symm
 subst e
 exact hrun
theorem Er(base p bm:Nat)(v:Value)(D:DataW Unit)(L M:List ByteArray)(s:ByteArray)(n e:Int)(w:World)(hW:Wr base p bm w v D L)(hL:L.length≤120)(hn:nm L s=(M,n,e)) :
  Calls Tryz.prog 154 #[.pointer (some ⟨p,0,none⟩),.string s] w fun x w'=>x = .returned (.tuple #[.int .i64 n,.int .i64 e])∧(e=0→∃ v' D',Wr base p bm w' v' D' M)∧Below base w w'∧Far w w':=by
 obtain⟨c0,c1,cf⟩:=hW.cell0
 have hW2:=hW
 obtain⟨a,cap,rfl,-,-,-,-⟩:=Wj hW.own
 have HW:=hide hW2
 clear hW hW2
 by_cases h1:4000<s.size
 ·have e1:nm L s=([],0,2):=by unfold nm;rw[if_pos h1]
  rw[e1] at hn
  obtain⟨rfl,hn2⟩:=Prod.mk.injEq .. ▸ hn
  obtain⟨rfl,rfl⟩:=Prod.mk.injEq .. ▸ hn2
  have g:(4000:Int)<(s.size:Int):=by omega
  clear hn hn2 e1 h1
  go_enter Tryz.func154,Tryz.ntmps154
  go_wp2
  go_ret2
  exact⟨rfl,fun h=>absurd h (by decide),Below.refl _ _,Far.refl _⟩
 ·have hz:s.size≤4000:=by omega
  have g:¬(4000:Int)<(s.size:Int):=by omega
  have hrun:=(unhide HW).look s hz
  by_cases h2:place s L≠0
  ·have e1:nm L s=(L,(place s L:Int),0):=by unfold nm;rw[if_neg h1,if_pos h2]
   rw[e1] at hn
   obtain⟨rfl,hn2⟩:=Prod.mk.injEq .. ▸ hn
   obtain⟨rfl,rfl⟩:=Prod.mk.injEq .. ▸ hn2
   obtain⟨q,hq⟩:∃ q,place s L=q:=⟨_,rfl⟩
   rw[hq] at hrun h2 ⊢
   have g2:((q:Int) != 0)=true:=by simp;omega
   clear hn hn2 e1 h1 h2 hq
   go_enter Tryz.func154,Tryz.ntmps154
   go_wp2
   go_ret2
   first|exact⟨rfl,fun _=>⟨_,_,unhide HW⟩,Below.refl _ _,Far.refl _⟩|exact⟨rfl,⟨_,_,unhide HW⟩,Below.refl _ _,Far.refl _⟩
  ·have h3:place s L=0:=by omega
   rw[h3] at hrun
   by_cases h4:120≤L.length
   ·have e1:nm L s=([],0,12):=by unfold nm;rw[if_neg h1,if_neg h2,if_pos h4]
    rw[e1] at hn
    obtain⟨rfl,hn2⟩:=Prod.mk.injEq .. ▸ hn
    obtain⟨rfl,rfl⟩:=Prod.mk.injEq .. ▸ hn2
    have g2:((L.length:Int) == 120)=true:=by simp;omega
    clear hn hn2 e1 h1 h2 h3 h4
    go_enter Tryz.func154,Tryz.ntmps154
    go_wp2
    go_ret2
    first|exact⟨rfl,fun h=>absurd h (by decide),Below.refl _ _,Far.refl _⟩|exact⟨rfl,Below.refl _ _,Far.refl _⟩
   ·have e1:nm L s=(L++[s],(L.length:Int)+1,0):=by unfold nm;rw[if_neg h1,if_neg h2,if_neg h4]
    rw[e1] at hn
    obtain⟨rfl,hn2⟩:=Prod.mk.injEq .. ▸ hn
    obtain⟨rfl,rfl⟩:=Prod.mk.injEq .. ▸ hn2
    have g2:((L.length:Int) == 120)=false:=by simp;omega
    have A:=hide (add_is base p bm _ D L s w (unhide HW) hL (place_zero.1 h3) hz)
    clear hn hn2 e1 h1 h2 h3 h4
    go_enter Tryz.func154,Tryz.ntmps154
    go_wp2_with fail
    refine (unhide A).mono ?_
    rintro x w2 ⟨rfl,hw2,hb2,hf2⟩
    have H2:=hide hw2
    have HB2:=hide hb2
    have HF2:=hide hf2
    clear hw2 hb2 hf2
    go_wp2
    go_ret2
    first|exact⟨rfl,fun _=>unhide H2,unhide HB2,unhide HF2⟩|exact⟨rfl,unhide H2,unhide HB2,unhide HF2⟩
open Go.RowKit Go.Maps
theorem To(n:Int)(w:World):(Instr.makeMap 241 (some (.int .i64 n))).run Tryz.prog w = .ok (.map (some w.heap.size)) (w.alloc (.map #[] 0)):=by kernel_rfl
theorem F8(w:World)(base:Nat)(hb:base≤w.heap.size):Wr base (w.heap.size+1) w.heap.size ((w.alloc (.map #[] 0)).alloc (.cells #[.slice none 0 0,.map (some w.heap.size)] 243)) (.slice none 0 0) (.map []) []:=by
 have e:(w.alloc (.map #[] 0)).heap.size=w.heap.size+1:=by simp
 refine⟨?_,by omega,hb,⟨rfl,Or.inl ⟨rfl,rfl⟩⟩,?_,⟨[],rfl⟩,fun s=>rfl⟩
 ·have:=heap_alloc_new (w.alloc (.map #[] 0)) (.cells #[.slice none 0 0,.map (some w.heap.size)] 243)
  rw[e] at this
  exact this
 ·exact (World.ownsMap_made w Tryz.prog 9 (plainElem (H:=Unit) Tryz.prog 3)).alloc _
theorem D8(b off n c:Nat)(L:List ByteArray)(w:World)(hz:L.length=n)(h0:0<n)(h1:n≤120)(hb:b<w.heap.size)(hc:∀ i (h:i<L.length),w.cell? ⟨b,off+i,none⟩=some (.string L[i]))(x:Int)(hx:Jb [] L=x) :
  Calls Tryz.prog 133 #[.agg #[.slice (some ⟨b,off,none⟩) n c]] w fun e w'=>∃ v,e = .returned (.tuple #[v,.int .i64 x])∧(x=0→∃ p bm v' D',v = .pointer (some ⟨p,0,none⟩)∧Wr w.heap.size p bm w' v' D' L)∧Below w.heap.size w w':=by
 have hb1:=bel_new w (.cells #[.slice (some ⟨b,off,none⟩) n c] 24)
 have hs1:(w.alloc (.cells #[.slice (some ⟨b,off,none⟩) n c] 24)).heap.size=w.heap.size+1:=by simp
 have W0:=F8 (w.alloc (.cells #[.slice (some ⟨b,off,none⟩) n c] 24)) w.heap.size (by omega)
 rw[hs1] at W0
 obtain⟨X,hX⟩:∃ X,X=((w.alloc (.cells #[.slice (some ⟨b,off,none⟩) n c] 24)).alloc (.map #[] 0)).alloc (.cells #[.slice none 0 0,.map (some (w.heap.size+1))] 243):=⟨_,rfl⟩
 have hbX:Below w.heap.size w X:=by
  rw[hX]
  exact bel_on (bel_on hb1 (bel_new _ _)) (bel_new _ _)
 have cX:X.cell? ⟨w.heap.size,0,none⟩=some (.slice (some ⟨b,off,none⟩) n c):=by
  rw[hX]
  exact cell_later (bel_on (bel_new _ _) (bel_new _ _)) (one_new w (.slice (some ⟨b,off,none⟩) n c) 24)
 rw[←hX] at W0
 have HW0:=hide W0
 have HBX:=hide hbX
 have HC:=hide hc
 have HZ:=hide hz
 have HX:=hide hx
 have hmm:=To
 have g:¬(120:Int)<(n:Int):=by omega
 clear W0 hbX hc hz hx hb1 hs1
 go_enter Tryz.func133,Tryz.ntmps133
 go_wp2
 rw[←hX]
 clear hX
 go_loopw [20] (fun i wr=>∃ j:Nat,j≤n∧i = .int .i64 j∧Below w.heap.size w wr∧(∃ v D,Hid (Wr w.heap.size (w.heap.size+2) (w.heap.size+1) wr v D (L.take j)))∧Hid (Jb (L.take j) (L.drop j)=x)) (fun i _=>n - (intOf i).toNat)
 case atStart=>exact⟨0,Nat.zero_le _,rfl,unhide HBX,⟨_,_,HW0⟩,unhide HX⟩
 case round=>
  obtain⟨j,hk,rfl,hbw,⟨v,D,HW⟩,A⟩:=hrel
  have HB:=hide hbw
  by_cases hlt:j<n
  ·have hlj:j<L.length:=by rw[unhide HZ];exact hlt
   have f:=(World.cell?_of_block (hbw.block b hb)).trans ((unhide HC) j hlj)
   have hlb:b<wr.heap.size:=Nat.lt_of_lt_of_le hb hbw.size
   obtain⟨c0,c1,cf⟩:=(unhide HW).cell0
   have S:=bk_at hlj
   rw[unhide A] at S
   have hl1:(L.take j).length=j:=by rw[List.length_take];omega
   have TK:=hide (List.take_succ_eq_append_getElem hlj)
   obtain⟨s,hs⟩:∃ s,L[j]=s:=⟨_,rfl⟩
   rw[hs] at f S TK
   clear hs hbw A
   by_cases h2:4000<s.size
   ·rw[if_pos h2] at S
    subst S
    have g2:(4000:Int)<(s.size:Int):=by omega
    clear h2
    go_wp2
    go_ret2
    first|exact⟨_,rfl,fun h=>absurd h (by decide),unhide HB⟩|exact⟨⟨_,rfl⟩,unhide HB⟩
   ·rw[if_neg h2] at S
    have g2:¬(4000:Int)<(s.size:Int):=by omega
    have hz:s.size≤4000:=by omega
    have hrun:=(unhide HW).look s hz
    by_cases h3:place s (L.take j)≠0
    ·rw[if_pos h3] at S
     subst S
     obtain⟨q,hq⟩:∃ q,place s (L.take j)=q:=⟨_,rfl⟩
     rw[hq] at hrun h3
     have g3:((q:Int) != 0)=true:=by simp;omega
     clear h2 h3 hq
     go_wp2
     go_ret2
     first|exact⟨_,rfl,fun h=>absurd h (by decide),unhide HB⟩|exact⟨⟨_,rfl⟩,unhide HB⟩
    ·rw[if_neg h3] at S
     have h4:place s (L.take j)=0:=by omega
     rw[h4] at hrun
     have AD:=hide (add_is w.heap.size (w.heap.size+2) (w.heap.size+1) v D (L.take j) s wr (unhide HW) (by omega) (place_zero.1 h4) hz)
     have HS:Hid (Jb (L.take (j+1)) (L.drop (j+1))=x):=S.symm
     clear h2 h3 h4 S
     go_wp2_with fail
     refine (unhide AD).mono ?_
     rintro e w2 ⟨rfl,hw2,hb2,hf2⟩
     have H2:=hide hw2
     have HB2:=hide ((unhide HB).trans hb2)
     clear hw2 hb2 hf2
     go_wp2
     go_roundw
     case rel=>
      obtain⟨v',D',hw'⟩:=unhide H2
      exact⟨j+1,by omega,by go_num,unhide HB2,⟨v',D',by rw[unhide TK];exact hw'⟩,HS⟩
     case measure=>simp[intOf];omega
  ·have R:Hid (x=0):=by show _=_;rw[←unhide A];exact Zco (by rw[unhide HZ];omega)
   have HW2:Hid (∃ v' D',Wr w.heap.size (w.heap.size+2) (w.heap.size+1) wr v' D' L):=⟨v,D,by have:=unhide HW;rw[List.take_of_length_le (by rw[unhide HZ];omega)] at this;exact this⟩
   clear A hbw HW
   go_wp2
   go_ret2
   refine⟨.pointer (some ⟨w.heap.size+2,0,none⟩),?_,fun _=>?_,unhide HB⟩
   ·rw[unhide R];rfl
   ·obtain⟨v',D',hw'⟩:=unhide HW2
    exact⟨_,_,v',D',rfl,hw'⟩
theorem Nt(a:Option Addr)(n c:Nat)(L:List ByteArray)(w:World)(h:TextsAt w a n L)(x:Int)(hx:bkChk L=x) :
  Calls Tryz.prog 133 #[.agg #[.slice a n c]] w fun e w'=>∃ v,e = .returned (.tuple #[v,.int .i64 x])∧(x=0→∃ p bm v' D',v = .pointer (some ⟨p,0,none⟩)∧Wr w.heap.size p bm w' v' D' L)∧Below w.heap.size w w':=by
 have hz:=h.1
 by_cases h1:120<n
 ·have e:x=2:=by rw[←hx];unfold bkChk;rw[if_pos (by omega)]
  subst e
  have g:(120:Int)<(n:Int):=by omega
  have HB:=hide (bel_new w (.cells #[.slice a n c] 24))
  clear h hx h1 hz
  go_enter Tryz.func133,Tryz.ntmps133
  go_wp2
  go_ret2
  first|exact⟨_,rfl,fun h=>absurd h (by decide),unhide HB⟩|exact⟨⟨_,rfl⟩,unhide HB⟩
 ·have hx2:Jb [] L=x:=by rw[←hx];unfold bkChk;rw[if_neg (by omega)]
  by_cases h0:n=0
  ·subst h0
   have e:L=[]:=List.length_eq_zero_iff.1 hz
   subst e
   have e:x=0:=by rw[←hx2];rfl
   subst e
   have hs1:(w.alloc (.cells #[.slice a 0 c] 24)).heap.size=w.heap.size+1:=by simp
   have W0:=F8 (w.alloc (.cells #[.slice a 0 c] 24)) w.heap.size (by omega)
   rw[hs1] at W0
   have HW0:=hide W0
   have HB:=hide (bel_on (bel_on (bel_new w (.cells #[.slice a 0 c] 24)) (bel_new _ (.map #[] 0))) (bel_new _ (.cells #[.slice none 0 0,.map (some (w.heap.size+1))] 243)))
   have hmm:=To
   clear h hx h1 hz hx2 hs1 W0
   go_enter Tryz.func133,Tryz.ntmps133
   go_wp2
   refine wp_loop_rounds 1 ?_
   rw[rounds_succ]
   go_wp2
   go_ret2
   refine⟨_,rfl,fun _=>⟨_,_,_,_,rfl,unhide HW0⟩,unhide HB⟩
  ·obtain⟨b,off,rfl,hc⟩:=h.2 (by omega)
   exact D8 b off n c L w hz (by omega) (by omega) (World.block_lt_of_cell? _ _ (hc 0 (by omega))) hc x hx2
end Go.Proofs.YtmomfkikogbdeaaGreatDoor.Bk
