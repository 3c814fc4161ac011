import Derived.Test.YtpikejjiignchaaGreatDoorRows
import Derived.BigQuiet
import Derived.Deep.RegionWith
import Derived.Laws.AppendOwnNone
import Derived.WalkLawsBesides
import Derived.Deep.AppendLies
set_option maxHeartbeats 3200000
set_option maxRecDepth 10000
namespace Go.Proofs.YtpikejjiignchaaGreatDoor.Bk
def Zk(s:ByteArray):List ByteArray→Nat
 | []=>0
 | x :: r=>if x=s then 1 else if Zk s r=0 then 0 else Zk s r+1
theorem place_zero{s:ByteArray}:∀ {L:List ByteArray},Zk s L=0↔s∉L
 | []=>by simp[Zk]
 | x :: r=>by
  unfold Zk
  have ih:=place_zero (s:=s) (L:=r)
  by_cases h:x=s
  ·simp[h]
  ·have h':¬s=x:=fun e=>h e.symm
   rw[if_neg h]
   by_cases hr:Zk s r=0
   ·rw[if_pos hr];simp[h',ih.1 hr]
   ·rw[if_neg hr]
    have:s∈r:=by
     rcases Classical.em (s∈r) with m|m
     ·exact m
     ·exact absurd (ih.2 m) hr
    simp[this]
theorem Dh(s:ByteArray):∀ L:List ByteArray,Zk s L≤L.length
 | []=>by simp[Zk]
 | x :: r=>by
  unfold Zk
  have:=Dh s r
  split
  ·simp
  ·split
   ·simp
   ·simp;exact this
theorem Wd(s:ByteArray):∀ (L M:List ByteArray),Zk s (L++M)=if Zk s L=0 then (if Zk s M=0 then 0 else L.length+Zk s M) else Zk s L
 | [],M=>by
  have e:Zk s []=0:=rfl
  rw[e,if_pos rfl,List.nil_append]
  by_cases hM:Zk s M=0
  ·rw[if_pos hM];exact hM
  ·rw[if_neg hM];simp
 | x :: r,M=>by
  have e1:Zk s (x :: r)=if x=s then 1 else if Zk s r=0 then 0 else Zk s r+1:=rfl
  have e2:Zk s ((x :: r)++M)=if x=s then 1 else if Zk s (r++M)=0 then 0 else Zk s (r++M)+1:=rfl
  rw[e2,Wd s r M]
  by_cases hx:x=s
  ·rw[if_pos hx] at *
   rw[e1];simp
  ·rw[if_neg hx] at *
   by_cases hr:Zk s r=0
   ·rw[if_pos hr] at e1
    rw[e1,hr]
    by_cases hM:Zk s M=0
    ·simp[hM]
    ·simp only[hM,if_true,if_false,List.length_cons]
     rw[if_neg (by omega)];omega
   ·rw[if_neg hr] at e1
    rw[e1,if_neg hr,if_neg hr,if_neg (by omega)]
theorem Gx{s:ByteArray}{L:List ByteArray}(h:s∉L):Zk s (L++[s])=L.length+1:=by
 rw[Wd,if_pos (place_zero.2 h)];simp[Zk]
theorem Dg{s t:ByteArray}(L:List ByteArray)(h:s≠t):Zk s (L++[t])=Zk s L:=by
 rw[Wd]
 have e:Zk s [t]=0:=by rw[place_zero];simp[h]
 rw[e]
 split
 ·rw[if_pos rfl];rename_i e2;exact e2.symm
 ·rfl
theorem Qc(s:ByteArray):∀ (L:List ByteArray) (k:Nat),Zk s (L.take k)=if Zk s L≤k then Zk s L else 0
 | [],k=>by simp[Zk]
 | x :: r,0=>by
  have e:Zk s (List.take 0 (x :: r))=0:=rfl
  rw[e];split <;> omega
 | x :: r,k+1=>by
  have e1:Zk s (x :: r)=if x=s then 1 else if Zk s r=0 then 0 else Zk s r+1:=rfl
  have e2:Zk s ((x :: r).take (k+1))=if x=s then 1 else if Zk s (r.take k)=0 then 0 else Zk s (r.take k)+1:=rfl
  rw[e2,Qc s r k]
  by_cases hx:x=s
  ·rw[if_pos hx] at *
   rw[e1,if_pos (by omega)]
  ·rw[if_neg hx] at *
   by_cases hr:Zk s r=0
   ·rw[if_pos hr] at e1
    rw[e1,hr];simp
   ·rw[if_neg hr] at e1
    rw[e1]
    by_cases hk:Zk s r≤k
    ·rw[if_pos hk,if_neg hr,if_pos (by omega)]
    ·rw[if_neg hk,if_pos rfl,if_neg (by omega)]
theorem Zcl{L:List ByteArray}{k:Nat}(h:k<L.length):0<Zk L[k] L∧Zk L[k] L≤k+1:=by
 have h1:0<Zk L[k] L:=by
  rcases Nat.eq_zero_or_pos (Zk L[k] L) with e|e
  ·exact absurd (List.getElem_mem h) (place_zero.1 e)
  ·exact e
 refine⟨h1,?_⟩
 have h2:=Qc L[k] L (k+1)
 by_cases h3:Zk L[k] L≤k+1
 ·exact h3
 ·rw[if_neg h3,place_zero] at h2
  exact absurd (List.mem_take_iff_getElem.2 ⟨k,Nat.lt_min.2 ⟨Nat.lt_succ_self k,h⟩,rfl⟩) h2
def Jl(seen:List ByteArray):List ByteArray→Int
 | []=>0
 | s :: r=>if 4000<s.size then 2 else if Zk s seen≠0 then 6 else Jl (seen++[s]) r
def bkChk(L:List ByteArray):Int:=if 120<L.length then 2 else Jl [] L
theorem Zgq{L:List ByteArray}{k:Nat}(h:k<L.length):Jl (L.take k) (L.drop k)=if 4000<L[k].size then 2 else if Zk L[k] (L.take k)≠0 then 6 else Jl (L.take (k+1)) (L.drop (k+1)):=by
 rw[List.drop_eq_getElem_cons h,Jl,List.take_succ_eq_append_getElem h]
theorem Zeh{L:List ByteArray}{k:Nat}(h:L.length≤k):Jl (L.take k) (L.drop k)=0:=by
 rw[List.drop_of_length_le h];rfl
theorem Lz:∀ (L seen:List ByteArray),Jl seen L=0→seen.Nodup→(seen++L).Nodup∧∀ s∈L,s.size≤4000
 | [],seen,_,hs=>by simpa using hs
 | s :: r,seen,h,hs=>by
  unfold Jl at h
  by_cases h1:4000<s.size
  ·rw[if_pos h1] at h;omega
  ·rw[if_neg h1] at h
   by_cases h2:Zk s seen≠0
   ·rw[if_pos h2] at h;omega
   ·rw[if_neg h2] at h
    have h3:s∉seen:=place_zero.1 (by omega)
    have hn:(seen++[s]).Nodup:=by
     rw[List.nodup_append]
     exact⟨hs,by simp,fun a ha b hb=>by simp at hb;subst hb;exact fun e=>h3 (e ▸ ha)⟩
    have ih:=Lz r (seen++[s]) h hn
    rw[List.append_assoc] at ih
    refine⟨ih.1,fun x hx=>?_⟩
    rcases List.mem_cons.1 hx with rfl|hx
    ·omega
    ·exact ih.2 x hx
theorem H6:∀ (L seen:List ByteArray),(seen++L).Nodup→(∀ s∈L,s.size≤4000)→Jl seen L=0
 | [],_,_,_=>rfl
 | s :: r,seen,hn,hs=>by
  unfold Jl
  have h1:¬4000<s.size:=by have:=hs s (by simp);omega
  have h2:s∉seen:=by
   intro hm
   rw[List.nodup_append] at hn
   exact hn.2.2 s hm s (by simp) rfl
  rw[if_neg h1,if_neg (by rw[place_zero.2 h2];decide)]
  refine H6 r (seen++[s]) (by rw[List.append_assoc];exact hn) (fun x hx=>hs x (by simp[hx]))
def Right(L:List ByteArray):Prop:=L.length≤120∧L.Nodup∧∀ s∈L,s.size≤4000
theorem right_iff(L:List ByteArray):bkChk L=0↔Right L:=by
 unfold bkChk Right
 by_cases h:120<L.length
 ·rw[if_pos h];constructor
  ·intro e;omega
  ·intro ⟨e,_⟩;omega
 ·rw[if_neg h]
  constructor
  ·intro e
   have:=Lz L [] e List.nodup_nil
   exact⟨by omega,this.1,this.2⟩
  ·intro ⟨_,h1,h2⟩
   exact H6 L [] h1 h2
def nm(L:List ByteArray)(s:ByteArray):List ByteArray×Int×Int:=
 if 4000<s.size then ([],0,2) else if Zk s L≠0 then (L,(Zk s L:Int),0) else if 120≤L.length then ([],0,12) else (L++[s],L.length+1,0)
def nmGo(L:List ByteArray)(N:List Int):List ByteArray→List ByteArray×List Int×Int
 | []=>(L,N,0)
 | s :: r=>if (nm L s).2.2=0 then nmGo (nm L s).1 (N++[(nm L s).2.1]) r else ([],[],(nm L s).2.2)
theorem nm_right{L:List ByteArray}{s:ByteArray}(h:Right L)(h0:(nm L s).2.2=0):Right (nm L s).1:=by
 unfold nm at *
 by_cases h1:4000<s.size
 ·rw[if_pos h1] at h0;cases h0
 ·rw[if_neg h1] at *
  by_cases h2:Zk s L≠0
  ·rw[if_pos h2] at *;exact h
  ·rw[if_neg h2] at *
   by_cases h3:120≤L.length
   ·rw[if_pos h3] at h0;cases h0
   ·rw[if_neg h3] at *
    have h4:s∉L:=place_zero.1 (by omega)
    refine⟨by simp;omega,?_,fun x hx=>?_⟩
    ·rw[List.nodup_append]
     exact⟨h.2.1,by simp,fun a ha b hb=>by simp at hb;subst hb;exact fun e=>h4 (e ▸ ha)⟩
    ·rcases List.mem_append.1 hx with hx|hx
     ·exact h.2.2 x hx
     ·simp at hx;subst hx;omega
theorem nm_grows{L:List ByteArray}{s:ByteArray}(h0:(nm L s).2.2=0):∃ M,(nm L s).1=L++M:=by
 unfold nm at *
 by_cases h1:4000<s.size
 ·rw[if_pos h1] at h0;cases h0
 ·rw[if_neg h1] at *
  by_cases h2:Zk s L≠0
  ·rw[if_pos h2];exact⟨[],by simp⟩
  ·rw[if_neg h2] at *
   by_cases h3:120≤L.length
   ·rw[if_pos h3] at h0;cases h0
   ·rw[if_neg h3];exact⟨[s],rfl⟩
theorem nm_place{L:List ByteArray}{s:ByteArray}(h0:(nm L s).2.2=0):(nm L s).2.1=(Zk s (nm L s).1:Int)∧0<Zk s (nm L s).1∧s.size≤4000:=by
 unfold nm at *
 by_cases h1:4000<s.size
 ·rw[if_pos h1] at h0;cases h0
 ·rw[if_neg h1] at *
  by_cases h2:Zk s L≠0
  ·rw[if_pos h2];exact⟨rfl,by show 0<Zk s L;omega,by omega⟩
  ·rw[if_neg h2] at *
   by_cases h3:120≤L.length
   ·rw[if_pos h3] at h0;cases h0
   ·rw[if_neg h3]
    have h4:s∉L:=place_zero.1 (by omega)
    show (L.length:Int)+1=_∧_
    simp only[Gx h4]
    exact⟨by simp,by omega,by omega⟩
theorem nm_there{L:List ByteArray}{s:ByteArray}(hs:s.size≤4000)(h:0<Zk s L):nm L s=(L,(Zk s L:Int),0):=by
 unfold nm
 rw[if_neg (by omega),if_pos (by omega)]
theorem place_stays{s:ByteArray}{L:List ByteArray}(M:List ByteArray)(h:0<Zk s L):Zk s (L++M)=Zk s L:=by
 rw[Wd,if_neg (by omega)]
open Go.RowKit Go.Maps
theorem Zb{p:Prop}(h:p):Hid p:=h
theorem Za{p:Prop}(h:Hid p):p:=h
theorem Ze{w w1 w2:World}(h1:Below w.heap.size w w1)(h2:Below w1.heap.size w1 w2):Below w.heap.size w w2:=h1.trans (h2.mono h1.size)
theorem Zf(w:World)(o:Obj):Below w.heap.size w (w.alloc o):=(Below.refl _ _).alloc (Nat.le_refl _) _
theorem U5(w:World)(n:Nat):Below w.heap.size w (w.drewN n):=⟨rfl,rfl,rfl,Nat.le_refl _,fun _ _=>rfl⟩
theorem Zc{w w':World}{p:Addr}{v:Value}(hb:Below w.heap.size w w')(h:w.cell? p=some v):w'.cell? p=some v:=by
 rw[hb.cell (p:=p) (World.block_lt_of_cell? _ _ h)];exact h
theorem Qf(w:World)(x:Value)(t:TypeId):(w.alloc (.cells #[x] t)).cell? ⟨w.heap.size,0,none⟩=some x:=by
 rw[World.cell?_alloc_at _ _ _ _ rfl];rfl
def TextsAt(w:World)(a:Option Addr)(len:Nat)(L:List ByteArray):Prop:=
 L.length=len∧(0<len→∃ b off,a=some ⟨b,off,none⟩∧∀ i (h:i<L.length),w.cell? ⟨b,off+i,none⟩=some (.string L[i]))
theorem TextsAt.later{w w':World}{a:Option Addr}{len:Nat}{L:List ByteArray}(h:TextsAt w a len L)(hb:Below w.heap.size w w'):TextsAt w' a len L:=by
 refine⟨h.1,fun h0=>?_⟩
 obtain⟨b,off,e,hc⟩:=h.2 h0
 exact⟨b,off,e,fun i hi=>Zc hb (hc i hi)⟩
theorem TextsAt.nil(w:World)(a:Option Addr):TextsAt w a 0 []:=⟨rfl,fun h=>absurd h (by omega)⟩
theorem TextsAt.lt{w:World}{a:Option Addr}{len:Nat}{L:List ByteArray}(h:TextsAt w a len L)(x:Addr)(hx:a=some x)(h0:0<len):x.block<w.heap.size:=by
 obtain⟨b,off,e,hc⟩:=h.2 h0
 have hz:=h.1
 rw[hx] at e
 cases e
 exact World.block_lt_of_cell? _ _ (hc 0 (by omega))
theorem Uv{w:World}{base:Nat}{e:TypeId}{size:Nat}{v:Value}{n:Nat}{xs:List Value}(h:w.ownsRow base e size v n xs)(k:Nat)(hk:v.ownBlock=some k):base≤k:=by
 rcases h.2 with ⟨rfl,_⟩|⟨g,cap,cur,rfl,hg,_⟩
 ·cases hk
 ·cases hk;exact hg
theorem Vo{w w':World}{base:Nat}{e:TypeId}{size:Nat}{v:Value}{n:Nat}{xs:List Value}(h:w.ownsRow base e size v n xs)(hk:∀ (k:Nat) (cs:Array Value),base≤k→w.heap[k]? = some (.cells cs e (0,0))→w'.heap[k]? = w.heap[k]?):w'.ownsRow base e size v n xs:=by
 obtain⟨hl,h0|⟨g,cap,cur,hv,hg,hh,r⟩⟩:=h
 ·exact⟨hl,.inl h0⟩
 ·exact⟨hl,.inr ⟨g,cap,cur,hv,hg,(hk g cur hg hh).trans hh,r⟩⟩
theorem Sg{w w':World}{base:Nat}{e:TypeId}{size:Nat}{v:Value}{n:Nat}{xs:List Value}(h:w.ownsRow base e size v n xs)(hg:w.grownBy w' v.ownBlock)(k:Nat)(cs:Array Value)(t:TypeId)(hk:w.heap[k]? = some (.cells cs t (0,0)))(ht:t≠e):w'.heap[k]? = w.heap[k]?:=by
 refine hg.block k (lt_of_block hk) (fun e1=>?_)
 obtain⟨_,⟨rfl,_⟩|⟨g,cap,cur,rfl,_,hh,_⟩⟩:=h
 ·cases e1
 ·have e2:k=g:=by injection e1
  subst e2
  rw[hk] at hh
  injection hh with hh
  injection hh with _ hh
  exact ht hh
theorem Wb{w:World}{base:Nat}{v:Value}{n:Nat}{L:List ByteArray}(h:w.ownsRow base 9 1 v n (L.map Value.string)):∃ a cap,v = .slice a n cap∧n≤cap∧cap≤maxLen∧(a=none→n=0∧cap=0)∧TextsAt w a n L:=by
 have hl:L.length=n:=by have:=h.1;simpa using this
 rcases h.2 with ⟨rfl,rfl⟩|⟨g,cap,cur,rfl,_,_,h1,h2,_,_⟩
 ·have e:L=[]:=List.length_eq_zero_iff.1 hl
  subst e
  exact⟨none,0,rfl,Nat.le_refl _,by unfold maxLen;omega,fun _=>⟨rfl,rfl⟩,TextsAt.nil _ _⟩
 ·refine⟨_,cap,rfl,h1,h2,fun e=>(by cases e),hl,fun _=>⟨g,0,rfl,fun i hi=>?_⟩⟩
  rw[Nat.zero_add,World.ownsRow.cellAt h i (by omega)]
  simp[hi]
theorem Yq(n lo hi:Int)(b:Bool)(w:World)(hb:b=(decide (lo≤n) && decide (n≤hi))) :
  Calls Tryz.prog 114 #[.int .i64 n,.int .i64 lo,.int .i64 hi] w fun e w'=>e = .returned (.bool b)∧w=w':=by
 by_cases h1:lo≤n
 ·by_cases h2:n≤hi
  ·have e:b=true:=by rw[hb];simp[h1,h2]
   subst e
   clear hb
   go_enter Tryz.func114,Tryz.ntmps114
   go_wp2
   go_ret
   exact⟨rfl,rfl⟩
  ·have e:b=false:=by rw[hb];simp[h2]
   have h4:decide (n≤hi)=false:=by simp;omega
   have h5:hi<n:=by omega
   subst e
   clear hb h2
   go_enter Tryz.func114,Tryz.ntmps114
   go_wp2
   go_ret
   exact⟨rfl,rfl⟩
 ·have e:b=false:=by rw[hb];simp[h1]
  have h5:n<lo:=by omega
  subst e
  clear hb h1
  go_enter Tryz.func114,Tryz.ntmps114
  go_wp2
  go_ret
  exact⟨rfl,rfl⟩
theorem Tryz.info9:(Tryz.prog.info? 9).map (fun i=>(i.zero,i.size,i.bytes))=some (some (.string ⟨#[]⟩),1,16):=by kernel_rfl
theorem Tryz.infoInt:(Tryz.prog.info? 3).map (fun i=>(i.zero,i.size,i.bytes))=some (some (.int .i64 0),1,8):=by kernel_rfl
theorem key9:Keyed Tryz.prog 9:=string_keyed Tryz.underlying9
theorem Xd(w:World):(zeroValue 3).run Tryz.prog w = .ok (.int .i64 0) w:=by kernel_rfl
open Go.RowKit Go.Maps
abbrev Mh(s:ByteArray):Lit:=.string s.data.toList
abbrev Sc(n:Int):DataW Unit:=.lit (.int .i64 n)
structure Wr(base p bm:Nat)(wr:World)(v:Value)(D:DataW Unit)(L:List ByteArray):Prop where
 box:wr.heap[p]? = some (.cells #[v,.map (some bm)] 193 (0,0))
 pge:base≤p
 mge:base≤bm
 own:wr.ownsRow base 9 1 v L.length (L.map Value.string)
 map:wr.ownsMap Tryz.prog 9 (plainElem (H:=Unit) Tryz.prog 3) bm L.length D
 ism:IsMap D
 names:∀ s:ByteArray,D.atKey (Mh s) (Sc 0)=Sc (Zk s L:Nat)
def Far(w w':World):Prop:=∀ (k:Nat) (cs:Array Value) (t:TypeId),w.heap[k]? = some (.cells cs t (0,0))→t≠9→t≠193→w'.heap[k]? = w.heap[k]?
theorem Far.refl(w:World):Far w w:=fun _ _ _ _ _ _=>rfl
theorem Far.trans{a b c:World}(h:Far a b)(g:Far b c):Far a c:=fun k cs t hk h1 h2=>(g k cs t ((h k cs t hk h1 h2).trans hk) h1 h2).trans (h k cs t hk h1 h2)
theorem Zge{w w':World}(h:Below w.heap.size w w'):Far w w':=fun k _ _ hk _ _=>h.block k (lt_of_block hk)
theorem Wr.keep{base p bm:Nat}{w w':World}{v:Value}{D:DataW Unit}{L:List ByteArray}(h:Wr base p bm w v D L)(hb:Below w.heap.size w w'):Wr base p bm w' v D L:=by
 refine⟨(hb.block p (lt_of_block h.box)).trans h.box,h.pge,h.mge,Vo h.own (fun k cs _ hk=>hb.block k (lt_of_block hk)),?_,h.ism,h.names⟩
 obtain⟨es,clock,h1,r⟩:=h.map
 exact⟨es,clock,(hb.block bm (lt_of_block h1)).trans h1,r⟩
theorem Wr.cell0{base p bm:Nat}{w:World}{v:Value}{D:DataW Unit}{L:List ByteArray}(h:Wr base p bm w v D L):w.cell? ⟨p,0,none⟩=some v∧w.cell? ⟨p,1,none⟩=some (.map (some bm))∧w.frozen? ⟨p,0,none⟩=false:=by
 refine⟨?_,?_,?_⟩
 ·simp[World.cell?,h.box]
 ·simp[World.cell?,h.box]
 ·simp[World.frozen?,h.box]
theorem Zaa{D:DataW Unit}{L:List ByteArray}{s:ByteArray}(hm:IsMap D)(h:∀ s:ByteArray,D.atKey (Mh s) (Sc 0)=Sc (Zk s L:Nat))(hs:s∉L) :
  ∀ x:ByteArray,(D.put (Mh s) (Sc ((L.length:Int)+1))).atKey (Mh x) (Sc 0)=Sc (Zk x (L++[s]):Nat):=by
 intro x
 by_cases e:x=s
 ·subst e
  rw[atKey_put_same hm (by simp[WideAt.IsKeyLit]),Gx hs];simp
 ·have hne:Mh x≠Mh s:=by
   intro h2
   apply e
   have h3:x.data.toList=s.data.toList:=by injection h2
   have h4:x.data=s.data:=by rw[←Array.toList_inj];exact h3
   cases x;cases s;simp_all
  rw[atKey_put_other hne,h x,Dg L e]
theorem Ky(w:World)(p:Nat)(x y v:Value)(t:TypeId)(h:w.heap[p]? = some (.cells #[x,y] t (0,0))):(w.setCell ⟨p,0,none⟩ v).heap[p]? = some (.cells #[v,y] t (0,0)):=by
 rw[heap_setCell_same w p 0 #[x,y] t v h];rfl
structure Mid(base p bm:Nat)(X Y:World)(v:Value)(D:DataW Unit)(L:List ByteArray)(s:ByteArray):Prop where
 box:Y.heap[p]? = some (.cells #[v,.map (some bm)] 193 (0,0))
 own:Y.ownsRow base 9 1 v (L.length+1) ((L++[s]).map Value.string)
 map:Y.ownsMap Tryz.prog 9 (plainElem (H:=Unit) Tryz.prog 3) bm L.length D
 bel:Below base X Y
 far:Far X Y
theorem Wr.mid{base p bm:Nat}{X w3:World}{v v3:Value}{D:DataW Unit}{L:List ByteArray}{s:ByteArray}(h:Wr base p bm X v D L)
  (hown:w3.ownsRow base 9 1 v3 (L.length+1) (L.map Value.string++[.string s])) (hg:X.grownBy w3 v.ownBlock):Mid base p bm X (w3.setCell ⟨p,0,none⟩ v3) v3 D L s:=by
 have hpl:=lt_of_block h.box
 have hbase:base≤X.heap.size:=Nat.le_trans h.pge (Nat.le_of_lt hpl)
 have far:∀ (k:Nat) (cs:Array Value) (t:TypeId),X.heap[k]? = some (.cells cs t (0,0))→t≠9→w3.heap[k]? = X.heap[k]?:=fun k cs t hk ht=>Sg h.own hg k cs t hk ht
 have box3:w3.heap[p]? = some (.cells #[v,.map (some bm)] 193 (0,0)):=(far _ _ _ h.box (by decide)).trans h.box
 have far3:∀ (k:Nat),k≠p→(w3.setCell ⟨p,0,none⟩ v3).heap[k]? = w3.heap[k]?:=fun k hk=>heap_setCell_other w3 ⟨p,0,none⟩ k v3 hk
 refine⟨Ky w3 p v _ v3 _ box3,?_,?_,?_,?_⟩
 ·rw[List.map_append]
  refine Vo hown (fun k cs _ hk=>far3 k (fun e=>?_))
  subst e
  rw[box3] at hk
  injection hk with hk
  injection hk with _ hk
  exact absurd hk (by decide)
 ·obtain⟨es,clock,h1,r⟩:=h.map
  have hne:some bm≠v.ownBlock:=by
   intro e
   obtain⟨_,⟨rfl,_⟩|⟨g,cap,cur,rfl,_,hh,_⟩⟩:=h.own
   ·cases e
   ·have e2:bm=g:=by injection e
    subst e2
    rw[h1] at hh
    cases hh
  have h3:w3.heap[bm]? = X.heap[bm]?:=hg.block bm (lt_of_block h1) hne
  have hp:bm≠p:=by
   intro e
   subst e
   rw[h.box] at h1
   cases h1
  exact⟨es,clock,(far3 bm hp).trans (h3.trans h1),r⟩
 ·exact ((Below.refl base X).grown hg hbase (fun k hk=>Uv h.own k hk)).setCell h.pge _
 ·intro k cs t hk h9 h50
  have hp:k≠p:=by
   intro e
   subst e
   rw[h.box] at hk
   injection hk with hk
   injection hk with _ hk
   exact h50 hk.symm
  exact (far3 k hp).trans (far k cs t hk h9)
theorem Mid.wr{base p bm:Nat}{X Y w4:World}{v:Value}{D:DataW Unit}{L:List ByteArray}{s:ByteArray}(h:Mid base p bm X Y v D L s)(hm:IsMap D)(hp:base≤p)(hb:base≤bm)(hs:s∉L)
  (names:∀ s:ByteArray,D.atKey (Mh s) (Sc 0)=Sc (Zk s L:Nat))
  (hown:w4.ownsMap Tryz.prog 9 (plainElem (H:=Unit) Tryz.prog 3) bm (L.length+1) (D.put (Mh s) (Sc ((L.length:Int)+1)))) (hg:Y.grownBy w4 (some bm)) :
  Wr base p bm w4 v (D.put (Mh s) (Sc ((L.length:Int)+1))) (L++[s])∧Below base X w4∧Far X w4:=by
 have kept:∀ (k:Nat) (cs:Array Value) (t:TypeId),Y.heap[k]? = some (.cells cs t (0,0))→w4.heap[k]? = Y.heap[k]?:=fun k cs t hk=>hg.block k (lt_of_block hk) (fun e=>by
  have e2:k=bm:=by injection e
  subst e2
  obtain⟨es,clock,h1,_⟩:=h.map
  rw[h1] at hk
  cases hk)
 have hl:(L++[s]).length=L.length+1:=by simp
 have hYs:base≤Y.heap.size:=Nat.le_trans hp (Nat.le_of_lt (lt_of_block h.box))
 refine⟨⟨(kept _ _ _ h.box).trans h.box,hp,hb,?_,?_,?_,Zaa hm names hs⟩,?_,?_⟩
 ·rw[hl];exact Vo h.own (fun k cs _ hk=>kept k cs _ hk)
 ·rw[hl];exact hown
 ·obtain⟨es,rfl⟩:=hm
  exact⟨_,rfl⟩
 ·exact h.bel.trans ((Below.refl base Y).grown hg hYs (fun k hk=>by injection hk with hk;omega))
 ·exact fun k cs t hk h9 h50=>(kept k cs t ((h.far k cs t hk h9 h50).trans hk)).trans (h.far k cs t hk h9 h50)
open Go.RowKit Go.Maps
theorem Bo(base p bm:Nat)(v:Value)(D:DataW Unit)(L:List ByteArray)(s:ByteArray)(w:World)(hW:Wr base p bm w v D L)(hL:L.length≤120)(hs:s∉L)(hz:s.size≤4000) :
  Calls Tryz.prog 118 #[.pointer (some ⟨p,0,none⟩),.string s] w fun e w'=>e = .returned (.int .i64 ((L.length:Int)+1))∧(∃ v' D',Wr base p bm w' v' D' (L++[s]))∧Below base w w'∧Far w w':=by
 obtain⟨i0,hi,hz0,hz1,hz2⟩:=info_parts Tryz.info9
 have hpl:=lt_of_block hW.box
 have hbase:base≤w.heap.size:=Nat.le_trans hW.pge (Nat.le_of_lt hpl)
 obtain⟨X,hX⟩:∃ X,X=w.alloc (.cells #[.string s] 9):=⟨_,rfl⟩
 have hbX:Below w.heap.size w X:=by rw[hX];exact Zf _ _
 have hXs:X.heap.size=w.heap.size+1:=by rw[hX];simp
 have hnew:X.heap[w.heap.size]? = some (.cells #[.string s] 9 (0,0)):=by rw[hX];exact heap_alloc_new _ _
 have WX:=hW.keep hbX
 obtain⟨c0,c1,cf⟩:=hW.cell0
 have NEWS:=Zb (World.news_of_block hnew)
 obtain⟨a,cap,rfl,-,-,-,-⟩:=Wb hW.own
 have OWN:=Zb WX.own
 have HW:=Zb WX
 have HL:=Zb hL
 have HS:=Zb hs
 have HZ:=Zb hz
 have HBX:=Zb hbX
 have HB:=Zb hbase
 have HXS:=Zb hXs
 clear WX hbX hnew hL hs hz hW hbase
 subst hX
 go_enter Tryz.func118,Tryz.ntmps118
 go_wp2_with (at_builtin;refine wpList_append_lies _ rfl _ _ 22 rfl base 9 i0 (.string ⟨#[]⟩) 1 16 Tryz.underlying22 hi hz0 hz1 hz2 rfl (by decide) _ _ _ rfl (Za OWN) ⟨w.heap.size,0,none⟩ 1 1 [.string s] rfl rfl (Za NEWS) (fun u hu=>by simp at hu;subst hu;rfl) (by decide) (by have:=Za HL;unfold maxLen;omega) (by have:=Za HL;omega) (by have:=Za HB;have:=Za HXS;omega) (w.heap.size+1) (Za HXS) ?_;intro g cap2 w3 hown3 hgrow3 hor3 hlt3;have M:=(Za HW).mid hown3 hgrow3;have hbox3:=(Sg (Za HW).own hgrow3 p _ _ (Za HW).box (by decide)).trans (Za HW).box;have d0:w3.cell? ⟨p,0,none⟩=some (.slice a L.length cap):=(by simp[World.cell?,hbox3]);have df:w3.frozen? ⟨p,0,none⟩=false:=(by simp[World.frozen?,hbox3]);have HM:=Zb M;clear M hbox3 hown3 hgrow3 hor3)
 obtain⟨Y,hY⟩:∃ Y,Y=w3.setCell ⟨p,0,none⟩ (.slice (some ⟨g,0,none⟩) (L.length+1) cap2):=⟨_,rfl⟩
 rw[←hY] at HM ⊢
 have M:=Za HM
 have e0:Y.cell? ⟨p,0,none⟩=some (.slice (some ⟨g,0,none⟩) (L.length+1) cap2):=by simp[World.cell?,M.box]
 have e1:Y.cell? ⟨p,1,none⟩=some (.map (some bm)):=by simp[World.cell?,M.box]
 have hD:Y.drew.ownsMap Tryz.prog 9 (plainElem (H:=Unit) Tryz.prog 3) bm L.length D:=M.map.drew
 obtain⟨w4,hrun,hown4,hg4⟩:=hD.update key9 Tryz.underlying191 (by have:=Za HL;unfold maxLen;omega) (Go.WideMaps.keyOf_string_mk Tryz.underlying9 (s:=s) (by have:=Za HZ;unfold maxLen;omega)) (plainElem_int (H:=Unit) Tryz.underlying3 (q:=.i64) (a:=(L.length:Int)+1) (by have:=Za HL;simp[Lit.wf,IntKind.min,IntKind.max,IntKind.signed,IntKind.bits];omega))
 have hg5:Y.grownBy w4 (some bm):=⟨hg4.1,hg4.2,hg4.3,hg4.4,hg4.5⟩
 have R:=Zb (M.wr (Za HW).ism (Za HW).pge (Za HW).mge (Za HS) (Za HW).names hown4 hg5)
 obtain⟨f0,f1,f2⟩:=(Za R).1.cell0
 clear hY M hD hown4 hg4 hg5 d0 df
 go_region
 go_wp2
 go_ret
 exact⟨rfl,⟨_,_,(Za R).1⟩,((Za HBX).mono (Za HB)).trans (Za R).2.1,(Zge (Za HBX)).trans (Za R).2.2⟩
theorem Zfr{a b:Int}(h:Sc a=Sc b):a=b:=by
 injection h with h
 injection h
theorem Wr.look{base p bm:Nat}{w:World}{v:Value}{D:DataW Unit}{L:List ByteArray}(h:Wr base p bm w v D L)(s:ByteArray)(hs:s.size≤4000) :
  Sem.run Tryz.prog (Instr.lookup 191 (.map (some bm)) (.string s) false) w = .ok (.int .i64 (Zk s L:Nat)) w:=by
 obtain⟨c,hrun,hat,_⟩:=h.map.lookup_int key9 Tryz.underlying191 Tryz.underlying3 (Xd w) (Go.WideMaps.keyOf_string_mk Tryz.underlying9 (s:=s) (by unfold maxLen;omega))
 have e:c=(Zk s L:Nat):=by
  have h2:=h.names s
  rw[h2] at hat
  exact (Zfr hat).symm
 subst e
 exact hrun
theorem Zfp(base p bm:Nat)(v:Value)(D:DataW Unit)(L M:List ByteArray)(s:ByteArray)(n e:Int)(w:World)(hW:Wr base p bm w v D L)(hL:L.length≤120)(hn:nm L s=(M,n,e)) :
  Calls Tryz.prog 128 #[.pointer (some ⟨p,0,none⟩),.string s] w fun x w'=>x = .returned (.tuple #[.int .i64 n,.int .i64 e])∧(e=0→∃ v' D',Wr base p bm w' v' D' M)∧Below base w w'∧Far w w':=by
 obtain⟨c0,c1,cf⟩:=hW.cell0
 have hW2:=hW
 obtain⟨a,cap,rfl,-,-,-,-⟩:=Wb hW.own
 have HW:=Zb hW2
 clear hW hW2
 by_cases h1:4000<s.size
 ·have e1:nm L s=([],0,2):=by unfold nm;rw[if_pos h1]
  rw[e1] at hn
  obtain⟨rfl,hn2⟩:=Prod.mk.injEq .. ▸ hn
  obtain⟨rfl,rfl⟩:=Prod.mk.injEq .. ▸ hn2
  have g:(4000:Int)<(s.size:Int):=by omega
  clear hn hn2 e1 h1
  go_enter Tryz.func128,Tryz.ntmps128
  go_wp2
  go_ret2
  exact⟨rfl,fun h=>absurd h (by decide),Below.refl _ _,Far.refl _⟩
 ·have hz:s.size≤4000:=by omega
  have g:¬(4000:Int)<(s.size:Int):=by omega
  have hrun:=(Za HW).look s hz
  by_cases h2:Zk s L≠0
  ·have e1:nm L s=(L,(Zk s L:Int),0):=by unfold nm;rw[if_neg h1,if_pos h2]
   rw[e1] at hn
   obtain⟨rfl,hn2⟩:=Prod.mk.injEq .. ▸ hn
   obtain⟨rfl,rfl⟩:=Prod.mk.injEq .. ▸ hn2
   obtain⟨q,hq⟩:∃ q,Zk s L=q:=⟨_,rfl⟩
   rw[hq] at hrun h2 ⊢
   have g2:((q:Int) != 0)=true:=by simp;omega
   clear hn hn2 e1 h1 h2 hq
   go_enter Tryz.func128,Tryz.ntmps128
   go_wp2
   go_ret2
   first|exact⟨rfl,fun _=>⟨_,_,Za HW⟩,Below.refl _ _,Far.refl _⟩|exact⟨rfl,⟨_,_,Za HW⟩,Below.refl _ _,Far.refl _⟩
  ·have h3:Zk s L=0:=by omega
   rw[h3] at hrun
   by_cases h4:120≤L.length
   ·have e1:nm L s=([],0,12):=by unfold nm;rw[if_neg h1,if_neg h2,if_pos h4]
    rw[e1] at hn
    obtain⟨rfl,hn2⟩:=Prod.mk.injEq .. ▸ hn
    obtain⟨rfl,rfl⟩:=Prod.mk.injEq .. ▸ hn2
    have g2:((L.length:Int) == 120)=true:=by simp;omega
    clear hn hn2 e1 h1 h2 h3 h4
    go_enter Tryz.func128,Tryz.ntmps128
    go_wp2
    go_ret2
    first|exact⟨rfl,fun h=>absurd h (by decide),Below.refl _ _,Far.refl _⟩|exact⟨rfl,Below.refl _ _,Far.refl _⟩
   ·have e1:nm L s=(L++[s],(L.length:Int)+1,0):=by unfold nm;rw[if_neg h1,if_neg h2,if_neg h4]
    rw[e1] at hn
    obtain⟨rfl,hn2⟩:=Prod.mk.injEq .. ▸ hn
    obtain⟨rfl,rfl⟩:=Prod.mk.injEq .. ▸ hn2
    have g2:((L.length:Int) == 120)=false:=by simp;omega
    have A:=Zb (Bo base p bm _ D L s w (Za HW) hL (place_zero.1 h3) hz)
    clear hn hn2 e1 h1 h2 h3 h4
    go_enter Tryz.func128,Tryz.ntmps128
    go_wp2_with fail
    refine (Za A).mono ?_
    rintro x w2 ⟨rfl,hw2,hb2,hf2⟩
    have H2:=Zb hw2
    have HB2:=Zb hb2
    have HF2:=Zb hf2
    clear hw2 hb2 hf2
    go_wp2
    go_ret2
    first|exact⟨rfl,fun _=>Za H2,Za HB2,Za HF2⟩|exact⟨rfl,Za H2,Za HB2,Za HF2⟩
open Go.RowKit Go.Maps
theorem G5(n:Int)(w:World):(Instr.makeMap 191 (some (.int .i64 n))).run Tryz.prog w = .ok (.map (some w.heap.size)) (w.alloc (.map #[] 0)):=by kernel_rfl
theorem Zaw(w:World)(base:Nat)(hb:base≤w.heap.size):Wr base (w.heap.size+1) w.heap.size ((w.alloc (.map #[] 0)).alloc (.cells #[.slice none 0 0,.map (some w.heap.size)] 193)) (.slice none 0 0) (.map []) []:=by
 have e:(w.alloc (.map #[] 0)).heap.size=w.heap.size+1:=by simp
 refine⟨?_,by omega,hb,⟨rfl,Or.inl ⟨rfl,rfl⟩⟩,?_,⟨[],rfl⟩,fun s=>rfl⟩
 ·have:=heap_alloc_new (w.alloc (.map #[] 0)) (.cells #[.slice none 0 0,.map (some w.heap.size)] 193)
  rw[e] at this
  exact this
 ·exact (World.ownsMap_made w Tryz.prog 9 (plainElem (H:=Unit) Tryz.prog 3)).alloc _
theorem E9(b off n c:Nat)(L:List ByteArray)(w:World)(hz:L.length=n)(h0:0<n)(h1:n≤120)(hb:b<w.heap.size)(hc:∀ i (h:i<L.length),w.cell? ⟨b,off+i,none⟩=some (.string L[i]))(x:Int)(hx:Jl [] L=x) :
  Calls Tryz.prog 72 #[.agg #[.slice (some ⟨b,off,none⟩) n c]] w fun e w'=>∃ v,e = .returned (.tuple #[v,.int .i64 x])∧(x=0→∃ p bm v' D',v = .pointer (some ⟨p,0,none⟩)∧Wr w.heap.size p bm w' v' D' L)∧Below w.heap.size w w':=by
 have hb1:=Zf w (.cells #[.slice (some ⟨b,off,none⟩) n c] 24)
 have hs1:(w.alloc (.cells #[.slice (some ⟨b,off,none⟩) n c] 24)).heap.size=w.heap.size+1:=by simp
 have W0:=Zaw (w.alloc (.cells #[.slice (some ⟨b,off,none⟩) n c] 24)) w.heap.size (by omega)
 rw[hs1] at W0
 obtain⟨X,hX⟩:∃ X,X=((w.alloc (.cells #[.slice (some ⟨b,off,none⟩) n c] 24)).alloc (.map #[] 0)).alloc (.cells #[.slice none 0 0,.map (some (w.heap.size+1))] 193):=⟨_,rfl⟩
 have hbX:Below w.heap.size w X:=by
  rw[hX]
  exact Ze (Ze hb1 (Zf _ _)) (Zf _ _)
 have cX:X.cell? ⟨w.heap.size,0,none⟩=some (.slice (some ⟨b,off,none⟩) n c):=by
  rw[hX]
  exact Zc (Ze (Zf _ _) (Zf _ _)) (Qf w (.slice (some ⟨b,off,none⟩) n c) 24)
 rw[←hX] at W0
 have HW0:=Zb W0
 have HBX:=Zb hbX
 have HC:=Zb hc
 have HZ:=Zb hz
 have HX:=Zb hx
 have hmm:=G5
 have g:¬(120:Int)<(n:Int):=by omega
 clear W0 hbX hc hz hx hb1 hs1
 go_enter Tryz.func72,Tryz.ntmps72
 go_wp2
 rw[←hX]
 clear hX
 go_loopw [20] (fun i wr=>∃ j:Nat,j≤n∧i = .int .i64 j∧Below w.heap.size w wr∧(∃ v D,Hid (Wr w.heap.size (w.heap.size+2) (w.heap.size+1) wr v D (L.take j)))∧Hid (Jl (L.take j) (L.drop j)=x)) (fun i _=>n - (intOf i).toNat)
 case atStart=>exact⟨0,Nat.zero_le _,rfl,Za HBX,⟨_,_,HW0⟩,Za HX⟩
 case round=>
  obtain⟨j,hk,rfl,hbw,⟨v,D,HW⟩,A⟩:=hrel
  have HB:=Zb hbw
  by_cases hlt:j<n
  ·have hlj:j<L.length:=by rw[Za HZ];exact hlt
   have f:=(World.cell?_of_block (hbw.block b hb)).trans ((Za HC) j hlj)
   have hlb:b<wr.heap.size:=Nat.lt_of_lt_of_le hb hbw.size
   obtain⟨c0,c1,cf⟩:=(Za HW).cell0
   have S:=Zgq hlj
   rw[Za A] at S
   have hl1:(L.take j).length=j:=by rw[List.length_take];omega
   have TK:=Zb (List.take_succ_eq_append_getElem hlj)
   obtain⟨s,hs⟩:∃ s,L[j]=s:=⟨_,rfl⟩
   rw[hs] at f S TK
   clear hs hbw A
   by_cases h2:4000<s.size
   ·rw[if_pos h2] at S
    subst S
    have g2:(4000:Int)<(s.size:Int):=by omega
    clear h2
    go_wp2
    go_ret2
    first|exact⟨_,rfl,fun h=>absurd h (by decide),Za HB⟩|exact⟨⟨_,rfl⟩,Za HB⟩
   ·rw[if_neg h2] at S
    have g2:¬(4000:Int)<(s.size:Int):=by omega
    have hz:s.size≤4000:=by omega
    have hrun:=(Za HW).look s hz
    by_cases h3:Zk s (L.take j)≠0
    ·rw[if_pos h3] at S
     subst S
     obtain⟨q,hq⟩:∃ q,Zk s (L.take j)=q:=⟨_,rfl⟩
     rw[hq] at hrun h3
     have g3:((q:Int) != 0)=true:=by simp;omega
     clear h2 h3 hq
     go_wp2
     go_ret2
     first|exact⟨_,rfl,fun h=>absurd h (by decide),Za HB⟩|exact⟨⟨_,rfl⟩,Za HB⟩
    ·rw[if_neg h3] at S
     have h4:Zk s (L.take j)=0:=by omega
     rw[h4] at hrun
     have AD:=Zb (Bo w.heap.size (w.heap.size+2) (w.heap.size+1) v D (L.take j) s wr (Za HW) (by omega) (place_zero.1 h4) hz)
     have HS:Hid (Jl (L.take (j+1)) (L.drop (j+1))=x):=S.symm
     clear h2 h3 h4 S
     go_wp2_with fail
     refine (Za AD).mono ?_
     rintro e w2 ⟨rfl,hw2,hb2,hf2⟩
     have H2:=Zb hw2
     have HB2:=Zb ((Za HB).trans hb2)
     clear hw2 hb2 hf2
     go_wp2
     go_roundw
     case rel=>
      obtain⟨v',D',hw'⟩:=Za H2
      exact⟨j+1,by omega,by go_num,Za HB2,⟨v',D',by rw[Za TK];exact hw'⟩,HS⟩
     case measure=>simp[intOf];omega
  ·have R:Hid (x=0):=by show _=_;rw[←Za A];exact Zeh (by rw[Za HZ];omega)
   have HW2:Hid (∃ v' D',Wr w.heap.size (w.heap.size+2) (w.heap.size+1) wr v' D' L):=⟨v,D,by have:=Za HW;rw[List.take_of_length_le (by rw[Za HZ];omega)] at this;exact this⟩
   clear A hbw HW
   go_wp2
   go_ret2
   refine⟨.pointer (some ⟨w.heap.size+2,0,none⟩),?_,fun _=>?_,Za HB⟩
   ·rw[Za R];rfl
   ·obtain⟨v',D',hw'⟩:=Za HW2
    exact⟨_,_,v',D',rfl,hw'⟩
theorem Ca(a:Option Addr)(n c:Nat)(L:List ByteArray)(w:World)(h:TextsAt w a n L)(x:Int)(hx:bkChk L=x) :
  Calls Tryz.prog 72 #[.agg #[.slice a n c]] w fun e w'=>∃ v,e = .returned (.tuple #[v,.int .i64 x])∧(x=0→∃ p bm v' D',v = .pointer (some ⟨p,0,none⟩)∧Wr w.heap.size p bm w' v' D' L)∧Below w.heap.size w w':=by
 have hz:=h.1
 by_cases h1:120<n
 ·have e:x=2:=by rw[←hx];unfold bkChk;rw[if_pos (by omega)]
  subst e
  have g:(120:Int)<(n:Int):=by omega
  have HB:=Zb (Zf w (.cells #[.slice a n c] 24))
  clear h hx h1 hz
  go_enter Tryz.func72,Tryz.ntmps72
  go_wp2
  go_ret2
  first|exact⟨_,rfl,fun h=>absurd h (by decide),Za HB⟩|exact⟨⟨_,rfl⟩,Za HB⟩
 ·have hx2:Jl [] L=x:=by rw[←hx];unfold bkChk;rw[if_neg (by omega)]
  by_cases h0:n=0
  ·subst h0
   have e:L=[]:=List.length_eq_zero_iff.1 hz
   subst e
   have e:x=0:=by rw[←hx2];rfl
   subst e
   have hs1:(w.alloc (.cells #[.slice a 0 c] 24)).heap.size=w.heap.size+1:=by simp
   have W0:=Zaw (w.alloc (.cells #[.slice a 0 c] 24)) w.heap.size (by omega)
   rw[hs1] at W0
   have HW0:=Zb W0
   have HB:=Zb (Ze (Ze (Zf w (.cells #[.slice a 0 c] 24)) (Zf _ (.map #[] 0))) (Zf _ (.cells #[.slice none 0 0,.map (some (w.heap.size+1))] 193)))
   have hmm:=G5
   clear h hx h1 hz hx2 hs1 W0
   go_enter Tryz.func72,Tryz.ntmps72
   go_wp2
   refine wp_loop_rounds 1 ?_
   rw[rounds_succ]
   go_wp2
   go_ret2
   refine⟨_,rfl,fun _=>⟨_,_,_,_,rfl,Za HW0⟩,Za HB⟩
  ·obtain⟨b,off,rfl,hc⟩:=h.2 (by omega)
   exact E9 b off n c L w hz (by omega) (by omega) (World.block_lt_of_cell? _ _ (hc 0 (by omega))) hc x hx2
end Go.Proofs.YtpikejjiignchaaGreatDoor.Bk
namespace Go.Proofs.YtpikejjiignchaaGreatDoor
open Go.RowKit
def fit(n:Int):Bool:=decide (-1000000≤n) && decide (n≤1000000)
theorem Z0(n:Int):fit n=true↔-1000000≤n∧n≤1000000:=by simp[fit]
theorem Gd(n:Int):fit n=false↔n < -1000000∨1000000<n:=by
 rw[←Bool.not_eq_true,Z0];omega
def b01(b:Bool):Int:=if b then 1 else 0
def Pw(a:Int):Nat→Int
 | 0=>a+1000000
 | k+1=>(7919*Pw a k+104729) % 1000003
theorem Ce(a:Int)(h:fit a=true):∀ k,0≤Pw a k∧Pw a k≤2000000
 | 0=>by have:=(Z0 a).1 h;simp only[Pw];omega
 | k+1=>by simp only[Pw];omega
def Do(a:Int):Int:=Pw a 3 % 1000001
def g2(k:Int)(a b:Int):Int:=
 if k=5 then a+b else if k=6 then a - b else if k=7 then b01 (a == b) else if k=8 then b01 (decide (a<b)) else b01 (a != 0 && b != 0)
def g1(k:Int)(a:Int):Int:=if k=9 then b01 (a == 0) else Do a
def Uu(L:List Int)(x:Int):Option (List Int):=if L.length=16∨fit x=false then none else some (L++[x])
def Y5(L:List Int):Option (List Int):=if L.length=0 then none else some L.dropLast
def U8(L:List Int):Int:=L.getLastD 0
def Z7(h:Int)(k n:Int)(L:List Int):Option (List Int):=
 if k=1 then Uu L n
 else if k=2 then (Y5 L).bind fun M=>(Uu M (U8 L)).bind fun M=>Uu M (U8 L)
 else if k=3 then (Y5 L).bind fun M=>(Y5 M).bind fun N=>(Uu N (U8 L)).bind fun Q=>Uu Q (U8 M)
 else if k=4 then Y5 L
 else if k=9∨k=13 then (Y5 L).bind fun M=>Uu M (g1 k (U8 L))
 else if k=11 then (Y5 L).bind fun M=>if U8 L=0 then none else some M
 else if k=12 then Uu L h
 else (Y5 L).bind fun M=>(Y5 M).bind fun N=>Uu N (g2 k (U8 M) (U8 L))
def Yv(h:Int):List (Int×Int)→List Int→Option (List Int)
 | [],L=>some L
 | o :: r,L=>(Z7 h o.1 o.2 L).bind (Yv h r)
theorem Vn(h:Int):∀ (l m:List (Int×Int)) (L:List Int),Yv h (l++m) L=(Yv h l L).bind (Yv h m)
 | [],m,L=>by simp[Yv]
 | o :: r,m,L=>by
  simp only[List.cons_append,Yv]
  cases Z7 h o.1 o.2 L with
  | none=>rfl
  | some M=>simp only[Option.bind];exact Vn h r m M
structure MS where
 cs:List Int
 n:Nat
 h:Int
 f:Bool
def MS.ok(s:MS):Prop:=s.cs.length=16∧s.n≤16∧∀ x∈s.cs,fit x=true
def MS.rep(s:MS):Option (List Int):=if s.f then none else some (s.cs.take s.n)
def MS.put(s:MS)(x:Int):MS:=if s.n=16∨fit x=false then { s with f:=true } else { s with cs:=s.cs.set s.n x,n:=s.n+1 }
def MS.top(s:MS):Int:=if s.n=0 then 0 else s.cs.getD (s.n - 1) 0
def MS.take(s:MS):MS:=if s.n=0 then { s with f:=true } else { s with n:=s.n - 1 }
def MS.fail(s:MS):MS:={ s with f:=true }
def MS.step(s:MS)(k n:Int):MS:=
 if k=1 then s.put n
 else if k=2 then (s.take.put s.top).put s.top
 else if k=3 then (s.take.take.put s.top).put s.take.top
 else if k=4 then s.take
 else if k=9∨k=13 then s.take.put (g1 k s.top)
 else if k=11 then (if s.top=0 then s.take.fail else s.take)
 else if k=12 then s.put s.h
 else s.take.take.put (g2 k s.take.top s.top)
theorem MS.put_h(s:MS)(x:Int):(s.put x).h=s.h:=by unfold MS.put;split <;> rfl
theorem MS.take_h(s:MS):s.take.h=s.h:=by unfold MS.take;split <;> rfl
theorem MS.fail_h(s:MS):s.fail.h=s.h:=rfl
theorem MS.step_h(s:MS)(k n:Int):(s.step k n).h=s.h:=by
 unfold MS.step;repeat' split
 all_goals simp only[MS.put_h,MS.take_h,MS.fail_h]
theorem MS.ok.put_ok{s:MS}(hs:s.ok)(x:Int):(s.put x).ok:=by
 obtain⟨h1,h2,h3⟩:=hs
 unfold MS.put
 split
 ·exact⟨h1,h2,h3⟩
 ·rename_i h
  simp only[not_or,Bool.not_eq_false] at h
  refine⟨by simpa using h1,by show s.n+1≤16;omega,fun y hy=>?_⟩
  rcases List.mem_or_eq_of_mem_set hy with hy|rfl
  ·exact h3 y hy
  ·exact h.2
theorem MS.ok.take_ok{s:MS}(hs:s.ok):s.take.ok:=by
 obtain⟨h1,h2,h3⟩:=hs
 unfold MS.take
 split
 ·exact⟨h1,h2,h3⟩
 ·exact⟨h1,by show s.n - 1≤16;omega,h3⟩
theorem MS.ok.fail_ok{s:MS}(hs:s.ok):s.fail.ok:=hs
theorem MS.ok.top_fit{s:MS}(hs:s.ok):fit s.top=true:=by
 obtain⟨h1,h2,h3⟩:=hs
 unfold MS.top
 split
 ·decide
 ·rename_i h
  have hl:s.n - 1<s.cs.length:=by omega
  rw[List.getD_eq_getElem?_getD,List.getElem?_eq_getElem hl,Option.getD_some]
  exact h3 _ (List.getElem_mem hl)
theorem MS.rep_put{s:MS}(hs:s.ok)(x:Int):(s.put x).rep=s.rep.bind (Uu · x):=by
 obtain⟨h1,h2,_⟩:=hs
 unfold MS.rep
 cases hf:s.f with
 | true=>
  have:(s.put x).f=true:=by unfold MS.put;split <;> simp[hf]
  rw[this];rfl
 | false=>
  simp only[Bool.false_eq_true,if_false,Option.bind_some]
  have hlen:(s.cs.take s.n).length=s.n:=by simp;omega
  unfold MS.put Uu
  rw[hlen]
  split
  ·rfl
  ·rename_i h
   simp only[not_or,Bool.not_eq_false] at h
   simp only[hf,Bool.false_eq_true,if_false]
   have hn:s.n<s.cs.length:=by omega
   rw[List.take_succ_eq_append_getElem (by simpa using hn)]
   simp[List.take_set_of_le]
theorem MS.rep_take{s:MS}(hs:s.ok):s.take.rep=s.rep.bind Y5:=by
 obtain⟨h1,h2,_⟩:=hs
 unfold MS.rep
 cases hf:s.f with
 | true=>
  have:s.take.f=true:=by unfold MS.take;split <;> simp[hf]
  rw[this];rfl
 | false=>
  simp only[Bool.false_eq_true,if_false,Option.bind_some]
  have hlen:(s.cs.take s.n).length=s.n:=by simp;omega
  unfold MS.take Y5
  rw[hlen]
  split
  ·rfl
  ·simp only[hf,Bool.false_eq_true,if_false]
   show some (s.cs.take (s.n - 1))=_
   rw[List.dropLast_eq_take,List.take_take,hlen]
   congr 2
   omega
theorem MS.rep_top{s:MS}(hs:s.ok){L:List Int}(h:s.rep=some L):s.top=U8 L:=by
 obtain⟨h1,h2,_⟩:=hs
 unfold MS.rep at h
 split at h
 ·cases h
 ·simp only[Option.some.injEq] at h
  subst h
  unfold MS.top U8
  split
  ·rename_i e;rw[e];rfl
  ·have hl:s.n - 1<s.cs.length:=by omega
   rw[List.getLastD_eq_getLast?,List.getLast?_eq_getElem?,List.length_take,List.getD_eq_getElem?_getD]
   have e:min s.n s.cs.length - 1=s.n - 1:=by omega
   rw[e,List.getElem?_take_of_lt (by omega)]
theorem MS.rep_none_take{s:MS}(hs:s.ok)(h:s.rep=none):s.take.rep=none:=by rw[MS.rep_take hs,h];rfl
theorem MS.rep_none_put{s:MS}(hs:s.ok)(h:s.rep=none)(x:Int):(s.put x).rep=none:=by rw[MS.rep_put hs,h];rfl
theorem MS.rep_step{s:MS}(hs:s.ok)(k n:Int):(s.step k n).rep=s.rep.bind (Z7 s.h k n):=by
 have ht:=hs.take_ok
 have htt:=ht.take_ok
 cases hr:s.rep with
 | none=>
  have h1:=MS.rep_none_take hs hr
  have h2:=MS.rep_none_take ht h1
  show _=none
  unfold MS.step
  split
  ·exact MS.rep_none_put hs hr _
  split
  ·exact MS.rep_none_put (ht.put_ok _) (MS.rep_none_put ht h1 _) _
  split
  ·exact MS.rep_none_put (htt.put_ok _) (MS.rep_none_put htt h2 _) _
  split
  ·exact h1
  split
  ·exact MS.rep_none_put ht h1 _
  split
  ·split
   ·rfl
   ·exact h1
  split
  ·exact MS.rep_none_put hs hr _
  ·exact MS.rep_none_put htt h2 _
 | some L=>
  have e0:=MS.rep_top hs hr
  have e1:s.take.rep=Y5 L:=by rw[MS.rep_take hs,hr];rfl
  have e2:s.take.take.rep=(Y5 L).bind Y5:=by rw[MS.rep_take ht,e1]
  have e3:∀ M,Y5 L=some M→s.take.top=U8 M:=fun M hM=>MS.rep_top ht (e1.trans hM)
  show _=Z7 s.h k n L
  unfold MS.step Z7
  split
  ·rw[MS.rep_put hs,hr];rfl
  split
  ·rw[MS.rep_put (ht.put_ok _),MS.rep_put ht,e1,e0]
   cases Y5 L with
   | none=>rfl
   | some M=>rfl
  split
  ·rw[MS.rep_put (htt.put_ok _),MS.rep_put htt,e2,e0]
   cases hM:Y5 L with
   | none=>rfl
   | some M=>
    rw[e3 M hM]
    show ((Y5 M).bind (Uu · (U8 L))).bind _=(Y5 M).bind _
    cases Y5 M <;> rfl
  split
  ·exact e1
  split
  ·rw[MS.rep_put ht,e1,e0]
  split
  ·rw[e0]
   cases hM:Y5 L with
   | none=>
    show _=none
    split
    ·rfl
    ·rw[e1,hM]
   | some M=>
    show _=(if U8 L=0 then none else some M)
    split
    ·rfl
    ·rw[e1,hM]
  split
  ·rw[MS.rep_put hs,hr];rfl
  ·rw[MS.rep_put htt,e2,e0]
   cases hM:Y5 L with
   | none=>rfl
   | some M=>
    rw[e3 M hM]
    show ((Y5 M).bind _)=(Y5 M).bind _
    rfl
def Z8(Z:List Int):Bool:=decide (Z.length≤16) && Z.all fit
def Yc:List Int→List Int→Option (List Int)
 | L,[]=>some L
 | L,x :: r=>(Uu L x).bind fun M=>Yc M r
theorem Gu:∀ (Z L:List Int) (x:Int),Yc L (Z++[x])=(Yc L Z).bind (Uu · x)
 | [],L,x=>by simp[Yc]
 | y :: r,L,x=>by
  simp only[List.cons_append,Yc]
  cases Uu L y with
  | none=>rfl
  | some M=>exact Gu r M x
theorem Db:∀ (Z L:List Int),L.length≤16→Yc L Z=if decide ((L++Z).length≤16) && Z.all fit then some (L++Z) else none
 | [],L,h=>by simp[Yc,h]
 | x :: r,L,h=>by
  simp only[Yc,Uu]
  by_cases h1:L.length=16
  ·rw[if_pos (Or.inl h1),if_neg];rfl
   simp only[List.length_append,List.length_cons,Bool.and_eq_true,decide_eq_true_eq];omega
  ·by_cases h2:fit x=false
   ·rw[if_pos (Or.inr h2),if_neg];rfl
    simp[h2]
   ·rw[if_neg (by simp[h1];simpa using h2)]
    show Yc (L++[x]) r=_
    rw[Db r (L++[x]) (by simp;omega)]
    have h3:fit x=true:=by simpa using h2
    simp[h3]
theorem Er(Z:List Int):Yc [] Z=if Z8 Z then some Z else none:=by
 rw[Db Z [] (by simp)];rfl
theorem Uo{L M:List Int}{x:Int}(hL:Z8 L=true)(h:Uu L x=some M):Z8 M=true:=by
 unfold Uu at h
 split at h
 ·cases h
 ·rename_i hc
  simp only[Option.some.injEq] at h
  subst h
  simp only[not_or,Bool.not_eq_false] at hc
  simp only[Z8,Bool.and_eq_true,decide_eq_true_eq] at hL ⊢
  refine⟨by simp;omega,?_⟩
  rw[List.all_append]
  simp[hL.2,hc.2]
theorem Vt{L M:List Int}(hL:Z8 L=true)(h:Y5 L=some M):Z8 M=true:=by
 unfold Y5 at h
 split at h
 ·cases h
 ·simp only[Option.some.injEq] at h
  subst h
  simp only[Z8,Bool.and_eq_true,decide_eq_true_eq,List.all_eq_true] at hL ⊢
  exact⟨by simp;omega,fun x hx=>hL.2 x (List.dropLast_subset _ hx)⟩
theorem Vj{α β : Type}{o:Option α}{f : α→Option β}{b : β}(h:o.bind f=some b):∃ a,o=some a∧f a=some b:=by
 cases o with
 | none=>cases h
 | some a=>exact⟨a,rfl,h⟩
theorem Zbr{h k n:Int}{L M:List Int}(hL:Z8 L=true)(e:Z7 h k n L=some M):Z8 M=true:=by
 unfold Z7 at e
 split at e
 ·exact Uo hL e
 split at e
 ·obtain⟨A,hA,e⟩:=Vj e;obtain⟨B,hB,e⟩:=Vj e
  exact Uo (Uo (Vt hL hA) hB) e
 split at e
 ·obtain⟨A,hA,e⟩:=Vj e;obtain⟨B,hB,e⟩:=Vj e;obtain⟨C,hC,e⟩:=Vj e
  exact Uo (Uo (Vt (Vt hL hA) hB) hC) e
 split at e
 ·exact Vt hL e
 split at e
 ·obtain⟨A,hA,e⟩:=Vj e
  exact Uo (Vt hL hA) e
 split at e
 ·obtain⟨A,hA,e⟩:=Vj e
  split at e
  ·cases e
  ·cases e;exact Vt hL hA
 split at e
 ·exact Uo hL e
 ·obtain⟨A,hA,e⟩:=Vj e;obtain⟨B,hB,e⟩:=Vj e
  exact Uo (Vt (Vt hL hA) hB) e
theorem P9{h:Int}:∀ {l:List (Int×Int)} {L M:List Int},Z8 L=true→Yv h l L=some M→Z8 M=true
 | [],L,M,hL,e=>by cases e;exact hL
 | o :: r,L,M,hL,e=>by
  obtain⟨A,hA,e⟩:=Vj e
  exact P9 (Zbr hL hA) e
def Y4(o:Int×Int):Int:=if o.1<1∨13<o.1 then 4 else if (o.1≠1∧o.2≠0)∨fit o.2=false then 3 else 0
def Vg:List (Int×Int)→Int
 | []=>0
 | o :: r=>if Y4 o=0 then Vg r else Y4 o
def chk(l:List (Int×Int)):Int:=if 16<l.length then 2 else Vg l
theorem Lt(l:List (Int×Int))(k:Nat)(h:k<l.length)(h0:Vg (l.take k)=0):Vg (l.take (k+1))=if Y4 (l[k])=0 then 0 else Y4 (l[k]):=by
 induction l generalizing k with
 | nil=>simp at h
 | cons o r ih=>
  cases k with
  | zero=>simp[Vg]
  | succ k=>
   simp only[List.take_succ_cons,Vg,List.getElem_cons_succ] at h0 ⊢
   split at h0
   ·rename_i e
    rw[if_pos e]
    exact ih k (by simpa using h) h0
   ·contradiction
theorem Lu(l:List (Int×Int))(k:Nat)(h:k<l.length)(h0:Vg (l.take k)=0)(h1:Y4 (l[k])≠0):Vg l=Y4 (l[k]):=by
 induction l generalizing k with
 | nil=>simp at h
 | cons o r ih=>
  cases k with
  | zero=>simp only[List.getElem_cons_zero] at h1 ⊢;simp[Vg,h1]
  | succ k=>
   simp only[List.take_succ_cons,Vg,List.getElem_cons_succ] at h0 h1 ⊢
   split at h0
   ·rename_i e
    rw[if_pos e]
    exact ih k (by simpa using h) h0 h1
   ·contradiction
theorem Jk{l:List (Int×Int)}(h:Vg l=0):∀ (k:Nat) (hk:k<l.length),Y4 (l[k])=0:=by
 induction l with
 | nil=>intro k hk;simp at hk
 | cons o r ih=>
  simp only[Vg] at h
  split at h
  ·rename_i e
   intro k hk
   cases k with
   | zero=>exact e
   | succ k=>exact ih h k (by simpa using hk)
  ·contradiction
def hOk(h:Int):Bool:=decide (0≤h) && decide (h≤1000)
def Rf(l:List (Int×Int))(Z:List Int)(h:Int):Int:=
 if chk l=0 then (if Z8 Z && hOk h then (if (Yv h l Z).isSome then 0 else 8) else 3) else chk l
def Pv(l:List (Int×Int))(Z:List Int)(h:Int):List Int:=if Rf l Z h=0 then (Yv h l Z).getD [] else []
def Ww(l k:List (Int×Int))(h:Int):Int:=if chk l=0 then (if chk k=0 then (if hOk h then 0 else 3) else chk k) else chk l
def Tg(L:List Int):Bool:=decide (L.length=1) && (U8 L != 0)
def Yw(l k:List (Int×Int))(h:Int):Bool:=decide (Ww l k h=0) && (match (Yv h k []).bind (Yv h l) with|some L=>Tg L|none=>false)
end Go.Proofs.YtpikejjiignchaaGreatDoor
