import Derived.Lib.OwnKind
import Derived.Test.YtpikejjiignchaaGreatDoorG35
import Derived.LoopIn
import Derived.LoopNIn
import Derived.OwnWalkIn
import Derived.RangeFuncBound
import Derived.RangeFuncNested
import Derived.Shelf.RegionOpen
set_option maxHeartbeats 3200000
set_option maxRecDepth 10000
namespace Go.Proofs.YtpikejjiignchaaGreatDoor
open Go.RowKit
theorem Gr.cell{w w':World}{S:Nat→Prop}(h:Gr w w' S){p:Addr}{v:Value}(hc:w.cell? p=some v)(hn:¬S p.block):w'.cell? p=some v:=
 (World.cell?_of_block (h.block p.block (World.block_lt_of_cell? _ _ hc) hn)).trans hc
theorem Fresh.now{B:Nat}{w:World}{Q:World→Prop}(h:Fresh B w Q):Q w:=h w (Gr.refl _ _)
theorem Fresh.on{B:Nat}{w w':World}{Q:World→Prop}(h:Fresh B w Q)(g:Gr w w' (fun k=>k<B)):Fresh B w' Q:=fun w2 g2=>h w2 (g.trans g2)
theorem Fresh.later{B:Nat}{w w':World}{Q:World→Prop}(h:Fresh B w Q)(g:Below w.heap.size w w'):Fresh B w' Q:=h.on (Gr.of g)
theorem Fresh.less{B B':Nat}{w:World}{Q:World→Prop}(h:Fresh B' w Q)(hb:B≤B'):Fresh B w Q:=fun w2 g2=>h w2 (g2.mono fun _ _ hk=>Nat.lt_of_lt_of_le hk hb)
theorem Fresh.imp{B:Nat}{w:World}{Q R:World→Prop}(h:Fresh B w Q)(f:∀ w2,Q w2→R w2):Fresh B w R:=fun w2 g2=>f w2 (h w2 g2)
end Go.Proofs.YtpikejjiignchaaGreatDoor
namespace Go.Proofs.YtpikejjiignchaaGreatDoor.Tr
open Go.RowKit
theorem Wt(w:World)(a b:Value)(t:TypeId):(w.alloc (.cells #[a,b] t)).heap[w.heap.size]? = some (.cells [a,b].toArray t (0,0)):=heap_alloc_new w _
theorem Ym{w:World}{base:Nat}{e:TypeId}{size:Nat}{v:Value}{n:Nat}{xs:List Value}(h:w.ownsRow base e size v n xs):∃ a c,v = .slice a n c∧SlOk a n c∧∀ ad,a=some ad→base≤ad.block∧ad.block<w.heap.size:=by
 rcases h.2 with ⟨rfl,rfl⟩|⟨g,cap,cur,rfl,hg,hh,h1,h2,_⟩
 ·exact⟨none,0,rfl,⟨Nat.le_refl _,Nat.zero_le _,fun _=>⟨rfl,rfl⟩⟩,fun ad e=>by cases e⟩
 ·exact⟨_,cap,rfl,⟨h1,h2,fun e=>by cases e⟩,fun ad e=>by cases e;exact⟨hg,lt_of_block hh⟩⟩
def Qw(w:World)(b o:Nat)(cs:List Value):Prop:=∀ j u,cs[j]? = some u→w.cell? ⟨b,o+j,none⟩=some u
structure Rec(α : Type) where
 sz:Nat
 C:World→List Value → α→Prop
 R:World→Nat→Nat → α→Prop
 wide:∀ w cs x,C w cs x→cs.length=sz
 one:∀ w cs x,C w cs x→∀ v∈cs,v.oneCell'=true
 kept:∀ w w' cs x,Below w.heap.size w w'→C w cs x→C w' cs x
 rc:∀ w b o x,R w b o x→∃ cs,Qw w b o cs∧C w cs x
 cr:∀ w b o cs x,Qw w b o cs→C w cs x→R w b o x
def AllC{α : Type}(Z:Rec α)(w:World)(K:List (List Value))(L:List α):Prop:=K.length=L.length∧∀ i (h:i<L.length) (h':i<K.length),Z.C w K[i] L[i]
theorem Wh{α : Type}{Z:Rec α}{w:World}:∀ {K:List (List Value)} {L:List α},AllC Z w K L→K.flatten.length=L.length*Z.sz
 | [],[],_=>by simp
 | [],_ :: _,h=>by cases h.1
 | _ :: _,[],h=>by cases h.1
 | k :: K,x :: L,h=>by
  have h1:AllC Z w K L:=⟨by simpa using h.1,fun i h1 h2=>h.2 (i+1) (by simpa using h1) (by simpa using h2)⟩
  have h2:=Z.wide _ _ _ (h.2 0 (by simp) (by simp))
  simp only[List.getElem_cons_zero] at h2
  rw[List.flatten_cons,List.length_append,Wh h1,h2,List.length_cons,Nat.succ_mul];omega
theorem flat_one{α : Type}{Z:Rec α}{w:World}{K:List (List Value)}{L:List α}(h:AllC Z w K L):∀ u∈K.flatten,u.oneCell'=true:=by
 intro u hu
 obtain⟨k,hk,hu⟩:=List.mem_flatten.1 hu
 obtain⟨i,hi,rfl⟩:=List.getElem_of_mem hk
 exact Z.one _ _ _ (h.2 i (by rw[←h.1];exact hi) hi) u hu
theorem AllC.later{α : Type}{Z:Rec α}{w w':World}{K:List (List Value)}{L:List α}(h:AllC Z w K L)(hb:Below w.heap.size w w'):AllC Z w' K L:=
 ⟨h.1,fun i h1 h2=>Z.kept _ _ _ _ hb (h.2 i h1 h2)⟩
theorem AllC.snoc{α : Type}{Z:Rec α}{w:World}{K:List (List Value)}{L:List α}(h:AllC Z w K L){k:List Value}{x : α}(hx:Z.C w k x):AllC Z w (K++[k]) (L++[x]):=by
 refine⟨by simp[h.1],fun i h1 h2=>?_⟩
 rcases Nat.lt_or_ge i L.length with q|q
 ·rw[List.getElem_append_left (h:=by rw[h.1];exact q),List.getElem_append_left (h:=q)]
  exact h.2 i q (by rw[h.1];exact q)
 ·have e:i=L.length:=by simp at h1;omega
  subst e
  rw[List.getElem_append_right (by rw[h.1];exact Nat.le_refl _),List.getElem_append_right (Nat.le_refl _)]
  simpa[h.1] using hx
theorem Qp{α : Type}{Z:Rec α}{w:World}:∀ {K:List (List Value)} {L:List α} (_:AllC Z w K L) (i:Nat) (h':i<K.length) (j:Nat) (_:j<Z.sz),K.flatten[i*Z.sz+j]? = (K[i])[j]?
 | [],_,_,_,h',_,_=>absurd h' (by simp)
 | _ :: _,[],h,_,_,_,_=>by cases h.1
 | k :: K,x :: L,h,0,_,j,hj=>by
  have h2:=Z.wide _ _ _ (h.2 0 (by simp) (by simp))
  simp only[List.getElem_cons_zero] at h2
  rw[List.flatten_cons,List.getElem?_append_left (by omega)]
  simp
 | k :: K,x :: L,h,i+1,h',j,hj=>by
  have h1:AllC Z w K L:=⟨by simpa using h.1,fun i h1 h2=>h.2 (i+1) (by simpa using h1) (by simpa using h2)⟩
  have h2:=Z.wide _ _ _ (h.2 0 (by simp) (by simp))
  simp only[List.getElem_cons_zero] at h2
  rw[List.flatten_cons,List.getElem?_append_right (by rw[h2,Nat.succ_mul];omega),h2]
  rw[show (i+1)*Z.sz+j - Z.sz=i*Z.sz+j by rw[Nat.succ_mul];omega]
  rw[Qp h1 i (by simpa using h') j hj]
  simp
theorem Ug{α : Type}(Z:Rec α){w:World}{b off:Nat}{L:List α}(h:∀ i (h:i<L.length),Z.R w b (off+i*Z.sz) L[i]):∃ K,AllC Z w K L∧Qw w b off K.flatten:=by
 have h2:∀ k,k≤L.length→∃ K,AllC Z w K (L.take k)∧Qw w b off K.flatten:=by
  intro k
  induction k with
  | zero=>intro _;exact⟨[],⟨by simp,fun i h1 h2=>absurd h2 (by simp)⟩,fun j u hj=>by simp at hj⟩
  | succ k ih=>
   intro hk
   obtain⟨K,h1,h3⟩:=ih (by omega)
   obtain⟨cs,h4,h5⟩:=Z.rc _ _ _ _ (h k (by omega))
   refine⟨K++[cs],by rw[List.take_succ_eq_append_getElem (by omega)];exact h1.snoc h5,fun j u hj=>?_⟩
   have hl:=Wh h1
   rw[List.length_take,Nat.min_eq_left (by omega)] at hl
   rw[List.flatten_append] at hj
   rcases Nat.lt_or_ge j K.flatten.length with q|q
   ·rw[List.getElem?_append_left q] at hj;exact h3 j u hj
   ·rw[List.getElem?_append_right q] at hj
    have:=h4 (j - K.flatten.length) u (by simpa using hj)
    rw[show off+k*Z.sz+(j - K.flatten.length)=off+j by omega] at this
    exact this
 obtain⟨K,h1,h3⟩:=h2 L.length (Nat.le_refl _)
 rw[List.take_length] at h1
 exact⟨K,h1,h3⟩
theorem rows_of_own{α : Type}(Z:Rec α){w:World}{base n:Nat}{e:TypeId}{v:Value}{K:List (List Value)}{L:List α}(h:w.ownsRow base e Z.sz v n K.flatten)(hc:AllC Z w K L)(hn:L.length=n):∃ a c,v = .slice a n c∧RowsAt Z.R Z.sz w a n L∧SlOk a n c:=by
 rcases h.2 with ⟨rfl,rfl⟩|⟨g,cap,cur,rfl,hg,hh,h1,h2,h3,h4⟩
 ·exact⟨none,0,rfl,⟨hn,fun h=>absurd h (by omega)⟩,Nat.le_refl _,Nat.zero_le _,fun _=>⟨rfl,rfl⟩⟩
 ·refine⟨_,cap,rfl,⟨hn,fun _=>⟨g,0,rfl,lt_of_block hh,fun i hi=>?_⟩⟩,h1,h2,fun e=>by cases e⟩
  have hi':i<K.length:=by rw[hc.1];exact hi
  refine Z.cr _ _ _ (K[i]) _ (fun j u hj=>?_) (hc.2 i hi hi')
  have hw:=Z.wide _ _ _ (hc.2 i hi hi')
  have hjl:j<Z.sz:=by rw[←hw];exact (List.getElem?_eq_some_iff.1 hj).1
  rw[Nat.zero_add,World.ownsRow.cellAt h _ (by
   have:(i+1)*Z.sz≤n*Z.sz:=Nat.mul_le_mul_right _ (by omega)
   rw[Nat.succ_mul] at this;omega),Qp hc i hi' j hjl]
  exact hj
end Go.Proofs.YtpikejjiignchaaGreatDoor.Tr
namespace Go.Proofs.YtpikejjiignchaaGreatDoor
open Go.RowKit
theorem Gr.row{w w1:World}{S:Nat→Prop}(h:Gr w w1 S){g:Nat}(hg:S g∨w.heap.size≤g)(cs:Array Value):Gr w (w1.setRow g cs) S:=
 ⟨h.os,h.tape,h.output,by rw[setRow_size];exact h.size,fun i hi hn=>(setRow_other w1 g i cs (fun e=>by
  subst e
  rcases hg with q|q
  ·exact hn q
  ·omega)).trans (h.block i hi hn)⟩
section
variable {P : Program}
end
theorem tk{P:Program}{ops:Array Oper}{Q:Exit→Act→World→Prop}{md:Region.Mode}{S:World→Prop}(i:Nat)(oi:Oper)(v:Value){fuel:Nat}{listed:Array Bool}{a:Act}{w:World}(hi:ops[i]? = some oi)
  (hy:∀ w,S w→(execOp a.eval oi).run P w = .ok (.value v) w) (hS:S w) (h:wpAnyH P md ops Q S fuel (listed.setIfInBounds i true) (a.put oi.dst v) w)
  (hQ:∀ c a w,Q (.panic c) (a.put oi.dst v) w→Q (.panic c) a w:=by exact fun _ _ _ h=>h) (hw:Region.wanted oi (yielded ops a.tmps)=true:=by rfl)
  (hs:Region.noSelect ops=true:=by kernel_rfl) (hf:Region.free md ops listed i=true:=by kernel_rfl) (hr:(Region.ready md ops listed).contains i=true:=by kernel_rfl) :
  wpAnyH P md ops Q S (fuel+1) listed a w:=wpAnyH_take hi hs hf hr hQ (Or.inl ⟨hw,hy⟩) hS h
open Go.RowKit Go.Shelf
attribute [local go_sem] Oper.semAt_some
structure KpD(n1 b c:Nat)(W W':World):Prop where
 os:W'.os=W.os
 tape:W'.tape=W.tape
 output:W'.output=W.output
 size:W.heap.size≤W'.heap.size
 block:∀ k,k<n1→k≠b→k≠c→W'.heap[k]? = W.heap[k]?
theorem KpD.refl(n1 b c:Nat)(W:World):KpD n1 b c W W:=⟨rfl,rfl,rfl,Nat.le_refl _,fun _ _ _ _=>rfl⟩
theorem KpD.trans{n1 b c:Nat}{A B C:World}(h:KpD n1 b c A B)(k:KpD n1 b c B C):KpD n1 b c A C:=
 ⟨k.os.trans h.os,k.tape.trans h.tape,k.output.trans h.output,Nat.le_trans h.size k.size,fun i h1 h2 h3=>(k.block i h1 h2 h3).trans (h.block i h1 h2 h3)⟩
theorem KpD.put{n1 b c:Nat}(W:World)(l:Nat)(o:Obj)(h:n1≤l):KpD n1 b c W (W.putObj l o):=
 ⟨rfl,rfl,rfl,by simp,fun k hk _ _=>World.putObj_heap_other (by omega)⟩
theorem KpD.set{n1 b c:Nat}{W W':World}(h:KpD n1 b c W W'){p:Addr}(hp:p.block=b∨p.block=c)(u:Value):KpD n1 b c W (W'.setCell p u):=
 ⟨h.os,h.tape,h.output,by simpa[World.setCell] using h.size,fun k h1 h2 h3=>(Below.heap_setCell W' p u k (fun e=>by subst e;rcases hp with q|q;exact h2 q;exact h3 q)).trans (h.block k h1 h2 h3)⟩
theorem KpD.on{n1 b c:Nat}{W W1 W2:World}(h:KpD n1 b c W W1)(hb:Below W1.heap.size W1 W2)(hn:n1≤W1.heap.size):KpD n1 b c W W2:=
 ⟨hb.os.trans h.os,hb.tape.trans h.tape,hb.output.trans h.output,Nat.le_trans h.size hb.size,fun k h1 h2 h3=>(hb.block k (by omega)).trans (h.block k h1 h2 h3)⟩
theorem KpD.grown{n1 b c:Nat}{W W1 W2:World}(h:KpD n1 b c W W1){row:Option Nat}(g:W1.grownBy W2 row)(hr:∀ r,row=some r→n1≤r)(hn:n1≤W1.heap.size):KpD n1 b c W W2:=
 ⟨g.os.trans h.os,g.tape.trans h.tape,g.output.trans h.output,Nat.le_trans h.size g.size,fun k h1 h2 h3=>(g.block k (by omega) (fun e=>by have:=hr k e.symm;omega)).trans (h.block k h1 h2 h3)⟩
theorem KpD.below{n1 b c:Nat}{w W0 W:World}(h:KpD n1 b c W0 W)(hb:Below w.heap.size w W0)(hn:w.heap.size≤n1)(h1:w.heap.size≤b)(h2:w.heap.size≤c):Below w.heap.size w W:=
 ⟨h.os.trans hb.os,h.tape.trans hb.tape,h.output.trans hb.output,Nat.le_trans hb.size h.size,fun k hk=>(h.block k (by omega) (by omega) (by omega)).trans (hb.block k hk)⟩
theorem KpD.cell{n1 b c:Nat}{W W':World}(h:KpD n1 b c W W'){k o:Nat}{v:Value}(hk:k<n1)(h2:k≠b)(h3:k≠c)(hv:W.cell? ⟨k,o,none⟩=some v):W'.cell? ⟨k,o,none⟩=some v:=
 (World.cell?_of_block (a:=⟨k,o,none⟩) (h.block k hk h2 h3)).trans hv
def Box1(W:World)(k:Nat):Prop:=∃ v t fr,W.heap[k]? = some (.cells #[v] t fr)
theorem Box1.two{W:World}{k:Nat}(h:Box1 W k){o:Nat}{v:Value}(h2:W.cell? ⟨k,o+1,none⟩=some v):False:=by
 obtain⟨x,t,fr,hx⟩:=h
 rw[cell_of_row W k (o+1) #[x] t fr hx] at h2
 simp at h2
theorem Zfl{W W':World}{S:Nat→Prop}(hk:∀ k,k<W.heap.size→¬S k→W'.heap[k]? = W.heap[k]?)(hB:∀ k,S k→Box1 W k){a:Option Addr}{n:Nat}{l:List (Int×Int)}(h:OpsAt W a n l):OpsAt W' a n l:=by
 refine⟨h.1,fun h0=>?_⟩
 obtain⟨b,off,rfl,hc⟩:=h.2 h0
 refine⟨b,off,rfl,fun i hi=>?_⟩
 obtain⟨c0,c1⟩:=hc i hi
 have e:=hk b (World.block_lt_of_cell? _ _ c0) (fun q=>(hB b q).two c1)
 exact⟨(World.cell?_of_block (a:=⟨b,_,none⟩) e).trans c0,(World.cell?_of_block (a:=⟨b,_,none⟩) e).trans c1⟩
theorem Zaj{W W':World}{S:Nat→Prop}(hs:W.heap.size≤W'.heap.size)(hk:∀ k,k<W.heap.size→¬S k→W'.heap[k]? = W.heap[k]?)(hB:∀ k,S k→Box1 W k){a:Option Addr}{n:Nat}{L:List Zg}(h:CoinsAt W a n L):CoinsAt W' a n L:=by
 refine⟨h.1,fun h0=>?_⟩
 obtain⟨b,off,rfl,hl,hc⟩:=h.2 h0
 refine⟨b,off,rfl,Nat.lt_of_lt_of_le hl hs,fun i hi=>?_⟩
 obtain⟨c0,c1,c2,⟨la,ln,lc,c3,h5,h6⟩,c4,c5⟩:=hc i hi
 have e:=hk b hl (fun q=>(hB b q).two c1)
 have g:=fun (o:Nat)=>World.cell?_of_block (a:=⟨b,o,none⟩) e
 exact⟨(g _).trans c0,(g _).trans c1,(g _).trans c2,⟨la,ln,lc,(g _).trans c3,Zfl hk hB h5,h6⟩,(g _).trans c4,(g _).trans c5⟩
end Go.Proofs.YtpikejjiignchaaGreatDoor
namespace Go.Proofs.YtpikejjiignchaaGreatDoor.Bk
open Go.RowKit Go.Maps
theorem all_isF(a al:Option Addr)(n c nl cl:Nat)(L l M:List ByteArray)(N:List Int)(x:Int)(w:World)(h:TextsAt w a n L)(hl:TextsAt w al nl l)(hnl:nl≤17592186044416)(hx:allR L l=(M,N,x)) :
  Calls Tryz.prog 80 #[.agg #[.slice a n c],.slice al nl cl] w fun e w'=>(∃ a' n' c' a2 n2 c2,e = .returned (.tuple #[.agg #[.slice a' n' c'],.slice a2 n2 c2,.int .i64 x])∧(∀ w2,Gr w' w2 (fun k=>k<w.heap.size)→TextsAt w2 a' n' M)∧SlOk a' n' c'∧IntsAt w' a2 n2 N∧n2≤nl∧n2≤c2)∧Below w.heap.size w w':=by
 unfold allR at hx
 by_cases h0:bkChk L=0
 ·rw[if_pos h0] at hx
  exact Bn a al n c nl cl L l M N x w h hl hnl ((right_iff L).1 h0) hx
 ·rw[if_neg h0] at hx
  have e1:M=[]:=by injection hx with hx _;exact hx.symm
  have e2:N=[]:=by injection hx with _ hx;injection hx with hx _;exact hx.symm
  have e3:bkChk L=x:=by injection hx with _ hx;injection hx with _ hx
  subst e1 e2
  refine (Zgo a al n c nl cl L w h x e3 (by rw[←e3];exact h0)).mono ?_
  rintro e w' ⟨rfl,hb⟩
  exact⟨⟨_,_,_,_,_,_,rfl,fun _ _=>TextsAt.nil _ _,SlOk.nil,IntsAt.nil _ _,Nat.zero_le _,Nat.le_refl _⟩,hb⟩
theorem name_fresh(a:Option Addr)(n c:Nat)(L M:List ByteArray)(s:ByteArray)(k x:Int)(w:World)(h:TextsAt w a n L)(hx:nameR L s=(M,k,x)) :
  Calls Tryz.prog 97 #[.agg #[.slice a n c],.string s] w fun e w'=>(∃ a' n' c',e = .returned (.tuple #[.agg #[.slice a' n' c'],.int .i64 k,.int .i64 x])∧(∀ w2,Gr w' w2 (fun k=>k<w.heap.size)→TextsAt w2 a' n' M)∧SlOk a' n' c')∧Below w.heap.size w w':=by
 have hb1:=Zf w (.cells #[.slice a n c] 24)
 have hb2:=Zf (w.alloc (.cells #[.slice a n c] 24)) (.cells #[.slice none 0 0] 24)
 have hs1:(w.alloc (.cells #[.slice a n c] 24)).heap.size=w.heap.size+1:=by simp
 have hs2:((w.alloc (.cells #[.slice a n c] 24)).alloc (.cells #[.slice none 0 0] 24)).heap.size=w.heap.size+1+1:=by simp
 have c1:=heap_alloc_new (w.alloc (.cells #[.slice a n c] 24)) (.cells #[.slice none 0 0] 24)
 rw[hs1] at c1
 have hb3:=Zf ((w.alloc (.cells #[.slice a n c] 24)).alloc (.cells #[.slice none 0 0] 24)) (.cells #[.string s] 9)
 have ht:=Dm ((w.alloc (.cells #[.slice a n c] 24)).alloc (.cells #[.slice none 0 0] 24)) s
 rw[hs2] at ht
 have hb:=Ze (Ze hb1 hb2) hb3
 have c2:=(hb3.block _ (lt_of_block c1)).trans c1
 have ea:=Zgn L s
 rw[hx] at ea
 have ER:=Zcx (L:=L) (s:=s)
 rw[hx] at ER
 simp only at ea ER
 have AL:=Zb (all_isF a (some ⟨w.heap.size+1+1,0,none⟩) n c 1 1 L [s] M (if x=0 then [k] else []) x _ (h.later hb) ht (by decide) ea)
 have HB:=Zb hb
 have C2:=Zb c2
 clear h hx ea hb hb1 hb2 hb3 hs1 hs2 c1 c2 ht
 by_cases h0:x=0
 ·subst h0
  rw[if_pos rfl] at AL
  clear ER
  go_enter Tryz.func97,Tryz.ntmps97
  go_wp2_with fail
  refine (Za AL).mono ?_
  rintro e w2 ⟨⟨a',n',c',a2,n2,c2,rfl,t1,t2,t3,-⟩,hb2⟩
  obtain⟨t4,t5⟩:=t3
  have e:n2=1:=by rw[←t4];rfl
  subst e
  obtain⟨b,off,rfl,hc⟩:=t5 (by decide)
  have f:=hc 0 (by simp)
  simp only[Nat.add_zero,List.getElem_cons_zero] at f
  have HB2:=Zb (Ze (Za HB) hb2)
  have c3:=(hb2.block _ (lt_of_block (Za C2))).trans (Za C2)
  have hb3:=Zf w2 (.cells #[.slice a' n' c'] 24)
  have c4:=(hb3.block _ (lt_of_block c3)).trans c3
  have HOK:=Zb t2
  have hlt:w.heap.size+1<w2.heap.size:=lt_of_block c3
  have f2:=Zc hb3 f
  have n0:=Qf w2 (.slice a' n' c') 24
  have hne:b≠w.heap.size+1:=by
   intro e
   subst e
   rw[cell_of_row _ _ _ _ _ _ c3] at f
   rcases off with _|off
   ·simp at f
   ·simp at f
  obtain⟨X,hX⟩:∃ X,X=w2.alloc (.cells #[.slice a' n' c'] 24):=⟨_,rfl⟩
  rw[←hX] at c4 f2 n0 hb3
  have HB3:=Zb (Ze (Za HB2) hb3)
  have d0:X.cell? ⟨w.heap.size+1,0,none⟩=some (.slice none 0 0):=by simp[World.cell?,c4]
  have df:X.frozen? ⟨w.heap.size+1,0,none⟩=false:=by simp[World.frozen?,c4]
  have hbl:b<X.heap.size:=World.block_lt_of_cell? _ _ f2
  have hne2:¬w2.heap.size=w.heap.size+1:=by omega
  have TS:Hid (∀ u w2,Gr (X.setCell ⟨w.heap.size+1,0,none⟩ u).drew w2 (fun k=>k<w.heap.size)→TextsAt w2 a' n' M):=fun u w2 g2=>t1 w2 (((((Gr.of hb3).set (p:=⟨w.heap.size+1,0,none⟩) (.inl (by simp)) u).draw).trans (g2.mono (fun _ _ hk=>Nat.lt_of_lt_of_le hk (by simp;omega)))))
  clear t1 t2 hb2 hb3 c3 c4 f hc t4 t5
  go_wp2
  rw[←hX]
  clear hX
  go_region
  go_wp2
  (try simp only[Exit.then])
  refine bodyPost_ret (v:=.tuple #[.agg #[.slice a' n' c'],.int .i64 k,.int .i64 0]) ?_ rfl ⟨⟨_,_,_,rfl,(Za TS) _,Za HOK⟩,?_⟩
  ·rw[results_cell_tmp2 rfl]
   go_simp
  ·exact ((Za HB3).setCell (Nat.le_succ _) _).drew
 ·rw[if_neg h0] at AL
  obtain⟨rfl,rfl⟩:=ER h0
  have g:(x != 0)=true:=by simp[h0]
  go_enter Tryz.func97,Tryz.ntmps97
  go_wp2_with fail
  refine (Za AL).mono ?_
  rintro e w2 ⟨⟨a',n',c',a2,n2,c2,rfl,t1,t2,t3,-⟩,hb2⟩
  have HB2:=Zb (Ze (Za HB) hb2)
  have c3:=(hb2.block _ (lt_of_block (Za C2))).trans (Za C2)
  have hb3:=Zf w2 (.cells #[.slice a' n' c'] 24)
  have c4:=(hb3.block _ (lt_of_block c3)).trans c3
  have HB3:=Zb (Ze (Za HB2) hb3)
  have hlt:w.heap.size+1<w2.heap.size:=lt_of_block c3
  have d0:w2.cell? ⟨w.heap.size+1,0,none⟩=some (.slice none 0 0):=by simp[World.cell?,c3]
  have df:w2.frozen? ⟨w.heap.size+1,0,none⟩=false:=by simp[World.frozen?,c3]
  clear t1 t2 t3 hb2 hb3 c3 c4
  go_wp2
  (try simp only[Exit.inBlock,Exit.then])
  refine bodyPost_ret (v:=.tuple #[.agg #[.slice none 0 0],.int .i64 0,.int .i64 x]) ?_ rfl ⟨⟨_,_,_,rfl,fun _ _=>TextsAt.nil _ _,SlOk.nil⟩,?_⟩
  ·rw[results_cell_tmp2 rfl]
   go_simp
  ·exact ((Za HB2).setCell (Nat.le_succ _) _).alloc (by have:=(Za HB2).size;simp;omega) _
end Go.Proofs.YtpikejjiignchaaGreatDoor.Bk
namespace Go.Proofs.YtpikejjiignchaaGreatDoor
open Go.RowKit Go.Shelf
def Tf(K:List ByteArray)(C:List Zg)(h:Int):Int:=
 if Bk.bkChk K≠0 then Bk.bkChk K else if Yi C≠0 then Yi C else if (decide (1≤h) && decide (h≤1000))=false then 3 else 0
def Zem(w:World)(p:Nat)(K:List ByteArray)(C:List Zg)(h:Int):Prop:=
 ∃ ka kn kc la ln lc,w.heap[p]? = some (.cells #[.slice ka kn kc,.slice la ln lc,.int .i64 h] 116 (0,0))∧Bk.TextsAt w ka kn K∧SlOk ka kn kc∧CoinsAt w la ln C∧SlOk la ln lc
def DoT(w':World)(B p:Nat)(K:List ByteArray)(C:List Zg)(h:Int):Prop:=
 ∃ ka kn kc la ln lc,w'.heap[p]? = some (.cells [.slice ka kn kc,.slice la ln lc,.int .i64 h].toArray 116 (0,0))∧Fresh B w' (fun w2=>Bk.TextsAt w2 ka kn K∧CoinsAt w2 la ln C)∧SlOk ka kn kc∧SlOk la ln lc
theorem DoT.till{w:World}{B p:Nat}{K:List ByteArray}{C:List Zg}{h:Int}(d:DoT w B p K C h):Zem w p K C h:=by
 obtain⟨ka,kn,kc,la,ln,lc,h1,h2,h3,h4⟩:=d
 have h5:=h2 w (Gr.refl _ _)
 exact⟨ka,kn,kc,la,ln,lc,h1,h5.1,h3,h5.2,h4⟩
theorem DoT.on{w w':World}{B p:Nat}{K:List ByteArray}{C:List Zg}{h:Int}(d:DoT w B p K C h)(g:Gr w w' (fun q=>q<B))(hp:w'.heap[p]? = w.heap[p]?):DoT w' B p K C h:=by
 obtain⟨ka,kn,kc,la,ln,lc,h1,h2,h3,h4⟩:=d
 exact⟨ka,kn,kc,la,ln,lc,hp.trans h1,fun w2 g2=>h2 w2 (g.trans g2),h3,h4⟩
theorem DoT.later{w w':World}{B p:Nat}{K:List ByteArray}{C:List Zg}{h:Int}(d:DoT w B p K C h)(hb:Below w.heap.size w w'):DoT w' B p K C h:=by
 have hp:p<w.heap.size:=by obtain⟨ka,kn,kc,la,ln,lc,h1,_⟩:=d;exact lt_of_block h1
 exact d.on (Gr.of hb) (hb.block p hp)
theorem DoT.less{w:World}{B B' p:Nat}{K:List ByteArray}{C:List Zg}{h:Int}(d:DoT w B p K C h)(hB:B'≤B):DoT w B' p K C h:=by
 obtain⟨ka,kn,kc,la,ln,lc,h1,h2,h3,h4⟩:=d
 exact⟨ka,kn,kc,la,ln,lc,h1,fun w2 g2=>h2 w2 (g2.mono fun _ _ q=>Nat.lt_of_lt_of_le q hB),h3,h4⟩
def OpR(w w':World)(x:Int)(K:List ByteArray)(C:List Zg)(h:Int)(e:Ending):Prop:=
 ((x≠0∧e = .returned (.tuple #[.pointer none,.int .i64 x]))∨(x=0∧∃ p,e = .returned (.tuple #[.pointer (some ⟨p,0,none⟩),.int .i64 0])∧w.heap.size≤p∧p+1=w'.heap.size∧DoT w' w.heap.size p K C h))∧Below w.heap.size w w'
theorem Zcn(ka:Option Addr)(kn kc:Nat)(K:List ByteArray)(la:Option Addr)(ln lc:Nat)(C:List Zg)(h x:Int)(w:World)(hK:Bk.TextsAt w ka kn K)(hC:CoinsAt w la ln C)(sC:SlOk la ln lc)(hx:Tf K C h=x) :
  Calls Tryz.prog 91 #[.agg #[.slice ka kn kc],.slice la ln lc,.int .i64 h] w fun e w'=>OpR w w' x K C h e:=by
 obtain⟨X,hX⟩:∃ X,X=w.alloc (.cells #[.slice ka kn kc] 24):=⟨_,rfl⟩
 have hbX:Below w.heap.size w X:=by rw[hX];exact Zf _ _
 have hX0:X.heap[w.heap.size]? = some (.cells [.slice ka kn kc].toArray 24 (0,0)):=by rw[hX];exact Jb _ _ _
 obtain⟨⟨M,Z,z⟩,hz⟩:∃ r,Bk.allR K []=r:=⟨_,rfl⟩
 have C1:=Zb (Bk.all_isF ka none kn kc 0 0 K [] M Z z X (hK.later hbX) ⟨rfl,fun h=>absurd h (by omega)⟩ (by omega) hz)
 have hzc:z=Bk.bkChk K∧(z=0→M=K):=by
  unfold Bk.allR at hz
  split at hz
  ·rename_i q;rw[Bk.nmGo] at hz;simp only[Prod.mk.injEq] at hz;exact⟨by rw[←hz.2.2,q],fun _=>hz.1.symm⟩
  ·rename_i q;simp only[Prod.mk.injEq] at hz;exact⟨hz.2.2.symm,fun e=>absurd (hz.2.2.trans e) q⟩
 unfold Tf at hx
 rw[←hzc.1] at hx
 obtain⟨y,hy⟩:∃ y,Yi C=y:=⟨_,rfl⟩
 rw[hy] at hx
 obtain⟨g,hg⟩:∃ g,(decide (1≤h) && decide (h≤1000))=g:=⟨_,rfl⟩
 rw[hg] at hx
 have HZ:=Zb hzc.2
 have HX:=Zb hx
 have HG:=Zb hg
 have HY:=Zb hy
 have HC:=Zb (hC.later hbX)
 have HSC:=Zb sC
 have HBX:=Zb hbX
 have HX0:=Zb hX0
 have x00:=Zd hX0 0 _ rfl
 have xl:=lt_of_block hX0
 have HXL:=Zb xl
 clear hK hC sC hx hbX hX0 hz hzc hy hg
 go_enter Tryz.func91,Tryz.ntmps91
 go_wp2_with fail
 rw[←hX]
 clear hX
 (try go_wp2_with fail)
 refine (Za C1).mono ?_
 rintro e w1 ⟨⟨a',n',c',a2,n2,c2,rfl,hT,sT,_,_,_⟩,hb1⟩
 have h10:=(hb1.block _ (lt_of_block (Za HX0))).trans (Za HX0)
 have y0:=Zd h10 0 _ rfl
 have yf:=Zh h10 0
 have yl:=lt_of_block h10
 obtain⟨W1,hW1⟩:∃ W1,W1=w1.setCell ⟨w.heap.size,0,none⟩ (.slice a' n' c'):=⟨_,rfl⟩
 have g1:Gr w1 W1 (fun q=>q=w.heap.size):=by rw[hW1];exact (Gr.refl w1 (fun q=>q=w.heap.size)).set (p:=⟨w.heap.size,0,none⟩) (.inl rfl) _
 have h1W:W1.heap[w.heap.size]? = some (.cells #[.slice a' n' c'] 24 (0,0)):=by rw[hW1];exact Ur h10
 have hbW:Below w.heap.size w W1:=g1.below (Ze (Za HBX) hb1) (Ze (Za HBX) hb1).size (fun q e=>by omega)
 have HCW:Hid (CoinsAt W1 la ln C):=Zaj (S:=fun q=>q=w.heap.size) g1.size g1.block (fun k e=>by subst e;exact⟨_,_,_,h10⟩) ((Za HC).later hb1)
 have HTW:Hid (Fresh w.heap.size W1 (fun w2=>Bk.TextsAt w2 a' n' M)):=fun w2 g2=>hT w2 ((g1.mono (fun k _ e=>by rw[e];exact (Za HXL))).trans (g2.mono (fun k _ e=>Nat.lt_trans e (Za HXL))))
 have HBW:=Zb hbW
 have H1W:=Zb h1W
 have HST:=Zb sT
 have HWL:=Zb (show w.heap.size<W1.heap.size from lt_of_block h1W)
 have C2:=Zb (U6 la ln lc C y W1 (Za HCW) (Za HY))
 clear hb1 h10 hT sT g1 h1W hbW C1 x00 xl HC HX0 HBX
 by_cases hz0:z=0
 ·subst hz0
  obtain rfl:=(Za HZ) rfl
  go_wp2_with fail
  rw[←hW1]
  clear hW1 y0 yf yl
  (try go_wp2_with fail)
  refine (Za C2).mono ?_
  rintro e w2 ⟨rfl,hb2⟩
  have HB2:=Zb (Ze (Za HBW) hb2)
  have H12:=Zb hb2
  have C3:=Zb (Yz h 1 1000 g w2 (Za HG))
  clear hb2 C2
  by_cases hy0:y=0
  ·subst hy0
   go_wp2_with fail
   refine (Za C3).mono ?_
   rintro e w3 ⟨rfl,hb3⟩
   have HB3:=Zb (Ze (Za HB2) hb3)
   have H13:=Zb (Ze (Za H12) hb3)
   clear hb3 C3 H12 HB2
   cases g
   ·have HXE:Hid (x=3):=by have:=Za HX;rw[if_neg (fun q=>q rfl),if_neg (fun q=>q rfl),if_pos rfl] at this;exact this.symm
    clear HX
    go_wp2
    go_ret2
    rw[Za HXE]
    exact⟨.inl ⟨by decide,rfl⟩,Za HB3⟩
   ·have HXE:Hid (x=0):=by have:=Za HX;rw[if_neg (fun q=>q rfl),if_neg (fun q=>q rfl),if_neg (by decide)] at this;exact this.symm
    have hRC:=(Xa C).1 (Za HY)
    have hcc:=Za HCW
    have hcl:=hcc.1
    have hlen:=hRC.len
    have CP:=Zb (fun V (hv:Below W1.heap.size W1 V)=>Qr la ln lc C V (by omega) (hcc.later hv) (Za HSC) (fun z hz=>by have:=Tt (Yp (hRC.one z hz)).2.2.2.2.2.2.2.2;omega))
    have h3:=((Za H13).block _ (lt_of_block (Za H1W))).trans (Za H1W)
    have KS:Hid (∀ V:World,Below w3.heap.size w3 V→V.cell? ⟨w.heap.size,0,none⟩=some (.slice a' n' c')∧w.heap.size<V.heap.size):=fun V hv=>⟨Zc hv (Zd (X:=[.slice a' n' c']) h3 0 _ rfl),Nat.lt_of_lt_of_le (lt_of_block h3) hv.size⟩
    clear HX hRC hcc hcl hlen h3
    go_wp2_with fail
    refine wp_region_held_drew (S:=fun V=>V.cell? ⟨w.heap.size,0,none⟩=some (.slice a' n' c')∧w.heap.size<V.heap.size) (by kernel_rfl) ((Za KS) _ (Zi _)) (fun Zic=>?_)
    refine tk 0 ⟨some 28,.load 24 (.tmp 3),24, "till.go:31",#[],none⟩ ?_ rfl ?_ Zic ?_
    rotate_left
    ·(intro V hSw;obtain⟨s1,s2⟩:=hSw;go_simp;first|done|with_reducible rfl)
    (try simp only[Act.put,ZA,ZB,ZC])
    refine tk 1 ⟨some 29,.move (.tmp 1),29, "till.go:31",#[],none⟩ ?_ rfl ?_ Zic ?_
    rotate_left
    ·(intro V hSw;obtain⟨s1,s2⟩:=hSw;go_simp;first|done|with_reducible rfl)
    (try simp only[Act.put,ZA,ZB,ZC])
    refine tk 3 ⟨some 31,.move (.tmp 2),3, "till.go:31",#[],none⟩ ?_ rfl ?_ Zic ?_
    rotate_left
    ·(intro V hSw;obtain⟨s1,s2⟩:=hSw;go_simp;first|done|with_reducible rfl)
    (try simp only[Act.put,ZA,ZB,ZC])
    refine wpAnyH_ready (rs:=[2]) (by kernel_rfl) (by simp) ?_
    refine AllReadyH.cons (o:=⟨some 30,.call { callee:=Callee.value (.func 47),args:=#[.tmp 29],argTypes:=#[29] },29, "till.go:31",#[⟨1,.data⟩],none⟩) rfl (fun KQ hK=>?_) AllReadyH.nil
    refine Yf (by kernel_rfl) 47 #[.slice la ln lc] (by kernel_rfl) ((Za CP) _ (Ze (Za H13) (Zi _))) ?_
    rintro e V1 ⟨ca,cc,rfl,hF,scc,hbV⟩
    refine⟨_,rfl,?_⟩
    have hb1:Below w3.heap.size w3 V1:=Ze (Zi w3) hbV
    have hcc:CoinsAt V1 ca ln C:=hF _ (Gr.refl _ _)
    refine hK.out _ _ ((Za KS) _ hb1) (fun Zid=>?_)
    clear hK KQ Zic
    have Zic:=Zid
    clear Zid
    (try simp only[Act.put,ZA,ZB,ZC])
    refine tk 4 ⟨some 32,.build 116 #[(0,.tmp 28),(1,.tmp 30),(2,.tmp 31)],116, "till.go:31",#[⟨0,.data⟩,⟨2,.data⟩,⟨3,.data⟩],none⟩ ?_ rfl ?_ Zic ?_
    rotate_left
    ·(intro W hSw;(try dsimp only at hSw);go_simp;first|done|with_reducible rfl)
    (try simp only[Act.put,ZA,ZB,ZC])
    refine wpAnyH_ready (rs:=[5]) (by kernel_rfl) (by simp) ?_
    refine AllReadyH.cons (o:=⟨some 33,.box 116 (.tmp 32),111, "till.go:31",#[⟨4,.data⟩],none⟩) rfl (fun KQ hK=>?_) AllReadyH.nil
    go_simp
    obtain⟨V2,hV2⟩:∃ V2,V2=V1.alloc (.cells #[.slice a' n' c',.slice ca ln cc,.int .i64 h] 116):=⟨_,rfl⟩
    have hb12:Below V1.heap.size V1 V2:=by rw[hV2];exact Zf _ _
    have h2:V2.heap[V1.heap.size]? = some (.cells #[.slice a' n' c',.slice ca ln cc,.int .i64 h] 116 (0,0)):=by rw[hV2];exact heap_alloc_new _ _
    have hs2:V2.heap.size=V1.heap.size+1:=by rw[hV2];simp
    rw[←hV2]
    refine hK.out _ _ ((Za KS) _ (Ze hb1 hb12)) (fun Zid=>?_)
    clear hK KQ Zic
    have Zic:=Zid
    clear Zid
    (try simp only[Act.put,ZA,ZB,ZC])
    refine tk 6 ⟨some 6,.assign (.tmp 33),111, "till.go:31",#[⟨5,.data⟩,⟨2,.chain⟩,⟨0,.phase⟩,⟨1,.phase⟩,⟨2,.phase⟩,⟨3,.phase⟩,⟨4,.phase⟩,⟨5,.phase⟩],none⟩ ?_ rfl ?_ Zic ?_
    rotate_left
    ·(intro W hSw;(try dsimp only at hSw);go_simp;first|done|with_reducible rfl)
    (try simp only[Act.put,ZA,ZB,ZC])
    refine tk 7 ⟨some 7,.assign (.const (Value.int IntKind.i64 0)),30, "till.go:31",#[⟨6,.chain⟩,⟨0,.phase⟩,⟨1,.phase⟩,⟨2,.phase⟩,⟨3,.phase⟩,⟨4,.phase⟩,⟨5,.phase⟩,⟨6,.phase⟩],none⟩ ?_ rfl ?_ Zic ?_
    rotate_left
    ·(intro W hSw;(try dsimp only at hSw);go_simp;first|done|with_reducible rfl)
    (try simp only[Act.put,ZA,ZB,ZC])
    refine wpAnyH_done (by kernel_rfl) ?_ _
    clear Zic
    have HF:Hid (OpR w V2 0 M C h (.returned (.tuple #[.pointer (some ⟨V1.heap.size,0,none⟩),.int .i64 0]))):=⟨.inr ⟨rfl,V1.heap.size,rfl,Nat.le_trans (Za HB3).size hb1.size,hs2.symm,a',n',c',ca,ln,cc,h2,fun w2 g2=>⟨(Za HTW) w2 ((Gr.of (Ze (Za H13) (Ze hb1 hb12))).trans g2),hF w2 ((Gr.of hb12).trans (g2.mono (fun k _ e=>Nat.lt_of_lt_of_le e (Za HB3).size)))⟩,Za HST,scc⟩,Ze (Za HB3) (Ze hb1 hb12)⟩
    clear hb12 h2 hs2 hV2 hb1 hcc hF scc hbV KS CP
    go_wp2
    go_ret2
    rw[Za HXE]
    exact Za HF
  ·have HXE:Hid (x=y):=by have:=Za HX;rw[if_neg (fun q=>q rfl),if_pos hy0] at this;exact this.symm
   have gy:(y != 0)=true:=by simp[hy0]
   clear HX C3
   go_wp2
   go_ret2
   rw[Za HXE]
   exact⟨.inl ⟨hy0,rfl⟩,Za HB2⟩
 ·have HXE:Hid (x=z):=by have:=Za HX;rw[if_pos hz0] at this;exact this.symm
  have gz:(z != 0)=true:=by simp[hz0]
  clear HX C2
  have HW1:=Zb hW1
  clear hW1
  go_wp2
  rw[←Za HW1]
  go_ret2
  rw[Za HXE]
  exact⟨.inl ⟨hz0,rfl⟩,Za HBW⟩
end Go.Proofs.YtpikejjiignchaaGreatDoor
