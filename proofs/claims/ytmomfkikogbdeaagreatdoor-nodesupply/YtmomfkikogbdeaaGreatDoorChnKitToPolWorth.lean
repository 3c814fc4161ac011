/- Whole rows by value, out of and into blocks of their own. Nothing of the program. -/
import Derived.Test.YtmomfkikogbdeaaGreatDoorTxStateToTrBase
import Derived.Test.YtmomfkikogbdeaaGreatDoorCoinCheckBToCoinInsert
import Derived.Deep.WholeRow
import Derived.Laws.CopyOwn
import Derived.Deep.RegionHeld3
import Derived.WalkKit
import Derived.Test.YtmomfkikogbdeaaGreatDoorBlkNamesBToBlkReward
import Derived.Shelf.Abstract
import Derived.Shelf.RegionOpen
import Derived.TacticsInMore
import Derived.LoopNIn
import Derived.LoopIn
import Derived.RangeFuncWrites
import Derived.RangeFuncNested
import Derived.RangeFuncBound
import Derived.RangeFuncCalls
import Derived.RangeFuncLeaves
import Derived.OwnWalkIn
import Derived.OrdersIn
import Derived.OrdersHeld
import Derived.Deep.RegionHeld
import Derived.Deep.RegionLaw
import Derived.Deep.AppendLies
import Derived.Test.YtmomfkikogbdeaaGreatDoorBookAllWToBlkNames
import Derived.Test.YtmomfkikogbdeaaGreatDoorCoinApplyToCoinApplyB
import Derived.Test.YtmomfkikogbdeaaGreatDoorCoinCopyToBlkCovers
import Derived.Test.YtmomfkikogbdeaaGreatDoorCoinTakeToBlkHead
set_option maxHeartbeats 3200000
set_option maxRecDepth 10000
namespace Go.Proofs.YtmomfkikogbdeaaGreatDoor
open Go.RowKit
theorem Gr.row{w w1:World}{S:Nat→Prop}(h:Gr w w1 S){g:Nat}(hg:S g∨w.heap.size≤g)(cs:Array Value):Gr w (w1.setRow g cs) S:=
 ⟨h.os,h.tape,h.output,by rw[setRow_size];exact h.size,fun i hi hn=>(setRow_other w1 g i cs (fun e=>by
  subst e
  rcases hg with q|q
  ·exact hn q
  ·omega)).trans (h.block i hi hn)⟩
section
variable {P : Program}
end
theorem tk{P:Program}{ops:Array Oper}{Q:Exit→Act→World→Prop}{md:Region.Mode}{S:World→Prop}(i:Nat)(oi:Oper)(v:Value){fuel:Nat}{listed:Array Bool}{a:Act}{w:World}(hi:ops[i]? = some oi)
  (hy:∀ w,S w→(execOp a.eval oi).run P w = .ok (.value v) w) (hS:S w) (h:wpAnyH P md ops Q S fuel (listed.setIfInBounds i true) (a.put oi.dst v) w)
  (hQ:∀ c a w,Q (.panic c) (a.put oi.dst v) w→Q (.panic c) a w:=by exact fun _ _ _ h=>h) (hw:Region.wanted oi (yielded ops a.tmps)=true:=by rfl)
  (hs:Region.noSelect ops=true:=by kernel_rfl) (hf:Region.free md ops listed i=true:=by kernel_rfl) (hr:(Region.ready md ops listed).contains i=true:=by kernel_rfl) :
  wpAnyH P md ops Q S (fuel+1) listed a w:=wpAnyH_take hi hs hf hr hQ (Or.inl ⟨hw,hy⟩) hS h
open Go.RowKit Go.Shelf
attribute [local go_sem] Oper.semAt_some
structure KpD(n1 b c:Nat)(W W':World):Prop where
 os:W'.os=W.os
 tape:W'.tape=W.tape
 output:W'.output=W.output
 size:W.heap.size≤W'.heap.size
 block:∀ k,k<n1→k≠b→k≠c→W'.heap[k]? = W.heap[k]?
theorem KpD.refl(n1 b c:Nat)(W:World):KpD n1 b c W W:=⟨rfl,rfl,rfl,Nat.le_refl _,fun _ _ _ _=>rfl⟩
theorem KpD.trans{n1 b c:Nat}{A B C:World}(h:KpD n1 b c A B)(k:KpD n1 b c B C):KpD n1 b c A C:=
 ⟨k.os.trans h.os,k.tape.trans h.tape,k.output.trans h.output,Nat.le_trans h.size k.size,fun i h1 h2 h3=>(k.block i h1 h2 h3).trans (h.block i h1 h2 h3)⟩
theorem KpD.put{n1 b c:Nat}(W:World)(l:Nat)(o:Obj)(h:n1≤l):KpD n1 b c W (W.putObj l o):=
 ⟨rfl,rfl,rfl,by simp,fun k hk _ _=>World.putObj_heap_other (by omega)⟩
theorem KpD.set{n1 b c:Nat}{W W':World}(h:KpD n1 b c W W'){p:Addr}(hp:p.block=b∨p.block=c)(u:Value):KpD n1 b c W (W'.setCell p u):=
 ⟨h.os,h.tape,h.output,by simpa[World.setCell] using h.size,fun k h1 h2 h3=>(Below.heap_setCell W' p u k (fun e=>by subst e;rcases hp with q|q;exact h2 q;exact h3 q)).trans (h.block k h1 h2 h3)⟩
theorem KpD.on{n1 b c:Nat}{W W1 W2:World}(h:KpD n1 b c W W1)(hb:Below W1.heap.size W1 W2)(hn:n1≤W1.heap.size):KpD n1 b c W W2:=
 ⟨hb.os.trans h.os,hb.tape.trans h.tape,hb.output.trans h.output,Nat.le_trans h.size hb.size,fun k h1 h2 h3=>(hb.block k (by omega)).trans (h.block k h1 h2 h3)⟩
theorem KpD.grown{n1 b c:Nat}{W W1 W2:World}(h:KpD n1 b c W W1){row:Option Nat}(g:W1.grownBy W2 row)(hr:∀ r,row=some r→n1≤r)(hn:n1≤W1.heap.size):KpD n1 b c W W2:=
 ⟨g.os.trans h.os,g.tape.trans h.tape,g.output.trans h.output,Nat.le_trans h.size g.size,fun k h1 h2 h3=>(g.block k (by omega) (fun e=>by have:=hr k e.symm;omega)).trans (h.block k h1 h2 h3)⟩
theorem KpD.below{n1 b c:Nat}{w W0 W:World}(h:KpD n1 b c W0 W)(hb:Below w.heap.size w W0)(hn:w.heap.size≤n1)(h1:w.heap.size≤b)(h2:w.heap.size≤c):Below w.heap.size w W:=
 ⟨h.os.trans hb.os,h.tape.trans hb.tape,h.output.trans hb.output,Nat.le_trans hb.size h.size,fun k hk=>(h.block k (by omega) (by omega) (by omega)).trans (hb.block k hk)⟩
theorem KpD.cell{n1 b c:Nat}{W W':World}(h:KpD n1 b c W W'){k o:Nat}{v:Value}(hk:k<n1)(h2:k≠b)(h3:k≠c)(hv:W.cell? ⟨k,o,none⟩=some v):W'.cell? ⟨k,o,none⟩=some v:=
 (World.cell?_of_block (a:=⟨k,o,none⟩) (h.block k hk h2 h3)).trans hv
def Box1(W:World)(k:Nat):Prop:=∃ v t fr,W.heap[k]? = some (.cells #[v] t fr)
theorem Box1.two{W:World}{k:Nat}(h:Box1 W k){o:Nat}{v:Value}(h2:W.cell? ⟨k,o+1,none⟩=some v):False:=by
 obtain⟨x,t,fr,hx⟩:=h
 rw[cell_of_row W k (o+1) #[x] t fr hx] at h2
 simp at h2
theorem En{W W':World}{S:Nat→Prop}(hk:∀ k,k<W.heap.size→¬S k→W'.heap[k]? = W.heap[k]?)(hB:∀ k,S k→Box1 W k){a:Option Addr}{n:Nat}{l:List (Int×Int)}(h:OpsAt W a n l):OpsAt W' a n l:=by
 refine⟨h.1,fun h0=>?_⟩
 obtain⟨b,off,rfl,hc⟩:=h.2 h0
 refine⟨b,off,rfl,fun i hi=>?_⟩
 obtain⟨c0,c1⟩:=hc i hi
 have e:=hk b (World.block_lt_of_cell? _ _ c0) (fun q=>(hB b q).two c1)
 exact⟨(World.cell?_of_block (a:=⟨b,_,none⟩) e).trans c0,(World.cell?_of_block (a:=⟨b,_,none⟩) e).trans c1⟩
theorem Fq{W W':World}{S:Nat→Prop}(hs:W.heap.size≤W'.heap.size)(hk:∀ k,k<W.heap.size→¬S k→W'.heap[k]? = W.heap[k]?)(hB:∀ k,S k→Box1 W k){a:Option Addr}{n:Nat}{L:List Zd}(h:CoinsAt W a n L):CoinsAt W' a n L:=by
 refine⟨h.1,fun h0=>?_⟩
 obtain⟨b,off,rfl,hl,hc⟩:=h.2 h0
 refine⟨b,off,rfl,Nat.lt_of_lt_of_le hl hs,fun i hi=>?_⟩
 obtain⟨c0,c1,c2,⟨la,ln,lc,c3,h5,h6⟩,c4,c5⟩:=hc i hi
 have e:=hk b hl (fun q=>(hB b q).two c1)
 have g:=fun (o:Nat)=>World.cell?_of_block (a:=⟨b,o,none⟩) e
 exact⟨(g _).trans c0,(g _).trans c1,(g _).trans c2,⟨la,ln,lc,(g _).trans c3,En hk hB h5,h6⟩,(g _).trans c4,(g _).trans c5⟩
end Go.Proofs.YtmomfkikogbdeaaGreatDoor
namespace Go.Proofs.YtmomfkikogbdeaaGreatDoor
open Go.RowKit
theorem Zf{P:Program}{ops:Array Oper}{o:Oper}{a:Act}{w:World}{K:Act→World→Prop}{Q:Exit→Act→World→Prop}{E:Prop}
  (hw:Region.wanted o (yielded ops a.tmps)=true) (f:FuncId) (vs:Array Value) (he:(execOp a.eval o).run P w = .ok (.enter f vs) w) {R:Ending→World→Prop} (hc:Calls P f vs w R) (h:∀ e w',R e w'→∃ v,e = .returned v∧K (a.put o.dst v) w') :
  if Region.wanted o (yielded ops a.tmps)=true then Oper.wp P o a w K Q else E:=by
 rw[if_pos hw]
 unfold Oper.wp
 rw[he,Oper.upon_enter]
 refine hc.mono ?_
 intro e w' hr
 obtain⟨v,rfl,hk⟩:=h e w' hr
 exact hk
theorem Ge{P:Program}{ops:Array Oper}{o:Oper}{a:Act}{w:World}{K:Act→World→Prop}{Q:Exit→Act→World→Prop}{E:Prop}
  (hg:o.guard=none) (f:FuncId) (vs:Array Value) (he:(execOp a.eval o).run P w = .ok (.enter f vs) w) {R:Ending→World→Prop} (hc:Calls P f vs w R) (h:∀ e w',R e w'→∃ v,e = .returned v∧K (a.put o.dst v) w') :
  if Region.wanted o (yielded ops a.tmps)=true then Oper.wp P o a w K Q else E:=
 Zf (by simp[Region.wanted,hg]) f vs he hc h
end Go.Proofs.YtmomfkikogbdeaaGreatDoor
namespace Go.Proofs.YtmomfkikogbdeaaGreatDoor.Bk
open Go.RowKit Go.Maps
theorem all_isF(a al:Option Addr)(n c nl cl:Nat)(L l M:List ByteArray)(N:List Int)(x:Int)(w:World)(h:TextsAt w a n L)(hl:TextsAt w al nl l)(hnl:nl≤17592186044416)(hx:allR L l=(M,N,x)) :
  Calls Tryz.prog 86 #[.agg #[.slice a n c],.slice al nl cl] w fun e w'=>(∃ a' n' c' a2 n2 c2,e = .returned (.tuple #[.agg #[.slice a' n' c'],.slice a2 n2 c2,.int .i64 x])∧(∀ w2,Gr w' w2 (fun k=>k<w.heap.size)→TextsAt w2 a' n' M)∧SlOk a' n' c'∧IntsAt w' a2 n2 N∧n2≤nl∧n2≤c2)∧Below w.heap.size w w':=by
 unfold allR at hx
 by_cases h0:bkChk L=0
 ·rw[if_pos h0] at hx
  exact Sl a al n c nl cl L l M N x w h hl hnl ((right_iff L).1 h0) hx
 ·rw[if_neg h0] at hx
  have e1:M=[]:=by injection hx with hx _;exact hx.symm
  have e2:N=[]:=by injection hx with _ hx;injection hx with hx _;exact hx.symm
  have e3:bkChk L=x:=by injection hx with _ hx;injection hx with _ hx
  subst e1 e2
  refine (N9 a al n c nl cl L w h x e3 (by rw[←e3];exact h0)).mono ?_
  rintro e w' ⟨rfl,hb⟩
  exact⟨⟨_,_,_,_,_,_,rfl,fun _ _=>TextsAt.nil _ _,SlOk.nil,IntsAt.nil _ _,Nat.zero_le _,Nat.le_refl _⟩,hb⟩
theorem name_fresh(a:Option Addr)(n c:Nat)(L M:List ByteArray)(s:ByteArray)(k x:Int)(w:World)(h:TextsAt w a n L)(hx:nameR L s=(M,k,x)) :
  Calls Tryz.prog 157 #[.agg #[.slice a n c],.string s] w fun e w'=>(∃ a' n' c',e = .returned (.tuple #[.agg #[.slice a' n' c'],.int .i64 k,.int .i64 x])∧(∀ w2,Gr w' w2 (fun k=>k<w.heap.size)→TextsAt w2 a' n' M)∧SlOk a' n' c')∧Below w.heap.size w w':=by
 have hb1:=bel_new w (.cells #[.slice a n c] 24)
 have hb2:=bel_new (w.alloc (.cells #[.slice a n c] 24)) (.cells #[.slice none 0 0] 24)
 have hs1:(w.alloc (.cells #[.slice a n c] 24)).heap.size=w.heap.size+1:=by simp
 have hs2:((w.alloc (.cells #[.slice a n c] 24)).alloc (.cells #[.slice none 0 0] 24)).heap.size=w.heap.size+1+1:=by simp
 have c1:=heap_alloc_new (w.alloc (.cells #[.slice a n c] 24)) (.cells #[.slice none 0 0] 24)
 rw[hs1] at c1
 have hb3:=bel_new ((w.alloc (.cells #[.slice a n c] 24)).alloc (.cells #[.slice none 0 0] 24)) (.cells #[.string s] 9)
 have ht:=A8 ((w.alloc (.cells #[.slice a n c] 24)).alloc (.cells #[.slice none 0 0] 24)) s
 rw[hs2] at ht
 have hb:=bel_on (bel_on hb1 hb2) hb3
 have c2:=(hb3.block _ (lt_of_block c1)).trans c1
 have ea:=Zas L s
 rw[hx] at ea
 have ER:=Bf (L:=L) (s:=s)
 rw[hx] at ER
 simp only at ea ER
 have AL:=hide (all_isF a (some ⟨w.heap.size+1+1,0,none⟩) n c 1 1 L [s] M (if x=0 then [k] else []) x _ (h.later hb) ht (by decide) ea)
 have HB:=hide hb
 have C2:=hide c2
 clear h hx ea hb hb1 hb2 hb3 hs1 hs2 c1 c2 ht
 by_cases h0:x=0
 ·subst h0
  rw[if_pos rfl] at AL
  clear ER
  go_enter Tryz.func157,Tryz.ntmps157
  go_wp2_with fail
  refine (unhide AL).mono ?_
  rintro e w2 ⟨⟨a',n',c',a2,n2,c2,rfl,t1,t2,t3,-⟩,hb2⟩
  obtain⟨t4,t5⟩:=t3
  have e:n2=1:=by rw[←t4];rfl
  subst e
  obtain⟨b,off,rfl,hc⟩:=t5 (by decide)
  have f:=hc 0 (by simp)
  simp only[Nat.add_zero,List.getElem_cons_zero] at f
  have HB2:=hide (bel_on (unhide HB) hb2)
  have c3:=(hb2.block _ (lt_of_block (unhide C2))).trans (unhide C2)
  have hb3:=bel_new w2 (.cells #[.slice a' n' c'] 24)
  have c4:=(hb3.block _ (lt_of_block c3)).trans c3
  have HOK:=hide t2
  have hlt:w.heap.size+1<w2.heap.size:=lt_of_block c3
  have f2:=cell_later hb3 f
  have n0:=one_new w2 (.slice a' n' c') 24
  have hne:b≠w.heap.size+1:=by
   intro e
   subst e
   rw[cell_of_row _ _ _ _ _ _ c3] at f
   rcases off with _|off
   ·simp at f
   ·simp at f
  obtain⟨X,hX⟩:∃ X,X=w2.alloc (.cells #[.slice a' n' c'] 24):=⟨_,rfl⟩
  rw[←hX] at c4 f2 n0 hb3
  have HB3:=hide (bel_on (unhide HB2) hb3)
  have d0:X.cell? ⟨w.heap.size+1,0,none⟩=some (.slice none 0 0):=by simp[World.cell?,c4]
  have df:X.frozen? ⟨w.heap.size+1,0,none⟩=false:=by simp[World.frozen?,c4]
  have hbl:b<X.heap.size:=World.block_lt_of_cell? _ _ f2
  have hne2:¬w2.heap.size=w.heap.size+1:=by omega
  have TS:Hid (∀ u w2,Gr (X.setCell ⟨w.heap.size+1,0,none⟩ u).drew w2 (fun k=>k<w.heap.size)→TextsAt w2 a' n' M):=fun u w2 g2=>t1 w2 (((((Gr.of hb3).set (p:=⟨w.heap.size+1,0,none⟩) (.inl (by simp)) u).draw).trans (g2.mono (fun _ _ hk=>Nat.lt_of_lt_of_le hk (by simp;omega)))))
  clear t1 t2 hb2 hb3 c3 c4 f hc t4 t5
  go_wp2
  rw[←hX]
  clear hX
  go_region
  go_wp2
  (try simp only[Exit.then])
  refine bodyPost_ret (v:=.tuple #[.agg #[.slice a' n' c'],.int .i64 k,.int .i64 0]) ?_ rfl ⟨⟨_,_,_,rfl,(unhide TS) _,unhide HOK⟩,?_⟩
  ·rw[Ye rfl]
   go_simp
  ·exact ((unhide HB3).setCell (Nat.le_succ _) _).drew
 ·rw[if_neg h0] at AL
  obtain⟨rfl,rfl⟩:=ER h0
  have g:(x != 0)=true:=by simp[h0]
  go_enter Tryz.func157,Tryz.ntmps157
  go_wp2_with fail
  refine (unhide AL).mono ?_
  rintro e w2 ⟨⟨a',n',c',a2,n2,c2,rfl,t1,t2,t3,-⟩,hb2⟩
  have HB2:=hide (bel_on (unhide HB) hb2)
  have c3:=(hb2.block _ (lt_of_block (unhide C2))).trans (unhide C2)
  have hb3:=bel_new w2 (.cells #[.slice a' n' c'] 24)
  have c4:=(hb3.block _ (lt_of_block c3)).trans c3
  have HB3:=hide (bel_on (unhide HB2) hb3)
  have hlt:w.heap.size+1<w2.heap.size:=lt_of_block c3
  have d0:w2.cell? ⟨w.heap.size+1,0,none⟩=some (.slice none 0 0):=by simp[World.cell?,c3]
  have df:w2.frozen? ⟨w.heap.size+1,0,none⟩=false:=by simp[World.frozen?,c3]
  clear t1 t2 t3 hb2 hb3 c3 c4
  go_wp2
  (try simp only[Exit.inBlock,Exit.then])
  refine bodyPost_ret (v:=.tuple #[.agg #[.slice none 0 0],.int .i64 0,.int .i64 x]) ?_ rfl ⟨⟨_,_,_,rfl,fun _ _=>TextsAt.nil _ _,SlOk.nil⟩,?_⟩
  ·rw[Ye rfl]
   go_simp
  ·exact ((unhide HB2).setCell (Nat.le_succ _) _).alloc (by have:=(unhide HB2).size;simp;omega) _
end Go.Proofs.YtmomfkikogbdeaaGreatDoor.Bk
namespace Go.Proofs.YtmomfkikogbdeaaGreatDoor
open Go.RowKit Go.Shelf
def J2(K:List ByteArray)(C:List Zd)(h:Int):Int:=
 if Bk.bkChk K≠0 then Bk.bkChk K else if Zn C≠0 then Zn C else if (decide (1≤h) && decide (h≤1000))=false then 3 else 0
def Ct(w:World)(p:Nat)(K:List ByteArray)(C:List Zd)(h:Int):Prop:=
 ∃ ka kn kc la ln lc,w.heap[p]? = some (.cells #[.slice ka kn kc,.slice la ln lc,.int .i64 h] 162 (0,0))∧Bk.TextsAt w ka kn K∧SlOk ka kn kc∧CoinsAt w la ln C∧SlOk la ln lc
def DoT(w':World)(B p:Nat)(K:List ByteArray)(C:List Zd)(h:Int):Prop:=
 ∃ ka kn kc la ln lc,w'.heap[p]? = some (.cells [.slice ka kn kc,.slice la ln lc,.int .i64 h].toArray 162 (0,0))∧Fresh B w' (fun w2=>Bk.TextsAt w2 ka kn K∧CoinsAt w2 la ln C)∧SlOk ka kn kc∧SlOk la ln lc
theorem DoT.till{w:World}{B p:Nat}{K:List ByteArray}{C:List Zd}{h:Int}(d:DoT w B p K C h):Ct w p K C h:=by
 obtain⟨ka,kn,kc,la,ln,lc,h1,h2,h3,h4⟩:=d
 have h5:=h2 w (Gr.refl _ _)
 exact⟨ka,kn,kc,la,ln,lc,h1,h5.1,h3,h5.2,h4⟩
theorem DoT.on{w w':World}{B p:Nat}{K:List ByteArray}{C:List Zd}{h:Int}(d:DoT w B p K C h)(g:Gr w w' (fun q=>q<B))(hp:w'.heap[p]? = w.heap[p]?):DoT w' B p K C h:=by
 obtain⟨ka,kn,kc,la,ln,lc,h1,h2,h3,h4⟩:=d
 exact⟨ka,kn,kc,la,ln,lc,hp.trans h1,fun w2 g2=>h2 w2 (g.trans g2),h3,h4⟩
theorem DoT.later{w w':World}{B p:Nat}{K:List ByteArray}{C:List Zd}{h:Int}(d:DoT w B p K C h)(hb:Below w.heap.size w w'):DoT w' B p K C h:=by
 have hp:p<w.heap.size:=by obtain⟨ka,kn,kc,la,ln,lc,h1,_⟩:=d;exact lt_of_block h1
 exact d.on (Gr.of hb) (hb.block p hp)
theorem DoT.less{w:World}{B B' p:Nat}{K:List ByteArray}{C:List Zd}{h:Int}(d:DoT w B p K C h)(hB:B'≤B):DoT w B' p K C h:=by
 obtain⟨ka,kn,kc,la,ln,lc,h1,h2,h3,h4⟩:=d
 exact⟨ka,kn,kc,la,ln,lc,h1,fun w2 g2=>h2 w2 (g2.mono fun _ _ q=>Nat.lt_of_lt_of_le q hB),h3,h4⟩
def OpR(w w':World)(x:Int)(K:List ByteArray)(C:List Zd)(h:Int)(e:Ending):Prop:=
 ((x≠0∧e = .returned (.tuple #[.pointer none,.int .i64 x]))∨(x=0∧∃ p,e = .returned (.tuple #[.pointer (some ⟨p,0,none⟩),.int .i64 0])∧w.heap.size≤p∧p+1=w'.heap.size∧DoT w' w.heap.size p K C h))∧Below w.heap.size w w'
theorem Ax(ka:Option Addr)(kn kc:Nat)(K:List ByteArray)(la:Option Addr)(ln lc:Nat)(C:List Zd)(h x:Int)(w:World)(hK:Bk.TextsAt w ka kn K)(hC:CoinsAt w la ln C)(sC:SlOk la ln lc)(hx:J2 K C h=x) :
  Calls Tryz.prog 149 #[.agg #[.slice ka kn kc],.slice la ln lc,.int .i64 h] w fun e w'=>OpR w w' x K C h e:=by
 obtain⟨X,hX⟩:∃ X,X=w.alloc (.cells #[.slice ka kn kc] 24):=⟨_,rfl⟩
 have hbX:Below w.heap.size w X:=by rw[hX];exact bel_new _ _
 have hX0:X.heap[w.heap.size]? = some (.cells [.slice ka kn kc].toArray 24 (0,0)):=by rw[hX];exact Z8 _ _ _
 obtain⟨⟨M,Z,z⟩,hz⟩:∃ r,Bk.allR K []=r:=⟨_,rfl⟩
 have C1:=hide (Bk.all_isF ka none kn kc 0 0 K [] M Z z X (hK.later hbX) ⟨rfl,fun h=>absurd h (by omega)⟩ (by omega) hz)
 have hzc:z=Bk.bkChk K∧(z=0→M=K):=by
  unfold Bk.allR at hz
  split at hz
  ·rename_i q;rw[Bk.nmGo] at hz;simp only[Prod.mk.injEq] at hz;exact⟨by rw[←hz.2.2,q],fun _=>hz.1.symm⟩
  ·rename_i q;simp only[Prod.mk.injEq] at hz;exact⟨hz.2.2.symm,fun e=>absurd (hz.2.2.trans e) q⟩
 unfold J2 at hx
 rw[←hzc.1] at hx
 obtain⟨y,hy⟩:∃ y,Zn C=y:=⟨_,rfl⟩
 rw[hy] at hx
 obtain⟨g,hg⟩:∃ g,(decide (1≤h) && decide (h≤1000))=g:=⟨_,rfl⟩
 rw[hg] at hx
 have HZ:=hide hzc.2
 have HX:=hide hx
 have HG:=hide hg
 have HY:=hide hy
 have HC:=hide (hC.later hbX)
 have HSC:=hide sC
 have HBX:=hide hbX
 have HX0:=hide hX0
 have x00:=Za hX0 0 _ rfl
 have xl:=lt_of_block hX0
 have HXL:=hide xl
 clear hK hC sC hx hbX hX0 hz hzc hy hg
 go_enter Tryz.func149,Tryz.ntmps149
 go_wp2_with fail
 rw[←hX]
 clear hX
 (try go_wp2_with fail)
 refine (unhide C1).mono ?_
 rintro e w1 ⟨⟨a',n',c',a2,n2,c2,rfl,hT,sT,_,_,_⟩,hb1⟩
 have h10:=(hb1.block _ (lt_of_block (unhide HX0))).trans (unhide HX0)
 have y0:=Za h10 0 _ rfl
 have yf:=Zb h10 0
 have yl:=lt_of_block h10
 obtain⟨W1,hW1⟩:∃ W1,W1=w1.setCell ⟨w.heap.size,0,none⟩ (.slice a' n' c'):=⟨_,rfl⟩
 have g1:Gr w1 W1 (fun q=>q=w.heap.size):=by rw[hW1];exact (Gr.refl w1 (fun q=>q=w.heap.size)).set (p:=⟨w.heap.size,0,none⟩) (.inl rfl) _
 have h1W:W1.heap[w.heap.size]? = some (.cells #[.slice a' n' c'] 24 (0,0)):=by rw[hW1];exact Wa h10
 have hbW:Below w.heap.size w W1:=g1.below (bel_on (unhide HBX) hb1) (bel_on (unhide HBX) hb1).size (fun q e=>by omega)
 have HCW:Hid (CoinsAt W1 la ln C):=Fq (S:=fun q=>q=w.heap.size) g1.size g1.block (fun k e=>by subst e;exact⟨_,_,_,h10⟩) ((unhide HC).later hb1)
 have HTW:Hid (Fresh w.heap.size W1 (fun w2=>Bk.TextsAt w2 a' n' M)):=fun w2 g2=>hT w2 ((g1.mono (fun k _ e=>by rw[e];exact (unhide HXL))).trans (g2.mono (fun k _ e=>Nat.lt_trans e (unhide HXL))))
 have HBW:=hide hbW
 have H1W:=hide h1W
 have HST:=hide sT
 have HWL:=hide (show w.heap.size<W1.heap.size from lt_of_block h1W)
 have C2:=hide (Xv la ln lc C y W1 (unhide HCW) (unhide HY))
 clear hb1 h10 hT sT g1 h1W hbW C1 x00 xl HC HX0 HBX
 by_cases hz0:z=0
 ·subst hz0
  obtain rfl:=(unhide HZ) rfl
  go_wp2_with fail
  rw[←hW1]
  clear hW1 y0 yf yl
  (try go_wp2_with fail)
  refine (unhide C2).mono ?_
  rintro e w2 ⟨rfl,hb2⟩
  have HB2:=hide (bel_on (unhide HBW) hb2)
  have H12:=hide hb2
  have C3:=hide (Yd h 1 1000 g w2 (unhide HG))
  clear hb2 C2
  by_cases hy0:y=0
  ·subst hy0
   go_wp2_with fail
   refine (unhide C3).mono ?_
   rintro e w3 ⟨rfl,hb3⟩
   have HB3:=hide (bel_on (unhide HB2) hb3)
   have H13:=hide (bel_on (unhide H12) hb3)
   clear hb3 C3 H12 HB2
   cases g
   ·have HXE:Hid (x=3):=by have:=unhide HX;rw[if_neg (fun q=>q rfl),if_neg (fun q=>q rfl),if_pos rfl] at this;exact this.symm
    clear HX
    go_wp2
    go_ret2
    rw[unhide HXE]
    exact⟨.inl ⟨by decide,rfl⟩,unhide HB3⟩
   ·have HXE:Hid (x=0):=by have:=unhide HX;rw[if_neg (fun q=>q rfl),if_neg (fun q=>q rfl),if_neg (by decide)] at this;exact this.symm
    have hRC:=(Zs C).1 (unhide HY)
    have hcc:=unhide HCW
    have hcl:=hcc.1
    have hlen:=hRC.len
    have CP:=hide (fun V (hv:Below W1.heap.size W1 V)=>Vu la ln lc C V (by omega) (hcc.later hv) (unhide HSC) (fun z hz=>by have:=Ja (Z9 (hRC.one z hz)).2.2.2.2.2.2.2.2;omega))
    have h3:=((unhide H13).block _ (lt_of_block (unhide H1W))).trans (unhide H1W)
    have KS:Hid (∀ V:World,Below w3.heap.size w3 V→V.cell? ⟨w.heap.size,0,none⟩=some (.slice a' n' c')∧w.heap.size<V.heap.size):=fun V hv=>⟨cell_later hv (Za (X:=[.slice a' n' c']) h3 0 _ rfl),Nat.lt_of_lt_of_le (lt_of_block h3) hv.size⟩
    clear HX hRC hcc hcl hlen h3
    go_wp2_with fail
    refine wp_region_held_drew (S:=fun V=>V.cell? ⟨w.heap.size,0,none⟩=some (.slice a' n' c')∧w.heap.size<V.heap.size) (by kernel_rfl) ((unhide KS) _ (Ze _)) (fun hHeld=>?_)
    refine tk 0 ⟨some 28,.load 24 (.tmp 3),24, "till.go:31",#[],none⟩ ?_ rfl ?_ hHeld ?_
    rotate_left
    ·(intro V hSw;obtain⟨s1,s2⟩:=hSw;go_simp;first|done|with_reducible rfl)
    (try simp only[Act.put,ZA,ZB,ZC])
    refine tk 1 ⟨some 29,.move (.tmp 1),29, "till.go:31",#[],none⟩ ?_ rfl ?_ hHeld ?_
    rotate_left
    ·(intro V hSw;obtain⟨s1,s2⟩:=hSw;go_simp;first|done|with_reducible rfl)
    (try simp only[Act.put,ZA,ZB,ZC])
    refine tk 3 ⟨some 31,.move (.tmp 2),3, "till.go:31",#[],none⟩ ?_ rfl ?_ hHeld ?_
    rotate_left
    ·(intro V hSw;obtain⟨s1,s2⟩:=hSw;go_simp;first|done|with_reducible rfl)
    (try simp only[Act.put,ZA,ZB,ZC])
    refine wpAnyH_ready (rs:=[2]) (by kernel_rfl) (by simp) ?_
    refine AllReadyH.cons (o:=⟨some 30,.call { callee:=Callee.value (.func 66),args:=#[.tmp 29],argTypes:=#[29] },29, "till.go:31",#[⟨1,.data⟩],none⟩) rfl (fun KQ hK=>?_) AllReadyH.nil
    refine Zf (by kernel_rfl) 66 #[.slice la ln lc] (by kernel_rfl) ((unhide CP) _ (bel_on (unhide H13) (Ze _))) ?_
    rintro e V1 ⟨ca,cc,rfl,hF,scc,hbV⟩
    refine⟨_,rfl,?_⟩
    have hb1:Below w3.heap.size w3 V1:=bel_on (Ze w3) hbV
    have hcc:CoinsAt V1 ca ln C:=hF _ (Gr.refl _ _)
    refine hK.out _ _ ((unhide KS) _ hb1) (fun hHeld2=>?_)
    clear hK KQ hHeld
    have hHeld:=hHeld2
    clear hHeld2
    (try simp only[Act.put,ZA,ZB,ZC])
    refine tk 4 ⟨some 32,.build 162 #[(0,.tmp 28),(1,.tmp 30),(2,.tmp 31)],162, "till.go:31",#[⟨0,.data⟩,⟨2,.data⟩,⟨3,.data⟩],none⟩ ?_ rfl ?_ hHeld ?_
    rotate_left
    ·(intro W hSw;(try dsimp only at hSw);go_simp;first|done|with_reducible rfl)
    (try simp only[Act.put,ZA,ZB,ZC])
    refine wpAnyH_ready (rs:=[5]) (by kernel_rfl) (by simp) ?_
    refine AllReadyH.cons (o:=⟨some 33,.box 162 (.tmp 32),157, "till.go:31",#[⟨4,.data⟩],none⟩) rfl (fun KQ hK=>?_) AllReadyH.nil
    go_simp
    obtain⟨V2,hV2⟩:∃ V2,V2=V1.alloc (.cells #[.slice a' n' c',.slice ca ln cc,.int .i64 h] 162):=⟨_,rfl⟩
    have hb12:Below V1.heap.size V1 V2:=by rw[hV2];exact bel_new _ _
    have h2:V2.heap[V1.heap.size]? = some (.cells #[.slice a' n' c',.slice ca ln cc,.int .i64 h] 162 (0,0)):=by rw[hV2];exact heap_alloc_new _ _
    have hs2:V2.heap.size=V1.heap.size+1:=by rw[hV2];simp
    rw[←hV2]
    refine hK.out _ _ ((unhide KS) _ (bel_on hb1 hb12)) (fun hHeld2=>?_)
    clear hK KQ hHeld
    have hHeld:=hHeld2
    clear hHeld2
    (try simp only[Act.put,ZA,ZB,ZC])
    refine tk 6 ⟨some 6,.assign (.tmp 33),157, "till.go:31",#[⟨5,.data⟩,⟨2,.chain⟩,⟨0,.phase⟩,⟨1,.phase⟩,⟨2,.phase⟩,⟨3,.phase⟩,⟨4,.phase⟩,⟨5,.phase⟩],none⟩ ?_ rfl ?_ hHeld ?_
    rotate_left
    ·(intro W hSw;(try dsimp only at hSw);go_simp;first|done|with_reducible rfl)
    (try simp only[Act.put,ZA,ZB,ZC])
    refine tk 7 ⟨some 7,.assign (.const (Value.int IntKind.i64 0)),30, "till.go:31",#[⟨6,.chain⟩,⟨0,.phase⟩,⟨1,.phase⟩,⟨2,.phase⟩,⟨3,.phase⟩,⟨4,.phase⟩,⟨5,.phase⟩,⟨6,.phase⟩],none⟩ ?_ rfl ?_ hHeld ?_
    rotate_left
    ·(intro W hSw;(try dsimp only at hSw);go_simp;first|done|with_reducible rfl)
    (try simp only[Act.put,ZA,ZB,ZC])
    refine wpAnyH_done (by kernel_rfl) ?_ _
    clear hHeld
    have HF:Hid (OpR w V2 0 M C h (.returned (.tuple #[.pointer (some ⟨V1.heap.size,0,none⟩),.int .i64 0]))):=⟨.inr ⟨rfl,V1.heap.size,rfl,Nat.le_trans (unhide HB3).size hb1.size,hs2.symm,a',n',c',ca,ln,cc,h2,fun w2 g2=>⟨(unhide HTW) w2 ((Gr.of (bel_on (unhide H13) (bel_on hb1 hb12))).trans g2),hF w2 ((Gr.of hb12).trans (g2.mono (fun k _ e=>Nat.lt_of_lt_of_le e (unhide HB3).size)))⟩,unhide HST,scc⟩,bel_on (unhide HB3) (bel_on hb1 hb12)⟩
    clear hb12 h2 hs2 hV2 hb1 hcc hF scc hbV KS CP
    go_wp2
    go_ret2
    rw[unhide HXE]
    exact unhide HF
  ·have HXE:Hid (x=y):=by have:=unhide HX;rw[if_neg (fun q=>q rfl),if_pos hy0] at this;exact this.symm
   have gy:(y != 0)=true:=by simp[hy0]
   clear HX C3
   go_wp2
   go_ret2
   rw[unhide HXE]
   exact⟨.inl ⟨hy0,rfl⟩,unhide HB2⟩
 ·have HXE:Hid (x=z):=by have:=unhide HX;rw[if_pos hz0] at this;exact this.symm
  have gz:(z != 0)=true:=by simp[hz0]
  clear HX C2
  have HW1:=hide hW1
  clear hW1
  go_wp2
  rw[←unhide HW1]
  go_ret2
  rw[unhide HXE]
  exact⟨.inl ⟨hz0,rfl⟩,unhide HBW⟩
open Bk (Right nm nameR)
theorem Bv{h:Int}{K K':List ByteArray}{C C':List Zd}{t:TxD}(e:doD h (K,C) t=(0,K',C')) :
  Zp t=0∧t.2.1.length≠0∧∃ n S,nameR K (txT t)=(K',n,0)∧apD C t n h=(0,C',S):=by
 unfold doD at e
 split at e
 ·rename_i q;injection e with e _;exact absurd e q
 rename_i q1
 split at e
 ·injection e with e _;exact absurd (show (4:Int)=0 from e) (by decide)
 rename_i q2
 split at e
 ·rename_i q;injection e with e _;exact absurd e q
 rename_i q3
 split at e
 ·rename_i q;injection e with e _;exact absurd e q
 rename_i q4
 injection e with _ e
 injection e with e1 e2
 exact⟨Decidable.not_not.1 q1,q2,_,_,Prod.ext e1 (Prod.ext rfl (Decidable.not_not.1 q3)),Prod.ext (Decidable.not_not.1 q4) (Prod.ext e2 rfl)⟩
theorem Bw{h:Int}{K K':List ByteArray}{C C':List Zd}{t:TxD}(hK:Right K)(e:doD h (K,C) t=(0,K',C')) :
  Right K'∧(∃ M,K'=K++M)∧Yc C'∧Zi C'≤Zi C∧Zp t=0:=by
 obtain⟨h1,h2,n,S,h3,h4⟩:=Bv e
 obtain⟨d1,d2,_⟩:=Bx hK (show (doD h (K,C) t).1=0 by rw[e])
 rw[e] at d1 d2
 exact⟨d1,d2,(Sj h4).2.1,(Cr h4).2 h2,h1⟩
def swT(h:Int):List TxD→List ByteArray×List Zd→List (TxD×List Zd)
 | [],_=>[]
 | t :: l,s=>if (doD h s t).1=0 then (t,(doD h s t).2.2) :: swT h l (doD h s t).2 else swT h l s
def Yl(C:List Zd)(X:List (TxD×List Zd)):List Zd:=(X.getLast?.map (·.2)).getD C
theorem Xx(C:List Zd):Yl C []=C:=rfl
theorem Xd(C:List Zd)(X:List (TxD×List Zd))(t:TxD)(C':List Zd):Yl C (X++[(t,C')])=C':=by simp[Yl]
theorem Mo(C:List Zd)(X:List (TxD×List Zd))(t:TxD)(C':List Zd):Yl C ((t,C') :: X)=Yl C' X:=by
 cases X with
 | nil=>rfl
 | cons y X=>
  obtain⟨z,hz⟩:∃ z,(y :: X).getLast? = some z:=⟨_,List.getLast?_eq_some_getLast (by simp)⟩
  unfold Yl
  rw[List.getLast?_cons_cons,hz]
  rfl
theorem Rn(h:Int):∀ (l:List TxD) (s:List ByteArray×List Zd),(swT h l s).map (·.1)=(Xt h l s).1
 | [],_=>rfl
 | t :: l,s=>by
  rw[swT,Xt]
  split
  ·rw[List.map_cons,Rn h l]
  ·exact Rn h l s
theorem Rw(h:Int):∀ (l:List TxD) (s:List ByteArray×List Zd),Yl s.2 (swT h l s)=(Xt h l s).2.2
 | [],_=>rfl
 | t :: l,s=>by
  rw[swT,Xt]
  split
  ·rw[Mo,Rw h l]
  ·exact Rw h l s
def swE(K:List ByteArray)(C:List Zd)(l:List TxD)(h:Int):Int:=
 if J2 K C h≠0 then J2 K C h else if 8<l.length then 2 else 0
theorem Tg{K:List ByteArray}{C:List Zd}{h:Int}(e:J2 K C h=0):Right K∧Yc C∧1≤h∧h≤1000:=by
 unfold J2 at e
 split at e
 ·rename_i q;exact absurd e q
 rename_i q1
 split at e
 ·rename_i q;exact absurd e q
 rename_i q2
 split at e
 ·exact absurd e (by decide)
 rename_i q3
 simp at q3
 exact⟨(Bk.right_iff K).1 (Decidable.not_not.1 q1),(Zs C).1 (Decidable.not_not.1 q2),q3.1,q3.2⟩
theorem Aj{K:List ByteArray}{C:List Zd}{l:List TxD}{h:Int}(e:swE K C l h=0):J2 K C h=0∧l.length≤8:=by
 unfold swE at e
 split at e
 ·rename_i q;exact absurd e q
 rename_i q1
 split at e
 ·exact absurd e (by decide)
 exact⟨Decidable.not_not.1 q1,by omega⟩
def Td(h n:Int)(lk:List (Int×Int)):TxD:=(h,[],[(n,lk)])
def zeroB:Zg:=(0,0,0,0,[])
def Br(h:Int)(l:List TxD)(K:List ByteArray)(C:List Zd):Int:=Zi C - Zi (Yl C ((swT h l (K,C)).take 3))
def mkE(K:List ByteArray)(C:List Zd)(l:List TxD)(p h wk n:Int)(lk:List (Int×Int)):Int×Zg:=
 if swE K C l h≠0 then (swE K C l h,zeroB) else if (rwD h).1+Br h l K C=0 then (9,zeroB) else
 if Yg (p,h,wk,n,Td h ((rwD h).1+Br h l K C) lk :: (Xt h l (K,C)).1.take 3)≠0 then (Yg (p,h,wk,n,Td h ((rwD h).1+Br h l K C) lk :: (Xt h l (K,C)).1.take 3),zeroB) else
 (0,(p,h,wk,n,Td h ((rwD h).1+Br h l K C) lk :: (Xt h l (K,C)).1.take 3))
theorem Dc(x:Zd)(a:Option Addr)(n c:Nat)(w:World):Calls Tryz.prog 81 #[cnV x a n c] w fun e w'=>e = .returned (.bool true)∧Below w.heap.size w w':=by
 unfold cnV
 have HB:=hide (bel_new w (.cells #[.int .i64 x.1,.int .i64 x.2.1,.int .i64 (cv x),.slice a n c,.int .i64 (ch x),.bool (cr x)] 124))
 go_enter Tryz.func81,Tryz.ntmps81
 go_wp2
 go_ret
 exact⟨rfl,unhide HB⟩
theorem Hq(a:Option Addr)(n c:Nat)(L:List Zd)(x s:Int)(w:World)(h:CoinsAt w a n L)(hx:Zn L=x)(hs:(if x=0 then Zi L else 0)=s) :
  Calls Tryz.prog 80 #[.slice a n c,.func (.func 81) #[] #[]] w fun e w'=>e = .returned (.tuple #[.int .i64 s,.int .i64 x])∧Below w.heap.size w w':=by
 have C1:=hide (Xv a n c L x w h hx)
 by_cases e1:x=0
 ·subst e1
  rw[if_pos rfl] at hs
  have hR:=(Zs L).1 hx
  have hn:n≤720:=by rw[←h.1];exact hR.len
  have HSB:=hide (fun k=>Qr L k (fun z hz=>by have:=Z9 (hR.one z hz);omega))
  have HL:=hide h
  have HZ:=hide h.1
  have HS:=hide hs
  clear hR h hx hs
  go_enter Tryz.func80,Tryz.ntmps80
  go_wp2_with fail
  refine (unhide C1).mono ?_
  rintro e w2 ⟨rfl,hb2⟩
  have HB2:=hide hb2
  clear hb2 C1
  go_wp2
  go_loopw [7,17] (fun sv i wr=>∃ (k:Nat) (d:Int),k≤n∧sv = .int .i64 d∧i = .int .i64 k∧Hid (d=Zi (L.take k))∧Hid (Below w.heap.size w wr)) (fun _ i _=>n - (intOf i).toNat)
  case atStart=>exact⟨0,0,Nat.zero_le _,rfl,rfl,rfl,HB2⟩
  case round=>
   obtain⟨k,d,hk,rfl,rfl,A,HB⟩:=hrel
   by_cases hlt:k<n
   ·have hlk:k<L.length:=by rw[unhide HZ];exact hlt
    obtain⟨b,off,rfl,hbl,hcell⟩:=(unhide HL).2 (by omega)
    have hin:=CoinAt.kept _ _ _ _ _ (unhide HB) (hcell k hlk)
    have b1:=(unhide HSB) k
    have b2:=(unhide HSB) (k+1)
    have hst:=Jf L k hlk
    obtain⟨y,hy⟩:∃ y,L[k]=y:=⟨_,rfl⟩
    rw[hy] at hin hst
    obtain⟨la,ln,lc,g0,g1,g2,g3,g4,g5,_,_⟩:=hin.val
    obtain⟨v,hv⟩:∃ v,cv y=v:=⟨_,rfl⟩
    have T1:=fun w=>Dc y la ln lc w
    unfold cnV at T1
    rw[hv] at g2 hst T1
    have HT1:=hide T1
    rw[←unhide A] at b1 hst
    rw[hst] at b2
    have A2:Hid (d+v=Zi (L.take (k+1))):=hst.symm
    obtain⟨X,hX⟩:∃ X,X=wr.alloc (.cells #[.int .i64 y.1,.int .i64 y.2.1,.int .i64 v,.slice la ln lc,.int .i64 (ch y),.bool (cr y)] 124):=⟨_,rfl⟩
    have hbX:Below wr.heap.size wr X:=by rw[hX];exact bel_new _ _
    have hX1:X.heap[wr.heap.size]? = some (.cells [.int .i64 y.1,.int .i64 y.2.1,.int .i64 v,.slice la ln lc,.int .i64 (ch y),.bool (cr y)].toArray 124 (0,0)):=by rw[hX];exact Xn _ _ _ _ _ _ _ _
    have m2:=Za hX1 2 _ rfl
    have HBX:=hide (bel_on (unhide HB) hbX)
    have hw1:IntKind.i64.wrap (d+v)=d+v:=by rw[IntKind.wrap_i64];omega
    clear hin hy hst A HB T1 hv hX1 hbX
    go_wp2_with fail
    rw[←hX]
    clear hX
    refine ((unhide HT1) _).mono ?_
    rintro e w3 ⟨rfl,hb3⟩
    have n2:=cell_later hb3 m2
    have hl3:=World.block_lt_of_cell? _ _ n2
    have HB3:=hide (bel_on (unhide HBX) hb3)
    clear hb3 m2
    go_wp2
    go_roundw
    case rel=>exact⟨k+1,d+v,by omega,rfl,by go_num,A2,HB3⟩
    case measure=>simp[intOf];omega
   ·have e:k=n:=by omega
    subst e
    have R:Hid (d=s):=by
     show _=_
     rw[unhide A,List.take_of_length_le (by rw[unhide HZ];exact Nat.le_refl _)]
     exact unhide HS
    clear A
    go_wp2
    go_ret2
    exact⟨by rw[←unhide R];rfl,unhide HB⟩
 ·rw[if_neg e1] at hs
  subst hs
  have g:(x != 0)=true:=by simp[e1]
  clear h hx e1
  go_enter Tryz.func80,Tryz.ntmps80
  go_wp2_with fail
  refine (unhide C1).mono ?_
  rintro e w2 ⟨rfl,hb2⟩
  have HB2:=hide hb2
  clear hb2 C1
  go_wp2
  go_ret2
  exact⟨rfl,unhide HB2⟩
theorem Hn(a:Option Addr)(n c:Nat)(L:List Zd)(x s:Int)(w:World)(h:CoinsAt w a n L)(hx:Zn L=x)(hs:(if x=0 then Zi L else 0)=s) :
  Calls Tryz.prog 25 #[.slice a n c] w fun e w'=>e = .returned (.tuple #[.int .i64 s,.int .i64 x])∧Below w.heap.size w w':=by
 have C:=hide (Hq a n c L x s w h hx hs)
 clear h hx hs
 go_enter Tryz.func25,Tryz.ntmps25
 go_wp2_with fail
 refine (unhide C).mono ?_
 rintro e w2 ⟨rfl,hb2⟩
 have HB2:=hide hb2
 clear hb2
 go_wp2
 go_ret2
 exact⟨rfl,unhide HB2⟩
theorem Po(a:Option Addr)(n c:Nat)(L:List Zd)(s:Int)(w:World)(h:CoinsAt w a n L)(hR:Yc L)(hs:Zi L=s) :
  Calls Tryz.prog 158 #[.slice a n c] w fun e w'=>e = .returned (.int .i64 s)∧Below w.heap.size w w':=by
 have C1:=hide (Hn a n c L 0 s w h ((Zs L).2 hR) (by rw[if_pos rfl];exact hs))
 clear h hR hs
 go_enter Tryz.func158,Tryz.ntmps158
 go_wp2_with fail
 refine (unhide C1).mono ?_
 rintro e w1 ⟨rfl,hb⟩
 have HB:=hide hb
 clear hb C1
 go_wp2
 go_ret
 exact⟨rfl,unhide HB⟩
end Go.Proofs.YtmomfkikogbdeaaGreatDoor
