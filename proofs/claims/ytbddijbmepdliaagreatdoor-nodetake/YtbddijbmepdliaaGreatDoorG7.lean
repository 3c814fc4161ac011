import Derived.Test.YtbddijbmepdliaaGreatDoorH
import Derived.Test.YtbddijbmepdliaaGreatDoorG6
import Derived.RangeFuncBound
import Derived.RangeFuncNested
open Option renaming none->aD,some->dG
open Go.Proofs.Tryz
open Decidable renaming not_not->bD
open Go renaming lt_of_block->aA,wp_region_held_drew->bC,heap_alloc_new->aG,wpAnyH_done->bZ,maxLen->aT,bodyPost_ret->aL,TypeId->aY
open Go.Ending renaming returned->dB
open Go.IntKind renaming wrap_i64->aP,i64->J
open Go.Obj renaming cells->dA
open Go.Proofs.Tryz renaming prog->aB,underlying3->aN
open Go.Region renaming wanted->cL
open Go.Value renaming slice->bW,int->aU,int->E,slice->F,tuple->dC,pointer->dE,bool->dF
open Go.World renaming cell?_of_block->bU,block_lt_of_cell?->aC,cell?->bF,news_of_block->bI,ownsRow->cP
open List renaming drop_eq_getElem_cons->aK,take_of_length_le->aM,length_append->bL,drop_of_length_le->bA,take_succ_eq_append_getElem->aH,length_eq_zero_iff->aJ
open List.cons renaming injEq->cE
open Nat renaming le_refl->aE,le_trans->aO,lt_of_lt_of_le->aF,zero_le->aI
open Prod.mk renaming injEq->aR
set_option maxHeartbeats 12800000
set_option maxRecDepth 10000
namespace Go.Proofs.YtbddijbmepdliaaGreatDoor
open Go.RowKit
open Tr (fnd Y7 chkTr TrOk blockE)
def Ur(K:List ByteArray)(N:List Int)(T:List Zk):List Int->List Zi->Int×List Zi
 | [],C=>(0,C)
 | x :: R,C=>if (Xf K C (fnd x N T)).1≠0 then ((Xf K C (fnd x N T)).1,[]) else Ur K N T R (Xf K C (fnd x N T)).2.1
theorem Zph{K N T}{P:List Int}{j:Nat}(hj:j<P.length)(C) :
  Ur K N T (P.drop j) C=if (Xf K C (fnd P[j] N T)).1≠0 then ((Xf K C (fnd P[j] N T)).1,[]) else Ur K N T (P.drop (j+1)) (Xf K C (fnd P[j] N T)).2.1:=by
 rw[aK hj];rfl
theorem M6{K C M}{b:Zk}{S}(h:Xf K C b=(0,M,S)):Zy M:=by
 unfold Xf at h;split at h
 ·rename_i q;injection h with h _;exact absurd h q
 rename_i q;exact Gj _ _ _ _ _ _ h (Et (bD.1 q)).1
theorem Li{K N T}:∀ (P:List Int) (C M:List Zi),Zy C->Ur K N T P C=(0,M)->Zy M
 | [],C,M,h,e=>by injection e with _ e;exact e ▸ h
 | x :: P,C,M,h,e=>by
  rw[Ur] at e;split at e
  ·rename_i q;injection e with e _;exact absurd e q
  rename_i q;exact Li P _ M (M6 (S:=(Xf K C (fnd x N T)).2.2) (Prod.ext (bD.1 q) rfl)) e
open Bk (Right nm nameR)
def doD(h:Int)(s:List ByteArray×List Zi)(t:TxD):Int×List ByteArray×List Zi:=
 if Zp t≠0 then (Zp t,s) else if t.2.1.length=0 then (4,s) else
 if (nameR s.1 (txT t)).2.2≠0 then ((nameR s.1 (txT t)).2.2,s) else
 if (apD s.2 t (nameR s.1 (txT t)).2.1 h).1≠0 then ((apD s.2 t (nameR s.1 (txT t)).2.1 h).1,s) else
 (0,(nameR s.1 (txT t)).1,(apD s.2 t (nameR s.1 (txT t)).2.1 h).2.1)
def Y0(h:Int):List TxD->List ByteArray×List Zi->List TxD×List ByteArray×List Zi
 | [],s=>([],s)
 | t :: l,s=>if (doD h s t).1=0 then (t :: (Y0 h l (doD h s t).2).1,(Y0 h l (doD h s t).2).2) else Y0 h l s
theorem Zcy{K}{s:ByteArray}(hK:Right K)(h0:(nameR K s).2.2=0):Right (nameR K s).1/\(∃ M,(nameR K s).1=K++M)/\∀ M,Right ((nameR K s).1++M)->nameR ((nameR K s).1++M) s=((nameR K s).1++M,(nameR K s).2.1,0):=by
 have e:nameR K s=nm K s:=by unfold nameR;rw[if_pos ((Bk.right_iff K).2 hK)]
 rw[e] at h0 ⊢;refine⟨Bk.nm_right hK h0,Bk.nm_grows h0,λM hM=>?_⟩;have⟨h1,h2,h3⟩:=Bk.nm_place h0;have e2:nameR ((nm K s).1++M) s=nm ((nm K s).1++M) s:=by unfold nameR;rw[if_pos ((Bk.right_iff _).2 hM)]
 have h4:=Bk.place_stays M h2;rw[e2,Bk.nm_there h3 (by rw[h4];exact h2),h4,h1]
theorem Znd{h:Int}{K C t}(hK:Right K)(h0:(doD h (K,C) t).1=0) :
  Right (doD h (K,C) t).2.1/\(∃ M,(doD h (K,C) t).2.1=K++M)/\∀ M,Right ((doD h (K,C) t).2.1++M)->doD h ((doD h (K,C) t).2.1++M,C) t=(0,(doD h (K,C) t).2.1++M,(doD h (K,C) t).2.2):=by
 by_cases q1:Zp t≠0
 ·unfold doD at h0;rw[if_pos q1] at h0;exact absurd h0 q1
 by_cases q2:t.2.1.length=0
 ·unfold doD at h0;rw[if_neg q1,if_pos q2] at h0;exact absurd (show (4:Int)=0 from h0) (by decide)
 by_cases q3:(nameR K (txT t)).2.2≠0
 ·unfold doD at h0;rw[if_neg q1,if_neg q2,if_pos q3] at h0;exact absurd h0 q3
 by_cases q4:(apD C t (nameR K (txT t)).2.1 h).1≠0
 ·unfold doD at h0;rw[if_neg q1,if_neg q2,if_neg q3,if_pos q4] at h0;exact absurd h0 q4
 have e:doD h (K,C) t=(0,(nameR K (txT t)).1,(apD C t (nameR K (txT t)).2.1 h).2.1):=by
  unfold doD;rw[if_neg q1,if_neg q2,if_neg q3,if_neg q4]
 have⟨n1,n2,n3⟩:=Zcy hK (bD.1 q3);rw[e];refine⟨n1,n2,λM hM=>?_⟩;have e2:=n3 M hM;unfold doD;rw[if_neg q1,if_neg q2];simp only;rw[e2];simp only;rw[if_neg (λr=>r rfl),if_neg q4]
theorem Gr.row{w w1:World}{S:Nat->Prop}(h:Gr w w1 S){g:Nat}(hg:S g\/w.heap.size<=g)(cs):Gr w (w1.setRow g cs) S:=
 ⟨h.os,h.tape,h.output,by rw[setRow_size];exact h.size,λi hi hn=>(setRow_other w1 g i cs (λe=>by
  subst e
  rcases hg with q|q
  ·exact hn q
  ·omega)).trans (h.block i hi hn)⟩
section
section
variable {P : Program}
end
end
theorem tk{P:Program}{ops}{Q:Exit->Act->World->Prop}{md:Region.Mode}{S:World->Prop}(i:Nat)(oi:Oper)(v){fuel:Nat}{listed:Array Bool}{a:Act}{w}(hi:ops[i]? = dG oi)
  (hy:∀ w,S w->(execOp a.eval oi).run P w = .ok (.value v) w) (hS:S w) (h:wpAnyH P md ops Q S fuel (listed.setIfInBounds i true) (a.put oi.dst v) w)
  (hQ:∀ c a w,Q (.panic c) (a.put oi.dst v) w->Q (.panic c) a w:=by exact λ_ _ _ h=>h) (hw:cL oi (yielded ops a.tmps)=true:=by rfl)
  (hs:Region.noSelect ops=true:=by kernel_rfl) (hf:Region.free md ops listed i=true:=by kernel_rfl) (hr:(Region.ready md ops listed).contains i=true:=by kernel_rfl) :
  wpAnyH P md ops Q S (fuel+1) listed a w:=wpAnyH_take hi hs hf hr hQ (Or.inl ⟨hw,hy⟩) hS h
open Go.RowKit Go.Shelf
attribute [local go_sem] Oper.semAt_some
structure KpD(n1 b c:Nat)(W W':World):Prop where
 os:W'.os=W.os
 tape:W'.tape=W.tape
 output:W'.output=W.output
 size:W.heap.size<=W'.heap.size
 block:∀ k,k<n1->k≠b->k≠c->W'.heap[k]? = W.heap[k]?
theorem KpD.refl(n1 b c:Nat)(W):KpD n1 b c W W:=⟨rfl,rfl,rfl,aE _,λ_ _ _ _=>rfl⟩
theorem KpD.trans{n1 b c:Nat}{A B C}(h:KpD n1 b c A B)(k:KpD n1 b c B C):KpD n1 b c A C:=
 ⟨k.os.trans h.os,k.tape.trans h.tape,k.output.trans h.output,aO h.size k.size,λi h1 h2 h3=>(k.block i h1 h2 h3).trans (h.block i h1 h2 h3)⟩
theorem KpD.put{n1 b c:Nat}(W:World)(l:Nat)(o:Obj)(h:n1<=l):KpD n1 b c W (W.putObj l o):=
 ⟨rfl,rfl,rfl,by simp,λk hk _ _=>World.putObj_heap_other (by omega)⟩
theorem KpD.set{n1 b c:Nat}{W W':World}(h:KpD n1 b c W W'){p:Addr}(hp:p.block=b\/p.block=c)(u):KpD n1 b c W (W'.setCell p u):=
 ⟨h.os,h.tape,h.output,by simpa[World.setCell] using h.size,λk h1 h2 h3=>(Below.heap_setCell W' p u k (λe=>by subst e;rcases hp with q|q;exact h2 q;exact h3 q)).trans (h.block k h1 h2 h3)⟩
theorem KpD.on{n1 b c:Nat}{W W1 W2:World}(h:KpD n1 b c W W1)(hb:ZD W1 W2)(hn:n1<=W1.heap.size):KpD n1 b c W W2:=
 ⟨hb.os.trans h.os,hb.tape.trans h.tape,hb.output.trans h.output,aO h.size hb.size,λk h1 h2 h3=>(hb.block k (by omega)).trans (h.block k h1 h2 h3)⟩
theorem KpD.grown{n1 b c:Nat}{W W1 W2:World}(h:KpD n1 b c W W1){row:Option Nat}(g:W1.grownBy W2 row)(hr:∀ r,row=dG r->n1<=r)(hn:n1<=W1.heap.size):KpD n1 b c W W2:=
 ⟨g.os.trans h.os,g.tape.trans h.tape,g.output.trans h.output,aO h.size g.size,λk h1 h2 h3=>(g.block k (by omega) (λe=>by have:=hr k e.symm;omega)).trans (h.block k h1 h2 h3)⟩
theorem KpD.below{n1 b c:Nat}{w W0 W:World}(h:KpD n1 b c W0 W)(hb:ZD w W0)(hn:w.heap.size<=n1)(h1:w.heap.size<=b)(h2:w.heap.size<=c):ZD w W:=
 ⟨h.os.trans hb.os,h.tape.trans hb.tape,h.output.trans hb.output,aO hb.size h.size,λk hk=>(h.block k (by omega) (by omega) (by omega)).trans (hb.block k hk)⟩
theorem KpD.cell{n1 b c:Nat}{W W':World}(h:KpD n1 b c W W'){k o:Nat}{v}(hk:k<n1)(h2:k≠b)(h3:k≠c)(hv:W.cell? ⟨k,o,aD⟩=dG v):W'.cell? ⟨k,o,aD⟩=dG v:=
 (bU (a:=⟨k,o,aD⟩) (h.block k hk h2 h3)).trans hv
def Box1(W:World)(k:Nat):Prop:=∃ v t fr,W.heap[k]? = dG (dA #[v] t fr)
theorem Box1.two{W:World}{k:Nat}(h:Box1 W k){o:Nat}{v}(h2:W.cell? ⟨k,o+1,aD⟩=dG v):False:=by
 have⟨x,t,fr,hx⟩:=h;rw[cell_of_row W k (o+1) #[x] t fr hx] at h2;simp at h2
theorem Zpu{W W':World}{S:Nat->Prop}(hk:∀ k,k<W.heap.size->¬S k->W'.heap[k]? = W.heap[k]?)(hB:∀ k,S k->Box1 W k){a n l}(h:OpsAt W a n l):OpsAt W' a n l:=by
 refine⟨h.1,λh0=>?_⟩;obtain⟨b,off,rfl,hc⟩:=h.2 h0;refine⟨b,off,rfl,λi hi=>?_⟩;have⟨c0,c1⟩:=hc i hi;have e:=hk b (aC _ _ c0) (λq=>(hB b q).two c1);exact⟨(bU (a:=⟨b,_,aD⟩) e).trans c0,(bU (a:=⟨b,_,aD⟩) e).trans c1⟩
theorem Zio{W W':World}{S:Nat->Prop}(hs:W.heap.size<=W'.heap.size)(hk:∀ k,k<W.heap.size->¬S k->W'.heap[k]? = W.heap[k]?)(hB:∀ k,S k->Box1 W k){a n L}(h:CoinsAt W a n L):CoinsAt W' a n L:=by
 refine⟨h.1,λh0=>?_⟩;obtain⟨b,off,rfl,hl,hc⟩:=h.2 h0;refine⟨b,off,rfl,aF hl hs,λi hi=>?_⟩;have⟨c0,c1,c2,⟨la,ln,lc,c3,h5,h6⟩,c4,c5⟩:=hc i hi;have e:=hk b hl (λq=>(hB b q).two c1);have g:=λ(o:Nat)=>bU (a:=⟨b,o,aD⟩) e;exact⟨(g _).trans c0,(g _).trans c1,(g _).trans c2,⟨la,ln,lc,(g _).trans c3,Zpu hk hB h5,h6⟩,(g _).trans c4,(g _).trans c5⟩
end Go.Proofs.YtbddijbmepdliaaGreatDoor
namespace Go.Proofs.YtbddijbmepdliaaGreatDoor
open Go.RowKit
theorem R5{ops:Array Oper}{i:Nat}{o:Oper}{r}(h:ops.toList.drop i=o :: r):ops[i]? = dG o:=by
 have:(ops.toList.drop i)[0]? = dG o:=by rw[h];rfl
 rw[List.getElem?_drop] at this;simpa using this
theorem tkL{P:Program}{ops:Array Oper}{Q:Exit->Act->World->Prop}{md:Region.Mode}{S:World->Prop}(i:Nat){v}{fuel:Nat}{l l':Array Bool}{a a':Act}{w}{o:Oper}{r}(hi:ops.toList.drop i=o :: r)(hS:S w)(h:wpAnyH P md ops Q S fuel l' a' w)
  (hy:∀ w,S w->(execOp a.eval o).run P w = .ok (.value v) w:=by (intro U aa;(try dsimp only at aa);(try simp only[and_assoc] at aa);(repeat (have:=aa.1;replace aa:=aa.2));(try simp only[Act.put,ZA,ZB,ZC]);go_simp;first|done|with_reducible rfl))
  (ha:a.put o.dst v=a':=by ((try simp only[Act.put,ZA,ZB,ZC]);rfl)) (hl:l.setIfInBounds i true=l':=by ((try simp only[ZA,ZB,ZC]);rfl))
  (hQ:∀ c a w,Q (.panic c) (a.put o.dst v) w->Q (.panic c) a w:=by exact λ_ _ _ h=>h) (hw:cL o (yielded ops a.tmps)=true:=by rfl)
  (hs:Region.noSelect ops=true:=by kernel_rfl) (hf:Region.free md ops l i=true:=by kernel_rfl) (hr:(Region.ready md ops l).contains i=true:=by kernel_rfl) :
  wpAnyH P md ops Q S (fuel+1) l a w:=by
 subst ha hl;exact tk i o v (R5 hi) hy hS h hQ hw hs hf hr
theorem tkU{P:Program}{ops:Array Oper}{Q:Exit->Act->World->Prop}{md:Region.Mode}{S:World->Prop}(i:Nat){fuel:Nat}{l l':Array Bool}{a a':Act}{w}{o:Oper}{r}(hi:ops.toList.drop i=o :: r)(hS:S w)(h:wpAnyH P md ops Q S fuel l' a' w)
  (ha:a.put o.dst undef=a':=by ((try simp only[Act.put,ZA,ZB,ZC]);rfl)) (hl:l.setIfInBounds i true=l':=by ((try simp only[ZA,ZB,ZC]);rfl))
  (hQ:∀ c a w,Q (.panic c) (a.put o.dst undef) w->Q (.panic c) a w:=by exact λ_ _ _ h=>h) (hw:cL o (yielded ops a.tmps)=false:=by rfl)
  (hs:Region.noSelect ops=true:=by kernel_rfl) (hf:Region.free md ops l i=true:=by kernel_rfl) (hr:(Region.ready md ops l).contains i=true:=by kernel_rfl) :
  wpAnyH P md ops Q S (fuel+1) l a w:=by
 subst ha hl;exact wpAnyH_take (R5 hi) hs hf hr hQ (Or.inr ⟨hw,rfl⟩) hS h
theorem rdY{P:Program}{ops:Array Oper}{Q:Exit->Act->World->Prop}{md:Region.Mode}{S:World->Prop}(i:Nat){fuel:Nat}{l:Array Bool}{a:Act}{w}{o:Oper}{r}(hi:ops.toList.drop i=o :: r)
  (h:∀ K':Act->World->Prop,Shut (∀ a w,S w->(S w->wpAnyH P md ops Q S fuel (l.setIfInBounds i true) a w)->K' a w)->if cL o (yielded ops a.tmps)=true then Oper.wp P o a w K' Q else K' (a.put o.dst undef) w)
  (hr:Region.ready md ops l=[i]:=by kernel_rfl):wpAnyH P md ops Q S (fuel+1) l a w:=wpAnyH_ready hr (by simp) (AllReadyH.cons (R5 hi) h AllReadyH.nil)
theorem rdC{P:Program}{ops:Array Oper}{Q:Exit->Act->World->Prop}{md:Region.Mode}{S:World->Prop}{i fuel:Nat}{l:Array Bool}{a:Act}{w}{o:Oper}{r rs}(hi:ops.toList.drop i=o :: r)
  (h:∀ K':Act->World->Prop,Shut (∀ a w,S w->(S w->wpAnyH P md ops Q S fuel (l.setIfInBounds i true) a w)->K' a w)->if cL o (yielded ops a.tmps)=true then Oper.wp P o a w K' Q else K' (a.put o.dst undef) w)
  (hs:AllReadyH P md ops Q S fuel l a w rs):AllReadyH P md ops Q S fuel l a w (i :: rs):=AllReadyH.cons (R5 hi) h hs
theorem rdS{P:Program}{ops:Array Oper}{Q:Exit->Act->World->Prop}{md:Region.Mode}{S:World->Prop}(i:Nat){fuel:Nat}{l:Array Bool}{a:Act}{w}{o:Oper}{r}(hi:ops.toList.drop i=o :: r){f:FuncId}{vs}{R:Ending->World->Prop}(hc:Calls P f vs w R)
  (h:∀ e w',R e w'->∃ v,e = dB v/\S w'/\(S w'->wpAnyH P md ops Q S fuel (l.setIfInBounds i true) (a.put o.dst v) w')) (he:(execOp a.eval o).run P w = .ok (.enter f vs) w:=by kernel_rfl) (hw:cL o (yielded ops a.tmps)=true:=by kernel_rfl) (hr:Region.ready md ops l=[i]:=by kernel_rfl):wpAnyH P md ops Q S (fuel+1) l a w:=
 rdY i hi (λ_ hK=>Zq hw f vs he hc (λe w' q=>by
  have⟨v,h1,h2,h3⟩:=h e w' q;exact⟨v,h1,hK.out _ _ h2 h3⟩)) hr
open Go.RowKit Go.Shelf
def Rb(K:List ByteArray)(C:List Zi)(h:Int):Int:=
 if Bk.bkChk K≠0 then Bk.bkChk K else if Zz C≠0 then Zz C else if (decide (1<=h) && decide (h<=1000))=false then 3 else 0
def Zog(w:World)(p:Nat)(K:List ByteArray)(C:List Zi)(h:Int):Prop:=
 ∃ ka kn kc la ln lc,w.heap[p]? = dG (dA #[F ka kn kc,F la ln lc,E J h] 201 (0,0))/\Bk.TextsAt w ka kn K/\SlOk ka kn kc/\CoinsAt w la ln C/\SlOk la ln lc
def DoT(w':World)(B p:Nat)(K:List ByteArray)(C:List Zi)(h:Int):Prop:=
 ∃ ka kn kc la ln lc,w'.heap[p]? = dG (dA [F ka kn kc,F la ln lc,E J h].toArray 201 (0,0))/\Fresh B w' (λw2=>Bk.TextsAt w2 ka kn K/\CoinsAt w2 la ln C)/\SlOk ka kn kc/\SlOk la ln lc
theorem DoT.till{w}{B p:Nat}{K C}{h:Int}(d:DoT w B p K C h):Zog w p K C h:=by
 have⟨ka,kn,kc,la,ln,lc,h1,h2,h3,h4⟩:=d;have h5:=h2 w (Gr.refl _ _);exact⟨ka,kn,kc,la,ln,lc,h1,h5.1,h3,h5.2,h4⟩
theorem DoT.on{w w':World}{B p:Nat}{K C}{h:Int}(d:DoT w B p K C h)(g:Gr w w' (λq=>q<B))(hp:w'.heap[p]? = w.heap[p]?):DoT w' B p K C h:=by
 have⟨ka,kn,kc,la,ln,lc,h1,h2,h3,h4⟩:=d;exact⟨ka,kn,kc,la,ln,lc,hp.trans h1,λw2 g2=>h2 w2 (g.trans g2),h3,h4⟩
theorem DoT.later{w w':World}{B p:Nat}{K C}{h:Int}(d:DoT w B p K C h)(hb:ZD w w'):DoT w' B p K C h:=by
 have hp:p<w.heap.size:=by have⟨ka,kn,kc,la,ln,lc,h1,_⟩:=d;exact aA h1
 exact d.on (Gr.of hb) (hb.block p hp)
theorem DoT.less{w}{B B' p:Nat}{K C}{h:Int}(d:DoT w B p K C h)(hB:B'<=B):DoT w B' p K C h:=by
 have⟨ka,kn,kc,la,ln,lc,h1,h2,h3,h4⟩:=d;exact⟨ka,kn,kc,la,ln,lc,h1,λw2 g2=>h2 w2 (g2.mono λ_ _ q=>aF q hB),h3,h4⟩
def OpR(w w':World)(x:Int)(K:List ByteArray)(C:List Zi)(h:Int)(e:Ending):Prop:=
 ((x≠0/\e = dB (dC #[dE aD,E J x]))\/(x=0/\∃ p,e = dB (dC #[dE (dG ⟨p,0,aD⟩),E J 0])/\w.heap.size<=p/\p+1=w'.heap.size/\DoT w' w.heap.size p K C h))/\ZD w w'
theorem Zlm(ka kn kc K la ln lc C)(h x:Int)(w)(hK:Bk.TextsAt w ka kn K)(hC:CoinsAt w la ln C)(sC:SlOk la ln lc)(hx:Rb K C h=x) :
  Calls aB 162 #[.agg #[F ka kn kc],F la ln lc,E J h] w λe w'=>OpR w w' x K C h e:=by
 have⟨X,hX,ax,bj⟩:=ka00 w [F ka kn kc] 24;have⟨⟨M,Z,z⟩,hz⟩:=ZF (Bk.allR K []);have C1:=Zb (Bk.all_isF ka aD kn kc 0 0 K [] M Z z X (hK.later ax) ⟨rfl,λh=>absurd h (by omega)⟩ (by omega) hz)
 have bs:z=Bk.bkChk K/\(z=0->M=K):=by
  unfold Bk.allR at hz;split at hz
  ·rename_i q;rw[Bk.nmGo] at hz;simp only[aR] at hz;exact⟨by rw[<-hz.2.2,q],λ_=>hz.1.symm⟩
  ·rename_i q;simp only[aR] at hz;exact⟨hz.2.2.symm,λe=>absurd (hz.2.2.trans e) q⟩
 unfold Rb at hx;rw[<-bs.1] at hx;have⟨y,hy⟩:=ZF (Zz C);rw[hy] at hx;have⟨g,hg⟩:=ZF ((decide (1<=h) && decide (h<=1000)));rw[hg] at hx;have⟨HZ,HX,HG,HY,HC,cz,bx,dd⟩:=kh8 bs.2 hx hg hy (hC.later ax) sC ax bj;have⟨di,xl⟩:=kc1 bj;have ca:=Zb xl;clear hK hC sC hx ax bj hz bs hy hg;go_enter func162,ntmps162;go_wp2_with fail;rw[<-hX];clear hX;(try go_wp2_with fail);refine C1.mono ?_;rintro e w1 ⟨⟨a',n',c',a2,n2,c2,rfl,hT,sT,_,_,_⟩,ab⟩;have h10:=ZE ab dd;have⟨y0,yf,yl⟩:=kf1 h10;have⟨W1,aj⟩:=ZG (w1.setCell ⟨w.heap.size,0,aD⟩ (F a' n' c'));have g1:Gr w1 W1 (λq=>q=w.heap.size):=by rw[aj];exact (Gr.refl w1 (λq=>q=w.heap.size)).set (p:=⟨w.heap.size,0,aD⟩) (.inl rfl) _
 have bh:W1.heap[w.heap.size]? = dG (dA #[F a' n' c'] 24 (0,0)):=by rw[aj];exact Uf h10
 have cf:ZD w W1:=g1.below (Zf bx ab) (Zf bx ab).size (λq e=>by omega);have bz:Hid (CoinsAt W1 la ln C):=Zio (S:=λq=>q=w.heap.size) g1.size g1.block (λk e=>by subst e;exact⟨_,_,_,h10⟩) (HC.later ab);have db:Hid (Fresh w.heap.size W1 (λw2=>Bk.TextsAt w2 a' n' M)):=λw2 g2=>hT w2 ((g1.mono (λk _ e=>by rw[e];exact ca)).trans (g2.mono (λk _ e=>Nat.lt_trans e ca)));have⟨bw,cu,da⟩:=kh3 cf bh sT;have dn:=Zb (show w.heap.size<W1.heap.size from aA bh);have C2:=Zb (Vw la ln lc C y W1 bz HY);clear ab h10 hT sT g1 bh cf di xl;by_cases bd:z=0
 ·subst bd;obtain rfl:=HZ rfl;go_wp2_with fail;rw[<-aj];clear aj y0 yf yl;(try go_wp2_with fail);refine C2.mono ?_;rintro e w2 ⟨rfl,bo⟩;have⟨bv,ct,C3⟩:=kh3 (Zf bw bo) bo (Ja h 1 1000 g w2 HG);clear bo;by_cases az:y=0
  ·subst az;go_wp2_with fail;refine C3.mono ?_;rintro e w3 ⟨rfl,bq⟩;have⟨ar,bf⟩:=kh2 (Zf bv bq) (Zf ct bq);clear bq C3;cases g
   ·have ah:Hid (x=3):=(by have:=Za HX;rw[if_neg (λq=>q rfl),if_neg (λq=>q rfl),if_pos rfl] at this;exact this.symm);go_wp2;go_ret2;rw[Za ah];exact⟨.inl ⟨by decide,rfl⟩,Za ar⟩
   ·have ah:Hid (x=0):=(by have:=Za HX;rw[if_neg (λq=>q rfl),if_neg (λq=>q rfl),if_neg (by decide)] at this;exact this.symm);have bi:=(Z6 C).1 HY;have aq:=Za bz;have dg:=aq.1;have dh:=bi.len;have CP:=Zb (λV (hv:ZD W1 V)=>Jw la ln lc C V (by omega) (aq.later hv) cz (λz hz=>by have:=Pv (Yt (bi.one z hz)).2.2.2.2.2.2.2.2;omega));have h3:=ZE bf cu;have KS:Hid (∀ V:World,ZD w3 V->V.cell? ⟨w.heap.size,0,aD⟩=dG (F a' n' c')/\w.heap.size<V.heap.size):=λV hv=>⟨Ze hv (Zd (X:=[F a' n' c']) h3 0 _ rfl),aF (aA h3) hv.size⟩;clear bi aq dg dh h3;go_wp2_with fail;refine bC (S:=λV=>V.cell? ⟨w.heap.size,0,aD⟩=dG (F a' n' c')/\w.heap.size<V.heap.size) (by kernel_rfl) (KS _ (Zj _)) (λac=>?_);refine tkL 0 rfl ac ?_;refine tkL 1 rfl ac ?_;refine tkL 3 rfl ac ?_;refine rdS 2 rfl (CP _ (Zf bf (Zj _))) ?_;rintro e V1 ⟨du,cc,rfl,hF,cl,ce⟩;have ab:ZD w3 V1:=Zf (Zj w3) ce;have aq:CoinsAt V1 du ln C:=hF _ (Gr.refl _ _);clear ac;refine⟨_,rfl,(KS _ ab),λac=>?_⟩;refine tkL 4 rfl ac ?_;refine rdY 5 rfl (λKQ hK=>?_);go_simp;have⟨V2,an⟩:=ZG (V1.alloc (dA #[F a' n' c',F du ln cc,E J h] 201));have ap:ZD V1 V2:=(by rw[an];exact Zh _ _);have h2:V2.heap[V1.heap.size]? = dG (dA #[F a' n' c',F du ln cc,E J h] 201 (0,0)):=(by rw[an];exact aG _ _);have cg:V2.heap.size=V1.heap.size+1:=(by rw[an];simp);rw[<-an];clear ac;refine hK.out _ _ (KS _ (Zf ab ap)) (λac=>?_)
    clear hK KQ;refine tkL 6 rfl ac ?_;refine tkL 7 rfl ac ?_;refine bZ (by kernel_rfl) ?_ _;clear ac;have HF:Hid (OpR w V2 0 M C h (dB (dC #[dE (dG ⟨V1.heap.size,0,aD⟩),E J 0]))):=⟨.inr ⟨rfl,V1.heap.size,rfl,aO ar.size ab.size,cg.symm,a',n',c',du,ln,cc,h2,λw2 g2=>⟨db w2 ((Gr.of (Zf bf (Zf ab ap))).trans g2),hF w2 ((Gr.of ap).trans (g2.mono (λk _ e=>aF e ar.size)))⟩,Za da,cl⟩,Zf ar (Zf ab ap)⟩;clear ap h2 cg an ab aq hF cl ce;go_wp2;go_ret2;rw[Za ah];exact Za HF
  ·have ah:Hid (x=y):=(by have:=Za HX;rw[if_neg (λq=>q rfl),if_pos az] at this;exact this.symm);have gy:(y != 0)=true:=(by simp[az]);clear C3;go_wp2;go_ret2;rw[Za ah];exact⟨.inl ⟨az,rfl⟩,Za bv⟩
 ·have ah:Hid (x=z):=by have:=Za HX;rw[if_pos bd] at this;exact this.symm
  have gz:(z != 0)=true:=by simp[bd]
  have dc:=Zb aj;clear aj;go_wp2;rw[<-Za dc];go_ret2;rw[Za ah];exact⟨.inl ⟨bd,rfl⟩,Za bw⟩
open Bk (Right nm nameR)
theorem Zna{h:Int}{K K' C C'}{t:TxD}(e:doD h (K,C) t=(0,K',C')) :
  Zp t=0/\t.2.1.length≠0/\∃ n S,nameR K (txT t)=(K',n,0)/\apD C t n h=(0,C',S):=by
 unfold doD at e;split at e
 ·rename_i q;injection e with e _;exact absurd e q
 rename_i q1;split at e
 ·injection e with e _;exact absurd (show (4:Int)=0 from e) (by decide)
 rename_i q2;split at e
 ·rename_i q;injection e with e _;exact absurd e q
 rename_i q3;split at e
 ·rename_i q;injection e with e _;exact absurd e q
 rename_i q4;injection e with _ e;injection e with e1 e2;exact⟨bD.1 q1,q2,_,_,Prod.ext e1 (Prod.ext rfl (bD.1 q3)),Prod.ext (bD.1 q4) (Prod.ext e2 rfl)⟩
theorem Zam{h:Int}{K K' C C' t}(hK:Right K)(e:doD h (K,C) t=(0,K',C')) :
  Right K'/\(∃ M,K'=K++M)/\Zy C'/\Zm C'<=Zm C/\Zp t=0:=by
 have⟨h1,h2,n,S,h3,h4⟩:=Zna e;have⟨d1,d2,_⟩:=Znd hK (show (doD h (K,C) t).1=0 by rw[e]);rw[e] at d1 d2;exact⟨d1,d2,(Rm h4).2.1,(Zoa h4).2 h2,h1⟩
def swT(h:Int):List TxD->List ByteArray×List Zi->List (TxD×List Zi)
 | [],_=>[]
 | t :: l,s=>if (doD h s t).1=0 then (t,(doD h s t).2.2) :: swT h l (doD h s t).2 else swT h l s
def Wc(C:List Zi)(X:List (TxD×List Zi)):List Zi:=(X.getLast?.map (·.2)).getD C
theorem Vy(C):Wc C []=C:=rfl
theorem Vc(C X t C'):Wc C (X++[(t,C')])=C':=by simp[Wc]
theorem Zdc(C X t C'):Wc C ((t,C') :: X)=Wc C' X:=by
 cases X with
 | nil=>rfl
 | cons y X=>
  obtain⟨z,hz⟩:∃ z,(y :: X).getLast? = dG z:=⟨_,List.getLast?_eq_some_getLast (by simp)⟩;unfold Wc;rw[List.getLast?_cons_cons,hz];rfl
theorem Kc(h:Int):∀ (l:List TxD) (s:List ByteArray×List Zi),(swT h l s).map (·.1)=(Y0 h l s).1
 | [],_=>rfl
 | t :: l,s=>by
  rw[swT,Y0];split
  ·rw[List.map_cons,Kc h l]
  ·exact Kc h l s
theorem K7(h:Int):∀ (l:List TxD) (s:List ByteArray×List Zi),Wc s.2 (swT h l s)=(Y0 h l s).2.2
 | [],_=>rfl
 | t :: l,s=>by
  rw[swT,Y0];split
  ·rw[Zdc,K7 h l]
  ·exact K7 h l s
def swE(K:List ByteArray)(C:List Zi)(l:List TxD)(h:Int):Int:=
 if Rb K C h≠0 then Rb K C h else if 8<l.length then 2 else 0
theorem Tw{K C}{h:Int}(e:Rb K C h=0):Right K/\Zy C/\1<=h/\h<=1000:=by
 unfold Rb at e;split at e
 ·rename_i q;exact absurd e q
 rename_i q1;split at e
 ·rename_i q;exact absurd e q
 rename_i q2;split at e
 ·exact absurd e (by decide)
 rename_i q3;simp at q3;exact⟨(Bk.right_iff K).1 (bD.1 q1),(Z6 C).1 (bD.1 q2),q3.1,q3.2⟩
theorem Zlu{K C}{h:Int}(hK:Right K)(hC:Zy C)(h1:1<=h)(h2:h<=1000):Rb K C h=0:=by
 unfold Rb;rw[if_neg (λq=>q ((Bk.right_iff K).2 hK)),if_neg (λq=>q ((Z6 C).2 hC)),if_neg (by simp[h1,h2])]
theorem K8{K C}{l:List TxD}{h:Int}(e:swE K C l h=0):Rb K C h=0/\l.length<=8:=by
 unfold swE at e;split at e
 ·rename_i q;exact absurd e q
 rename_i q1;split at e
 ·exact absurd e (by decide)
 exact⟨bD.1 q1,by omega⟩
def Ly(h n:Int)(lk:List (Int×Int)):TxD:=(h,[],[(n,lk)])
def Y6:Zk:=(0,0,0,0,[])
def Zmv(h:Int)(l:List TxD)(K:List ByteArray)(C:List Zi):Int:=Zm C - Zm (Wc C ((swT h l (K,C)).take 3))
def mkE(K:List ByteArray)(C:List Zi)(l:List TxD)(p h wk n:Int)(lk:List (Int×Int)):Int×Zk:=
 if swE K C l h≠0 then (swE K C l h,Y6) else if (rwD h).1+Zmv h l K C=0 then (9,Y6) else
 if Yu (p,h,wk,n,Ly h ((rwD h).1+Zmv h l K C) lk :: (Y0 h l (K,C)).1.take 3)≠0 then (Yu (p,h,wk,n,Ly h ((rwD h).1+Zmv h l K C) lk :: (Y0 h l (K,C)).1.take 3),Y6) else
 (0,(p,h,wk,n,Ly h ((rwD h).1+Zmv h l K C) lk :: (Y0 h l (K,C)).1.take 3))
theorem Zfx(x:Zi)(a)(n c:Nat)(w:World):ZH 271 #[cnV x a n c] w (dF true):=by
 unfold cnV;have HB:=Zb (Zh w (dA #[E J x.1,E J x.2.1,E J (cv x),F a n c,E J (ch x),dF (cr x)] 162));go_enter func271,ntmps271;go_wp2;go_ret;exact⟨rfl,Za HB⟩
theorem Bw(a n c L)(x s:Int)(w:World)(h:CoinsAt w a n L)(hx:Zz L=x)(hs:(if x=0 then Zm L else 0)=s) :
  ZH 104 #[F a n c,.func (.func 271) #[] #[]] w (dC #[E J s,E J x]):=by
 have C1:=Zb (Vw a n c L x w h hx);by_cases e1:x=0
 ·subst e1;rw[if_pos rfl] at hs;have hR:=(Z6 L).1 hx;have hn:n<=720:=by rw[<-h.1];exact hR.len
  have ah:=Zb (λk=>Je L k (λz hz=>by have:=Yt (hR.one z hz);omega));have⟨HL,HZ,HS⟩:=kh3 h h.1 hs;go_enter func104,ntmps104;go_wp2_with fail;refine C1.mono ?_;rintro e w2 ⟨rfl,af⟩;have ad:=Zb af;go_wp2
  go_loopw [7,17] (λsv i wr=>∃ (k:Nat) (d:Int),k<=n/\sv = E J d/\i = E J k/\Hid (d=Zm (L.take k))/\Hid (ZD w wr)) (λ_ i _=>n - (intOf i).toNat)
  case atStart=>exact⟨0,0,aI _,rfl,rfl,rfl,ad⟩
  case round=>
   obtain⟨k,d,hk,rfl,rfl,A,HB⟩:=hrel;by_cases bi:k<n
   ·have an:k<L.length:=(by rw[Za HZ];exact bi);obtain⟨b,off,rfl,bv,bh⟩:=HL.2 (by omega);have am:=CoinAt.kept _ _ _ _ _ HB (bh k an);have b1:=ah k;have b2:=ah (k+1);have aa:=Rq L k an;have⟨y,hy⟩:=ZF (L[k]);rw[hy] at am aa;have⟨la,ln,lc,g0,g1,g2,g3,g4,g5,_,_⟩:=am.val;have⟨v,hv⟩:=ZF (cv y);have T1:=λw=>Zfx y la ln lc w;unfold cnV at T1;rw[hv] at g2 aa T1;have ay:=Zb T1;rw[<-Za A] at b1 aa;rw[aa] at b2;have A2:Hid (d+v=Zm (L.take (k+1))):=aa.symm;have⟨X,hX,bg,bf⟩:=ka00 wr [E J y.1,E J y.2.1,E J v,F la ln lc,E J (ch y),dF (cr y)] 162;have m2:=Zd bf 2 _ rfl;have av:=Zb (Zf HB bg);have bz:IntKind.i64.wrap (d+v)=d+v:=(by rw[aP];omega);go_wp2_with fail;rw[<-hX];refine (ay _).mono ?_;rintro e w3 ⟨rfl,al⟩;have n2:=Ze al m2;have bx:=aC _ _ n2;have au:=Zb (Zf av al);go_wp2;go_roundw
    case rel=>exact⟨k+1,d+v,by omega,rfl,by go_num,A2,au⟩
    case measure=>simp[intOf];omega
   ·have e:k=n:=(by omega);subst e
    have R:Hid (d=s):=by
     show _=_;rw[Za A,aM (by rw[Za HZ];exact aE _)];exact Za HS
    go_wp2;go_ret2;exact⟨by rw[<-Za R];rfl,Za HB⟩
 ·rw[if_neg e1] at hs;subst hs;have g:(x != 0)=true:=by simp[e1]
  go_enter func104,ntmps104;go_wp2_with fail;refine C1.mono ?_;rintro e w2 ⟨rfl,af⟩;have ad:=Zb af;go_wp2;go_ret2;exact⟨rfl,Za ad⟩
theorem Zjo(a n c L)(x s:Int)(w:World)(h:CoinsAt w a n L)(hx:Zz L=x)(hs:(if x=0 then Zm L else 0)=s) :
  ZH 252 #[F a n c] w (dC #[E J s,E J x]):=by
 have C:=Zb (Bw a n c L x s w h hx hs);go_enter func252,ntmps252;go_wp2_with fail;refine C.mono ?_;rintro e w2 ⟨rfl,ab⟩;have aa:=Zb ab;go_wp2;go_ret2;exact⟨rfl,Za aa⟩
theorem Dx(a n c L)(s:Int)(w:World)(h:CoinsAt w a n L)(hR:Zy L)(hs:Zm L=s) :
  ZH 207 #[F a n c] w (E J s):=by
 have C1:=Zb (Zjo a n c L 0 s w h ((Z6 L).2 hR) (by rw[if_pos rfl];exact hs));clear h hR hs;go_enter func207,ntmps207;go_wp2_with fail;refine C1.mono ?_;rintro e w1 ⟨rfl,hb⟩;have HB:=Zb hb;clear hb;go_wp2;go_ret;exact⟨rfl,Za HB⟩
def DoR(w w':World)(p:Nat)(x:Int)(K:List ByteArray)(C:List Zi)(h f:Int)(e:Ending):Prop:=
 (x≠0/\e = dB (dC #[E J 0,E J x])/\ZD w w') \/
 (x=0/\e = dB (dC #[E J f,E J 0])/\Gr w w' (λq=>q=p)/\DoT w' w.heap.size p K C h)
theorem DoR.err{w w':World}{p:Nat}{x y:Int}{K C}{h f:Int}(h0:y≠0)(hx:x=y)(hb:ZD w w'):DoR w w' p x K C h f (dB (dC #[E J 0,E J y])):=by
 subst hx;exact .inl ⟨h0,rfl,hb⟩
def Zrt(V wx:World)(M:List Zi)(s9:Value):Prop:=
 ∃ am nm cm,s9 = F am nm cm/\Fresh V.heap.size wx (λw2=>CoinsAt w2 am nm M)/\SlOk am nm cm/\ZD V wx
theorem Zar{V W wx:World}{M}{Z:Nat}{am nm cm}(hF:Fresh Z W (λw2=>CoinsAt w2 am nm M))(hZ:V.heap.size<=Z)(hs:SlOk am nm cm)(hb:ZD V W)(hg:Gr W wx (λq=>q<Z/\V.heap.size<=q)):Zrt V wx M (F am nm cm):=
 ⟨am,nm,cm,rfl,λw2 g2=>hF w2 ((hg.mono (λ_ _ q=>q.1)).trans (g2.mono (λ_ _ q=>aF q hZ))),hs,hg.below hb hb.size (λ_ q=>q.2)⟩
theorem Zsa(p:Nat)(K C)(h th:Int)(ai ao ni ci no co I O)(x:Int)(K' C' w)(hE:Env w)(hT:Zog w p K C h)(ca:Zy C)(hI:InsAt w ai ni I)(hO:OutsAt w ao no O)(sI:SlOk ai ni ci)(hx:doD h (K,C) (th,I,O)=(x,K',C')) :
  Calls aB 163 #[dE (dG ⟨p,0,aD⟩),.agg #[E J th,F ai ni ci,F ao no co]] w λe w'=>DoR w w' p x K' C' h (Zm C - Zm C') e:=by
 have⟨ka,kn,kc,la,ln,lc,hp,hK,sK,hC,sC⟩:=hT;have⟨X,hX,bq,cx⟩:=ka00 w [E J th,F ai ni ci,F ao no co] 50;have er:I.length=ni:=hI.1;have⟨x1,dd⟩:=ZF (Zp (th,I,O));have⟨T,ct⟩:=ZF (txT (th,I,O));have⟨⟨K1,nm,x2⟩,de⟩:=ZF (Bk.nameR K T);have⟨⟨x3,M,S⟩,ce⟩:=ZF (apD C (th,I,O) nm h);unfold doD at hx;simp only[dd,ct,de,ce,er] at hx;have cl:=Zb (λV (hv:ZD X V)=>(show V.heap[w.heap.size]? = dG (dA [E J th,F ai ni ci,F ao no co].toArray 50 (0,0)) from ZE hv cx));have bd:=Zb (λV (hv:ZD w V)=>(show V.heap[p]? = dG (dA [F ka kn kc,F la ln lc,E J h].toArray 201 (0,0)) from ZE hv hp));have dc:p<w.heap.size:=aA hp;have C1:=Zb (Kx th ai ao ni ci no co I O T x1 X (hE.later bq) (hI.later bq) (hO.later bq) sI dd ct);have C2:=Zb (λV (hv:ZD w V)=>Bk.name_fresh ka kn kc K K1 T nm x2 V (hK.later hv) de);have C3:=Zb (λV (hv:ZD w V)=>Ht la ln lc C th ai ao ni ci no co I O nm h x3 M S V (hC.later hv) sC (hI.later hv) (hO.later hv) sI ce)
 have cq:Hid (x3=0->Zy M/\Zm M<=1000000000/\0<=Zm M):=λq=>by
  subst q;have r:=(Rm ce).2.1;exact⟨r,r.sum,Vf M (λc hc=>by have:=Yt (r.one c hc);omega)⟩
 obtain⟨s1,br⟩:∃ s,Zm C=s:=⟨_,rfl⟩;have b1:s1<=1000000000:=by rw[<-br];exact ca.sum
 have b2:0<=s1:=by rw[<-br];exact Vf C (λc hc=>by have:=Yt (ca.one c hc);omega)
 have C4:=Zb (λV (hv:ZD w V)=>Dx la ln lc C s1 V (hC.later hv) ca br);have⟨HX,ea,ee⟩:=kh3 hx bq br;have⟨t0,t1,t2,tl⟩:=kc3 cx;go_enter func163,ntmps163;go_wp2_with fail;rw[<-hX];clear hX;(try go_wp2_with fail);refine C1.mono ?_;rintro e w1 ⟨rfl,bh⟩;have h10:=cl _ bh;have⟨t0,t1,t2,tl⟩:=kc3 h10;have⟨ag,dx⟩:=kh2 (Zf ea bh) bh;clear bh h10;by_cases e1:x1=0
 ·subst e1;by_cases e2:ni=0
  ·subst e2;have ae:Hid (x=4):=(by have:=Za HX;rw[if_neg (λq=>q rfl),if_pos rfl] at this;injection this with this _;exact this.symm);go_wp2;go_ret2;exact DoR.err (by decide) ae ag
  have gy:((ni:Int) == 0)=false:=by simp;omega
  have fv:¬((ni:Int)=0):=by omega
  have p1:=bd _ ag;have⟨q0,q1,q2,ql⟩:=kc3 p1;clear p1;go_wp2_with fail;refine (C2 _ ag).mono ?_;rintro e w2 ⟨⟨ka',kn',kc',rfl,cn,di⟩,bi⟩;have⟨cg,eb,eg⟩:=kh3 (Zf ag bi) cn di;have gb:w1.heap.size<=w2.heap.size:=bi.size;have⟨V,hV,bo,cu⟩:=ka00 w2 [F ka' kn' kc'] 24;have⟨ah,dy,ei,dw⟩:=kh4 (Zf cg bo) bo cu (Zf dx (Zf bi bo));clear bi cn di bo cu q0 q1 q2 ql t0 t1 t2 tl;have⟨fj,fk,fl,fm⟩:=kc3 (cl _ dw);have⟨gg,fb,fc,fd⟩:=kc3 (bd _ ah);by_cases e3:x2=0
  ·subst e3
   go_upto_region 9 with fail
   rw[<-hV];clear hV;have⟨el,ek⟩:=kh2 (Zf ah (Zj V)) (Zf (Zf ah (Zh V (dA #[F aD 0 0] 123))) (Zj _));have v0:(V.alloc (dA #[F aD 0 0] 123)).drew.heap[V.heap.size]? = dG (dA #[F aD 0 0] 123 (0,0)):=Xj V (F aD 0 0) 123;have ej:=Zb v0;clear v0;have KS:Hid (∀ U:World,ZD V U->((U.cell? ⟨p,1,aD⟩=dG (F la ln lc)/\U.cell? ⟨p,2,aD⟩=dG (E J h)/\p<U.heap.size)/\U.cell? ⟨w.heap.size,0,aD⟩=dG (E J th)/\U.cell? ⟨w.heap.size,1,aD⟩=dG (F ai ni ci)/\U.cell? ⟨w.heap.size,2,aD⟩=dG (F ao no co)/\w.heap.size<U.heap.size)):=λU hu=>⟨⟨Ze hu fb,Ze hu fc,aF fd hu.size⟩,Ze hu fj,Ze hu fk,Ze hu fl,aF fm hu.size⟩
   go_cut [5,9,10] from 36 to 50 (λs5 s9 gu wx=>s5 = E J x3/\Hid (Zrt V wx M s9))
   case first=>
    refine bC (S:=λU=>(U.cell? ⟨p,1,aD⟩=dG (F la ln lc)/\U.cell? ⟨p,2,aD⟩=dG (E J h)/\p<U.heap.size)/\U.cell? ⟨w.heap.size,0,aD⟩=dG (E J th)/\U.cell? ⟨w.heap.size,1,aD⟩=dG (F ai ni ci)/\U.cell? ⟨w.heap.size,2,aD⟩=dG (F ao no co)/\w.heap.size<U.heap.size) (by kernel_rfl) (KS _ (Zj _)) (λaa=>?_);refine tkL 0 rfl aa ?_;refine tkL 1 rfl aa ?_;refine tkL 2 rfl aa ?_;refine tkL 3 rfl aa ?_;refine tkL 4 rfl aa ?_;refine tkL 5 rfl aa ?_;refine tkL 6 rfl aa ?_;refine tkL 7 rfl aa ?_;refine tkL 8 rfl aa ?_;refine tkL 9 rfl aa ?_;refine wpAnyH_ready (rs:=[10,15]) (by kernel_rfl) (by simp) ?_;refine rdC rfl (λKQ hK=>?_) (rdC rfl (λKQ hK=>?_) AllReadyH.nil)
    ·refine Zq (by kernel_rfl) 123 #[F la ln lc,.agg #[E J th,F ai ni ci,F ao no co],E J nm,E J h] (by kernel_rfl) (C3 V.drew el) ?_;rintro e w5 ⟨am,au,cm,sa,ns,cs,rfl,ap,az,-,-,al⟩;refine⟨_,rfl,?_⟩;have hb:ZD V w5:=Zf (Zj V) al;clear aa;refine hK.out _ _ (KS _ hb) (λaa=>?_);clear hK KQ;refine tkL 11 rfl aa ?_;refine tkL 12 rfl aa ?_;refine tkL 13 rfl aa ?_;refine tkL 14 rfl aa ?_;refine rdY 15 rfl (λKQ hK=>?_);go_simp;clear aa;refine hK.out _ _ (KS _ (Zf hb (Zh _ _))) (λaa=>?_);clear hK KQ;refine tkL 16 rfl aa ?_;refine rdY 17 rfl (λKQ hK=>?_);go_simp;clear aa;refine hK.out _ _ (KS _ (Zf hb (Zh _ _))) (λaa=>?_);clear hK KQ;refine tkL 18 rfl aa ?_;refine bZ (by kernel_rfl) ?_ _;clear aa;go_wp2_with fail;go_meet
     case rel=>exact⟨rfl,Zar ap (aE _) az hb (Gr.of (Zh _ _))⟩
    ·go_simp;have⟨v6,bs⟩:=ZG ((V.alloc (dA #[F aD 0 0] 123)).drew);have h6:=Za ej;have cy:=Za ek;rw[<-bs] at h6 cy;rw[<-bs];have aw:ZD V v6:=(by rw[bs];exact Zf (Zh _ _) (Zj _));have gc:v6.heap.size=V.heap.size+1:=(by rw[bs];simp);refine hK.out _ _ (KS _ aw) (λaa=>?_);refine rdS 10 rfl (C3 v6 cy) ?_;rintro e w5 ⟨am,au,cm,sa,ns,cs,rfl,ap,az,-,-,al⟩;have hb:ZD V w5:=Zf aw al;have h5:=ZE al h6;have u50:=Zd (X:=[F aD 0 0]) h5 0 _ rfl;have gw:=Zg h5 0;have gx:=aA h5;refine⟨_,rfl,(KS _ hb),λaa=>?_⟩;refine tkL 11 rfl aa ?_;refine tkL 12 rfl aa ?_;refine tkL 13 rfl aa ?_;refine tkL 14 rfl aa ?_;refine tkL 16 rfl aa ?_;refine rdY 17 rfl (λKQ hK=>?_);go_simp;refine hK.out _ _ (KS _ (hb.setCell (p:=⟨V.heap.size,0,aD⟩) (aE _) _)) (λaa=>?_);refine tkL 18 rfl aa ?_;refine bZ (by kernel_rfl) ?_ _;go_wp2_with fail;go_meet
     case rel=>exact⟨rfl,Zar ap (by omega) az hb ((Gr.refl w5 _).one V.heap.size 0 (.inl ⟨by omega,aE _⟩) _)⟩
   case rest=>
    obtain⟨rfl,hc⟩:=hcut;obtain⟨am,au,cm,rfl,ap,az,al⟩:=Za hc;have cz:=Zf ah al;have⟨bx,cj,ec,eh⟩:=kh4 cz al ap az;have p5:=bd _ cz;have⟨gh,gi,gj,gl⟩:=kc3 p5;have CM:=Zb (λU (hu:ZD wc U) (h0:x3=0) s2 (hs:Zm M=s2)=>Dx am au cm M s2 U ((ap wc (Gr.refl _ _)).later hu) (cq h0).1 hs);by_cases e4:x3=0
    ·have⟨fz,eo,ep⟩:=cq e4;have⟨s2,cc⟩:=ZF (Zm M);rw[cc] at eo ep;have dv:=Zb (λU hu=>CM U hu e4 s2 cc);have ef:=Zb cc;have ae:Hid (x=0/\K'=K1/\C'=M):=(by have:=Za HX;rw[if_neg (λq=>q rfl),if_neg e2,if_neg (λq=>q rfl),if_neg (λq=>q e4)] at this;injection this with h1 h2;injection h2 with h2 h3;exact⟨h1.symm,h2.symm,h3.symm⟩);subst e4;have C5:=Zb (C4 wc bx);go_wp2_with fail;refine C5.mono ?_;rintro e w6 ⟨rfl,aw⟩;have⟨C6,dz⟩:=kh2 (dv w6 aw) aw;go_wp2_with fail;refine C6.mono ?_;rintro e w7 ⟨rfl,eq⟩;have bj:=Zf dz eq;have da:=Zf bx bj;have p7:=bd _ da;have⟨gm,gn,gp,gq,gs⟩:=kf2 p7;have k7:=ZE (Zf cj bj) ei;have⟨gd,gf⟩:=kc1 k7;have es:p≠w2.heap.size:=(by have:=cg.size;omega);have ga:w2.heap.size≠p:=λq=>es q.symm;have G7:Gr w7 ((w7.setCell ⟨p,0,aD⟩ (F ka' kn' kc')).setCell ⟨p,1,aD⟩ (F am au cm)) (λq=>q=p):=((Gr.refl w7 (λq=>q=p)).one p 0 (.inl rfl) _).one p 1 (.inl rfl) _
     have ed:Hid (DoR w ((w7.setCell ⟨p,0,aD⟩ (F ka' kn' kc')).setCell ⟨p,1,aD⟩ (F am au cm)) p x K' C' h (Zm C - Zm C') (dB (dC #[E J (s1 - s2),E J 0]))):=by
      obtain⟨rfl,rfl,rfl⟩:=Za ae;rw[Za ee,Za ef];refine .inr ⟨rfl,rfl,(Gr.of da).trans G7,ka',kn',kc',am,au,cm,Tr.set_cells (Tr.set_cells p7 0 _) 1 _,λW g2=>⟨eb W ?_,ec W ?_⟩,Za eg,Za eh⟩
      ·exact ((Gr.of (Zf dy (Zf cj bj))).trans (G7.mono (λq _ e=>by rw[e];exact aF dc ag.size))).trans (g2.mono (λq _ e=>aF e ag.size))
      ·exact ((Gr.of bj).trans (G7.mono (λq _ e=>by rw[e];exact aF dc ah.size))).trans (g2.mono (λq _ e=>aF e ah.size))
     go_wp2;go_ret2;exact Za ed
    ·have fy:(x3 != 0)=true:=(by simp[e4]);have ae:Hid (x=x3):=(by have:=Za HX;rw[if_neg (λq=>q rfl),if_neg e2,if_neg (λq=>q rfl),if_pos e4] at this;injection this with this _;exact this.symm);go_wp2;go_ret2;exact DoR.err e4 ae bx
  ·have fx:(x2 != 0)=true:=(by simp[e3]);have ae:Hid (x=x2):=(by have:=Za HX;rw[if_neg (λq=>q rfl),if_neg e2,if_pos e3] at this;injection this with this _;exact this.symm);go_wp2;rw[<-hV];go_ret2;exact DoR.err e3 ae ah
 ·have fw:(x1 != 0)=true:=by simp[e1]
  have ae:Hid (x=x1):=by have:=Za HX;rw[if_pos e1] at this;injection this with this _;exact this.symm
  go_wp2;go_ret2;exact DoR.err e1 ae ag
structure Ztk(f:Nat)(caps:Array Value)(w0:World)(C0:List Zi)(D0:Nat->Prop)(I:Nat->(Nat->Prop)->World->List (TxD×List Zi)->Prop):Prop where
 enters:∀ args w,(callFunc f args).run aB w = .ok (.enter f args) w
 start:∀ p w,ZD w0 w->w0.heap.size<=p->p<w.heap.size->I p D0 w []
 dirty:∀ p D w X,I p D w X->∀ q,D q->q≠p/\q<w.heap.size/\(D0 q\/w0.heap.size<=q)
 on:∀ p D w w' X,I p D w X->Gr w w' (λq=>q=p)->I p D w' X
 call:∀ p D wA w X t C' u0 u1 u2,I p D wA X->ZD wA w->Fresh wA.heap.size w (λw2=>Tr.txR.C w2 [u0,u1,u2] t)->Zy (Wc C0 X)->Zy C'->Zm C'<=Zm (Wc C0 X)->X.length<8 ->
  Calls aB f (#[.agg #[u0,u1,u2],E J (Zm (Wc C0 X) - Zm C')]++caps) w λe w'=>e = dB (dC #[])/\Gr w w' D/\∃ D',I p D' w' (X++[(t,C')])
def SwR(w w':World)(x:Int)(D0:Nat->Prop)(K:List ByteArray)(C:List Zi)(h:Int)(I:Nat->(Nat->Prop)->World->List (TxD×List Zi)->Prop)(X:List (TxD×List Zi))(e:Ending):Prop:=
 (x≠0/\e = dB (dC #[dE aD,E J x])/\ZD w w') \/
 (x=0/\∃ p D,e = dB (dC #[dE (dG ⟨p,0,aD⟩),E J 0])/\w.heap.size<=p/\Gr w w' D0/\DoT w' w.heap.size p K C h/\I p D w' X)
structure SwS(w0 wr:World)(h:Int)(D0:Nat->Prop)(I:Nat->(Nat->Prop)->World->List (TxD×List Zi)->Prop)(s0:List ByteArray×List Zi)(L:List TxD)(p k:Nat):Prop where
 gr:Gr w0 wr D0
 all:∃ B D K C X,w0.heap.size<=B/\DoT wr B p K C h/\I p D wr X/\Bk.Right K/\Zy C/\Wc s0.2 X=C/\X.length<=k/\swT h L s0=X++swT h (L.drop k) (K,C)/\(Y0 h L s0).2=(Y0 h (L.drop k) (K,C)).2
theorem Gr.far{w w1 w2:World}{S T:Nat->Prop}(h:Gr w w1 S)(k:Gr w1 w2 T)(hT:∀ q,T q->w.heap.size<=q\/S q):Gr w w2 S:=
 ⟨k.os.trans h.os,k.tape.trans h.tape,k.output.trans h.output,aO h.size k.size,λi hi hn=>(k.block i (aF hi h.size) (λq=>by
  rcases hT i q with q|q
  ·omega
  ·exact hn q)).trans (h.block i hi hn)⟩
theorem Zrw{h:Int}{L:List TxD}{k:Nat}(hk:k<L.length)(s:List ByteArray×List Zi):swT h (L.drop k) s=if (doD h s L[k]).1=0 then (L[k],(doD h s L[k]).2.2) :: swT h (L.drop (k+1)) (doD h s L[k]).2 else swT h (L.drop (k+1)) s:=by
 rw[aK hk,swT]
theorem Zoz{h:Int}{L:List TxD}{k:Nat}(hk:k<L.length)(s:List ByteArray×List Zi):(Y0 h (L.drop k) s).2=if (doD h s L[k]).1=0 then (Y0 h (L.drop (k+1)) (doD h s L[k]).2).2 else (Y0 h (L.drop (k+1)) s).2:=by
 rw[aK hk,Y0];split <;> rfl
theorem Ds(f:Nat)(caps)(D0:Nat->Prop)(I:Nat->(Nat->Prop)->World->List (TxD×List Zi)->Prop)(ka kn kc K la ln lc C a m c L)(h x:Int)(w)
  (hk:Ztk f caps w C D0 I) (ar:World) (dw:∀ V,Gr w V D0->ZD ar V) (hE:Env ar) (hK:Bk.TextsAt ar ka kn K) (hC:CoinsAt ar la ln C) (sC:SlOk la ln lc) (hL:TxsAt ar a m L) (hx:swE K C L h=x) :
  Calls aB 125 #[.agg #[F ka kn kc],F la ln lc,F a m c,E J h,.func (.func f) #[] caps] w λe w'=>SwR w w' x D0 (Y0 h L (K,C)).2.1 (Y0 h L (K,C)).2.2 h I (swT h L (K,C)) e:=by
 have⟨X,hX,dq,fe⟩:=ka00 w [F ka kn kc] 24;have⟨x1,ce⟩:=ZF (Rb K C h);have dn:L.length=m:=hL.1;have dx:=dw X (Gr.of dq);have C1:=Zb (Zlm ka kn kc K la ln lc C h x1 X (hK.later dx) (hC.later dx) sC ce);unfold swE at hx;rw[ce,dn] at hx;have⟨HK,HE,HL,ct,HX,er,cx,cm⟩:=kh8 hk hE hL dw hx ce dn dq;have⟨t0,tl⟩:=kc1 fe;go_enter func125,ntmps125;go_wp2_with fail;rw[<-hX];(try go_wp2_with fail);refine C1.mono ?_;rintro e w1 ⟨hr,fh⟩;have au:=Zb (Zf cm fh);have dd:=Zb cm.size
 rcases hr with ⟨h0,rfl⟩|⟨h0,p,rfl,fp,gd,hd⟩
 ·have gx:(x1 != 0)=true:=by simp[h0]
  have al:Hid (x=x1):=by have:=Za HX;rw[if_pos h0] at this;exact this.symm
  go_wp2;go_ret2;rw[Za al];exact .inl ⟨h0,rfl,Za au⟩
 ·subst h0;have⟨eg,bo⟩:=kh2 (hd.less dd) (aO dd fp);have eo:=Zb (show p<w1.heap.size by omega);by_cases e8:8<m
  ·have g8:(8:Int)<(m:Int):=(by omega);have al:Hid (x=2):=(by have:=Za HX;rw[if_neg (λq=>q rfl),if_pos e8] at this;exact this.symm);go_wp2;go_ret2;rw[Za al];exact .inl ⟨by decide,rfl,Za au⟩
  ·have g8:¬(8:Int)<(m:Int):=(by omega);have gc:m<=8:=(by omega);have al:Hid (x=0):=(by have:=Za HX;rw[if_neg (λq=>q rfl),if_neg e8] at this;exact this.symm);have⟨hR,bd,_,_⟩:=Tw er;have ST:Hid (SwS w w1 h D0 I (K,C) L p 0):=⟨Gr.of au,w.heap.size,D0,K,C,[],aE _,Za eg,HK.start p w1 au bo eo,hR,bd,rfl,aE _,rfl,rfl⟩;go_wp2
   go_loopw [33] (λi wr=>∃ k:Nat,k<=m/\i = E J k/\Hid (SwS w wr h D0 I (K,C) L p k)) (λi _=>m - (intOf i).toNat)
   case atStart=>exact⟨0,aI _,rfl,ST⟩
   case round=>
    obtain⟨k,hk,rfl,HS⟩:=hrel;by_cases fo:k<m
    ·have⟨hg,B,D,Kk,Ck,Xs,hB,hd,hI,hR,bd,aq,ff,aa,ab⟩:=Za HS;have ad:=ct wr hg;have cc:k<L.length:=(by rw[Za cx];exact fo);obtain⟨b,off,rfl,ds,fs⟩:=HL.2 (by omega);have⟨c0,⟨ai,ni,ci,c1,ay,ea⟩,ao,no,co,c2,az,fv⟩:=fs k cc;have c0:=Ze ad c0;have c1:=Ze ad c1;have c2:=Ze ad c2;have ds:b<wr.heap.size:=aF ds ad.size;rw[Zrw cc] at aa;rw[Zoz cc] at ab;have⟨t,ht⟩:=ZF (L[k]);rw[ht] at aa ab c0 ay az;have⟨th,tI,tO⟩:=t;simp only at c0 ay az;have⟨⟨y,K',C'⟩,hy⟩:=ZF (doD h (Kk,Ck) (th,tI,tO));rw[hy] at aa ab;simp only at aa ab;have⟨Y,hY,an,dp⟩:=ka00 wr [E J th,F ai ni ci,F ao no co] 50;have CD:=Zb (Zsa p Kk Ck h th ai ao ni ci no co tI tO y K' C' Y (HE.later (Zf ad an)) (hd.later an).till bd (ay.later (Zf ad an)) (az.later (Zf ad an)) ea hy);have⟨y0,y1,y2,yl⟩:=kc3 dp;have⟨HG,HB,cp,HI,da,cz,cw,br⟩:=kh8 hg hB hd hI hR bd aq ff;have⟨dc,cq,bh,de,cu,cy,ep,eq⟩:=kh8 aa ab an dp ay az ea fv;have HY:=Zb hy;go_wp2_with fail;rw[<-hY];(try go_wp2_with fail);refine CD.mono ?_;rintro e w2 fm
     rcases fm with ⟨n0,rfl,fi⟩|⟨n0,rfl,dt,fj⟩
     ·have gy:(y == 0)=false:=(by simp[n0]);have gb:¬y=0:=n0;have bz:=Zf bh fi
      have bs:Hid (SwS w w2 h D0 I (K,C) L p (k+1)):=by
       refine⟨HG.on bz,B,D,Kk,Ck,Xs,Za HB,cp.later bz,HK.on p D wr w2 Xs HI (Gr.of bz),Za da,Za cz,Za cw,Nat.le_succ_of_le br,?_,?_⟩
       ·have:=Za dc;rw[if_neg n0] at this;exact this
       ·have:=Za cq;rw[if_neg n0] at this;exact this
      go_wp2;go_roundw
      case rel=>exact⟨k+1,by omega,by go_num,bs⟩
      case measure=>simp[intOf];omega
     ·subst n0;have fk:=Zam da HY;have⟨f1,_,f3,f4,f5⟩:=fk;have sm:=Tr.tx_small f5;have⟨ej,ek,fx⟩:=kh3 f1 f3 f4;have du:Gr wr w2 (λq=>q=p):=(Gr.of bh).trans dt;have fl:=HK.dirty p D wr Xs HI;have dl:=HK.on p D wr w2 Xs HI du;have gf:p<wr.heap.size:=(by have⟨_,_,_,_,_,_,hh,_⟩:=Za cp;exact aA hh);have dv:Gr w w2 D0:=HG.far du (λq e=>.inl (by rw[e];exact Za bo));have dr:=ct w2 dv;have CT:=Zb (Tr.clTx_is th ai ao ni ci no co tI tO w2 (cu.later dr) (cy.later dr) ep eq (by rw[<-(Za cu).1];exact sm.1) (by rw[<-(Za cy).1];exact sm.2.1) sm.2.2.1 sm.2.2.2);have h20:=(dt.block _ (aA de) (by intro q;have q:wr.heap.size=p:=q;omega)).trans de;have⟨z0,z1,z2,zl⟩:=kc3 h20;have⟨el,eh,fy,cn⟩:=kh4 dv fl dl fj;have df:=Zb bh.size;have aq:Wc C Xs=Ck:=Za cw;have cj:=Zb (λw3 (be:ZD w2 w3) a1 c1 a2 c2 (bw:Fresh w2.heap.size w3 (λW=>Tr.txR.C W [E J th,F a1 ni c1,F a2 no c2] (th,tI,tO)))=>HK.call p D w2 w3 Xs (th,tI,tO) C' _ _ _ dl be bw (by rw[aq];exact Za cz) f3 (by rw[aq];exact f4) (by have:=Za br;omega));rw[aq] at cj;go_wp2_with fail;refine CT.mono ?_;rintro e w3 ⟨a1,c1,a2,c2,rfl,bw,be⟩;have⟨CL,av⟩:=kh2 (cj w3 be a1 c1 a2 c2 bw) be;have gu:=HK.enters;go_wp2_with fail;refine CL.mono ?_;rintro e w4 ⟨rfl,bf,D',dj⟩
      have bs:Hid (SwS w w4 h D0 I (K,C) L p (k+1)):=by
       have ca:=Za eh;refine⟨(el.on av).far bf (λq e=>(ca q e).2.2.symm),Y.heap.size,D',K',C',Xs++[((th,tI,tO),C')],?_,?_,dj,Za ej,Za ek,Vc _ _ _ _,?_,?_,?_⟩
       ·exact aO HG.size df
       ·refine cn.on ((Gr.of av).trans (bf.mono (λq _ e=>aF (ca q e).2.1 df))) ?_;have dz:p<w2.heap.size:=(by have⟨_,_,_,_,_,_,hh,_⟩:=Za cn;exact aA hh);exact (bf.block p (aF dz av.size) (λe=>(ca p e).1 rfl)).trans (av.block p dz)
       ·rw[bL];exact Nat.succ_le_succ br
       ·have:=Za dc;(rw[if_pos trivial] at this);rw[this,List.append_assoc];rfl
       ·have:=Za cq;(rw[if_pos trivial] at this);exact this
      clear bf dj CL gu;go_wp2;go_roundw
      case rel=>exact⟨k+1,by omega,by go_num,bs⟩
      case measure=>simp[intOf];omega
    ·have gv:k=m:=(by omega);subst gv;have⟨hg,B,D,Kk,Ck,Xs,hB,hd,hI,_,_,_,_,aa,ab⟩:=Za HS;rw[bA (by rw[Za cx];exact aE _)] at aa ab;rw[swT,List.append_nil] at aa;have e1:(Y0 h L (K,C)).2=(Kk,Ck):=ab
     have ee:Hid (SwR w wr x D0 (Y0 h L (K,C)).2.1 (Y0 h L (K,C)).2.2 h I (swT h L (K,C)) (dB (dC #[dE (dG ⟨p,0,aD⟩),E J 0]))):=by
      rw[e1,aa];exact .inr ⟨Za al,p,D,rfl,Za bo,hg,hd.less hB,hI⟩
     clear hg hB hd hI aa ab e1;go_wp2;go_ret2;exact Za ee
structure PSt(b p:Nat)(w:World)(v:Value)(K:List (List Value))(L:List TxD):Prop where
 box:w.heap[b]? = dG (dA #[v] 29 (0,0))
 own:w.ownsRow (p+1) 50 3 v L.length K.flatten
 kept:∀ w2,Gr w w2 (λq=>q<=p\/v.ownBlock=dG q)->Tr.AllC Tr.txR w2 K L
 bp:b<p
 pl:p<w.heap.size
theorem PSt.start{b p:Nat}{w:World}(h:w.heap[b]? = dG (dA #[F aD 0 0] 29 (0,0)))(bp:b<p)(pl:p<w.heap.size):PSt b p w (F aD 0 0) [] []:=
 ⟨h,⟨rfl,.inl ⟨rfl,rfl⟩⟩,λ_ _=>⟨rfl,λi h1 _=>absurd h1 (by simp)⟩,bp,pl⟩
theorem PSt.on{b p:Nat}{w w' v K L}{S:Nat->Prop}(h:PSt b p w v K L)(g:Gr w w' S)(hS:∀ q,S q->q<=p/\q≠b):PSt b p w' v K L:=
 ⟨g.heap h.box (λe=>(hS b e).2 rfl),g.own h.own (λk hk e=>by have:=(h.own.lt k hk).1;have:=(hS k e).1;omega),
  λw2 g2=>h.kept w2 ((g.mono (λq _ e=>.inl (hS q e).1)).trans g2),h.bp,aF h.pl g.size⟩
theorem PSt.push{b p:Nat}{wA w Y w':World}{v v':Value}{K:List (List Value)}{L:List TxD}{u0 u1 u2 t}(h:PSt b p wA v K L)(hb:ZD wA w)(hF:Fresh wA.heap.size w (λw2=>Tr.txR.C w2 [u0,u1,u2] t))(ac:ZD w Y)
  (ab:Y.grownBy w' v.ownBlock) (aj:w'.ownsRow (p+1) 50 3 v' (L.length+1) (K.flatten++[u0,u1,u2])) (hv:v.ownBlock=v'.ownBlock\/∃ g,v'.ownBlock=dG g/\Y.heap.size<=g) :
  PSt b p (w'.setCell ⟨b,0,aD⟩ v') v' (K++[[u0,u1,u2]]) (L++[t])/\Gr w (w'.setCell ⟨b,0,aD⟩ v') (λq=>q=b\/v.ownBlock=dG q):=by
 have ag:ZD wA Y:=Zf hb ac;have am:=h.bp;have ar:=h.pl;have au:=hb.size;have av:=ac.size;have aw:=ab.size;have ap:v.ownBlock≠dG b:=λe=>by have:=(h.own.lt b e).1;omega
 have bx:w'.heap[b]? = dG (dA #[v] 29 (0,0)):=((ab.block b (by omega) (λe=>ap e.symm)).trans (ag.block b (by omega))).trans h.box;have g1:Gr wA w' (λq=>q<=p\/v.ownBlock=dG q):=(Gr.of ag).grown ab (λk e=>.inl (.inr e));have g2:Gr w w' (λq=>q=b\/v.ownBlock=dG q):=(Gr.of ac).grown ab (λk e=>.inl (.inr e));have g3:Gr w (w'.setCell ⟨b,0,aD⟩ v') (λq=>q=b\/v.ownBlock=dG q):=g2.one b 0 (.inl (.inl rfl)) v';have g4:Gr wA (w'.setCell ⟨b,0,aD⟩ v') (λq=>q<=p\/v.ownBlock=dG q):=g1.one b 0 (.inl (.inl (by omega))) v';refine⟨⟨Uf bx,?_,λw2 gw=>?_,am,by have:=g4.size;omega⟩,g3⟩
 ·rw[bL,List.flatten_append];exact (((Gr.refl w' (λq=>q=b)).one b 0 (.inl rfl) v').own aj (λk hk e=>by have:=(aj.lt k hk).1;omega))
 ·refine Tr.AllC.snoc (h.kept w2 (g4.far gw (λq e=>?_))) (hF w2 ?_)
  ·rcases e with e|e
   ·exact .inr (.inl e)
   ·rcases hv with q1|⟨g,q1,q2⟩
    ·exact .inr (.inr (q1.trans e))
    ·rw[q1] at e;injection e with e;exact .inl (by omega)
  ·refine (g3.mono (T:=λq=>q<wA.heap.size) (λq _ e=>?_)).far gw (λq e=>?_)
   ·rcases e with e|e
    ·omega
    ·exact (h.own.lt q e).2
   ·rcases e with e|e
    ·exact .inr (by omega)
    ·rcases hv with q1|⟨g,q1,q2⟩
     ·exact .inr (h.own.lt q (q1.trans e)).2
     ·rw[q1] at e;injection e with e;exact .inl (by omega)
theorem PSt.txs{b p:Nat}{w v K}{L:List TxD}(h:PSt b p w v K L):∃ a c,v = F a L.length c/\TxsAt w a L.length L/\SlOk a L.length c:=
 Tr.rows_of_own Tr.txR h.own (h.kept w (Gr.refl _ _)) rfl
theorem Tryz.infoTx9:(Tryz.prog.info? 50).map (λi=>(i.zero,i.size,i.bytes))=dG (dG (.agg #[E J 0,F aD 0 0,F aD 0 0]),3,56):=by kernel_rfl
def FeI(w:World)(b:Nat)(aa:Int):Prop:=w.heap[b]? = dG (dA #[E J aa] 3 (0,0))
theorem Zgd(b b2 p:Nat)(va vc K)(L:List TxD)(ac:Int)(u0 u1 u2 t)(wA w:World)(h:PSt b p wA (F va L.length vc) K L)(ab:Int)(h2:FeI wA b2 ab)(bg:b≠b2)(dd:b2<p)(f1:0<=ab)(f2:ab<=1000000000)(f3:0<=ac)(f4:ac<=1000000000)(hb:ZD wA w)(hF:Fresh wA.heap.size w (λw2=>Tr.txR.C w2 [u0,u1,u2] t))(hl:L.length<8) :
  Calls aB 126 (#[.agg #[u0,u1,u2],E J ac]++#[dE (dG ⟨b,0,aD⟩),dE (dG ⟨b2,0,aD⟩)]) w λe w'=>e = dB (dC #[])/\(∃ v',∃ K',PSt b p w' v' K' (L++[t])/\FeI w' b2 (ab+ac))/\Gr w w' (λq=>(q=b\/q=b2)\/(bW va L.length vc).ownBlock=dG q):=by
 have⟨i0,hi,cm,cn,cp⟩:=info_parts Tryz.infoTx9;have⟨ai,ni,ci,ao,no,co,e,_⟩:=hF w (Gr.refl _ _);simp only[cE,and_true] at e;obtain⟨rfl,rfl,rfl⟩:=e;have⟨U,hU⟩:=ZG ((w.alloc (dA #[E J t.1,F ai ni ci,F ao no co] 50)).alloc (dA #[E J t.1,F ai ni ci,F ao no co] 50));have bf:ZD w U:=by rw[hU];exact Zf (Zh _ _) (Zh _ _)
 have cg:U.heap[w.heap.size+1]? = dG (dA #[E J t.1,F ai ni ci,F ao no co] 50 (0,0)):=by
  rw[hU];have:=Zu (w.alloc (dA #[E J t.1,F ai ni ci,F ao no co] 50)) (E J t.1) (F ai ni ci) (F ao no co) 50;rw[show (w.alloc (dA #[E J t.1,F ai ni ci,F ao no co] 50)).heap.size=w.heap.size+1 by simp] at this;exact this
 have dc:U.heap.size=w.heap.size+2:=by rw[hU];simp
 have de:=h.bp;have df:=h.pl;have dh:=hb.size;have au:=Zf hb bf;have bz:U.ownsRow (p+1) 50 3 (F va L.length vc) L.length K.flatten:=(Gr.of (S:=λ_=>False) au).own h.own (λ_ _ q=>q);have bd:=(hb.block b (by omega)).trans h.box;have az:=(au.block b (by omega)).trans h.box;have b0:=Zd bd 0 _ rfl;have bl:b<w.heap.size:=aA bd;have cf:=(au.block b2 (by omega)).trans h2;have bx:Hid (∀ j u,[aU .i64 t.1,F ai ni ci,F ao no co][j]? = dG u->bF ((w.alloc (dA #[E J t.1,F ai ni ci,F ao no co] 50)).alloc (dA #[E J t.1,F ai ni ci,F ao no co] 50)) ((⟨w.heap.size+1,0,aD⟩:Addr).add j)=dG u):=by rw[<-hU];exact bI cg
 have ax:Hid (cP ((w.alloc (dA #[E J t.1,F ai ni ci,F ao no co] 50)).alloc (dA #[E J t.1,F ai ni ci,F ao no co] 50)) (p+1) 50 3 (F va L.length vc) L.length K.flatten):=by rw[<-hU];exact bz
 have cd:p+1<=((w.alloc (dA #[E J t.1,F ai ni ci,F ao no co] 50)).alloc (dA #[E J t.1,F ai ni ci,F ao no co] 50)).heap.size:=by rw[<-hU];omega
 have ar:Hid (∀ q,q<=p->(bW va L.length vc).ownBlock≠dG q):=λq hq e=>by have:=(h.own.lt q e).1;omega
 have⟨HH,bo,br,bj,ap,aq⟩:=kh6 h hb hF bf az hl;have⟨n,hn⟩:=ZF (L.length);have av:=Zb cf;have fw:w.cell? ⟨b2,0,aD⟩=dG (E J ab):=Zd ((hb.block b2 (by omega)).trans h2) 0 _ rfl;have HN:=Zb hn;rw[hn] at ax aq b0 ar ap HH az;simp only[hn];go_enter func126,ntmps126
 go_wp2_with (at_builtin;refine wpList_append_lies _ rfl _ _ 29 rfl (p+1) 50 i0 (.agg #[E J 0,F aD 0 0,F aD 0 0]) 3 56 underlying29 hi cm cn cp rfl (by decide) _ _ _ rfl ax ⟨w.heap.size+1,0,aD⟩ 1 1 [E J t.1,F ai ni ci,F ao no co] rfl rfl bx (λu hu=>by simp at hu;rcases hu with rfl|rfl|rfl <;> rfl) (by decide) (by have:=Za aq;unfold aT;omega) (by have:=Za aq;omega) cd _ rfl ?_;intro g7 ah w7 cl am bh _;rw[<-hU] at am bh;have an:=(am.block b (aA ap) (λe=>ar b (by omega) e.symm)).trans ap;have ct:=Zb an;have bv:=Zb cl;have bs:=Zb am;have bw:=Zb bh;have di:=Zd an 0 _ rfl;have dl:=aA an;have dj:=Zg an 0;have al:=(am.block b2 (aA av) (λe=>ar b2 (by omega) e.symm)).trans av;have bq:=Zb al;have cy:=Zd al 0 _ rfl;have da:=aA al;have cz:=Zg al 0)
 have PU:=PSt.push (v':=F (dG ⟨g7,0,aD⟩) (n+1) ah) HH bo br bj bs (by rw[Za HN];exact Za bv) (by
  rcases Za bw with q|q
  ·exact .inl q
  ·exact .inr ⟨g7,rfl,by omega⟩)
 have g9:Gr (w7.setCell ⟨b,0,aD⟩ (F (dG ⟨g7,0,aD⟩) (n+1) ah)) ((w7.setCell ⟨b,0,aD⟩ (F (dG ⟨g7,0,aD⟩) (n+1) ah)).setCell ⟨b2,0,aD⟩ (E J (ab+ac))) (λq=>q=b2):=(Gr.refl _ (λq=>q=b2)).one b2 0 (.inl rfl) _;have R1:=Zb (PU.1.on g9 (λq e=>by subst e;exact⟨by omega,λq=>bg q.symm⟩));have R2:Hid (FeI ((w7.setCell ⟨b,0,aD⟩ (F (dG ⟨g7,0,aD⟩) (n+1) ah)).setCell ⟨b2,0,aD⟩ (E J (ab+ac))) b2 (ab+ac)):=Uf ((heap_setCell_other w7 ⟨b,0,aD⟩ b2 _ (λe=>bg e.symm)).trans bq);have R3:Hid (Gr w ((w7.setCell ⟨b,0,aD⟩ (F (dG ⟨g7,0,aD⟩) (n+1) ah)).setCell ⟨b2,0,aD⟩ (E J (ab+ac))) (λq=>(q=b\/q=b2)\/(bW va n vc).ownBlock=dG q)):=(PU.2.mono (λq _ e=>e.elim (λe=>.inl (.inl e)) .inr)).trans (g9.mono (λq _ e=>.inl (.inr e)));(try go_wp2)
 (first|refine bodyPost_end (results_none rfl _ _ _) rfl ?_|refine aL (results_none rfl _ _ _) rfl ?_)
 exact⟨rfl,⟨_,_,Za R1,Za R2⟩,Za R3⟩
theorem Zme(b b2 p:Nat)(va vc K)(L:List TxD)(ac:Int)(u0 u1 u2 t)(wA w:World)(h:PSt b p wA (F va L.length vc) K L)(ab:Int)(h2:FeI wA b2 ab)(bg:b≠b2)(de:b2<p)(f1:0<=ab)(f2:ab<=1000000000)(f3:0<=ac)(f4:ac<=1000000000)(hb:ZD wA w)(hF:Fresh wA.heap.size w (λw2=>Tr.txR.C w2 [u0,u1,u2] t))(hl:L.length<3) :
  Calls aB 139 (#[.agg #[u0,u1,u2],E J ac]++#[dE (dG ⟨b,0,aD⟩),dE (dG ⟨b2,0,aD⟩)]) w λe w'=>e = dB (dC #[])/\(∃ v',∃ K',PSt b p w' v' K' (L++[t])/\FeI w' b2 (ab+ac))/\Gr w w' (λq=>(q=b\/q=b2)\/(bW va L.length vc).ownBlock=dG q):=by
 have⟨i0,hi,cm,cn,cp⟩:=info_parts Tryz.infoTx9;have⟨ai,ni,ci,ao,no,co,e,_⟩:=hF w (Gr.refl _ _);simp only[cE,and_true] at e;obtain⟨rfl,rfl,rfl⟩:=e;have⟨U,hU⟩:=ZG ((w.alloc (dA #[E J t.1,F ai ni ci,F ao no co] 50)).alloc (dA #[E J t.1,F ai ni ci,F ao no co] 50));have bf:ZD w U:=by rw[hU];exact Zf (Zh _ _) (Zh _ _)
 have cg:U.heap[w.heap.size+1]? = dG (dA #[E J t.1,F ai ni ci,F ao no co] 50 (0,0)):=by
  rw[hU];have:=Zu (w.alloc (dA #[E J t.1,F ai ni ci,F ao no co] 50)) (E J t.1) (F ai ni ci) (F ao no co) 50;rw[show (w.alloc (dA #[E J t.1,F ai ni ci,F ao no co] 50)).heap.size=w.heap.size+1 by simp] at this;exact this
 have dd:U.heap.size=w.heap.size+2:=by rw[hU];simp
 have df:=h.bp;have dg:=h.pl;have di:=hb.size;have au:=Zf hb bf;have bz:U.ownsRow (p+1) 50 3 (F va L.length vc) L.length K.flatten:=(Gr.of (S:=λ_=>False) au).own h.own (λ_ _ q=>q);have bd:=(hb.block b (by omega)).trans h.box;have az:=(au.block b (by omega)).trans h.box;have b0:=Zd bd 0 _ rfl;have bl:b<w.heap.size:=aA bd;have cf:=(au.block b2 (by omega)).trans h2;have bx:Hid (∀ j u,[aU .i64 t.1,F ai ni ci,F ao no co][j]? = dG u->bF ((w.alloc (dA #[E J t.1,F ai ni ci,F ao no co] 50)).alloc (dA #[E J t.1,F ai ni ci,F ao no co] 50)) ((⟨w.heap.size+1,0,aD⟩:Addr).add j)=dG u):=by rw[<-hU];exact bI cg
 have ax:Hid (cP ((w.alloc (dA #[E J t.1,F ai ni ci,F ao no co] 50)).alloc (dA #[E J t.1,F ai ni ci,F ao no co] 50)) (p+1) 50 3 (F va L.length vc) L.length K.flatten):=by rw[<-hU];exact bz
 have cd:p+1<=((w.alloc (dA #[E J t.1,F ai ni ci,F ao no co] 50)).alloc (dA #[E J t.1,F ai ni ci,F ao no co] 50)).heap.size:=by rw[<-hU];omega
 have ar:Hid (∀ q,q<=p->(bW va L.length vc).ownBlock≠dG q):=λq hq e=>by have:=(h.own.lt q e).1;omega
 have⟨HH,bo,br,bj,aq,al⟩:=kh6 h hb hF bf az hl;have⟨n,hn⟩:=ZF (L.length);have av:=Zb cf;have fw:w.cell? ⟨b2,0,aD⟩=dG (E J ab):=Zd ((hb.block b2 (by omega)).trans h2) 0 _ rfl;have HN:=Zb hn;rw[hn] at ax al b0 ar aq HH az;simp only[hn];go_enter func139,ntmps139;have gl:(n:Int)<3:=by have:=Za al;omega
 go_wp2_with (at_builtin;refine wpList_append_lies _ rfl _ _ 29 rfl (p+1) 50 i0 (.agg #[E J 0,F aD 0 0,F aD 0 0]) 3 56 underlying29 hi cm cn cp rfl (by decide) _ _ _ rfl ax ⟨w.heap.size+1,0,aD⟩ 1 1 [E J t.1,F ai ni ci,F ao no co] rfl rfl bx (λu hu=>by simp at hu;rcases hu with rfl|rfl|rfl <;> rfl) (by decide) (by have:=Za al;unfold aT;omega) (by have:=Za al;omega) cd _ rfl ?_;intro g7 ah w7 cl an bh _;rw[<-hU] at an bh;have ap:=(an.block b (aA aq) (λe=>ar b (by omega) e.symm)).trans aq;have ct:=Zb ap;have bv:=Zb cl;have bs:=Zb an;have bw:=Zb bh;have dj:=Zd ap 0 _ rfl;have dm:=aA ap;have dl:=Zg ap 0;have am:=(an.block b2 (aA av) (λe=>ar b2 (by omega) e.symm)).trans av;have bq:=Zb am;have cy:=Zd am 0 _ rfl;have da:=aA am;have cz:=Zg am 0)
 have PU:=PSt.push (v':=F (dG ⟨g7,0,aD⟩) (n+1) ah) HH bo br bj bs (by rw[Za HN];exact Za bv) (by
  rcases Za bw with q|q
  ·exact .inl q
  ·exact .inr ⟨g7,rfl,by omega⟩)
 have g9:Gr (w7.setCell ⟨b,0,aD⟩ (F (dG ⟨g7,0,aD⟩) (n+1) ah)) ((w7.setCell ⟨b,0,aD⟩ (F (dG ⟨g7,0,aD⟩) (n+1) ah)).setCell ⟨b2,0,aD⟩ (E J (ab+ac))) (λq=>q=b2):=(Gr.refl _ (λq=>q=b2)).one b2 0 (.inl rfl) _;have R1:=Zb (PU.1.on g9 (λq e=>by subst e;exact⟨by omega,λq=>bg q.symm⟩));have R2:Hid (FeI ((w7.setCell ⟨b,0,aD⟩ (F (dG ⟨g7,0,aD⟩) (n+1) ah)).setCell ⟨b2,0,aD⟩ (E J (ab+ac))) b2 (ab+ac)):=Uf ((heap_setCell_other w7 ⟨b,0,aD⟩ b2 _ (λe=>bg e.symm)).trans bq);have R3:Hid (Gr w ((w7.setCell ⟨b,0,aD⟩ (F (dG ⟨g7,0,aD⟩) (n+1) ah)).setCell ⟨b2,0,aD⟩ (E J (ab+ac))) (λq=>(q=b\/q=b2)\/(bW va n vc).ownBlock=dG q)):=(PU.2.mono (λq _ e=>e.elim (λe=>.inl (.inl e)) .inr)).trans (g9.mono (λq _ e=>.inl (.inr e)));(try go_wp2)
 (first|refine bodyPost_end (results_none rfl _ _ _) rfl ?_|refine aL (results_none rfl _ _ _) rfl ?_)
 exact⟨rfl,⟨_,_,Za R1,Za R2⟩,Za R3⟩
theorem Zcz(b b2 p:Nat)(va vc K)(L:List TxD)(ae:Int)(u0 u1 u2 t)(wA w:World)(h:PSt b p wA (F va L.length vc) K L)(hb:ZD wA w)(hF:Fresh wA.heap.size w (λw2=>Tr.txR.C w2 [u0,u1,u2] t))(hl:3<=L.length) :
  Calls aB 139 (#[.agg #[u0,u1,u2],E J ae]++#[dE (dG ⟨b,0,aD⟩),dE (dG ⟨b2,0,aD⟩)]) w λe w'=>e = dB (dC #[])/\ZD w w':=by
 have⟨ai,ni,ci,ao,no,co,e,_⟩:=hF w (Gr.refl _ _);simp only[cE,and_true] at e;obtain⟨rfl,rfl,rfl⟩:=e;have HB:=Zb (Zh w (dA #[E J t.1,F ai ni ci,F ao no co] 50));have ak:=h.bp;have am:=h.pl;have aa:=(hb.block b (by omega)).trans h.box;have b0:=Zd aa 0 _ rfl;have bl:b<w.heap.size:=aA aa;have gl:¬((L.length:Int)<3):=by omega
 have⟨n,hn⟩:=ZF (L.length);rw[hn] at b0 gl;go_enter func139,ntmps139;go_wp2
 (first|refine bodyPost_end (results_none rfl _ _ _) rfl ?_|refine aL (results_none rfl _ _ _) rfl ?_)
 exact⟨rfl,Za HB⟩
def D0(lo hi:Nat):Nat->Prop:=λq=>(lo<=q/\q<hi)\/(bW aD 0 0).ownBlock=dG q
theorem D0.ge{lo hi q:Nat}(h:D0 lo hi q):lo<=q/\q<hi:=by
 rcases h with h|h
 ·exact h
 ·cases h
def DV(lo hi:Nat)(v:Value):Nat->Prop:=λq=>(lo<=q/\q<hi)\/v.ownBlock=dG q
theorem DV.dirty{lo hi b p:Nat}{w:World}{v K L}{N0:Nat}(h:PSt b p w v K L)(hh:hi<=N0)(hp:N0<=p)(q:Nat)(hq:DV lo hi v q):q≠p/\q<w.heap.size/\(D0 lo hi q\/N0<=q):=by
 have:=h.pl
 rcases hq with e|e
 ·exact⟨by omega,by omega,.inl (.inl e)⟩
 ·have:=h.own.lt q e;exact⟨by omega,this.2,.inr (by omega)⟩
def SwI(b b2 lo hi N0:Nat)(C0:List Zi)(p:Nat)(D:Nat->Prop)(w:World)(X:List (TxD×List Zi)):Prop:=
 ∃ va vc K,PSt b p w (.slice va (X.map (·.1)).length vc) K (X.map (·.1))/\FeI w b2 (Zm C0 - Zm (Wc C0 X))/\N0<=p/\D=DV lo hi (.slice va (X.map (·.1)).length vc)/\0<=Zm C0 - Zm (Wc C0 X)/\(X=[]\/(Zm C0<=1000000000/\Zy (Wc C0 X)))
theorem K9{C}(h:Zy C):0<=Zm C:=Vf C (λc hc=>by have:=Yt (h.one c hc);omega)
theorem Zst(b b2 lo hi:Nat)(w0:World)(C0)(hb:w0.heap[b]? = dG (dA #[F aD 0 0] 29 (0,0)))(an:FeI w0 b2 0)(h1:lo<=b/\b<hi)(h2:lo<=b2/\b2<hi)(aw:b≠b2)(au:hi<=w0.heap.size) :
  Ztk 126 #[dE (dG ⟨b,0,aD⟩),dE (dG ⟨b2,0,aD⟩)] w0 C0 (D0 lo hi) (SwI b b2 lo hi w0.heap.size C0) where
 enters:=enters_of (fn:=Tryz.f126) (by kernel_rfl) (by kernel_rfl) rfl
 start p w hw hp pl:=⟨aD,0,[],PSt.start ((hw.block b (by omega)).trans hb) (by omega) pl,by
  have:Zm C0 - Zm (Wc C0 [])=0:=by rw[Vy];omega
  unfold FeI;rw[this];exact (hw.block b2 (by omega)).trans an,hp,rfl,by rw[Vy];omega,.inl rfl⟩
 dirty p D w X:=by
  rintro ⟨va,vc,K,h,_,hp,rfl,_⟩ q hq;exact DV.dirty h au hp q hq
 on p D w w' X:=by
  rintro ⟨va,vc,K,h,hf,hp,hD,r⟩ g;exact⟨va,vc,K,h.on g (λq e=>by subst e;exact⟨aE _,by omega⟩),(g.block b2 (aA hf) (λe=>by have e:b2=p:=e;omega)).trans hf,hp,hD,r⟩
 call p D wA w X t C' u0 u1 u2:=by
  rintro ⟨va,vc,K,h,hf,hp,rfl,h0,hr⟩ ap hF r1 r2 r3 hl
  have hs:Zm C0<=1000000000:=by
   rcases hr with rfl|hr
   ·rw[Vy] at r1;exact r1.sum
   ·exact hr.1
  have n1:=K9 r1;have n2:=K9 r2;have n3:=r1.sum;refine (Zgd b b2 p va vc K (X.map (·.1)) _ u0 u1 u2 t wA w h _ hf aw (by omega) h0 (by omega) (by omega) (by omega) ap hF (by rw[List.length_map];exact hl)).mono ?_;rintro e w' ⟨rfl,⟨v',K',hS,aq⟩,hg⟩;obtain⟨a,c,rfl,_,_⟩:=hS.txs;have e1:(X++[(t,C')]).map (·.1)=X.map (·.1)++[t]:=by simp
  refine⟨rfl,hg.mono (λq _ e=>?_),DV lo hi (.slice a ((X++[(t,C')]).map (·.1)).length c),a,c,K',?_,?_,hp,rfl,?_,.inr ⟨hs,?_⟩⟩
  ·rcases e with (e|e)|e
   ·subst e;exact .inl h1
   ·subst e;exact .inl h2
   ·exact .inr e
  ·rw[e1];exact hS
  ·rw[Vc];have:Zm C0 - Zm (Wc C0 X)+(Zm (Wc C0 X) - Zm C')=Zm C0 - Zm C':=(by omega);rw[<-this];exact aq
  ·rw[Vc];omega
  ·rw[Vc];exact r2
theorem PSt.reads{b p:Nat}{w w2 va vc K}{L:List TxD}{S:Nat->Prop}(h:PSt b p w (F va L.length vc) K L)(g:Gr w w2 S)(hS:∀ q,S q->q<=p):TxsAt w2 va L.length L/\SlOk va L.length vc:=by
 have o:=g.own h.own (λk hk e=>by have:=(h.own.lt k hk).1;have:=hS k e;omega);have⟨a,c,e,h1,h2⟩:=Tr.rows_of_own Tr.txR o (h.kept w2 (g.mono (λq _ e=>.inl (hS q e)))) rfl;injection e with e1 _ e3;subst e1 e3;exact⟨h1,h2⟩
def Zoi(w w':World)(x:Int)(K:List ByteArray)(L:List TxD)(C:List Zi)(f:Int)(e:Ending):Prop:=
 ∃ ka kn kc sa sn sc ca cn cc,e = dB (dC #[.agg #[F ka kn kc],F sa sn sc,F ca cn cc,E J f,E J x]) /\
  Fresh w.heap.size w' (λw2=>Bk.TextsAt w2 ka kn K/\TxsAt w2 sa sn L/\CoinsAt w2 ca cn C)/\SlOk ka kn kc/\SlOk sa sn sc/\SlOk ca cn cc/\ZD w w'
def swF(K:List ByteArray)(C:List Zi)(l:List TxD)(h x:Int):List ByteArray×List TxD×List Zi×Int:=
 if x=0 then ((Y0 h l (K,C)).2.1,(Y0 h l (K,C)).1,(Y0 h l (K,C)).2.2,Zm C - Zm (Y0 h l (K,C)).2.2) else ([],[],[],0)
def Wd(w:World):List Obj->World
 | []=>w
 | o :: r=>Wd (w.alloc o) r
theorem Xm:∀ (os:List Obj) (w:World),(Wd w os).heap.size=w.heap.size+os.length
 | [],_=>rfl
 | o :: r,w=>by rw[Wd,Xm r,List.length_cons];simp;omega
theorem Yl:∀ (os:List Obj) (w:World),ZD w (Wd w os)
 | [],_=>Below.refl _ _
 | o :: r,w=>Zf (Zh w o) (Yl r (w.alloc o))
theorem Zn:∀ (os:List Obj) (w:World) (i:Nat) (o:Obj),os[i]? = dG o->(Wd w os).heap[w.heap.size+i]? = dG o
 | [],_,_,_,h=>by simp at h
 | o :: r,w,0,x,h=>by
  simp at h;subst h;have h1:(w.alloc o).heap[w.heap.size]? = dG o:=aG w o;exact ZE (Yl r (w.alloc o)) h1
 | o :: r,w,i+1,x,h=>by
  have:=Zn r (w.alloc o) i x (by simpa using h);rw[show (w.alloc o).heap.size+i=w.heap.size+(i+1) by simp;omega] at this;exact this
theorem kl{X w:World}{l}(h:X=Wd w l)(i:Nat)(L:List Value)(t:aY)(e:l[i]? = dG (dA L.toArray t)):X.heap[w.heap.size+i]? = dG (dA L.toArray t (0,0)):=by subst h;exact Zn _ w i _ e
theorem kl0{X w:World}{l}(h:X=Wd w l)(L:List Value)(t:aY)(e:l[0]? = dG (dA L.toArray t)):X.heap[w.heap.size]? = dG (dA L.toArray t (0,0)):=by subst h;exact Zn _ w 0 _ e
theorem Tb{fn:Func}{p q u v z:Tmp}{ty aa ab:aY}(h:fn.results=#[.cell p ty,.cell q aa,.tmp u,.cell v ab,.tmp z])(tmps:Array Value)(P:Program)(w) :
  (results fn tmps).run P w =
   ((asAddr (tmps.getD p undef)).run P w).andThen λa w₁=>((loadVar ty a).run P w₁).andThen λx w₂=>((asAddr (tmps.getD q undef)).run P w₂).andThen λa2 w₃=>((loadVar aa a2).run P w₃).andThen λy w₄=>((asAddr (tmps.getD v undef)).run P w₄).andThen λa3 w₅=>((loadVar ab a3).run P w₅).andThen λz3 w₆=>.ok (dC #[x,y,tmps.getD u undef,z3,tmps.getD z undef]) w₆:=by
 simp only[results,h];simp[Sem.run_bind,Result.andThen]
theorem Dy(ka kn kc K la ln lc C a m c L)(h x:Int)(K' L' C')(f:Int)(w)
  (hE:Env w) (hK:Bk.TextsAt w ka kn K) (hC:CoinsAt w la ln C) (sC:SlOk la ln lc) (hL:TxsAt w a m L) (hx:swE K C L h=x) (hr:swF K C L h x=(K',L',C',f)) :
  Calls aB 87 #[.agg #[F ka kn kc],F la ln lc,F a m c,E J h] w λe w'=>Zoi w w' x K' L' C' f e:=by
 have⟨X,hX⟩:=ZG (Wd w [dA #[F ka kn kc] 24,dA #[F aD 0 0] 24,dA #[F aD 0 0] 29,dA #[E J 0] 3]);have al:ZD w X:=by rw[hX];exact Yl _ _
 have cp:X.heap.size=w.heap.size+4:=by rw[hX];exact Xm _ _
 have x0:X.heap[w.heap.size]? = dG (dA #[F ka kn kc] 24 (0,0)):=by rw[hX];exact Zn _ w 0 _ rfl
 have x1:X.heap[w.heap.size+1]? = dG (dA #[F aD 0 0] 24 (0,0)):=by rw[hX];exact Zn _ w 1 _ rfl
 have x2:X.heap[w.heap.size+2]? = dG (dA #[F aD 0 0] 29 (0,0)):=by rw[hX];exact Zn _ w 2 _ rfl
 have x3:X.heap[w.heap.size+3]? = dG (dA #[E J 0] 3 (0,0)):=by rw[hX];exact Zn _ w 3 _ rfl
 have cn:X=(((w.alloc (dA #[F ka kn kc] 24)).alloc (dA #[F aD 0 0] 24)).alloc (dA #[F aD 0 0] 29)).alloc (dA #[E J 0] 3):=hX;have cj:=Zst (w.heap.size+2) (w.heap.size+3) (w.heap.size+2) (w.heap.size+4) X C x2 x3 (by omega) (by omega) (by omega) (by omega);have bg:∀ V,Gr X V (D0 (w.heap.size+2) (w.heap.size+4))->ZD w V:=λV g=>g.below al al.size (λq e=>by have:=e.ge;omega);have⟨C1,bs,bz,HR,bu,ak,bw,bx⟩:=kh8 (Ds _ _ _ _ ka kn kc K la ln lc C a m c L h x X cj w bg hE hK hC sC hL hx) al cp hr bg x1 x2 x3;have t0:=Zd (X:=[F ka kn kc]) x0 0 _ rfl;have tl:=aA x0;go_enter func87,ntmps87;go_wp2_with fail;rw[<-cn];(try go_wp2_with fail);refine C1.mono ?_;rintro e w1 cx
 rcases cx with ⟨h0,rfl,ac⟩|⟨h0,p,D,rfl,hp,am,hd,hI⟩
 ·have gx:(x != 0)=true:=by simp[h0]
  have y1:=ZE ac ak;have y2:=ZE ac bw;have y3:=ZE ac bx;have dd:=Zd (X:=[F aD 0 0]) y1 0 _ rfl;have az:=Zd (X:=[F aD 0 0]) y2 0 _ rfl;have bj:=Zd (X:=[E J 0]) y3 0 _ rfl;have de:=Zg y1 0;have dg:=Zg y2 0;have di:=Zg y3 0;have df:=aA y1;have dh:=aA y2;have dj:=aA y3
  have bv:Hid (K'=[]/\L'=[]/\C'=[]/\f=0):=by
   have:=Za HR;unfold swF at this;rw[if_neg h0] at this;simp only[aR] at this;exact⟨this.1.symm,this.2.1.symm,this.2.2.1.symm,this.2.2.2.symm⟩
  have HB:=Zb (Zf bs ac);go_wp2;refine aL (v:=dC #[.agg #[F aD 0 0],F aD 0 0,F aD 0 0,E J 0,E J x]) ?_ rfl ?_
  ·rw[Tb rfl];go_simp
  ·obtain⟨rfl,rfl,rfl,rfl⟩:=Za bv;exact⟨_,_,_,_,_,_,_,_,_,rfl,λ_ _=>⟨Bk.TextsAt.nil _ _,RowsAt.nil _ _,RowsAt.nil _ _⟩,Z5,Z5,Z5,(((HB.setCell (p:=⟨w.heap.size+1,0,aD⟩) (by simp) _).setCell (p:=⟨w.heap.size+2,0,aD⟩) (by simp) _).setCell (p:=⟨w.heap.size+3,0,aD⟩) (by simp) _)⟩
 ·have⟨va,vc,Kl,hS,hf,_,_,_,_⟩:=hI;have⟨ka',kn',kc',ap,au,ar,cu,bf,dc,db⟩:=hd;have y1:=(am.block _ (aA ak) (λe=>by have:=e.ge;omega)).trans ak;have dd:=Zd (X:=[F aD 0 0]) y1 0 _ rfl;have az:=Zd (X:=[_]) hS.box 0 _ rfl;have bj:=Zd (X:=[_]) hf 0 _ rfl;have⟨p0,p1,pl⟩:=kc2 cu;have de:=Zg y1 0;have dg:=Zg hS.box 0;have di:=Zg hf 0;have df:=aA y1;have dh:=aA hS.box;have dj:=aA hf;subst h0
  have cm:Y0 h L (K,C)=(L',K',C')/\f=Zm C - Zm C':=by
   have:=Za HR;unfold swF at this;rw[if_pos rfl] at this;simp only[aR] at this;have⟨r1,r2,r3,r4⟩:=this;exact⟨Prod.ext r2 (Prod.ext r1 r3),by rw[<-r4,r3]⟩
  have⟨an,ct⟩:=cm;have e1:(swT h L (K,C)).map (·.1)=L':=by rw[Kc,an]
  have e2:Wc C (swT h L (K,C))=C':=by have:=K7 h L (K,C);rw[an] at this;exact this
  rw[an] at bf;rw[e1] at hS az;rw[e2,<-ct] at hf bj;have⟨n,hn⟩:=ZF (L'.length)
  have bq:Hid (∀ W,Gr w1 W (λq=>w.heap.size+1<=q/\q<w.heap.size+4)->Zoi w W 0 K' L' C' f (dB (dC #[.agg #[F ka' kn' kc'],F va n vc,F ap au ar,E J f,E J 0]))):=λW g=>by
   have dq:=Za bz;have ac:=bu w1 am;have dp:=am.size;subst hn;refine⟨ka',kn',kc',va,L'.length,vc,ap,au,ar,rfl,λW2 g2=>?_,dc,(hS.reads (Gr.refl w1 (λ_=>False)) (λ_ q=>q.elim)).2,db,g.below ac ac.size (λq e=>by omega)⟩;have r1:=bf W2 ((g.mono (λq _ e=>by omega)).trans (g2.mono (λq _ e=>by omega)));have r2:=(hS.reads ((g.mono (T:=λq=>q<w.heap.size+4) (λq _ e=>e.2)).trans (g2.mono (λq _ e=>by omega))) (λq e=>by omega)).1;exact⟨r1.1,r2,r1.2⟩
  rw[hn] at az;go_wp2_with fail
  go_region
  go_wp2;refine aL (v:=dC #[.agg #[F ka' kn' kc'],F va n vc,F ap au ar,E J f,E J 0]) ?_ rfl ?_
  ·rw[Tb rfl];go_simp
  ·exact bq _ ((((Gr.refl w1 (λq=>w.heap.size+1<=q/\q<w.heap.size+4)).one (w.heap.size+1) 0 (.inl (by omega)) _).one (w.heap.size+1+1) 0 (.inl (by omega)) _).one (w.heap.size+1+1+1) 0 (.inl (by omega)) _).draw
open Go.RowKit Go.Maps
def Zrk(v:Value):Option (DataW Value×List MemPlace):=dG (.held v,[])
abbrev Es:Value:=F aD 0 0
abbrev Zss(x:Int):Lit:=.int .i64 x
theorem Zrj:Keyed aB 3:=int_keyed aN
theorem Zru(w):(zeroValue 64).run aB w = .ok (F aD 0 0) w:=by kernel_rfl
theorem Zqg{x y:Int}(h:x≠y):Zss x≠Zss y:=by
 intro e;injection e with _ e;exact h e
theorem Qb{x:Int}(h : -1000000<=x)(h2:x<=1000000):(Lit.int .i64 x).wf=true:=by simp[Lit.wf,IntKind.min,IntKind.max,IntKind.signed,IntKind.bits];omega
def BMap(bm n:Nat)(f:Int->Value)(w:World):Prop:=∃ D,w.ownsMap aB 3 Zrk bm n D/\IsMap D/\∀ x:Int,D.atKey (Zss x) (.held Es) = .held (f x)
theorem BMap.heap{bm n:Nat}{f:Int->Value}{w w':World}(h:BMap bm n f w)(hb:w'.heap[bm]? = w.heap[bm]?):BMap bm n f w':=by
 have⟨D,⟨es,aa,h1,r⟩,r2⟩:=h;exact⟨D,⟨es,aa,hb.trans h1,r⟩,r2⟩
theorem BMap.lt{bm n:Nat}{f:Int->Value}{w:World}(h:BMap bm n f w):bm<w.heap.size:=by
 have⟨D,h1,_⟩:=h;exact h1.lt
theorem BMap.keep{bm n:Nat}{f:Int->Value}{w w':World}(h:BMap bm n f w)(hb:ZD w w'):BMap bm n f w':=h.heap (hb.block bm h.lt)
theorem BMap.gr{bm n:Nat}{f:Int->Value}{w w'}{S:Nat->Prop}(h:BMap bm n f w)(g:Gr w w' S)(hn:¬S bm):BMap bm n f w':=h.heap (g.block bm h.lt hn)
theorem BMap.isMap{bm n:Nat}{f:Int->Value}{w:World}(h:BMap bm n f w):∃ es aa,w.heap[bm]? = dG (.map es aa):=by
 have⟨D,⟨es,aa,h1,r⟩,r2⟩:=h;exact⟨es,aa,h1⟩
theorem BMap.made(w:World):BMap w.heap.size 0 (λ_=>Es) (w.alloc (.map #[] 0)):=
 ⟨.map [],World.ownsMap_made w aB 3 Zrk,⟨_,rfl⟩,λ_=>rfl⟩
theorem BMap.look{bm n:Nat}{f:Int->Value}{w}(h:BMap bm n f w)(x:Int)(hx:(Lit.int .i64 x).wf=true):(Instr.lookup 93 (.map (dG bm)) (.int .i64 x) false).run aB w = .ok (f x) w:=by
 have⟨D,h1,_,h3⟩:=h;have⟨v,ps,aa,hv⟩:=h1.lookup Zrj underlying93 (Zru w) (zd:=.held Es) (zp:=[]) rfl (keyOf_int_mk aN hx);rw[h3] at hv;have ac:v=f x:=DataW.held.inj (Prod.mk.inj (Option.some.inj hv)).1;rw[ac] at aa;exact aa
theorem BMap.drew_look{bm n:Nat}{f:Int->Value}{w:World}(h:BMap bm n f w)(x:Int)(hx:(Lit.int .i64 x).wf=true):(Instr.lookup 93 (.map (dG bm)) (.int .i64 x) false).run aB w.drew = .ok (f x) w.drew:=BMap.look (w:=w.drew) (h.heap rfl) x hx
theorem BMap.put{bm n:Nat}{f:Int->Value}{w:World}(h:BMap bm n f w)(hn:n<1000000)(x:Int)(hx:(Lit.int .i64 x).wf=true)(v) :
  ∃ w',(Instr.mapUpdate 93 (.map (dG bm)) (.int .i64 x) v).run aB w = .ok () w'/\BMap bm (n+1) (λy=>if y=x then v else f y) w'/\w.grownBy w' (dG bm):=by
 have⟨D,h1,h2,h3⟩:=h;have⟨w',aa,r1,r2⟩:=h1.update Zrj underlying93 (by unfold aT;omega) (keyOf_int_mk aN hx) (val:=v) (d:=.held v) (ps:=[]) rfl;refine⟨w',aa,⟨_,r1,?_,λy=>?_⟩,r2⟩
 ·obtain⟨es,rfl⟩:=h2;exact⟨_,rfl⟩
 ·by_cases e:y=x
  ·subst e;rw[atKey_put_same h2 (by simp[WideAt.IsKeyLit])];show _=DataW.held (if y=y then v else f y);rw[if_pos rfl]
  ·rw[atKey_put_other (Zqg e),h3];show _=DataW.held (if y=x then v else f y);rw[if_neg e]
theorem Z9(w:World)(n:Nat):ZD w (w.drewN n):=⟨rfl,rfl,rfl,aE _,λ_ _=>rfl⟩
theorem Zga{α : Type}{l k:List α}{j:Nat}(h1:j<l.length)(h2:j<k.length)(h:l.take j=k.take j)(e:l[j]=k[j]):l.take (j+1)=k.take (j+1):=by
 rw[aH h1,aH h2,h,e]
theorem Bu{α : Type}{l k:List α}{j:Nat}(h1:j<l.length)(h2:j<k.length)(e:l[j]≠k[j]):l≠k:=λh=>by
 subst h;exact e rfl
theorem Zdo(b1 o1 b2 o2 n c d:Nat)(l k:List (Int×Int))(o:Bool)(w:World)(hn:n<=aT)(z1:l.length=n)(z2:k.length=n)
  (h1:∀ i,i<n->w.cell? ⟨b1,o1+i*2,aD⟩=dG (E J (l.getD i (0,0)).1)/\w.cell? ⟨b1,o1+i*2+1,aD⟩=dG (E J (l.getD i (0,0)).2))
  (h2:∀ i,i<n->w.cell? ⟨b2,o2+i*2,aD⟩=dG (E J (k.getD i (0,0)).1)/\w.cell? ⟨b2,o2+i*2+1,aD⟩=dG (E J (k.getD i (0,0)).2)) (ho:decide (l=k)=o) :
  Calls aB 72 #[F (dG ⟨b1,o1,aD⟩) n c,F (dG ⟨b2,o2,aD⟩) n d] w λe w'=>e = dB (dF o)/\∃ m,w'=w.drewN m:=by
 subst ho;unfold aT at hn;have⟨H1,H2,Z1,Z2⟩:=kh4 h1 h2 z1 z2;go_enter func72,ntmps72;go_wp2
 go_loopw [13] (λi wr=>∃ j m:Nat,j<=n/\i = E J j/\wr=w.drewN m/\Hid (l.take j=k.take j)) (λi _=>n - (intOf i).toNat)
 case atStart=>exact⟨0,0,aI _,rfl,rfl,rfl⟩
 case round=>
  obtain⟨j,m,hk,rfl,rfl,A⟩:=hrel;by_cases aa:j<n
  ·have ag:j<l.length:=(by rw[Za Z1];exact aa);have ah:j<k.length:=(by rw[Za Z2];exact aa);have⟨g1,g2⟩:=H1 j aa;have⟨g3,g4⟩:=H2 j aa;have e1:l.getD j (0,0)=l[j]:=(by simp[ag]);have e2:k.getD j (0,0)=k[j]:=(by simp[ah]);rw[e1] at g1 g2;rw[e2] at g3 g4;have⟨TS,TU⟩:=kh2 (Zga ag ah A) (Bu ag ah);have⟨q,hq⟩:=ZF (l[j]);have⟨r,hr⟩:=ZF (k[j]);rw[hq] at g1 g2;rw[hr] at g3 g4;rw[hq,hr] at TS TU;have⟨q1,q2⟩:=q;have⟨r1,r2⟩:=r;simp only at g1 g2 g3 g4;by_cases he:q1=r1
   ·subst he;by_cases hf:q2=r2
    ·subst hf;have T:=Zb (TS rfl);go_wp2
     go_quiet (fail)
     go_wp2;go_roundw
     case rel=>exact⟨j+1,m+nq,by omega,by go_num,rfl,T⟩
     case measure=>simp[intOf];omega
    ·have U:Hid (decide (l=k)=false):=decide_eq_false (TU (λe=>hf (by injection e)));go_wp2
     go_quiet (fail)
     go_wp2;go_ret;exact⟨by rw[Za U];rfl,m+nq,by simp[World.drewN,Nat.add_assoc]⟩
   ·have U:Hid (decide (l=k)=false):=decide_eq_false (TU (λe=>he (by injection e)));go_wp2
    go_quiet (fail)
    go_wp2;go_ret;exact⟨by rw[Za U];rfl,m+nq,by simp[World.drewN,Nat.add_assoc]⟩
  ·have U:Hid (decide (l=k)=true):=by
    have h:=Za A;rw[aM (by rw[Za Z1];omega),aM (by rw[Za Z2];omega)] at h;exact decide_eq_true h
   go_wp2;go_ret;exact⟨by rw[Za U];rfl,m,rfl⟩
theorem Zdq(a b)(n m c d:Nat)(w)(h:n≠m) :
  Calls aB 72 #[F a n c,F b m d] w λe w'=>e = dB (dF false)/\w=w':=by
 have g:((n:Int) != (m:Int))=true:=by simp;omega
 go_enter func72,ntmps72;go_wp2;go_ret;exact⟨rfl,rfl⟩
theorem Zdp(a b c d w) :
  Calls aB 72 #[F a 0 c,F b 0 d] w λe w'=>e = dB (dF true)/\w=w':=by
 go_enter func72,ntmps72;go_wp2;refine wp_loop_rounds 1 ?_;rw[rounds_succ];go_wp2;go_ret;exact⟨rfl,rfl⟩
theorem Zmw(a b)(n m c d:Nat)(l k)(o:Bool)(w:World)(hn:n<=aT)(hA:OpsAt w a n l)(hB:OpsAt w b m k)(ho:decide (l=k)=o) :
  ZH 72 #[F a n c,F b m d] w (dF o):=by
 by_cases h:n=m
 ·subst h;by_cases h0:n=0
  ·subst h0;have e1:l=[]:=aJ.1 hA.1;have e2:k=[]:=aJ.1 hB.1;subst e1 e2;rw[decide_eq_true rfl] at ho;subst ho;exact (Zdp a b c d w).mono λe w' ⟨h1,h2⟩=>⟨h1,h2 ▸ Below.refl _ _⟩
  ·obtain⟨b1,o1,rfl,h1⟩:=hA.2 (by omega);obtain⟨b2,o2,rfl,h2⟩:=hB.2 (by omega);exact (Zdo b1 o1 b2 o2 n c d l k o w hn hA.1 hB.1 h1 h2 ho).mono λe w' ⟨e1,q,e2⟩=>⟨e1,by rw[e2];exact Z9 w q⟩
 ·have e:l≠k:=λe=>h (by rw[<-hA.1,<-hB.1,e]);rw[decide_eq_false e] at ho;subst ho;exact (Zdq a b n m c d w h).mono λe w' ⟨h1,h2⟩=>⟨h1,h2 ▸ Below.refl _ _⟩
def R7(g:TxD->Bool):List TxD->Nat->Int
 | [],_=>-1
 | t :: r,k=>if g t=true then k else R7 g r (k+1)
theorem Zqr(g:TxD->Bool)(L:List TxD)(k:Nat)(h:k<L.length):R7 g (L.drop k) k=if g L[k]=true then (k:Int) else R7 g (L.drop (k+1)) (k+1):=by
 rw[aK h,R7]
theorem Zaj(g:TxD->Bool):∀ (L:List TxD) (k:Nat),decide (0<=R7 g L k)=L.any g
 | [],_=>by simp[R7]
 | t :: r,k=>by
  rw[R7,List.any_cons];by_cases h:g t=true
  ·rw[if_pos h,h];simp
  ·have h':g t=false:=(by simpa using h);rw[if_neg h,Zaj g r,h',Bool.false_or]
structure Zej(f:Nat)(caps:Array Value)(W0:World)(g:TxD->Bool):Prop where
 enters:∀ args w,(callFunc f args).run aB w = .ok (.enter f args) w
 call:∀ w,ZD W0 w->∀ (th:Int) (ai ao:Option Addr) (ni ci no co:Nat) (I:List InD) (O:List Yd),InsAt w ai ni I->OutsAt w ao no O->SlOk ai ni ci->SlOk ao no co ->
  Calls aB f (#[.agg #[E J th,F ai ni ci,F ao no co]]++caps) w λe w'=>e = dB (dF (g (th,I,O)))/\ZD w w'
theorem Zdf(f:Nat)(caps)(g:TxD->Bool)(a n c L)(w:World)(hT:Zej f caps w g)(hL:TxsAt w a n L)(hn:n<=aT) :
  ZH 192 #[F a n c,.func (.func f) #[] caps] w (E J (R7 g L 0)):=by
 have⟨HT,HL,HZ⟩:=kh3 hT hL hL.1;have bf:n<=9223372036854775807:=hn;go_enter func192,ntmps192;go_wp2
 go_loopw [5,8] (λ_ i wr=>∃ k:Nat,k<=n/\i = E J k/\Hid (R7 g L 0=R7 g (L.drop k) k)/\ZD w wr) (λ_ i _=>n - (intOf i).toNat)
 case atStart=>exact⟨0,aI _,rfl,rfl,Below.refl _ _⟩
 case round=>
  obtain⟨k,hk,rfl,A,hb⟩:=hrel;have HB:=Zb hb;by_cases av:k<n
  ·have ap:k<L.length:=(by rw[Za HZ];exact av);obtain⟨b,off,rfl,an,aw⟩:=HL.2 (by omega);have⟨c0,⟨ai,ni,ci,c1,ak,ay⟩,ao,no,co,c2,am,az⟩:=aw k ap;have c0:=Ze hb c0;have c1:=Ze hb c1;have c2:=Ze hb c2;have an:b<wr.heap.size:=aF an hb.size;have S:=Zb (Zqr g L k ap);have⟨t,ht⟩:=ZF (L[k]);rw[ht] at c0 ak am S;have⟨th,tI,tO⟩:=t;have CC:=Zb (HT.call wr hb th ai ao ni ci no co tI tO (ak.later hb) (am.later hb) ay az);have eg:=HT.enters;simp only at c0;cases hg:g (th,tI,tO) with
   | true=>
    rw[hg] at CC S;have S2:Hid (R7 g L 0=k):=(by show _=_;rw[Za A,Za S,if_pos rfl]);go_wp2_with fail;refine CC.mono ?_;rintro e w2 ⟨rfl,af⟩;have ae:=Zb (Zf HB af);go_wp2;go_ret;exact⟨by rw[Za S2];rfl,Za ae⟩
   | false=>
    rw[hg] at CC S;have S2:Hid (R7 g L 0=R7 g (L.drop (k+1)) (k+1)):=(by show _=_;rw[Za A,Za S,if_neg (by decide)]);go_wp2_with fail;refine CC.mono ?_;rintro e w2 ⟨rfl,af⟩;have ae:=Zb (Zf HB af);go_wp2;go_roundw
    case rel=>exact⟨k+1,by omega,by go_num,S2,Za ae⟩
    case measure=>simp[intOf];omega
  ·have S2:Hid (R7 g L 0 = -1):=by
    show _=_;rw[Za A,bA (by rw[Za HZ];omega)];rfl
   go_wp2;go_ret;exact⟨by rw[Za S2];rfl,Za HB⟩
theorem N8(f:Nat)(caps)(g:TxD->Bool)(a n c)(L:List TxD)(o:Bool)(w:World)(hT:Zej f caps w g)(hL:TxsAt w a n L)(hn:n<=aT)(ho:L.any g=o) :
  ZH 147 #[F a n c,.func (.func f) #[] caps] w (dF o):=by
 have C1:=Zb (Zdf f caps g a n c L w hT hL hn);have HO:Hid (decide (0<=R7 g L 0)=o):=by show _=_;rw[Zaj];exact ho
 have⟨i,hi⟩:=ZF (R7 g L 0);rw[hi] at C1 HO;go_enter func147,ntmps147;go_wp2_with fail;refine C1.mono ?_;rintro e w1 ⟨rfl,hb⟩;have HB:=Zb hb;go_wp2;go_ret;exact⟨by rw[<-Za HO];rfl,Za HB⟩
namespace Bk
open Go.RowKit Go.Maps
theorem Lx{s:ByteArray}{L:List ByteArray}{k:Nat}(h:k<L.length)(h0:place s (L.take k)=0)(e:L[k]≠s):place s (L.take (k+1))=0:=by
 rw[aH h,Wp,if_pos h0];have:place s [L[k]]=0:=by rw[place_zero];simp;exact λh2=>e h2.symm
 rw[this];rfl
theorem Du{s:ByteArray}{L:List ByteArray}{k:Nat}(h:k<L.length)(h0:place s (L.take k)=0)(e:L[k]=s):place s L=k+1:=by
 have h1:place s (L.take (k+1))=k+1:=by
  rw[aH h,Wp,if_pos h0,e];simp[place];omega
 rw[Jm] at h1;split at h1
 ·exact h1
 ·omega
def idx(s:ByteArray)(L:List ByteArray):Int:=(place s L:Int) - 1
theorem index_is(a)(n c:Nat)(L)(s:ByteArray)(x:Int)(w:World)(hn:n<=aT)(h:TextsAt w a n L)(hx:idx s L=x) :
  ZH 45 #[F a n c,.string s] w (E J x):=by
 have⟨HT,HX⟩:=kh2 h hx;unfold aT at hn;go_enter func45,ntmps45;go_wp2
 go_loop [8] (λi=>∃ j:Nat,j<=n/\i = E J j/\Hid (place s (L.take j)=0)) (λi=>n - (intOf i).toNat)
 case atStart=>exact⟨0,aI _,rfl,rfl⟩
 case round=>
  obtain⟨j,hk,rfl,A⟩:=hrel;by_cases ak:j<n
  ·have⟨hz,af⟩:=Za HT;obtain⟨b,off,rfl,hc⟩:=af (by omega);have h1:j<L.length:=(by omega);have f:=hc j h1;have⟨PS,PH⟩:=kh2 (Lx h1 A) (Du h1 A);have⟨t,ht⟩:=ZF (L[j]);rw[ht] at f PS PH;by_cases e:t=s
   ·subst e;have R:Hid (x=j):=(by show _=_;rw[<-Za HX];unfold idx;rw[(Za PH) rfl];omega);go_wp2;go_ret;exact⟨by rw[Za R];rfl,Below.refl _ _⟩
   ·have R:=Zb (PS e);have g:=str_ne (λh:s=t=>e h.symm);go_wp2
    go_round
    case rel=>exact⟨j+1,by omega,by go_num,R⟩
    case measure=>simp[intOf];omega
  ·have R:Hid (x = -1):=by
    have h:=Za A;rw[aM (by rw[(Za HT).1];omega)] at h;show _=_;rw[<-Za HX];unfold idx;rw[h];rfl
   go_wp2;go_ret;exact⟨by rw[Za R];rfl,Below.refl _ _⟩
theorem indexS_is(a)(n c:Nat)(L)(s:ByteArray)(x:Int)(w:World)(hn:n<=aT)(h:TextsAt w a n L)(hx:(place s L:Int) - 1=x) :
  ZH 45 #[F a n c,.string s] w (E J x):=Bk.index_is a n c L s x w hn h hx
end Bk
open Go.RowKit
def KAt(w:World)(d:Nat)(K:List ByteArray):Prop:=∃ ka kn kc,w.cell? ⟨d,0,aD⟩=dG (F ka kn kc)/\Bk.TextsAt w ka kn K/\SlOk ka kn kc/\d<w.heap.size
theorem KAt.later{w w':World}{d K}(h:KAt w d K)(hb:ZD w w'):KAt w' d K:=by
 have⟨ka,kn,kc,h1,h2,h3,h4⟩:=h;exact⟨ka,kn,kc,Ze hb h1,h2.later hb,h3,aF h4 hb.size⟩
def knT(K:List ByteArray)(t:TxD):Bool:=decide (Zp t=0) && !decide (Bk.place (txT t) K=0)
def kbD(K:List ByteArray)(s:Int)(b:Zk):Bool:=decide (Yu b=0) && (decide ((Bk.place (Se b) K:Int)=s) && b.2.2.2.2.all (knT K))
theorem D7(d)(s:ByteArray)(K)(x:Int)(w:World)(h:KAt w d K)(hx:(Bk.place s K:Int)=x) :
  ZH 146 #[dE (dG ⟨d,0,aD⟩),.string s] w (E J x):=by
 have⟨ka,kn,kc,h1,h2,h3,h4⟩:=h;have C1:=Zb (Bk.indexS_is ka kn kc K s (x - 1) w h3.len h2 (by omega));have hl:=Bk.place_le s K;have hk:=h2.1;have hs:kn<=9223372036854775807:=h3.len;have ah:IntKind.i64.wrap (x - 1+1)=x:=by rw[aP];omega
 have aj:IntKind.i64.wrap x=x:=by rw[aP];omega
 have he:x - 1+1=x:=by omega
 go_enter func146,ntmps146;go_wp2_with fail;refine C1.mono ?_;rintro e w1 ⟨rfl,hb⟩;have HB:=Zb hb;go_wp2;go_ret;exact⟨by simp,Za HB⟩
theorem Ao(q d:Nat)(K)(w:World)(hE:Env w)(hq:w.cell? ⟨q,0,aD⟩=dG (dE (dG ⟨d,0,aD⟩)))(hK:KAt w d K) :
  Zej 148 #[dE (dG ⟨q,0,aD⟩)] w (λx=>!knT K x) where
 enters:=enters_of (fn:=Tryz.f148) (by kernel_rfl) (by kernel_rfl) rfl
 call V hV th ai ao ni ci no co I O hI hO sI sO:=by
  have⟨X,hX,aa,au⟩:=ka00 V [E J th,F ai ni ci,F ao no co] 50;have af:=Zf hV aa;have⟨x1,ag⟩:=ZF (Zp (th,I,O));have⟨T,hT⟩:=ZF (txT (th,I,O));have⟨y,hy⟩:=ZF ((Bk.place T K:Int));have C1:=Zb (Kx th ai ao ni ci no co I O T x1 X (hE.later af) (hI.later aa) (hO.later aa) sI ag hT);have C2:=Zb (λU (hu:ZD w U)=>D7 d T K y U (hK.later hu) hy)
  have HG:Hid ((!knT K (th,I,O))=(decide (x1≠0) || decide (y=0))):=by
   show _=_;unfold knT;rw[ag,hT,<-hy];by_cases e:x1=0
   ·simp[e]
   ·simp[e]
  show Calls _ _ _ _ (λe w'=>e = dB (dF (!knT K (th,I,O)))/\_);rw[Za HG];have⟨t0,t1,t2,tl⟩:=kc3 au;have⟨HB,ae,HQ⟩:=kh3 aa af hq;go_enter func148,ntmps148;go_wp2_with fail;rw[<-hX];(try go_wp2_with fail);refine C1.mono ?_;rintro e w1 ⟨rfl,ac⟩;have⟨ad,C3⟩:=kh2 (Zf HB ac) (C2 w1 (Zf ae ac));have q1:=Ze (Zf ae ac) HQ;have ql:=aC _ _ q1;by_cases e1:x1=0
  ·subst e1;go_wp2_with fail;refine C3.mono ?_;rintro e w2 ⟨rfl,av⟩;have al:=Zb (Zf ad av);go_wp2;go_ret;exact⟨by cases h:decide (y=0) <;> simp_all,Za al⟩
  ·have gx:(x1 != 0)=true:=(by simp[e1]);go_wp2;go_ret;exact⟨by simp[e1],Za ad⟩
theorem Zfb(K):∀ (L:List TxD),(!(L.any λx=>!knT K x))=L.all (knT K)
 | []=>rfl
 | t :: L=>by
  rw[List.any_cons,List.all_cons,<-Zfb K L];cases knT K t <;> simp
theorem Fd(d K a n c)(L:List TxD)(o:Bool)(w:World)(hE:Env w)(hK:KAt w d K)(hL:TxsAt w a n L)(hn:n<=aT)(ho:L.all (knT K)=o) :
  ZH 110 #[dE (dG ⟨d,0,aD⟩),F a n c] w (dF o):=by
 have⟨X,hX,aa,aj⟩:=ka00 w [dE (dG ⟨d,0,aD⟩)] 54;have⟨C1,HB⟩:=kh2 (N8 _ _ _ a n c L (!o) X (Ao w.heap.size d K X (hE.later aa) (Zd aj 0 _ rfl) (hK.later aa)) (hL.later aa) hn (by rw[<-ho,<-Zfb,Bool.not_not])) aa;go_enter func110,ntmps110;go_wp2_with fail;rw[<-hX];(try go_wp2_with fail);refine C1.mono ?_;rintro e w1 ⟨rfl,hb⟩;have ad:=Zb (Zf HB hb);go_wp2;go_ret;exact⟨by simp,Za ad⟩
theorem Zhy(d K)(s p h k o:Int)(a m c T)(y:Bool)(w:World)(hE:Env w)(hK:KAt w d K)(hT:TxsAt w a m T)(sT:SlOk a m c)(hy:kbD K s (p,h,k,o,T)=y) :
  ZH 109 #[dE (dG ⟨d,0,aD⟩),E J s,.agg #[E J p,E J h,E J k,E J o,F a m c]] w (dF y):=by
 have⟨X,hX,af,an⟩:=ka00 w [E J p,E J h,E J k,E J o,F a m c] 33;have⟨x1,ar⟩:=ZF (Yu (p,h,k,o,T));have⟨t,ht⟩:=ZF (Se (p,h,k,o,T));have⟨z,hz⟩:=ZF ((Bk.place t K:Int));have⟨g,hg⟩:=ZF (T.all (knT K));have C1:=Zb (Zbk p h k o a m c T t x1 X (hE.later af) (hT.later af) ar ht);have C2:=Zb (λU (hu:ZD w U)=>D7 d t K z U (hK.later hu) hz);have C3:=Zb (λU (hu:ZD w U)=>Fd d K a m c T g U (hE.later hu) (hK.later hu) (hT.later hu) sT.len hg)
 have HY:Hid ((decide (x1=0) && (decide (z=s) && g))=y):=by
  show _=_;rw[<-hy];unfold kbD;rw[ar,ht,hz];simp only;rw[hg]
 have⟨HB,be⟩:=kh2 af an;have⟨e0,e1,e2,e3,e4,el⟩:=kc5 an;go_enter func109,ntmps109;go_wp2_with fail;rw[<-hX];(try go_wp2_with fail);refine C1.mono ?_;rintro e w1 ⟨rfl,ad⟩;have⟨ab,az,D2⟩:=kh3 (Zf HB ad) ad (C2 w1 (Zf HB ad));by_cases q1:x1=0
 ·subst q1;go_wp2_with fail;refine D2.mono ?_;rintro e w2 ⟨rfl,ae⟩;have⟨ak,D3⟩:=kh2 (Zf ab ae) (C3 w2 (Zf ab ae));have h2:=ZE (Zf az ae) be;obtain⟨-,-,-,-,e4,el⟩:=kc5 h2;by_cases q2:z=s
  ·subst q2;go_wp2_with fail;refine D3.mono ?_;rintro e w3 ⟨rfl,bi⟩;have bd:=Zb (Zf ak bi);go_wp2;go_ret;exact⟨by rw[<-Za HY];simp,Za bd⟩
  ·have gz:(z == s)=false:=(by simp[q2]);go_wp2;go_ret;exact⟨by rw[<-Za HY];simp[q2],Za ak⟩
 ·have gx:(x1 == 0)=false:=by simp[q1]
  go_wp2;go_ret;exact⟨by rw[<-Za HY];simp[q1],Za ab⟩
def Nt(w:World)(q:Nat):Prop:=(∀ (j:Nat) (i i':Int),w.cell? ⟨q,j,aD⟩=dG (E J i)->w.cell? ⟨q,j+1,aD⟩=dG (E J i')->False)/\∀ (j:Nat) (s:ByteArray),w.cell? ⟨q,j,aD⟩≠dG (.string s)
theorem Zcs{w:World}{q:Nat}{es:Array MapEntry}{c:Nat}(h:w.heap[q]? = dG (.map es c)):Nt w q:=by
 refine⟨λj i i' h1 _=>?_,λj s h1=>?_⟩ <;> simp[bF,h] at h1
theorem Eo{w:World}{q:Nat}{a b c d n1 c1 n2 c2 n3 c3 n4 c4}{t:Int}{m:Option Nat}{ty:aY}(h:w.heap[q]? = dG (dA [F a n1 c1,F b n2 c2,F c n3 c3,F d n4 c4,E J t,.map m].toArray ty (0,0))):Nt w q:=by
 refine⟨λj i i' h1 h2=>?_,λj s h1=>?_⟩
 ·match j with
  | 0=>simp[bF,h] at h1
  | 1=>simp[bF,h] at h1
  | 2=>simp[bF,h] at h1
  | 3=>simp[bF,h] at h1
  | 4=>simp[bF,h] at h2
  | 5=>simp[bF,h] at h1
  | j+6=>simp[bF,h] at h1
 ·match j with
  | 0=>simp[bF,h] at h1
  | 1=>simp[bF,h] at h1
  | 2=>simp[bF,h] at h1
  | 3=>simp[bF,h] at h1
  | 4=>simp[bF,h] at h1
  | 5=>simp[bF,h] at h1
  | j+6=>simp[bF,h] at h1
theorem Zsb{w w'}{S:Nat->Prop}(g:Gr w w' S)(hS:∀ q,S q->Nt w q){a n l}(h:OpsAt w a n l):OpsAt w' a n l:=by
 refine⟨h.1,λh0=>?_⟩;obtain⟨b,off,rfl,hc⟩:=h.2 h0;refine⟨b,off,rfl,λi hi=>?_⟩;have⟨c0,c1⟩:=hc i hi;have hn:¬S b:=λq=>(hS b q).1 _ _ _ c0 c1;exact⟨g.cell c0 hn,g.cell c1 hn⟩
theorem Znj{w w'}{S:Nat->Prop}(g:Gr w w' S)(hS:∀ q,S q->Nt w q){a n C}(h:CoinsAt w a n C):CoinsAt w' a n C:=by
 refine⟨h.1,λh0=>?_⟩;obtain⟨b,off,rfl,hl,hc⟩:=h.2 h0;refine⟨b,off,rfl,aF hl g.size,λi hi=>?_⟩;have⟨c0,c1,c2,⟨la,ln,lc,c3,h5,h6⟩,c4,c5⟩:=hc i hi;have hn:¬S b:=λq=>(hS b q).1 _ _ _ c0 c1;exact⟨g.cell c0 hn,g.cell c1 hn,g.cell c2 hn,⟨la,ln,lc,g.cell c3 hn,Zsb g hS h5,h6⟩,g.cell c4 hn,g.cell c5 hn⟩
def J3(β : Int->List Zi)(s:Int)(C:List Zi):Int->List Zi:=λx=>if x=s then C else β x
structure Tl(w:World)(ka:Option Addr)(kn:Nat)(K:List ByteArray)(na:Option Addr)(nn:Nat)(N:List Int)(ba:Option Addr)(bn:Nat)(T:List Zk)(pa:Option Addr)(pn:Nat)(P:List TxD):Prop where
 k:Bk.TextsAt w ka kn K
 n:Tr.IntsAt w na nn N
 b:Tr.BlksAt w ba bn T
 p:TxsAt w pa pn P
def Zon(w:World)(f:Int->Value)(β : Int->List Zi):Prop:=∀ x,∃ a m c,f x = F a m c/\CoinsAt w a m (β x)/\SlOk a m c
structure DeskAt(Z:Nat->Prop)(w:World)(d bm m:Nat)(ka:Option Addr)(kn kc:Nat)(K:List ByteArray)(na:Option Addr)(nn nc:Nat)(N:List Int)(ba:Option Addr)(bn bc:Nat)(T:List Zk)(pa:Option Addr)(pn pc:Nat)(P:List TxD)(tip:Int)(f:Int->Value)(β : Int->List Zi):Prop where
 box:w.heap[d]? = dG (dA [F ka kn kc,F na nn nc,F ba bn bc,F pa pn pc,E J tip,.map (dG bm)].toArray 95 (0,0))
 dat:∀ W,Gr w W (λq=>q=d\/q=bm\/Z q)->Tl W ka kn K na nn N ba bn T pa pn P
 coi:∀ W,Gr w W (λq=>q=d\/q=bm)->Zon W f β
 sk:SlOk ka kn kc
 sn:SlOk na nn nc
 sb:SlOk ba bn bc
 sp:SlOk pa pn pc
 mp:BMap bm m f w
 ne:d≠bm
 zb:∀ q,Z q->q<w.heap.size
section
section
variable {Z : Nat -> Prop} {w w' : World} {d bm m : Nat} {ka na ba pa : Option Addr} {kn kc nn nc bn bc pn pc : Nat} {K : List ByteArray} {N : List Int} {T : List Zk} {P : List TxD} {tip : Int} {f : Int -> Value} {β : Int -> List Zi}
theorem DeskAt.now(h:DeskAt Z w d bm m ka kn kc K na nn nc N ba bn bc T pa pn pc P tip f β):Tl w ka kn K na nn N ba bn T pa pn P:=h.dat w (Gr.refl _ _)
theorem DeskAt.c(h:DeskAt Z w d bm m ka kn kc K na nn nc N ba bn bc T pa pn pc P tip f β):Zon w f β:=h.coi w (Gr.refl _ _)
theorem DeskAt.later(h:DeskAt Z w d bm m ka kn kc K na nn nc N ba bn bc T pa pn pc P tip f β)(hb:ZD w w'):DeskAt Z w' d bm m ka kn kc K na nn nc N ba bn bc T pa pn pc P tip f β:=
 ⟨(hb.block d (aA h.box)).trans h.box,λW g=>h.dat W ((Gr.of hb).trans g),λW g=>h.coi W ((Gr.of hb).trans g),h.sk,h.sn,h.sb,h.sp,h.mp.keep hb,h.ne,λq e=>aF (h.zb q e) hb.size⟩
theorem DeskAt.np(h:DeskAt Z w d bm m ka kn kc K na nn nc N ba bn bc T pa pn pc P tip f β)(q:Nat)(hq:q=d\/q=bm):Nt w q:=by
 rcases hq with rfl|rfl
 ·exact Eo h.box
 ·have⟨es,c,hm⟩:=h.mp.isMap;exact Zcs hm
theorem DeskAt.book(h:DeskAt Z w d bm m ka kn kc K na nn nc N ba bn bc T pa pn pc P tip f β):KAt w d K:=⟨ka,kn,kc,Zd h.box 0 _ rfl,h.now.k,h.sk,aA h.box⟩
theorem DeskAt.put(h:DeskAt Z w d bm m ka kn kc K na nn nc N ba bn bc T pa pn pc P tip f β){W:World}(hb:ZD w W){s:Int}{a n c C}(hC:CoinsAt W a n C)(sC:SlOk a n c)
  (hm:BMap bm (m+1) (λy=>if y=s then F a n c else f y) w') (hg:W.grownBy w' (dG bm)):DeskAt Z w' d bm (m+1) ka kn kc K na nn nc N ba bn bc T pa pn pc P tip (λy=>if y=s then F a n c else f y) (J3 β s C):=by
 have h2:=h.later hb;have g:Gr W w' (λq=>q=bm):=(Gr.refl W (λq=>q=bm)).grown hg (λq e=>.inl (by injection e with e;exact e.symm));have g2:Gr W w' (λq=>q=d\/q=bm):=g.mono (λq _ e=>.inr e);refine⟨g.heap h2.box h.ne,λV gv=>h2.dat V ((g.mono (λq _ e=>.inr (.inl e))).trans gv),λV gv=>?_,h.sk,h.sn,h.sb,h.sp,hm,h.ne,λq e=>aF (h2.zb q e) g.size⟩;have D:=h2.coi V (g2.trans gv);intro x;unfold J3;by_cases e:x=s
 ·simp only[if_pos e];exact⟨a,n,c,rfl,Znj (g2.trans gv) (λq hq=>h2.np q hq) hC,sC⟩
 ·simp only[if_neg e];exact D x
theorem DeskAt.widen(h:DeskAt Z w d bm m ka kn kc K na nn nc N ba bn bc T pa pn pc P tip f β)(hb:ZD w w')(r:Nat)(hr:w.heap.size<=r)(ac:r<w'.heap.size):DeskAt (λq=>Z q\/q=r) w' d bm m ka kn kc K na nn nc N ba bn bc T pa pn pc P tip f β:=by
 have h2:=h.later hb;refine⟨h2.box,λW g=>h.dat W ((Gr.of hb).far g (λq e=>?_)),h2.coi,h2.sk,h2.sn,h2.sb,h2.sp,h2.mp,h2.ne,λq e=>?_⟩
 ·rcases e with e|e|e|e
  ·exact .inr (.inl e)
  ·exact .inr (.inr (.inl e))
  ·exact .inr (.inr (.inr e))
  ·exact .inl (e ▸ hr)
 ·rcases e with e|e
  ·exact h2.zb q e
  ·exact e ▸ ac
end
end
theorem Jg{P:Program}{ops}{o:Oper}{a:Act}{w}{K:Act->World->Prop}{Q:Exit->Act->World->Prop}{ab:Prop}
  (hw:cL o (yielded ops a.tmps)=true) (f:FuncId) (vs) (he:(execOp a.eval o).run P w = .ok (.enter f vs) w) {R:Ending->World->Prop} (hc:Calls P f vs w R) (h:∀ e w',R e w'->∃ v,e = dB v/\K (a.put o.dst v) w') :
  if cL o (yielded ops a.tmps)=true then Oper.wp P o a w K Q else ab:=by
 rw[if_pos hw];unfold Oper.wp;rw[he,Oper.upon_enter];refine hc.mono ?_;intro e w' hr;obtain⟨v,rfl,hk⟩:=h e w' hr;exact hk
