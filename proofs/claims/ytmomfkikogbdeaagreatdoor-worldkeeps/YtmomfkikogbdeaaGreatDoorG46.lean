import Derived.Test.YtmomfkikogbdeaaGreatDoorH
import Derived.Test.YtmomfkikogbdeaaGreatDoorG45
open Go.Proofs.Tryz
open Go renaming heap_alloc_new->aJ,bodyPost_ret->aW
open Go.Ending renaming returned->cS
open Go.IntKind renaming i64->J
open Go.Obj renaming cells->cR
open Go.Proofs.Tryz renaming prog->aA
open Go.Value renaming int->E,slice->F,tuple->cT,pointer->cU
open List renaming getElem_mem->aX
open Nat renaming le_refl->aF,le_of_eq->cG
open Prod renaming fst->bK
set_option maxHeartbeats 12800000
set_option maxRecDepth 10000
namespace Go.Proofs.YtmomfkikogbdeaaGreatDoor
open Go.RowKit
section
variable {W : WD} {xt xw xN th : Int} {ai ao : Option Addr} {ni ci no co : Nat}
theorem Zhk{xn:Int}{k:Nat}{ti:Nat}{x:Int}{W':WD}(hc:Xl W.k W.n W.m=0)(hk:k<W.m.length)(hz:W.m[k].1=3/\W.m[k].2.2.1=ti)(ac:ti<W.n.length)(hx:(W.lost k).offer ti W.m[k].2.2.2.2.2=(x,W')):Di (.agg #[E J 3,E J xn,E J xt,E J k,E J xw,E J xN,E J th,F ai ni ci,F ao no co]) W 0 W':=λZ V s hE Q=>by
 obtain⟨_,q2,_,_,q5,q6,_⟩:=Yc hc;refine Uh Z s xn xt k xw xN th ai ao ni ci no co 0 W' V (λU p q z hb=>?_);refine Xo Z s W 3 xn xt k xw xN th ai ao ni ci no co p q 238 #[cU (some ⟨s,0,none⟩)] #[] 0 W' true U hb.1 hb.2 (Q.later z) (Y5 hk) (λ_=>⟨enters_of (fn:=Tryz.f238) (by kernel_rfl) (by kernel_rfl) rfl,λV2 h2=>?_⟩) 0 (if_pos rfl);refine (Zaa Z s W 3 xn xt k xw xN th ai ao ni ci no co V2 (λU2 g=>hE U2 ((Gr.of (Zf z h2)).trans g)) (Q.later (Zf z h2)) hk q5 ti hz ac (Qc (q6 _ (aX ac))) x W' hx).mono ?_;rintro e V3 ⟨rfl,h3,h4⟩;exact⟨rfl,λ_=>h3,h4⟩
theorem Zhl{P:World->Prop}{xn:Int}{k:Nat}{ti:Nat}{W':WD}(hc:Xl W.k W.n W.m=0)(hk:k<W.m.length)(hz:W.m[k].1=2/\W.m[k].2.2.1=ti)(af:ti<W.n.length)(ad:Tr.BlkSmall (Tr.blockE W.n[ti].1 W.n[ti].2.1 W.m[k].2.2.2.1).1)(hx:(W.lost k).asked ti W.m[k].2.1 W.m[k].2.2.2.1=W'):HapP P (.agg #[E J 3,E J xn,E J xt,E J k,E J xw,E J xN,E J th,F ai ni ci,F ao no co]) W 0 W':=λZ V s hE z=>by
 obtain⟨_,q2,_,_,q5,q6,_⟩:=Yc hc;refine Uh Z s xn xt k xw xN th ai ao ni ci no co 0 W' V (λU p q Q hb=>?_);refine Xo Z s W 3 xn xt k xw xN th ai ao ni ci no co p q 238 #[cU (some ⟨s,0,none⟩)] #[] 0 W' true U hb.1 hb.2 (z.later Q) (Y5 hk) (λ_=>⟨enters_of (fn:=Tryz.f238) (by kernel_rfl) (by kernel_rfl) rfl,λV2 h2=>?_⟩) 0 (if_pos rfl);refine (Zab Z s W 3 xn xt k xw xN th ai ao ni ci no co V2 (z.later (Zf Q h2)) hk q5 ti hz af ad W' hx).mono ?_;rintro e V3 ⟨rfl,h3,h4⟩;exact⟨rfl,λ_=>h3,h4⟩
theorem Zdo{P:World->Prop}{xn xi:Int}{W':WD}(h:Xf xn W.n.length=false):HapP P (.agg #[E J 1,E J xn,E J xt,E J xi,E J xw,E J xN,E J th,F ai ni ci,F ao no co]) W 5 W':=λZ V s hE Q=>by
 refine Kj Z s xn xt xi xw xN th ai ao ni ci no co 5 W' V (λU p q hU z=>?_);exact Yx Z s W 1 xn xt xi xw xN th ai ao ni ci no co p q 235 #[cU (some ⟨s,0,none⟩)] #[] 0 W' false U z.1 z.2 (Q.later hU) h (λe=>by cases e) 5 (if_neg (by decide))
theorem Zdn{P:World->Prop}{xn xi:Int}{W':WD}(h:Xf xn W.n.length=false):HapP P (.agg #[E J 2,E J xn,E J xt,E J xi,E J xw,E J xN,E J th,F ai ni ci,F ao no co]) W 5 W':=λZ V s hE Q=>by
 refine Ki Z s xn xt xi xw xN th ai ao ni ci no co 5 W' V (λU p q hU z=>?_);exact Yx Z s W 2 xn xt xi xw xN th ai ao ni ci no co p q 236 #[cU (some ⟨s,0,none⟩)] #[] 0 W' false U z.1 z.2 (Q.later hU) h (λe=>by cases e) 5 (if_neg (by decide))
theorem Zdm{P:World->Prop}{xn xi:Int}{W':WD}(h:Xf xi W.m.length=false):HapP P (.agg #[E J 3,E J xn,E J xt,E J xi,E J xw,E J xN,E J th,F ai ni ci,F ao no co]) W 5 W':=λZ V s hE Q=>by
 refine Uh Z s xn xt xi xw xN th ai ao ni ci no co 5 W' V (λU p q hU z=>?_);exact Xo Z s W 3 xn xt xi xw xN th ai ao ni ci no co p q 238 #[cU (some ⟨s,0,none⟩)] #[] 0 W' false U z.1 z.2 (Q.later hU) h (λe=>by cases e) 5 (if_neg (by decide))
theorem Zdl{P:World->Prop}{xn xi:Int}{W':WD}(h:Xf xi W.m.length=false):HapP P (.agg #[E J 4,E J xn,E J xt,E J xi,E J xw,E J xN,E J th,F ai ni ci,F ao no co]) W 5 W':=λZ V s hE Q=>by
 refine Kh Z s xn xt xi xw xN th ai ao ni ci no co 5 W' V (λU p q hU z=>?_);exact Xo Z s W 4 xn xt xi xw xN th ai ao ni ci no co p q 239 #[cU (some ⟨s,0,none⟩)] #[] 0 W' false U z.1 z.2 (Q.later hU) h (λe=>by cases e) 5 (if_neg (by decide))
theorem Zdk{P:World->Prop}{xn xi:Int}{W':WD}(h:Xf xi W.m.length=false):HapP P (.agg #[E J 5,E J xn,E J xt,E J xi,E J xw,E J xN,E J th,F ai ni ci,F ao no co]) W 5 W':=λZ V s hE Q=>by
 refine Kg Z s xn xt xi xw xN th ai ao ni ci no co 5 W' V (λU p q p' q' hU hb z=>?_);exact Xo Z s W 5 xn xt xi xw xN th ai ao ni ci no co p' q' 274 #[] #[cU (some ⟨p,0,none⟩),cU (some ⟨q,0,none⟩)] 0 W' false U z.1 z.2 (Q.later hU) h (λe=>by cases e) 5 (if_neg (by decide))
theorem Zdj{P:World->Prop}{xn xi:Int}{W':WD}(h:Xf xn W.n.length=false):HapP P (.agg #[E J 6,E J xn,E J xt,E J xi,E J xw,E J xN,E J th,F ai ni ci,F ao no co]) W 5 W':=λZ V s hE Q=>by
 refine Kf Z s xn xt xi xw xN th ai ao ni ci no co 5 W' V (λU p q p' q' ac ae hU hb ag z=>?_);exact Yx Z s W 6 xn xt xi xw xN th ai ao ni ci no co ac ae 276 #[] #[cU (some ⟨p',0,none⟩),cU (some ⟨q',0,none⟩)] 0 W' false U z.1 z.2 (Q.later hU) h (λe=>by cases e) 5 (if_neg (by decide))
theorem Zdi{P:World->Prop}{xn xi:Int}{W':WD}(h:Xf xn W.n.length=false):HapP P (.agg #[E J 7,E J xn,E J xt,E J xi,E J xw,E J xN,E J th,F ai ni ci,F ao no co]) W 5 W':=λZ V s hE Q=>by
 refine Ke Z s xn xt xi xw xN th ai ao ni ci no co 5 W' V (λU p q hU z=>?_);exact Yx Z s W 7 xn xt xi xw xN th ai ao ni ci no co p q 244 #[cU (some ⟨s,0,none⟩)] #[] 0 W' false U z.1 z.2 (Q.later hU) h (λe=>by cases e) 5 (if_neg (by decide))
theorem Zdh{P:World->Prop}{xn xi:Int}{W':WD}(h:Xf xn W.n.length=false):HapP P (.agg #[E J 8,E J xn,E J xt,E J xi,E J xw,E J xN,E J th,F ai ni ci,F ao no co]) W 5 W':=λZ V s hE Q=>by
 refine Kd Z s xn xt xi xw xN th ai ao ni ci no co 5 W' V (λU p q p' q' ac ae hU hb ag z=>?_);exact Yx Z s W 8 xn xt xi xw xN th ai ao ni ci no co ac ae 276 #[] #[cU (some ⟨p',0,none⟩),cU (some ⟨q',0,none⟩)] 0 W' false U z.1 z.2 (Q.later hU) h (λe=>by cases e) 5 (if_neg (by decide))
end
theorem Eg{P:World->Prop}{W W':WD}{xk xn xt xi xw xN th:Int}{ai ao ni ci no co}(hk:(decide (1<=xk) && decide (xk<=8))=false):HapP P (.agg #[E J xk,E J xn,E J xt,E J xi,E J xw,E J xN,E J th,F ai ni ci,F ao no co]) W 4 W':=λZ w s _ _=>by
 obtain⟨X,z⟩:=ZG (w.alloc (cR #[E J xk,E J xn,E J xt,E J xi,E J xw,E J xN,E J th,F ai ni ci,F ao no co] 103));have ac:ZD w X:=by rw[z];exact Zh _ _
 have Q:X.heap[w.heap.size]? = some (cR [E J xk,E J xn,E J xt,E J xi,E J xw,E J xN,E J th,F ai ni ci,F ao no co].toArray 103 (0,0)):=by rw[z];exact aJ _ _
 have C1:=Zd (Z9 xk 1 8 false X hk);have aa:=Zd ac;have m0:=Zb Q 0 _ rfl;have ml:=lt_of_block Q;clear ac Q hk;go_enter func129,ntmps129
 go_upto_region 1 with fail
 rw[<-z];clear z;go_wp2_with fail;refine C1.mono ?_;rintro e w1 ⟨rfl,ab⟩;have ae:=onb aa ab;clear ab C1 aa m0 ml;go_wp2;go_ret;exact⟨rfl,λe=>absurd e (by decide),Gr.of ae⟩
def Zbe(y z:Vo):Prop:=(∃ M,z.1=y.1++M)/\∃ v u,Tr.workE y.1 y.2.1 y.2.2.2=(v,0)/\Tr.workE z.1 z.2.1 z.2.2.2=(u,0)/\v<=u
def Wu(W W':WD):Prop:=Xl W'.k W'.n W'.m=0/\W'.n.length=W.n.length/\(∃ M,W'.k=W.k++M)/\∃ j,∀ i (h:i<W.n.length) (h':i<W'.n.length),Zbe W.n[i] W'.n[i]/\(i≠j->W'.n[i]=W.n[i])
theorem Qn{K}{y z:Vo}(h:opN K y=0)(e1:z.1=y.1)(e2:z.2.1=y.2.1)(e3:z.2.2.2=y.2.2.2):Zbe y z:=by
 obtain⟨_,o2,_,_⟩:=Yp h;obtain⟨b1,Q⟩:=Yn o2;refine⟨⟨[],by rw[e1];simp⟩,_,_,Tr.workE_mk b1 Q,?_,Int.le_refl _⟩;rw[e1,e2,e3];exact Tr.workE_mk b1 Q
theorem Zhf{W W':WD}(h:Xl W.k W.n W.m=0)(Q:W'.k=W.k)(hn:W'.n=W.n)(z:Xl W'.k W'.n W'.m=0):Wu W W':=by
 obtain⟨_,_,_,_,_,q6,_⟩:=Yc h;obtain⟨k',n',m'⟩:=W';obtain rfl:k'=W.k:=Q;obtain rfl:n'=W.n:=hn;exact⟨z,rfl,⟨[],by simp⟩,0,λi h1 _=>⟨Qn (q6 _ (aX h1)) rfl rfl rfl,λ_=>rfl⟩⟩
theorem V5{W V:WD}(h:Wu W V){m:Jb}(z:Re m V.n.length=0):Wu W (V.sent m):=by
 unfold WD.sent;split
 ·rename_i hl;obtain⟨h1,h2,h3,h4⟩:=h;obtain⟨Q,q2,q3,_,q5,q6,q7⟩:=Yc h1;refine⟨N8 (W:=⟨V.k,V.n,V.m++[m]⟩) Q q2 q3 (by simp;omega) q6 (λx hx=>?_),h2,h3,h4⟩
  rcases List.mem_append.1 hx with hx|hx
  ·exact q7 x hx
  ·rw[List.mem_singleton.1 hx];exact z
 ·exact h
theorem Zdc{W V:WD}(h:Wu W V)(k:Nat):Wu W (V.lost k):=⟨Ba h.1 k,h.2.1,h.2.2.1,h.2.2.2⟩
theorem Hy{W V:WD}(h:Wu W V){z fr nm:Int}{b:Zl}{t}(Q:∀ j:Nat,j<V.n.length->(j:Int)≠fr->Re (z,fr,j,nm,b,t) V.n.length=0):∀ j,j<=V.n.length->Wu W (V.sendAll z fr nm b t j)
 | 0,_=>h
 | j+1,hj=>by
  rw[WD.sendAll];have ih:=Hy h Q j (by omega);split
  ·exact ih
  ·rename_i q;refine V5 ih ?_;rw[(Mc V z fr nm b t j).1];exact Q j (by omega) q
theorem Hw{W:WD}(h:Xl W.k W.n W.m=0){i:Nat}(hi:i<W.n.length){D:Dsk}(o:opE D.k D.n D.t D.p D.tip=0)(hk:∃ M,D.k=W.k++M)(hn:Zbe W.n[i] (D.n,D.t,D.p,D.tip)):Wu W (W.put i D):=by
 obtain⟨q1,q2,q3,_,q5,q6,q7⟩:=Yc h;obtain⟨M,t6⟩:=hk
 have hR:Bk.Right (W.k++M):=by
  have:=(Yp o).1;rw[t6] at this;exact (Bk.right_iff _).1 this
 have z:(W.put i D).n.length=W.n.length:=by show (W.n.set i _).length=_;rw[List.length_set]
 refine⟨N8 (W:=W.put i D) (by rw[z];exact q1) (by rw[z];exact q2) (Yp o).1 q5 (λy Q=>?_) (λm hm=>?_),z,⟨M,t6⟩,i,λj h1 h2=>?_⟩
 ·rcases List.mem_or_eq_of_mem_set Q with Q|rfl
  ·show opN D.k y=0;rw[t6];exact Cn (q6 y Q) hR
  ·exact o
 ·rw[z];exact q7 m hm
 ·have ag:∀ (L:List Vo) (_:L=W.n.set i (D.n,D.t,D.p,D.tip)) (h3:j<L.length),Zbe W.n[j] L[j]/\(j≠i->L[j]=W.n[j]):=by
   intro L e3 h3;subst e3;by_cases e:i=j
   ·subst e;rw[List.getElem_set_self];exact⟨hn,λq=>absurd rfl q⟩
   ·rw[List.getElem_set_ne e];exact⟨Qn (q6 _ (aX h1)) rfl rfl rfl,λ_=>rfl⟩
  exact ag _ rfl h2
theorem Cx(l):chk l≠5:=by
 unfold chk;split
 ·decide
 ·induction l with
  | nil=>rw[Qh];decide
  | cons o r ih=>
   rw[Qh];split
   ·exact ih (by rename_i q _;simp at q;omega)
   ·unfold Ww;split
    ·decide
    split <;> decide
theorem Ts(L):Yi L≠5:=by
 unfold Yi;split
 ·decide
 ·have:∀ (L:List Zj) p s,Yw p s L≠5:=by
   intro L
   induction L with
   | nil=>intro p s;rw[Yw];decide
   | cons c L ih=>
    intro p s;rw[Yw];unfold ck1;have:=Cx (ck c)
    repeat' split
    all_goals first|exact ih _ _|assumption|decide|omega
  exact this _ _ _
theorem n5_tx(t):Zw t≠5:=by
 have h1:∀ (l p:List InD),Yb p l≠5:=by
  intro l
  induction l with
  | nil=>intro p;rw[Yb];decide
  | cons x r ih=>
   intro p;rw[Yb];unfold Xv;have:=Cx x.2.2
   repeat' split
   all_goals first|exact ih _|assumption|decide|omega
 have h2:∀ l:List Zz,Z8 l≠5:=by
  intro l
  induction l with
  | nil=>rw[Z8];decide
  | cons x r ih=>
   rw[Z8];unfold Yz;have:=Cx x.2
   repeat' split
   all_goals first|exact ih|assumption|decide|omega
 have h3:∀ (l:List Int) s,(sm s l).2≠5:=by
  intro l
  induction l with
  | nil=>intro s;rw[sm];simp
  | cons x r ih=>
   intro s;rw[sm]
   repeat' split
   all_goals first|exact ih _|decide
 unfold Zw Yj;have z:=h1 t.2.1 [];have Q:=h2 t.2.2;have a3:=h3 (t.2.2.map (·.1)) 0
 repeat' split
 all_goals first|assumption|decide
theorem n5_ap(C t)(n h:Int):(apD C t n h).1≠5:=by
 have h1:∀ (l:List InD) S L,(Zq h l S L).1≠5:=by
  intro l
  induction l with
  | nil=>intro S L;rw[Zq];simp
  | cons x r ih=>
   intro S L;rw[Zq]
   repeat' split
   all_goals first|exact ih _ _|decide
 have h2:∀ (l:List Zz) i r L,(Ya n h r i l L).1≠5:=by
  intro l
  induction l with
  | nil=>intro i r L;rw[Ya];simp
  | cons x q ih=>
   intro i r L;rw[Ya];split
   ·decide
   ·exact ih _ _ _
 have z:=h1 t.2.1 [] C;have Q:=h2 t.2.2 0 (isR t) (Zq h t.2.1 [] C).2.2;have a3:=Ts (Ya n h (isR t) 0 t.2.2 (Zq h t.2.1 [] C).2.2).2
 have a4:Wb C t n h≠5:=by
  unfold Wb Ju;have:=Ts C;have:=n5_tx t
  repeat' split
  all_goals first|assumption|decide
 have a5:Lo (Zq h t.2.1 [] C).2.1 t≠5:=by
  unfold Lo;split <;> decide
 unfold apD
 repeat' split
 all_goals first|assumption|simp
theorem Zar(K):Bk.bkChk K≠5:=by
 unfold Bk.bkChk;split
 ·decide
 ·have:∀ L s:List ByteArray,Bk.bkGo s L≠5:=by
   intro L
   induction L with
   | nil=>intro s;rw[Bk.bkGo];decide
   | cons c L ih=>
    intro s;rw[Bk.bkGo]
    repeat' split
    all_goals first|exact ih _|decide
  exact this _ _
theorem Zgw(K)(b:Zl)(h:Ym b=0):(Xu K b).2.2.2≠5:=by
 have h1:∀ (l L:List ByteArray) N,(Bk.nmGo L N l).2.2≠5:=by
  intro l
  induction l with
  | nil=>intro L N;rw[Bk.nmGo];simp
  | cons x r ih=>
   intro L N;rw[Bk.nmGo];split
   ·exact ih _ _
   ·unfold Bk.nm
    repeat' split
    all_goals simp
 have z:=h1 (Yk b) K [];have Q:=Zar K
 have a3:(Bk.allR K (Yk b)).2.2≠5:=by
  unfold Bk.allR;split
  ·exact z
  ·exact Q
 unfold Xu;rw[if_neg (λq=>q h)];split
 ·exact a3
 ·simp
theorem Zmu(K C)(b:Zl)(h:Ym b=0):(Ul K C b).1≠5:=by
 have h1:∀ (h r:Int) T N (q k:Nat) C S,(Ja h r T N q k C S).1≠5:=by
  intro h r T N q
  induction q with
  | zero=>intro k C S;rw[Ja];simp
  | succ q ih=>
   intro k C S;rw[Ja];have:=n5_ap C (T.getD ((k+1) % T.length) Xt) (N.getD ((k+1) % T.length) 0) h
   repeat' split
   all_goals first|exact ih _ _ _|assumption|decide
 have z:(nfD K C b).2≠5:=by
  unfold nfD;split
  ·exact Ts C
  ·exact Zgw K b h
 unfold Ul;split
 ·exact z
 ·exact h1 _ _ _ _ _ _ _ _
theorem Zkb{K N T P}{tip:Int}{b:Zl}(hc:Tr.chkTr N T=0)(z:Ym b=0)(β : Int->List Zj)(h:(tkR ⟨K,N,T,P,tip,β⟩ b).1=5):nmE b.1=0:=by
 by_cases h0:b.1=0
 ·exfalso
  revert h
  unfold tkR;simp only;obtain⟨⟨Q,s,Ns,x1⟩,h1⟩:=ZF (Xu K b);obtain⟨⟨N1,T1,x2⟩,h2⟩:=ZF (Tr.addE N T s b);have a1:=Zgw K b z;rw[h1] at a1 ⊢;simp only[h2]
  have a2:x2≠5:=by
   have e:(Tr.addE N T s b).2.2=x2:=by rw[h2]
   have q:Tr.nextD N T s b≠5:=by
    unfold Tr.nextD;rw[z]
    repeat' split
    all_goals first|decide|(rename_i q;exact absurd h0 q.1)
   rw[<-e];unfold Tr.addE;rw[if_neg (λq=>q hc)];split
   ·exact q
   split <;> simp
  have a3:=Zmu Q (β b.1) b z
  have a4:x2=0->(Tr.bstD N1 T1).2=0:=by
   intro e;subst e;unfold Tr.bstD;rw[if_neg (λq=>q (Zir h2).2.2)]
  have a5:∀ C P an,(Bu Q C P an).2.2≠5:=by
   intro C P an;unfold Bu swE Jk;have:=Zar Q;have:=Ts C
   repeat' split
   all_goals first|assumption|decide|simp
  repeat' split
  all_goals first|assumption|exact a5 _ _ _|(rename_i q;exact absurd (a4 (by simp_all)) q)|simp
 ·unfold nmE;unfold Ym at z;split at z
  ·cases z
  rename_i q;simp[Wp] at q;rw[if_pos (by omega)]
theorem nt_mk{K N T P}{tip nm:Int}{b:Zl}{D:Dsk}(o:opE K N T P tip=0)(e:tkR ⟨K,N,T,P,tip,(Z3 K N T noB).2⟩ b=(0,nm,D)):ntR K N T P tip b=(0,nm,D):=by
 unfold ntR;rw[if_neg (by rw[o];decide),e];rfl
theorem Mm{W:WD}(h:Xl W.k W.n W.m=0){i:Nat}(hi:i<W.n.length){b:Zl}{nm:Int}{D:Dsk}(z:ntR W.k W.n[i].1 W.n[i].2.1 W.n[i].2.2.1 W.n[i].2.2.2 b=(0,nm,D)):Wu W (W.put i D)/\Ym b=0:=by
 obtain⟨o,tk⟩:=nt_tk z;obtain⟨Q,_,t3,_,t5,t6,_⟩:=Jz o tk;obtain⟨_,_,_,g,_⟩:=Ah z;exact⟨Hw h hi Q t6 ⟨⟨[nm],t3⟩,g⟩,(Wj t5).1⟩
theorem Xp{W:WD}(h:Xl W.k W.n W.m=0):Wu W W:=Zhf h rfl rfl h
theorem Vx{i:Int}{n:Nat}(h:Xf i n=true):∃ k:Nat,i=k/\k<n:=by
 unfold Xf at h;simp at h;exact⟨i.toNat,by omega,by omega⟩
theorem Rc{z nm:Int}{b:Zl}{t}{i n:Nat}{j:Int}(hi:i<n)(Q:Xf j n=true)(aa:j≠i)(h:(if z=1 then Ym b else if z=2 then nmE nm else if z=3 then Zw t else 3)=0):Re (z,i,j,nm,b,t) n=0:=by
 unfold Re;rw[if_neg (by simp[Y5 hi,Q];omega)];exact h
theorem S8{N T}{s:Int}(h:(Tr.blockE N T s).2=0):Ym (Tr.blockE N T s).1=0:=by
 unfold Tr.blockE at *;split at h
 ·rename_i q;exact absurd h q
 rename_i q;rw[if_neg q];split at h
 ·rename_i q2;rw[if_pos q2];have z:=Decidable.not_not.1 q;have Q:=(W3 z).1;unfold Tr.chkTr at z;rw[if_neg (by omega)] at z;split at z
  ·cases z
  exact Tr.chkGo_blks _ _ _ _ Q z _ (Tr.fnd_at Q (by simpa using q2))
 ·cases h
theorem Ru:Tr.BlkSmall Yf:=⟨by decide,λt z=>by cases z⟩
theorem Pt(N T)(s:Int):Tr.BlkSmall (Tr.blockE N T s).1:=by
 by_cases h:(Tr.blockE N T s).2=0
 ·exact Tr.blk_small (S8 h)
 ·unfold Tr.blockE at *;split
  ·exact Ru
  rename_i q;rw[if_neg q] at h;split
  ·rename_i z;rw[if_pos z] at h;exact absurd rfl h
  ·exact Ru
theorem Cz(K N T P)(tip wk no:Int)(l):Tr.BlkSmall (nmR K N T P tip wk no l).2.1:=by
 obtain⟨⟨x,b,D⟩,z⟩:=ZF (nmR K N T P tip wk no l);by_cases h:x=0
 ·subst h;obtain⟨o,_,_,_,_,_,e⟩:=Hs z;rw[z];exact Tr.blk_small (Wj (Jz o e).2.2.2.2.1).1
 ·have e:b=Yf:=by
   unfold nmR at z;split at z
   ·exact (congrArg (·.2.1) z).symm
   split at z
   ·exact (congrArg (·.2.1) z).symm
   ·exact absurd (congrArg bK z).symm h
  rw[z,e];exact Ru
theorem HapP.mono{P P':World->Prop}{v}{W W':WD}{y:Int}(h:HapP P v W y W')(hp:∀ U,P' U->P U):HapP P' v W y W':=λZ V s hE z=>h Z V s (λU g=>hp U (hE U g)) z
theorem Zdb{W W':WD}(hc:Xl W.k W.n W.m=0){i:Nat}(hi:i<W.n.length){wk no n:Int}(hx:W.mine i wk no n=(0,W')):Wu W W':=by
 unfold WD.mine at hx;rw[dif_pos hi] at hx;simp only at hx;split at hx;rotate_left
 ·rename_i q;exact absurd (congrArg bK hx) q
 rename_i q;obtain⟨⟨x,b,D⟩,Q⟩:=ZF (nmR W.k W.n[i].1 W.n[i].2.1 W.n[i].2.2.1 W.n[i].2.2.2 wk no [(1,n),(7,0)]);rw[Q] at hx q;have q:x=0:=q;subst q;obtain⟨o,_,_,_,_,_,e⟩:=Hs Q;obtain⟨z,k2⟩:=Mm hc hi (nt_mk o e);have hx:(W.put i D).sendAll 1 i 0 b Xt W.n.length=W':=congrArg Prod.snd hx;rw[<-hx];refine Hy z (λj h1 h2=>?_) _ (by rw[z.2.1];exact aF _);rw[z.2.1] at h1 ⊢;exact Rc hi (Y5 h1) h2 (by simpa using k2)
theorem Hx{W W':WD}(z:Xl W.k W.n W.m=0){i:Nat}(hi:i<W.n.length){t}{x:Int}(hx:W.offer i t=(x,W')):Wu W W'/\(x=0->Zw t=0):=by
 unfold WD.offer at hx;rw[dif_pos hi] at hx;simp only at hx;obtain⟨⟨ah,D⟩,Q⟩:=ZF (noR W.k W.n[i].1 W.n[i].2.1 W.n[i].2.2.1 W.n[i].2.2.2 t);rw[Q] at hx;simp only[Prod.mk.injEq] at hx;obtain⟨rfl,rfl⟩:=hx;split
 ·rename_i q;subst q;obtain⟨o,o',_,_,e1,e2,e3,e4,e5⟩:=Cm Q;exact⟨Hw z hi o' e4 (Qn o e1 e2 e3),λ_=>e5⟩
 ·rename_i q;exact⟨Xp z,λe=>absurd e q⟩
theorem F8{W W':WD}(hc:Xl W.k W.n W.m=0){i:Nat}(hi:i<W.n.length){t}(hx:W.submit i t=(0,W')):Wu W W':=by
 unfold WD.submit at hx;obtain⟨⟨x,V⟩,z⟩:=ZF (W.offer i t);obtain⟨Q,k2⟩:=Hx hc hi z;rw[z] at hx;simp only[Prod.mk.injEq] at hx;obtain⟨rfl,rfl⟩:=hx;refine Hy Q (λj h1 h2=>?_) _ (aF _);rw[Q.2.1] at h1 ⊢;exact Rc hi (Y5 h1) h2 (by simpa using k2 rfl)
theorem Zda{W:WD}(Q:Xl W.k W.n W.m=0){i:Nat}(hi:i<W.n.length){fr:Int}{b:Zl}(hf:Xf fr W.n.length=true)(ac:fr≠i)(hb:Ym b=0):Wu W (W.told i fr b):=by
 unfold WD.told;rw[dif_pos hi];simp only;obtain⟨⟨ae,nm,D⟩,z⟩:=ZF (ntR W.k W.n[i].1 W.n[i].2.1 W.n[i].2.2.1 W.n[i].2.2.2 b);rw[z];simp only;split
 ·rename_i q;subst q;exact (Mm Q hi z).1
 split
 ·rename_i q;subst q;have o:=(Yc Q).2.2.2.2.2.1 _ (aX hi);refine V5 (Xp Q) (Rc hi hf ac ?_);simp only[show ¬((2:Int)=1) by decide,if_false,if_true];unfold ntR at z;rw[if_neg (λq=>q o)] at z;split at z
  ·exact Zkb (Yn (Yp o).2.1).1 hb _ (congrArg bK z)
  ·exact absurd (show (0:Int)=5 from congrArg bK z) (by decide)
 ·exact Xp Q
theorem Eb{W:WD}(z:Xl W.k W.n W.m=0){i:Nat}(hi:i<W.n.length){fr nm:Int}(Q:Xf fr W.n.length=true)(aa:fr≠i):Wu W (W.asked i fr nm):=by
 unfold WD.asked;rw[dif_pos hi];simp only;split
 ·rename_i q;exact V5 (Xp z) (Rc hi Q aa (by simpa using S8 q))
 ·exact Xp z
theorem F9{W:WD}(z:Xl W.k W.n W.m=0){i:Nat}(hi:i<W.n.length):Wu W (W.forget i):=by
 have o:=(Yc z).2.2.2.2.2.1 _ (aX hi)
 have e:W.forget i=W.put i ⟨W.k,W.n[i].1,W.n[i].2.1,[],W.n[i].2.2.2,noB⟩:=by
  unfold WD.forget;rw[dif_pos hi];rfl
 rw[e];refine Hw z hi ?_ ⟨[],by simp⟩ (Qn o rfl rfl rfl);obtain⟨Q,o2,o3,_⟩:=Yp o;unfold opE;rw[if_neg (λq=>q Q),o2];simp only[ne_eq,not_true_eq_false,if_false,o3];rfl
theorem Zhv{W:WD}{xk xn xt xi xw xN th:Int}{ai ao ni ci no co I O}(z:Xl W.k W.n W.m=0)(hm:∀ m∈W.m,Uv m)(sI:SlOk ai ni ci)(sO:SlOk ao no co)(hz:Tr.TxSmall (th,I,O)) :
  ∃ y W',HapP (λU=>Env U/\InsAt U ai ni I/\OutsAt U ao no O) (.agg #[E J xk,E J xn,E J xt,E J xi,E J xw,E J xN,E J th,F ai ni ci,F ao no co]) W y W'/\(y=0->Wu W W'):=by
 by_cases Q:(decide (1<=xk) && decide (xk<=8))=false
 ·exact⟨4,W,Eg Q,λh=>absurd h (by decide)⟩
 have Q:xk=1\/xk=2\/xk=3\/xk=4\/xk=5\/xk=6\/xk=7\/xk=8:=by
  simp at Q;omega
 have q6:=(Yc z).2.2.2.2.2.2
 rcases Q with rfl|rfl|rfl|rfl|rfl|rfl|rfl|rfl
 ·by_cases h:Xf xn W.n.length=true
  ·obtain⟨i,rfl,hi⟩:=Vx h;exact⟨_,_,(Ss z hi (Cz _ _ _ _ _ _ _ _) rfl).mono (λ_ h=>h.1),λe=>Zdb z hi (Prod.ext e rfl)⟩
  ·exact⟨5,W,Zdo (by simpa using h),λh=>absurd h (by decide)⟩
 ·by_cases h:Xf xn W.n.length=true
  ·obtain⟨i,rfl,hi⟩:=Vx h;exact⟨_,_,Ae z hi sI sO hz rfl,λe=>F8 z hi (Prod.ext e rfl)⟩
  ·exact⟨5,W,Zdn (by simpa using h),λh=>absurd h (by decide)⟩
 ·by_cases h:Xf xi W.m.length=true
  ·obtain⟨k,rfl,Q⟩:=Vx h;have hq:=q6 _ (aX Q);have hl:=Ba z k;unfold Re at hq;split at hq
   ·cases hq
   rename_i q;simp only[not_or,Bool.not_eq_false] at q;obtain⟨p1,p2,p3⟩:=q;obtain⟨ti,e2,aa⟩:=Vx p2;rw[e2] at p3;split at hq
   ·rename_i q1;exact⟨0,_,(Pk z Q ⟨q1,e2⟩ aa rfl).mono (λ_ h=>h.1),λ_=>Zda (W:=W.lost k) hl aa p1 p3 hq⟩
   split at hq
   ·rename_i q2;exact⟨0,_,Zhl z Q ⟨q2,e2⟩ aa (Pt _ _ _) rfl,λ_=>Eb (W:=W.lost k) hl aa p1 p3⟩
   split at hq
   ·rename_i q3;exact⟨0,_,(Zhk z Q ⟨q3,e2⟩ aa rfl).mono (λ_ h=>h.1),λ_=>(Hx (W:=W.lost k) hl aa rfl).1⟩
   ·cases hq
  ·exact⟨5,W,Zdm (by simpa using h),λh=>absurd h (by decide)⟩
 ·by_cases h:Xf xi W.m.length=true
  ·obtain⟨k,rfl,Q⟩:=Vx h;exact⟨0,_,(Zdg z Q).mono (λ_ h=>h.1),λ_=>Zdc (Xp z) k⟩
  ·exact⟨5,W,Zdl (by simpa using h),λh=>absurd h (by decide)⟩
 ·by_cases h:Xf xi W.m.length=true
  ·obtain⟨k,rfl,Q⟩:=Vx h;exact⟨_,_,(Ag Q (hm _ (aX Q)) rfl).mono (λ_ h=>h.1),λ_=>V5 (Xp z) (q6 _ (aX Q))⟩
  ·exact⟨5,W,Zdk (by simpa using h),λh=>absurd h (by decide)⟩
 ·by_cases h:Xf xn W.n.length=true
  ·obtain⟨i,rfl,hi⟩:=Vx h;obtain⟨⟨x,W'⟩,hx⟩:=ZF (W.share i xt);obtain⟨o,ho⟩:=ZF (Xf xt W.n.length);refine⟨_,W',Ef hi (Pt _ _ _) ho hx rfl rfl,λe=>?_⟩;split at e;rotate_left
   ·cases e
   rename_i o1;split at e
   ·cases e
   rename_i ad;split at e
   ·cases e
   subst e;unfold WD.share at hx;rw[dif_pos hi] at hx;simp only at hx;split at hx;rotate_left
   ·rename_i q;exact absurd (congrArg bK hx) q
   rename_i q;rw[<-(Prod.mk.inj hx).2];exact V5 (Xp z) (Rc hi (ho.trans o1) ad (by simpa using S8 q))
  ·exact⟨5,W,Zdj (by simpa using h),λh=>absurd h (by decide)⟩
 ·by_cases h:Xf xn W.n.length=true
  ·obtain⟨i,rfl,hi⟩:=Vx h;exact⟨0,_,Af hi,λ_=>F9 z hi⟩
  ·exact⟨5,W,Zdi (by simpa using h),λh=>absurd h (by decide)⟩
 ·by_cases h:Xf xn W.n.length=true
  ·obtain⟨i,rfl,hi⟩:=Vx h;obtain⟨⟨x,W'⟩,hx⟩:=ZF (W.fetch i xt xi);obtain⟨o,ho⟩:=ZF (Xf xt W.n.length);refine⟨_,W',Eh hi ho hx rfl rfl,λe=>?_⟩;split at e;rotate_left
   ·cases e
   rename_i o1;split at e
   ·cases e
   rename_i ad;split at e
   ·cases e
   subst e;unfold WD.fetch at hx;split at hx;rotate_left
   ·rename_i q;exact absurd (congrArg bK hx) q
   rename_i q;rw[<-(Prod.mk.inj hx).2];exact V5 (Xp z) (Rc hi (ho.trans o1) ad (by simpa using q))
  ·exact⟨5,W,Zdh (by simpa using h),λh=>absurd h (by decide)⟩
def n0:Vo:=([],[],[],0)
theorem Zmt{w:World}{g:Nat}(h:w.heap[g]? = some (cR [F none 0 0,F none 0 0,F none 0 0,E J 0,F none 0 0,F none 0 0,F none 0 0,E J 0].toArray 67 (0,0))):NodsAt w (some ⟨g,0,none⟩) 2 [n0,n0]:=by
 refine⟨rfl,λ_=>⟨g,0,rfl,lt_of_block h,λj z=>?_⟩⟩;have nil:Tr.IntsAt w none 0 []/\Tr.BlksAt w none 0 []/\TxsAt w none 0 []:=⟨⟨rfl,λh=>absurd h (by decide)⟩,RowsAt.nil _ _,RowsAt.nil _ _⟩
 match j,z with
 | 0,_=>exact⟨none,0,0,none,0,0,none,0,0,Zb h 0 _ rfl,Zb h 1 _ rfl,Zb h 2 _ rfl,Zb h 3 _ rfl,nil.1,nil.2.1,nil.2.2,Zp,Zp,Zp⟩
 | 1,_=>exact⟨none,0,0,none,0,0,none,0,0,Zb h 4 _ rfl,Zb h 5 _ rfl,Zb h 6 _ rfl,Zb h 7 _ rfl,nil.1,nil.2.1,nil.2.2,Zp,Zp,Zp⟩
 | j+2,h=>exact absurd h (by simp)
theorem Zmy(w:World):(Instr.makeSlice 87 (E J 2) (E J 2)).run aA w = .ok (F (some ⟨w.heap.size,0,none⟩) 2 2) (w.alloc (cR #[F none 0 0,F none 0 0,F none 0 0,E J 0,F none 0 0,F none 0 0,F none 0 0,E J 0] 67)):=by
 obtain⟨i0,hi,Q,z,aa⟩:=info_parts Tr.Tryz.infoNodeC;have h:=run_makeSlice (P:=aA) (w:=w) 87 67 i0 _ underlying87 hi Q .i64 .i64 2 2 (by decide) (by decide) (by rw[z];decide) (by rw[aa];decide) (by decide);rw[z] at h;have e:madeCells (Value.agg #[F none 0 0,F none 0 0,F none 0 0,E J 0]).cells (Int.toNat 2*4)=#[F none 0 0,F none 0 0,F none 0 0,E J 0,F none 0 0,F none 0 0,F none 0 0,E J 0]:=by kernel_rfl
 rw[e] at h;exact h
theorem Tryz.infoErr:(Tryz.prog.info? 30).map (λi=>(i.zero,i.size,i.bytes))=some (some (E J 0),1,8):=by kernel_rfl
theorem Zmx(w:World):(Instr.makeSlice 110 (E J 4) (E J 4)).run aA w = .ok (F (some ⟨w.heap.size,0,none⟩) 4 4) (w.alloc (cR #[E J 0,E J 0,E J 0,E J 0] 30)):=by
 obtain⟨i0,hi,Q,z,aa⟩:=info_parts Tryz.infoErr;have h:=run_makeSlice (P:=aA) (w:=w) 110 30 i0 _ underlying110 hi Q .i64 .i64 4 4 (by decide) (by decide) (by rw[z];decide) (by rw[aa];decide) (by decide);rw[z] at h;have e:madeCells (Value.int .i64 0).cells (Int.toNat 4*1)=#[E J 0,E J 0,E J 0,E J 0]:=by kernel_rfl
 rw[e] at h;exact h
theorem Zey(w:World):Calls aA 130 #[E J 2] w λe w'=>∃ g,e = cS (cT #[.agg #[F none 0 0,F (some ⟨g,0,none⟩) 2 2,F none 0 0],E J 0])/\w'.heap[g]? = some (cR [F none 0 0,F none 0 0,F none 0 0,E J 0,F none 0 0,F none 0 0,F none 0 0,E J 0].toArray 67 (0,0))/\w.heap.size<=g/\ZD w w':=by
 obtain⟨X,hX⟩:=ZG (w.alloc (cR #[F none 0 0,F none 0 0,F none 0 0] 90));have aj:Hid (ZD w X):=by rw[hX];exact Zh _ _
 have ak:Hid (X.heap[w.heap.size]? = some (cR [F none 0 0,F none 0 0,F none 0 0].toArray 90 (0,0))):=by rw[hX];exact aJ _ _
 have C1:=Zd (Hz 2 true X (by decide));go_enter func130,ntmps130
 go_upto_region 1 with fail
 rw[<-hX];clear hX;go_wp2_with fail;refine C1.mono ?_;rintro e z ⟨rfl,ad⟩;have af:=onb aj ad;have Q:=mvd ad ak;obtain⟨Y,hY⟩:=ZG (z.alloc (cR #[F none 0 0,F none 0 0,F none 0 0,E J 0,F none 0 0,F none 0 0,F none 0 0,E J 0] 67));have ae:ZD z Y:=by rw[hY];exact Zh _ _
 have HY:Hid (Y.heap[z.heap.size]? = some (cR [F none 0 0,F none 0 0,F none 0 0,E J 0,F none 0 0,F none 0 0,F none 0 0,E J 0].toArray 67 (0,0))):=by rw[hY];exact aJ _ _
 have ag:=onb af ae;have aa:=mvd ae Q;have hs:=af.size;obtain⟨r0,r1,r2,rl⟩:=cl3 Q;have f0:=Zg Q 0;have f1:=Zg Q 1;have f2:=Zg Q 2;obtain⟨y0,y1,y2,yl⟩:=cl3 aa;have g0:=Zg aa 0;have g1:=Zg aa 1;have g2:=Zg aa 2;have av:=lt_of_block Q;have ah:Hid (∀ V,Gr Y V (λq=>q=w.heap.size)->∃ g,Ending.returned (cT #[.agg #[F none 0 0,F (some ⟨z.heap.size,0,none⟩) 2 2,F none 0 0],E J 0]) = cS (cT #[.agg #[F none 0 0,F (some ⟨g,0,none⟩) 2 2,F none 0 0],E J 0])/\V.heap[g]? = some (cR [F none 0 0,F none 0 0,F none 0 0,E J 0,F none 0 0,F none 0 0,F none 0 0,E J 0].toArray 67 (0,0))/\w.heap.size<=g/\ZD w V):=λV g=>⟨z.heap.size,rfl,g.heap HY (by show ¬z.heap.size=w.heap.size;omega),hs,g.below ag ag.size (λq e=>cG (Eq.symm e))⟩;have am:=Zmy z;rw[<-hY] at am;clear ad ae C1 hY;go_wp2;(try simp only[Exit.inBlock,Exit.then]);refine aW (v:=cT #[.agg #[F none 0 0,F (some ⟨z.heap.size,0,none⟩) 2 2,F none 0 0],E J 0]) ?_ rfl ?_
 ·rw[Zo rfl];go_simp
 ·refine ah _ ?_
  repeat' first|refine Gr.one ?_ _ _ ?_ _|exact Gr.refl _ _
  all_goals exact Or.inl rfl
structure RunI(w:World)(bw sd:Nat)(S:Nat->WD)(X:Nat->Int)(k:Nat)(wr:World):Prop where
 bel:ZD w wr
 box:∃ ka kn kc na nn nc ma mn mc,wr.heap[bw]? = some (cR [F ka kn kc,F na nn nc,F ma mn mc].toArray 90 (0,0))/\(∀ V,Gr wr V (λq=>q=bw\/q=sd\/q=w.heap.size)->WorldAt V (S k) ka kn na nn ma mn)/\SlOk ka kn kc/\SlOk na nn nc/\SlOk ma mn mc
 said:wr.heap[sd]? = some (cR [E J (if 0<k then X 0 else 0),E J (if 1<k then X 1 else 0),E J (if 2<k then X 2 else 0),E J (if 3<k then X 3 else 0)].toArray 30 (0,0))
 res:wr.heap[w.heap.size]? = some (cR [F none 0 0,F none 0 0,F none 0 0].toArray 90 (0,0))
theorem Zfp(X:Nat->Int){k:Nat}(z:k<4):([E J (if 0<k then X 0 else 0),E J (if 1<k then X 1 else 0),E J (if 2<k then X 2 else 0),E J (if 3<k then X 3 else 0)]:List Value).set k (E J (X k))=[E J (if 0<k+1 then X 0 else 0),E J (if 1<k+1 then X 1 else 0),E J (if 2<k+1 then X 2 else 0),E J (if 3<k+1 then X 3 else 0)]:=by
 match k,z with
 | 0,_=>rfl
 | 1,_=>rfl
 | 2,_=>rfl
 | 3,_=>rfl
 | k+4,h=>exact absurd h (by omega)
section
variable {w wr wx : World} {bw sd : Nat} {S : Nat -> WD} {X : Nat -> Int} {k : Nat}
theorem RunI.step{U}(h:RunI w bw sd S X k wr)(Q:bw≠sd/\bw≠w.heap.size/\sd≠w.heap.size/\w.heap.size<bw/\w.heap.size<sd)(hU:ZD wr U)(hg:Gr U wx (λq=>q=sd))(ad:wx.heap[sd]? = some (cR [E J (if 0<k+1 then X 0 else 0),E J (if 1<k+1 then X 1 else 0),E J (if 2<k+1 then X 2 else 0),E J (if 3<k+1 then X 3 else 0)].toArray 30 (0,0)))(hS:S (k+1)=S k):RunI w bw sd S X (k+1) wx:=by
 obtain⟨ka,kn,kc,na,nn,nc,ma,mn,mc,h1,h2,h3⟩:=h.box;have z:Gr wr wx (λq=>q=sd):=(Gr.of hU).trans hg;refine⟨z.below h.bel h.bel.size (λq e=>by have e:q=sd:=e;omega),⟨ka,kn,kc,na,nn,nc,ma,mn,mc,z.heap h1 (λe=>Q.1 e),λV g=>?_,h3⟩,ad,z.heap h.res (λe=>Q.2.2.1 (Eq.symm e))⟩;rw[hS];exact h2 V ((z.mono (λq _ e=>.inr (.inl e))).trans g)
theorem RunI.took{W':WD}{U Y:World}{H0:Nat}{ka na ma kn kc nn nc mn mc}(h:RunI w bw sd S X k wr)(aa:bw≠sd/\bw≠w.heap.size/\sd≠w.heap.size/\w.heap.size<bw/\w.heap.size<sd)(h0:wr.heap.size<=H0)(hU:ZD wr U)(Q:ZD U Y)(hg:Gr Y wx (λq=>q=bw\/q=sd))(ae:wx.heap[bw]? = some (cR [F ka kn kc,F na nn nc,F ma mn mc].toArray 90 (0,0)))(af:wx.heap[sd]? = some (cR [E J (if 0<k+1 then X 0 else 0),E J (if 1<k+1 then X 1 else 0),E J (if 2<k+1 then X 2 else 0),E J (if 3<k+1 then X 3 else 0)].toArray 30 (0,0)))
  (hF:Fresh H0 U (λw2=>WorldAt w2 W' ka kn na nn ma mn)) (s1:SlOk ka kn kc) (s2:SlOk na nn nc) (s3:SlOk ma mn mc) (hS:S (k+1)=W'):RunI w bw sd S X (k+1) wx:=by
 obtain⟨_,_,_,_,_,_,_,_,_,h1,_⟩:=h.box;have l1:=lt_of_block h1;have l2:=lt_of_block h.said;have l3:=lt_of_block h.res;have z:Gr wr wx (λq=>q=bw\/q=sd):=(Gr.of (Zf hU Q)).trans hg;refine⟨z.below h.bel h.bel.size (λq e=>by rcases e with e|e <;> omega),⟨ka,kn,kc,na,nn,nc,ma,mn,mc,ae,λV g=>?_,s1,s2,s3⟩,af,z.heap h.res (λe=>by rcases e with e|e;exact aa.2.1 (Eq.symm e);exact aa.2.2.1 (Eq.symm e))⟩;rw[hS];exact hF V ((((Gr.of Q).trans (hg.mono (λq _ e=>by rcases e with e|e <;> omega)))).trans (g.mono (λq _ e=>by rcases e with e|e|e <;> omega)))
end
def RunR(w w':World)(S:Nat->WD)(X:Nat->Int)(e:Ending):Prop:=∃ ka kn kc na nn nc ma mn mc sd,e = cS (cT #[.agg #[F ka kn kc,F na nn nc,F ma mn mc],F (some ⟨sd,0,none⟩) 4 4,E J 0])/\WorldAt w' (S 4) ka kn na nn ma mn/\SlOk ka kn kc/\SlOk na nn nc/\SlOk ma mn mc/\w'.heap[sd]? = some (cR [E J (X 0),E J (X 1),E J (X 2),E J (X 3)].toArray 30 (0,0))/\ZD w w'
theorem Zjc(g:Nat)(H:Nat->Int×Int×Int×Int×Int×Int)(S W':Nat->WD)(X:Nat->Int)(w:World)(hE:Env w)(hg:g<w.heap.size)(hr:∀ k,k<4->∀ j v,([E J (H k).1,E J (H k).2.1,E J (H k).2.2.1,E J (H k).2.2.2.1,E J (H k).2.2.2.2.1,E J (H k).2.2.2.2.2,E J 0,F none 0 0,F none 0 0]:List Value)[j]? = some v->w.cell? ⟨g,k*9+j,none⟩=some v)(h0:S 0=⟨[],[n0,n0],[]⟩)(hc:∀ k,k<4->Xl (S k).k (S k).n (S k).m=0)(hm:∀ k,k<4->∀ m∈(S k).m,Uv m)(hH:∀ k,k<4->Di (.agg #[E J (H k).1,E J (H k).2.1,E J (H k).2.2.1,E J (H k).2.2.2.1,E J (H k).2.2.2.2.1,E J (H k).2.2.2.2.2,E J 0,F none 0 0,F none 0 0]) (S k) (X k) (W' k))(hS:∀ k,k<4->S (k+1)=if X k=0 then W' k else S k) :
  Calls aA 55 #[E J 2,F (some ⟨g,0,none⟩) 4 4] w λe w'=>RunR w w' S X e:=by
 obtain⟨A,hA⟩:=ZG (w.alloc (cR #[F none 0 0,F none 0 0,F none 0 0] 90));have cb:Hid (ZD w A):=by rw[hA];exact Zh _ _
 have bs:Hid (A.heap[w.heap.size]? = some (cR [F none 0 0,F none 0 0,F none 0 0].toArray 90 (0,0))):=by rw[hA];exact aJ _ _
 have C1:=Zd (Zey A);have HE:=Zd hE;have HR:=Zd hr;have de:=Zd h0;have HC:=Zd hc;have HM:=Zd hm;have HH:=Zd hH;have HS:=Zd hS;clear hE hr h0 hc hm hH hS;go_enter func55,ntmps55
 go_upto_region 1 with fail
 rw[<-hA];clear hA;go_wp2_with fail;refine C1.mono ?_;rintro e z ⟨ng,rfl,bx,eh,ay⟩;have ee:=lt_of_block bs;obtain⟨Y,hY⟩:=ZG ((z.alloc (cR #[F none 0 0,F (some ⟨ng,0,none⟩) 2 2,F none 0 0] 90)).alloc (cR #[E J 0,E J 0,E J 0,E J 0] 30));have ab:ZD z Y:=by rw[hY];exact Zf (Zh _ _) (Zh _ _)
 have y0:Y.heap[z.heap.size]? = some (cR [F none 0 0,F (some ⟨ng,0,none⟩) 2 2,F none 0 0].toArray 90 (0,0)):=by rw[hY];exact Zk [cR #[F none 0 0,F (some ⟨ng,0,none⟩) 2 2,F none 0 0] 90,cR #[E J 0,E J 0,E J 0,E J 0] 30] z 0 _ rfl
 have y1:Y.heap[z.heap.size+1]? = some (cR [E J 0,E J 0,E J 0,E J 0].toArray 30 (0,0)):=by rw[hY];exact Zk [cR #[F none 0 0,F (some ⟨ng,0,none⟩) 2 2,F none 0 0] 90,cR #[E J 0,E J 0,E J 0,E J 0] 30] z 1 _ rfl
 have eg:=lt_of_block bx;have et:=ay.size;have ce:Hid (ZD w Y):=Zf (Zf cb ay) ab
 have ST:Hid (RunI w z.heap.size (z.heap.size+1) S X 0 Y):=by
  refine⟨Za ce,⟨none,0,0,some ⟨ng,0,none⟩,2,2,none,0,0,y0,λV gV=>?_,Zp,⟨aF _,by unfold maxLen;omega,λe=>by cases e⟩,Zp⟩,y1,(ab.block _ (by omega)).trans ((ay.block _ ee).trans bs)⟩;rw[Za de];refine⟨Bk.TextsAt.nil _ _,Zmt (gV.heap ((ab.block _ eg).trans bx) (λe=>?_)),RowsAt.nil _ _⟩
  rcases e with e|e|e
  ·omega
  ·omega
  ·omega
 have cz:=Zmx (z.alloc (cR #[F none 0 0,F (some ⟨ng,0,none⟩) 2 2,F none 0 0] 90));rw[<-hY] at cz;have bv:z.heap.size≠z.heap.size+1/\z.heap.size≠w.heap.size/\z.heap.size+1≠w.heap.size/\w.heap.size<z.heap.size/\w.heap.size<z.heap.size+1:=by omega
 have aq:=Zd bv;clear bx eh ay ab y0 y1 C1 cb bs hY bv;go_wp2_with fail
 go_loopw [32] (λi wr=>∃ k:Nat,k<=4/\i = E J k/\Hid (RunI w z.heap.size (z.heap.size+1) S X k wr)) (λi _=>4 - (intOf i).toNat)
 case atStart=>exact⟨0,Nat.zero_le _,rfl,ST⟩
 case round=>
  obtain⟨k,hk,rfl,Q⟩:=hrel;clear ST cz ce;by_cases am:k<4
  ·have ew:(k:Int)<4:=(by omega);have ad:=HR k am;have c0:wr.cell? ⟨g,k*9,none⟩=some (E J (H k).1):=Ze Q.bel (ad 0 _ rfl);have c1:=Ze Q.bel (ad 1 _ rfl);have c2:=Ze Q.bel (ad 2 _ rfl);have c3:=Ze Q.bel (ad 3 _ rfl);have c4:=Ze Q.bel (ad 4 _ rfl);have c5:=Ze Q.bel (ad 5 _ rfl);have c6:=Ze Q.bel (ad 6 _ rfl);have c7:=Ze Q.bel (ad 7 _ rfl);have c8:=Ze Q.bel (ad 8 _ rfl);have eu:g<wr.heap.size:=Nat.lt_of_lt_of_le hg Q.bel.size;obtain⟨ka,kn,kc,na,nn,nc,ma,mn,mc,h1,h2,s1,s2,s3⟩:=Q.box;obtain⟨X1,ax⟩:∃ V,V=wr.alloc (cR #[E J (H k).1,E J (H k).2.1,E J (H k).2.2.1,E J (H k).2.2.2.1,E J (H k).2.2.2.2.1,E J (H k).2.2.2.2.2,E J 0,F none 0 0,F none 0 0] 103):=⟨_,rfl⟩;have al:ZD wr X1:=(by rw[ax];exact Zh _ _);have x1:X1.heap[wr.heap.size]? = some (cR [E J (H k).1,E J (H k).2.1,E J (H k).2.2.1,E J (H k).2.2.2.1,E J (H k).2.2.2.2.1,E J (H k).2.2.2.2.2,E J 0,F none 0 0,F none 0 0].toArray 103 (0,0)):=(by rw[ax];exact aJ _ _);have b0:=Zb x1 0 _ rfl;have b1:=Zb x1 1 _ rfl;have b2:=Zb x1 2 _ rfl;have b3:=Zb x1 3 _ rfl;have b4:=Zb x1 4 _ rfl;have b5:=Zb x1 5 _ rfl;have b6:=Zb x1 6 _ rfl;have b7:=Zb x1 7 _ rfl;have b8:=Zb x1 8 _ rfl;have bl:=lt_of_block x1;have H1:Hid (X1.heap[z.heap.size]? = some (cR [F ka kn kc,F na nn nc,F ma mn mc].toArray 90 (0,0))):=ZE al h1
   have cg:Hid (X1.heap[z.heap.size+1]? = some (cR [E J (if 0<k then X 0 else 0),E J (if 1<k then X 1 else 0),E J (if 2<k then X 2 else 0),E J (if 3<k then X 3 else 0)].toArray 30 (0,0))):=ZE al Q.said;obtain⟨t0,t1,t2,tl⟩:=cl3 H1;obtain⟨d1,d2,d3⟩:=h2 X1 (Gr.of al);have ck:=HC k am;have CO:=Zd (Zly ka kn kc na nn nc ma mn mc (H k).1 (H k).2.1 (H k).2.2.1 (H k).2.2.2.1 (H k).2.2.2.2.1 (H k).2.2.2.2.2 0 none none 0 0 0 0 (S k) 0 (X k) (X k) (W' k) X1 (HE.later (Zf Q.bel al)) d1 d2 d3 s1 s2 s3 (λy hy=>Qc ((Yc ck).2.2.2.2.2.1 y hy)) (HM k am) ck (λ_=>HH k am) (if_pos rfl));have cw:=Zd (HS k am);have cd:=Zd al;have ei:=al.size;clear h1 h2 s1 s2 s3 d1 d2 d3 ck x1 al ad
   go_upto_region 10 with fail
   rw[<-ax];clear ax c0 c1 c2 c3 c4 c5 c6 c7 c8;go_wp2_with fail;refine CO.mono ?_;rintro e U ⟨az,hr⟩;have cc:=onb cd az;have bt:=mvd az H1;have ar:=mvd az cg;clear CO az H1 cg cd t0 t1 t2 tl b0 b1 b2 b3 b4 b5 b6 b7 b8 bl;obtain⟨v,hv⟩:∃ v,([E J (if 0<k then X 0 else 0),E J (if 1<k then X 1 else 0),E J (if 2<k then X 2 else 0),E J (if 3<k then X 3 else 0)]:List Value)[k]? = some v:=⟨_,List.getElem?_eq_getElem (by simp;omega)⟩
   rcases hr with ⟨hx,rfl⟩|⟨hx,k1,bf,be,n1,bj,bi,m1,bh,bg,rfl,hF,s1,s2,s3⟩
   ·have gx:(X k == 0)=false:=(by simp[hx]);obtain⟨Y,hY⟩:=ZG (U.alloc (cR #[F none 0 0,F none 0 0,F none 0 0] 90));have ab:ZD U Y:=(by rw[hY];exact Zh _ _);have ae:=mvd ab ar;have vc:=Zb ae k _ hv;have vf:=Zg ae k;have vl:=lt_of_block ae
    have NX:Hid (RunI w z.heap.size (z.heap.size+1) S X (k+1) (Y.setCell ⟨z.heap.size+1,k,none⟩ (E J (X k)))):=by
     refine Q.step aq (Zf cc ab) ((Gr.refl Y (λq=>q=z.heap.size+1)).one _ k (.inl rfl) _) ?_ ?_
     ·have:=Tr.set_cells ae k (E J (X k));rw[Zfp X am] at this;exact this
     ·rw[Za cw,if_neg hx]
    clear ab ar bt ae hx
    go_upto_region 11 with fail
    rw[<-hY];clear hY;go_wp2;go_roundw
    case rel=>exact⟨k+1,by omega,by go_num,NX⟩
    case measure=>simp[intOf];omega
   ·obtain⟨Y,hY⟩:=ZG (U.alloc (cR #[F k1 bf be,F n1 bj bi,F m1 bh bg] 90));have ab:ZD U Y:=(by rw[hY];exact Zh _ _);have cj:Hid (Y.heap[U.heap.size]? = some (cR [F k1 bf be,F n1 bj bi,F m1 bh bg].toArray 90 (0,0))):=(by rw[hY];exact aJ _ _);have ae:=mvd ab ar;have an:=mvd ab bt;obtain⟨u0,u1,u2,ul⟩:=cl3 cj;obtain⟨t0,t1,t2,tl⟩:=cl3 an;have e0:=Zg an 0;have e1:=Zg an 1;have e2:=Zg an 2;obtain⟨fd,hQ⟩:=ZG (((Y.setCell ⟨z.heap.size,0,none⟩ (F k1 bf be)).setCell ⟨z.heap.size,1,none⟩ (F n1 bj bi)).setCell ⟨z.heap.size,2,none⟩ (F m1 bh bg));have gQ:Gr Y fd (λq=>q=z.heap.size):=(by rw[hQ];exact (((Gr.refl Y (λq=>q=z.heap.size)).one _ 0 (.inl rfl) _).one _ 1 (.inl rfl) _).one _ 2 (.inl rfl) _);have cf:Hid (fd.heap[z.heap.size]? = some (cR [F k1 bf be,F n1 bj bi,F m1 bh bg].toArray 90 (0,0))):=(by rw[hQ];exact Tr.set_cells (Tr.set_cells (Tr.set_cells an 0 _) 1 _) 2 _);have ap:Hid (fd.heap[z.heap.size+1]? = some (cR [E J (if 0<k then X 0 else 0),E J (if 1<k then X 1 else 0),E J (if 2<k then X 2 else 0),E J (if 3<k then X 3 else 0)].toArray 30 (0,0))):=gQ.heap ae (by show ¬z.heap.size+1=z.heap.size;omega);have vc:=Zb ap k _ hv;have vf:=Zg ap k;have vl:=lt_of_block ap
    have NX:Hid (RunI w z.heap.size (z.heap.size+1) S X (k+1) (fd.setCell ⟨z.heap.size+1,k,none⟩ (E J (X k)))):=by
     have gS:Gr fd (fd.setCell ⟨z.heap.size+1,k,none⟩ (E J (X k))) (λq=>q=z.heap.size+1):=(Gr.refl fd (λq=>q=z.heap.size+1)).one _ k (.inl rfl) _;refine Q.took aq (H0:=X1.heap.size) ei cc ab ((gQ.mono (λq _ e=>.inl e)).trans (gS.mono (λq _ e=>.inr e))) (gS.heap cf (by show ¬z.heap.size=z.heap.size+1;omega)) ?_ hF s1 s2 s3 ?_
     ·have:=Tr.set_cells ap k (E J (X k));rw[Zfp X am] at this;exact this
     ·rw[Za cw,if_pos hx]
    have eo:=Zd hx;rw[hx] at NX;clear ab ar bt ae an hF s1 s2 s3 gQ cf ap cj
    go_upto_region 11 with fail
    rw[<-hY];clear hY
    go_upto_region 13 with fail
    rw[<-hQ];clear hQ t0 t1 t2 e0 e1 e2 u0 u1 u2;go_wp2;go_roundw
    case rel=>exact⟨k+1,by omega,by go_num,NX⟩
    case measure=>simp[intOf];omega
  ·have e:k=4:=(by omega);subst e;obtain⟨ka,kn,kc,na,nn,nc,ma,mn,mc,h1,h2,s1,s2,s3⟩:=Q.box;obtain⟨t0,t1,t2,tl⟩:=cl3 (Zd h1);obtain⟨r0,r1,r2,rl⟩:=cl3 (Zd Q.res);have f0:=Zg Q.res 0;have f1:=Zg Q.res 1;have f2:=Zg Q.res 2
   have dd:Hid (∀ V,Gr wr V (λq=>q=w.heap.size)->RunR w V S X (cS (cT #[.agg #[F ka kn kc,F na nn nc,F ma mn mc],F (some ⟨z.heap.size+1,0,none⟩) 4 4,E J 0]))):=λV g=>by
    have bv:=Za aq;exact⟨ka,kn,kc,na,nn,nc,ma,mn,mc,z.heap.size+1,rfl,h2 V (g.mono (λq _ e=>.inr (.inr e))),s1,s2,s3,g.heap Q.said (λe=>by have e:z.heap.size+1=w.heap.size:=e;omega),g.below Q.bel Q.bel.size (λq e=>cG (Eq.symm e))⟩
   have nd:z.heap.size≠w.heap.size:=aq.2.1;clear h1 h2 s1 s2 s3;go_wp2;(try simp only[Exit.inBlock,Exit.then]);refine aW (v:=cT #[.agg #[F ka kn kc,F na nn nc,F ma mn mc],F (some ⟨z.heap.size+1,0,none⟩) 4 4,E J 0]) ?_ rfl ?_
   ·rw[Bk.results_cell_tmp2 rfl];go_simp
   ·refine dd _ ?_
    repeat' first|refine Gr.one ?_ _ _ ?_ _|exact Gr.refl _ _
    all_goals exact Or.inl rfl
