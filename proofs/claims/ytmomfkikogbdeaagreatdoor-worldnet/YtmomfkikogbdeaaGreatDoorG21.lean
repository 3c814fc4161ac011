import Derived.Test.YtmomfkikogbdeaaGreatDoorH
import Derived.Test.YtmomfkikogbdeaaGreatDoorG19
import Derived.Test.YtmomfkikogbdeaaGreatDoorG20
import Derived.Lib.OwnKind
import Derived.LoopIn
import Derived.LoopNIn
import Derived.OwnWalkIn
import Derived.RangeFuncBound
import Derived.RangeFuncNested
import Derived.Shelf.RegionOpen
open Go renaming TypeId->bO,lt_of_block->aA,heap_alloc_new->aR,bodyPost_ret->bA,wpAnyH_ready->aG
open Go.Act renaming put->aC
open Go.Ending renaming returned->cY
open Go.IntKind renaming i64->J
open Go.Obj renaming cells->cW
open Go.RowKit renaming Below->aD
open Go.Value renaming int->E,slice->F,tuple->cZ,pointer->dA
open Go.World renaming cell?_of_block->bV,block_lt_of_cell?->aF,cell?->bF
open List renaming mem_cons->bC,append_assoc->cR,mem_cons_self->cP,flatten_cons->cV
open Nat renaming le_refl->aH,lt_of_lt_of_le->aE,zero_le->aQ,le_trans->aS,le_succ->cT
set_option maxHeartbeats 3200000
set_option maxRecDepth 10000
namespace Go.Proofs.YtmomfkikogbdeaaGreatDoor
open Go.RowKit
def C9:List (InD×Value)->List Value
 | []=>[]
 | x :: r=>E J x.1.1 :: E J x.1.2.1 :: x.2 :: C9 r
def Dd:List (Z5×Value)->List Value
 | []=>[]
 | x :: r=>E J x.1.1 :: x.2 :: Dd r
theorem Ww{w w':World}{base:Nat}{e:bO}{size:Nat}{v:Value}{n:Nat}{xs:List Value}(h:w.ownsRow base e size v n xs)(hk:∀ (k:Nat) (cs:Array Value),w.heap[k]? = some (cW cs e (0,0))->w'.heap[k]? = w.heap[k]?):w'.ownsRow base e size v n xs:=by
 obtain⟨hl,h0|⟨g,cap,z,hv,hg,Q,r⟩⟩:=h
 ·exact⟨hl,.inl h0⟩
 ·exact⟨hl,.inr ⟨g,cap,z,hv,hg,(hk g z Q).trans Q,r⟩⟩
structure PL(w:World)(q p lb:Nat)(A:Array Value)(h:Int)(wr:World)(v1 v2:Value)(L1:List (InD×Value))(L2:List (Z5×Value)):Prop where
 box:wr.heap[p]? = some (cW #[E J h,v1,v2] 59 (0,0))
 res:wr.heap[q]? = some (cW #[E J 0,F none 0 0,F none 0 0] 59 (0,0))
 pq:p≠q
 lin:wr.heap[lb]? = some (cW A 9 (0,0))
 own1:wr.ownsRow w.heap.size 119 3 v1 L1.length (C9 L1)
 own2:wr.ownsRow w.heap.size 122 2 v2 L2.length (Dd L2)
 keys1:∀ x∈L1,wr.ownsRow w.heap.size 164 2 x.2 x.1.2.2.length (flat x.1.2.2)
 keys2:∀ x∈L2,wr.ownsRow w.heap.size 164 2 x.2 x.1.2.length (flat x.1.2)
 bel:aD w.heap.size w wr
 pge:w.heap.size<=p
theorem PL.later{w:World}{q p lb:Nat}{A:Array Value}{h:Int}{wr w':World}{v1 v2:Value}{L1:List (InD×Value)}{L2:List (Z5×Value)}(s:PL w q p lb A h wr v1 v2 L1 L2)(z:aD wr.heap.size wr w'):PL w q p lb A h w' v1 v2 L1 L2 where
 box:=ZE z s.box
 res:=ZE z s.res
 pq:=s.pq
 lin:=ZE z s.lin
 own1:=Ro s.own1 z
 own2:=Ro s.own2 z
 keys1:=λx hx=>Ro (s.keys1 x hx) z
 keys2:=λx hx=>Ro (s.keys2 x hx) z
 bel:=Zf s.bel z
 pge:=s.pge
theorem Tq{w w':World}{base:Nat}{e:bO}{size:Nat}{v:Value}{n:Nat}{xs:List Value}(h:w.ownsRow base e size v n xs)(hg:w.grownBy w' v.ownBlock)(k:Nat)(cs:Array Value)(t:bO)(hk:w.heap[k]? = some (cW cs t (0,0)))(ht:t≠e):w'.heap[k]? = w.heap[k]?:=by
 refine hg.block k (aA hk) (λQ=>?_);obtain⟨_,⟨rfl,_⟩|⟨g,cap,ae,rfl,_,z,_⟩⟩:=h
 ·cases Q
 ·have e2:k=g:=by injection Q
  subst e2;rw[hk] at z;injection z with z;injection z with _ z;exact ht z
theorem PL.alloc{w:World}{q p lb:Nat}{A:Array Value}{h:Int}{wr:World}{v1 v2:Value}{L1:List (InD×Value)}{L2:List (Z5×Value)}(s:PL w q p lb A h wr v1 v2 L1 L2)(o:Obj):PL w q p lb A h (wr.alloc o) v1 v2 L1 L2:=s.later (Zh wr o)
theorem PL.drewN{w:World}{q p lb:Nat}{A:Array Value}{h:Int}{wr:World}{v1 v2:Value}{L1:List (InD×Value)}{L2:List (Z5×Value)}(s:PL w q p lb A h wr v1 v2 L1 L2)(n:Nat):PL w q p lb A h (wr.drewN n) v1 v2 L1 L2:=
 s.later ⟨rfl,rfl,rfl,aH _,λ_ _=>rfl⟩
def hd1(x:List UInt8):Option UInt8:=x.head?
theorem hasP_no{p:PtD}{L:List Zj}:Vp p L=false↔∀ c∈L,pt c≠p:=by
 rw[<-Bool.not_eq_true,Rx];exact⟨λh c z e=>h ⟨c,z,e⟩,λh ⟨c,z,e⟩=>h c z e⟩
theorem F6{L M S:List Zj}{t:TxD}{name h:Int}(e:apD L t name h=(0,M,S)):Wn L t name h=0/\∃ z,Zq h t.2.1 [] L=(0,S,z)/\Fk S t=0/\Yh name h (isR t) 0 t.2.2 z=(0,M)/\Yj M=0:=by
 obtain⟨x1,h1⟩:=ZF (Wn L t name h);obtain⟨⟨x2,S2,z⟩,h2⟩:=ZF (Zq h t.2.1 [] L);obtain⟨x3,h3⟩:=ZF (Fk S2 t);obtain⟨⟨x4,Q⟩,h4⟩:=ZF (Yh name h (isR t) 0 t.2.2 z);obtain⟨x5,h5⟩:=ZF (Yj Q);rw[Zfm h1 h2 h3 h4 h5] at e;split at e
 ·rename_i q;injection e with e _;exact absurd e q
 rename_i q1;split at e
 ·rename_i q;injection e with e _;exact absurd e q
 rename_i q2;split at e
 ·rename_i q;injection e with e _;exact absurd e q
 rename_i q3;split at e
 ·rename_i q;injection e with e _;exact absurd e q
 rename_i q4;split at e
 ·rename_i q;injection e with e _;exact absurd e q
 rename_i q5;have e1:x1=0:=by omega
 have e2:x2=0:=by omega
 have e3:x3=0:=by omega
 have e4:x4=0:=by omega
 have e5:x5=0:=by omega
 injection e with _ e;injection e with ea eb;subst e1 e2 e3 e4 e5 ea eb;exact⟨h1,z,h2,h3,h4,h5⟩
theorem Nf{p:PtD}{c:Zj}:∀ {L:List Zj},Srt L->c∈L->pt c=p->Zp L=cv c+Zp (L.filter λd=>decide (pt d≠p))
 | [],_,z,_=>by cases z
 | d :: r,hs,z,e=>by
  rw[Xb]
  rcases bC.1 z with rfl|z
  ·rw[List.filter_cons_of_neg (by simp[e])]
   have:r.filter (λd=>decide (pt d≠p))=r:=by
    rw[List.filter_eq_self];intro y hy;exact decide_eq_true (λq=>Rs (hs.head y hy) (by rw[e,q]))
   rw[this]
  ·have Q:pt d≠p:=λq=>Rs (hs.head c z) (by rw[e,q]);rw[List.filter_cons_of_pos (by simp[Q]),Xb,Nf hs.tail z e];omega
theorem T3(h:Int):∀ (I:List InD) (S0 L S M:List Zj),Srt L->Zq h I S0 L=(0,S,M) ->
  Srt M/\∃ T,S=S0++T/\T.length=I.length/\(∀ j (h1:j<T.length) (h2:j<I.length),pt T[j]=(I[j].1,I[j].2.1))/\(∀ x,x∈L↔x∈M\/x∈T)/\(∀ x∈T,Vp (pt x) M=false)/\T.Pairwise (λa b=>pt a≠pt b)/\Zp L=Zp M+Zp T
 | [],S0,L,S,M,hs,e=>by
  unfold Zq at e;injection e with _ e;injection e with e1 e2;subst e1 e2;exact⟨hs,[],by simp,rfl,λj h1=>absurd h1 (by simp),λx=>by simp,λx hx=>(by cases hx),List.Pairwise.nil,by simp[Zp]⟩
 | x :: r,S0,L,S,M,hs,e=>by
  unfold Zq at e;split at e
  ·injection e with e _;cases e
  ·rename_i c L' ht;split at e
   ·injection e with e _;cases e
   ·split at e
    ·injection e with e _;cases e
    ·obtain⟨t1,t2,t3⟩:=Jy ht;obtain⟨h1,T,h2,h3,h4,h5,h6,h7,h8⟩:=T3 h r _ L' S M (by rw[t3];exact hs.filter _) e;have Q:∀ y,y∈L'↔y∈L/\pt y≠(x.1,x.2.1):=λy=>by rw[t3,List.mem_filter,decide_eq_true_eq]
     refine⟨h1,c :: T,by rw[h2,cR];rfl,by simp[h3],λj h1 h2=>?_,λy=>?_,λy z=>?_,?_,?_⟩
     ·cases j with
      | zero=>exact t2
      | succ j=>exact h4 j (by simpa using h1) (by simpa using h2)
     ·constructor
      ·intro z;by_cases q:pt y=(x.1,x.2.1)
       ·exact .inr (by rw[hs.inj z t1 (by rw[q,t2])];exact cP ..)
       ·rcases (h5 y).1 ((Q y).2 ⟨z,q⟩) with g|g
        ·exact .inl g
        ·exact .inr (List.mem_cons_of_mem _ g)
      ·rintro (g|g)
       ·exact ((Q y).1 ((h5 y).2 (.inl g))).1
       ·rcases bC.1 g with rfl|g
        ·exact t1
        ·exact ((Q y).1 ((h5 y).2 (.inr g))).1
     ·rcases bC.1 z with rfl|z
      ·refine hasP_no.2 λd hd e=>?_;exact ((Q d).1 ((h5 d).2 (.inl hd))).2 (by rw[e,t2])
      ·exact h6 y z
     ·refine List.pairwise_cons.2 ⟨λy z e=>?_,h7⟩;exact ((Q y).1 ((h5 y).2 (.inr z))).2 (by rw[<-e,t2])
     ·have h9:=Nf hs t1 t2;rw[<-t3] at h9;rw[h9,h8,Xb];omega
theorem Zgg{c:Zj}{L:List Zj}(Q:Srt L)(z:Vp (pt c) L=false):Zp (Hs c L)=cv c+Zp L:=by
 rw[Ct Q z,Vy,Xb];have:Zp L=Zp (L.take (pos (pt c) L))+Zp (L.drop (pos (pt c) L)):=by rw[<-Vy,List.take_append_drop]
 omega
theorem Gq(name h:Int)(r:Bool):∀ (O:List Z5) (i:Nat) (L M:List Zj),Srt L->Yh name h r i O L=(0,M)->Zp M=Zp L+Ys O
 | [],i,L,M,hs,e=>by
  unfold Yh at e;injection e with _ e;subst e;simp[Ys]
 | o :: q,i,L,M,hs,e=>by
  unfold Yh at e;split at e
  ·injection e with e _;cases e
  ·rename_i z;have Q:Vp (pt (Au name i o h r)) L=false:=(by simpa[Au,pt] using z);have h1:=Gq name h r q (i+1) _ M (N6 hs) e;rw[Zgg hs Q] at h1;have h2:cv (Au name i o h r)=o.1:=rfl;have h3:Ys (o :: q)=o.1+Ys q:=(by simp[Ys]);rw[h1,h2,h3];omega
theorem Si:∀ (O:List Z5),Yf O=0->∀ o∈O,1<=o.1
 | [],_=>by simp
 | x :: r,h=>by
  intro o z;unfold Yf at h;split at h
  ·rename_i h1
   rcases bC.1 z with rfl|z
   ·unfold Y1 at h1;split at h1
    ·cases h1
    ·omega
   ·exact Si r h o z
  ·rename_i h1;exact absurd h h1
theorem Nh:∀ (O:List Z5),O≠[]->(∀ o∈O,1<=o.1)->0<Ys O
 | [],h,_=>absurd rfl h
 | x :: r,_,h=>by
  have h3:Ys (x :: r)=x.1+Ys r:=by simp[Ys]
  have h1:=h x (cP ..);cases r with
  | nil=>rw[h3];simp[Ys];omega
  | cons y q=>
   have:=Nh (y :: q) (by simp) (λo z=>h o (List.mem_cons_of_mem _ z));omega
theorem Zfl{L M S:List Zj}{t:TxD}{name h:Int}(e:apD L t name h=(0,M,S)):(t.2.1.length=0->Zp L<Zp M)/\(t.2.1.length≠0->Zp M<=Zp L):=by
 obtain⟨h1,M2,h2,h3,h4,h5⟩:=F6 e;obtain⟨hR,hT,_,_,_⟩:=Ve h1;obtain⟨s1,T,z,s3,s4,s5,s6,s7,s8⟩:=T3 h _ _ _ _ _ hR.srt h2;rw[List.nil_append] at z;subst z;have hg:=Gq name h _ _ _ _ _ s1 h4;obtain⟨t1,t2,Q,t4,t5,t6,t7⟩:=Vs hT;constructor
 ·intro h0;have hS:S=[]:=List.length_eq_zero_iff.1 (by rw[s3,h0]);have:=Nh t.2.2 (λq=>by rw[q] at Q;simp at Q) (Si _ t6);rw[hS,Nj] at s8;omega
 ·intro h0;unfold Fk isR at h3;split at h3
  ·cases h3
  ·rename_i q;have:¬(Zp S - Ys t.2.2<0):=λr=>q ⟨r,decide_eq_false h0⟩;omega
theorem F4{L M S:List Zj}{t:TxD}{name h:Int}(e:apD L t name h=(0,M,S)):Y2 L/\Y2 M/\Zv t=0:=by
 obtain⟨h1,Q,h2,h3,h4,h5⟩:=F6 e;obtain⟨z,hT,_,_,_⟩:=Ve h1;exact⟨z,(Yr M).1 h5,hT⟩
theorem Zfe{b:Zl}(h:Yn b=0):0<b.2.2.2.2.length/\b.2.2.2.2.length<=4/\1<=b.2.1/\b.2.1<=1000:=by
 unfold Yn at h;split at h
 ·cases h
 rename_i h1;split at h
 ·cases h
 split at h
 ·cases h
 unfold Wk at h1;simp only[Bool.not_eq_false,Bool.and_eq_true,decide_eq_true_eq] at h1;omega
open Bk (Right nm nameR)
def doD(h:Int)(s:List ByteArray×List Zj)(t:TxD):Int×List ByteArray×List Zj:=
 if Zv t≠0 then (Zv t,s) else if t.2.1.length=0 then (4,s) else
 if (nameR s.1 (txT t)).2.2≠0 then ((nameR s.1 (txT t)).2.2,s) else
 if (apD s.2 t (nameR s.1 (txT t)).2.1 h).1≠0 then ((apD s.2 t (nameR s.1 (txT t)).2.1 h).1,s) else
 (0,(nameR s.1 (txT t)).1,(apD s.2 t (nameR s.1 (txT t)).2.1 h).2.1)
def Z0(h:Int):List TxD->List ByteArray×List Zj->List TxD×List ByteArray×List Zj
 | [],s=>([],s)
 | t :: l,s=>if (doD h s t).1=0 then (t :: (Z0 h l (doD h s t).2).1,(Z0 h l (doD h s t).2).2) else Z0 h l s
theorem A1{K:List ByteArray}{s:ByteArray}(hK:Right K)(h0:(nameR K s).2.2=0):Right (nameR K s).1/\(∃ M,(nameR K s).1=K++M)/\∀ M,Right ((nameR K s).1++M)->nameR ((nameR K s).1++M) s=((nameR K s).1++M,(nameR K s).2.1,0):=by
 have e:nameR K s=nm K s:=by unfold nameR;rw[if_pos ((Bk.right_iff K).2 hK)]
 rw[e] at h0 ⊢;refine⟨Bk.nm_right hK h0,Bk.nm_grows h0,λM Q=>?_⟩;obtain⟨h1,h2,h3⟩:=Bk.nm_place h0;have z:nameR ((nm K s).1++M) s=nm ((nm K s).1++M) s:=by unfold nameR;rw[if_pos ((Bk.right_iff _).2 Q)]
 have h4:=Bk.place_stays M h2;rw[z,Bk.nm_there h3 (by rw[h4];exact h2),h4,h1]
theorem Gw{h:Int}{K:List ByteArray}{C:List Zj}{t:TxD}(hK:Right K)(h0:(doD h (K,C) t).1=0) :
  Right (doD h (K,C) t).2.1/\(∃ M,(doD h (K,C) t).2.1=K++M)/\∀ M,Right ((doD h (K,C) t).2.1++M)->doD h ((doD h (K,C) t).2.1++M,C) t=(0,(doD h (K,C) t).2.1++M,(doD h (K,C) t).2.2):=by
 by_cases z:Zv t≠0
 ·unfold doD at h0;rw[if_pos z] at h0;exact absurd h0 z
 by_cases Q:t.2.1.length=0
 ·unfold doD at h0;rw[if_neg z,if_pos Q] at h0;exact absurd (show (4:Int)=0 from h0) (by decide)
 by_cases q3:(nameR K (txT t)).2.2≠0
 ·unfold doD at h0;rw[if_neg z,if_neg Q,if_pos q3] at h0;exact absurd h0 q3
 by_cases q4:(apD C t (nameR K (txT t)).2.1 h).1≠0
 ·unfold doD at h0;rw[if_neg z,if_neg Q,if_neg q3,if_pos q4] at h0;exact absurd h0 q4
 have e:doD h (K,C) t=(0,(nameR K (txT t)).1,(apD C t (nameR K (txT t)).2.1 h).2.1):=by
  unfold doD;rw[if_neg z,if_neg Q,if_neg q3,if_neg q4]
 obtain⟨n1,n2,n3⟩:=A1 hK (Decidable.not_not.1 q3);rw[e];refine⟨n1,n2,λM hM=>?_⟩;have e2:=n3 M hM;unfold doD;rw[if_neg z,if_neg Q];simp only;rw[e2];simp only;rw[if_neg (λr=>r rfl),if_neg q4]
theorem Uf{h:Int}:∀ (l:List TxD) (K:List ByteArray) (C:List Zj),Right K->Right (Z0 h l (K,C)).2.1/\∃ M,(Z0 h l (K,C)).2.1=K++M
 | [],K,C,hK=>⟨hK,[],by simp[Z0]⟩
 | t :: l,K,C,hK=>by
  rw[Z0];by_cases q:(doD h (K,C) t).1=0
  ·rw[if_pos q];obtain⟨Q,⟨M,d2⟩,_⟩:=Gw hK q;obtain⟨s1,z,s2⟩:=Uf l (doD h (K,C) t).2.1 (doD h (K,C) t).2.2 Q;exact⟨s1,M++z,by rw[s2,d2,cR]⟩
  ·rw[if_neg q];exact Uf l K C hK
theorem Ri{h:Int}:∀ (l:List TxD) (K:List ByteArray) (C:List Zj) (M:List ByteArray),Right K->Right ((Z0 h l (K,C)).2.1++M) ->
  Z0 h (Z0 h l (K,C)).1 ((Z0 h l (K,C)).2.1++M,C)=((Z0 h l (K,C)).1,(Z0 h l (K,C)).2.1++M,(Z0 h l (K,C)).2.2)
 | [],K,C,M,_,_=>rfl
 | t :: l,K,C,M,hK,hM=>by
  by_cases q:(doD h (K,C) t).1=0
  ·have e:Z0 h (t :: l) (K,C)=(t :: (Z0 h l (doD h (K,C) t).2).1,(Z0 h l (doD h (K,C) t).2).2):=(by rw[Z0,if_pos q]);rw[e] at hM ⊢;obtain⟨Q,_,d3⟩:=Gw hK q;obtain⟨z,s2⟩:=(Uf (h:=h) l (doD h (K,C) t).2.1 (doD h (K,C) t).2.2 Q).2;have ab:(Z0 h l (doD h (K,C) t).2).2.1=(doD h (K,C) t).2.1++z:=s2;have hd:=d3 (z++M) (by rw[<-cR,<-ab];exact hM);rw[<-cR,<-ab] at hd;have ih:=Ri l (doD h (K,C) t).2.1 (doD h (K,C) t).2.2 M Q hM;show Z0 h (t :: (Z0 h l (doD h (K,C) t).2).1) ((Z0 h l (doD h (K,C) t).2).2.1++M,C)=_;rw[Z0,hd,if_pos (show (0:Int)=0 from rfl)];exact congrArg (λr:List TxD×List ByteArray×List Zj=>(t :: r.1,r.2)) ih
  ·have e:Z0 h (t :: l) (K,C)=Z0 h l (K,C):=(by rw[Z0,if_neg q]);rw[e] at hM ⊢;exact Ri l K C M hK hM
theorem Gr.cell{w w':World}{S:Nat->Prop}(h:Gr w w' S){p:Addr}{v:Value}(z:w.cell? p=some v)(Q:¬S p.block):w'.cell? p=some v:=
 (bV (h.block p.block (aF _ _ z) Q)).trans z
theorem Fresh.now{B:Nat}{w:World}{Q:World->Prop}(h:Fresh B w Q):Q w:=h w (Gr.refl _ _)
theorem Fresh.on{B:Nat}{w w':World}{Q:World->Prop}(h:Fresh B w Q)(g:Gr w w' (λk=>k<B)):Fresh B w' Q:=λw2 g2=>h w2 (g.trans g2)
theorem Fresh.later{B:Nat}{w w':World}{Q:World->Prop}(h:Fresh B w Q)(g:aD w.heap.size w w'):Fresh B w' Q:=h.on (Gr.of g)
theorem Fresh.less{B z:Nat}{w:World}{Q:World->Prop}(h:Fresh z w Q)(hb:B<=z):Fresh B w Q:=λw2 g2=>h w2 (g2.mono λ_ _ hk=>aE hk hb)
theorem Fresh.imp{B:Nat}{w:World}{Q R:World->Prop}(h:Fresh B w Q)(f:∀ w2,Q w2->R w2):Fresh B w R:=λw2 g2=>f w2 (h w2 g2)
namespace Tr
open Go.RowKit
theorem Yt(w:World)(a b:Value)(t:bO):(w.alloc (cW #[a,b] t)).heap[w.heap.size]? = some (cW [a,b].toArray t (0,0)):=aR w _
theorem Zx{w:World}{base:Nat}{e:bO}{size:Nat}{v:Value}{n:Nat}{xs:List Value}(h:w.ownsRow base e size v n xs):∃ a c,v = F a n c/\SlOk a n c/\∀ z,a=some z->base<=z.block/\z.block<w.heap.size:=by
 rcases h.2 with ⟨rfl,rfl⟩|⟨g,cap,ab,rfl,Q,hh,h1,h2,_⟩
 ·exact⟨none,0,rfl,⟨aH _,aQ _,λ_=>⟨rfl,rfl⟩⟩,λz e=>by cases e⟩
 ·exact⟨_,cap,rfl,⟨h1,h2,λe=>by cases e⟩,λz e=>by cases e;exact⟨Q,aA hh⟩⟩
def U9(w:World)(b o:Nat)(cs:List Value):Prop:=∀ j u,cs[j]? = some u->w.cell? ⟨b,o+j,none⟩=some u
structure Rec(α : Type) where
 sz:Nat
 C:World->List Value -> α->Prop
 R:World->Nat->Nat -> α->Prop
 wide:∀ w cs x,C w cs x->cs.length=sz
 one:∀ w cs x,C w cs x->∀ v∈cs,v.oneCell'=true
 kept:∀ w w' cs x,aD w.heap.size w w'->C w cs x->C w' cs x
 rc:∀ w b o x,R w b o x->∃ cs,U9 w b o cs/\C w cs x
 cr:∀ w b o cs x,U9 w b o cs->C w cs x->R w b o x
def AllC{α : Type}(Z:Rec α)(w:World)(K:List (List Value))(L:List α):Prop:=K.length=L.length/\∀ i (h:i<L.length) (h':i<K.length),Z.C w K[i] L[i]
theorem Xa{α : Type}{Z:Rec α}{w:World}:∀ {K:List (List Value)} {L:List α},AllC Z w K L->K.flatten.length=L.length*Z.sz
 | [],[],_=>by simp
 | [],_ :: _,h=>by cases h.1
 | _ :: _,[],h=>by cases h.1
 | k :: K,x :: L,h=>by
  have h1:AllC Z w K L:=⟨by simpa using h.1,λi h1 h2=>h.2 (i+1) (by simpa using h1) (by simpa using h2)⟩;have h2:=Z.wide _ _ _ (h.2 0 (by simp) (by simp));simp only[List.getElem_cons_zero] at h2;rw[cV,List.length_append,Xa h1,h2,List.length_cons,Nat.succ_mul];omega
theorem flat_one{α : Type}{Z:Rec α}{w:World}{K:List (List Value)}{L:List α}(h:AllC Z w K L):∀ u∈K.flatten,u.oneCell'=true:=by
 intro u z;obtain⟨k,Q,z⟩:=List.mem_flatten.1 z;obtain⟨i,hi,rfl⟩:=List.getElem_of_mem Q;exact Z.one _ _ _ (h.2 i (by rw[<-h.1];exact hi) hi) u z
theorem AllC.later{α : Type}{Z:Rec α}{w w':World}{K:List (List Value)}{L:List α}(h:AllC Z w K L)(z:aD w.heap.size w w'):AllC Z w' K L:=
 ⟨h.1,λi h1 h2=>Z.kept _ _ _ _ z (h.2 i h1 h2)⟩
theorem AllC.snoc{α : Type}{Z:Rec α}{w:World}{K:List (List Value)}{L:List α}(h:AllC Z w K L){k:List Value}{x : α}(hx:Z.C w k x):AllC Z w (K++[k]) (L++[x]):=by
 refine⟨by simp[h.1],λi h1 h2=>?_⟩
 rcases Nat.lt_or_ge i L.length with q|q
 ·rw[List.getElem_append_left (h:=by rw[h.1];exact q),List.getElem_append_left (h:=q)];exact h.2 i q (by rw[h.1];exact q)
 ·have e:i=L.length:=by simp at h1;omega
  subst e;rw[List.getElem_append_right (by rw[h.1];exact aH _),List.getElem_append_right (aH _)];simpa[h.1] using hx
theorem Je{α : Type}{Z:Rec α}{w:World}:∀ {K:List (List Value)} {L:List α} (_:AllC Z w K L) (i:Nat) (h':i<K.length) (j:Nat) (_:j<Z.sz),K.flatten[i*Z.sz+j]? = (K[i])[j]?
 | [],_,_,_,h',_,_=>absurd h' (by simp)
 | _ :: _,[],h,_,_,_,_=>by cases h.1
 | k :: K,x :: L,h,0,_,j,hj=>by
  have h2:=Z.wide _ _ _ (h.2 0 (by simp) (by simp));simp only[List.getElem_cons_zero] at h2;rw[cV,List.getElem?_append_left (by omega)];simp
 | k :: K,x :: L,h,i+1,h',j,hj=>by
  have h1:AllC Z w K L:=⟨by simpa using h.1,λi h1 h2=>h.2 (i+1) (by simpa using h1) (by simpa using h2)⟩;have h2:=Z.wide _ _ _ (h.2 0 (by simp) (by simp));simp only[List.getElem_cons_zero] at h2;rw[cV,List.getElem?_append_right (by rw[h2,Nat.succ_mul];omega),h2];rw[show (i+1)*Z.sz+j - Z.sz=i*Z.sz+j by rw[Nat.succ_mul];omega];rw[Je h1 i (by simpa using h') j hj];simp
theorem W3{α : Type}(Z:Rec α){w:World}{b off:Nat}{L:List α}(h:∀ i (h:i<L.length),Z.R w b (off+i*Z.sz) L[i]):∃ K,AllC Z w K L/\U9 w b off K.flatten:=by
 have h2:∀ k,k<=L.length->∃ K,AllC Z w K (L.take k)/\U9 w b off K.flatten:=by
  intro k
  induction k with
  | zero=>intro _;exact⟨[],⟨by simp,λi h1 h2=>absurd h2 (by simp)⟩,λj u z=>by simp at z⟩
  | succ k ih=>
   intro hk;obtain⟨K,h1,h3⟩:=ih (by omega);obtain⟨cs,h4,h5⟩:=Z.rc _ _ _ _ (h k (by omega));refine⟨K++[cs],by rw[List.take_succ_eq_append_getElem (by omega)];exact h1.snoc h5,λj u z=>?_⟩;have Q:=Xa h1;rw[List.length_take,Nat.min_eq_left (by omega)] at Q;rw[List.flatten_append] at z
   rcases Nat.lt_or_ge j K.flatten.length with q|q
   ·rw[List.getElem?_append_left q] at z;exact h3 j u z
   ·rw[List.getElem?_append_right q] at z;have:=h4 (j - K.flatten.length) u (by simpa using z);rw[show off+k*Z.sz+(j - K.flatten.length)=off+j by omega] at this;exact this
 obtain⟨K,h1,h3⟩:=h2 L.length (aH _);rw[List.take_length] at h1;exact⟨K,h1,h3⟩
theorem rows_of_own{α : Type}(Z:Rec α){w:World}{base n:Nat}{e:bO}{v:Value}{K:List (List Value)}{L:List α}(h:w.ownsRow base e Z.sz v n K.flatten)(z:AllC Z w K L)(hn:L.length=n):∃ a c,v = F a n c/\RowsAt Z.R Z.sz w a n L/\SlOk a n c:=by
 rcases h.2 with ⟨rfl,rfl⟩|⟨g,cap,af,rfl,hg,hh,h1,h2,h3,h4⟩
 ·exact⟨none,0,rfl,⟨hn,λh=>absurd h (by omega)⟩,aH _,aQ _,λ_=>⟨rfl,rfl⟩⟩
 ·refine⟨_,cap,rfl,⟨hn,λ_=>⟨g,0,rfl,aA hh,λi hi=>?_⟩⟩,h1,h2,λe=>by cases e⟩;have Q:i<K.length:=by rw[z.1];exact hi
  refine Z.cr _ _ _ (K[i]) _ (λj u hj=>?_) (z.2 i hi Q);have hw:=Z.wide _ _ _ (z.2 i hi Q);have ad:j<Z.sz:=by rw[<-hw];exact (List.getElem?_eq_some_iff.1 hj).1
  rw[Nat.zero_add,World.ownsRow.cellAt h _ (by
   have:(i+1)*Z.sz<=n*Z.sz:=Nat.mul_le_mul_right _ (by omega);rw[Nat.succ_mul] at this;omega),Je z i Q j ad]
  exact hj
end Tr
open Go.RowKit
theorem Gr.row{w z:World}{S:Nat->Prop}(h:Gr w z S){g:Nat}(hg:S g\/w.heap.size<=g)(cs:Array Value):Gr w (z.setRow g cs) S:=
 ⟨h.os,h.tape,h.output,by rw[setRow_size];exact h.size,λi hi Q=>(setRow_other z g i cs (λe=>by
  subst e
  rcases hg with q|q
  ·exact Q q
  ·omega)).trans (h.block i hi Q)⟩
section
variable {P : Program}
end
theorem tk{P:Program}{z:Array Oper}{Q:Exit->Act->World->Prop}{md:Region.Mode}{S:World->Prop}(i:Nat)(oi:Oper)(v:Value){fuel:Nat}{aa:Array Bool}{a:Act}{w:World}(hi:z[i]? = some oi)
  (hy:∀ w,S w->(execOp a.eval oi).run P w = .ok (.value v) w) (hS:S w) (h:wpAnyH P md z Q S fuel (aa.setIfInBounds i true) (a.put oi.dst v) w)
  (hQ:∀ c a w,Q (.panic c) (a.put oi.dst v) w->Q (.panic c) a w:=by exact λ_ _ _ h=>h) (hw:Region.wanted oi (yielded z a.tmps)=true:=by rfl)
  (hs:Region.noSelect z=true:=by kernel_rfl) (hf:Region.free md z aa i=true:=by kernel_rfl) (hr:(Region.ready md z aa).contains i=true:=by kernel_rfl) :
  wpAnyH P md z Q S (fuel+1) aa a w:=wpAnyH_take hi hs hf hr hQ (Or.inl ⟨hw,hy⟩) hS h
open Go.RowKit Go.Shelf
attribute [local go_sem] Oper.semAt_some
structure KpD(n1 b c:Nat)(W W':World):Prop where
 os:W'.os=W.os
 tape:W'.tape=W.tape
 output:W'.output=W.output
 size:W.heap.size<=W'.heap.size
 block:∀ k,k<n1->k≠b->k≠c->W'.heap[k]? = W.heap[k]?
theorem KpD.refl(n1 b c:Nat)(W:World):KpD n1 b c W W:=⟨rfl,rfl,rfl,aH _,λ_ _ _ _=>rfl⟩
theorem KpD.trans{n1 b c:Nat}{A B C:World}(h:KpD n1 b c A B)(k:KpD n1 b c B C):KpD n1 b c A C:=
 ⟨k.os.trans h.os,k.tape.trans h.tape,k.output.trans h.output,aS h.size k.size,λi h1 h2 h3=>(k.block i h1 h2 h3).trans (h.block i h1 h2 h3)⟩
theorem KpD.put{n1 b c:Nat}(W:World)(l:Nat)(o:Obj)(h:n1<=l):KpD n1 b c W (W.putObj l o):=
 ⟨rfl,rfl,rfl,by simp,λk z _ _=>World.putObj_heap_other (by omega)⟩
theorem KpD.set{n1 b c:Nat}{W W':World}(h:KpD n1 b c W W'){p:Addr}(hp:p.block=b\/p.block=c)(u:Value):KpD n1 b c W (W'.setCell p u):=
 ⟨h.os,h.tape,h.output,by simpa[World.setCell] using h.size,λk h1 h2 h3=>(Below.heap_setCell W' p u k (λe=>by subst e;rcases hp with q|q;exact h2 q;exact h3 q)).trans (h.block k h1 h2 h3)⟩
theorem KpD.on{n1 b c:Nat}{W Q W2:World}(h:KpD n1 b c W Q)(z:aD Q.heap.size Q W2)(hn:n1<=Q.heap.size):KpD n1 b c W W2:=
 ⟨z.os.trans h.os,z.tape.trans h.tape,z.output.trans h.output,aS h.size z.size,λk h1 h2 h3=>(z.block k (by omega)).trans (h.block k h1 h2 h3)⟩
theorem KpD.grown{n1 b c:Nat}{W z Q:World}(h:KpD n1 b c W z){row:Option Nat}(g:z.grownBy Q row)(hr:∀ r,row=some r->n1<=r)(hn:n1<=z.heap.size):KpD n1 b c W Q:=
 ⟨g.os.trans h.os,g.tape.trans h.tape,g.output.trans h.output,aS h.size g.size,λk h1 h2 h3=>(g.block k (by omega) (λe=>by have:=hr k e.symm;omega)).trans (h.block k h1 h2 h3)⟩
theorem KpD.below{n1 b c:Nat}{w W0 W:World}(h:KpD n1 b c W0 W)(z:aD w.heap.size w W0)(hn:w.heap.size<=n1)(h1:w.heap.size<=b)(h2:w.heap.size<=c):aD w.heap.size w W:=
 ⟨h.os.trans z.os,h.tape.trans z.tape,h.output.trans z.output,aS z.size h.size,λk Q=>(h.block k (by omega) (by omega) (by omega)).trans (z.block k Q)⟩
theorem KpD.cell{n1 b c:Nat}{W W':World}(h:KpD n1 b c W W'){k o:Nat}{v:Value}(z:k<n1)(h2:k≠b)(h3:k≠c)(Q:W.cell? ⟨k,o,none⟩=some v):W'.cell? ⟨k,o,none⟩=some v:=
 (bV (a:=⟨k,o,none⟩) (h.block k z h2 h3)).trans Q
def Box1(W:World)(k:Nat):Prop:=∃ v t fr,W.heap[k]? = some (cW #[v] t fr)
theorem Box1.two{W:World}{k:Nat}(h:Box1 W k){o:Nat}{v:Value}(h2:W.cell? ⟨k,o+1,none⟩=some v):False:=by
 obtain⟨x,t,fr,hx⟩:=h;rw[cell_of_row W k (o+1) #[x] t fr hx] at h2;simp at h2
theorem Zgs{W W':World}{S:Nat->Prop}(Q:∀ k,k<W.heap.size->¬S k->W'.heap[k]? = W.heap[k]?)(hB:∀ k,S k->Box1 W k){a:Option Addr}{n:Nat}{l:List (Int×Int)}(h:OpsAt W a n l):OpsAt W' a n l:=by
 refine⟨h.1,λh0=>?_⟩;obtain⟨b,off,rfl,z⟩:=h.2 h0;refine⟨b,off,rfl,λi hi=>?_⟩;obtain⟨c0,c1⟩:=z i hi;have e:=Q b (aF _ _ c0) (λq=>(hB b q).two c1);exact⟨(bV (a:=⟨b,_,none⟩) e).trans c0,(bV (a:=⟨b,_,none⟩) e).trans c1⟩
theorem Zbm{W W':World}{S:Nat->Prop}(hs:W.heap.size<=W'.heap.size)(z:∀ k,k<W.heap.size->¬S k->W'.heap[k]? = W.heap[k]?)(hB:∀ k,S k->Box1 W k){a:Option Addr}{n:Nat}{L:List Zj}(h:CoinsAt W a n L):CoinsAt W' a n L:=by
 refine⟨h.1,λh0=>?_⟩;obtain⟨b,off,rfl,Q,hc⟩:=h.2 h0;refine⟨b,off,rfl,aE Q hs,λi hi=>?_⟩;obtain⟨c0,c1,c2,⟨la,ln,lc,c3,h5,h6⟩,c4,c5⟩:=hc i hi;have e:=z b Q (λq=>(hB b q).two c1);have g:=λ(o:Nat)=>bV (a:=⟨b,o,none⟩) e;exact⟨(g _).trans c0,(g _).trans c1,(g _).trans c2,⟨la,ln,lc,(g _).trans c3,Zgs z hB h5,h6⟩,(g _).trans c4,(g _).trans c5⟩
end Go.Proofs.YtmomfkikogbdeaaGreatDoor
namespace Go.Proofs.YtmomfkikogbdeaaGreatDoor
open Go.RowKit
theorem Zm{P:Program}{z:Array Oper}{o:Oper}{a:Act}{w:World}{K:Act->World->Prop}{ah:Exit->Act->World->Prop}{aa:Prop}
  (hw:Region.wanted o (yielded z a.tmps)=true) (f:FuncId) (Q:Array Value) (he:(execOp a.eval o).run P w = .ok (.enter f Q) w) {R:Ending->World->Prop} (hc:Calls P f Q w R) (h:∀ e w',R e w'->∃ v,e = cY v/\K (a.put o.dst v) w') :
  if Region.wanted o (yielded z a.tmps)=true then Oper.wp P o a w K ah else aa:=by
 rw[if_pos hw];unfold Oper.wp;rw[he,Oper.upon_enter];refine hc.mono ?_;intro e w' hr;obtain⟨v,rfl,hk⟩:=h e w' hr;exact hk
theorem Zy{P:Program}{ae:Array Oper}{o:Oper}{a:Act}{w:World}{K:Act->World->Prop}{af:Exit->Act->World->Prop}{Q:Prop}
  (hg:o.guard=none) (f:FuncId) (z:Array Value) (he:(execOp a.eval o).run P w = .ok (.enter f z) w) {R:Ending->World->Prop} (hc:Calls P f z w R) (h:∀ e w',R e w'->∃ v,e = cY v/\K (a.put o.dst v) w') :
  if Region.wanted o (yielded ae a.tmps)=true then Oper.wp P o a w K af else Q:=
 Zm (by simp[Region.wanted,hg]) f z he hc h
namespace Bk
open Go.RowKit Go.Maps
theorem all_isF(a z:Option Addr)(n c nl cl:Nat)(L l M:List ByteArray)(N:List Int)(x:Int)(w:World)(h:TextsAt w a n L)(hl:TextsAt w z nl l)(am:nl<=17592186044416)(hx:allR L l=(M,N,x)) :
  Calls Tryz.prog 86 #[.agg #[F a n c],F z nl cl] w λe w'=>(∃ a' n' c' a2 Q c2,e = cY (cZ #[.agg #[F a' n' c'],F a2 Q c2,E J x])/\(∀ w2,Gr w' w2 (λk=>k<w.heap.size)->TextsAt w2 a' n' M)/\SlOk a' n' c'/\IntsAt w' a2 Q N/\Q<=nl/\Q<=c2)/\aD w.heap.size w w':=by
 unfold allR at hx;by_cases h0:bkChk L=0
 ·rw[if_pos h0] at hx;exact Hl a z n c nl cl L l M N x w h hl am ((right_iff L).1 h0) hx
 ·rw[if_neg h0] at hx;have e1:M=[]:=by injection hx with hx _;exact hx.symm
  have e2:N=[]:=by injection hx with _ hx;injection hx with hx _;exact hx.symm
  have e3:bkChk L=x:=by injection hx with _ hx;injection hx with _ hx
  subst e1 e2;refine (Eg a z n c nl cl L w h x e3 (by rw[<-e3];exact h0)).mono ?_;rintro e w' ⟨rfl,hb⟩;exact⟨⟨_,_,_,_,_,_,rfl,λ_ _=>TextsAt.nil _ _,SlOk.nil,IntsAt.nil _ _,aQ _,aH _⟩,hb⟩
theorem name_fresh(a:Option Addr)(n c:Nat)(L M:List ByteArray)(s:ByteArray)(k x:Int)(w:World)(h:TextsAt w a n L)(hx:nameR L s=(M,k,x)) :
  Calls Tryz.prog 157 #[.agg #[F a n c],.string s] w λe w'=>(∃ Q n' c',e = cY (cZ #[.agg #[F Q n' c'],E J k,E J x])/\(∀ w2,Gr w' w2 (λk=>k<w.heap.size)->TextsAt w2 Q n' M)/\SlOk Q n' c')/\aD w.heap.size w w':=by
 have ay:=Zh w (cW #[F a n c] 24);have ac:=Zh (w.alloc (cW #[F a n c] 24)) (cW #[F none 0 0] 24);have bb:(w.alloc (cW #[F a n c] 24)).heap.size=w.heap.size+1:=by simp
 have bd:((w.alloc (cW #[F a n c] 24)).alloc (cW #[F none 0 0] 24)).heap.size=w.heap.size+1+1:=by simp
 have c1:=aR (w.alloc (cW #[F a n c] 24)) (cW #[F none 0 0] 24);rw[bb] at c1;have z:=Zh ((w.alloc (cW #[F a n c] 24)).alloc (cW #[F none 0 0] 24)) (cW #[.string s] 9);have ht:=Zdn ((w.alloc (cW #[F a n c] 24)).alloc (cW #[F none 0 0] 24)) s;rw[bd] at ht;have hb:=Zf (Zf ay ac) z;have c2:=ZE z c1;have ea:=Zhz L s;rw[hx] at ea;have ER:=Zdv (L:=L) (s:=s);rw[hx] at ER;simp only at ea ER;have AL:=Zd (all_isF a (some ⟨w.heap.size+1+1,0,none⟩) n c 1 1 L [s] M (if x=0 then [k] else []) x _ (h.later hb) ht (by decide) ea);have HB:=Zd hb;have C2:=Zd c2;clear h hx ea hb ay ac z bb bd c1 c2 ht;by_cases h0:x=0
 ·subst h0;rw[if_pos rfl] at AL;clear ER;go_enter Tryz.func157,Tryz.ntmps157;go_wp2_with fail;refine AL.mono ?_;rintro e w2 ⟨⟨Q,n',c',a2,n2,c2,rfl,t1,t2,t3,-⟩,ac⟩;obtain⟨t4,t5⟩:=t3;have e:n2=1:=by rw[<-t4];rfl
  subst e;obtain⟨b,off,rfl,hc⟩:=t5 (by decide);have f:=hc 0 (by simp);simp only[Nat.add_zero,List.getElem_cons_zero] at f;have af:=Zd (Zf HB ac);have c3:=ZE ac C2;have z:=Zh w2 (cW #[F Q n' c'] 24);have c4:=ZE z c3;have bh:=Zd t2;have br:w.heap.size+1<w2.heap.size:=aA c3;have f2:=Ze z f;have n0:=Jb w2 (F Q n' c') 24
  have bt:b≠w.heap.size+1:=by
   intro e;subst e;rw[cell_of_row _ _ _ _ _ _ c3] at f
   rcases off with _|off
   ·simp at f
   ·simp at f
  obtain⟨X,hX⟩:=ZG (w2.alloc (cW #[F Q n' c'] 24));rw[<-hX] at c4 f2 n0 z;have aw:=Zd (Zf af z);have d0:X.cell? ⟨w.heap.size+1,0,none⟩=some (F none 0 0):=by simp[bF,c4]
  have df:X.frozen? ⟨w.heap.size+1,0,none⟩=false:=by simp[World.frozen?,c4]
  have bs:b<X.heap.size:=aF _ _ f2;have bu:¬w2.heap.size=w.heap.size+1:=by omega
  have TS:Hid (∀ u w2,Gr (X.setCell ⟨w.heap.size+1,0,none⟩ u).drew w2 (λk=>k<w.heap.size)->TextsAt w2 Q n' M):=λu w2 g2=>t1 w2 (((((Gr.of z).set (p:=⟨w.heap.size+1,0,none⟩) (.inl (by simp)) u).draw).trans (g2.mono (λ_ _ hk=>aE hk (by simp;omega)))));clear t1 t2 ac z c3 c4 f hc t4 t5;go_wp2;rw[<-hX];clear hX
  go_region
  go_wp2;(try simp only[Exit.then]);refine bA (v:=cZ #[.agg #[F Q n' c'],E J k,E J 0]) ?_ rfl ⟨⟨_,_,_,rfl,TS _,Za bh⟩,?_⟩
  ·rw[results_cell_tmp2 rfl];go_simp
  ·exact (aw.setCell (cT _) _).drew
 ·rw[if_neg h0] at AL;obtain⟨rfl,rfl⟩:=ER h0;have g:(x != 0)=true:=by simp[h0]
  go_enter Tryz.func157,Tryz.ntmps157;go_wp2_with fail;refine AL.mono ?_;rintro e w2 ⟨⟨Q,n',c',a2,n2,c2,rfl,t1,t2,t3,-⟩,ac⟩;have af:=Zd (Zf HB ac);have c3:=ZE ac C2;have z:=Zh w2 (cW #[F Q n' c'] 24);have c4:=ZE z c3;have aw:=Zd (Zf af z);have br:w.heap.size+1<w2.heap.size:=aA c3;have d0:w2.cell? ⟨w.heap.size+1,0,none⟩=some (F none 0 0):=by simp[bF,c3]
  have df:w2.frozen? ⟨w.heap.size+1,0,none⟩=false:=by simp[World.frozen?,c3]
  clear t1 t2 t3 ac z c3 c4;go_wp2;(try simp only[Exit.inBlock,Exit.then]);refine bA (v:=cZ #[.agg #[F none 0 0],E J 0,E J x]) ?_ rfl ⟨⟨_,_,_,rfl,λ_ _=>TextsAt.nil _ _,SlOk.nil⟩,?_⟩
  ·rw[results_cell_tmp2 rfl];go_simp
  ·exact (af.setCell (cT _) _).alloc (by have:=af.size;simp;omega) _
end Bk
open Go.RowKit Go.Shelf
def Jn(K:List ByteArray)(C:List Zj)(h:Int):Int:=
 if Bk.bkChk K≠0 then Bk.bkChk K else if Yj C≠0 then Yj C else if (decide (1<=h) && decide (h<=1000))=false then 3 else 0
def Zfo(w:World)(p:Nat)(K:List ByteArray)(C:List Zj)(h:Int):Prop:=
 ∃ ka kn kc z ln Q,w.heap[p]? = some (cW #[F ka kn kc,F z ln Q,E J h] 162 (0,0))/\Bk.TextsAt w ka kn K/\SlOk ka kn kc/\CoinsAt w z ln C/\SlOk z ln Q
def DoT(w':World)(B p:Nat)(K:List ByteArray)(C:List Zj)(h:Int):Prop:=
 ∃ ka kn kc z ln Q,w'.heap[p]? = some (cW [F ka kn kc,F z ln Q,E J h].toArray 162 (0,0))/\Fresh B w' (λw2=>Bk.TextsAt w2 ka kn K/\CoinsAt w2 z ln C)/\SlOk ka kn kc/\SlOk z ln Q
theorem DoT.till{w:World}{B p:Nat}{K:List ByteArray}{C:List Zj}{h:Int}(d:DoT w B p K C h):Zfo w p K C h:=by
 obtain⟨ka,kn,kc,z,ln,Q,h1,h2,h3,h4⟩:=d;have h5:=h2 w (Gr.refl _ _);exact⟨ka,kn,kc,z,ln,Q,h1,h5.1,h3,h5.2,h4⟩
theorem DoT.on{w w':World}{B p:Nat}{K:List ByteArray}{C:List Zj}{h:Int}(d:DoT w B p K C h)(g:Gr w w' (λq=>q<B))(hp:w'.heap[p]? = w.heap[p]?):DoT w' B p K C h:=by
 obtain⟨ka,kn,kc,z,ln,Q,h1,h2,h3,h4⟩:=d;exact⟨ka,kn,kc,z,ln,Q,hp.trans h1,λw2 g2=>h2 w2 (g.trans g2),h3,h4⟩
theorem DoT.later{w w':World}{B p:Nat}{K:List ByteArray}{C:List Zj}{h:Int}(d:DoT w B p K C h)(z:aD w.heap.size w w'):DoT w' B p K C h:=by
 have hp:p<w.heap.size:=by obtain⟨ka,kn,kc,Q,ln,lc,h1,_⟩:=d;exact aA h1
 exact d.on (Gr.of z) (z.block p hp)
theorem DoT.less{w:World}{B z p:Nat}{K:List ByteArray}{C:List Zj}{h:Int}(d:DoT w B p K C h)(hB:z<=B):DoT w z p K C h:=by
 obtain⟨ka,kn,kc,Q,ln,lc,h1,h2,h3,h4⟩:=d;exact⟨ka,kn,kc,Q,ln,lc,h1,λw2 g2=>h2 w2 (g2.mono λ_ _ q=>aE q hB),h3,h4⟩
def OpR(w w':World)(x:Int)(K:List ByteArray)(C:List Zj)(h:Int)(e:Ending):Prop:=
 ((x≠0/\e = cY (cZ #[dA none,E J x]))\/(x=0/\∃ p,e = cY (cZ #[dA (some ⟨p,0,none⟩),E J 0])/\w.heap.size<=p/\p+1=w'.heap.size/\DoT w' w.heap.size p K C h))/\aD w.heap.size w w'
theorem Zdf(ka:Option Addr)(kn kc:Nat)(K:List ByteArray)(la:Option Addr)(ln lc:Nat)(C:List Zj)(h x:Int)(w:World)(hK:Bk.TextsAt w ka kn K)(hC:CoinsAt w la ln C)(sC:SlOk la ln lc)(hx:Jn K C h=x) :
  Calls Tryz.prog 149 #[.agg #[F ka kn kc],F la ln lc,E J h] w λe w'=>OpR w w' x K C h e:=by
 obtain⟨X,hX⟩:=ZG (w.alloc (cW #[F ka kn kc] 24));have bd:aD w.heap.size w X:=by rw[hX];exact Zh _ _
 have bb:X.heap[w.heap.size]? = some (cW [F ka kn kc].toArray 24 (0,0)):=by rw[hX];exact Yl _ _ _
 obtain⟨⟨M,Z,dv⟩,z⟩:=ZF (Bk.allR K []);have C1:=Zd (Bk.all_isF ka none kn kc 0 0 K [] M Z dv X (hK.later bd) ⟨rfl,λh=>absurd h (by omega)⟩ (by omega) z)
 have ca:dv=Bk.bkChk K/\(dv=0->M=K):=by
  unfold Bk.allR at z;split at z
  ·rename_i q;rw[Bk.nmGo] at z;simp only[Prod.mk.injEq] at z;exact⟨by rw[<-z.2.2,q],λ_=>z.1.symm⟩
  ·rename_i q;simp only[Prod.mk.injEq] at z;exact⟨z.2.2.symm,λe=>absurd (z.2.2.trans e) q⟩
 unfold Jn at hx;rw[<-ca.1] at hx;obtain⟨y,hy⟩:=ZF (Yj C);rw[hy] at hx;obtain⟨g,hg⟩:=ZF ((decide (1<=h) && decide (h<=1000)));rw[hg] at hx;have HZ:=Zd ca.2;have HX:=Zd hx;have HG:=Zd hg;have HY:=Zd hy;have HC:=Zd (hC.later bd);have dd:=Zd sC;have bo:=Zd bd;have cj:=Zd bb;have dk:=Zb bb 0 _ rfl;have xl:=aA bb;have cl:=Zd xl;clear hK hC sC hx bd bb z ca hy hg;go_enter Tryz.func149,Tryz.ntmps149;go_wp2_with fail;rw[<-hX];clear hX;(try go_wp2_with fail);refine C1.mono ?_;rintro e w1 ⟨⟨a',n',c',a2,n2,c2,rfl,hT,sT,_,_,_⟩,Q⟩;have h10:=ZE Q cj;have y0:=Zb h10 0 _ rfl;have yf:=Zg h10 0;have yl:=aA h10;obtain⟨W1,am⟩:=ZG (w1.setCell ⟨w.heap.size,0,none⟩ (F a' n' c'));have g1:Gr w1 W1 (λq=>q=w.heap.size):=by rw[am];exact (Gr.refl w1 (λq=>q=w.heap.size)).set (p:=⟨w.heap.size,0,none⟩) (.inl rfl) _
 have bs:W1.heap[w.heap.size]? = some (cW #[F a' n' c'] 24 (0,0)):=by rw[am];exact Wo h10
 have cq:aD w.heap.size w W1:=g1.below (Zf bo Q) (Zf bo Q).size (λq e=>by omega);have cg:Hid (CoinsAt W1 la ln C):=Zbm (S:=λq=>q=w.heap.size) g1.size g1.block (λk e=>by subst e;exact⟨_,_,_,h10⟩) (HC.later Q);have df:Hid (Fresh w.heap.size W1 (λw2=>Bk.TextsAt w2 a' n' M)):=λw2 g2=>hT w2 ((g1.mono (λk _ e=>by rw[e];exact cl)).trans (g2.mono (λk _ e=>Nat.lt_trans e cl)));have ce:=Zd cq;have da:=Zd bs;have de:=Zd sT;have dp:=Zd (show w.heap.size<W1.heap.size from aA bs);have C2:=Zd (Vj la ln lc C y W1 cg HY);clear Q h10 hT sT g1 bs cq C1 dk xl HC cj bo;by_cases bg:dv=0
 ·subst bg;obtain rfl:=HZ rfl;go_wp2_with fail;rw[<-am];clear am y0 yf yl;(try go_wp2_with fail);refine C2.mono ?_;rintro e w2 ⟨rfl,bu⟩;have bk:=Zd (Zf ce bu);have cd:=Zd bu;have C3:=Zd (Z3 h 1 1000 g w2 HG);clear bu C2;by_cases bf:y=0
  ·subst bf;go_wp2_with fail;refine C3.mono ?_;rintro e w3 ⟨rfl,bv⟩;have av:=Zd (Zf bk bv);have bj:=Zd (Zf cd bv);clear bv C3 cd bk;cases g
   ·have ak:Hid (x=3):=(by have:=Za HX;rw[if_neg (λq=>q rfl),if_neg (λq=>q rfl),if_pos rfl] at this;exact this.symm);clear HX;go_wp2;go_ret2;rw[Za ak];exact⟨.inl ⟨by decide,rfl⟩,Za av⟩
   ·have ak:Hid (x=0):=(by have:=Za HX;rw[if_neg (λq=>q rfl),if_neg (λq=>q rfl),if_neg (by decide)] at this;exact this.symm);have bt:=(Yr C).1 HY;have ar:=Za cg;have di:=ar.1;have dj:=bt.len;have CP:=Zd (λV (hv:aD W1.heap.size W1 V)=>U5 la ln lc C V (by omega) (ar.later hv) dd (λdv z=>by have:=R9 (Yy (bt.one dv z)).2.2.2.2.2.2.2.2;omega));have h3:=ZE bj da;have KS:Hid (∀ V:World,aD w3.heap.size w3 V->V.cell? ⟨w.heap.size,0,none⟩=some (F a' n' c')/\w.heap.size<V.heap.size):=λV hv=>⟨Ze hv (Zb (X:=[F a' n' c']) h3 0 _ rfl),aE (aA h3) hv.size⟩;clear HX bt ar di dj h3;go_wp2_with fail;refine wp_region_held_drew (S:=λV=>V.cell? ⟨w.heap.size,0,none⟩=some (F a' n' c')/\w.heap.size<V.heap.size) (by kernel_rfl) (KS _ (Zi _)) (λaa=>?_);refine tk 0 ⟨some 28,.load 24 (.tmp 3),24, "till.go:31",#[],none⟩ ?_ rfl ?_ aa ?_;rotate_left
    ·(intro V ah;obtain⟨s1,s2⟩:=ah;go_simp;first|done|with_reducible rfl)
    (try simp only[aC,ZA,ZB,ZC]);refine tk 1 ⟨some 29,.move (.tmp 1),29, "till.go:31",#[],none⟩ ?_ rfl ?_ aa ?_;rotate_left
    ·(intro V ah;obtain⟨s1,s2⟩:=ah;go_simp;first|done|with_reducible rfl)
    (try simp only[aC,ZA,ZB,ZC]);refine tk 3 ⟨some 31,.move (.tmp 2),3, "till.go:31",#[],none⟩ ?_ rfl ?_ aa ?_;rotate_left
    ·(intro V ah;obtain⟨s1,s2⟩:=ah;go_simp;first|done|with_reducible rfl)
    (try simp only[aC,ZA,ZB,ZC]);refine aG (rs:=[2]) (by kernel_rfl) (by simp) ?_;refine AllReadyH.cons (o:=⟨some 30,.call { callee:=Callee.value (.func 66),args:=#[.tmp 29],argTypes:=#[29] },29, "till.go:31",#[⟨1,.data⟩],none⟩) rfl (λKQ hK=>?_) AllReadyH.nil;refine Zm (by kernel_rfl) 66 #[F la ln lc] (by kernel_rfl) (CP _ (Zf bj (Zi _))) ?_;rintro e V1 ⟨dw,cc,rfl,hF,cy,cp⟩;refine⟨_,rfl,?_⟩;have Q:aD w3.heap.size w3 V1:=Zf (Zi w3) cp;have ar:CoinsAt V1 dw ln C:=hF _ (Gr.refl _ _);refine hK.out _ _ (KS _ Q) (λan=>?_);clear hK KQ aa;have aa:=an;clear an;(try simp only[aC,ZA,ZB,ZC]);refine tk 4 ⟨some 32,.build 162 #[(0,.tmp 28),(1,.tmp 30),(2,.tmp 31)],162, "till.go:31",#[⟨0,.data⟩,⟨2,.data⟩,⟨3,.data⟩],none⟩ ?_ rfl ?_ aa ?_;rotate_left
    ·(intro W ah;go_simp;first|done|with_reducible rfl)
    (try simp only[aC,ZA,ZB,ZC]);refine aG (rs:=[5]) (by kernel_rfl) (by simp) ?_;refine AllReadyH.cons (o:=⟨some 33,.box 162 (.tmp 32),157, "till.go:31",#[⟨4,.data⟩],none⟩) rfl (λKQ hK=>?_) AllReadyH.nil;go_simp;obtain⟨V2,ap⟩:=ZG (V1.alloc (cW #[F a' n' c',F dw ln cc,E J h] 162));have aq:aD V1.heap.size V1 V2:=(by rw[ap];exact Zh _ _);have h2:V2.heap[V1.heap.size]? = some (cW #[F a' n' c',F dw ln cc,E J h] 162 (0,0)):=(by rw[ap];exact aR _ _);have ct:V2.heap.size=V1.heap.size+1:=(by rw[ap];simp);rw[<-ap];refine hK.out _ _ (KS _ (Zf Q aq)) (λan=>?_);clear hK KQ aa;have aa:=an;clear an;(try simp only[aC,ZA,ZB,ZC]);refine tk 6 ⟨some 6,.assign (.tmp 33),157, "till.go:31",#[⟨5,.data⟩,⟨2,.chain⟩,⟨0,.phase⟩,⟨1,.phase⟩,⟨2,.phase⟩,⟨3,.phase⟩,⟨4,.phase⟩,⟨5,.phase⟩],none⟩ ?_ rfl ?_ aa ?_;rotate_left
    ·(intro W ah;go_simp;first|done|with_reducible rfl)
    (try simp only[aC,ZA,ZB,ZC]);refine tk 7 ⟨some 7,.assign (.const (Value.int IntKind.i64 0)),30, "till.go:31",#[⟨6,.chain⟩,⟨0,.phase⟩,⟨1,.phase⟩,⟨2,.phase⟩,⟨3,.phase⟩,⟨4,.phase⟩,⟨5,.phase⟩,⟨6,.phase⟩],none⟩ ?_ rfl ?_ aa ?_;rotate_left
    ·(intro W ah;go_simp;first|done|with_reducible rfl)
    (try simp only[aC,ZA,ZB,ZC]);refine wpAnyH_done (by kernel_rfl) ?_ _;clear aa;have HF:Hid (OpR w V2 0 M C h (cY (cZ #[dA (some ⟨V1.heap.size,0,none⟩),E J 0]))):=⟨.inr ⟨rfl,V1.heap.size,rfl,aS av.size Q.size,ct.symm,a',n',c',dw,ln,cc,h2,λw2 g2=>⟨df w2 ((Gr.of (Zf bj (Zf Q aq))).trans g2),hF w2 ((Gr.of aq).trans (g2.mono (λk _ e=>aE e av.size)))⟩,Za de,cy⟩,Zf av (Zf Q aq)⟩;clear aq h2 ct ap Q ar hF cy cp KS CP;go_wp2;go_ret2;rw[Za ak];exact Za HF
  ·have ak:Hid (x=y):=(by have:=Za HX;rw[if_neg (λq=>q rfl),if_pos bf] at this;exact this.symm);have gy:(y != 0)=true:=(by simp[bf]);clear HX C3;go_wp2;go_ret2;rw[Za ak];exact⟨.inl ⟨bf,rfl⟩,Za bk⟩
 ·have ak:Hid (x=dv):=by have:=Za HX;rw[if_pos bg] at this;exact this.symm
  have gz:(dv != 0)=true:=by simp[bg]
  clear HX C2;have dg:=Zd am;clear am;go_wp2;rw[<-Za dg];go_ret2;rw[Za ak];exact⟨.inl ⟨bg,rfl⟩,Za ce⟩
