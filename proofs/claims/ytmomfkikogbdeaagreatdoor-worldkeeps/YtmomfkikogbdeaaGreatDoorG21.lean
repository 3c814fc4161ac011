import Derived.Test.YtmomfkikogbdeaaGreatDoorH
import Derived.Test.YtmomfkikogbdeaaGreatDoorG19
import Derived.Test.YtmomfkikogbdeaaGreatDoorG20
import Derived.Lib.OwnKind
import Derived.LoopIn
import Derived.LoopNIn
import Derived.OwnWalkIn
import Derived.RangeFuncBound
import Derived.RangeFuncNested
import Derived.Shelf.RegionOpen
open Go renaming TypeId->bO,heap_alloc_new->aJ,bodyPost_ret->aW
open Go.Ending renaming returned->cS
open Go.IntKind renaming i64->J
open Go.Obj renaming cells->cR
open Go.Region renaming wanted->cF
open Go.Value renaming int->E,slice->F,tuple->cT
open Go.World renaming cell?_of_block->bQ,block_lt_of_cell?->aD,cell?->bD
open List renaming mem_cons->bB,append_assoc->cQ,mem_cons_self->cN
open Nat renaming le_refl->aF,lt_of_lt_of_le->aC,zero_le->aM,le_trans->aT
namespace Go.Proofs.YtmomfkikogbdeaaGreatDoor
open Go.RowKit
def Zav:List (InD×Value)->List Value
 | []=>[]
 | x :: r=>E J x.1.1 :: E J x.1.2.1 :: x.2 :: Zav r
def Fq:List (Zz×Value)->List Value
 | []=>[]
 | x :: r=>E J x.1.1 :: x.2 :: Fq r
theorem Vh{w w':World}{base:Nat}{e:bO}{size:Nat}{v}{n:Nat}{xs}(h:w.ownsRow base e size v n xs)(hk:∀ (k:Nat) (cs:Array Value),w.heap[k]? = some (cR cs e (0,0))->w'.heap[k]? = w.heap[k]?):w'.ownsRow base e size v n xs:=by
 obtain⟨hl,h0|⟨g,cap,z,hv,hg,Q,r⟩⟩:=h
 ·exact⟨hl,.inl h0⟩
 ·exact⟨hl,.inr ⟨g,cap,z,hv,hg,(hk g z Q).trans Q,r⟩⟩
structure PL(w:World)(q p lb:Nat)(A:Array Value)(h:Int)(wr:World)(v1 v2:Value)(L1:List (InD×Value))(L2:List (Zz×Value)):Prop where
 box:wr.heap[p]? = some (cR #[E J h,v1,v2] 59 (0,0))
 res:wr.heap[q]? = some (cR #[E J 0,F none 0 0,F none 0 0] 59 (0,0))
 pq:p≠q
 lin:wr.heap[lb]? = some (cR A 9 (0,0))
 own1:wr.ownsRow w.heap.size 119 3 v1 L1.length (Zav L1)
 own2:wr.ownsRow w.heap.size 122 2 v2 L2.length (Fq L2)
 keys1:∀ x∈L1,wr.ownsRow w.heap.size 164 2 x.2 x.1.2.2.length (flat x.1.2.2)
 keys2:∀ x∈L2,wr.ownsRow w.heap.size 164 2 x.2 x.1.2.length (flat x.1.2)
 bel:ZD w wr
 pge:w.heap.size<=p
theorem PL.later{w}{q p lb:Nat}{A}{h:Int}{wr w':World}{v1 v2 L1 L2}(s:PL w q p lb A h wr v1 v2 L1 L2)(z:ZD wr w'):PL w q p lb A h w' v1 v2 L1 L2 where
 box:=ZE z s.box
 res:=ZE z s.res
 pq:=s.pq
 lin:=ZE z s.lin
 own1:=Tm s.own1 z
 own2:=Tm s.own2 z
 keys1:=λx hx=>Tm (s.keys1 x hx) z
 keys2:=λx hx=>Tm (s.keys2 x hx) z
 bel:=Zf s.bel z
 pge:=s.pge
theorem Sv{w w':World}{base:Nat}{e:bO}{size:Nat}{v:Value}{n:Nat}{xs}(h:w.ownsRow base e size v n xs)(hg:w.grownBy w' v.ownBlock)(k:Nat)(cs)(t:bO)(hk:w.heap[k]? = some (cR cs t (0,0)))(ht:t≠e):w'.heap[k]? = w.heap[k]?:=by
 refine hg.block k (lt_of_block hk) (λQ=>?_);obtain⟨_,⟨rfl,_⟩|⟨g,cap,ae,rfl,_,z,_⟩⟩:=h
 ·cases Q
 ·have e2:k=g:=by injection Q
  subst e2;rw[hk] at z;injection z with z;injection z with _ z;exact ht z
theorem PL.alloc{w}{q p lb:Nat}{A}{h:Int}{wr:World}{v1 v2 L1 L2}(s:PL w q p lb A h wr v1 v2 L1 L2)(o:Obj):PL w q p lb A h (wr.alloc o) v1 v2 L1 L2:=s.later (Zh wr o)
theorem PL.drewN{w}{q p lb:Nat}{A}{h:Int}{wr:World}{v1 v2 L1 L2}(s:PL w q p lb A h wr v1 v2 L1 L2)(n:Nat):PL w q p lb A h (wr.drewN n) v1 v2 L1 L2:=
 s.later ⟨rfl,rfl,rfl,aF _,λ_ _=>rfl⟩
def hd1(x:List UInt8):Option UInt8:=x.head?
theorem hasP_no{p:PtD}{L}:Ug p L=false↔∀ c∈L,pt c≠p:=by
 rw[<-Bool.not_eq_true,Tx];exact⟨λh c z e=>h ⟨c,z,e⟩,λh ⟨c,z,e⟩=>h c z e⟩
theorem Bj{L M S}{t:TxD}{name h:Int}(e:apD L t name h=(0,M,S)):Wb L t name h=0/\∃ z,Zq h t.2.1 [] L=(0,S,z)/\Lo S t=0/\Ya name h (isR t) 0 t.2.2 z=(0,M)/\Yi M=0:=by
 obtain⟨x1,h1⟩:=ZF (Wb L t name h);obtain⟨⟨x2,S2,z⟩,h2⟩:=ZF (Zq h t.2.1 [] L);obtain⟨x3,h3⟩:=ZF (Lo S2 t);obtain⟨⟨x4,Q⟩,h4⟩:=ZF (Ya name h (isR t) 0 t.2.2 z);obtain⟨x5,h5⟩:=ZF (Yi Q);rw[Ziq h1 h2 h3 h4 h5] at e;split at e
 ·rename_i q;injection e with e _;exact absurd e q
 rename_i q1;split at e
 ·rename_i q;injection e with e _;exact absurd e q
 rename_i q2;split at e
 ·rename_i q;injection e with e _;exact absurd e q
 rename_i q3;split at e
 ·rename_i q;injection e with e _;exact absurd e q
 rename_i q4;split at e
 ·rename_i q;injection e with e _;exact absurd e q
 rename_i q5;have e1:x1=0:=by omega
 have e2:x2=0:=by omega
 have e3:x3=0:=by omega
 have e4:x4=0:=by omega
 have e5:x5=0:=by omega
 injection e with _ e;injection e with ea eb;subst e1 e2 e3 e4 e5 ea eb;exact⟨h1,z,h2,h3,h4,h5⟩
theorem Ds{p:PtD}{c:Zj}:∀ {L:List Zj},Srt L->c∈L->pt c=p->Zr L=cv c+Zr (L.filter λd=>decide (pt d≠p))
 | [],_,z,_=>by cases z
 | d :: r,hs,z,e=>by
  rw[Xm]
  rcases bB.1 z with rfl|z
  ·rw[List.filter_cons_of_neg (by simp[e])]
   have:r.filter (λd=>decide (pt d≠p))=r:=by
    rw[List.filter_eq_self];intro y hy;exact decide_eq_true (λq=>Tt (hs.head y hy) (by rw[e,q]))
   rw[this]
  ·have Q:pt d≠p:=λq=>Tt (hs.head c z) (by rw[e,q]);rw[List.filter_cons_of_pos (by simp[Q]),Xm,Ds hs.tail z e];omega
theorem Pd(h:Int):∀ (I:List InD) (S0 L S M:List Zj),Srt L->Zq h I S0 L=(0,S,M) ->
  Srt M/\∃ T,S=S0++T/\T.length=I.length/\(∀ j (h1:j<T.length) (h2:j<I.length),pt T[j]=(I[j].1,I[j].2.1))/\(∀ x,x∈L↔x∈M\/x∈T)/\(∀ x∈T,Ug (pt x) M=false)/\T.Pairwise (λa b=>pt a≠pt b)/\Zr L=Zr M+Zr T
 | [],S0,L,S,M,hs,e=>by
  unfold Zq at e;injection e with _ e;injection e with e1 e2;subst e1 e2;exact⟨hs,[],by simp,rfl,λj h1=>absurd h1 (by simp),λx=>by simp,λx hx=>(by cases hx),List.Pairwise.nil,by simp[Zr]⟩
 | x :: r,S0,L,S,M,hs,e=>by
  unfold Zq at e;split at e
  ·injection e with e _;cases e
  ·rename_i c L' ht;split at e
   ·injection e with e _;cases e
   ·split at e
    ·injection e with e _;cases e
    ·obtain⟨t1,t2,t3⟩:=Rw ht;obtain⟨h1,T,h2,h3,h4,h5,h6,h7,h8⟩:=Pd h r _ L' S M (by rw[t3];exact hs.filter _) e;have Q:∀ y,y∈L'↔y∈L/\pt y≠(x.1,x.2.1):=λy=>by rw[t3,List.mem_filter,decide_eq_true_eq]
     refine⟨h1,c :: T,by rw[h2,cQ];rfl,by simp[h3],λj h1 h2=>?_,λy=>?_,λy z=>?_,?_,?_⟩
     ·cases j with
      | zero=>exact t2
      | succ j=>exact h4 j (by simpa using h1) (by simpa using h2)
     ·constructor
      ·intro z;by_cases q:pt y=(x.1,x.2.1)
       ·exact .inr (by rw[hs.inj z t1 (by rw[q,t2])];exact cN ..)
       ·rcases (h5 y).1 ((Q y).2 ⟨z,q⟩) with g|g
        ·exact .inl g
        ·exact .inr (List.mem_cons_of_mem _ g)
      ·rintro (g|g)
       ·exact ((Q y).1 ((h5 y).2 (.inl g))).1
       ·rcases bB.1 g with rfl|g
        ·exact t1
        ·exact ((Q y).1 ((h5 y).2 (.inr g))).1
     ·rcases bB.1 z with rfl|z
      ·refine hasP_no.2 λd hd e=>?_;exact ((Q d).1 ((h5 d).2 (.inl hd))).2 (by rw[e,t2])
      ·exact h6 y z
     ·refine List.pairwise_cons.2 ⟨λy z e=>?_,h7⟩;exact ((Q y).1 ((h5 y).2 (.inr z))).2 (by rw[<-e,t2])
     ·have h9:=Ds hs t1 t2;rw[<-t3] at h9;rw[h9,h8,Xm];omega
theorem Zjl{c:Zj}{L}(Q:Srt L)(z:Ug (pt c) L=false):Zr (Ll c L)=cv c+Zr L:=by
 rw[Zam Q z,Uo,Xm];have:Zr L=Zr (L.take (pos (pt c) L))+Zr (L.drop (pos (pt c) L)):=by rw[<-Uo,List.take_append_drop]
 omega
theorem Kp(name h:Int)(r:Bool):∀ (O:List Zz) (i:Nat) (L M:List Zj),Srt L->Ya name h r i O L=(0,M)->Zr M=Zr L+Yy O
 | [],i,L,M,hs,e=>by
  unfold Ya at e;injection e with _ e;subst e;simp[Yy]
 | o :: q,i,L,M,hs,e=>by
  unfold Ya at e;split at e
  ·injection e with e _;cases e
  ·rename_i z;have Q:Ug (pt (Cp name i o h r)) L=false:=(by simpa[Cp,pt] using z);have h1:=Kp name h r q (i+1) _ M (Fi hs) e;rw[Zjl hs Q] at h1;have h2:cv (Cp name i o h r)=o.1:=rfl;have h3:Yy (o :: q)=o.1+Yy q:=(by simp[Yy]);rw[h1,h2,h3];omega
theorem Pp:∀ (O:List Zz),Z8 O=0->∀ o∈O,1<=o.1
 | [],_=>by simp
 | x :: r,h=>by
  intro o z;unfold Z8 at h;split at h
  ·rename_i h1
   rcases bB.1 z with rfl|z
   ·unfold Yz at h1;split at h1
    ·cases h1
    ·omega
   ·exact Pp r h o z
  ·rename_i h1;exact absurd h h1
theorem Du:∀ (O:List Zz),O≠[]->(∀ o∈O,1<=o.1)->0<Yy O
 | [],h,_=>absurd rfl h
 | x :: r,_,h=>by
  have h3:Yy (x :: r)=x.1+Yy r:=by simp[Yy]
  have h1:=h x (cN ..);cases r with
  | nil=>rw[h3];simp[Yy];omega
  | cons y q=>
   have:=Du (y :: q) (by simp) (λo z=>h o (List.mem_cons_of_mem _ z));omega
theorem Zio{L M S}{t:TxD}{name h:Int}(e:apD L t name h=(0,M,S)):(t.2.1.length=0->Zr L<Zr M)/\(t.2.1.length≠0->Zr M<=Zr L):=by
 obtain⟨h1,M2,h2,h3,h4,h5⟩:=Bj e;obtain⟨hR,hT,_,_,_⟩:=Vy h1;obtain⟨s1,T,z,s3,s4,s5,s6,s7,s8⟩:=Pd h _ _ _ _ _ hR.srt h2;rw[List.nil_append] at z;subst z;have hg:=Kp name h _ _ _ _ _ s1 h4;obtain⟨t1,t2,Q,t4,t5,t6,t7⟩:=Uk hT;constructor
 ·intro h0;have hS:S=[]:=List.length_eq_zero_iff.1 (by rw[s3,h0]);have:=Du t.2.2 (λq=>by rw[q] at Q;simp at Q) (Pp _ t6);rw[hS,Dw] at s8;omega
 ·intro h0;unfold Lo isR at h3;split at h3
  ·cases h3
  ·rename_i q;have:¬(Zr S - Yy t.2.2<0):=λr=>q ⟨r,decide_eq_false h0⟩;omega
theorem Bi{L M S t}{name h:Int}(e:apD L t name h=(0,M,S)):Y8 L/\Y8 M/\Zw t=0:=by
 obtain⟨h1,Q,h2,h3,h4,h5⟩:=Bj e;obtain⟨z,hT,_,_,_⟩:=Vy h1;exact⟨z,(Yv M).1 h5,hT⟩
theorem Zih{b:Zl}(h:Ym b=0):0<b.2.2.2.2.length/\b.2.2.2.2.length<=4/\1<=b.2.1/\b.2.1<=1000:=by
 unfold Ym at h;split at h
 ·cases h
 rename_i h1;split at h
 ·cases h
 split at h
 ·cases h
 unfold Wp at h1;simp only[Bool.not_eq_false,Bool.and_eq_true,decide_eq_true_eq] at h1;omega
open Bk (Right nm nameR)
def doD(h:Int)(s:List ByteArray×List Zj)(t:TxD):Int×List ByteArray×List Zj:=
 if Zw t≠0 then (Zw t,s) else if t.2.1.length=0 then (4,s) else
 if (nameR s.1 (txT t)).2.2≠0 then ((nameR s.1 (txT t)).2.2,s) else
 if (apD s.2 t (nameR s.1 (txT t)).2.1 h).1≠0 then ((apD s.2 t (nameR s.1 (txT t)).2.1 h).1,s) else
 (0,(nameR s.1 (txT t)).1,(apD s.2 t (nameR s.1 (txT t)).2.1 h).2.1)
def Zu(h:Int):List TxD->List ByteArray×List Zj->List TxD×List ByteArray×List Zj
 | [],s=>([],s)
 | t :: l,s=>if (doD h s t).1=0 then (t :: (Zu h l (doD h s t).2).1,(Zu h l (doD h s t).2).2) else Zu h l s
theorem Cw{K}{s:ByteArray}(hK:Right K)(h0:(nameR K s).2.2=0):Right (nameR K s).1/\(∃ M,(nameR K s).1=K++M)/\∀ M,Right ((nameR K s).1++M)->nameR ((nameR K s).1++M) s=((nameR K s).1++M,(nameR K s).2.1,0):=by
 have e:nameR K s=nm K s:=by unfold nameR;rw[if_pos ((Bk.right_iff K).2 hK)]
 rw[e] at h0 ⊢;refine⟨Bk.nm_right hK h0,Bk.nm_grows h0,λM Q=>?_⟩;obtain⟨h1,h2,h3⟩:=Bk.nm_place h0;have z:nameR ((nm K s).1++M) s=nm ((nm K s).1++M) s:=by unfold nameR;rw[if_pos ((Bk.right_iff _).2 Q)]
 have h4:=Bk.place_stays M h2;rw[z,Bk.nm_there h3 (by rw[h4];exact h2),h4,h1]
theorem T8{h:Int}{K C t}(hK:Right K)(h0:(doD h (K,C) t).1=0) :
  Right (doD h (K,C) t).2.1/\(∃ M,(doD h (K,C) t).2.1=K++M)/\∀ M,Right ((doD h (K,C) t).2.1++M)->doD h ((doD h (K,C) t).2.1++M,C) t=(0,(doD h (K,C) t).2.1++M,(doD h (K,C) t).2.2):=by
 by_cases z:Zw t≠0
 ·unfold doD at h0;rw[if_pos z] at h0;exact absurd h0 z
 by_cases Q:t.2.1.length=0
 ·unfold doD at h0;rw[if_neg z,if_pos Q] at h0;exact absurd (show (4:Int)=0 from h0) (by decide)
 by_cases q3:(nameR K (txT t)).2.2≠0
 ·unfold doD at h0;rw[if_neg z,if_neg Q,if_pos q3] at h0;exact absurd h0 q3
 by_cases q4:(apD C t (nameR K (txT t)).2.1 h).1≠0
 ·unfold doD at h0;rw[if_neg z,if_neg Q,if_neg q3,if_pos q4] at h0;exact absurd h0 q4
 have e:doD h (K,C) t=(0,(nameR K (txT t)).1,(apD C t (nameR K (txT t)).2.1 h).2.1):=by
  unfold doD;rw[if_neg z,if_neg Q,if_neg q3,if_neg q4]
 obtain⟨n1,n2,n3⟩:=Cw hK (Decidable.not_not.1 q3);rw[e];refine⟨n1,n2,λM hM=>?_⟩;have e2:=n3 M hM;unfold doD;rw[if_neg z,if_neg Q];simp only;rw[e2];simp only;rw[if_neg (λr=>r rfl),if_neg q4]
theorem Wm{h:Int}:∀ (l:List TxD) (K:List ByteArray) (C:List Zj),Right K->Right (Zu h l (K,C)).2.1/\∃ M,(Zu h l (K,C)).2.1=K++M
 | [],K,C,hK=>⟨hK,[],by simp[Zu]⟩
 | t :: l,K,C,hK=>by
  rw[Zu];by_cases q:(doD h (K,C) t).1=0
  ·rw[if_pos q];obtain⟨Q,⟨M,d2⟩,_⟩:=T8 hK q;obtain⟨s1,z,s2⟩:=Wm l (doD h (K,C) t).2.1 (doD h (K,C) t).2.2 Q;exact⟨s1,M++z,by rw[s2,d2,cQ]⟩
  ·rw[if_neg q];exact Wm l K C hK
theorem Je{h:Int}:∀ (l:List TxD) (K:List ByteArray) (C:List Zj) (M:List ByteArray),Right K->Right ((Zu h l (K,C)).2.1++M) ->
  Zu h (Zu h l (K,C)).1 ((Zu h l (K,C)).2.1++M,C)=((Zu h l (K,C)).1,(Zu h l (K,C)).2.1++M,(Zu h l (K,C)).2.2)
 | [],K,C,M,_,_=>rfl
 | t :: l,K,C,M,hK,hM=>by
  by_cases q:(doD h (K,C) t).1=0
  ·have e:Zu h (t :: l) (K,C)=(t :: (Zu h l (doD h (K,C) t).2).1,(Zu h l (doD h (K,C) t).2).2):=(by rw[Zu,if_pos q]);rw[e] at hM ⊢;obtain⟨Q,_,d3⟩:=T8 hK q;obtain⟨z,s2⟩:=(Wm (h:=h) l (doD h (K,C) t).2.1 (doD h (K,C) t).2.2 Q).2;have ab:(Zu h l (doD h (K,C) t).2).2.1=(doD h (K,C) t).2.1++z:=s2;have hd:=d3 (z++M) (by rw[<-cQ,<-ab];exact hM);rw[<-cQ,<-ab] at hd;have ih:=Je l (doD h (K,C) t).2.1 (doD h (K,C) t).2.2 M Q hM;show Zu h (t :: (Zu h l (doD h (K,C) t).2).1) ((Zu h l (doD h (K,C) t).2).2.1++M,C)=_;rw[Zu,hd,if_pos (show (0:Int)=0 from rfl)];exact congrArg (λr:List TxD×List ByteArray×List Zj=>(t :: r.1,r.2)) ih
  ·have e:Zu h (t :: l) (K,C)=Zu h l (K,C):=(by rw[Zu,if_neg q]);rw[e] at hM ⊢;exact Je l K C M hK hM
theorem Zah{h:Int}{t}:∀ (l:List TxD) (s z Q:List ByteArray×List Zj),Zu h l s=(l,z)->doD h z t=(0,Q)->Zu h (l++[t]) s=(l++[t],Q)
 | [],s,z,Q,hl,hd=>by
  rw[Zu] at hl;obtain⟨_,rfl⟩:=Prod.mk.inj hl;rw[List.nil_append,Zu,hd];rfl
 | x :: l,s,z,Q,hl,hd=>by
  rw[Zu] at hl;by_cases q:(doD h s x).1=0
  ·rw[if_pos q] at hl;obtain⟨h1,h2⟩:=Prod.mk.inj hl;have h3:=(List.cons.inj h1).2;have ih:=Zah l (doD h s x).2 z Q (Prod.ext h3 h2) hd;rw[List.cons_append,Zu,if_pos q,ih]
  ·rw[if_neg q] at hl;exact absurd (congrArg (λr=>r.1.length) hl) (by have:=sw_few (h:=h) l s;simp only[List.length_cons];omega)
 where
 sw_few {h:Int}:∀ (l:List TxD) (s:List ByteArray×List Zj),(Zu h l s).1.length<=l.length
 | [],s=>by simp[Zu]
 | t :: l,s=>by
  rw[Zu];split
  ·simp only[List.length_cons];have:=sw_few (h:=h) l (doD h s t).2;omega
  ·have:=sw_few (h:=h) l s;simp only[List.length_cons];omega
theorem Zlg{h:Int}{l K z C C2 t}(hK:Right K)(hd:doD h (Zu h l (K,C)).2 t=(0,z,C2)) :
  Zu h ((Zu h l (K,C)).1++[t]) (z,C)=((Zu h l (K,C)).1++[t],z,C2):=by
 obtain⟨s1,_⟩:=Wm (h:=h) l K C hK;have ad:doD h ((Zu h l (K,C)).2.1,(Zu h l (K,C)).2.2) t=(0,z,C2):=hd;obtain⟨Q,⟨M,d2⟩,d3⟩:=T8 s1 (by rw[ad]);rw[ad] at Q d2 d3;simp only at Q d2 d3;have hw:=Je (h:=h) l K C M hK (by rw[<-d2];exact Q);rw[<-d2] at hw;have h3:=d3 [] (by rw[List.append_nil];exact Q);rw[List.append_nil] at h3;exact Zah _ _ _ _ hw h3
theorem Gr.cell{w w':World}{S:Nat->Prop}(h:Gr w w' S){p:Addr}{v}(z:w.cell? p=some v)(Q:¬S p.block):w'.cell? p=some v:=
 (bQ (h.block p.block (aD _ _ z) Q)).trans z
theorem Fresh.now{B:Nat}{w}{Q:World->Prop}(h:Fresh B w Q):Q w:=h w (Gr.refl _ _)
theorem Fresh.on{B:Nat}{w w'}{Q:World->Prop}(h:Fresh B w Q)(g:Gr w w' (λk=>k<B)):Fresh B w' Q:=λw2 g2=>h w2 (g.trans g2)
theorem Fresh.later{B:Nat}{w w':World}{Q:World->Prop}(h:Fresh B w Q)(g:ZD w w'):Fresh B w' Q:=h.on (Gr.of g)
theorem Fresh.less{B z:Nat}{w}{Q:World->Prop}(h:Fresh z w Q)(hb:B<=z):Fresh B w Q:=λw2 g2=>h w2 (g2.mono λ_ _ hk=>aC hk hb)
theorem Fresh.imp{B:Nat}{w}{Q R:World->Prop}(h:Fresh B w Q)(f:∀ w2,Q w2->R w2):Fresh B w R:=λw2 g2=>f w2 (h w2 g2)
namespace Tr
open Go.RowKit
theorem Yu(w:World)(a b)(t:bO):(w.alloc (cR #[a,b] t)).heap[w.heap.size]? = some (cR [a,b].toArray t (0,0)):=aJ w _
theorem Z0{w:World}{base:Nat}{e:bO}{size:Nat}{v}{n:Nat}{xs}(h:w.ownsRow base e size v n xs):∃ a c,v = F a n c/\SlOk a n c/\∀ z,a=some z->base<=z.block/\z.block<w.heap.size:=by
 rcases h.2 with ⟨rfl,rfl⟩|⟨g,cap,ab,rfl,Q,hh,h1,h2,_⟩
 ·exact⟨none,0,rfl,⟨aF _,aM _,λ_=>⟨rfl,rfl⟩⟩,λz e=>by cases e⟩
 ·exact⟨_,cap,rfl,⟨h1,h2,λe=>by cases e⟩,λz e=>by cases e;exact⟨Q,lt_of_block hh⟩⟩
def Qy(w:World)(b o:Nat)(cs:List Value):Prop:=∀ j u,cs[j]? = some u->w.cell? ⟨b,o+j,none⟩=some u
structure Rec(α : Type) where
 sz:Nat
 C:World->List Value -> α->Prop
 R:World->Nat->Nat -> α->Prop
 wide:∀ w cs x,C w cs x->cs.length=sz
 one:∀ w cs x,C w cs x->∀ v∈cs,v.oneCell'=true
 kept:∀ w w' cs x,ZD w w'->C w cs x->C w' cs x
 rc:∀ w b o x,R w b o x->∃ cs,Qy w b o cs/\C w cs x
 cr:∀ w b o cs x,Qy w b o cs->C w cs x->R w b o x
def AllC{α : Type}(Z:Rec α)(w:World)(K:List (List Value))(L:List α):Prop:=K.length=L.length/\∀ i (h:i<L.length) (h':i<K.length),Z.C w K[i] L[i]
theorem Xk{α : Type}{Z:Rec α}{w}:∀ {K:List (List Value)} {L:List α},AllC Z w K L->K.flatten.length=L.length*Z.sz
 | [],[],_=>by simp
 | [],_ :: _,h=>by cases h.1
 | _ :: _,[],h=>by cases h.1
 | k :: K,x :: L,h=>by
  have h1:AllC Z w K L:=⟨by simpa using h.1,λi h1 h2=>h.2 (i+1) (by simpa using h1) (by simpa using h2)⟩;have h2:=Z.wide _ _ _ (h.2 0 (by simp) (by simp));simp only[List.getElem_cons_zero] at h2;rw[List.flatten_cons,List.length_append,Xk h1,h2,List.length_cons,Nat.succ_mul];omega
theorem flat_one{α : Type}{Z:Rec α}{w}{K:List (List Value)}{L:List α}(h:AllC Z w K L):∀ u∈K.flatten,u.oneCell'=true:=by
 intro u z;obtain⟨k,Q,z⟩:=List.mem_flatten.1 z;obtain⟨i,hi,rfl⟩:=List.getElem_of_mem Q;exact Z.one _ _ _ (h.2 i (by rw[<-h.1];exact hi) hi) u z
theorem AllC.later{α : Type}{Z:Rec α}{w w':World}{K}{L:List α}(h:AllC Z w K L)(z:ZD w w'):AllC Z w' K L:=
 ⟨h.1,λi h1 h2=>Z.kept _ _ _ _ z (h.2 i h1 h2)⟩
theorem AllC.snoc{α : Type}{Z:Rec α}{w K}{L:List α}(h:AllC Z w K L){k}{x : α}(hx:Z.C w k x):AllC Z w (K++[k]) (L++[x]):=by
 refine⟨by simp[h.1],λi h1 h2=>?_⟩
 rcases Nat.lt_or_ge i L.length with q|q
 ·rw[List.getElem_append_left (h:=by rw[h.1];exact q),List.getElem_append_left (h:=q)];exact h.2 i q (by rw[h.1];exact q)
 ·have e:i=L.length:=by simp at h1;omega
  subst e;rw[List.getElem_append_right (by rw[h.1];exact aF _),List.getElem_append_right (aF _)];simpa[h.1] using hx
theorem J9{α : Type}{Z:Rec α}{w}:∀ {K:List (List Value)} {L:List α} (_:AllC Z w K L) (i:Nat) (h':i<K.length) (j:Nat) (_:j<Z.sz),K.flatten[i*Z.sz+j]? = (K[i])[j]?
 | [],_,_,_,h',_,_=>absurd h' (by simp)
 | _ :: _,[],h,_,_,_,_=>by cases h.1
 | k :: K,x :: L,h,0,_,j,hj=>by
  have h2:=Z.wide _ _ _ (h.2 0 (by simp) (by simp));simp only[List.getElem_cons_zero] at h2;rw[List.flatten_cons,List.getElem?_append_left (by omega)];simp
 | k :: K,x :: L,h,i+1,h',j,hj=>by
  have h1:AllC Z w K L:=⟨by simpa using h.1,λi h1 h2=>h.2 (i+1) (by simpa using h1) (by simpa using h2)⟩;have h2:=Z.wide _ _ _ (h.2 0 (by simp) (by simp));simp only[List.getElem_cons_zero] at h2;rw[List.flatten_cons,List.getElem?_append_right (by rw[h2,Nat.succ_mul];omega),h2];rw[show (i+1)*Z.sz+j - Z.sz=i*Z.sz+j by rw[Nat.succ_mul];omega];rw[J9 h1 i (by simpa using h') j hj];simp
theorem Vj{α : Type}(Z:Rec α){w}{b off:Nat}{L:List α}(h:∀ i (h:i<L.length),Z.R w b (off+i*Z.sz) L[i]):∃ K,AllC Z w K L/\Qy w b off K.flatten:=by
 have h2:∀ k,k<=L.length->∃ K,AllC Z w K (L.take k)/\Qy w b off K.flatten:=by
  intro k
  induction k with
  | zero=>intro _;exact⟨[],⟨by simp,λi h1 h2=>absurd h2 (by simp)⟩,λj u z=>by simp at z⟩
  | succ k ih=>
   intro hk;obtain⟨K,h1,h3⟩:=ih (by omega);obtain⟨cs,h4,h5⟩:=Z.rc _ _ _ _ (h k (by omega));refine⟨K++[cs],by rw[List.take_succ_eq_append_getElem (by omega)];exact h1.snoc h5,λj u z=>?_⟩;have Q:=Xk h1;rw[List.length_take,Nat.min_eq_left (by omega)] at Q;rw[List.flatten_append] at z
   rcases Nat.lt_or_ge j K.flatten.length with q|q
   ·rw[List.getElem?_append_left q] at z;exact h3 j u z
   ·rw[List.getElem?_append_right q] at z;have:=h4 (j - K.flatten.length) u (by simpa using z);rw[show off+k*Z.sz+(j - K.flatten.length)=off+j by omega] at this;exact this
 obtain⟨K,h1,h3⟩:=h2 L.length (aF _);rw[List.take_length] at h1;exact⟨K,h1,h3⟩
theorem rows_of_own{α : Type}(Z:Rec α){w:World}{base n:Nat}{e:bO}{v}{K:List (List Value)}{L:List α}(h:w.ownsRow base e Z.sz v n K.flatten)(z:AllC Z w K L)(hn:L.length=n):∃ a c,v = F a n c/\RowsAt Z.R Z.sz w a n L/\SlOk a n c:=by
 rcases h.2 with ⟨rfl,rfl⟩|⟨g,cap,af,rfl,hg,hh,h1,h2,h3,h4⟩
 ·exact⟨none,0,rfl,⟨hn,λh=>absurd h (by omega)⟩,aF _,aM _,λ_=>⟨rfl,rfl⟩⟩
 ·refine⟨_,cap,rfl,⟨hn,λ_=>⟨g,0,rfl,lt_of_block hh,λi hi=>?_⟩⟩,h1,h2,λe=>by cases e⟩;have Q:i<K.length:=by rw[z.1];exact hi
  refine Z.cr _ _ _ (K[i]) _ (λj u hj=>?_) (z.2 i hi Q);have hw:=Z.wide _ _ _ (z.2 i hi Q);have ad:j<Z.sz:=by rw[<-hw];exact (List.getElem?_eq_some_iff.1 hj).1
  rw[Nat.zero_add,World.ownsRow.cellAt h _ (by
   have:(i+1)*Z.sz<=n*Z.sz:=Nat.mul_le_mul_right _ (by omega);rw[Nat.succ_mul] at this;omega),J9 z i Q j ad]
  exact hj
end Tr
open Go.RowKit
theorem Gr.row{w z:World}{S:Nat->Prop}(h:Gr w z S){g:Nat}(hg:S g\/w.heap.size<=g)(cs):Gr w (z.setRow g cs) S:=
 ⟨h.os,h.tape,h.output,by rw[setRow_size];exact h.size,λi hi Q=>(setRow_other z g i cs (λe=>by
  subst e
  rcases hg with q|q
  ·exact Q q
  ·omega)).trans (h.block i hi Q)⟩
section
variable {P : Program}
end
theorem tk{P:Program}{z}{Q:Exit->Act->World->Prop}{md:Region.Mode}{S:World->Prop}(i:Nat)(oi:Oper)(v){fuel:Nat}{aa:Array Bool}{a:Act}{w}(hi:z[i]? = some oi)
  (hy:∀ w,S w->(execOp a.eval oi).run P w = .ok (.value v) w) (hS:S w) (h:wpAnyH P md z Q S fuel (aa.setIfInBounds i true) (a.put oi.dst v) w)
  (hQ:∀ c a w,Q (.panic c) (a.put oi.dst v) w->Q (.panic c) a w:=by exact λ_ _ _ h=>h) (hw:cF oi (yielded z a.tmps)=true:=by rfl)
  (hs:Region.noSelect z=true:=by kernel_rfl) (hf:Region.free md z aa i=true:=by kernel_rfl) (hr:(Region.ready md z aa).contains i=true:=by kernel_rfl) :
  wpAnyH P md z Q S (fuel+1) aa a w:=wpAnyH_take hi hs hf hr hQ (Or.inl ⟨hw,hy⟩) hS h
open Go.RowKit Go.Shelf
attribute [local go_sem] Oper.semAt_some
structure KpD(n1 b c:Nat)(W W':World):Prop where
 os:W'.os=W.os
 tape:W'.tape=W.tape
 output:W'.output=W.output
 size:W.heap.size<=W'.heap.size
 block:∀ k,k<n1->k≠b->k≠c->W'.heap[k]? = W.heap[k]?
theorem KpD.refl(n1 b c:Nat)(W):KpD n1 b c W W:=⟨rfl,rfl,rfl,aF _,λ_ _ _ _=>rfl⟩
theorem KpD.trans{n1 b c:Nat}{A B C}(h:KpD n1 b c A B)(k:KpD n1 b c B C):KpD n1 b c A C:=
 ⟨k.os.trans h.os,k.tape.trans h.tape,k.output.trans h.output,aT h.size k.size,λi h1 h2 h3=>(k.block i h1 h2 h3).trans (h.block i h1 h2 h3)⟩
theorem KpD.put{n1 b c:Nat}(W:World)(l:Nat)(o:Obj)(h:n1<=l):KpD n1 b c W (W.putObj l o):=
 ⟨rfl,rfl,rfl,by simp,λk z _ _=>World.putObj_heap_other (by omega)⟩
theorem KpD.set{n1 b c:Nat}{W W':World}(h:KpD n1 b c W W'){p:Addr}(hp:p.block=b\/p.block=c)(u):KpD n1 b c W (W'.setCell p u):=
 ⟨h.os,h.tape,h.output,by simpa[World.setCell] using h.size,λk h1 h2 h3=>(Below.heap_setCell W' p u k (λe=>by subst e;rcases hp with q|q;exact h2 q;exact h3 q)).trans (h.block k h1 h2 h3)⟩
theorem KpD.on{n1 b c:Nat}{W Q W2:World}(h:KpD n1 b c W Q)(z:ZD Q W2)(hn:n1<=Q.heap.size):KpD n1 b c W W2:=
 ⟨z.os.trans h.os,z.tape.trans h.tape,z.output.trans h.output,aT h.size z.size,λk h1 h2 h3=>(z.block k (by omega)).trans (h.block k h1 h2 h3)⟩
theorem KpD.grown{n1 b c:Nat}{W z Q:World}(h:KpD n1 b c W z){row:Option Nat}(g:z.grownBy Q row)(hr:∀ r,row=some r->n1<=r)(hn:n1<=z.heap.size):KpD n1 b c W Q:=
 ⟨g.os.trans h.os,g.tape.trans h.tape,g.output.trans h.output,aT h.size g.size,λk h1 h2 h3=>(g.block k (by omega) (λe=>by have:=hr k e.symm;omega)).trans (h.block k h1 h2 h3)⟩
theorem KpD.below{n1 b c:Nat}{w W0 W:World}(h:KpD n1 b c W0 W)(z:ZD w W0)(hn:w.heap.size<=n1)(h1:w.heap.size<=b)(h2:w.heap.size<=c):ZD w W:=
 ⟨h.os.trans z.os,h.tape.trans z.tape,h.output.trans z.output,aT z.size h.size,λk Q=>(h.block k (by omega) (by omega) (by omega)).trans (z.block k Q)⟩
theorem KpD.cell{n1 b c:Nat}{W W':World}(h:KpD n1 b c W W'){k o:Nat}{v}(z:k<n1)(h2:k≠b)(h3:k≠c)(Q:W.cell? ⟨k,o,none⟩=some v):W'.cell? ⟨k,o,none⟩=some v:=
 (bQ (a:=⟨k,o,none⟩) (h.block k z h2 h3)).trans Q
def Box1(W:World)(k:Nat):Prop:=∃ v t fr,W.heap[k]? = some (cR #[v] t fr)
theorem Box1.two{W:World}{k:Nat}(h:Box1 W k){o:Nat}{v}(h2:W.cell? ⟨k,o+1,none⟩=some v):False:=by
 obtain⟨x,t,fr,hx⟩:=h;rw[cell_of_row W k (o+1) #[x] t fr hx] at h2;simp at h2
theorem Zjx{W W':World}{S:Nat->Prop}(Q:∀ k,k<W.heap.size->¬S k->W'.heap[k]? = W.heap[k]?)(hB:∀ k,S k->Box1 W k){a n l}(h:OpsAt W a n l):OpsAt W' a n l:=by
 refine⟨h.1,λh0=>?_⟩;obtain⟨b,off,rfl,z⟩:=h.2 h0;refine⟨b,off,rfl,λi hi=>?_⟩;obtain⟨c0,c1⟩:=z i hi;have e:=Q b (aD _ _ c0) (λq=>(hB b q).two c1);exact⟨(bQ (a:=⟨b,_,none⟩) e).trans c0,(bQ (a:=⟨b,_,none⟩) e).trans c1⟩
theorem Zef{W W':World}{S:Nat->Prop}(hs:W.heap.size<=W'.heap.size)(z:∀ k,k<W.heap.size->¬S k->W'.heap[k]? = W.heap[k]?)(hB:∀ k,S k->Box1 W k){a n L}(h:CoinsAt W a n L):CoinsAt W' a n L:=by
 refine⟨h.1,λh0=>?_⟩;obtain⟨b,off,rfl,Q,hc⟩:=h.2 h0;refine⟨b,off,rfl,aC Q hs,λi hi=>?_⟩;obtain⟨c0,c1,c2,⟨la,ln,lc,c3,h5,h6⟩,c4,c5⟩:=hc i hi;have e:=z b Q (λq=>(hB b q).two c1);have g:=λ(o:Nat)=>bQ (a:=⟨b,o,none⟩) e;exact⟨(g _).trans c0,(g _).trans c1,(g _).trans c2,⟨la,ln,lc,(g _).trans c3,Zjx z hB h5,h6⟩,(g _).trans c4,(g _).trans c5⟩
end Go.Proofs.YtmomfkikogbdeaaGreatDoor
namespace Go.Proofs.YtmomfkikogbdeaaGreatDoor
open Go.RowKit
theorem Zn{P:Program}{z}{o:Oper}{a:Act}{w}{K:Act->World->Prop}{ah:Exit->Act->World->Prop}{aa:Prop}
  (hw:cF o (yielded z a.tmps)=true) (f:FuncId) (Q) (he:(execOp a.eval o).run P w = .ok (.enter f Q) w) {R:Ending->World->Prop} (hc:Calls P f Q w R) (h:∀ e w',R e w'->∃ v,e = cS v/\K (a.put o.dst v) w') :
  if cF o (yielded z a.tmps)=true then Oper.wp P o a w K ah else aa:=by
 rw[if_pos hw];unfold Oper.wp;rw[he,Oper.upon_enter];refine hc.mono ?_;intro e w' hr;obtain⟨v,rfl,hk⟩:=h e w' hr;exact hk
theorem Yg{P:Program}{ae}{o:Oper}{a:Act}{w}{K:Act->World->Prop}{af:Exit->Act->World->Prop}{Q:Prop}
  (hg:o.guard=none) (f:FuncId) (z) (he:(execOp a.eval o).run P w = .ok (.enter f z) w) {R:Ending->World->Prop} (hc:Calls P f z w R) (h:∀ e w',R e w'->∃ v,e = cS v/\K (a.put o.dst v) w') :
  if cF o (yielded ae a.tmps)=true then Oper.wp P o a w K af else Q:=
 Zn (by simp[cF,hg]) f z he hc h
namespace Bk
open Go.RowKit Go.Maps
theorem all_isF(a z n c nl cl L l M N)(x:Int)(w:World)(h:TextsAt w a n L)(hl:TextsAt w z nl l)(am:nl<=17592186044416)(hx:allR L l=(M,N,x)) :
  Calls Tryz.prog 86 #[.agg #[F a n c],F z nl cl] w λe w'=>(∃ a' n' c' a2 Q c2,e = cS (cT #[.agg #[F a' n' c'],F a2 Q c2,E J x])/\(∀ w2,Gr w' w2 (λk=>k<w.heap.size)->TextsAt w2 a' n' M)/\SlOk a' n' c'/\IntsAt w' a2 Q N/\Q<=nl/\Q<=c2)/\ZD w w':=by
 unfold allR at hx;by_cases h0:bkChk L=0
 ·rw[if_pos h0] at hx;exact Lg a z n c nl cl L l M N x w h hl am ((right_iff L).1 h0) hx
 ·rw[if_neg h0] at hx;have e1:M=[]:=by injection hx with hx _;exact hx.symm
  have e2:N=[]:=by injection hx with _ hx;injection hx with hx _;exact hx.symm
  have e3:bkChk L=x:=by injection hx with _ hx;injection hx with _ hx
  subst e1 e2;refine (Zbd a z n c nl cl L w h x e3 (by rw[<-e3];exact h0)).mono ?_;rintro e w' ⟨rfl,hb⟩;exact⟨⟨_,_,_,_,_,_,rfl,λ_ _=>TextsAt.nil _ _,SlOk.nil,IntsAt.nil _ _,aM _,aF _⟩,hb⟩
set_option maxRecDepth 10000 in
set_option maxHeartbeats 3200000 in
theorem name_fresh(a n c L M)(s:ByteArray)(k x:Int)(w:World)(h:TextsAt w a n L)(hx:nameR L s=(M,k,x)) :
  Calls Tryz.prog 157 #[.agg #[F a n c],.string s] w λe w'=>(∃ Q n' c',e = cS (cT #[.agg #[F Q n' c'],E J k,E J x])/\(∀ w2,Gr w' w2 (λk=>k<w.heap.size)->TextsAt w2 Q n' M)/\SlOk Q n' c')/\ZD w w':=by
 have ay:=Zh w (cR #[F a n c] 24);have ac:=Zh (w.alloc (cR #[F a n c] 24)) (cR #[F none 0 0] 24);have bb:(w.alloc (cR #[F a n c] 24)).heap.size=w.heap.size+1:=by simp
 have bd:((w.alloc (cR #[F a n c] 24)).alloc (cR #[F none 0 0] 24)).heap.size=w.heap.size+1+1:=by simp
 have c1:=aJ (w.alloc (cR #[F a n c] 24)) (cR #[F none 0 0] 24);rw[bb] at c1;have z:=Zh ((w.alloc (cR #[F a n c] 24)).alloc (cR #[F none 0 0] 24)) (cR #[.string s] 9);have ht:=Zgj ((w.alloc (cR #[F a n c] 24)).alloc (cR #[F none 0 0] 24)) s;rw[bd] at ht;have hb:=Zf (Zf ay ac) z;have c2:=ZE z c1;have ea:=Zle L s;rw[hx] at ea;have ER:=Zgs (L:=L) (s:=s);rw[hx] at ER;simp only at ea ER;have AL:=Zd (all_isF a (some ⟨w.heap.size+1+1,0,none⟩) n c 1 1 L [s] M (if x=0 then [k] else []) x _ (h.later hb) ht (by decide) ea);have HB:=Zd hb;have C2:=Zd c2;clear h hx ea hb ay ac z bb bd c1 c2 ht;by_cases h0:x=0
 ·subst h0;rw[if_pos rfl] at AL;clear ER;go_enter Tryz.func157,Tryz.ntmps157;go_wp2_with fail;refine AL.mono ?_;rintro e w2 ⟨⟨Q,n',c',a2,n2,c2,rfl,t1,t2,t3,-⟩,ac⟩;obtain⟨t4,t5⟩:=t3;have e:n2=1:=by rw[<-t4];rfl
  subst e;obtain⟨b,off,rfl,hc⟩:=t5 (by decide);have f:=hc 0 (by simp);simp only[Nat.add_zero,List.getElem_cons_zero] at f;have af:=Zd (Zf HB ac);have c3:=ZE ac C2;have z:=Zh w2 (cR #[F Q n' c'] 24);have c4:=ZE z c3;have bh:=Zd t2;have br:w.heap.size+1<w2.heap.size:=lt_of_block c3;have f2:=Ze z f;have n0:=J7 w2 (F Q n' c') 24
  have bt:b≠w.heap.size+1:=by
   intro e;subst e;rw[cell_of_row _ _ _ _ _ _ c3] at f
   rcases off with _|off
   ·simp at f
   ·simp at f
  obtain⟨X,hX⟩:=ZG (w2.alloc (cR #[F Q n' c'] 24));rw[<-hX] at c4 f2 n0 z;have aw:=Zd (Zf af z);have d0:X.cell? ⟨w.heap.size+1,0,none⟩=some (F none 0 0):=by simp[bD,c4]
  have df:X.frozen? ⟨w.heap.size+1,0,none⟩=false:=by simp[World.frozen?,c4]
  have bs:b<X.heap.size:=aD _ _ f2;have bu:¬w2.heap.size=w.heap.size+1:=by omega
  have TS:Hid (∀ u w2,Gr (X.setCell ⟨w.heap.size+1,0,none⟩ u).drew w2 (λk=>k<w.heap.size)->TextsAt w2 Q n' M):=λu w2 g2=>t1 w2 (((((Gr.of z).set (p:=⟨w.heap.size+1,0,none⟩) (.inl (by simp)) u).draw).trans (g2.mono (λ_ _ hk=>aC hk (by simp;omega)))));clear t1 t2 ac z c3 c4 f hc t4 t5;go_wp2;rw[<-hX];clear hX
  go_region
  go_wp2;(try simp only[Exit.then]);refine aW (v:=cT #[.agg #[F Q n' c'],E J k,E J 0]) ?_ rfl ⟨⟨_,_,_,rfl,TS _,Za bh⟩,?_⟩
  ·rw[results_cell_tmp2 rfl];go_simp
  ·exact (aw.setCell (Nat.le_succ _) _).drew
 ·rw[if_neg h0] at AL;obtain⟨rfl,rfl⟩:=ER h0;have g:(x != 0)=true:=by simp[h0]
  go_enter Tryz.func157,Tryz.ntmps157;go_wp2_with fail;refine AL.mono ?_;rintro e w2 ⟨⟨Q,n',c',a2,n2,c2,rfl,t1,t2,t3,-⟩,ac⟩;have af:=Zd (Zf HB ac);have c3:=ZE ac C2;have z:=Zh w2 (cR #[F Q n' c'] 24);have c4:=ZE z c3;have aw:=Zd (Zf af z);have br:w.heap.size+1<w2.heap.size:=lt_of_block c3;have d0:w2.cell? ⟨w.heap.size+1,0,none⟩=some (F none 0 0):=by simp[bD,c3]
  have df:w2.frozen? ⟨w.heap.size+1,0,none⟩=false:=by simp[World.frozen?,c3]
  clear t1 t2 t3 ac z c3 c4;go_wp2;(try simp only[Exit.inBlock,Exit.then]);refine aW (v:=cT #[.agg #[F none 0 0],E J 0,E J x]) ?_ rfl ⟨⟨_,_,_,rfl,λ_ _=>TextsAt.nil _ _,SlOk.nil⟩,?_⟩
  ·rw[results_cell_tmp2 rfl];go_simp
  ·exact (af.setCell (Nat.le_succ _) _).alloc (by have:=af.size;simp;omega) _
end Bk
open Go.RowKit
theorem Gl{z:Array Oper}{i:Nat}{o:Oper}{r}(h:z.toList.drop i=o :: r):z[i]? = some o:=by
 have:(z.toList.drop i)[0]? = some o:=by rw[h];rfl
 rw[List.getElem?_drop] at this;simpa using this
theorem tkJ{P:Program}{z:Array Oper}{Q:Exit->Act->World->Prop}{md:Region.Mode}{S:World->Prop}(i:Nat){v}{fuel:Nat}{l l':Array Bool}{a a':Act}{w}{o:Oper}{r}(hi:z.toList.drop i=o :: r)(hS:S w)(h:wpAnyH P md z Q S fuel l' a' w)
  (hy:∀ w,S w->(execOp a.eval o).run P w = .ok (.value v) w:=by (intro U af;clear af;(try simp only[Act.put,ZA,ZB,ZC]);go_simp;first|done|with_reducible rfl))
  (ha:a.put o.dst v=a':=by ((try simp only[Act.put,ZA,ZB,ZC]);rfl)) (hl:l.setIfInBounds i true=l':=by ((try simp only[ZA,ZB,ZC]);rfl))
  (hQ:∀ c a w,Q (.panic c) (a.put o.dst v) w->Q (.panic c) a w:=by exact λ_ _ _ h=>h) (hw:cF o (yielded z a.tmps)=true:=by rfl)
  (hs:Region.noSelect z=true:=by kernel_rfl) (hf:Region.free md z l i=true:=by kernel_rfl) (hr:(Region.ready md z l).contains i=true:=by kernel_rfl) :
  wpAnyH P md z Q S (fuel+1) l a w:=by
 subst ha hl;exact tk i o v (Gl hi) hy hS h hQ hw hs hf hr
theorem tkL{P:Program}{z:Array Oper}{ap:Exit->Act->World->Prop}{md:Region.Mode}{S:World->Prop}(i:Nat){v}{fuel:Nat}{l l':Array Bool}{a a':Act}{w}{o:Oper}{r}(hi:z.toList.drop i=o :: r)(hS:S w)(h:wpAnyH P md z ap S fuel l' a' w)
  (hy:∀ w,S w->(execOp a.eval o).run P w = .ok (.value v) w:=by (intro U Q;(try dsimp only at Q);(try simp only[and_assoc] at Q);(repeat (have:=Q.1;replace Q:=Q.2));(try simp only[Act.put,ZA,ZB,ZC]);go_simp;first|done|with_reducible rfl))
  (ha:a.put o.dst v=a':=by ((try simp only[Act.put,ZA,ZB,ZC]);rfl)) (hl:l.setIfInBounds i true=l':=by ((try simp only[ZA,ZB,ZC]);rfl))
  (hQ:∀ c a w,ap (.panic c) (a.put o.dst v) w->ap (.panic c) a w:=by exact λ_ _ _ h=>h) (hw:cF o (yielded z a.tmps)=true:=by rfl)
  (hs:Region.noSelect z=true:=by kernel_rfl) (hf:Region.free md z l i=true:=by kernel_rfl) (hr:(Region.ready md z l).contains i=true:=by kernel_rfl) :
  wpAnyH P md z ap S (fuel+1) l a w:=by
 subst ha hl;exact tk i o v (Gl hi) hy hS h hQ hw hs hf hr
theorem rdY{P:Program}{z:Array Oper}{Q:Exit->Act->World->Prop}{md:Region.Mode}{S:World->Prop}(i:Nat){fuel:Nat}{l:Array Bool}{a:Act}{w}{o:Oper}{r}(hi:z.toList.drop i=o :: r)
  (h:∀ K':Act->World->Prop,Shut (∀ a w,S w->(S w->wpAnyH P md z Q S fuel (l.setIfInBounds i true) a w)->K' a w)->if cF o (yielded z a.tmps)=true then Oper.wp P o a w K' Q else K' (a.put o.dst undef) w)
  (hr:Region.ready md z l=[i]:=by kernel_rfl):wpAnyH P md z Q S (fuel+1) l a w:=wpAnyH_ready hr (by simp) (AllReadyH.cons (Gl hi) h AllReadyH.nil)
theorem rdC{P:Program}{z:Array Oper}{Q:Exit->Act->World->Prop}{md:Region.Mode}{S:World->Prop}{i fuel:Nat}{l:Array Bool}{a:Act}{w}{o:Oper}{r rs}(hi:z.toList.drop i=o :: r)
  (h:∀ K':Act->World->Prop,Shut (∀ a w,S w->(S w->wpAnyH P md z Q S fuel (l.setIfInBounds i true) a w)->K' a w)->if cF o (yielded z a.tmps)=true then Oper.wp P o a w K' Q else K' (a.put o.dst undef) w)
  (hs:AllReadyH P md z Q S fuel l a w rs):AllReadyH P md z Q S fuel l a w (i :: rs):=AllReadyH.cons (Gl hi) h hs
theorem rdS{P:Program}{z:Array Oper}{ag:Exit->Act->World->Prop}{Q:Region.Mode}{S:World->Prop}(i:Nat){fuel:Nat}{l:Array Bool}{a:Act}{w}{o:Oper}{r}(hi:z.toList.drop i=o :: r){f:FuncId}{vs}{R:Ending->World->Prop}(hc:Calls P f vs w R)
  (h:∀ e w',R e w'->∃ v,e = cS v/\S w'/\(S w'->wpAnyH P Q z ag S fuel (l.setIfInBounds i true) (a.put o.dst v) w')) (he:(execOp a.eval o).run P w = .ok (.enter f vs) w:=by kernel_rfl) (hw:cF o (yielded z a.tmps)=true:=by kernel_rfl) (hr:Region.ready Q z l=[i]:=by kernel_rfl):wpAnyH P Q z ag S (fuel+1) l a w:=
 rdY i hi (λ_ hK=>Zn hw f vs he hc (λe w' q=>by
  obtain⟨v,h1,h2,h3⟩:=h e w' q;exact⟨v,h1,hK.out _ _ h2 h3⟩)) hr
