import Derived.Test.YtmomfkikogbdeaaGreatDoorH
import Derived.Test.YtmomfkikogbdeaaGreatDoorG22
import Derived.Lib.OwnKind
import Derived.LoopIn
import Derived.LoopNIn
import Derived.OwnWalkIn
import Derived.RangeFuncBound
import Derived.RangeFuncNested
import Derived.Shelf.RegionOpen
open Decidable renaming not_not->aT
open Go renaming TypeId->cF,heap_alloc_new->aG,lt_of_block->aA,bodyPost_ret->bB
open Go.Ending renaming returned->dF
open Go.IntKind renaming i64->J
open Go.Obj renaming cells->dE
open Go.Region renaming wanted->cW
open Go.Value renaming int->E,slice->F,tuple->dG,pointer->dH
open Go.World renaming cell?_of_block->cA,block_lt_of_cell?->aE,cell?->bH
open List renaming map_cons->bY,flatten_cons->cD,append_assoc->cS
open Nat renaming lt_of_lt_of_le->aD,le_refl->aF,zero_le->aI,le_trans->aN,le_succ->dC
set_option maxHeartbeats 3200000
set_option maxRecDepth 10000
namespace Go.Proofs.YtmomfkikogbdeaaGreatDoor
theorem Zms{c:Zj}{L}(hs:Srt L)(hn:Wx (pt c) L=false):Zp (Pb c L)=cv c+Zp L:=by
 rw[Zdr hs hn,Wq,Xt];have:Zp L=Zp (L.take (pos (pt c) L))+Zp (L.drop (pos (pt c) L)):=by rw[<-Wq,List.take_append_drop]
 omega
theorem Th(name h:Int)(r:Bool):∀ (O:List Z3) (i:Nat) (L M:List Zj),Srt L->Yc name h r i O L=(0,M)->Zp M=Zp L+Yz O
 | [],i,L,M,hs,e=>by
  unfold Yc at e;injection e with _ e;subst e;simp[Yz]
 | o :: q,i,L,M,hs,e=>by
  unfold Yc at e;split at e
  ·injection e with e _;cases e
  ·rename_i hf;have ab:Wx (pt (Pe name i o h r)) L=false:=(by simpa[Pe,pt] using hf);have h1:=Th name h r q (i+1) _ M (T9 hs) e;rw[Zms hs ab] at h1;have h2:cv (Pe name i o h r)=o.1:=rfl;have h3:Yz (o :: q)=o.1+Yz q:=(by simp[Yz]);rw[h1,h2,h3];omega
theorem Gk:∀ (O:List Z3),Yk O=0->∀ o∈O,1<=o.1
 | [],_=>by simp
 | x :: r,h=>by
  intro o ho;unfold Yk at h;split at h
  ·rename_i h1
   rcases List.mem_cons.1 ho with rfl|ho
   ·unfold Xa at h1;split at h1
    ·cases h1
    ·omega
   ·exact Gk r h o ho
  ·rename_i h1;exact absurd h h1
theorem Ax:∀ (O:List Z3),O≠[]->(∀ o∈O,1<=o.1)->0<Yz O
 | [],h,_=>absurd rfl h
 | x :: r,_,h=>by
  have h3:Yz (x :: r)=x.1+Yz r:=by simp[Yz]
  have h1:=h x (List.mem_cons_self ..);cases r with
  | nil=>rw[h3];simp[Yz];omega
  | cons y q=>
   have:=Ax (y :: q) (by simp) (λo ho=>h o (List.mem_cons_of_mem _ ho));omega
theorem Zlv{L M S}{t:TxD}{name h:Int}(e:apD L t name h=(0,M,S)):(t.2.1.length=0->Zp L<Zp M)/\(t.2.1.length≠0->Zp M<=Zp L):=by
 obtain⟨h1,M2,h2,h3,h4,h5⟩:=Sr e;obtain⟨hR,hT,_,_,_⟩:=Xx h1;obtain⟨s1,T,s2,s3,s4,s5,s6,s7,s8⟩:=Uu h _ _ _ _ _ hR.srt h2;rw[List.nil_append] at s2;subst s2;have hg:=Th name h _ _ _ _ _ s1 h4;obtain⟨t1,t2,t3,t4,t5,t6,t7⟩:=Un hT;constructor
 ·intro h0;have hS:S=[]:=List.length_eq_zero_iff.1 (by rw[s3,h0]);have:=Ax t.2.2 (λq=>by rw[q] at t3;simp at t3) (Gk _ t6);rw[hS,Hv] at s8;omega
 ·intro h0;unfold Eh isR at h3;split at h3
  ·cases h3
  ·rename_i q;have:¬(Zp S - Yz t.2.2<0):=λr=>q ⟨r,decide_eq_false h0⟩;omega
open Go.RowKit
theorem U7{L M S}{t:TxD}{name h:Int}(e:apD L t name h=(0,M,S)):Zp M=Zp L - Zp S+Yz t.2.2/\0<=Zp S:=by
 obtain⟨h1,M2,h2,h3,h4,h5⟩:=Sr e;obtain⟨hR,hT,_,_,_⟩:=Xx h1;obtain⟨s1,T,s2,s3,s4,s5,s6,s7,s8⟩:=Uu h _ _ _ _ _ hR.srt h2;rw[List.nil_append] at s2;subst s2;have hg:=Th name h _ _ _ _ _ s1 h4;refine⟨by omega,Wp S λc hc=>?_⟩;have:=Yy (hR.one c ((s5 c).2 (.inr hc)));omega
theorem Mc{L M S t}{name h:Int}(e:apD L t name h=(0,M,S)):Yd L/\Yd M/\Zq t=0:=by
 obtain⟨h1,M2,h2,h3,h4,h5⟩:=Sr e;obtain⟨hR,hT,_,_,_⟩:=Xx h1;exact⟨hR,(Z7 M).1 h5,hT⟩
def Lo(T:List TxD)(N:List Int)(S:List (List Zj)):Nat->List Zj->Int×List Zj
 | 0,C=>(0,C)
 | q+1,C=>
  if (rvD C (T.getD ((q+1) % T.length) Wm) (N.getD ((q+1) % T.length) 0) (S.getD ((q+1) % T.length) [])).1≠0 then ((rvD C (T.getD ((q+1) % T.length) Wm) (N.getD ((q+1) % T.length) 0) (S.getD ((q+1) % T.length) [])).1,[])
  else Lo T N S q (rvD C (T.getD ((q+1) % T.length) Wm) (N.getD ((q+1) % T.length) 0) (S.getD ((q+1) % T.length) [])).2
theorem Zld{T:List TxD}{N:List Int}{S:List (List Zj)}{q i:Nat}{C}(hi:(q+1) % T.length=i){t}(ht:T.getD i Wm=t){nm:Int}(hn:N.getD i 0=nm){s}(hs:S.getD i []=s){y:Int}{M}(ha:rvD C t nm s=(y,M)) :
  Lo T N S (q+1) C=if y≠0 then (y,[]) else Lo T N S q M:=by
 rw[Lo,hi,ht,hn,hs,ha]
theorem Zmm{m j k:Nat}(hj:j<k)(hk:k<m):(j+1) % m≠(k+1) % m:=by
 rw[Nat.mod_eq_of_lt (show j+1<m by omega)];by_cases e:k+1=m
 ·rw[e,Nat.mod_self];omega
 ·rw[Nat.mod_eq_of_lt (show k+1<m by omega)];omega
theorem Ml{α : Type}(l:List α)(i:Nat)(x d : α)(h:i<l.length):(l.set i x).getD i d=x:=by simp[List.getD,h]
theorem Cw{α : Type}(l:List α){i j:Nat}(x d : α)(h:i≠j):(l.set i x).getD j d=l.getD j d:=by simp[List.getD,List.getElem?_set_ne h]
theorem Ys{h r:Int}{T:List TxD}{N:List Int}{q k:Nat}{C M}{S S':List (List Zj)}(e:Wv h r T N (q+1) k C S=(0,M,S')) :
  ¬((k+1) % T.length=0/\Xy r T S T.length<0)/\∃ C1 s,apD C (T.getD ((k+1) % T.length) Wm) (N.getD ((k+1) % T.length) 0) h=(0,C1,s)/\Wv h r T N q (k+1) C1 (S.set ((k+1) % T.length) s)=(0,M,S'):=by
 obtain⟨⟨y,C1,s⟩,ha⟩:=ZF (apD C (T.getD ((k+1) % T.length) Wm) (N.getD ((k+1) % T.length) 0) h);rw[Ek rfl rfl rfl ha] at e;split at e
 ·injection e with e1 _;exact absurd e1 (by decide)
 ·rename_i hc;split at e
  ·rename_i hy;injection e with e1 _;exact absurd e1 hy
  ·rename_i hy;have hy:y=0:=aT.1 hy;subst hy;exact⟨hc,C1,s,ha,e⟩
theorem Ej{h r:Int}{T:List TxD}{N}:∀ (q k:Nat) (C M:List Zj) (S S':List (List Zj)),Wv h r T N q k C S=(0,M,S')->q+k=T.length->S.length=T.length ->
  S'.length=T.length/\(∀ j,j<k->S'.getD ((j+1) % T.length) []=S.getD ((j+1) % T.length) [])/\Lo T N S' T.length M=Lo T N S' k C
 | 0,k,C,M,S,S',e,hk,hS=>by
  rw[Wv] at e;injection e with _ e;injection e with e1 e2;subst e1 e2;have:k=T.length:=by omega
  subst this;exact⟨hS,λ_ _=>rfl,rfl⟩
 | q+1,k,C,M,S,S',e,hk,hS=>by
  obtain⟨_,C1,s,ha,e⟩:=Ys e;obtain⟨i1,i2,i3⟩:=Ej q (k+1) C1 M _ S' e (by omega) (by simpa using hS);have hm:(k+1) % T.length<S.length:=by rw[hS];exact Nat.mod_lt _ (by omega)
  refine⟨i1,λj hj=>?_,?_⟩
  ·rw[i2 j (by omega)];exact Cw S s [] (λe=>Zmm hj (show k<T.length by omega) e.symm)
  ·rw[i3]
   have hs:S'.getD ((k+1) % T.length) []=s:=by
    rw[i2 k (Nat.lt_succ_self k)];exact Ml S _ s [] hm
   rw[Zld rfl rfl rfl hs (Zpa ha),if_neg (by decide)]
theorem Dk{h r:Int}{T N}:∀ (q k:Nat) (C M:List Zj) (S S':List (List Zj)),Wv h r T N q k C S=(0,M,S')->Yd C->Yd M
 | 0,k,C,M,S,S',e,hC=>by
  rw[Wv] at e;injection e with _ e;injection e with e1 e2;subst e1;exact hC
 | q+1,k,C,M,S,S',e,hC=>by
  obtain⟨_,C1,s,ha,e⟩:=Ys e;exact Dk q (k+1) C1 M _ S' e (Mc ha).2.1
theorem Zot{h r:Int}{T:List TxD}{N C M S'}(h0:0<T.length)(h4:T.length<=4)(e:Wv h r T N T.length 0 C (List.replicate T.length [])=(0,M,S')):Zp M<=Zp C+r:=by
 match T,h0,h4,e with
 | [t0],_,_,e=>
  obtain⟨c0,C1,s0,a0,e⟩:=Ys (q:=0) e;rw[Wv] at e;injection e with _ e;injection e with e _;subst e;have i0:(0+1) % [t0].length=0:=by simp
  rw[i0] at a0;have a0:apD C t0 (N.getD 0 0) h=(0,C1,s0):=a0;obtain⟨b0,d0⟩:=U7 a0;have c0:¬(Xy r [t0] [[]] 1<0):=λq=>c0 ⟨i0,q⟩;simp only[Xy,List.take_succ_cons,List.take_zero,bY,List.map_nil,cD,List.flatten_nil,List.append_nil,Hv] at c0;omega
 | [t0,t1],_,_,e=>
  obtain⟨_,C1,s1,a1,e⟩:=Ys (q:=1) e;obtain⟨c0,C2,s0,a0,e⟩:=Ys (q:=0) e;rw[Wv] at e;injection e with _ e;injection e with e _;subst e;have a1:apD C t1 (N.getD 1 0) h=(0,C1,s1):=a1;have i0:(0+1+1) % [t0,t1].length=0:=by simp
  rw[i0] at a0;have a0:apD C1 t0 (N.getD 0 0) h=(0,C2,s0):=a0;obtain⟨b1,d1⟩:=U7 a1;obtain⟨b0,d0⟩:=U7 a0;have c0:¬(Xy r [t0,t1] [[],s1] 2<0):=λq=>c0 ⟨i0,q⟩;simp only[Xy,List.take_succ_cons,List.take_zero,bY,List.map_nil,cD,List.flatten_nil,List.append_nil,List.nil_append,Ut] at c0;omega
 | [t0,t1,t2],_,_,e=>
  obtain⟨_,C1,s1,a1,e⟩:=Ys (q:=2) e;obtain⟨_,C2,s2,a2,e⟩:=Ys (q:=1) e;obtain⟨c0,C3,s0,a0,e⟩:=Ys (q:=0) e;rw[Wv] at e;injection e with _ e;injection e with e _;subst e;have a1:apD C t1 (N.getD 1 0) h=(0,C1,s1):=a1;have a2:apD C1 t2 (N.getD 2 0) h=(0,C2,s2):=a2;have i0:(0+1+1+1) % [t0,t1,t2].length=0:=by simp
  rw[i0] at a0;have a0:apD C2 t0 (N.getD 0 0) h=(0,C3,s0):=a0;obtain⟨b1,d1⟩:=U7 a1;obtain⟨b2,d2⟩:=U7 a2;obtain⟨b0,d0⟩:=U7 a0;have c0:¬(Xy r [t0,t1,t2] [[],s1,s2] 3<0):=λq=>c0 ⟨i0,q⟩;simp only[Xy,List.take_succ_cons,List.take_zero,bY,List.map_nil,cD,List.flatten_nil,List.append_nil,List.nil_append,Ut,Wq] at c0;omega
 | [t0,t1,t2,t3],_,_,e=>
  obtain⟨_,C1,s1,a1,e⟩:=Ys (q:=3) e;obtain⟨_,C2,s2,a2,e⟩:=Ys (q:=2) e;obtain⟨_,C3,s3,a3,e⟩:=Ys (q:=1) e;obtain⟨c0,C4,s0,a0,e⟩:=Ys (q:=0) e;rw[Wv] at e;injection e with _ e;injection e with e _;subst e;have a1:apD C t1 (N.getD 1 0) h=(0,C1,s1):=a1;have a2:apD C1 t2 (N.getD 2 0) h=(0,C2,s2):=a2;have a3:apD C2 t3 (N.getD 3 0) h=(0,C3,s3):=a3;have i0:(0+1+1+1+1) % [t0,t1,t2,t3].length=0:=by simp
  rw[i0] at a0;have a0:apD C3 t0 (N.getD 0 0) h=(0,C4,s0):=a0;obtain⟨b1,d1⟩:=U7 a1;obtain⟨b2,d2⟩:=U7 a2;obtain⟨b3,d3⟩:=U7 a3;obtain⟨b0,d0⟩:=U7 a0;have c0:¬(Xy r [t0,t1,t2,t3] [[],s1,s2,s3] 4<0):=λq=>c0 ⟨i0,q⟩;simp only[Xy,List.take_succ_cons,List.take_zero,bY,List.map_nil,cD,List.flatten_nil,List.append_nil,List.nil_append,Ut,Wq] at c0;omega
def disD(K:List ByteArray)(C:List Zj)(b:Zk)(S:List (List Zj)):Int×List Zj:=
 if (nfD K C b).2≠0 then ((nfD K C b).2,[]) else if S.length≠b.2.2.2.2.length then (4,[]) else Lo b.2.2.2.2 (nfD K C b).1 S b.2.2.2.2.length C
theorem Ey{b:Zk}(h:Yq b=0):0<b.2.2.2.2.length/\b.2.2.2.2.length<=4/\1<=b.2.1/\b.2.1<=1000:=by
 unfold Yq at h;split at h
 ·cases h
 rename_i h1;split at h
 ·cases h
 split at h
 ·cases h
 unfold Wk at h1;simp only[Bool.not_eq_false,Bool.and_eq_true,decide_eq_true_eq] at h1;omega
theorem Zkb{K C}{b:Zk}(h:(nfD K C b).2=0):Yd C/\Yq b=0/\∃ X n N,Xl K b=(X,n,N,0)/\(nfD K C b).1=N:=by
 unfold nfD at h ⊢;split at h
 ·rename_i q;exact absurd h q
 rename_i q;obtain⟨⟨X,n,N,x⟩,hx⟩:=ZF (Xl K b);rw[hx] at h;have h:x=0:=h;subst h;rw[if_neg q,hx];exact⟨(Z7 C).1 (aT.1 q),(Zjy hx).1,X,n,N,rfl,rfl⟩
theorem Zqu{K C}{b:Zk}{X}{n:Int}{N}(hC:Yd C)(h:Xl K b=(X,n,N,0)):nfD K C b=(N,0):=by
 unfold nfD;rw[(Z7 C).2 hC,if_neg (by decide),h]
theorem Zef{K C M}{b:Zk}{S:List (List Zj)}(e:Xw K C b=(0,M,S)) :
  Yd C/\Yd M/\Yq b=0/\S.length=b.2.2.2.2.length/\disD K M b S=(0,C)/\Zp M<=Zp C+(rwD b.2.1).1/\(rwD b.2.1).2=0:=by
 unfold Xw at e;split at e
 ·rename_i q;injection e with e _;exact absurd e q
 rename_i q;obtain⟨hC,hb,X,n,N,hN,ad⟩:=Zkb (aT.1 q);rw[ad] at e;obtain⟨h0,h4,h1,h2⟩:=Ey hb;have hM:=Dk _ _ _ _ _ _ e hC;obtain⟨b1,b2,b3⟩:=Ej _ _ _ _ _ _ e (by omega) (by simp);refine⟨hC,hM,hb,b1,?_,Zot h0 h4 e,?_⟩
 ·unfold disD;rw[Zqu hM hN,if_neg (λq=>q rfl),if_neg (λq=>q b1)];exact b3
 ·unfold rwD;rw[if_pos (by simp only[Bool.and_eq_true,decide_eq_true_eq];omega)]
open Bk (Right nm nameR)
def doD(h:Int)(s:List ByteArray×List Zj)(t:TxD):Int×List ByteArray×List Zj:=
 if Zq t≠0 then (Zq t,s) else if t.2.1.length=0 then (4,s) else
 if (nameR s.1 (txT t)).2.2≠0 then ((nameR s.1 (txT t)).2.2,s) else
 if (apD s.2 t (nameR s.1 (txT t)).2.1 h).1≠0 then ((apD s.2 t (nameR s.1 (txT t)).2.1 h).1,s) else
 (0,(nameR s.1 (txT t)).1,(apD s.2 t (nameR s.1 (txT t)).2.1 h).2.1)
def Z5(h:Int):List TxD->List ByteArray×List Zj->List TxD×List ByteArray×List Zj
 | [],s=>([],s)
 | t :: l,s=>if (doD h s t).1=0 then (t :: (Z5 h l (doD h s t).2).1,(Z5 h l (doD h s t).2).2) else Z5 h l s
theorem Zbl{K}{s:ByteArray}(hK:Right K)(h0:(nameR K s).2.2=0):Right (nameR K s).1/\(∃ M,(nameR K s).1=K++M)/\∀ M,Right ((nameR K s).1++M)->nameR ((nameR K s).1++M) s=((nameR K s).1++M,(nameR K s).2.1,0):=by
 have e:nameR K s=nm K s:=by unfold nameR;rw[if_pos ((Bk.right_iff K).2 hK)]
 rw[e] at h0 ⊢;refine⟨Bk.nm_right hK h0,Bk.nm_grows h0,λM hM=>?_⟩;obtain⟨h1,h2,h3⟩:=Bk.nm_place h0;have e2:nameR ((nm K s).1++M) s=nm ((nm K s).1++M) s:=by unfold nameR;rw[if_pos ((Bk.right_iff _).2 hM)]
 have h4:=Bk.place_stays M h2;rw[e2,Bk.nm_there h3 (by rw[h4];exact h2),h4,h1]
theorem Ln{h:Int}{K C t}(hK:Right K)(h0:(doD h (K,C) t).1=0) :
  Right (doD h (K,C) t).2.1/\(∃ M,(doD h (K,C) t).2.1=K++M)/\∀ M,Right ((doD h (K,C) t).2.1++M)->doD h ((doD h (K,C) t).2.1++M,C) t=(0,(doD h (K,C) t).2.1++M,(doD h (K,C) t).2.2):=by
 by_cases q1:Zq t≠0
 ·unfold doD at h0;rw[if_pos q1] at h0;exact absurd h0 q1
 by_cases q2:t.2.1.length=0
 ·unfold doD at h0;rw[if_neg q1,if_pos q2] at h0;exact absurd (show (4:Int)=0 from h0) (by decide)
 by_cases q3:(nameR K (txT t)).2.2≠0
 ·unfold doD at h0;rw[if_neg q1,if_neg q2,if_pos q3] at h0;exact absurd h0 q3
 by_cases q4:(apD C t (nameR K (txT t)).2.1 h).1≠0
 ·unfold doD at h0;rw[if_neg q1,if_neg q2,if_neg q3,if_pos q4] at h0;exact absurd h0 q4
 have e:doD h (K,C) t=(0,(nameR K (txT t)).1,(apD C t (nameR K (txT t)).2.1 h).2.1):=by
  unfold doD;rw[if_neg q1,if_neg q2,if_neg q3,if_neg q4]
 obtain⟨n1,n2,n3⟩:=Zbl hK (aT.1 q3);rw[e];refine⟨n1,n2,λM hM=>?_⟩;have e2:=n3 M hM;unfold doD;rw[if_neg q1,if_neg q2];simp only;rw[e2];simp only;rw[if_neg (λr=>r rfl),if_neg q4]
theorem Qa{h:Int}:∀ (l:List TxD) (K:List ByteArray) (C:List Zj),Right K->Right (Z5 h l (K,C)).2.1/\∃ M,(Z5 h l (K,C)).2.1=K++M
 | [],K,C,hK=>⟨hK,[],by simp[Z5]⟩
 | t :: l,K,C,hK=>by
  rw[Z5];by_cases q:(doD h (K,C) t).1=0
  ·rw[if_pos q];obtain⟨d1,⟨M,d2⟩,_⟩:=Ln hK q;obtain⟨s1,M2,s2⟩:=Qa l (doD h (K,C) t).2.1 (doD h (K,C) t).2.2 d1;exact⟨s1,M++M2,by rw[s2,d2,cS]⟩
  ·rw[if_neg q];exact Qa l K C hK
theorem Hr{h:Int}:∀ (l:List TxD) (K:List ByteArray) (C:List Zj) (M:List ByteArray),Right K->Right ((Z5 h l (K,C)).2.1++M) ->
  Z5 h (Z5 h l (K,C)).1 ((Z5 h l (K,C)).2.1++M,C)=((Z5 h l (K,C)).1,(Z5 h l (K,C)).2.1++M,(Z5 h l (K,C)).2.2)
 | [],K,C,M,_,_=>rfl
 | t :: l,K,C,M,hK,hM=>by
  by_cases q:(doD h (K,C) t).1=0
  ·have e:Z5 h (t :: l) (K,C)=(t :: (Z5 h l (doD h (K,C) t).2).1,(Z5 h l (doD h (K,C) t).2).2):=(by rw[Z5,if_pos q]);rw[e] at hM ⊢;obtain⟨d1,_,d3⟩:=Ln hK q;obtain⟨M2,s2⟩:=(Qa (h:=h) l (doD h (K,C) t).2.1 (doD h (K,C) t).2.2 d1).2;have ad:(Z5 h l (doD h (K,C) t).2).2.1=(doD h (K,C) t).2.1++M2:=s2;have hd:=d3 (M2++M) (by rw[<-cS,<-ad];exact hM);rw[<-cS,<-ad] at hd;have ih:=Hr l (doD h (K,C) t).2.1 (doD h (K,C) t).2.2 M d1 hM;show Z5 h (t :: (Z5 h l (doD h (K,C) t).2).1) ((Z5 h l (doD h (K,C) t).2).2.1++M,C)=_;rw[Z5,hd,if_pos (show (0:Int)=0 from rfl)];exact congrArg (λr:List TxD×List ByteArray×List Zj=>(t :: r.1,r.2)) ih
  ·have e:Z5 h (t :: l) (K,C)=Z5 h l (K,C):=(by rw[Z5,if_neg q]);rw[e] at hM ⊢;exact Hr l K C M hK hM
theorem Gr.cell{w w':World}{S:Nat->Prop}(h:Gr w w' S){p:Addr}{v}(hc:w.cell? p=some v)(hn:¬S p.block):w'.cell? p=some v:=
 (cA (h.block p.block (aE _ _ hc) hn)).trans hc
theorem Fresh.now{B:Nat}{w}{Q:World->Prop}(h:Fresh B w Q):Q w:=h w (Gr.refl _ _)
theorem Fresh.on{B:Nat}{w w'}{Q:World->Prop}(h:Fresh B w Q)(g:Gr w w' (λk=>k<B)):Fresh B w' Q:=λw2 g2=>h w2 (g.trans g2)
theorem Fresh.later{B:Nat}{w w':World}{Q:World->Prop}(h:Fresh B w Q)(g:ZD w w'):Fresh B w' Q:=h.on (Gr.of g)
theorem Fresh.less{B B':Nat}{w}{Q:World->Prop}(h:Fresh B' w Q)(hb:B<=B'):Fresh B w Q:=λw2 g2=>h w2 (g2.mono λ_ _ hk=>aD hk hb)
theorem Fresh.imp{B:Nat}{w}{Q R:World->Prop}(h:Fresh B w Q)(f:∀ w2,Q w2->R w2):Fresh B w R:=λw2 g2=>f w2 (h w2 g2)
namespace Tr
open Go.RowKit
theorem Yu(w:World)(a b)(t:cF):(w.alloc (dE #[a,b] t)).heap[w.heap.size]? = some (dE [a,b].toArray t (0,0)):=aG w _
theorem Zz{w:World}{base:Nat}{e:cF}{size:Nat}{v}{n:Nat}{xs}(h:w.ownsRow base e size v n xs):∃ a c,v = F a n c/\SlOk a n c/\∀ ae,a=some ae->base<=ae.block/\ae.block<w.heap.size:=by
 rcases h.2 with ⟨rfl,rfl⟩|⟨g,cap,ad,rfl,hg,hh,h1,h2,_⟩
 ·exact⟨none,0,rfl,⟨aF _,aI _,λ_=>⟨rfl,rfl⟩⟩,λae e=>by cases e⟩
 ·exact⟨_,cap,rfl,⟨h1,h2,λe=>by cases e⟩,λae e=>by cases e;exact⟨hg,aA hh⟩⟩
def CellsAt(w:World)(b o:Nat)(cs:List Value):Prop:=∀ j u,cs[j]? = some u->w.cell? ⟨b,o+j,none⟩=some u
structure Rec(α : Type) where
 sz:Nat
 C:World->List Value -> α->Prop
 R:World->Nat->Nat -> α->Prop
 wide:∀ w cs x,C w cs x->cs.length=sz
 one:∀ w cs x,C w cs x->∀ v∈cs,v.oneCell'=true
 kept:∀ w w' cs x,ZD w w'->C w cs x->C w' cs x
 rc:∀ w b o x,R w b o x->∃ cs,CellsAt w b o cs/\C w cs x
 cr:∀ w b o cs x,CellsAt w b o cs->C w cs x->R w b o x
def AllC{α : Type}(Z:Rec α)(w:World)(K:List (List Value))(L:List α):Prop:=K.length=L.length/\∀ i (h:i<L.length) (h':i<K.length),Z.C w K[i] L[i]
theorem Xo{α : Type}{Z:Rec α}{w}:∀ {K:List (List Value)} {L:List α},AllC Z w K L->K.flatten.length=L.length*Z.sz
 | [],[],_=>by simp
 | [],_ :: _,h=>by cases h.1
 | _ :: _,[],h=>by cases h.1
 | k :: K,x :: L,h=>by
  have h1:AllC Z w K L:=⟨by simpa using h.1,λi h1 h2=>h.2 (i+1) (by simpa using h1) (by simpa using h2)⟩;have h2:=Z.wide _ _ _ (h.2 0 (by simp) (by simp));simp only[List.getElem_cons_zero] at h2;rw[cD,List.length_append,Xo h1,h2,List.length_cons,Nat.succ_mul];omega
theorem flat_one{α : Type}{Z:Rec α}{w}{K:List (List Value)}{L:List α}(h:AllC Z w K L):∀ u∈K.flatten,u.oneCell'=true:=by
 intro u hu;obtain⟨k,hk,hu⟩:=List.mem_flatten.1 hu;obtain⟨i,hi,rfl⟩:=List.getElem_of_mem hk;exact Z.one _ _ _ (h.2 i (by rw[<-h.1];exact hi) hi) u hu
theorem AllC.later{α : Type}{Z:Rec α}{w w':World}{K}{L:List α}(h:AllC Z w K L)(hb:ZD w w'):AllC Z w' K L:=
 ⟨h.1,λi h1 h2=>Z.kept _ _ _ _ hb (h.2 i h1 h2)⟩
theorem AllC.snoc{α : Type}{Z:Rec α}{w K}{L:List α}(h:AllC Z w K L){k}{x : α}(hx:Z.C w k x):AllC Z w (K++[k]) (L++[x]):=by
 refine⟨by simp[h.1],λi h1 h2=>?_⟩
 rcases Nat.lt_or_ge i L.length with q|q
 ·rw[List.getElem_append_left (h:=by rw[h.1];exact q),List.getElem_append_left (h:=q)];exact h.2 i q (by rw[h.1];exact q)
 ·have e:i=L.length:=by simp at h1;omega
  subst e;rw[List.getElem_append_right (by rw[h.1];exact aF _),List.getElem_append_right (aF _)];simpa[h.1] using hx
theorem Rg{α : Type}{Z:Rec α}{w}:∀ {K:List (List Value)} {L:List α} (_:AllC Z w K L) (i:Nat) (h':i<K.length) (j:Nat) (_:j<Z.sz),K.flatten[i*Z.sz+j]? = (K[i])[j]?
 | [],_,_,_,h',_,_=>absurd h' (by simp)
 | _ :: _,[],h,_,_,_,_=>by cases h.1
 | k :: K,x :: L,h,0,_,j,hj=>by
  have h2:=Z.wide _ _ _ (h.2 0 (by simp) (by simp));simp only[List.getElem_cons_zero] at h2;rw[cD,List.getElem?_append_left (by omega)];simp
 | k :: K,x :: L,h,i+1,h',j,hj=>by
  have h1:AllC Z w K L:=⟨by simpa using h.1,λi h1 h2=>h.2 (i+1) (by simpa using h1) (by simpa using h2)⟩;have h2:=Z.wide _ _ _ (h.2 0 (by simp) (by simp));simp only[List.getElem_cons_zero] at h2;rw[cD,List.getElem?_append_right (by rw[h2,Nat.succ_mul];omega),h2];rw[show (i+1)*Z.sz+j - Z.sz=i*Z.sz+j by rw[Nat.succ_mul];omega];rw[Rg h1 i (by simpa using h') j hj];simp
theorem Vr{α : Type}(Z:Rec α){w}{b off:Nat}{L:List α}(h:∀ i (h:i<L.length),Z.R w b (off+i*Z.sz) L[i]):∃ K,AllC Z w K L/\CellsAt w b off K.flatten:=by
 have h2:∀ k,k<=L.length->∃ K,AllC Z w K (L.take k)/\CellsAt w b off K.flatten:=by
  intro k
  induction k with
  | zero=>intro _;exact⟨[],⟨by simp,λi h1 h2=>absurd h2 (by simp)⟩,λj u hj=>by simp at hj⟩
  | succ k ih=>
   intro hk;obtain⟨K,h1,h3⟩:=ih (by omega);obtain⟨cs,h4,h5⟩:=Z.rc _ _ _ _ (h k (by omega));refine⟨K++[cs],by rw[List.take_succ_eq_append_getElem (by omega)];exact h1.snoc h5,λj u hj=>?_⟩;have hl:=Xo h1;rw[List.length_take,Nat.min_eq_left (by omega)] at hl;rw[List.flatten_append] at hj
   rcases Nat.lt_or_ge j K.flatten.length with q|q
   ·rw[List.getElem?_append_left q] at hj;exact h3 j u hj
   ·rw[List.getElem?_append_right q] at hj;have:=h4 (j - K.flatten.length) u (by simpa using hj);rw[show off+k*Z.sz+(j - K.flatten.length)=off+j by omega] at this;exact this
 obtain⟨K,h1,h3⟩:=h2 L.length (aF _);rw[List.take_length] at h1;exact⟨K,h1,h3⟩
theorem rows_of_own{α : Type}(Z:Rec α){w:World}{base n:Nat}{e:cF}{v}{K:List (List Value)}{L:List α}(h:w.ownsRow base e Z.sz v n K.flatten)(hc:AllC Z w K L)(hn:L.length=n):∃ a c,v = F a n c/\RowsAt Z.R Z.sz w a n L/\SlOk a n c:=by
 rcases h.2 with ⟨rfl,rfl⟩|⟨g,cap,ah,rfl,hg,hh,h1,h2,h3,h4⟩
 ·exact⟨none,0,rfl,⟨hn,λh=>absurd h (by omega)⟩,aF _,aI _,λ_=>⟨rfl,rfl⟩⟩
 ·refine⟨_,cap,rfl,⟨hn,λ_=>⟨g,0,rfl,aA hh,λi hi=>?_⟩⟩,h1,h2,λe=>by cases e⟩;have ab:i<K.length:=by rw[hc.1];exact hi
  refine Z.cr _ _ _ (K[i]) _ (λj u hj=>?_) (hc.2 i hi ab);have hw:=Z.wide _ _ _ (hc.2 i hi ab);have af:j<Z.sz:=by rw[<-hw];exact (List.getElem?_eq_some_iff.1 hj).1
  rw[Nat.zero_add,World.ownsRow.cellAt h _ (by
   have:(i+1)*Z.sz<=n*Z.sz:=Nat.mul_le_mul_right _ (by omega);rw[Nat.succ_mul] at this;omega),Rg hc i ab j af]
  exact hj
end Tr
open Go.RowKit
theorem Gr.row{w w1:World}{S:Nat->Prop}(h:Gr w w1 S){g:Nat}(hg:S g\/w.heap.size<=g)(cs):Gr w (w1.setRow g cs) S:=
 ⟨h.os,h.tape,h.output,by rw[setRow_size];exact h.size,λi hi hn=>(setRow_other w1 g i cs (λe=>by
  subst e
  rcases hg with q|q
  ·exact hn q
  ·omega)).trans (h.block i hi hn)⟩
section
variable {P : Program}
end
theorem tk{P:Program}{aa}{Q:Exit->Act->World->Prop}{md:Region.Mode}{S:World->Prop}(i:Nat)(oi:Oper)(v){fuel:Nat}{ac:Array Bool}{a:Act}{w}(hi:aa[i]? = some oi)
  (hy:∀ w,S w->(execOp a.eval oi).run P w = .ok (.value v) w) (hS:S w) (h:wpAnyH P md aa Q S fuel (ac.setIfInBounds i true) (a.put oi.dst v) w)
  (hQ:∀ c a w,Q (.panic c) (a.put oi.dst v) w->Q (.panic c) a w:=by exact λ_ _ _ h=>h) (hw:cW oi (yielded aa a.tmps)=true:=by rfl)
  (hs:Region.noSelect aa=true:=by kernel_rfl) (hf:Region.free md aa ac i=true:=by kernel_rfl) (hr:(Region.ready md aa ac).contains i=true:=by kernel_rfl) :
  wpAnyH P md aa Q S (fuel+1) ac a w:=wpAnyH_take hi hs hf hr hQ (Or.inl ⟨hw,hy⟩) hS h
open Go.RowKit Go.Shelf
attribute [local go_sem] Oper.semAt_some
structure KpD(n1 b c:Nat)(W W':World):Prop where
 os:W'.os=W.os
 tape:W'.tape=W.tape
 output:W'.output=W.output
 size:W.heap.size<=W'.heap.size
 block:∀ k,k<n1->k≠b->k≠c->W'.heap[k]? = W.heap[k]?
theorem KpD.refl(n1 b c:Nat)(W):KpD n1 b c W W:=⟨rfl,rfl,rfl,aF _,λ_ _ _ _=>rfl⟩
theorem KpD.trans{n1 b c:Nat}{A B C}(h:KpD n1 b c A B)(k:KpD n1 b c B C):KpD n1 b c A C:=
 ⟨k.os.trans h.os,k.tape.trans h.tape,k.output.trans h.output,aN h.size k.size,λi h1 h2 h3=>(k.block i h1 h2 h3).trans (h.block i h1 h2 h3)⟩
theorem KpD.put{n1 b c:Nat}(W:World)(l:Nat)(o:Obj)(h:n1<=l):KpD n1 b c W (W.putObj l o):=
 ⟨rfl,rfl,rfl,by simp,λk hk _ _=>World.putObj_heap_other (by omega)⟩
theorem KpD.set{n1 b c:Nat}{W W':World}(h:KpD n1 b c W W'){p:Addr}(hp:p.block=b\/p.block=c)(u):KpD n1 b c W (W'.setCell p u):=
 ⟨h.os,h.tape,h.output,by simpa[World.setCell] using h.size,λk h1 h2 h3=>(Below.heap_setCell W' p u k (λe=>by subst e;rcases hp with q|q;exact h2 q;exact h3 q)).trans (h.block k h1 h2 h3)⟩
theorem KpD.on{n1 b c:Nat}{W W1 W2:World}(h:KpD n1 b c W W1)(hb:ZD W1 W2)(hn:n1<=W1.heap.size):KpD n1 b c W W2:=
 ⟨hb.os.trans h.os,hb.tape.trans h.tape,hb.output.trans h.output,aN h.size hb.size,λk h1 h2 h3=>(hb.block k (by omega)).trans (h.block k h1 h2 h3)⟩
theorem KpD.grown{n1 b c:Nat}{W W1 W2:World}(h:KpD n1 b c W W1){row:Option Nat}(g:W1.grownBy W2 row)(hr:∀ r,row=some r->n1<=r)(hn:n1<=W1.heap.size):KpD n1 b c W W2:=
 ⟨g.os.trans h.os,g.tape.trans h.tape,g.output.trans h.output,aN h.size g.size,λk h1 h2 h3=>(g.block k (by omega) (λe=>by have:=hr k e.symm;omega)).trans (h.block k h1 h2 h3)⟩
theorem KpD.below{n1 b c:Nat}{w W0 W:World}(h:KpD n1 b c W0 W)(hb:ZD w W0)(hn:w.heap.size<=n1)(h1:w.heap.size<=b)(h2:w.heap.size<=c):ZD w W:=
 ⟨h.os.trans hb.os,h.tape.trans hb.tape,h.output.trans hb.output,aN hb.size h.size,λk hk=>(h.block k (by omega) (by omega) (by omega)).trans (hb.block k hk)⟩
theorem KpD.cell{n1 b c:Nat}{W W':World}(h:KpD n1 b c W W'){k o:Nat}{v}(hk:k<n1)(h2:k≠b)(h3:k≠c)(hv:W.cell? ⟨k,o,none⟩=some v):W'.cell? ⟨k,o,none⟩=some v:=
 (cA (a:=⟨k,o,none⟩) (h.block k hk h2 h3)).trans hv
def Box1(W:World)(k:Nat):Prop:=∃ v t fr,W.heap[k]? = some (dE #[v] t fr)
theorem Box1.two{W:World}{k:Nat}(h:Box1 W k){o:Nat}{v}(h2:W.cell? ⟨k,o+1,none⟩=some v):False:=by
 obtain⟨x,t,fr,hx⟩:=h;rw[cell_of_row W k (o+1) #[x] t fr hx] at h2;simp at h2
theorem Znk{W W':World}{S:Nat->Prop}(hk:∀ k,k<W.heap.size->¬S k->W'.heap[k]? = W.heap[k]?)(hB:∀ k,S k->Box1 W k){a n l}(h:OpsAt W a n l):OpsAt W' a n l:=by
 refine⟨h.1,λh0=>?_⟩;obtain⟨b,off,rfl,hc⟩:=h.2 h0;refine⟨b,off,rfl,λi hi=>?_⟩;obtain⟨c0,c1⟩:=hc i hi;have e:=hk b (aE _ _ c0) (λq=>(hB b q).two c1);exact⟨(cA (a:=⟨b,_,none⟩) e).trans c0,(cA (a:=⟨b,_,none⟩) e).trans c1⟩
theorem Zhf{W W':World}{S:Nat->Prop}(hs:W.heap.size<=W'.heap.size)(hk:∀ k,k<W.heap.size->¬S k->W'.heap[k]? = W.heap[k]?)(hB:∀ k,S k->Box1 W k){a n L}(h:CoinsAt W a n L):CoinsAt W' a n L:=by
 refine⟨h.1,λh0=>?_⟩;obtain⟨b,off,rfl,hl,hc⟩:=h.2 h0;refine⟨b,off,rfl,aD hl hs,λi hi=>?_⟩;obtain⟨c0,c1,c2,⟨la,ln,lc,c3,h5,h6⟩,c4,c5⟩:=hc i hi;have e:=hk b hl (λq=>(hB b q).two c1);have g:=λ(o:Nat)=>cA (a:=⟨b,o,none⟩) e;exact⟨(g _).trans c0,(g _).trans c1,(g _).trans c2,⟨la,ln,lc,(g _).trans c3,Znk hk hB h5,h6⟩,(g _).trans c4,(g _).trans c5⟩
end Go.Proofs.YtmomfkikogbdeaaGreatDoor
namespace Go.Proofs.YtmomfkikogbdeaaGreatDoor
open Go.RowKit
theorem Zm{P:Program}{aa}{o:Oper}{a:Act}{w}{K:Act->World->Prop}{Q:Exit->Act->World->Prop}{ac:Prop}
  (hw:cW o (yielded aa a.tmps)=true) (f:FuncId) (vs) (he:(execOp a.eval o).run P w = .ok (.enter f vs) w) {R:Ending->World->Prop} (hc:Calls P f vs w R) (h:∀ e w',R e w'->∃ v,e = dF v/\K (a.put o.dst v) w') :
  if cW o (yielded aa a.tmps)=true then Oper.wp P o a w K Q else ac:=by
 rw[if_pos hw];unfold Oper.wp;rw[he,Oper.upon_enter];refine hc.mono ?_;intro e w' hr;obtain⟨v,rfl,hk⟩:=h e w' hr;exact hk
theorem Y9{P:Program}{af}{o:Oper}{a:Act}{w}{K:Act->World->Prop}{Q:Exit->Act->World->Prop}{ab:Prop}
  (hg:o.guard=none) (f:FuncId) (vs) (he:(execOp a.eval o).run P w = .ok (.enter f vs) w) {R:Ending->World->Prop} (hc:Calls P f vs w R) (h:∀ e w',R e w'->∃ v,e = dF v/\K (a.put o.dst v) w') :
  if cW o (yielded af a.tmps)=true then Oper.wp P o a w K Q else ab:=
 Zm (by simp[cW,hg]) f vs he hc h
namespace Bk
open Go.RowKit Go.Maps
theorem all_isF(a al n c nl cl L l M N)(x:Int)(w:World)(h:TextsAt w a n L)(hl:TextsAt w al nl l)(ap:nl<=17592186044416)(hx:allR L l=(M,N,x)) :
  Calls Tryz.prog 86 #[.agg #[F a n c],F al nl cl] w λe w'=>(∃ a' n' c' a2 n2 c2,e = dF (dG #[.agg #[F a' n' c'],F a2 n2 c2,E J x])/\(∀ w2,Gr w' w2 (λk=>k<w.heap.size)->TextsAt w2 a' n' M)/\SlOk a' n' c'/\IntsAt w' a2 n2 N/\n2<=nl/\n2<=c2)/\ZD w w':=by
 unfold allR at hx;by_cases h0:bkChk L=0
 ·rw[if_pos h0] at hx;exact Me a al n c nl cl L l M N x w h hl ap ((right_iff L).1 h0) hx
 ·rw[if_neg h0] at hx;have e1:M=[]:=by injection hx with hx _;exact hx.symm
  have e2:N=[]:=by injection hx with _ hx;injection hx with hx _;exact hx.symm
  have e3:bkChk L=x:=by injection hx with _ hx;injection hx with _ hx
  subst e1 e2;refine (Zem a al n c nl cl L w h x e3 (by rw[<-e3];exact h0)).mono ?_;rintro e w' ⟨rfl,hb⟩;exact⟨⟨_,_,_,_,_,_,rfl,λ_ _=>TextsAt.nil _ _,SlOk.nil,IntsAt.nil _ _,aI _,aF _⟩,hb⟩
theorem name_fresh(a n c L M)(s:ByteArray)(k x:Int)(w:World)(h:TextsAt w a n L)(hx:nameR L s=(M,k,x)) :
  Calls Tryz.prog 157 #[.agg #[F a n c],.string s] w λe w'=>(∃ a' n' c',e = dF (dG #[.agg #[F a' n' c'],E J k,E J x])/\(∀ w2,Gr w' w2 (λk=>k<w.heap.size)->TextsAt w2 a' n' M)/\SlOk a' n' c')/\ZD w w':=by
 have bd:=Zh w (dE #[F a n c] 24);have ae:=Zh (w.alloc (dE #[F a n c] 24)) (dE #[F none 0 0] 24);have bf:(w.alloc (dE #[F a n c] 24)).heap.size=w.heap.size+1:=by simp
 have bg:((w.alloc (dE #[F a n c] 24)).alloc (dE #[F none 0 0] 24)).heap.size=w.heap.size+1+1:=by simp
 have c1:=aG (w.alloc (dE #[F a n c] 24)) (dE #[F none 0 0] 24);rw[bf] at c1;have aa:=Zh ((w.alloc (dE #[F a n c] 24)).alloc (dE #[F none 0 0] 24)) (dE #[.string s] 9);have ht:=Zju ((w.alloc (dE #[F a n c] 24)).alloc (dE #[F none 0 0] 24)) s;rw[bg] at ht;have hb:=Zf (Zf bd ae) aa;have c2:=ZE aa c1;have ea:=Zpb L s;rw[hx] at ea;have ER:=Zkc (L:=L) (s:=s);rw[hx] at ER;simp only at ea ER;obtain⟨AL,HB,C2⟩:=kh3 (all_isF a (some ⟨w.heap.size+1+1,0,none⟩) n c 1 1 L [s] M (if x=0 then [k] else []) x _ (h.later hb) ht (by decide) ea) hb c2;clear h hx ea hb bd ae aa bf bg c1 c2 ht;by_cases h0:x=0
 ·subst h0;rw[if_pos rfl] at AL;clear ER;go_enter Tryz.func157,Tryz.ntmps157;go_wp2_with fail;refine AL.mono ?_;rintro e w2 ⟨⟨a',n',c',a2,n2,c2,rfl,t1,t2,t3,-⟩,ae⟩;obtain⟨t4,t5⟩:=t3;have e:n2=1:=by rw[<-t4];rfl
  subst e;obtain⟨b,off,rfl,hc⟩:=t5 (by decide);have f:=hc 0 (by simp);simp only[Nat.add_zero,List.getElem_cons_zero] at f;have ah:=Zd (Zf HB ae);have c3:=ZE ae C2;have aa:=Zh w2 (dE #[F a' n' c'] 24);have c4:=ZE aa c3;have bk:=Zd t2;have bu:w.heap.size+1<w2.heap.size:=aA c3;have f2:=Ze aa f;have n0:=Rc w2 (F a' n' c') 24
  have bx:b≠w.heap.size+1:=by
   intro e;subst e;rw[cell_of_row _ _ _ _ _ _ c3] at f
   rcases off with _|off
   ·simp at f
   ·simp at f
  obtain⟨X,hX⟩:=ZG (w2.alloc (dE #[F a' n' c'] 24));rw[<-hX] at c4 f2 n0 aa;have az:=Zd (Zf ah aa);have d0:X.cell? ⟨w.heap.size+1,0,none⟩=some (F none 0 0):=by simp[bH,c4]
  have df:X.frozen? ⟨w.heap.size+1,0,none⟩=false:=by simp[World.frozen?,c4]
  have bv:b<X.heap.size:=aE _ _ f2;have bz:¬w2.heap.size=w.heap.size+1:=by omega
  have TS:Hid (∀ u w2,Gr (X.setCell ⟨w.heap.size+1,0,none⟩ u).drew w2 (λk=>k<w.heap.size)->TextsAt w2 a' n' M):=λu w2 g2=>t1 w2 (((((Gr.of aa).set (p:=⟨w.heap.size+1,0,none⟩) (.inl (by simp)) u).draw).trans (g2.mono (λ_ _ hk=>aD hk (by simp;omega)))));clear t1 t2 ae aa c3 c4 f hc t4 t5;go_wp2;rw[<-hX];clear hX
  go_region
  go_wp2;(try simp only[Exit.then]);refine bB (v:=dG #[.agg #[F a' n' c'],E J k,E J 0]) ?_ rfl ⟨⟨_,_,_,rfl,TS _,Za bk⟩,?_⟩
  ·rw[results_cell_tmp2 rfl];go_simp
  ·exact (az.setCell (dC _) _).drew
 ·rw[if_neg h0] at AL;obtain⟨rfl,rfl⟩:=ER h0;have g:(x != 0)=true:=by simp[h0]
  go_enter Tryz.func157,Tryz.ntmps157;go_wp2_with fail;refine AL.mono ?_;rintro e w2 ⟨⟨a',n',c',a2,n2,c2,rfl,t1,t2,t3,-⟩,ae⟩;have ah:=Zd (Zf HB ae);have c3:=ZE ae C2;have aa:=Zh w2 (dE #[F a' n' c'] 24);have c4:=ZE aa c3;have az:=Zd (Zf ah aa);have bu:w.heap.size+1<w2.heap.size:=aA c3;have d0:w2.cell? ⟨w.heap.size+1,0,none⟩=some (F none 0 0):=by simp[bH,c3]
  have df:w2.frozen? ⟨w.heap.size+1,0,none⟩=false:=by simp[World.frozen?,c3]
  clear t1 t2 t3 ae aa c3 c4;go_wp2;(try simp only[Exit.inBlock,Exit.then]);refine bB (v:=dG #[.agg #[F none 0 0],E J 0,E J x]) ?_ rfl ⟨⟨_,_,_,rfl,λ_ _=>TextsAt.nil _ _,SlOk.nil⟩,?_⟩
  ·rw[results_cell_tmp2 rfl];go_simp
  ·exact (ah.setCell (dC _) _).alloc (by have:=ah.size;simp;omega) _
end Bk
open Go.RowKit
theorem Aj{aa:Array Oper}{i:Nat}{o:Oper}{r}(h:aa.toList.drop i=o :: r):aa[i]? = some o:=by
 have:(aa.toList.drop i)[0]? = some o:=by rw[h];rfl
 rw[List.getElem?_drop] at this;simpa using this
theorem My(v:World)(c:List Value)(t:cF):∃ b v',b=v.heap.size/\v'=v.alloc (dE c.toArray t)/\ZD v v'/\v'.heap[b]? = some (dE c.toArray t (0,0)):=⟨_,_,rfl,rfl,Zh _ _,aG _ _⟩
theorem tkL{P:Program}{aa:Array Oper}{Q:Exit->Act->World->Prop}{md:Region.Mode}{S:World->Prop}(i:Nat){v}{fuel:Nat}{l l':Array Bool}{a a':Act}{w}{o:Oper}{r}(hi:aa.toList.drop i=o :: r)(hS:S w)(h:wpAnyH P md aa Q S fuel l' a' w)
  (hy:∀ w,S w->(execOp a.eval o).run P w = .ok (.value v) w:=by (intro U ab;(try dsimp only at ab);(try simp only[and_assoc] at ab);(repeat (have:=ab.1;replace ab:=ab.2));(try simp only[Act.put,ZA,ZB,ZC]);go_simp;first|done|with_reducible rfl))
  (ha:a.put o.dst v=a':=by ((try simp only[Act.put,ZA,ZB,ZC]);rfl)) (hl:l.setIfInBounds i true=l':=by ((try simp only[ZA,ZB,ZC]);rfl))
  (hQ:∀ c a w,Q (.panic c) (a.put o.dst v) w->Q (.panic c) a w:=by exact λ_ _ _ h=>h) (hw:cW o (yielded aa a.tmps)=true:=by rfl)
  (hs:Region.noSelect aa=true:=by kernel_rfl) (hf:Region.free md aa l i=true:=by kernel_rfl) (hr:(Region.ready md aa l).contains i=true:=by kernel_rfl) :
  wpAnyH P md aa Q S (fuel+1) l a w:=by
 subst ha hl;exact tk i o v (Aj hi) hy hS h hQ hw hs hf hr
theorem rdY{P:Program}{aa:Array Oper}{Q:Exit->Act->World->Prop}{md:Region.Mode}{S:World->Prop}(i:Nat){fuel:Nat}{l:Array Bool}{a:Act}{w}{o:Oper}{r}(hi:aa.toList.drop i=o :: r)
  (h:∀ K':Act->World->Prop,Shut (∀ a w,S w->(S w->wpAnyH P md aa Q S fuel (l.setIfInBounds i true) a w)->K' a w)->if cW o (yielded aa a.tmps)=true then Oper.wp P o a w K' Q else K' (a.put o.dst undef) w)
  (hr:Region.ready md aa l=[i]:=by kernel_rfl):wpAnyH P md aa Q S (fuel+1) l a w:=wpAnyH_ready hr (by simp) (AllReadyH.cons (Aj hi) h AllReadyH.nil)
theorem rdC{P:Program}{aa:Array Oper}{Q:Exit->Act->World->Prop}{md:Region.Mode}{S:World->Prop}{i fuel:Nat}{l:Array Bool}{a:Act}{w}{o:Oper}{r rs}(hi:aa.toList.drop i=o :: r)
  (h:∀ K':Act->World->Prop,Shut (∀ a w,S w->(S w->wpAnyH P md aa Q S fuel (l.setIfInBounds i true) a w)->K' a w)->if cW o (yielded aa a.tmps)=true then Oper.wp P o a w K' Q else K' (a.put o.dst undef) w)
  (hs:AllReadyH P md aa Q S fuel l a w rs):AllReadyH P md aa Q S fuel l a w (i :: rs):=AllReadyH.cons (Aj hi) h hs
theorem rdS{P:Program}{aa:Array Oper}{Q:Exit->Act->World->Prop}{md:Region.Mode}{S:World->Prop}(i:Nat){fuel:Nat}{l:Array Bool}{a:Act}{w}{o:Oper}{r}(hi:aa.toList.drop i=o :: r){f:FuncId}{vs}{R:Ending->World->Prop}(hc:Calls P f vs w R)
  (h:∀ e w',R e w'->∃ v,e = dF v/\S w'/\(S w'->wpAnyH P md aa Q S fuel (l.setIfInBounds i true) (a.put o.dst v) w')) (he:(execOp a.eval o).run P w = .ok (.enter f vs) w:=by kernel_rfl) (hw:cW o (yielded aa a.tmps)=true:=by kernel_rfl) (hr:Region.ready md aa l=[i]:=by kernel_rfl):wpAnyH P md aa Q S (fuel+1) l a w:=
 rdY i hi (λ_ hK=>Zm hw f vs he hc (λe w' q=>by
  obtain⟨v,h1,h2,h3⟩:=h e w' q;exact⟨v,h1,hK.out _ _ h2 h3⟩)) hr
open Go.RowKit Go.Shelf
def Rs(K:List ByteArray)(C:List Zj)(h:Int):Int:=
 if Bk.bkChk K≠0 then Bk.bkChk K else if Z8 C≠0 then Z8 C else if (decide (1<=h) && decide (h<=1000))=false then 3 else 0
def Zly(w:World)(p:Nat)(K:List ByteArray)(C:List Zj)(h:Int):Prop:=
 ∃ ka kn kc la ln lc,w.heap[p]? = some (dE #[F ka kn kc,F la ln lc,E J h] 162 (0,0))/\Bk.TextsAt w ka kn K/\SlOk ka kn kc/\CoinsAt w la ln C/\SlOk la ln lc
def DoT(w':World)(B p:Nat)(K:List ByteArray)(C:List Zj)(h:Int):Prop:=
 ∃ ka kn kc la ln lc,w'.heap[p]? = some (dE [F ka kn kc,F la ln lc,E J h].toArray 162 (0,0))/\Fresh B w' (λw2=>Bk.TextsAt w2 ka kn K/\CoinsAt w2 la ln C)/\SlOk ka kn kc/\SlOk la ln lc
theorem DoT.till{w}{B p:Nat}{K C}{h:Int}(d:DoT w B p K C h):Zly w p K C h:=by
 obtain⟨ka,kn,kc,la,ln,lc,h1,h2,h3,h4⟩:=d;have h5:=h2 w (Gr.refl _ _);exact⟨ka,kn,kc,la,ln,lc,h1,h5.1,h3,h5.2,h4⟩
theorem DoT.on{w w':World}{B p:Nat}{K C}{h:Int}(d:DoT w B p K C h)(g:Gr w w' (λq=>q<B))(hp:w'.heap[p]? = w.heap[p]?):DoT w' B p K C h:=by
 obtain⟨ka,kn,kc,la,ln,lc,h1,h2,h3,h4⟩:=d;exact⟨ka,kn,kc,la,ln,lc,hp.trans h1,λw2 g2=>h2 w2 (g.trans g2),h3,h4⟩
theorem DoT.later{w w':World}{B p:Nat}{K C}{h:Int}(d:DoT w B p K C h)(hb:ZD w w'):DoT w' B p K C h:=by
 have hp:p<w.heap.size:=by obtain⟨ka,kn,kc,la,ln,lc,h1,_⟩:=d;exact aA h1
 exact d.on (Gr.of hb) (hb.block p hp)
theorem DoT.less{w}{B B' p:Nat}{K C}{h:Int}(d:DoT w B p K C h)(hB:B'<=B):DoT w B' p K C h:=by
 obtain⟨ka,kn,kc,la,ln,lc,h1,h2,h3,h4⟩:=d;exact⟨ka,kn,kc,la,ln,lc,h1,λw2 g2=>h2 w2 (g2.mono λ_ _ q=>aD q hB),h3,h4⟩
def OpR(w w':World)(x:Int)(K:List ByteArray)(C:List Zj)(h:Int)(e:Ending):Prop:=
 ((x≠0/\e = dF (dG #[dH none,E J x]))\/(x=0/\∃ p,e = dF (dG #[dH (some ⟨p,0,none⟩),E J 0])/\w.heap.size<=p/\p+1=w'.heap.size/\DoT w' w.heap.size p K C h))/\ZD w w'
theorem Zjl(ka kn kc K la ln lc C)(h x:Int)(w)(hK:Bk.TextsAt w ka kn K)(hC:CoinsAt w la ln C)(sC:SlOk la ln lc)(hx:Rs K C h=x) :
  Calls Tryz.prog 149 #[.agg #[F ka kn kc],F la ln lc,E J h] w λe w'=>OpR w w' x K C h e:=by
 obtain⟨X,hX,ay,br⟩:=ka00 w [F ka kn kc] 24;obtain⟨⟨M,Z,z⟩,hz⟩:=ZF (Bk.allR K []);have C1:=Zd (Bk.all_isF ka none kn kc 0 0 K [] M Z z X (hK.later ay) ⟨rfl,λh=>absurd h (by omega)⟩ (by omega) hz)
 have bx:z=Bk.bkChk K/\(z=0->M=K):=by
  unfold Bk.allR at hz;split at hz
  ·rename_i q;rw[Bk.nmGo] at hz;simp only[Prod.mk.injEq] at hz;exact⟨by rw[<-hz.2.2,q],λ_=>hz.1.symm⟩
  ·rename_i q;simp only[Prod.mk.injEq] at hz;exact⟨hz.2.2.symm,λe=>absurd (hz.2.2.trans e) q⟩
 unfold Rs at hx;rw[<-bx.1] at hx;obtain⟨y,hy⟩:=ZF (Z8 C);rw[hy] at hx;obtain⟨g,hg⟩:=ZF ((decide (1<=h) && decide (h<=1000)));rw[hg] at hx;obtain⟨HZ,HX,HG,HY,HC,da,bj,cf⟩:=kh8 bx.2 hx hg hy (hC.later ay) sC ay br;obtain⟨di,xl⟩:=kc1 br;have cg:=Zd xl;clear hK hC sC hx ay br hz bx hy hg;go_enter Tryz.func149,Tryz.ntmps149;go_wp2_with fail;rw[<-hX];clear hX;(try go_wp2_with fail);refine C1.mono ?_;rintro e w1 ⟨⟨a',n',c',a2,n2,c2,rfl,hT,sT,_,_,_⟩,ab⟩;have h10:=ZE ab cf;obtain⟨y0,yf,yl⟩:=kf1 h10;obtain⟨W1,am⟩:=ZG (w1.setCell ⟨w.heap.size,0,none⟩ (F a' n' c'));have g1:Gr w1 W1 (λq=>q=w.heap.size):=by rw[am];exact (Gr.refl w1 (λq=>q=w.heap.size)).set (p:=⟨w.heap.size,0,none⟩) (.inl rfl) _
 have bo:W1.heap[w.heap.size]? = some (dE #[F a' n' c'] 24 (0,0)):=by rw[am];exact Vk h10
 have cp:ZD w W1:=g1.below (Zf bj ab) (Zf bj ab).size (λq e=>by omega);have ce:Hid (CoinsAt W1 la ln C):=Zhf (S:=λq=>q=w.heap.size) g1.size g1.block (λk e=>by subst e;exact⟨_,_,_,h10⟩) (HC.later ab);have dc:Hid (Fresh w.heap.size W1 (λw2=>Bk.TextsAt w2 a' n' M)):=λw2 g2=>hT w2 ((g1.mono (λk _ e=>by rw[e];exact cg)).trans (g2.mono (λk _ e=>Nat.lt_trans e cg)));obtain⟨cc,cx,db⟩:=kh3 cp bo sT;have dm:=Zd (show w.heap.size<W1.heap.size from aA bo);have C2:=Zd (Ub la ln lc C y W1 ce HY);clear ab h10 hT sT g1 bo cp C1 di xl HC cf bj;by_cases bd:z=0
 ·subst bd;obtain rfl:=HZ rfl;go_wp2_with fail;rw[<-am];clear am y0 yf yl;(try go_wp2_with fail);refine C2.mono ?_;rintro e w2 ⟨rfl,bs⟩;obtain⟨bi,cb,C3⟩:=kh3 (Zf cc bs) bs (Yg h 1 1000 g w2 HG);clear bs C2;by_cases bb:y=0
  ·subst bb;go_wp2_with fail;refine C3.mono ?_;rintro e w3 ⟨rfl,bt⟩;obtain⟨au,bh⟩:=kh2 (Zf bi bt) (Zf cb bt);clear bt C3 cb bi;cases g
   ·have ak:Hid (x=3):=(by have:=Za HX;rw[if_neg (λq=>q rfl),if_neg (λq=>q rfl),if_pos rfl] at this;exact this.symm);clear HX;go_wp2;go_ret2;rw[Za ak];exact⟨.inl ⟨by decide,rfl⟩,Za au⟩
   ·have ak:Hid (x=0):=(by have:=Za HX;rw[if_neg (λq=>q rfl),if_neg (λq=>q rfl),if_neg (by decide)] at this;exact this.symm);have bq:=(Z7 C).1 HY;have ar:=Za ce;have dg:=ar.1;have dh:=bq.len;have CP:=Zd (λV (hv:ZD W1 V)=>Ja la ln lc C V (by omega) (ar.later hv) da (λz hz=>by have:=Sp (Yy (bq.one z hz)).2.2.2.2.2.2.2.2;omega));have h3:=ZE bh cx;have KS:Hid (∀ V:World,ZD w3 V->V.cell? ⟨w.heap.size,0,none⟩=some (F a' n' c')/\w.heap.size<V.heap.size):=λV hv=>⟨Ze hv (Zb (X:=[F a' n' c']) h3 0 _ rfl),aD (aA h3) hv.size⟩;clear HX bq ar dg dh h3;go_wp2_with fail;refine wp_region_held_drew (S:=λV=>V.cell? ⟨w.heap.size,0,none⟩=some (F a' n' c')/\w.heap.size<V.heap.size) (by kernel_rfl) (KS _ (Zi _)) (λac=>?_);refine tkL 0 rfl ac ?_;refine tkL 1 rfl ac ?_;refine tkL 3 rfl ac ?_;refine rdS 2 rfl (CP _ (Zf bh (Zi _))) ?_;rintro e V1 ⟨ca,dt,rfl,hF,cu,cn⟩;have ab:ZD w3 V1:=Zf (Zi w3) cn;have ar:CoinsAt V1 ca ln C:=hF _ (Gr.refl _ _);clear ac;refine⟨_,rfl,(KS _ ab),λac=>?_⟩;refine tkL 4 rfl ac ?_;refine rdY 5 rfl (λKQ hK=>?_);go_simp;obtain⟨V2,ap⟩:=ZG (V1.alloc (dE #[F a' n' c',F ca ln dt,E J h] 162));have aq:ZD V1 V2:=(by rw[ap];exact Zh _ _);have h2:V2.heap[V1.heap.size]? = some (dE #[F a' n' c',F ca ln dt,E J h] 162 (0,0)):=(by rw[ap];exact aG _ _);have cq:V2.heap.size=V1.heap.size+1:=(by rw[ap];simp);rw[<-ap];clear ac;refine hK.out _ _ (KS _ (Zf ab aq)) (λac=>?_)
    clear hK KQ;refine tkL 6 rfl ac ?_;refine tkL 7 rfl ac ?_;refine wpAnyH_done (by kernel_rfl) ?_ _;clear ac;have HF:Hid (OpR w V2 0 M C h (dF (dG #[dH (some ⟨V1.heap.size,0,none⟩),E J 0]))):=⟨.inr ⟨rfl,V1.heap.size,rfl,aN au.size ab.size,cq.symm,a',n',c',ca,ln,dt,h2,λw2 g2=>⟨dc w2 ((Gr.of (Zf bh (Zf ab aq))).trans g2),hF w2 ((Gr.of aq).trans (g2.mono (λk _ e=>aD e au.size)))⟩,Za db,cu⟩,Zf au (Zf ab aq)⟩;clear aq h2 cq ap ab ar hF cu cn KS CP;go_wp2;go_ret2;rw[Za ak];exact Za HF
  ·have ak:Hid (x=y):=(by have:=Za HX;rw[if_neg (λq=>q rfl),if_pos bb] at this;exact this.symm);have gy:(y != 0)=true:=(by simp[bb]);clear HX C3;go_wp2;go_ret2;rw[Za ak];exact⟨.inl ⟨bb,rfl⟩,Za bi⟩
 ·have ak:Hid (x=z):=by have:=Za HX;rw[if_pos bd] at this;exact this.symm
  have gz:(z != 0)=true:=by simp[bd]
  clear HX C2;have dd:=Zd am;clear am;go_wp2;rw[<-Za dd];go_ret2;rw[Za ak];exact⟨.inl ⟨bd,rfl⟩,Za cc⟩
