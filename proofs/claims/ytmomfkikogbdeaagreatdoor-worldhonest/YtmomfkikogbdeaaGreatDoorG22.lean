import Derived.Test.YtmomfkikogbdeaaGreatDoorH
import Derived.Test.YtmomfkikogbdeaaGreatDoorG21
import Derived.Lib.OwnKind
import Derived.LoopIn
import Derived.LoopNIn
import Derived.OwnWalkIn
import Derived.RangeFuncBound
import Derived.RangeFuncNested
import Derived.Shelf.RegionOpen
open Decidable renaming not_not->aK
open Go renaming heap_alloc_new->aH,lt_of_block->aA,bodyPost_ret->aW
open Go.Ending renaming returned->dA
open Go.IntKind renaming i64->J
open Go.Obj renaming cells->cZ
open Go.Region renaming wanted->cM
open Go.Value renaming int->E,slice->F,tuple->dB,pointer->dC
open Go.World renaming cell?_of_block->bU,block_lt_of_cell?->aE,cell?->bF
open List renaming map_cons->bO,flatten_cons->bJ,append_assoc->bZ,length_cons->cL
open Nat renaming lt_of_lt_of_le->aD,le_refl->aF,zero_le->aL,le_trans->aT
set_option maxHeartbeats 3200000
set_option maxRecDepth 10000
namespace Go.Proofs.YtmomfkikogbdeaaGreatDoor
open Go.RowKit
theorem Qj{L M S}{t:TxD}{name h:Int}(e:apD L t name h=(0,M,S)):Zp M=Zp L - Zp S+Y6 t.2.2/\0<=Zp S:=by
 obtain⟨h1,M2,h2,h3,h4,h5⟩:=Rh e;obtain⟨z,hT,_,_,_⟩:=Wk h1;obtain⟨s1,T,Q,s3,s4,s5,s6,s7,s8⟩:=Qc h _ _ _ _ _ z.srt h2;rw[List.nil_append] at Q;subst Q;have hg:=Tz name h _ _ _ _ _ s1 h4;refine⟨by omega,Ww S λc hc=>?_⟩;have:=Yu (z.one c ((s5 c).2 (.inr hc)));omega
theorem Mm{L M S t}{name h:Int}(e:apD L t name h=(0,M,S)):Ys L/\Ys M/\Zu t=0:=by
 obtain⟨h1,Q,h2,h3,h4,h5⟩:=Rh e;obtain⟨z,hT,_,_,_⟩:=Wk h1;exact⟨z,(Z6 M).1 h5,hT⟩
def L6(T:List TxD)(N:List Int)(S:List (List Zj)):Nat->List Zj->Int×List Zj
 | 0,C=>(0,C)
 | q+1,C=>
  if (rvD C (T.getD ((q+1) % T.length) Yz) (N.getD ((q+1) % T.length) 0) (S.getD ((q+1) % T.length) [])).1≠0 then ((rvD C (T.getD ((q+1) % T.length) Yz) (N.getD ((q+1) % T.length) 0) (S.getD ((q+1) % T.length) [])).1,[])
  else L6 T N S q (rvD C (T.getD ((q+1) % T.length) Yz) (N.getD ((q+1) % T.length) 0) (S.getD ((q+1) % T.length) [])).2
theorem Zlu{T:List TxD}{N:List Int}{S:List (List Zj)}{q i:Nat}{C}(hi:(q+1) % T.length=i){t}(ht:T.getD i Yz=t){nm:Int}(Q:N.getD i 0=nm){s}(hs:S.getD i []=s){y:Int}{M}(z:rvD C t nm s=(y,M)) :
  L6 T N S (q+1) C=if y≠0 then (y,[]) else L6 T N S q M:=by
 rw[L6,hi,ht,Q,hs,z]
theorem Znf{m j k:Nat}(z:j<k)(Q:k<m):(j+1) % m≠(k+1) % m:=by
 rw[Nat.mod_eq_of_lt (show j+1<m by omega)];by_cases e:k+1=m
 ·rw[e,Nat.mod_self];omega
 ·rw[Nat.mod_eq_of_lt (show k+1<m by omega)];omega
theorem Mu{α : Type}(l:List α)(i:Nat)(x d : α)(h:i<l.length):(l.set i x).getD i d=x:=by simp[List.getD,h]
theorem Cq{α : Type}(l:List α){i j:Nat}(x d : α)(h:i≠j):(l.set i x).getD j d=l.getD j d:=by simp[List.getD,List.getElem?_set_ne h]
theorem Yv{h r:Int}{T:List TxD}{N:List Int}{q k:Nat}{C M}{S S':List (List Zj)}(e:Xo h r T N (q+1) k C S=(0,M,S')) :
  ¬((k+1) % T.length=0/\Wl r T S T.length<0)/\∃ C1 s,apD C (T.getD ((k+1) % T.length) Yz) (N.getD ((k+1) % T.length) 0) h=(0,C1,s)/\Xo h r T N q (k+1) C1 (S.set ((k+1) % T.length) s)=(0,M,S'):=by
 obtain⟨⟨y,C1,s⟩,ha⟩:=ZF (apD C (T.getD ((k+1) % T.length) Yz) (N.getD ((k+1) % T.length) 0) h);rw[Eg rfl rfl rfl ha] at e;split at e
 ·injection e with Q _;exact absurd Q (by decide)
 ·rename_i hc;split at e
  ·rename_i z;injection e with Q _;exact absurd Q z
  ·rename_i z;have z:y=0:=aK.1 z;subst z;exact⟨hc,C1,s,ha,e⟩
theorem Ef{h r:Int}{T:List TxD}{N}:∀ (q k:Nat) (C M:List Zj) (S z:List (List Zj)),Xo h r T N q k C S=(0,M,z)->q+k=T.length->S.length=T.length ->
  z.length=T.length/\(∀ j,j<k->z.getD ((j+1) % T.length) []=S.getD ((j+1) % T.length) [])/\L6 T N z T.length M=L6 T N z k C
 | 0,k,C,M,S,z,e,hk,hS=>by
  rw[Xo] at e;injection e with _ e;injection e with e1 e2;subst e1 e2;have:k=T.length:=by omega
  subst this;exact⟨hS,λ_ _=>rfl,rfl⟩
 | q+1,k,C,M,S,z,e,hk,hS=>by
  obtain⟨_,C1,s,ha,e⟩:=Yv e;obtain⟨i1,Q,i3⟩:=Ef q (k+1) C1 M _ z e (by omega) (by simpa using hS);have hm:(k+1) % T.length<S.length:=by rw[hS];exact Nat.mod_lt _ (by omega)
  refine⟨i1,λj hj=>?_,?_⟩
  ·rw[Q j (by omega)];exact Cq S s [] (λe=>Znf hj (show k<T.length by omega) e.symm)
  ·rw[i3]
   have hs:z.getD ((k+1) % T.length) []=s:=by
    rw[Q k (Nat.lt_succ_self k)];exact Mu S _ s [] hm
   rw[Zlu rfl rfl rfl hs (Zpm ha),if_neg (by decide)]
theorem Dh{h r:Int}{T N}:∀ (q k:Nat) (C M:List Zj) (S z:List (List Zj)),Xo h r T N q k C S=(0,M,z)->Ys C->Ys M
 | 0,k,C,M,S,z,e,hC=>by
  rw[Xo] at e;injection e with _ e;injection e with Q e2;subst Q;exact hC
 | q+1,k,C,M,S,z,e,hC=>by
  obtain⟨_,C1,s,ha,e⟩:=Yv e;exact Dh q (k+1) C1 M _ z e (Mm ha).2.1
theorem Zpe{h r:Int}{T:List TxD}{N C M S'}(h0:0<T.length)(h4:T.length<=4)(e:Xo h r T N T.length 0 C (List.replicate T.length [])=(0,M,S')):Zp M<=Zp C+r:=by
 match T,h0,h4,e with
 | [t0],_,_,e=>
  obtain⟨c0,C1,s0,z,e⟩:=Yv (q:=0) e;rw[Xo] at e;injection e with _ e;injection e with e _;subst e;have i0:(0+1) % [t0].length=0:=by simp
  rw[i0] at z;have z:apD C t0 (N.getD 0 0) h=(0,C1,s0):=z;obtain⟨b0,d0⟩:=Qj z;have c0:¬(Wl r [t0] [[]] 1<0):=λq=>c0 ⟨i0,q⟩;simp only[Wl,List.take_succ_cons,List.take_zero,bO,List.map_nil,bJ,List.flatten_nil,List.append_nil,Kd] at c0;omega
 | [t0,t1],_,_,e=>
  obtain⟨_,C1,s1,Q,e⟩:=Yv (q:=1) e;obtain⟨c0,C2,s0,z,e⟩:=Yv (q:=0) e;rw[Xo] at e;injection e with _ e;injection e with e _;subst e;have Q:apD C t1 (N.getD 1 0) h=(0,C1,s1):=Q;have i0:(0+1+1) % [t0,t1].length=0:=by simp
  rw[i0] at z;have z:apD C1 t0 (N.getD 0 0) h=(0,C2,s0):=z;obtain⟨b1,d1⟩:=Qj Q;obtain⟨b0,d0⟩:=Qj z;have c0:¬(Wl r [t0,t1] [[],s1] 2<0):=λq=>c0 ⟨i0,q⟩;simp only[Wl,List.take_succ_cons,List.take_zero,bO,List.map_nil,bJ,List.flatten_nil,List.append_nil,List.nil_append,Qb] at c0;omega
 | [t0,t1,t2],_,_,e=>
  obtain⟨_,C1,s1,Q,e⟩:=Yv (q:=2) e;obtain⟨_,C2,s2,a2,e⟩:=Yv (q:=1) e;obtain⟨c0,C3,s0,z,e⟩:=Yv (q:=0) e;rw[Xo] at e;injection e with _ e;injection e with e _;subst e;have Q:apD C t1 (N.getD 1 0) h=(0,C1,s1):=Q;have a2:apD C1 t2 (N.getD 2 0) h=(0,C2,s2):=a2;have i0:(0+1+1+1) % [t0,t1,t2].length=0:=by simp
  rw[i0] at z;have z:apD C2 t0 (N.getD 0 0) h=(0,C3,s0):=z;obtain⟨b1,d1⟩:=Qj Q;obtain⟨b2,d2⟩:=Qj a2;obtain⟨b0,d0⟩:=Qj z;have c0:¬(Wl r [t0,t1,t2] [[],s1,s2] 3<0):=λq=>c0 ⟨i0,q⟩;simp only[Wl,List.take_succ_cons,List.take_zero,bO,List.map_nil,bJ,List.flatten_nil,List.append_nil,List.nil_append,Qb,Xz] at c0;omega
 | [t0,t1,t2,t3],_,_,e=>
  obtain⟨_,C1,s1,Q,e⟩:=Yv (q:=3) e;obtain⟨_,C2,s2,a2,e⟩:=Yv (q:=2) e;obtain⟨_,C3,s3,a3,e⟩:=Yv (q:=1) e;obtain⟨c0,C4,s0,z,e⟩:=Yv (q:=0) e;rw[Xo] at e;injection e with _ e;injection e with e _;subst e;have Q:apD C t1 (N.getD 1 0) h=(0,C1,s1):=Q;have a2:apD C1 t2 (N.getD 2 0) h=(0,C2,s2):=a2;have a3:apD C2 t3 (N.getD 3 0) h=(0,C3,s3):=a3;have i0:(0+1+1+1+1) % [t0,t1,t2,t3].length=0:=by simp
  rw[i0] at z;have z:apD C3 t0 (N.getD 0 0) h=(0,C4,s0):=z;obtain⟨b1,d1⟩:=Qj Q;obtain⟨b2,d2⟩:=Qj a2;obtain⟨b3,d3⟩:=Qj a3;obtain⟨b0,d0⟩:=Qj z;have c0:¬(Wl r [t0,t1,t2,t3] [[],s1,s2,s3] 4<0):=λq=>c0 ⟨i0,q⟩;simp only[Wl,List.take_succ_cons,List.take_zero,bO,List.map_nil,bJ,List.flatten_nil,List.append_nil,List.nil_append,Qb,Xz] at c0;omega
def disD(K:List ByteArray)(C:List Zj)(b:Zl)(S:List (List Zj)):Int×List Zj:=
 if (nfD K C b).2≠0 then ((nfD K C b).2,[]) else if S.length≠b.2.2.2.2.length then (4,[]) else L6 b.2.2.2.2 (nfD K C b).1 S b.2.2.2.2.length C
theorem Qw{b:Zl}(h:Yk b=0):0<b.2.2.2.2.length/\b.2.2.2.2.length<=4/\1<=b.2.1/\b.2.1<=1000:=by
 unfold Yk at h;split at h
 ·cases h
 rename_i h1;split at h
 ·cases h
 split at h
 ·cases h
 unfold W9 at h1;simp only[Bool.not_eq_false,Bool.and_eq_true,decide_eq_true_eq] at h1;omega
theorem Bw{K C}{b:Zl}(h:(nfD K C b).2=0):Ys C/\Yk b=0/\∃ X n N,Xl K b=(X,n,N,0)/\(nfD K C b).1=N:=by
 unfold nfD at h ⊢;split at h
 ·rename_i q;exact absurd h q
 rename_i q;obtain⟨⟨X,n,N,x⟩,hx⟩:=ZF (Xl K b);rw[hx] at h;have h:x=0:=h;subst h;rw[if_neg q,hx];exact⟨(Z6 C).1 (aK.1 q),(Zkl hx).1,X,n,N,rfl,rfl⟩
theorem Zrh{K C}{b:Zl}{X}{n:Int}{N}(z:Ys C)(h:Xl K b=(X,n,N,0)):nfD K C b=(N,0):=by
 unfold nfD;rw[(Z6 C).2 z,if_neg (by decide),h]
theorem Zpf{K C M}{b:Zl}{S:List (List Zj)}(e:Vd K C b=(0,M,S)) :
  Ys C/\Ys M/\Yk b=0/\S.length=b.2.2.2.2.length/\disD K M b S=(0,C)/\Zp M<=Zp C+(rwD b.2.1).1/\(rwD b.2.1).2=0:=by
 unfold Vd at e;split at e
 ·rename_i q;injection e with e _;exact absurd e q
 rename_i q;obtain⟨z,hb,X,n,N,hN,ac⟩:=Bw (aK.1 q);rw[ac] at e;obtain⟨h0,h4,h1,h2⟩:=Qw hb;have Q:=Dh _ _ _ _ _ _ e z;obtain⟨b1,b2,b3⟩:=Ef _ _ _ _ _ _ e (by omega) (by simp);refine⟨z,Q,hb,b1,?_,Zpe h0 h4 e,?_⟩
 ·unfold disD;rw[Zrh Q hN,if_neg (λq=>q rfl),if_neg (λq=>q b1)];exact b3
 ·unfold rwD;rw[if_pos (by simp only[Bool.and_eq_true,decide_eq_true_eq];omega)]
open Bk (Right nm nameR)
def doD(h:Int)(s:List ByteArray×List Zj)(t:TxD):Int×List ByteArray×List Zj:=
 if Zu t≠0 then (Zu t,s) else if t.2.1.length=0 then (4,s) else
 if (nameR s.1 (txT t)).2.2≠0 then ((nameR s.1 (txT t)).2.2,s) else
 if (apD s.2 t (nameR s.1 (txT t)).2.1 h).1≠0 then ((apD s.2 t (nameR s.1 (txT t)).2.1 h).1,s) else
 (0,(nameR s.1 (txT t)).1,(apD s.2 t (nameR s.1 (txT t)).2.1 h).2.1)
def Zv(h:Int):List TxD->List ByteArray×List Zj->List TxD×List ByteArray×List Zj
 | [],s=>([],s)
 | t :: l,s=>if (doD h s t).1=0 then (t :: (Zv h l (doD h s t).2).1,(Zv h l (doD h s t).2).2) else Zv h l s
theorem Zbf{K}{s:ByteArray}(hK:Right K)(h0:(nameR K s).2.2=0):Right (nameR K s).1/\(∃ M,(nameR K s).1=K++M)/\∀ M,Right ((nameR K s).1++M)->nameR ((nameR K s).1++M) s=((nameR K s).1++M,(nameR K s).2.1,0):=by
 have e:nameR K s=nm K s:=by unfold nameR;rw[if_pos ((Bk.right_iff K).2 hK)]
 rw[e] at h0 ⊢;refine⟨Bk.nm_right hK h0,Bk.nm_grows h0,λM Q=>?_⟩;obtain⟨h1,h2,h3⟩:=Bk.nm_place h0;have z:nameR ((nm K s).1++M) s=nm ((nm K s).1++M) s:=by unfold nameR;rw[if_pos ((Bk.right_iff _).2 Q)]
 have h4:=Bk.place_stays M h2;rw[z,Bk.nm_there h3 (by rw[h4];exact h2),h4,h1]
theorem S9{h:Int}{K C t}(hK:Right K)(h0:(doD h (K,C) t).1=0) :
  Right (doD h (K,C) t).2.1/\(∃ M,(doD h (K,C) t).2.1=K++M)/\∀ M,Right ((doD h (K,C) t).2.1++M)->doD h ((doD h (K,C) t).2.1++M,C) t=(0,(doD h (K,C) t).2.1++M,(doD h (K,C) t).2.2):=by
 by_cases z:Zu t≠0
 ·unfold doD at h0;rw[if_pos z] at h0;exact absurd h0 z
 by_cases Q:t.2.1.length=0
 ·unfold doD at h0;rw[if_neg z,if_pos Q] at h0;exact absurd (show (4:Int)=0 from h0) (by decide)
 by_cases q3:(nameR K (txT t)).2.2≠0
 ·unfold doD at h0;rw[if_neg z,if_neg Q,if_pos q3] at h0;exact absurd h0 q3
 by_cases q4:(apD C t (nameR K (txT t)).2.1 h).1≠0
 ·unfold doD at h0;rw[if_neg z,if_neg Q,if_neg q3,if_pos q4] at h0;exact absurd h0 q4
 have e:doD h (K,C) t=(0,(nameR K (txT t)).1,(apD C t (nameR K (txT t)).2.1 h).2.1):=by
  unfold doD;rw[if_neg z,if_neg Q,if_neg q3,if_neg q4]
 obtain⟨n1,n2,n3⟩:=Zbf hK (aK.1 q3);rw[e];refine⟨n1,n2,λM hM=>?_⟩;have e2:=n3 M hM;unfold doD;rw[if_neg z,if_neg Q];simp only;rw[e2];simp only;rw[if_neg (λr=>r rfl),if_neg q4]
theorem W4{h:Int}:∀ (l:List TxD) (K:List ByteArray) (C:List Zj),Right K->Right (Zv h l (K,C)).2.1/\∃ M,(Zv h l (K,C)).2.1=K++M
 | [],K,C,hK=>⟨hK,[],by simp[Zv]⟩
 | t :: l,K,C,hK=>by
  rw[Zv];by_cases q:(doD h (K,C) t).1=0
  ·rw[if_pos q];obtain⟨Q,⟨M,d2⟩,_⟩:=S9 hK q;obtain⟨s1,z,s2⟩:=W4 l (doD h (K,C) t).2.1 (doD h (K,C) t).2.2 Q;exact⟨s1,M++z,by rw[s2,d2,bZ]⟩
  ·rw[if_neg q];exact W4 l K C hK
theorem Jy{h:Int}:∀ (l:List TxD) (K:List ByteArray) (C:List Zj) (M:List ByteArray),Right K->Right ((Zv h l (K,C)).2.1++M) ->
  Zv h (Zv h l (K,C)).1 ((Zv h l (K,C)).2.1++M,C)=((Zv h l (K,C)).1,(Zv h l (K,C)).2.1++M,(Zv h l (K,C)).2.2)
 | [],K,C,M,_,_=>rfl
 | t :: l,K,C,M,hK,hM=>by
  by_cases q:(doD h (K,C) t).1=0
  ·have e:Zv h (t :: l) (K,C)=(t :: (Zv h l (doD h (K,C) t).2).1,(Zv h l (doD h (K,C) t).2).2):=(by rw[Zv,if_pos q]);rw[e] at hM ⊢;obtain⟨Q,_,d3⟩:=S9 hK q;obtain⟨z,s2⟩:=(W4 (h:=h) l (doD h (K,C) t).2.1 (doD h (K,C) t).2.2 Q).2;have ab:(Zv h l (doD h (K,C) t).2).2.1=(doD h (K,C) t).2.1++z:=s2;have hd:=d3 (z++M) (by rw[<-bZ,<-ab];exact hM);rw[<-bZ,<-ab] at hd;have ih:=Jy l (doD h (K,C) t).2.1 (doD h (K,C) t).2.2 M Q hM;show Zv h (t :: (Zv h l (doD h (K,C) t).2).1) ((Zv h l (doD h (K,C) t).2).2.1++M,C)=_;rw[Zv,hd,if_pos (show (0:Int)=0 from rfl)];exact congrArg (λr:List TxD×List ByteArray×List Zj=>(t :: r.1,r.2)) ih
  ·have e:Zv h (t :: l) (K,C)=Zv h l (K,C):=(by rw[Zv,if_neg q]);rw[e] at hM ⊢;exact Jy l K C M hK hM
theorem Zdj{h:Int}{t}:∀ (l:List TxD) (s z Q:List ByteArray×List Zj),Zv h l s=(l,z)->doD h z t=(0,Q)->Zv h (l++[t]) s=(l++[t],Q)
 | [],s,z,Q,hl,hd=>by
  rw[Zv] at hl;obtain⟨_,rfl⟩:=Prod.mk.inj hl;rw[List.nil_append,Zv,hd];rfl
 | x :: l,s,z,Q,hl,hd=>by
  rw[Zv] at hl;by_cases q:(doD h s x).1=0
  ·rw[if_pos q] at hl;obtain⟨h1,h2⟩:=Prod.mk.inj hl;have h3:=(List.cons.inj h1).2;have ih:=Zdj l (doD h s x).2 z Q (Prod.ext h3 h2) hd;rw[List.cons_append,Zv,if_pos q,ih]
  ·rw[if_neg q] at hl;exact absurd (congrArg (λr=>r.1.length) hl) (by have:=sw_few (h:=h) l s;simp only[cL];omega)
 where
 sw_few {h:Int}:∀ (l:List TxD) (s:List ByteArray×List Zj),(Zv h l s).1.length<=l.length
 | [],s=>by simp[Zv]
 | t :: l,s=>by
  rw[Zv];split
  ·simp only[cL];have:=sw_few (h:=h) l (doD h s t).2;omega
  ·have:=sw_few (h:=h) l s;simp only[cL];omega
theorem Zpp{h:Int}{l K z C C2 t}(hK:Right K)(hd:doD h (Zv h l (K,C)).2 t=(0,z,C2)) :
  Zv h ((Zv h l (K,C)).1++[t]) (z,C)=((Zv h l (K,C)).1++[t],z,C2):=by
 obtain⟨s1,_⟩:=W4 (h:=h) l K C hK;have ad:doD h ((Zv h l (K,C)).2.1,(Zv h l (K,C)).2.2) t=(0,z,C2):=hd;obtain⟨Q,⟨M,d2⟩,d3⟩:=S9 s1 (by rw[ad]);rw[ad] at Q d2 d3;simp only at Q d2 d3;have hw:=Jy (h:=h) l K C M hK (by rw[<-d2];exact Q);rw[<-d2] at hw;have h3:=d3 [] (by rw[List.append_nil];exact Q);rw[List.append_nil] at h3;exact Zdj _ _ _ _ hw h3
theorem Gr.cell{w w':World}{S:Nat->Prop}(h:Gr w w' S){p:Addr}{v}(z:w.cell? p=some v)(Q:¬S p.block):w'.cell? p=some v:=
 (bU (h.block p.block (aE _ _ z) Q)).trans z
theorem Fresh.now{B:Nat}{w}{Q:World->Prop}(h:Fresh B w Q):Q w:=h w (Gr.refl _ _)
theorem Fresh.on{B:Nat}{w w'}{Q:World->Prop}(h:Fresh B w Q)(g:Gr w w' (λk=>k<B)):Fresh B w' Q:=λw2 g2=>h w2 (g.trans g2)
theorem Fresh.later{B:Nat}{w w':World}{Q:World->Prop}(h:Fresh B w Q)(g:ZD w w'):Fresh B w' Q:=h.on (Gr.of g)
theorem Fresh.less{B z:Nat}{w}{Q:World->Prop}(h:Fresh z w Q)(hb:B<=z):Fresh B w Q:=λw2 g2=>h w2 (g2.mono λ_ _ hk=>aD hk hb)
theorem Fresh.imp{B:Nat}{w}{Q R:World->Prop}(h:Fresh B w Q)(f:∀ w2,Q w2->R w2):Fresh B w R:=λw2 g2=>f w2 (h w2 g2)
namespace Tr
open Go.RowKit
theorem Y2(w:World)(a b)(t:TypeId):(w.alloc (cZ #[a,b] t)).heap[w.heap.size]? = some (cZ [a,b].toArray t (0,0)):=aH w _
theorem Z7{w:World}{base:Nat}{e:TypeId}{size:Nat}{v}{n:Nat}{xs}(h:w.ownsRow base e size v n xs):∃ a c,v = F a n c/\SlOk a n c/\∀ z,a=some z->base<=z.block/\z.block<w.heap.size:=by
 rcases h.2 with ⟨rfl,rfl⟩|⟨g,cap,ab,rfl,Q,hh,h1,h2,_⟩
 ·exact⟨none,0,rfl,⟨aF _,aL _,λ_=>⟨rfl,rfl⟩⟩,λz e=>by cases e⟩
 ·exact⟨_,cap,rfl,⟨h1,h2,λe=>by cases e⟩,λz e=>by cases e;exact⟨Q,aA hh⟩⟩
def CellsAt(w:World)(b o:Nat)(cs:List Value):Prop:=∀ j u,cs[j]? = some u->w.cell? ⟨b,o+j,none⟩=some u
structure Rec(α : Type) where
 sz:Nat
 C:World->List Value -> α->Prop
 R:World->Nat->Nat -> α->Prop
 wide:∀ w cs x,C w cs x->cs.length=sz
 one:∀ w cs x,C w cs x->∀ v∈cs,v.oneCell'=true
 kept:∀ w w' cs x,ZD w w'->C w cs x->C w' cs x
 rc:∀ w b o x,R w b o x->∃ cs,CellsAt w b o cs/\C w cs x
 cr:∀ w b o cs x,CellsAt w b o cs->C w cs x->R w b o x
def AllC{α : Type}(Z:Rec α)(w:World)(K:List (List Value))(L:List α):Prop:=K.length=L.length/\∀ i (h:i<L.length) (h':i<K.length),Z.C w K[i] L[i]
theorem Wd{α : Type}{Z:Rec α}{w}:∀ {K:List (List Value)} {L:List α},AllC Z w K L->K.flatten.length=L.length*Z.sz
 | [],[],_=>by simp
 | [],_ :: _,h=>by cases h.1
 | _ :: _,[],h=>by cases h.1
 | k :: K,x :: L,h=>by
  have h1:AllC Z w K L:=⟨by simpa using h.1,λi h1 h2=>h.2 (i+1) (by simpa using h1) (by simpa using h2)⟩;have h2:=Z.wide _ _ _ (h.2 0 (by simp) (by simp));simp only[List.getElem_cons_zero] at h2;rw[bJ,List.length_append,Wd h1,h2,cL,Nat.succ_mul];omega
theorem flat_one{α : Type}{Z:Rec α}{w}{K:List (List Value)}{L:List α}(h:AllC Z w K L):∀ u∈K.flatten,u.oneCell'=true:=by
 intro u z;obtain⟨k,Q,z⟩:=List.mem_flatten.1 z;obtain⟨i,hi,rfl⟩:=List.getElem_of_mem Q;exact Z.one _ _ _ (h.2 i (by rw[<-h.1];exact hi) hi) u z
theorem AllC.later{α : Type}{Z:Rec α}{w w':World}{K}{L:List α}(h:AllC Z w K L)(z:ZD w w'):AllC Z w' K L:=
 ⟨h.1,λi h1 h2=>Z.kept _ _ _ _ z (h.2 i h1 h2)⟩
theorem AllC.snoc{α : Type}{Z:Rec α}{w K}{L:List α}(h:AllC Z w K L){k}{x : α}(hx:Z.C w k x):AllC Z w (K++[k]) (L++[x]):=by
 refine⟨by simp[h.1],λi h1 h2=>?_⟩
 rcases Nat.lt_or_ge i L.length with q|q
 ·rw[List.getElem_append_left (h:=by rw[h.1];exact q),List.getElem_append_left (h:=q)];exact h.2 i q (by rw[h.1];exact q)
 ·have e:i=L.length:=by simp at h1;omega
  subst e;rw[List.getElem_append_right (by rw[h.1];exact aF _),List.getElem_append_right (aF _)];simpa[h.1] using hx
theorem Rs{α : Type}{Z:Rec α}{w}:∀ {K:List (List Value)} {L:List α} (_:AllC Z w K L) (i:Nat) (h':i<K.length) (j:Nat) (_:j<Z.sz),K.flatten[i*Z.sz+j]? = (K[i])[j]?
 | [],_,_,_,h',_,_=>absurd h' (by simp)
 | _ :: _,[],h,_,_,_,_=>by cases h.1
 | k :: K,x :: L,h,0,_,j,hj=>by
  have h2:=Z.wide _ _ _ (h.2 0 (by simp) (by simp));simp only[List.getElem_cons_zero] at h2;rw[bJ,List.getElem?_append_left (by omega)];simp
 | k :: K,x :: L,h,i+1,h',j,hj=>by
  have h1:AllC Z w K L:=⟨by simpa using h.1,λi h1 h2=>h.2 (i+1) (by simpa using h1) (by simpa using h2)⟩;have h2:=Z.wide _ _ _ (h.2 0 (by simp) (by simp));simp only[List.getElem_cons_zero] at h2;rw[bJ,List.getElem?_append_right (by rw[h2,Nat.succ_mul];omega),h2];rw[show (i+1)*Z.sz+j - Z.sz=i*Z.sz+j by rw[Nat.succ_mul];omega];rw[Rs h1 i (by simpa using h') j hj];simp
theorem V6{α : Type}(Z:Rec α){w}{b off:Nat}{L:List α}(h:∀ i (h:i<L.length),Z.R w b (off+i*Z.sz) L[i]):∃ K,AllC Z w K L/\CellsAt w b off K.flatten:=by
 have h2:∀ k,k<=L.length->∃ K,AllC Z w K (L.take k)/\CellsAt w b off K.flatten:=by
  intro k
  induction k with
  | zero=>intro _;exact⟨[],⟨by simp,λi h1 h2=>absurd h2 (by simp)⟩,λj u z=>by simp at z⟩
  | succ k ih=>
   intro hk;obtain⟨K,h1,h3⟩:=ih (by omega);obtain⟨cs,h4,h5⟩:=Z.rc _ _ _ _ (h k (by omega));refine⟨K++[cs],by rw[List.take_succ_eq_append_getElem (by omega)];exact h1.snoc h5,λj u z=>?_⟩;have Q:=Wd h1;rw[List.length_take,Nat.min_eq_left (by omega)] at Q;rw[List.flatten_append] at z
   rcases Nat.lt_or_ge j K.flatten.length with q|q
   ·rw[List.getElem?_append_left q] at z;exact h3 j u z
   ·rw[List.getElem?_append_right q] at z;have:=h4 (j - K.flatten.length) u (by simpa using z);rw[show off+k*Z.sz+(j - K.flatten.length)=off+j by omega] at this;exact this
 obtain⟨K,h1,h3⟩:=h2 L.length (aF _);rw[List.take_length] at h1;exact⟨K,h1,h3⟩
theorem rows_of_own{α : Type}(Z:Rec α){w:World}{base n:Nat}{e:TypeId}{v}{K:List (List Value)}{L:List α}(h:w.ownsRow base e Z.sz v n K.flatten)(z:AllC Z w K L)(hn:L.length=n):∃ a c,v = F a n c/\RowsAt Z.R Z.sz w a n L/\SlOk a n c:=by
 rcases h.2 with ⟨rfl,rfl⟩|⟨g,cap,af,rfl,hg,hh,h1,h2,h3,h4⟩
 ·exact⟨none,0,rfl,⟨hn,λh=>absurd h (by omega)⟩,aF _,aL _,λ_=>⟨rfl,rfl⟩⟩
 ·refine⟨_,cap,rfl,⟨hn,λ_=>⟨g,0,rfl,aA hh,λi hi=>?_⟩⟩,h1,h2,λe=>by cases e⟩;have Q:i<K.length:=by rw[z.1];exact hi
  refine Z.cr _ _ _ (K[i]) _ (λj u hj=>?_) (z.2 i hi Q);have hw:=Z.wide _ _ _ (z.2 i hi Q);have ad:j<Z.sz:=by rw[<-hw];exact (List.getElem?_eq_some_iff.1 hj).1
  rw[Nat.zero_add,World.ownsRow.cellAt h _ (by
   have:(i+1)*Z.sz<=n*Z.sz:=Nat.mul_le_mul_right _ (by omega);rw[Nat.succ_mul] at this;omega),Rs z i Q j ad]
  exact hj
end Tr
open Go.RowKit
theorem Gr.row{w z:World}{S:Nat->Prop}(h:Gr w z S){g:Nat}(hg:S g\/w.heap.size<=g)(cs):Gr w (z.setRow g cs) S:=
 ⟨h.os,h.tape,h.output,by rw[setRow_size];exact h.size,λi hi Q=>(setRow_other z g i cs (λe=>by
  subst e
  rcases hg with q|q
  ·exact Q q
  ·omega)).trans (h.block i hi Q)⟩
section
variable {P : Program}
end
theorem tk{P:Program}{z}{al:Exit->Act->World->Prop}{md:Region.Mode}{S:World->Prop}(i:Nat)(Q:Oper)(v){fuel:Nat}{ab:Array Bool}{a:Act}{w}(hi:z[i]? = some Q)
  (hy:∀ w,S w->(execOp a.eval Q).run P w = .ok (.value v) w) (hS:S w) (h:wpAnyH P md z al S fuel (ab.setIfInBounds i true) (a.put Q.dst v) w)
  (hQ:∀ c a w,al (.panic c) (a.put Q.dst v) w->al (.panic c) a w:=by exact λ_ _ _ h=>h) (hw:cM Q (yielded z a.tmps)=true:=by rfl)
  (hs:Region.noSelect z=true:=by kernel_rfl) (hf:Region.free md z ab i=true:=by kernel_rfl) (hr:(Region.ready md z ab).contains i=true:=by kernel_rfl) :
  wpAnyH P md z al S (fuel+1) ab a w:=wpAnyH_take hi hs hf hr hQ (Or.inl ⟨hw,hy⟩) hS h
open Go.RowKit Go.Shelf
attribute [local go_sem] Oper.semAt_some
structure KpD(n1 b c:Nat)(W W':World):Prop where
 os:W'.os=W.os
 tape:W'.tape=W.tape
 output:W'.output=W.output
 size:W.heap.size<=W'.heap.size
 block:∀ k,k<n1->k≠b->k≠c->W'.heap[k]? = W.heap[k]?
theorem KpD.refl(n1 b c:Nat)(W):KpD n1 b c W W:=⟨rfl,rfl,rfl,aF _,λ_ _ _ _=>rfl⟩
theorem KpD.trans{n1 b c:Nat}{A B C}(h:KpD n1 b c A B)(k:KpD n1 b c B C):KpD n1 b c A C:=
 ⟨k.os.trans h.os,k.tape.trans h.tape,k.output.trans h.output,aT h.size k.size,λi h1 h2 h3=>(k.block i h1 h2 h3).trans (h.block i h1 h2 h3)⟩
theorem KpD.put{n1 b c:Nat}(W:World)(l:Nat)(o:Obj)(h:n1<=l):KpD n1 b c W (W.putObj l o):=
 ⟨rfl,rfl,rfl,by simp,λk z _ _=>World.putObj_heap_other (by omega)⟩
theorem KpD.set{n1 b c:Nat}{W W':World}(h:KpD n1 b c W W'){p:Addr}(hp:p.block=b\/p.block=c)(u):KpD n1 b c W (W'.setCell p u):=
 ⟨h.os,h.tape,h.output,by simpa[World.setCell] using h.size,λk h1 h2 h3=>(Below.heap_setCell W' p u k (λe=>by subst e;rcases hp with q|q;exact h2 q;exact h3 q)).trans (h.block k h1 h2 h3)⟩
theorem KpD.on{n1 b c:Nat}{W Q W2:World}(h:KpD n1 b c W Q)(z:ZD Q W2)(hn:n1<=Q.heap.size):KpD n1 b c W W2:=
 ⟨z.os.trans h.os,z.tape.trans h.tape,z.output.trans h.output,aT h.size z.size,λk h1 h2 h3=>(z.block k (by omega)).trans (h.block k h1 h2 h3)⟩
theorem KpD.grown{n1 b c:Nat}{W z Q:World}(h:KpD n1 b c W z){row:Option Nat}(g:z.grownBy Q row)(hr:∀ r,row=some r->n1<=r)(hn:n1<=z.heap.size):KpD n1 b c W Q:=
 ⟨g.os.trans h.os,g.tape.trans h.tape,g.output.trans h.output,aT h.size g.size,λk h1 h2 h3=>(g.block k (by omega) (λe=>by have:=hr k e.symm;omega)).trans (h.block k h1 h2 h3)⟩
theorem KpD.below{n1 b c:Nat}{w W0 W:World}(h:KpD n1 b c W0 W)(z:ZD w W0)(hn:w.heap.size<=n1)(h1:w.heap.size<=b)(h2:w.heap.size<=c):ZD w W:=
 ⟨h.os.trans z.os,h.tape.trans z.tape,h.output.trans z.output,aT z.size h.size,λk Q=>(h.block k (by omega) (by omega) (by omega)).trans (z.block k Q)⟩
theorem KpD.cell{n1 b c:Nat}{W W':World}(h:KpD n1 b c W W'){k o:Nat}{v}(z:k<n1)(h2:k≠b)(h3:k≠c)(Q:W.cell? ⟨k,o,none⟩=some v):W'.cell? ⟨k,o,none⟩=some v:=
 (bU (a:=⟨k,o,none⟩) (h.block k z h2 h3)).trans Q
def Box1(W:World)(k:Nat):Prop:=∃ v t fr,W.heap[k]? = some (cZ #[v] t fr)
theorem Box1.two{W:World}{k:Nat}(h:Box1 W k){o:Nat}{v}(h2:W.cell? ⟨k,o+1,none⟩=some v):False:=by
 obtain⟨x,t,fr,hx⟩:=h;rw[cell_of_row W k (o+1) #[x] t fr hx] at h2;simp at h2
theorem Znx{W W':World}{S:Nat->Prop}(Q:∀ k,k<W.heap.size->¬S k->W'.heap[k]? = W.heap[k]?)(hB:∀ k,S k->Box1 W k){a n l}(h:OpsAt W a n l):OpsAt W' a n l:=by
 refine⟨h.1,λh0=>?_⟩;obtain⟨b,off,rfl,z⟩:=h.2 h0;refine⟨b,off,rfl,λi hi=>?_⟩;obtain⟨c0,c1⟩:=z i hi;have e:=Q b (aE _ _ c0) (λq=>(hB b q).two c1);exact⟨(bU (a:=⟨b,_,none⟩) e).trans c0,(bU (a:=⟨b,_,none⟩) e).trans c1⟩
theorem Zhx{W W':World}{S:Nat->Prop}(hs:W.heap.size<=W'.heap.size)(z:∀ k,k<W.heap.size->¬S k->W'.heap[k]? = W.heap[k]?)(hB:∀ k,S k->Box1 W k){a n L}(h:CoinsAt W a n L):CoinsAt W' a n L:=by
 refine⟨h.1,λh0=>?_⟩;obtain⟨b,off,rfl,Q,hc⟩:=h.2 h0;refine⟨b,off,rfl,aD Q hs,λi hi=>?_⟩;obtain⟨c0,c1,c2,⟨la,ln,lc,c3,h5,h6⟩,c4,c5⟩:=hc i hi;have e:=z b Q (λq=>(hB b q).two c1);have g:=λ(o:Nat)=>bU (a:=⟨b,o,none⟩) e;exact⟨(g _).trans c0,(g _).trans c1,(g _).trans c2,⟨la,ln,lc,(g _).trans c3,Znx z hB h5,h6⟩,(g _).trans c4,(g _).trans c5⟩
end Go.Proofs.YtmomfkikogbdeaaGreatDoor
namespace Go.Proofs.YtmomfkikogbdeaaGreatDoor
open Go.RowKit
theorem Zo{P:Program}{z}{o:Oper}{a:Act}{w}{K:Act->World->Prop}{ah:Exit->Act->World->Prop}{aa:Prop}
  (hw:cM o (yielded z a.tmps)=true) (f:FuncId) (Q) (he:(execOp a.eval o).run P w = .ok (.enter f Q) w) {R:Ending->World->Prop} (hc:Calls P f Q w R) (h:∀ e w',R e w'->∃ v,e = dA v/\K (a.put o.dst v) w') :
  if cM o (yielded z a.tmps)=true then Oper.wp P o a w K ah else aa:=by
 rw[if_pos hw];unfold Oper.wp;rw[he,Oper.upon_enter];refine hc.mono ?_;intro e w' hr;obtain⟨v,rfl,hk⟩:=h e w' hr;exact hk
theorem Yo{P:Program}{ae}{o:Oper}{a:Act}{w}{K:Act->World->Prop}{af:Exit->Act->World->Prop}{Q:Prop}
  (hg:o.guard=none) (f:FuncId) (z) (he:(execOp a.eval o).run P w = .ok (.enter f z) w) {R:Ending->World->Prop} (hc:Calls P f z w R) (h:∀ e w',R e w'->∃ v,e = dA v/\K (a.put o.dst v) w') :
  if cM o (yielded ae a.tmps)=true then Oper.wp P o a w K af else Q:=
 Zo (by simp[cM,hg]) f z he hc h
namespace Bk
open Go.RowKit Go.Maps
theorem all_isF(a z n c nl cl L l M N)(x:Int)(w:World)(h:TextsAt w a n L)(hl:TextsAt w z nl l)(am:nl<=17592186044416)(hx:allR L l=(M,N,x)) :
  Calls Tryz.prog 86 #[.agg #[F a n c],F z nl cl] w λe w'=>(∃ a' n' c' a2 Q c2,e = dA (dB #[.agg #[F a' n' c'],F a2 Q c2,E J x])/\(∀ w2,Gr w' w2 (λk=>k<w.heap.size)->TextsAt w2 a' n' M)/\SlOk a' n' c'/\IntsAt w' a2 Q N/\Q<=nl/\Q<=c2)/\ZD w w':=by
 unfold allR at hx;by_cases h0:bkChk L=0
 ·rw[if_pos h0] at hx;exact Mo a z n c nl cl L l M N x w h hl am ((right_iff L).1 h0) hx
 ·rw[if_neg h0] at hx;have e1:M=[]:=by injection hx with hx _;exact hx.symm
  have e2:N=[]:=by injection hx with _ hx;injection hx with hx _;exact hx.symm
  have e3:bkChk L=x:=by injection hx with _ hx;injection hx with _ hx
  subst e1 e2;refine (Zeo a z n c nl cl L w h x e3 (by rw[<-e3];exact h0)).mono ?_;rintro e w' ⟨rfl,hb⟩;exact⟨⟨_,_,_,_,_,_,rfl,λ_ _=>TextsAt.nil _ _,SlOk.nil,IntsAt.nil _ _,aL _,aF _⟩,hb⟩
theorem name_fresh(a n c L M)(s:ByteArray)(k x:Int)(w:World)(h:TextsAt w a n L)(hx:nameR L s=(M,k,x)) :
  Calls Tryz.prog 157 #[.agg #[F a n c],.string s] w λe w'=>(∃ Q n' c',e = dA (dB #[.agg #[F Q n' c'],E J k,E J x])/\(∀ w2,Gr w' w2 (λk=>k<w.heap.size)->TextsAt w2 Q n' M)/\SlOk Q n' c')/\ZD w w':=by
 have ay:=Zh w (cZ #[F a n c] 24);have ac:=Zh (w.alloc (cZ #[F a n c] 24)) (cZ #[F none 0 0] 24);have bb:(w.alloc (cZ #[F a n c] 24)).heap.size=w.heap.size+1:=by simp
 have bd:((w.alloc (cZ #[F a n c] 24)).alloc (cZ #[F none 0 0] 24)).heap.size=w.heap.size+1+1:=by simp
 have c1:=aH (w.alloc (cZ #[F a n c] 24)) (cZ #[F none 0 0] 24);rw[bb] at c1;have z:=Zh ((w.alloc (cZ #[F a n c] 24)).alloc (cZ #[F none 0 0] 24)) (cZ #[.string s] 9);have ht:=Zkf ((w.alloc (cZ #[F a n c] 24)).alloc (cZ #[F none 0 0] 24)) s;rw[bd] at ht;have hb:=Zf (Zf ay ac) z;have c2:=ZE z c1;have ea:=Zpn L s;rw[hx] at ea;have ER:=Zkp (L:=L) (s:=s);rw[hx] at ER;simp only at ea ER;obtain⟨AL,HB,C2⟩:=kh3 (all_isF a (some ⟨w.heap.size+1+1,0,none⟩) n c 1 1 L [s] M (if x=0 then [k] else []) x _ (h.later hb) ht (by decide) ea) hb c2;clear h hx ea hb ay ac z bb bd c1 c2 ht;by_cases h0:x=0
 ·subst h0;rw[if_pos rfl] at AL;clear ER;go_enter Tryz.func157,Tryz.ntmps157;go_wp2_with fail;refine AL.mono ?_;rintro e w2 ⟨⟨Q,n',c',a2,n2,c2,rfl,t1,t2,t3,-⟩,ac⟩;obtain⟨t4,t5⟩:=t3;have e:n2=1:=by rw[<-t4];rfl
  subst e;obtain⟨b,off,rfl,hc⟩:=t5 (by decide);have f:=hc 0 (by simp);simp only[Nat.add_zero,List.getElem_cons_zero] at f;have af:=Zd (Zf HB ac);have c3:=ZE ac C2;have z:=Zh w2 (cZ #[F Q n' c'] 24);have c4:=ZE z c3;have bh:=Zd t2;have br:w.heap.size+1<w2.heap.size:=aA c3;have f2:=Ze z f;have n0:=Rp w2 (F Q n' c') 24
  have bt:b≠w.heap.size+1:=by
   intro e;subst e;rw[cell_of_row _ _ _ _ _ _ c3] at f
   rcases off with _|off
   ·simp at f
   ·simp at f
  obtain⟨X,hX⟩:=ZG (w2.alloc (cZ #[F Q n' c'] 24));rw[<-hX] at c4 f2 n0 z;have aw:=Zd (Zf af z);have d0:X.cell? ⟨w.heap.size+1,0,none⟩=some (F none 0 0):=by simp[bF,c4]
  have df:X.frozen? ⟨w.heap.size+1,0,none⟩=false:=by simp[World.frozen?,c4]
  have bs:b<X.heap.size:=aE _ _ f2;have bu:¬w2.heap.size=w.heap.size+1:=by omega
  have TS:Hid (∀ u w2,Gr (X.setCell ⟨w.heap.size+1,0,none⟩ u).drew w2 (λk=>k<w.heap.size)->TextsAt w2 Q n' M):=λu w2 g2=>t1 w2 (((((Gr.of z).set (p:=⟨w.heap.size+1,0,none⟩) (.inl (by simp)) u).draw).trans (g2.mono (λ_ _ hk=>aD hk (by simp;omega)))));clear t1 t2 ac z c3 c4 f hc t4 t5;go_wp2;rw[<-hX];clear hX
  go_region
  go_wp2;(try simp only[Exit.then]);refine aW (v:=dB #[.agg #[F Q n' c'],E J k,E J 0]) ?_ rfl ⟨⟨_,_,_,rfl,TS _,Za bh⟩,?_⟩
  ·rw[results_cell_tmp2 rfl];go_simp
  ·exact (aw.setCell (Nat.le_succ _) _).drew
 ·rw[if_neg h0] at AL;obtain⟨rfl,rfl⟩:=ER h0;have g:(x != 0)=true:=by simp[h0]
  go_enter Tryz.func157,Tryz.ntmps157;go_wp2_with fail;refine AL.mono ?_;rintro e w2 ⟨⟨Q,n',c',a2,n2,c2,rfl,t1,t2,t3,-⟩,ac⟩;have af:=Zd (Zf HB ac);have c3:=ZE ac C2;have z:=Zh w2 (cZ #[F Q n' c'] 24);have c4:=ZE z c3;have aw:=Zd (Zf af z);have br:w.heap.size+1<w2.heap.size:=aA c3;have d0:w2.cell? ⟨w.heap.size+1,0,none⟩=some (F none 0 0):=by simp[bF,c3]
  have df:w2.frozen? ⟨w.heap.size+1,0,none⟩=false:=by simp[World.frozen?,c3]
  clear t1 t2 t3 ac z c3 c4;go_wp2;(try simp only[Exit.inBlock,Exit.then]);refine aW (v:=dB #[.agg #[F none 0 0],E J 0,E J x]) ?_ rfl ⟨⟨_,_,_,rfl,λ_ _=>TextsAt.nil _ _,SlOk.nil⟩,?_⟩
  ·rw[results_cell_tmp2 rfl];go_simp
  ·exact (af.setCell (Nat.le_succ _) _).alloc (by have:=af.size;simp;omega) _
end Bk
open Go.RowKit
theorem Ab{z:Array Oper}{i:Nat}{o:Oper}{r}(h:z.toList.drop i=o :: r):z[i]? = some o:=by
 have:(z.toList.drop i)[0]? = some o:=by rw[h];rfl
 rw[List.getElem?_drop] at this;simpa using this
theorem tkL{P:Program}{z:Array Oper}{ap:Exit->Act->World->Prop}{md:Region.Mode}{S:World->Prop}(i:Nat){v}{fuel:Nat}{l l':Array Bool}{a a':Act}{w}{o:Oper}{r}(hi:z.toList.drop i=o :: r)(hS:S w)(h:wpAnyH P md z ap S fuel l' a' w)
  (hy:∀ w,S w->(execOp a.eval o).run P w = .ok (.value v) w:=by (intro U Q;(try dsimp only at Q);(try simp only[and_assoc] at Q);(repeat (have:=Q.1;replace Q:=Q.2));(try simp only[Act.put,ZA,ZB,ZC]);go_simp;first|done|with_reducible rfl))
  (ha:a.put o.dst v=a':=by ((try simp only[Act.put,ZA,ZB,ZC]);rfl)) (hl:l.setIfInBounds i true=l':=by ((try simp only[ZA,ZB,ZC]);rfl))
  (hQ:∀ c a w,ap (.panic c) (a.put o.dst v) w->ap (.panic c) a w:=by exact λ_ _ _ h=>h) (hw:cM o (yielded z a.tmps)=true:=by rfl)
  (hs:Region.noSelect z=true:=by kernel_rfl) (hf:Region.free md z l i=true:=by kernel_rfl) (hr:(Region.ready md z l).contains i=true:=by kernel_rfl) :
  wpAnyH P md z ap S (fuel+1) l a w:=by
 subst ha hl;exact tk i o v (Ab hi) hy hS h hQ hw hs hf hr
theorem rdY{P:Program}{z:Array Oper}{Q:Exit->Act->World->Prop}{md:Region.Mode}{S:World->Prop}(i:Nat){fuel:Nat}{l:Array Bool}{a:Act}{w}{o:Oper}{r}(hi:z.toList.drop i=o :: r)
  (h:∀ K':Act->World->Prop,Shut (∀ a w,S w->(S w->wpAnyH P md z Q S fuel (l.setIfInBounds i true) a w)->K' a w)->if cM o (yielded z a.tmps)=true then Oper.wp P o a w K' Q else K' (a.put o.dst undef) w)
  (hr:Region.ready md z l=[i]:=by kernel_rfl):wpAnyH P md z Q S (fuel+1) l a w:=wpAnyH_ready hr (by simp) (AllReadyH.cons (Ab hi) h AllReadyH.nil)
theorem rdC{P:Program}{z:Array Oper}{Q:Exit->Act->World->Prop}{md:Region.Mode}{S:World->Prop}{i fuel:Nat}{l:Array Bool}{a:Act}{w}{o:Oper}{r rs}(hi:z.toList.drop i=o :: r)
  (h:∀ K':Act->World->Prop,Shut (∀ a w,S w->(S w->wpAnyH P md z Q S fuel (l.setIfInBounds i true) a w)->K' a w)->if cM o (yielded z a.tmps)=true then Oper.wp P o a w K' Q else K' (a.put o.dst undef) w)
  (hs:AllReadyH P md z Q S fuel l a w rs):AllReadyH P md z Q S fuel l a w (i :: rs):=AllReadyH.cons (Ab hi) h hs
theorem rdS{P:Program}{z:Array Oper}{ag:Exit->Act->World->Prop}{Q:Region.Mode}{S:World->Prop}(i:Nat){fuel:Nat}{l:Array Bool}{a:Act}{w}{o:Oper}{r}(hi:z.toList.drop i=o :: r){f:FuncId}{vs}{R:Ending->World->Prop}(hc:Calls P f vs w R)
  (h:∀ e w',R e w'->∃ v,e = dA v/\S w'/\(S w'->wpAnyH P Q z ag S fuel (l.setIfInBounds i true) (a.put o.dst v) w')) (he:(execOp a.eval o).run P w = .ok (.enter f vs) w:=by kernel_rfl) (hw:cM o (yielded z a.tmps)=true:=by kernel_rfl) (hr:Region.ready Q z l=[i]:=by kernel_rfl):wpAnyH P Q z ag S (fuel+1) l a w:=
 rdY i hi (λ_ hK=>Zo hw f vs he hc (λe w' q=>by
  obtain⟨v,h1,h2,h3⟩:=h e w' q;exact⟨v,h1,hK.out _ _ h2 h3⟩)) hr
open Go.RowKit Go.Shelf
def J7(K:List ByteArray)(C:List Zj)(h:Int):Int:=
 if Bk.bkChk K≠0 then Bk.bkChk K else if Z4 C≠0 then Z4 C else if (decide (1<=h) && decide (h<=1000))=false then 3 else 0
def Zmr(w:World)(p:Nat)(K:List ByteArray)(C:List Zj)(h:Int):Prop:=
 ∃ ka kn kc z ln Q,w.heap[p]? = some (cZ #[F ka kn kc,F z ln Q,E J h] 162 (0,0))/\Bk.TextsAt w ka kn K/\SlOk ka kn kc/\CoinsAt w z ln C/\SlOk z ln Q
def DoT(w':World)(B p:Nat)(K:List ByteArray)(C:List Zj)(h:Int):Prop:=
 ∃ ka kn kc z ln Q,w'.heap[p]? = some (cZ [F ka kn kc,F z ln Q,E J h].toArray 162 (0,0))/\Fresh B w' (λw2=>Bk.TextsAt w2 ka kn K/\CoinsAt w2 z ln C)/\SlOk ka kn kc/\SlOk z ln Q
theorem DoT.till{w}{B p:Nat}{K C}{h:Int}(d:DoT w B p K C h):Zmr w p K C h:=by
 obtain⟨ka,kn,kc,z,ln,Q,h1,h2,h3,h4⟩:=d;have h5:=h2 w (Gr.refl _ _);exact⟨ka,kn,kc,z,ln,Q,h1,h5.1,h3,h5.2,h4⟩
theorem DoT.on{w w':World}{B p:Nat}{K C}{h:Int}(d:DoT w B p K C h)(g:Gr w w' (λq=>q<B))(hp:w'.heap[p]? = w.heap[p]?):DoT w' B p K C h:=by
 obtain⟨ka,kn,kc,z,ln,Q,h1,h2,h3,h4⟩:=d;exact⟨ka,kn,kc,z,ln,Q,hp.trans h1,λw2 g2=>h2 w2 (g.trans g2),h3,h4⟩
theorem DoT.later{w w':World}{B p:Nat}{K C}{h:Int}(d:DoT w B p K C h)(z:ZD w w'):DoT w' B p K C h:=by
 have hp:p<w.heap.size:=by obtain⟨ka,kn,kc,Q,ln,lc,h1,_⟩:=d;exact aA h1
 exact d.on (Gr.of z) (z.block p hp)
theorem DoT.less{w}{B z p:Nat}{K C}{h:Int}(d:DoT w B p K C h)(hB:z<=B):DoT w z p K C h:=by
 obtain⟨ka,kn,kc,Q,ln,lc,h1,h2,h3,h4⟩:=d;exact⟨ka,kn,kc,Q,ln,lc,h1,λw2 g2=>h2 w2 (g2.mono λ_ _ q=>aD q hB),h3,h4⟩
def OpR(w w':World)(x:Int)(K:List ByteArray)(C:List Zj)(h:Int)(e:Ending):Prop:=
 ((x≠0/\e = dA (dB #[dC none,E J x]))\/(x=0/\∃ p,e = dA (dB #[dC (some ⟨p,0,none⟩),E J 0])/\w.heap.size<=p/\p+1=w'.heap.size/\DoT w' w.heap.size p K C h))/\ZD w w'
theorem Zjv(ka kn kc K la ln lc C)(h x:Int)(w)(hK:Bk.TextsAt w ka kn K)(hC:CoinsAt w la ln C)(sC:SlOk la ln lc)(hx:J7 K C h=x) :
  Calls Tryz.prog 149 #[.agg #[F ka kn kc],F la ln lc,E J h] w λe w'=>OpR w w' x K C h e:=by
 obtain⟨X,hX,aw,bo⟩:=ka00 w [F ka kn kc] 24;obtain⟨⟨M,Z,dr⟩,z⟩:=ZF (Bk.allR K []);have C1:=Zd (Bk.all_isF ka none kn kc 0 0 K [] M Z dr X (hK.later aw) ⟨rfl,λh=>absurd h (by omega)⟩ (by omega) z)
 have bu:dr=Bk.bkChk K/\(dr=0->M=K):=by
  unfold Bk.allR at z;split at z
  ·rename_i q;rw[Bk.nmGo] at z;simp only[Prod.mk.injEq] at z;exact⟨by rw[<-z.2.2,q],λ_=>z.1.symm⟩
  ·rename_i q;simp only[Prod.mk.injEq] at z;exact⟨z.2.2.symm,λe=>absurd (z.2.2.trans e) q⟩
 unfold J7 at hx;rw[<-bu.1] at hx;obtain⟨y,hy⟩:=ZF (Z4 C);rw[hy] at hx;obtain⟨g,hg⟩:=ZF ((decide (1<=h) && decide (h<=1000)));rw[hg] at hx;obtain⟨HZ,HX,HG,HY,HC,cy,bh,cd⟩:=kh8 bu.2 hx hg hy (hC.later aw) sC aw bo;obtain⟨dg,xl⟩:=kc1 bo;have ce:=Zd xl;clear hK hC sC hx aw bo z bu hy hg;go_enter Tryz.func149,Tryz.ntmps149;go_wp2_with fail;rw[<-hX];clear hX;(try go_wp2_with fail);refine C1.mono ?_;rintro e w1 ⟨⟨a',n',c',a2,n2,c2,rfl,hT,sT,_,_,_⟩,Q⟩;have h10:=ZE Q cd;obtain⟨y0,yf,yl⟩:=kf1 h10;obtain⟨W1,ak⟩:=ZG (w1.setCell ⟨w.heap.size,0,none⟩ (F a' n' c'));have g1:Gr w1 W1 (λq=>q=w.heap.size):=by rw[ak];exact (Gr.refl w1 (λq=>q=w.heap.size)).set (p:=⟨w.heap.size,0,none⟩) (.inl rfl) _
 have bj:W1.heap[w.heap.size]? = some (cZ #[F a' n' c'] 24 (0,0)):=by rw[ak];exact Vt h10
 have cm:ZD w W1:=g1.below (Zf bh Q) (Zf bh Q).size (λq e=>by omega);have cc:Hid (CoinsAt W1 la ln C):=Zhx (S:=λq=>q=w.heap.size) g1.size g1.block (λk e=>by subst e;exact⟨_,_,_,h10⟩) (HC.later Q);have da:Hid (Fresh w.heap.size W1 (λw2=>Bk.TextsAt w2 a' n' M)):=λw2 g2=>hT w2 ((g1.mono (λk _ e=>by rw[e];exact ce)).trans (g2.mono (λk _ e=>Nat.lt_trans e ce)));obtain⟨ca,cu,cz⟩:=kh3 cm bj sT;have dk:=Zd (show w.heap.size<W1.heap.size from aA bj);have C2:=Zd (Vi la ln lc C y W1 cc HY);clear Q h10 hT sT g1 bj cm C1 dg xl HC cd bh;by_cases az:dr=0
 ·subst az;obtain rfl:=HZ rfl;go_wp2_with fail;rw[<-ak];clear ak y0 yf yl;(try go_wp2_with fail);refine C2.mono ?_;rintro e w2 ⟨rfl,bq⟩;obtain⟨bg,bz,C3⟩:=kh3 (Zf ca bq) bq (Yj h 1 1000 g w2 HG);clear bq C2;by_cases ay:y=0
  ·subst ay;go_wp2_with fail;refine C3.mono ?_;rintro e w3 ⟨rfl,br⟩;obtain⟨aq,bf⟩:=kh2 (Zf bg br) (Zf bz br);clear br C3 bz bg;cases g
   ·have aj:Hid (x=3):=(by have:=Za HX;rw[if_neg (λq=>q rfl),if_neg (λq=>q rfl),if_pos rfl] at this;exact this.symm);clear HX;go_wp2;go_ret2;rw[Za aj];exact⟨.inl ⟨by decide,rfl⟩,Za aq⟩
   ·have aj:Hid (x=0):=(by have:=Za HX;rw[if_neg (λq=>q rfl),if_neg (λq=>q rfl),if_neg (by decide)] at this;exact this.symm);have bk:=(Z6 C).1 HY;have ap:=Za cc;have de:=ap.1;have df:=bk.len;have CP:=Zd (λV (hv:ZD W1 V)=>Jl la ln lc C V (by omega) (ap.later hv) cy (λdr z=>by have:=Pc (Yu (bk.one dr z)).2.2.2.2.2.2.2.2;omega));have h3:=ZE bf cu;have KS:Hid (∀ V:World,ZD w3 V->V.cell? ⟨w.heap.size,0,none⟩=some (F a' n' c')/\w.heap.size<V.heap.size):=λV hv=>⟨Ze hv (Zb (X:=[F a' n' c']) h3 0 _ rfl),aD (aA h3) hv.size⟩;clear HX bk ap de df h3;go_wp2_with fail;refine wp_region_held_drew (S:=λV=>V.cell? ⟨w.heap.size,0,none⟩=some (F a' n' c')/\w.heap.size<V.heap.size) (by kernel_rfl) (KS _ (Zi _)) (λaa=>?_);refine tkL 0 rfl aa ?_;refine tkL 1 rfl aa ?_;refine tkL 3 rfl aa ?_;refine rdS 2 rfl (CP _ (Zf bf (Zi _))) ?_;rintro e V1 ⟨ds,dt,rfl,hF,cq,cl⟩;have Q:ZD w3 V1:=Zf (Zi w3) cl;have ap:CoinsAt V1 ds ln C:=hF _ (Gr.refl _ _);clear aa;refine⟨_,rfl,(KS _ Q),λaa=>?_⟩;refine tkL 4 rfl aa ?_;refine rdY 5 rfl (λKQ hK=>?_);go_simp;obtain⟨V2,am⟩:=ZG (V1.alloc (cZ #[F a' n' c',F ds ln dt,E J h] 162));have an:ZD V1 V2:=(by rw[am];exact Zh _ _);have h2:V2.heap[V1.heap.size]? = some (cZ #[F a' n' c',F ds ln dt,E J h] 162 (0,0)):=(by rw[am];exact aH _ _);have cn:V2.heap.size=V1.heap.size+1:=(by rw[am];simp);rw[<-am];clear aa;refine hK.out _ _ (KS _ (Zf Q an)) (λaa=>?_)
    clear hK KQ;refine tkL 6 rfl aa ?_;refine tkL 7 rfl aa ?_;refine wpAnyH_done (by kernel_rfl) ?_ _;clear aa;have HF:Hid (OpR w V2 0 M C h (dA (dB #[dC (some ⟨V1.heap.size,0,none⟩),E J 0]))):=⟨.inr ⟨rfl,V1.heap.size,rfl,aT aq.size Q.size,cn.symm,a',n',c',ds,ln,dt,h2,λw2 g2=>⟨da w2 ((Gr.of (Zf bf (Zf Q an))).trans g2),hF w2 ((Gr.of an).trans (g2.mono (λk _ e=>aD e aq.size)))⟩,Za cz,cq⟩,Zf aq (Zf Q an)⟩;clear an h2 cn am Q ap hF cq cl KS CP;go_wp2;go_ret2;rw[Za aj];exact Za HF
  ·have aj:Hid (x=y):=(by have:=Za HX;rw[if_neg (λq=>q rfl),if_pos ay] at this;exact this.symm);have gy:(y != 0)=true:=(by simp[ay]);clear HX C3;go_wp2;go_ret2;rw[Za aj];exact⟨.inl ⟨ay,rfl⟩,Za bg⟩
 ·have aj:Hid (x=dr):=by have:=Za HX;rw[if_pos az] at this;exact this.symm
  have gz:(dr != 0)=true:=by simp[az]
  clear HX C2;have db:=Zd ak;clear ak;go_wp2;rw[<-Za db];go_ret2;rw[Za aj];exact⟨.inl ⟨az,rfl⟩,Za ca⟩
open Bk (Right nm nameR)
theorem Sz{h:Int}{K K' C C'}{t:TxD}(e:doD h (K,C) t=(0,K',C')) :
  Zu t=0/\t.2.1.length≠0/\∃ n S,nameR K (txT t)=(K',n,0)/\apD C t n h=(0,C',S):=by
 unfold doD at e;split at e
 ·rename_i q;injection e with e _;exact absurd e q
 rename_i q1;split at e
 ·injection e with e _;exact absurd (show (4:Int)=0 from e) (by decide)
 rename_i q2;split at e
 ·rename_i q;injection e with e _;exact absurd e q
 rename_i q3;split at e
 ·rename_i q;injection e with e _;exact absurd e q
 rename_i q4;injection e with _ e;injection e with z Q;exact⟨aK.1 q1,q2,_,_,Prod.ext z (Prod.ext rfl (aK.1 q3)),Prod.ext (aK.1 q4) (Prod.ext Q rfl)⟩
theorem S8{h:Int}{K K' C C' t}(hK:Right K)(e:doD h (K,C) t=(0,K',C')) :
  Right K'/\(∃ M,K'=K++M)/\Ys C'/\Zp C'<=Zp C/\Zu t=0:=by
 obtain⟨h1,h2,n,S,h3,h4⟩:=Sz e;obtain⟨z,Q,_⟩:=S9 hK (show (doD h (K,C) t).1=0 by rw[e]);rw[e] at z Q;exact⟨z,Q,(Mm h4).2.1,(Zmm h4).2 h2,h1⟩
def swT(h:Int):List TxD->List ByteArray×List Zj->List (TxD×List Zj)
 | [],_=>[]
 | t :: l,s=>if (doD h s t).1=0 then (t,(doD h s t).2.2) :: swT h l (doD h s t).2 else swT h l s
def Xf(C:List Zj)(X:List (TxD×List Zj)):List Zj:=(X.getLast?.map (·.2)).getD C
theorem Vn(C):Xf C []=C:=rfl
theorem Wv(C X t C'):Xf C (X++[(t,C')])=C':=by simp[Xf]
theorem Zbm(C X t C'):Xf C ((t,C') :: X)=Xf C' X:=by
 cases X with
 | nil=>rfl
 | cons y X=>
  obtain⟨z,Q⟩:∃ z,(y :: X).getLast? = some z:=⟨_,List.getLast?_eq_some_getLast (by simp)⟩;unfold Xf;rw[List.getLast?_cons_cons,Q];rfl
theorem Qa(h:Int):∀ (l:List TxD) (s:List ByteArray×List Zj),(swT h l s).map (·.1)=(Zv h l s).1
 | [],_=>rfl
 | t :: l,s=>by
  rw[swT,Zv];split
  ·rw[bO,Qa h l]
  ·exact Qa h l s
theorem Kb(h:Int):∀ (l:List TxD) (s:List ByteArray×List Zj),Xf s.2 (swT h l s)=(Zv h l s).2.2
 | [],_=>rfl
 | t :: l,s=>by
  rw[swT,Zv];split
  ·rw[Zbm,Kb h l]
  ·exact Kb h l s
theorem Rl(h:Int):∀ (l:List TxD) (s:List ByteArray×List Zj),(swT h l s).length<=l.length
 | [],_=>aF _
 | t :: l,s=>by
  rw[swT];split
  ·rw[cL,cL];exact Nat.succ_le_succ (Rl h l _)
  ·exact Nat.le_succ_of_le (Rl h l s)
theorem Jx{h:Int}:∀ (l:List TxD) (K:List ByteArray) (C:List Zj),Right K->Ys C->Ys (Zv h l (K,C)).2.2/\Zp (Zv h l (K,C)).2.2<=Zp C/\∀ t∈(Zv h l (K,C)).1,Zu t=0/\t.2.1.length≠0
 | [],K,C,_,hC=>⟨hC,Int.le_refl _,λ_ q=>by cases q⟩
 | t :: l,K,C,hK,hC=>by
  rw[Zv];by_cases q:(doD h (K,C) t).1=0
  ·rw[if_pos q];have e:doD h (K,C) t=(0,(doD h (K,C) t).2.1,(doD h (K,C) t).2.2):=Prod.ext q rfl;obtain⟨z,_,Q,d4,d5⟩:=S8 hK e;obtain⟨s1,s2,s3⟩:=Jx (h:=h) l _ _ z Q;refine⟨s1,Int.le_trans s2 d4,λx hx=>?_⟩
   rcases List.mem_cons.1 hx with rfl|hx
   ·exact⟨d5,(Sz e).2.1⟩
   ·exact s3 x hx
  ·rw[if_neg q];exact Jx l K C hK hC
def swE(K:List ByteArray)(C:List Zj)(l:List TxD)(h:Int):Int:=
 if J7 K C h≠0 then J7 K C h else if 8<l.length then 2 else 0
theorem Vm{K C}{h:Int}(e:J7 K C h=0):Right K/\Ys C/\1<=h/\h<=1000:=by
 unfold J7 at e;split at e
 ·rename_i q;exact absurd e q
 rename_i Q;split at e
 ·rename_i q;exact absurd e q
 rename_i q2;split at e
 ·exact absurd e (by decide)
 rename_i z;simp at z;exact⟨(Bk.right_iff K).1 (aK.1 Q),(Z6 C).1 (aK.1 q2),z.1,z.2⟩
theorem Sm{K C}{h:Int}(hK:Right K)(z:Ys C)(h1:1<=h)(h2:h<=1000):J7 K C h=0:=by
 unfold J7;rw[if_neg (λq=>q ((Bk.right_iff K).2 hK)),if_neg (λq=>q ((Z6 C).2 z)),if_neg (by simp[h1,h2])]
theorem Ut{K C}{l:List TxD}{h:Int}(e:swE K C l h=0):J7 K C h=0/\l.length<=8:=by
 unfold swE at e;split at e
 ·rename_i q;exact absurd e q
 rename_i z;split at e
 ·exact absurd e (by decide)
 exact⟨aK.1 z,by omega⟩
def acE(K:List ByteArray)(C:List Zj)(l:List TxD)(t:TxD)(h:Int):Int×List ByteArray×List TxD:=
 if swE K C l h≠0 then (swE K C l h,[],[]) else if ((Zv h l (K,C)).1.any λx=>Jp x t)=true then (6,[],[]) else
 if (doD h (Zv h l (K,C)).2 t).1≠0 then ((doD h (Zv h l (K,C)).2 t).1,[],[]) else if (Zv h l (K,C)).1.length=8 then (12,[],[]) else
 (0,(doD h (Zv h l (K,C)).2 t).2.1,(Zv h l (K,C)).1++[t])
def K0(h n:Int)(lk:List (Int×Int)):TxD:=(h,[],[(n,lk)])
def Ym:Zl:=(0,0,0,0,[])
def Zlp(h:Int)(l:List TxD)(K:List ByteArray)(C:List Zj):Int:=Zp C - Zp (Xf C ((swT h l (K,C)).take 3))
def mkE(K:List ByteArray)(C:List Zj)(l:List TxD)(p h wk n:Int)(lk:List (Int×Int)):Int×Zl:=
 if swE K C l h≠0 then (swE K C l h,Ym) else if (rwD h).1+Zlp h l K C=0 then (9,Ym) else
 if Yk (p,h,wk,n,K0 h ((rwD h).1+Zlp h l K C) lk :: (Zv h l (K,C)).1.take 3)≠0 then (Yk (p,h,wk,n,K0 h ((rwD h).1+Zlp h l K C) lk :: (Zv h l (K,C)).1.take 3),Ym) else
 (0,(p,h,wk,n,K0 h ((rwD h).1+Zlp h l K C) lk :: (Zv h l (K,C)).1.take 3))
