/- What is done is undone: in plain functions. Nothing of the program. -/
import Derived.Test.YtepmnpapdknocaaGreatDoorCoinApplyBToCoinTwiceM
import Derived.Test.YtepmnpapdknocaaGreatDoorBookRefAToCoinCopyB
import Derived.Test.YtepmnpapdknocaaGreatDoorTxStateToRefCheckA
import Derived.Test.YtepmnpapdknocaaGreatDoorRefBlkToBookRef
import Derived.Test.YtepmnpapdknocaaGreatDoorCoinCopyCToBlkReward
import Derived.Deep.AppendLies
import Derived.BigQuiet
import Derived.Deep.QuietTactic
namespace Go.Proofs.YtepmnpapdknocaaGreatDoor
theorem Hd(name h:Int)(r:Bool):∀ (O:List Z7) (i:Nat) (L M:List Zb),Srt L→Zr name h r i O L=(0,M) →
  Srt M∧(∀ x,x∈M↔x∈L∨∃ j,∃ hj:j<O.length,x=Vr name (i+j) O[j] h r)∧(∀ j,j<O.length→Yv (name,((i+j:Nat):Int)) L=false)
 | [],i,L,M,hs,e=>by
  unfold Zr at e
  injection e with _ e
  subst e
  exact⟨hs,fun x=>⟨.inl,fun q=>q.elim id fun ⟨j,hj,_⟩=>absurd hj (by simp)⟩,fun j hj=>absurd hj (by simp)⟩
 | o :: q,i,L,M,hs,e=>by
  unfold Zr at e
  split at e
  ·injection e with e _;cases e
  ·rename_i hf
   have hf':Yv (pt (Vr name i o h r)) L=false:=by simpa[Vr,pt] using hf
   obtain⟨h1,h2,h3⟩:=Hd name h r q (i+1) _ M (X2 hs) e
   refine⟨h1,fun x=>?_,fun j hj=>?_⟩
   ·rw[h2 x,Gy hf']
    constructor
    ·rintro ((rfl|g)|⟨j,hj,rfl⟩)
     ·exact .inr ⟨0,by simp,by simp⟩
     ·exact .inl g
     ·exact .inr ⟨j+1,by simpa using hj,by simp[Nat.add_assoc,Nat.add_comm 1 j]⟩
    ·rintro (g|⟨j,hj,rfl⟩)
     ·exact .inl (.inr g)
     ·cases j with
      | zero=>exact .inl (.inl (by simp))
      | succ j=>exact .inr ⟨j,by simpa using hj,by simp[Nat.add_assoc,Nat.add_comm 1 j]⟩
   ·cases j with
    | zero=>simpa[Vr,pt] using hf'
    | succ j=>
     have:=h3 j (by simpa using hj)
     rw[show i+1+j=i+(j+1) by omega] at this
     refine hasP_no.2 fun c hc=>(hasP_no.1 this) c ((Gy hf').2 (.inr hc))
theorem F6(name h:Int)(r:Bool)(O:List Z7)(L:List Zb)(hL:Srt L)(hfree:∀ j,j<O.length→Yv (name,((j:Nat):Int)) L=false):∀ (m k:Nat) (N:List Zb),m+k=O.length→Srt N→(∀ x,x∈N↔x∈L∨∃ j,∃ hj:j<O.length,k≤j∧x=Vr name j O[j] h r)→Yb name k (O.drop k) N=(0,L)
 | 0,k,N,hm,hN,hx=>by
  rw[List.drop_of_length_le (by omega),Yb]
  rw[Srt.ext hN hL fun x=>by
   rw[hx x]
   exact⟨fun q=>q.elim id fun ⟨j,hj,hk,_⟩=>absurd hj (by omega),.inl⟩]
 | m+1,k,N,hm,hN,hx=>by
  have hk:k<O.length:=by omega
  have hmem:Vr name k O[k] h r∈N:=(hx _).2 (.inr ⟨k,hk,Nat.le_refl _,rfl⟩)
  have ht:=Kw (p:=(name,(k:Int))) hN hmem rfl
  rw[List.drop_eq_getElem_cons hk,Yb,ht]
  simp only
  rw[if_pos (by rfl)]
  refine F6 name h r O L hL hfree m (k+1) _ (by omega) (hN.filter _) fun x=>?_
  rw[List.mem_filter,hx x,decide_eq_true_eq]
  constructor
  ·rintro ⟨g|⟨j,hj,hkj,rfl⟩,hne⟩
   ·exact .inl g
   ·refine .inr ⟨j,hj,?_,rfl⟩
    rcases Nat.lt_or_ge k j with q|q
    ·exact q
    ·obtain rfl:j=k:=by omega
     exact absurd rfl hne
  ·rintro (g|⟨j,hj,hkj,rfl⟩)
   ·exact⟨.inl g,(hasP_no.1 (hfree k hk)) x g⟩
   ·refine⟨.inr ⟨j,hj,by omega,rfl⟩,fun q=>?_⟩
    have q2:((j:Nat):Int)=((k:Nat):Int):=congrArg Prod.snd q
    omega
theorem Nw{p:PtD}{c:Zb}:∀ {L:List Zb},Srt L→c∈L→pt c=p→Zy L=cv c+Zy (L.filter fun d=>decide (pt d≠p))
 | [],_,hc,_=>by cases hc
 | d :: r,hs,hc,e=>by
  rw[Xw]
  rcases List.mem_cons.1 hc with rfl|hc
  ·rw[List.filter_cons_of_neg (by simp[e])]
   have:r.filter (fun d=>decide (pt d≠p))=r:=by
    rw[List.filter_eq_self]
    intro y hy
    exact decide_eq_true (fun q=>Qw (hs.head y hy) (by rw[e,q]))
   rw[this]
  ·have hne:pt d≠p:=fun q=>Qw (hs.head c hc) (by rw[e,q])
   rw[List.filter_cons_of_pos (by simp[hne]),Xw,Nw hs.tail hc e]
   omega
theorem Q5(h:Int):∀ (I:List InD) (S0 L S M:List Zb),Srt L→Zf h I S0 L=(0,S,M) →
  Srt M∧∃ T,S=S0++T∧T.length=I.length∧(∀ j (h1:j<T.length) (h2:j<I.length),pt T[j]=(I[j].1,I[j].2.1))∧(∀ x,x∈L↔x∈M∨x∈T)∧(∀ x∈T,Yv (pt x) M=false)∧T.Pairwise (fun a b=>pt a≠pt b)∧Zy L=Zy M+Zy T
 | [],S0,L,S,M,hs,e=>by
  unfold Zf at e
  injection e with _ e
  injection e with e1 e2
  subst e1 e2
  exact⟨hs,[],by simp,rfl,fun j h1=>absurd h1 (by simp),fun x=>by simp,fun x hx=>(by cases hx),List.Pairwise.nil,by simp[Zy]⟩
 | x :: r,S0,L,S,M,hs,e=>by
  unfold Zf at e
  split at e
  ·injection e with e _;cases e
  ·rename_i c L' ht
   split at e
   ·injection e with e _;cases e
   ·split at e
    ·injection e with e _;cases e
    ·obtain⟨t1,t2,t3⟩:=J3 ht
     obtain⟨h1,T,h2,h3,h4,h5,h6,h7,h8⟩:=Q5 h r _ L' S M (by rw[t3];exact hs.filter _) e
     have hin:∀ y,y∈L'↔y∈L∧pt y≠(x.1,x.2.1):=fun y=>by rw[t3,List.mem_filter,decide_eq_true_eq]
     refine⟨h1,c :: T,by rw[h2,List.append_assoc];rfl,by simp[h3],fun j h1 h2=>?_,fun y=>?_,fun y hy=>?_,?_,?_⟩
     ·cases j with
      | zero=>exact t2
      | succ j=>exact h4 j (by simpa using h1) (by simpa using h2)
     ·constructor
      ·intro hy
       by_cases q:pt y=(x.1,x.2.1)
       ·exact .inr (by rw[hs.inj hy t1 (by rw[q,t2])];exact List.mem_cons_self ..)
       ·rcases (h5 y).1 ((hin y).2 ⟨hy,q⟩) with g|g
        ·exact .inl g
        ·exact .inr (List.mem_cons_of_mem _ g)
      ·rintro (g|g)
       ·exact ((hin y).1 ((h5 y).2 (.inl g))).1
       ·rcases List.mem_cons.1 g with rfl|g
        ·exact t1
        ·exact ((hin y).1 ((h5 y).2 (.inr g))).1
     ·rcases List.mem_cons.1 hy with rfl|hy
      ·refine hasP_no.2 fun d hd e=>?_
       exact ((hin d).1 ((h5 d).2 (.inl hd))).2 (by rw[e,t2])
      ·exact h6 y hy
     ·refine List.pairwise_cons.2 ⟨fun y hy e=>?_,h7⟩
      exact ((hin y).1 ((h5 y).2 (.inr hy))).2 (by rw[←e,t2])
     ·have h9:=Nw hs t1 t2
      rw[←t3] at h9
      rw[h9,h8,Xw]
      omega
theorem Dp(I:List InD)(S M2 L:List Zb)(hlen:S.length=I.length)(hL:Srt L)(hpt:∀ j (h1:j<S.length) (h2:j<I.length),pt S[j]=(I[j].1,I[j].2.1))(hmem:∀ x,x∈L↔x∈M2∨x∈S)(hfree:∀ x∈S,Yv (pt x) M2=false)(hpw:S.Pairwise (fun a b=>pt a≠pt b)) :
  ∀ (m k:Nat) (N:List Zb),m+k=S.length→Srt N→(∀ x,x∈N↔x∈M2∨x∈S.take k)→Yg (I.drop k) (S.drop k) N=(0,L)
 | 0,k,N,hm,hN,hx=>by
  rw[List.drop_of_length_le (by omega),List.drop_of_length_le (by omega),Yg]
  ·rw[Srt.ext hN hL fun x=>by rw[hx x,hmem x,List.take_of_length_le (by omega)]]
  ·intro _ _ _ _ h;cases h
 | m+1,k,N,hm,hN,hx=>by
  have hk:k<S.length:=by omega
  have hk2:k<I.length:=by omega
  have hno:Yv (pt S[k]) N=false:=hasP_no.2 fun c hc e=>by
   rcases (hx c).1 hc with g|g
   ·exact (hasP_no.1 (hfree _ (List.getElem_mem hk))) c g e
   ·obtain⟨j,hj,rfl⟩:=List.mem_take_iff_getElem.1 g
    have hjk:j<k:=by omega
    exact (List.pairwise_iff_getElem.1 hpw j k (by omega) hk hjk) e
  rw[List.drop_eq_getElem_cons hk,List.drop_eq_getElem_cons hk2,Yg,if_neg (by
   rintro (q|q)
   ·exact q (hpt k hk hk2)
   ·rw[hno] at q;cases q)]
  refine Dp I S M2 L hlen hL hpt hmem hfree hpw m (k+1) _ (by omega) (X2 hN) fun x=>?_
  rw[Gy hno,hx x,List.take_succ_eq_append_getElem hk,List.mem_append,List.mem_singleton]
  constructor
  ·rintro (rfl|g|g)
   ·exact .inr (.inr rfl)
   ·exact .inl g
   ·exact .inr (.inl g)
  ·rintro (g|g|rfl)
   ·exact .inr (.inl g)
   ·exact .inr (.inr g)
   ·exact .inl rfl
theorem Zgn{L M S:List Zb}{t:TxD}{name h:Int}(e:apD L t name h=(0,M,S)):rvD M t name S=(0,L):=by
 obtain⟨h1,M2,h2,h3,h4,h5⟩:=H8 e
 obtain⟨hR,hT,_,_,_⟩:=Ww h1
 obtain⟨s1,T,s2,s3,s4,s5,s6,s7,s8⟩:=Q5 h _ _ _ _ _ hR.srt h2
 rw[List.nil_append] at s2
 subst s2
 obtain⟨g1,g2,g3⟩:=Hd name h _ _ _ _ _ s1 h4
 have hb:Yb name 0 t.2.2 M=(0,M2):=by
  have:=F6 name h (isR t) t.2.2 M2 s1 (fun j hj=>by have:=g3 j hj;rwa [Nat.zero_add] at this) t.2.2.length 0 M (by omega) g1 (fun x=>by
   rw[g2 x]
   constructor
   ·rintro (q|⟨j,hj,rfl⟩)
    ·exact .inl q
    ·exact .inr ⟨j,hj,Nat.zero_le _,by rw[Nat.zero_add]⟩
   ·rintro (q|⟨j,hj,_,rfl⟩)
    ·exact .inl q
    ·exact .inr ⟨j,hj,by rw[Nat.zero_add]⟩)
  simpa using this
 have hp:Yg t.2.1 S M2=(0,L):=by
  have:=Dp t.2.1 S M2 L s3 hR.srt s4 s5 s6 s7 S.length 0 M2 (by omega) s1 (fun x=>by simp)
  simpa using this
 have hc:Zh L=0:=(Z6 L).2 hR
 have hb0:Xh M t=0:=by unfold Xh;rw[if_neg (by rw[h5];decide)];exact hT
 rw[Ao hb0 hb hp hc,if_neg (by decide),if_neg (by rw[s3];simp),if_neg (by decide),if_neg (by decide),if_neg (by decide)]
theorem Zex{c:Zb}{L:List Zb}(hs:Srt L)(hn:Yv (pt c) L=false):Zy (Xy c L)=cv c+Zy L:=by
 rw[Ci hs hn,Wi,Xw]
 have:Zy L=Zy (L.take (pos (pt c) L))+Zy (L.drop (pos (pt c) L)):=by rw[←Wi,List.take_append_drop]
 omega
theorem Hc(name h:Int)(r:Bool):∀ (O:List Z7) (i:Nat) (L M:List Zb),Srt L→Zr name h r i O L=(0,M)→Zy M=Zy L+Yc O
 | [],i,L,M,hs,e=>by
  unfold Zr at e
  injection e with _ e
  subst e
  simp[Yc]
 | o :: q,i,L,M,hs,e=>by
  unfold Zr at e
  split at e
  ·injection e with e _;cases e
  ·rename_i hf
   have hf':Yv (pt (Vr name i o h r)) L=false:=by simpa[Vr,pt] using hf
   have h1:=Hc name h r q (i+1) _ M (X2 hs) e
   rw[Zex hs hf'] at h1
   have h2:cv (Vr name i o h r)=o.1:=rfl
   have h3:Yc (o :: q)=o.1+Yc q:=by simp[Yc]
   rw[h1,h2,h3]
   omega
open Go.RowKit
theorem U2{L M S:List Zb}{t:TxD}{name h:Int}(e:apD L t name h=(0,M,S)):Zy M=Zy L - Zy S+Yc t.2.2∧0≤Zy S:=by
 obtain⟨h1,M2,h2,h3,h4,h5⟩:=H8 e
 obtain⟨hR,hT,_,_,_⟩:=Ww h1
 obtain⟨s1,T,s2,s3,s4,s5,s6,s7,s8⟩:=Q5 h _ _ _ _ _ hR.srt h2
 rw[List.nil_append] at s2
 subst s2
 have hg:=Hc name h _ _ _ _ _ s1 h4
 refine⟨by omega,Q0 S fun c hc=>?_⟩
 have:=Xk (hR.one c ((s5 c).2 (.inr hc)))
 omega
theorem Jg{L M S:List Zb}{t:TxD}{name h:Int}(e:apD L t name h=(0,M,S)):Zs L∧Zs M∧Zj t=0:=by
 obtain⟨h1,M2,h2,h3,h4,h5⟩:=H8 e
 obtain⟨hR,hT,_,_,_⟩:=Ww h1
 exact⟨hR,(Z6 M).1 h5,hT⟩
def Uu(T:List TxD)(N:List Int)(S:List (List Zb)):Nat→List Zb→Int×List Zb
 | 0,C=>(0,C)
 | q+1,C=>
  if (rvD C (T.getD ((q+1) % T.length) Wg) (N.getD ((q+1) % T.length) 0) (S.getD ((q+1) % T.length) [])).1≠0 then ((rvD C (T.getD ((q+1) % T.length) Wg) (N.getD ((q+1) % T.length) 0) (S.getD ((q+1) % T.length) [])).1,[])
  else Uu T N S q (rvD C (T.getD ((q+1) % T.length) Wg) (N.getD ((q+1) % T.length) 0) (S.getD ((q+1) % T.length) [])).2
theorem Fu{T:List TxD}{N:List Int}{S:List (List Zb)}{q i:Nat}{C:List Zb}(hi:(q+1) % T.length=i){t:TxD}(ht:T.getD i Wg=t){nm:Int}(hn:N.getD i 0=nm){s:List Zb}(hs:S.getD i []=s){y:Int}{M:List Zb}(ha:rvD C t nm s=(y,M)) :
  Uu T N S (q+1) C=if y≠0 then (y,[]) else Uu T N S q M:=by
 rw[Uu,hi,ht,hn,hs,ha]
theorem Zev{m j k:Nat}(hj:j<k)(hk:k<m):(j+1) % m≠(k+1) % m:=by
 rw[Nat.mod_eq_of_lt (show j+1<m by omega)]
 by_cases e:k+1=m
 ·rw[e,Nat.mod_self];omega
 ·rw[Nat.mod_eq_of_lt (show k+1<m by omega)];omega
theorem Kh{α : Type}(l:List α)(i:Nat)(x d : α)(h:i<l.length):(l.set i x).getD i d=x:=by simp[List.getD,h]
theorem Fl{α : Type}(l:List α){i j:Nat}(x d : α)(h:i≠j):(l.set i x).getD j d=l.getD j d:=by simp[List.getD,List.getElem?_set_ne h]
theorem Yn{h r:Int}{T:List TxD}{N:List Int}{q k:Nat}{C M:List Zb}{S S':List (List Zb)}(e:Xd h r T N (q+1) k C S=(0,M,S')) :
  ¬((k+1) % T.length=0∧Yt r T S T.length<0)∧∃ C1 s,apD C (T.getD ((k+1) % T.length) Wg) (N.getD ((k+1) % T.length) 0) h=(0,C1,s)∧Xd h r T N q (k+1) C1 (S.set ((k+1) % T.length) s)=(0,M,S'):=by
 obtain⟨⟨y,C1,s⟩,ha⟩:∃ a,apD C (T.getD ((k+1) % T.length) Wg) (N.getD ((k+1) % T.length) 0) h=a:=⟨_,rfl⟩
 rw[Tb rfl rfl rfl ha] at e
 split at e
 ·injection e with e1 _;exact absurd e1 (by decide)
 ·rename_i hc
  split at e
  ·rename_i hy;injection e with e1 _;exact absurd e1 hy
  ·rename_i hy
   have hy:y=0:=Decidable.not_not.1 hy
   subst hy
   exact⟨hc,C1,s,ha,e⟩
theorem Fw{h r:Int}{T:List TxD}{N:List Int}:∀ (q k:Nat) (C M:List Zb) (S S':List (List Zb)),Xd h r T N q k C S=(0,M,S')→q+k=T.length→S.length=T.length →
  S'.length=T.length∧(∀ j,j<k→S'.getD ((j+1) % T.length) []=S.getD ((j+1) % T.length) [])∧Uu T N S' T.length M=Uu T N S' k C
 | 0,k,C,M,S,S',e,hk,hS=>by
  rw[Xd] at e
  injection e with _ e
  injection e with e1 e2
  subst e1 e2
  have:k=T.length:=by omega
  subst this
  exact⟨hS,fun _ _=>rfl,rfl⟩
 | q+1,k,C,M,S,S',e,hk,hS=>by
  obtain⟨_,C1,s,ha,e⟩:=Yn e
  obtain⟨i1,i2,i3⟩:=Fw q (k+1) C1 M _ S' e (by omega) (by simpa using hS)
  have hm:(k+1) % T.length<S.length:=by rw[hS];exact Nat.mod_lt _ (by omega)
  refine⟨i1,fun j hj=>?_,?_⟩
  ·rw[i2 j (by omega)]
   exact Fl S s [] (fun e=>Zev hj (show k<T.length by omega) e.symm)
  ·rw[i3]
   have hs:S'.getD ((k+1) % T.length) []=s:=by
    rw[i2 k (Nat.lt_succ_self k)]
    exact Kh S _ s [] hm
   rw[Fu rfl rfl rfl hs (Zgn ha),if_neg (by decide)]
theorem Lw{h r:Int}{T:List TxD}{N:List Int}:∀ (q k:Nat) (C M:List Zb) (S S':List (List Zb)),Xd h r T N q k C S=(0,M,S')→Zs C→Zs M
 | 0,k,C,M,S,S',e,hC=>by
  rw[Xd] at e
  injection e with _ e
  injection e with e1 e2
  subst e1
  exact hC
 | q+1,k,C,M,S,S',e,hC=>by
  obtain⟨_,C1,s,ha,e⟩:=Yn e
  exact Lw q (k+1) C1 M _ S' e (Jg ha).2.1
theorem Zgf{h r:Int}{T:List TxD}{N:List Int}{C M:List Zb}{S':List (List Zb)}(h0:0<T.length)(h4:T.length≤4)(e:Xd h r T N T.length 0 C (List.replicate T.length [])=(0,M,S')):Zy M≤Zy C+r:=by
 match T,h0,h4,e with
 | [t0],_,_,e=>
  obtain⟨c0,C1,s0,a0,e⟩:=Yn (q:=0) e
  rw[Xd] at e
  injection e with _ e
  injection e with e _
  subst e
  have i0:(0+1) % [t0].length=0:=by simp
  rw[i0] at a0
  have a0:apD C t0 (N.getD 0 0) h=(0,C1,s0):=a0
  obtain⟨b0,d0⟩:=U2 a0
  have c0:¬(Yt r [t0] [[]] 1<0):=fun q=>c0 ⟨i0,q⟩
  simp only[Yt,List.take_succ_cons,List.take_zero,List.map_cons,List.map_nil,List.flatten_cons,List.flatten_nil,List.append_nil,Nx] at c0
  omega
 | [t0,t1],_,_,e=>
  obtain⟨_,C1,s1,a1,e⟩:=Yn (q:=1) e
  obtain⟨c0,C2,s0,a0,e⟩:=Yn (q:=0) e
  rw[Xd] at e
  injection e with _ e
  injection e with e _
  subst e
  have a1:apD C t1 (N.getD 1 0) h=(0,C1,s1):=a1
  have i0:(0+1+1) % [t0,t1].length=0:=by simp
  rw[i0] at a0
  have a0:apD C1 t0 (N.getD 0 0) h=(0,C2,s0):=a0
  obtain⟨b1,d1⟩:=U2 a1
  obtain⟨b0,d0⟩:=U2 a0
  have c0:¬(Yt r [t0,t1] [[],s1] 2<0):=fun q=>c0 ⟨i0,q⟩
  simp only[Yt,List.take_succ_cons,List.take_zero,List.map_cons,List.map_nil,List.flatten_cons,List.flatten_nil,List.append_nil,List.nil_append,Ur] at c0
  omega
 | [t0,t1,t2],_,_,e=>
  obtain⟨_,C1,s1,a1,e⟩:=Yn (q:=2) e
  obtain⟨_,C2,s2,a2,e⟩:=Yn (q:=1) e
  obtain⟨c0,C3,s0,a0,e⟩:=Yn (q:=0) e
  rw[Xd] at e
  injection e with _ e
  injection e with e _
  subst e
  have a1:apD C t1 (N.getD 1 0) h=(0,C1,s1):=a1
  have a2:apD C1 t2 (N.getD 2 0) h=(0,C2,s2):=a2
  have i0:(0+1+1+1) % [t0,t1,t2].length=0:=by simp
  rw[i0] at a0
  have a0:apD C2 t0 (N.getD 0 0) h=(0,C3,s0):=a0
  obtain⟨b1,d1⟩:=U2 a1
  obtain⟨b2,d2⟩:=U2 a2
  obtain⟨b0,d0⟩:=U2 a0
  have c0:¬(Yt r [t0,t1,t2] [[],s1,s2] 3<0):=fun q=>c0 ⟨i0,q⟩
  simp only[Yt,List.take_succ_cons,List.take_zero,List.map_cons,List.map_nil,List.flatten_cons,List.flatten_nil,List.append_nil,List.nil_append,Ur,Wi] at c0
  omega
 | [t0,t1,t2,t3],_,_,e=>
  obtain⟨_,C1,s1,a1,e⟩:=Yn (q:=3) e
  obtain⟨_,C2,s2,a2,e⟩:=Yn (q:=2) e
  obtain⟨_,C3,s3,a3,e⟩:=Yn (q:=1) e
  obtain⟨c0,C4,s0,a0,e⟩:=Yn (q:=0) e
  rw[Xd] at e
  injection e with _ e
  injection e with e _
  subst e
  have a1:apD C t1 (N.getD 1 0) h=(0,C1,s1):=a1
  have a2:apD C1 t2 (N.getD 2 0) h=(0,C2,s2):=a2
  have a3:apD C2 t3 (N.getD 3 0) h=(0,C3,s3):=a3
  have i0:(0+1+1+1+1) % [t0,t1,t2,t3].length=0:=by simp
  rw[i0] at a0
  have a0:apD C3 t0 (N.getD 0 0) h=(0,C4,s0):=a0
  obtain⟨b1,d1⟩:=U2 a1
  obtain⟨b2,d2⟩:=U2 a2
  obtain⟨b3,d3⟩:=U2 a3
  obtain⟨b0,d0⟩:=U2 a0
  have c0:¬(Yt r [t0,t1,t2,t3] [[],s1,s2,s3] 4<0):=fun q=>c0 ⟨i0,q⟩
  simp only[Yt,List.take_succ_cons,List.take_zero,List.map_cons,List.map_nil,List.flatten_cons,List.flatten_nil,List.append_nil,List.nil_append,Ur,Wi] at c0
  omega
def R9(K:List ByteArray)(C:List Zb)(b:Uo)(S:List (List Zb)):Int×List Zb:=
 if (nfD K C b).2≠0 then ((nfD K C b).2,[]) else if S.length≠b.2.2.2.2.length then (4,[]) else Uu b.2.2.2.2 (nfD K C b).1 S b.2.2.2.2.length C
theorem Un{b:Uo}(h:Xq b=0):0<b.2.2.2.2.length∧b.2.2.2.2.length≤4∧1≤b.2.1∧b.2.1≤1000:=by
 unfold Xq at h
 split at h
 ·cases h
 rename_i h1
 split at h
 ·cases h
 split at h
 ·cases h
 unfold Xm at h1
 simp only[Bool.not_eq_false,Bool.and_eq_true,decide_eq_true_eq] at h1
 omega
theorem D9{K:List ByteArray}{C:List Zb}{b:Uo}(h:(nfD K C b).2=0):Zs C∧Xq b=0∧∃ X n N,Wn K b=(X,n,N,0)∧(nfD K C b).1=N:=by
 unfold nfD at h ⊢
 split at h
 ·rename_i q;exact absurd h q
 rename_i q
 obtain⟨⟨X,n,N,x⟩,hx⟩:∃ r,Wn K b=r:=⟨_,rfl⟩
 rw[hx] at h
 have h:x=0:=h
 subst h
 rw[if_neg q,hx]
 exact⟨(Z6 C).1 (Decidable.not_not.1 q),(Uh hx).1,X,n,N,rfl,rfl⟩
theorem Zhk{K:List ByteArray}{C:List Zb}{b:Uo}{X:List ByteArray}{n:Int}{N:List Int}(hC:Zs C)(h:Wn K b=(X,n,N,0)):nfD K C b=(N,0):=by
 unfold nfD
 rw[(Z6 C).2 hC,if_neg (by decide),h]
theorem Zgh{K:List ByteArray}{C M:List Zb}{b:Uo}{S:List (List Zb)}(e:Qy K C b=(0,M,S)) :
  Zs C∧Zs M∧Xq b=0∧S.length=b.2.2.2.2.length∧R9 K M b S=(0,C)∧Zy M≤Zy C+(rwD b.2.1).1∧(rwD b.2.1).2=0:=by
 unfold Qy at e
 split at e
 ·rename_i q
  injection e with e _
  exact absurd e q
 rename_i q
 obtain⟨hC,hb,X,n,N,hN,hN2⟩:=D9 (Decidable.not_not.1 q)
 rw[hN2] at e
 obtain⟨h0,h4,h1,h2⟩:=Un hb
 have hM:=Lw _ _ _ _ _ _ e hC
 obtain⟨b1,b2,b3⟩:=Fw _ _ _ _ _ _ e (by omega) (by simp)
 refine⟨hC,hM,hb,b1,?_,Zgf h0 h4 e,?_⟩
 ·unfold R9
  rw[Zhk hM hN,if_neg (fun q=>q rfl),if_neg (fun q=>q b1)]
  exact b3
 ·unfold rwD
  rw[if_pos (by simp only[Bool.and_eq_true,decide_eq_true_eq];omega)]
def RnR(w w':World)(M:List ByteArray)(nm:Int)(N:List Int)(x:Int)(e:Ending):Prop:=
 ∃ a' n' c' a2 n2 c2,e = .returned (.tuple #[.slice a' n' c',.int .i64 nm,.slice a2 n2 c2,.int .i64 x])∧Bk.TextsAt w' a' n' M∧Bk.SlOk a' n' c'∧Bk.IntsAt w' a2 n2 N∧Below w.heap.size w w'
theorem Zco{w w':World}{x:Int}(hb:Below w.heap.size w w'):RnR w w' [] 0 [] x (.returned (.tuple #[.slice none 0 0,.int .i64 0,.slice none 0 0,.int .i64 x])):=
 ⟨none,0,0,none,0,0,rfl,Bk.TextsAt.nil _ _,Bk.SlOk.nil,Bk.IntsAt.nil _ _,hb⟩
theorem Zak{K:List ByteArray}{b:Uo}(hR:Bk.Right K):Bk.allR K (Yy b)=Bk.nmGo K [] (Yy b):=by
 unfold Bk.allR
 rw[if_pos ((Bk.right_iff K).2 hR)]
theorem Ec(T:List TxD)(k:Nat)(h:k<T.length):(T.take (k+1)).map Zv=(T.take k).map Zv++[Zv T[k]]:=by
 rw[List.take_succ_eq_append_getElem h,List.map_append];rfl
set_option maxRecDepth 10000 in
set_option maxHeartbeats 6400000 in
theorem W7(ka:Option Addr)(kn kc:Nat)(K:List ByteArray)(p h k n:Int)(a:Option Addr)(m c:Nat)(T:List TxD)(M:List ByteArray)(nm:Int)(N:List Int)(x:Int)(w:World)(hE:EnvF w)(hK:Bk.TextsAt w ka kn K)(sK:Bk.SlOk ka kn kc)(hR:Bk.Right K)(hT:TxsAt w a m T)(hx:Wn K (p,h,k,n,T)=(M,nm,N,x)) :
  Calls Tryz.prog 11 #[.slice ka kn kc,.agg #[.int .i64 p,.int .i64 h,.int .i64 k,.int .i64 n,.slice a m c]] w fun e w'=>RnR w w' M nm N x e:=by
 obtain⟨X,hX⟩:∃ X,X=w.alloc (.cells #[.int .i64 p,.int .i64 h,.int .i64 k,.int .i64 n,.slice a m c] 28):=⟨_,rfl⟩
 have hbX:Below w.heap.size w X:=by rw[hX];exact bel_new _ _
 have hXb:X.heap[w.heap.size]? = some (.cells [.int .i64 p,.int .i64 h,.int .i64 k,.int .i64 n,.slice a m c].toArray 28 (0,0)):=by rw[hX];exact Yd _ _ _ _ _ _ _
 obtain⟨z,hz⟩:∃ z,Xq (p,h,k,n,T)=z:=⟨_,rfl⟩
 have CK:=hide (Xz p h k n a m c T z X (hT.later hbX) hz)
 have x0:=Za hXb 0 _ rfl
 have x1:=Za hXb 1 _ rfl
 have x2:=Za hXb 2 _ rfl
 have x3:=Za hXb 3 _ rfl
 have x4:=Za hXb 4 _ rfl
 have xl:=lt_of_block hXb
 have HBX:=hide hbX
 have HXB:=hide hXb
 by_cases hz0:z=0
 ·subst hz0
  obtain⟨i0,hi,hz0',hz1,hz2⟩:=info_parts Tryz.info9
  have h4:=(Un hz).2.1
  have zT:T.length=m:=hT.1
  have hm4:m≤4:=by rw[←zT];exact h4
  have hE2:=hE.later hbX
  have HEX:=hide hE2
  have HTX:=hide (hT.later hbX)
  have HKX:=hide (hK.later hbX)
  have HCT:Hid (∀ t∈T,Zj t=0):=(Ve hz).2.2.2.2
  have HZ:=hide hz
  have HZT:=hide zT
  have HX:=hide hx
  have OW:Hid (∀ W:World,W.ownsRow X.heap.size 9 1 (.slice none 0 0) ([]:List ByteArray).length (([]:List ByteArray).map Value.string)):=fun _=>⟨rfl,.inl ⟨rfl,rfl⟩⟩
  clear hE hE2 hK hT hbX hXb hz zT hx h4
  go_enter Tryz.func11,Tryz.ntmps11
  go_wp2_with fail
  rw[←hX]
  clear hX
  (try go_wp2_with fail)
  refine (unhide CK).mono ?_
  rintro e w1 ⟨rfl,hb1⟩
  have HB1:=hide hb1
  have y4:=cell_later hb1 x4
  have yl:=World.block_lt_of_cell? _ _ y4
  clear hb1 CK x0 x1 x2 x3 x4 xl
  go_wp2
  go_loopw [9,21] (fun lv i wr=>∃ (j:Nat) (L:List ByteArray),j≤m∧i = .int .i64 j∧Hid (L=(T.take j).map Zv)∧Hid (wr.ownsRow X.heap.size 9 1 lv L.length (L.map Value.string))∧Hid (Below X.heap.size X wr)) (fun _ i _=>m - (intOf i).toNat)
  case atStart=>exact⟨0,[],Nat.zero_le _,rfl,rfl,(unhide OW) _,HB1⟩
  case round=>
   clear HB1 y4 yl
   obtain⟨j,L,hj,rfl,HL,HO,HB⟩:=hrel
   have hLl:L.length=j:=by
    rw[unhide HL,List.length_map,List.length_take,unhide HZT];omega
   have HLl:=hide hLl
   clear hLl
   obtain⟨av,cw,rfl,sv,-⟩:=Gp (unhide HO)
   by_cases hlt:j<m
   ·have hjT:j<T.length:=by rw[unhide HZT];exact hlt
    obtain⟨tb,tof,rfl,_,htc⟩:=(unhide HTX).2 (by omega)
    have tcell:=htc j hjT
    have L2:Hid (L++[Zv T[j]]=(T.take (j+1)).map Zv):=by show _=_;rw[Ec T j hjT,unhide HL]
    have hck:=(unhide HCT) T[j] (List.getElem_mem hjT)
    obtain⟨t,ht⟩:∃ t,T[j]=t:=⟨_,rfl⟩
    rw[ht] at tcell L2 hck
    obtain⟨t1,⟨ai,ni,ci,t2,hIn,sIn⟩,ao,no2,co,t3,hOut,sOut⟩:=tcell
    obtain⟨th,ti,tout⟩:=t
    simp only at t1 t2 t3 hIn hOut
    have u1:=cell_later (unhide HB) t1
    have u2:=cell_later (unhide HB) t2
    have u3:=cell_later (unhide HB) t3
    have ul:=World.block_lt_of_cell? _ _ u1
    obtain⟨W1,hW1⟩:∃ W1,W1=wr.alloc (.cells #[.int .i64 th,.slice ai ni ci,.slice ao no2 co] 74):=⟨_,rfl⟩
    have hbW1:Below wr.heap.size wr W1:=by rw[hW1];exact bel_new _ _
    have hbXW:=bel_on (unhide HB) hbW1
    have TX:=hide (Kr th ai ao ni ci no2 co ti tout W1 ((unhide HEX).later hbXW) (hIn.later hbXW) (hOut.later hbXW) hck)
    have HBW:=hide hbXW
    have HO1:=hide ((Gr.of (S:=fun _=>False) hbW1).own (unhide HO) (fun _ _ q=>q))
    obtain⟨s,hs⟩:∃ s,Zv (th,ti,tout)=s:=⟨_,rfl⟩
    rw[hs] at TX L2
    clear htc t1 t2 t3 hIn hOut hbW1 hbXW hck ht hs
    go_wp2_with fail
    rw[←hW1]
    clear hW1
    (try go_wp2_with fail)
    refine (unhide TX).mono ?_
    rintro e W2 ⟨rfl,hb2⟩
    have HB2:=hide (bel_on (unhide HBW) hb2)
    have HO2:=(Gr.of (S:=fun _=>False) hb2).own (unhide HO1) (fun _ _ q=>q)
    have hbn:=bel_new W2 (.cells #[.string s] 9)
    have OWN5:=hide ((Gr.of (S:=fun _=>False) hbn).own HO2 (fun _ _ q=>q))
    have NEWS:=hide (World.news_of_block (heap_alloc_new W2 (.cells #[.string s] 9)))
    have HB6:=hide (bel_on (unhide HB2) hbn)
    clear hbn hb2 HO2 TX u1 u2 u3 ul
    go_wp2_with (at_builtin;refine wpList_append_lies _ rfl _ _ 22 rfl X.heap.size 9 i0 (.string ⟨#[]⟩) 1 16 Tryz.underlying22 hi hz0' hz1 hz2 rfl (by decide) _ _ _ rfl (unhide OWN5) ⟨W2.heap.size,0,none⟩ 1 1 [.string s] rfl rfl (unhide NEWS) (fun u hu=>by simp at hu;subst hu;rfl) (by decide) (by have:=unhide HLl;unfold maxLen;omega) (by have:=unhide HLl;omega) (unhide HB6).size _ rfl ?_;intro g7 cap7 w7 hown7 hgrow7 hor7 _)
    have OWN7:Hid (w7.ownsRow X.heap.size 9 1 (.slice (some ⟨g7,0,none⟩) (L.length+1) cap7) (L++[s]).length ((L++[s]).map Value.string)):=by
     show World.ownsRow _ _ _ _ _ _ _
     rw[List.length_append,List.map_append]
     exact hown7
    have HB7:=hide ((unhide HB6).grown hgrow7 (unhide HB6).size (fun k hk=>((unhide OWN5).lt k hk).1))
    clear hown7 hgrow7 hor7
    go_wp2
    go_roundw
    case rel=>exact⟨j+1,L++[s],by omega,by go_num,L2,OWN7,HB7⟩
    case measure=>simp[intOf];omega
   ·obtain rfl:j=m:=by omega
    have hLT:L=T.map Zv:=by rw[unhide HL,List.take_of_length_le (by rw[unhide HZT];exact Nat.le_refl _)]
    obtain⟨⟨M',N',x'⟩,hgo⟩:∃ r,Bk.nmGo K [] (Yy (p,h,k,n,T))=r:=⟨_,rfl⟩
    have b5:=((unhide HB).block _ (lt_of_block (unhide HXB))).trans (unhide HXB)
    have y0:=Za b5 0 _ rfl
    have y1:=Za b5 1 _ rfl
    have y2:=Za b5 2 _ rfl
    have y3:=Za b5 3 _ rfl
    have y4:=Za b5 4 _ rfl
    have yl:=lt_of_block b5
    have BT:=hide (Dk p h k n a j c T wr ((unhide HEX).later (unhide HB)) ((unhide HTX).later (unhide HB)) (unhide HZ))
    obtain⟨s,hs⟩:∃ s,Wy (p,h,k,n,T)=s:=⟨_,rfl⟩
    rw[hs] at BT
    have HGO:=hide hgo
    have HTO:Hid (L++[s]=Yy (p,h,k,n,T)):=by show _=_;rw[hLT,←hs];rfl
    have hml:Hid ((L++[s]).length=j+1):=by show _=_;rw[List.length_append,unhide HLl];rfl
    clear hgo hs b5 hLT hlt
    go_wp2_with fail
    refine (unhide BT).mono ?_
    rintro e W2 ⟨rfl,hb2⟩
    have HB2:=hide (bel_on (unhide HB) hb2)
    have HO2:=(Gr.of (S:=fun _=>False) hb2).own (unhide HO) (fun _ _ q=>q)
    have hbn:=bel_new W2 (.cells #[.string s] 9)
    have OWN5:=hide ((Gr.of (S:=fun _=>False) hbn).own HO2 (fun _ _ q=>q))
    have NEWS:=hide (World.news_of_block (heap_alloc_new W2 (.cells #[.string s] 9)))
    have HB6:=hide (bel_on (unhide HB2) hbn)
    clear hbn hb2 HO2 BT y0 y1 y2 y3 y4 yl
    go_wp2_with (at_builtin;refine wpList_append_lies _ rfl _ _ 22 rfl X.heap.size 9 i0 (.string ⟨#[]⟩) 1 16 Tryz.underlying22 hi hz0' hz1 hz2 rfl (by decide) _ _ _ rfl (unhide OWN5) ⟨W2.heap.size,0,none⟩ 1 1 [.string s] rfl rfl (unhide NEWS) (fun u hu=>by simp at hu;subst hu;rfl) (by decide) (by have:=unhide HLl;unfold maxLen;omega) (by have:=unhide HLl;omega) (unhide HB6).size _ rfl ?_;intro g7 cap7 w7 hown7 hgrow7 hor7 _)
    have hTX7:Bk.TextsAt w7 (some ⟨g7,0,none⟩) (L.length+1) (Yy (p,h,k,n,T)):=by
     rw[←unhide HTO]
     refine Bk.texts_own (base:=X.heap.size) (c:=cap7) ?_
     rw[List.map_append]
     exact hown7
    have HB7:=hide ((unhide HB6).grown hgrow7 (unhide HB6).size (fun k hk=>((unhide OWN5).lt k hk).1))
    have NA:=hide (Bk.namedAll_is ka (some ⟨g7,0,none⟩) kn kc (L.length+1) cap7 K (Yy (p,h,k,n,T)) M' N' x' w7 hR ((unhide HKX).later (unhide HB7)) sK hTX7 (by have:=unhide HLl;omega) (unhide HGO))
    clear hown7 hgrow7 hor7 hTX7
    go_wp2_with fail
    refine (unhide NA).mono ?_
    rintro e w8 ⟨⟨a',n',c',a2,n2,c2,rfl,hT8,s8,hI8,hn2,hc2⟩,hb8⟩
    have HB8:=hide (bel_on (unhide HBX) (bel_on (unhide HB7) hb8))
    have hxx:=unhide HX
    unfold Wn at hxx
    rw[unhide HZ,if_neg (by decide),Zak hR,unhide HGO] at hxx
    by_cases hx0:x'=0
    ·subst hx0
     rw[if_neg (fun q=>q rfl)] at hxx
     have hNl:N'.length=j+1:=by
      have e:=Gw _ _ _ _ _ (unhide HGO)
      rw[e]
      show 0+(Yy (p,h,k,n,T)).length=j+1
      rw[←unhide HTO,unhide hml]
      omega
     have hn2e:n2=j+1:=by rw[←hI8.1];exact hNl
     subst hn2e
     obtain⟨ib,io,rfl,hic⟩:=hI8.2 (by omega)
     have hlast:=hic j (by omega)
     obtain⟨v,hv⟩:∃ v,N'[j]'(by omega)=v:=⟨_,rfl⟩
     rw[hv] at hlast
     have ill:=World.block_lt_of_cell? _ _ hlast
     have HEND:Hid (∀ W,Below w8.heap.size w8 W→RnR w W M nm N x (.returned (.tuple #[.slice a' n' c',.int .i64 v,.slice (some ⟨ib,io,none⟩) j c2,.int .i64 0]))):=by
      intro W hbW
      have hxl:(M',N'.getD j 0,N'.take j,(0:Int))=(M,nm,N,x):=by
       rw[←hxx]
       show _=(M',N'.getD T.length 0,N'.take T.length,(0:Int))
       rw[unhide HZT]
      obtain⟨e1,e2⟩:=Prod.mk.inj hxl
      obtain⟨e2,e3⟩:=Prod.mk.inj e2
      obtain⟨e3,e4⟩:=Prod.mk.inj e3
      rw[←e1,←e2,←e3,←e4]
      refine⟨a',n',c',some ⟨ib,io,none⟩,j,c2,?_,hT8.later hbW,s8,⟨by rw[List.length_take];omega,fun _=>⟨ib,io,rfl,fun i hi=>?_⟩⟩,bel_on (unhide HB8) hbW⟩
      ·have:N'.getD j 0=v:=by rw[←hv];simp[List.getD,hNl]
       rw[this]
      ·rw[List.getElem_take]
       exact cell_later hbW (hic i (by rw[List.length_take] at hi;omega))
     have hjc:j≤c2:=by omega
     have hwj:IntKind.i64.wrap (((j+1:Nat):Int) - 1)=(j:Int):=by rw[IntKind.wrap_i64];omega
     have hj1:((j+1:Nat):Int) - 1=(j:Int):=by omega
     clear hT8 s8 hI8 hic hxx hb8 NA hNl hv
     go_wp2_with fail
     go_quiet (fail)
     go_wp2
     (try simp only[Exit.inBlock,Exit.then])
     refine bodyPost_ret (v:=.tuple #[.slice a' n' c',.int .i64 v,.slice (some ⟨ib,io,none⟩) j c2,.int .i64 0]) ?_ rfl ((unhide HEND) _ ⟨rfl,rfl,rfl,Nat.le_refl _,fun _ _=>rfl⟩)
     simp[results,Tryz.f11,go_sem]
    ·rw[if_pos hx0] at hxx
     have g:(x' != 0)=true:=by simp[hx0]
     have HF2:Hid (RnR w w8 M nm N x (.returned (.tuple #[.slice none 0 0,.int .i64 0,.slice none 0 0,.int .i64 x']))):=by
      obtain⟨e1,e2⟩:=Prod.mk.inj hxx
      obtain⟨e2,e3⟩:=Prod.mk.inj e2
      obtain⟨e3,e4⟩:=Prod.mk.inj e3
      rw[←e1,←e2,←e3,←e4]
      exact Zco (unhide HB8)
     clear hT8 s8 hI8 hxx hb8 NA
     go_wp2
     (try simp only[Exit.inBlock,Exit.then])
     refine bodyPost_ret (v:=.tuple #[.slice none 0 0,.int .i64 0,.slice none 0 0,.int .i64 x']) ?_ rfl (unhide HF2)
     simp[results,Tryz.f11,go_sem]
 ·have HF:Hid ((M,nm,N,x)=(([]:List ByteArray),(0:Int),([]:List Int),z)):=by
   show _=_
   rw[←hx]
   unfold Wn
   rw[hz,if_pos hz0]
  have g:(z != 0)=true:=by simp[hz0]
  clear hE hK hT hbX hXb hx hz
  go_enter Tryz.func11,Tryz.ntmps11
  go_wp2_with fail
  rw[←hX]
  clear hX
  (try go_wp2_with fail)
  refine (unhide CK).mono ?_
  rintro e w1 ⟨rfl,hb1⟩
  have HB1:=hide (bel_on (unhide HBX) hb1)
  have HF2:Hid (RnR w w1 M nm N x (.returned (.tuple #[.slice none 0 0,.int .i64 0,.slice none 0 0,.int .i64 z]))):=by
   obtain⟨e1,e2⟩:=Prod.mk.inj (unhide HF)
   obtain⟨e2,e3⟩:=Prod.mk.inj e2
   obtain⟨e3,e4⟩:=Prod.mk.inj e3
   rw[e1,e2,e3,e4]
   exact Zco (unhide HB1)
  clear hb1 CK
  go_wp2
  (try simp only[Exit.inBlock,Exit.then])
  refine bodyPost_ret (v:=.tuple #[.slice none 0 0,.int .i64 0,.slice none 0 0,.int .i64 z]) ?_ rfl (unhide HF2)
  simp[results,Tryz.f11,go_sem]
end Go.Proofs.YtepmnpapdknocaaGreatDoor
