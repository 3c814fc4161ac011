import Derived.Test.YtmomfkikogbdeaaGreatDoorG20
import Derived.Test.YtmomfkikogbdeaaGreatDoorG21
import Derived.Lib.OwnKind
import Derived.RangeFuncBound
import Derived.RangeFuncNested
namespace Go.Proofs.YtmomfkikogbdeaaGreatDoor
open Go.RowKit
def Cu:List (InD×Value)→List Value
 | []=>[]
 | x :: r=>.int .i64 x.1.1 :: .int .i64 x.1.2.1 :: x.2 :: Cu r
def De:List (Z0×Value)→List Value
 | []=>[]
 | x :: r=>.int .i64 x.1.1 :: x.2 :: De r
theorem W8{w w':World}{base:Nat}{e:TypeId}{size:Nat}{v:Value}{n:Nat}{xs:List Value}(h:w.ownsRow base e size v n xs)(hk:∀ (k:Nat) (cs:Array Value),w.heap[k]? = some (.cells cs e (0,0))→w'.heap[k]? = w.heap[k]?):w'.ownsRow base e size v n xs:=by
 obtain⟨hl,h0|⟨g,cap,cur,hv,hg,hh,r⟩⟩:=h
 ·exact⟨hl,.inl h0⟩
 ·exact⟨hl,.inr ⟨g,cap,cur,hv,hg,(hk g cur hh).trans hh,r⟩⟩
structure PL(w:World)(q p lb:Nat)(A:Array Value)(h:Int)(wr:World)(v1 v2:Value)(L1:List (InD×Value))(L2:List (Z0×Value)):Prop where
 box:wr.heap[p]? = some (.cells #[.int .i64 h,v1,v2] 59 (0,0))
 res:wr.heap[q]? = some (.cells #[.int .i64 0,.slice none 0 0,.slice none 0 0] 59 (0,0))
 pq:p≠q
 lin:wr.heap[lb]? = some (.cells A 9 (0,0))
 own1:wr.ownsRow w.heap.size 119 3 v1 L1.length (Cu L1)
 own2:wr.ownsRow w.heap.size 122 2 v2 L2.length (De L2)
 keys1:∀ x∈L1,wr.ownsRow w.heap.size 164 2 x.2 x.1.2.2.length (flat x.1.2.2)
 keys2:∀ x∈L2,wr.ownsRow w.heap.size 164 2 x.2 x.1.2.length (flat x.1.2)
 bel:Below w.heap.size w wr
 pge:w.heap.size≤p
theorem PL.later{w:World}{q p lb:Nat}{A:Array Value}{h:Int}{wr w':World}{v1 v2:Value}{L1:List (InD×Value)}{L2:List (Z0×Value)}(s:PL w q p lb A h wr v1 v2 L1 L2)(hb:Below wr.heap.size wr w'):PL w q p lb A h w' v1 v2 L1 L2 where
 box:=(hb.block _ (lt_of_block s.box)).trans s.box
 res:=(hb.block _ (lt_of_block s.res)).trans s.res
 pq:=s.pq
 lin:=(hb.block _ (lt_of_block s.lin)).trans s.lin
 own1:=Tb s.own1 hb
 own2:=Tb s.own2 hb
 keys1:=fun x hx=>Tb (s.keys1 x hx) hb
 keys2:=fun x hx=>Tb (s.keys2 x hx) hb
 bel:=Zf s.bel hb
 pge:=s.pge
theorem Sm{w w':World}{base:Nat}{e:TypeId}{size:Nat}{v:Value}{n:Nat}{xs:List Value}(h:w.ownsRow base e size v n xs)(hg:w.grownBy w' v.ownBlock)(k:Nat)(cs:Array Value)(t:TypeId)(hk:w.heap[k]? = some (.cells cs t (0,0)))(ht:t≠e):w'.heap[k]? = w.heap[k]?:=by
 refine hg.block k (lt_of_block hk) (fun e1=>?_)
 obtain⟨_,⟨rfl,_⟩|⟨g,cap,cur,rfl,_,hh,_⟩⟩:=h
 ·cases e1
 ·have e2:k=g:=by injection e1
  subst e2
  rw[hk] at hh
  injection hh with hh
  injection hh with _ hh
  exact ht hh
theorem PL.alloc{w:World}{q p lb:Nat}{A:Array Value}{h:Int}{wr:World}{v1 v2:Value}{L1:List (InD×Value)}{L2:List (Z0×Value)}(s:PL w q p lb A h wr v1 v2 L1 L2)(o:Obj):PL w q p lb A h (wr.alloc o) v1 v2 L1 L2:=s.later (Zi wr o)
theorem PL.drewN{w:World}{q p lb:Nat}{A:Array Value}{h:Int}{wr:World}{v1 v2:Value}{L1:List (InD×Value)}{L2:List (Z0×Value)}(s:PL w q p lb A h wr v1 v2 L1 L2)(n:Nat):PL w q p lb A h (wr.drewN n) v1 v2 L1 L2:=
 s.later ⟨rfl,rfl,rfl,Nat.le_refl _,fun _ _=>rfl⟩
def hd1(x:List UInt8):Option UInt8:=x.head?
theorem Sv:∀ (l L:List ByteArray) (N:List Int) (M:List ByteArray) (N':List Int),Bk.nmGo L N l=(M,N',0)→N'=N++l.map (fun s=>(Bk.place s M:Int))∧∀ s∈l,0<Bk.place s M∧s.size≤4000
 | [],L,N,M,N',h=>by
  unfold Bk.nmGo at h
  injection h with _ h
  injection h with h _
  exact⟨by simp[h],fun s hs=>by cases hs⟩
 | s :: r,L,N,M,N',h=>by
  rw[Bk.nmGo] at h
  split at h
  ·next q=>
   obtain⟨p1,p2,p3⟩:=Bk.nm_place q
   obtain⟨X,hX⟩:=Bk.nmGo_grows r (Bk.nm L s).1 (N++[(Bk.nm L s).2.1]) (by rw[h])
   rw[h] at hX
   simp only at hX
   obtain⟨h1,h2⟩:=Sv r _ _ M N' h
   have e:Bk.place s M=Bk.place s (Bk.nm L s).1:=by rw[hX];exact Bk.place_stays X p2
   refine⟨?_,fun z hz=>?_⟩
   ·rw[h1,List.append_assoc,p1,←e]
    rfl
   ·rcases List.mem_cons.1 hz with rfl|hz
    ·exact⟨by rw[e];exact p2,p3⟩
    ·exact h2 z hz
  ·next q=>
   injection h with _ h
   injection h with _ h
   exact absurd h q
theorem L4{K l X:List ByteArray}{N:List Int}(h:Bk.allR K l=(X,N,0)):Bk.Right K∧Bk.nmGo K [] l=(X,N,0):=by
 unfold Bk.allR at h
 split at h
 ·next q=>exact⟨(Bk.right_iff K).1 q,h⟩
 ·next q=>
  injection h with _ h
  injection h with _ h
  exact absurd h q
theorem Bx{K l X:List ByteArray}{N:List Int}(h:Bk.allR K l=(X,N,0)):Bk.Right X∧∃ M,X=K++M:=by
 obtain⟨h1,h2⟩:=L4 h
 have r:=Bk.nmGo_right l K [] h1 (by rw[h2])
 have g:=Bk.nmGo_grows l K [] (by rw[h2])
 rw[h2] at r g
 exact⟨r,g⟩
theorem Zdf{K:List ByteArray}{b:Zk}{X:List ByteArray}{n:Int}{ns:List Int}(h:Xf K b=(X,n,ns,0)):Yt b=0∧Bk.Right X∧(∀ s∈Yc b,0<Bk.place s X∧s.size≤4000)∧n=(Bk.place (Xt b) X:Int)∧ns=b.2.2.2.2.map (fun t=>(Bk.place (Z5 t) X:Int))∧∃ M,X=K++M:=by
 unfold Xf at h
 split at h
 ·next q=>
  injection h with _ h
  injection h with _ h
  injection h with _ h
  exact absurd h q
 ·next q=>
  split at h
  ·next q2=>
   injection h with _ h
   injection h with _ h
   injection h with _ h
   exact absurd h q2
  ·next q2=>
   obtain⟨X',N,x,e⟩:∃ X' N x,Bk.allR K (Yc b)=(X',N,x):=⟨_,_,_,rfl⟩
   rw[e] at h q2
   obtain rfl:x=0:=Decidable.not_not.1 q2
   injection h with h1 h
   injection h with h2 h
   injection h with h3 _
   simp only at h1 h2 h3
   subst h1
   obtain⟨r,g⟩:=Bx e
   obtain⟨p1,p2⟩:=Sv _ _ _ _ _ (L4 e).2
   rw[List.nil_append] at p1
   refine⟨Decidable.not_not.1 q,r,p2,?_,?_,g⟩
   ·rw[←h2,p1]
    simp[Yc]
   ·rw[←h3,p1]
    simp[Yc]
theorem hasP_no{p:PtD}{L:List Zh}:We p L=false↔∀ c∈L,pt c≠p:=by
 rw[←Bool.not_eq_true,Je]
 exact⟨fun h c hc e=>h ⟨c,hc,e⟩,fun h ⟨c,hc,e⟩=>h c hc e⟩
theorem Tw{L M S:List Zh}{t:TxD}{name h:Int}(e:apD L t name h=(0,M,S)):Wy L t name h=0∧∃ M2,Zr h t.2.1 [] L=(0,S,M2)∧Ff S t=0∧Yd name h (isR t) 0 t.2.2 M2=(0,M)∧Zy M=0:=by
 obtain⟨x1,h1⟩:∃ x1,Wy L t name h=x1:=⟨_,rfl⟩
 obtain⟨⟨x2,S2,M2⟩,h2⟩:∃ r,Zr h t.2.1 [] L=r:=⟨_,rfl⟩
 obtain⟨x3,h3⟩:∃ x3,Ff S2 t=x3:=⟨_,rfl⟩
 obtain⟨⟨x4,M4⟩,h4⟩:∃ r,Yd name h (isR t) 0 t.2.2 M2=r:=⟨_,rfl⟩
 obtain⟨x5,h5⟩:∃ x5,Zy M4=x5:=⟨_,rfl⟩
 rw[Zer h1 h2 h3 h4 h5] at e
 split at e
 ·rename_i q;injection e with e _;exact absurd e q
 rename_i q1
 split at e
 ·rename_i q;injection e with e _;exact absurd e q
 rename_i q2
 split at e
 ·rename_i q;injection e with e _;exact absurd e q
 rename_i q3
 split at e
 ·rename_i q;injection e with e _;exact absurd e q
 rename_i q4
 split at e
 ·rename_i q;injection e with e _;exact absurd e q
 rename_i q5
 have e1:x1=0:=by omega
 have e2:x2=0:=by omega
 have e3:x3=0:=by omega
 have e4:x4=0:=by omega
 have e5:x5=0:=by omega
 injection e with _ e
 injection e with ea eb
 subst e1 e2 e3 e4 e5 ea eb
 exact⟨h1,M2,h2,h3,h4,h5⟩
theorem Hf(name h:Int)(r:Bool):∀ (O:List Z0) (i:Nat) (L M:List Zh),Srt L→Yd name h r i O L=(0,M) →
  Srt M∧(∀ x,x∈M↔x∈L∨∃ j,∃ hj:j<O.length,x=Sf name (i+j) O[j] h r)∧(∀ j,j<O.length→We (name,((i+j:Nat):Int)) L=false)
 | [],i,L,M,hs,e=>by
  unfold Yd at e
  injection e with _ e
  subst e
  exact⟨hs,fun x=>⟨.inl,fun q=>q.elim id fun ⟨j,hj,_⟩=>absurd hj (by simp)⟩,fun j hj=>absurd hj (by simp)⟩
 | o :: q,i,L,M,hs,e=>by
  unfold Yd at e
  split at e
  ·injection e with e _;cases e
  ·rename_i hf
   have hf':We (pt (Sf name i o h r)) L=false:=by simpa[Sf,pt] using hf
   obtain⟨h1,h2,h3⟩:=Hf name h r q (i+1) _ M (R9 hs) e
   refine⟨h1,fun x=>?_,fun j hj=>?_⟩
   ·rw[h2 x,G5 hf']
    constructor
    ·rintro ((rfl|g)|⟨j,hj,rfl⟩)
     ·exact .inr ⟨0,by simp,by simp⟩
     ·exact .inl g
     ·exact .inr ⟨j+1,by simpa using hj,by simp[Nat.add_assoc,Nat.add_comm 1 j]⟩
    ·rintro (g|⟨j,hj,rfl⟩)
     ·exact .inl (.inr g)
     ·cases j with
      | zero=>exact .inl (.inl (by simp))
      | succ j=>exact .inr ⟨j,by simpa using hj,by simp[Nat.add_assoc,Nat.add_comm 1 j]⟩
   ·cases j with
    | zero=>simpa[Sf,pt] using hf'
    | succ j=>
     have:=h3 j (by simpa using hj)
     rw[show i+1+j=i+(j+1) by omega] at this
     refine hasP_no.2 fun c hc=>(hasP_no.1 this) c ((G5 hf').2 (.inr hc))
theorem Fv(name h:Int)(r:Bool)(O:List Z0)(L:List Zh)(hL:Srt L)(hfree:∀ j,j<O.length→We (name,((j:Nat):Int)) L=false):∀ (m k:Nat) (N:List Zh),m+k=O.length→Srt N→(∀ x,x∈N↔x∈L∨∃ j,∃ hj:j<O.length,k≤j∧x=Sf name j O[j] h r)→Ww name k (O.drop k) N=(0,L)
 | 0,k,N,hm,hN,hx=>by
  rw[List.drop_of_length_le (by omega),Ww]
  rw[Srt.ext hN hL fun x=>by
   rw[hx x]
   exact⟨fun q=>q.elim id fun ⟨j,hj,hk,_⟩=>absurd hj (by omega),.inl⟩]
 | m+1,k,N,hm,hN,hx=>by
  have hk:k<O.length:=by omega
  have hmem:Sf name k O[k] h r∈N:=(hx _).2 (.inr ⟨k,hk,Nat.le_refl _,rfl⟩)
  have ht:=K8 (p:=(name,(k:Int))) hN hmem rfl
  rw[List.drop_eq_getElem_cons hk,Ww,ht]
  simp only
  rw[if_pos (by rfl)]
  refine Fv name h r O L hL hfree m (k+1) _ (by omega) (hN.filter _) fun x=>?_
  rw[List.mem_filter,hx x,decide_eq_true_eq]
  constructor
  ·rintro ⟨g|⟨j,hj,hkj,rfl⟩,hne⟩
   ·exact .inl g
   ·refine .inr ⟨j,hj,?_,rfl⟩
    rcases Nat.lt_or_ge k j with q|q
    ·exact q
    ·obtain rfl:j=k:=by omega
     exact absurd rfl hne
  ·rintro (g|⟨j,hj,hkj,rfl⟩)
   ·exact⟨.inl g,(hasP_no.1 (hfree k hk)) x g⟩
   ·refine⟨.inr ⟨j,hj,by omega,rfl⟩,fun q=>?_⟩
    have q2:((j:Nat):Int)=((k:Nat):Int):=congrArg Prod.snd q
    omega
theorem Ni{p:PtD}{c:Zh}:∀ {L:List Zh},Srt L→c∈L→pt c=p→Zo L=cv c+Zo (L.filter fun d=>decide (pt d≠p))
 | [],_,hc,_=>by cases hc
 | d :: r,hs,hc,e=>by
  rw[Y0]
  rcases List.mem_cons.1 hc with rfl|hc
  ·rw[List.filter_cons_of_neg (by simp[e])]
   have:r.filter (fun d=>decide (pt d≠p))=r:=by
    rw[List.filter_eq_self]
    intro y hy
    exact decide_eq_true (fun q=>Tg (hs.head y hy) (by rw[e,q]))
   rw[this]
  ·have hne:pt d≠p:=fun q=>Tg (hs.head c hc) (by rw[e,q])
   rw[List.filter_cons_of_pos (by simp[hne]),Y0,Ni hs.tail hc e]
   omega
theorem Uf(h:Int):∀ (I:List InD) (S0 L S M:List Zh),Srt L→Zr h I S0 L=(0,S,M) →
  Srt M∧∃ T,S=S0++T∧T.length=I.length∧(∀ j (h1:j<T.length) (h2:j<I.length),pt T[j]=(I[j].1,I[j].2.1))∧(∀ x,x∈L↔x∈M∨x∈T)∧(∀ x∈T,We (pt x) M=false)∧T.Pairwise (fun a b=>pt a≠pt b)∧Zo L=Zo M+Zo T
 | [],S0,L,S,M,hs,e=>by
  unfold Zr at e
  injection e with _ e
  injection e with e1 e2
  subst e1 e2
  exact⟨hs,[],by simp,rfl,fun j h1=>absurd h1 (by simp),fun x=>by simp,fun x hx=>(by cases hx),List.Pairwise.nil,by simp[Zo]⟩
 | x :: r,S0,L,S,M,hs,e=>by
  unfold Zr at e
  split at e
  ·injection e with e _;cases e
  ·rename_i c L' ht
   split at e
   ·injection e with e _;cases e
   ·split at e
    ·injection e with e _;cases e
    ·obtain⟨t1,t2,t3⟩:=Rd ht
     obtain⟨h1,T,h2,h3,h4,h5,h6,h7,h8⟩:=Uf h r _ L' S M (by rw[t3];exact hs.filter _) e
     have hin:∀ y,y∈L'↔y∈L∧pt y≠(x.1,x.2.1):=fun y=>by rw[t3,List.mem_filter,decide_eq_true_eq]
     refine⟨h1,c :: T,by rw[h2,List.append_assoc];rfl,by simp[h3],fun j h1 h2=>?_,fun y=>?_,fun y hy=>?_,?_,?_⟩
     ·cases j with
      | zero=>exact t2
      | succ j=>exact h4 j (by simpa using h1) (by simpa using h2)
     ·constructor
      ·intro hy
       by_cases q:pt y=(x.1,x.2.1)
       ·exact .inr (by rw[hs.inj hy t1 (by rw[q,t2])];exact List.mem_cons_self ..)
       ·rcases (h5 y).1 ((hin y).2 ⟨hy,q⟩) with g|g
        ·exact .inl g
        ·exact .inr (List.mem_cons_of_mem _ g)
      ·rintro (g|g)
       ·exact ((hin y).1 ((h5 y).2 (.inl g))).1
       ·rcases List.mem_cons.1 g with rfl|g
        ·exact t1
        ·exact ((hin y).1 ((h5 y).2 (.inr g))).1
     ·rcases List.mem_cons.1 hy with rfl|hy
      ·refine hasP_no.2 fun d hd e=>?_
       exact ((hin d).1 ((h5 d).2 (.inl hd))).2 (by rw[e,t2])
      ·exact h6 y hy
     ·refine List.pairwise_cons.2 ⟨fun y hy e=>?_,h7⟩
      exact ((hin y).1 ((h5 y).2 (.inr hy))).2 (by rw[←e,t2])
     ·have h9:=Ni hs t1 t2
      rw[←t3] at h9
      rw[h9,h8,Y0]
      omega
theorem N6(I:List InD)(S M2 L:List Zh)(hlen:S.length=I.length)(hL:Srt L)(hpt:∀ j (h1:j<S.length) (h2:j<I.length),pt S[j]=(I[j].1,I[j].2.1))(hmem:∀ x,x∈L↔x∈M2∨x∈S)(hfree:∀ x∈S,We (pt x) M2=false)(hpw:S.Pairwise (fun a b=>pt a≠pt b)) :
  ∀ (m k:Nat) (N:List Zh),m+k=S.length→Srt N→(∀ x,x∈N↔x∈M2∨x∈S.take k)→Vv (I.drop k) (S.drop k) N=(0,L)
 | 0,k,N,hm,hN,hx=>by
  rw[List.drop_of_length_le (by omega),List.drop_of_length_le (by omega),Vv]
  ·rw[Srt.ext hN hL fun x=>by rw[hx x,hmem x,List.take_of_length_le (by omega)]]
  ·intro _ _ _ _ h;cases h
 | m+1,k,N,hm,hN,hx=>by
  have hk:k<S.length:=by omega
  have hk2:k<I.length:=by omega
  have hno:We (pt S[k]) N=false:=hasP_no.2 fun c hc e=>by
   rcases (hx c).1 hc with g|g
   ·exact (hasP_no.1 (hfree _ (List.getElem_mem hk))) c g e
   ·obtain⟨j,hj,rfl⟩:=List.mem_take_iff_getElem.1 g
    have hjk:j<k:=by omega
    exact (List.pairwise_iff_getElem.1 hpw j k (by omega) hk hjk) e
  rw[List.drop_eq_getElem_cons hk,List.drop_eq_getElem_cons hk2,Vv,if_neg (by
   rintro (q|q)
   ·exact q (hpt k hk hk2)
   ·rw[hno] at q;cases q)]
  refine N6 I S M2 L hlen hL hpt hmem hfree hpw m (k+1) _ (by omega) (R9 hN) fun x=>?_
  rw[G5 hno,hx x,List.take_succ_eq_append_getElem hk,List.mem_append,List.mem_singleton]
  constructor
  ·rintro (rfl|g|g)
   ·exact .inr (.inr rfl)
   ·exact .inl g
   ·exact .inr (.inl g)
  ·rintro (g|g|rfl)
   ·exact .inr (.inl g)
   ·exact .inr (.inr g)
   ·exact .inl rfl
theorem Zgx{L M S:List Zh}{t:TxD}{name h:Int}(e:apD L t name h=(0,M,S)):rvD M t name S=(0,L):=by
 obtain⟨h1,M2,h2,h3,h4,h5⟩:=Tw e
 obtain⟨hR,hT,_,_,_⟩:=Xn h1
 obtain⟨s1,T,s2,s3,s4,s5,s6,s7,s8⟩:=Uf h _ _ _ _ _ hR.srt h2
 rw[List.nil_append] at s2
 subst s2
 obtain⟨g1,g2,g3⟩:=Hf name h _ _ _ _ _ s1 h4
 have hb:Ww name 0 t.2.2 M=(0,M2):=by
  have:=Fv name h (isR t) t.2.2 M2 s1 (fun j hj=>by have:=g3 j hj;rwa [Nat.zero_add] at this) t.2.2.length 0 M (by omega) g1 (fun x=>by
   rw[g2 x]
   constructor
   ·rintro (q|⟨j,hj,rfl⟩)
    ·exact .inl q
    ·exact .inr ⟨j,hj,Nat.zero_le _,by rw[Nat.zero_add]⟩
   ·rintro (q|⟨j,hj,_,rfl⟩)
    ·exact .inl q
    ·exact .inr ⟨j,hj,by rw[Nat.zero_add]⟩)
  simpa using this
 have hp:Vv t.2.1 S M2=(0,L):=by
  have:=N6 t.2.1 S M2 L s3 hR.srt s4 s5 s6 s7 S.length 0 M2 (by omega) s1 (fun x=>by simp)
  simpa using this
 have hc:Zy L=0:=(Zz L).2 hR
 have hb0:Ve M t=0:=by unfold Ve;rw[if_neg (by rw[h5];decide)];exact hT
 rw[Zhz hb0 hb hp hc,if_neg (by decide),if_neg (by rw[s3];simp),if_neg (by decide),if_neg (by decide),if_neg (by decide)]
theorem Zfi{c:Zh}{L:List Zh}(hs:Srt L)(hn:We (pt c) L=false):Zo (Sd c L)=cv c+Zo L:=by
 rw[Co hs hn,Xg,Y0]
 have:Zo L=Zo (L.take (pos (pt c) L))+Zo (L.drop (pos (pt c) L)):=by rw[←Xg,List.take_append_drop]
 omega
theorem Rm(name h:Int)(r:Bool):∀ (O:List Z0) (i:Nat) (L M:List Zh),Srt L→Yd name h r i O L=(0,M)→Zo M=Zo L+Yw O
 | [],i,L,M,hs,e=>by
  unfold Yd at e
  injection e with _ e
  subst e
  simp[Yw]
 | o :: q,i,L,M,hs,e=>by
  unfold Yd at e
  split at e
  ·injection e with e _;cases e
  ·rename_i hf
   have hf':We (pt (Sf name i o h r)) L=false:=by simpa[Sf,pt] using hf
   have h1:=Rm name h r q (i+1) _ M (R9 hs) e
   rw[Zfi hs hf'] at h1
   have h2:cv (Sf name i o h r)=o.1:=rfl
   have h3:Yw (o :: q)=o.1+Yw q:=by simp[Yw]
   rw[h1,h2,h3]
   omega
theorem Pd:∀ (O:List Z0),Yk O=0→∀ o∈O,1≤o.1
 | [],_=>by simp
 | x :: r,h=>by
  intro o ho
  unfold Yk at h
  split at h
  ·rename_i h1
   rcases List.mem_cons.1 ho with rfl|ho
   ·unfold Y6 at h1
    split at h1
    ·cases h1
    ·omega
   ·exact Pd r h o ho
  ·rename_i h1;exact absurd h h1
theorem Nk:∀ (O:List Z0),O≠[]→(∀ o∈O,1≤o.1)→0<Yw O
 | [],h,_=>absurd rfl h
 | x :: r,_,h=>by
  have h3:Yw (x :: r)=x.1+Yw r:=by simp[Yw]
  have h1:=h x (List.mem_cons_self ..)
  cases r with
  | nil=>rw[h3];simp[Yw];omega
  | cons y q=>
   have:=Nk (y :: q) (by simp) (fun o ho=>h o (List.mem_cons_of_mem _ ho))
   omega
theorem Zeq{L M S:List Zh}{t:TxD}{name h:Int}(e:apD L t name h=(0,M,S)):(t.2.1.length=0→Zo L<Zo M)∧(t.2.1.length≠0→Zo M≤Zo L):=by
 obtain⟨h1,M2,h2,h3,h4,h5⟩:=Tw e
 obtain⟨hR,hT,_,_,_⟩:=Xn h1
 obtain⟨s1,T,s2,s3,s4,s5,s6,s7,s8⟩:=Uf h _ _ _ _ _ hR.srt h2
 rw[List.nil_append] at s2
 subst s2
 have hg:=Rm name h _ _ _ _ _ s1 h4
 obtain⟨t1,t2,t3,t4,t5,t6,t7⟩:=V9 hT
 constructor
 ·intro h0
  have hS:S=[]:=List.length_eq_zero_iff.1 (by rw[s3,h0])
  have:=Nk t.2.2 (fun q=>by rw[q] at t3;simp at t3) (Pd _ t6)
  rw[hS,Ga] at s8
  omega
 ·intro h0
  unfold Ff isR at h3
  split at h3
  ·cases h3
  ·rename_i q
   have:¬(Zo S - Yw t.2.2<0):=fun r=>q ⟨r,decide_eq_false h0⟩
   omega
theorem Uq{L M S:List Zh}{t:TxD}{name h:Int}(e:apD L t name h=(0,M,S)):Zo M=Zo L - Zo S+Yw t.2.2∧0≤Zo S:=by
 obtain⟨h1,M2,h2,h3,h4,h5⟩:=Tw e
 obtain⟨hR,hT,_,_,_⟩:=Xn h1
 obtain⟨s1,T,s2,s3,s4,s5,s6,s7,s8⟩:=Uf h _ _ _ _ _ hR.srt h2
 rw[List.nil_append] at s2
 subst s2
 have hg:=Rm name h _ _ _ _ _ s1 h4
 refine⟨by omega,X4 S fun c hc=>?_⟩
 have:=Yp (hR.one c ((s5 c).2 (.inr hc)))
 omega
theorem H9{L M S:List Zh}{t:TxD}{name h:Int}(e:apD L t name h=(0,M,S)):Z6 L∧Z6 M∧Zx t=0:=by
 obtain⟨h1,M2,h2,h3,h4,h5⟩:=Tw e
 obtain⟨hR,hT,_,_,_⟩:=Xn h1
 exact⟨hR,(Zz M).1 h5,hT⟩
def Hj(T:List TxD)(N:List Int)(S:List (List Zh)):Nat→List Zh→Int×List Zh
 | 0,C=>(0,C)
 | q+1,C=>
  if (rvD C (T.getD ((q+1) % T.length) Qz) (N.getD ((q+1) % T.length) 0) (S.getD ((q+1) % T.length) [])).1≠0 then ((rvD C (T.getD ((q+1) % T.length) Qz) (N.getD ((q+1) % T.length) 0) (S.getD ((q+1) % T.length) [])).1,[])
  else Hj T N S q (rvD C (T.getD ((q+1) % T.length) Qz) (N.getD ((q+1) % T.length) 0) (S.getD ((q+1) % T.length) [])).2
theorem Zdz{T:List TxD}{N:List Int}{S:List (List Zh)}{q i:Nat}{C:List Zh}(hi:(q+1) % T.length=i){t:TxD}(ht:T.getD i Qz=t){nm:Int}(hn:N.getD i 0=nm){s:List Zh}(hs:S.getD i []=s){y:Int}{M:List Zh}(ha:rvD C t nm s=(y,M)) :
  Hj T N S (q+1) C=if y≠0 then (y,[]) else Hj T N S q M:=by
 rw[Hj,hi,ht,hn,hs,ha]
theorem Zfe{m j k:Nat}(hj:j<k)(hk:k<m):(j+1) % m≠(k+1) % m:=by
 rw[Nat.mod_eq_of_lt (show j+1<m by omega)]
 by_cases e:k+1=m
 ·rw[e,Nat.mod_self];omega
 ·rw[Nat.mod_eq_of_lt (show k+1<m by omega)];omega
theorem Km{α : Type}(l:List α)(i:Nat)(x d : α)(h:i<l.length):(l.set i x).getD i d=x:=by simp[List.getD,h]
theorem Dv{α : Type}(l:List α){i j:Nat}(x d : α)(h:i≠j):(l.set i x).getD j d=l.getD j d:=by simp[List.getD,List.getElem?_set_ne h]
theorem Yr{h r:Int}{T:List TxD}{N:List Int}{q k:Nat}{C M:List Zh}{S S':List (List Zh)}(e:Wd h r T N (q+1) k C S=(0,M,S')) :
  ¬((k+1) % T.length=0∧Xo r T S T.length<0)∧∃ C1 s,apD C (T.getD ((k+1) % T.length) Qz) (N.getD ((k+1) % T.length) 0) h=(0,C1,s)∧Wd h r T N q (k+1) C1 (S.set ((k+1) % T.length) s)=(0,M,S'):=by
 obtain⟨⟨y,C1,s⟩,ha⟩:∃ a,apD C (T.getD ((k+1) % T.length) Qz) (N.getD ((k+1) % T.length) 0) h=a:=⟨_,rfl⟩
 rw[Fi rfl rfl rfl ha] at e
 split at e
 ·injection e with e1 _;exact absurd e1 (by decide)
 ·rename_i hc
  split at e
  ·rename_i hy;injection e with e1 _;exact absurd e1 hy
  ·rename_i hy
   have hy:y=0:=Decidable.not_not.1 hy
   subst hy
   exact⟨hc,C1,s,ha,e⟩
theorem Fh{h r:Int}{T:List TxD}{N:List Int}:∀ (q k:Nat) (C M:List Zh) (S S':List (List Zh)),Wd h r T N q k C S=(0,M,S')→q+k=T.length→S.length=T.length →
  S'.length=T.length∧(∀ j,j<k→S'.getD ((j+1) % T.length) []=S.getD ((j+1) % T.length) [])∧Hj T N S' T.length M=Hj T N S' k C
 | 0,k,C,M,S,S',e,hk,hS=>by
  rw[Wd] at e
  injection e with _ e
  injection e with e1 e2
  subst e1 e2
  have:k=T.length:=by omega
  subst this
  exact⟨hS,fun _ _=>rfl,rfl⟩
 | q+1,k,C,M,S,S',e,hk,hS=>by
  obtain⟨_,C1,s,ha,e⟩:=Yr e
  obtain⟨i1,i2,i3⟩:=Fh q (k+1) C1 M _ S' e (by omega) (by simpa using hS)
  have hm:(k+1) % T.length<S.length:=by rw[hS];exact Nat.mod_lt _ (by omega)
  refine⟨i1,fun j hj=>?_,?_⟩
  ·rw[i2 j (by omega)]
   exact Dv S s [] (fun e=>Zfe hj (show k<T.length by omega) e.symm)
  ·rw[i3]
   have hs:S'.getD ((k+1) % T.length) []=s:=by
    rw[i2 k (Nat.lt_succ_self k)]
    exact Km S _ s [] hm
   rw[Zdz rfl rfl rfl hs (Zgx ha),if_neg (by decide)]
theorem Lt{h r:Int}{T:List TxD}{N:List Int}:∀ (q k:Nat) (C M:List Zh) (S S':List (List Zh)),Wd h r T N q k C S=(0,M,S')→Z6 C→Z6 M
 | 0,k,C,M,S,S',e,hC=>by
  rw[Wd] at e
  injection e with _ e
  injection e with e1 e2
  subst e1
  exact hC
 | q+1,k,C,M,S,S',e,hC=>by
  obtain⟨_,C1,s,ha,e⟩:=Yr e
  exact Lt q (k+1) C1 M _ S' e (H9 ha).2.1
theorem Zgq{h r:Int}{T:List TxD}{N:List Int}{C M:List Zh}{S':List (List Zh)}(h0:0<T.length)(h4:T.length≤4)(e:Wd h r T N T.length 0 C (List.replicate T.length [])=(0,M,S')):Zo M≤Zo C+r:=by
 match T,h0,h4,e with
 | [t0],_,_,e=>
  obtain⟨c0,C1,s0,a0,e⟩:=Yr (q:=0) e
  rw[Wd] at e
  injection e with _ e
  injection e with e _
  subst e
  have i0:(0+1) % [t0].length=0:=by simp
  rw[i0] at a0
  have a0:apD C t0 (N.getD 0 0) h=(0,C1,s0):=a0
  obtain⟨b0,d0⟩:=Uq a0
  have c0:¬(Xo r [t0] [[]] 1<0):=fun q=>c0 ⟨i0,q⟩
  simp only[Xo,List.take_succ_cons,List.take_zero,List.map_cons,List.map_nil,List.flatten_cons,List.flatten_nil,List.append_nil,Ga] at c0
  omega
 | [t0,t1],_,_,e=>
  obtain⟨_,C1,s1,a1,e⟩:=Yr (q:=1) e
  obtain⟨c0,C2,s0,a0,e⟩:=Yr (q:=0) e
  rw[Wd] at e
  injection e with _ e
  injection e with e _
  subst e
  have a1:apD C t1 (N.getD 1 0) h=(0,C1,s1):=a1
  have i0:(0+1+1) % [t0,t1].length=0:=by simp
  rw[i0] at a0
  have a0:apD C1 t0 (N.getD 0 0) h=(0,C2,s0):=a0
  obtain⟨b1,d1⟩:=Uq a1
  obtain⟨b0,d0⟩:=Uq a0
  have c0:¬(Xo r [t0,t1] [[],s1] 2<0):=fun q=>c0 ⟨i0,q⟩
  simp only[Xo,List.take_succ_cons,List.take_zero,List.map_cons,List.map_nil,List.flatten_cons,List.flatten_nil,List.append_nil,List.nil_append,Ue] at c0
  omega
 | [t0,t1,t2],_,_,e=>
  obtain⟨_,C1,s1,a1,e⟩:=Yr (q:=2) e
  obtain⟨_,C2,s2,a2,e⟩:=Yr (q:=1) e
  obtain⟨c0,C3,s0,a0,e⟩:=Yr (q:=0) e
  rw[Wd] at e
  injection e with _ e
  injection e with e _
  subst e
  have a1:apD C t1 (N.getD 1 0) h=(0,C1,s1):=a1
  have a2:apD C1 t2 (N.getD 2 0) h=(0,C2,s2):=a2
  have i0:(0+1+1+1) % [t0,t1,t2].length=0:=by simp
  rw[i0] at a0
  have a0:apD C2 t0 (N.getD 0 0) h=(0,C3,s0):=a0
  obtain⟨b1,d1⟩:=Uq a1
  obtain⟨b2,d2⟩:=Uq a2
  obtain⟨b0,d0⟩:=Uq a0
  have c0:¬(Xo r [t0,t1,t2] [[],s1,s2] 3<0):=fun q=>c0 ⟨i0,q⟩
  simp only[Xo,List.take_succ_cons,List.take_zero,List.map_cons,List.map_nil,List.flatten_cons,List.flatten_nil,List.append_nil,List.nil_append,Ue,Xg] at c0
  omega
 | [t0,t1,t2,t3],_,_,e=>
  obtain⟨_,C1,s1,a1,e⟩:=Yr (q:=3) e
  obtain⟨_,C2,s2,a2,e⟩:=Yr (q:=2) e
  obtain⟨_,C3,s3,a3,e⟩:=Yr (q:=1) e
  obtain⟨c0,C4,s0,a0,e⟩:=Yr (q:=0) e
  rw[Wd] at e
  injection e with _ e
  injection e with e _
  subst e
  have a1:apD C t1 (N.getD 1 0) h=(0,C1,s1):=a1
  have a2:apD C1 t2 (N.getD 2 0) h=(0,C2,s2):=a2
  have a3:apD C2 t3 (N.getD 3 0) h=(0,C3,s3):=a3
  have i0:(0+1+1+1+1) % [t0,t1,t2,t3].length=0:=by simp
  rw[i0] at a0
  have a0:apD C3 t0 (N.getD 0 0) h=(0,C4,s0):=a0
  obtain⟨b1,d1⟩:=Uq a1
  obtain⟨b2,d2⟩:=Uq a2
  obtain⟨b3,d3⟩:=Uq a3
  obtain⟨b0,d0⟩:=Uq a0
  have c0:¬(Xo r [t0,t1,t2,t3] [[],s1,s2,s3] 4<0):=fun q=>c0 ⟨i0,q⟩
  simp only[Xo,List.take_succ_cons,List.take_zero,List.map_cons,List.map_nil,List.flatten_cons,List.flatten_nil,List.append_nil,List.nil_append,Ue,Xg] at c0
  omega
def disD(K:List ByteArray)(C:List Zh)(b:Zk)(S:List (List Zh)):Int×List Zh:=
 if (nfD K C b).2≠0 then ((nfD K C b).2,[]) else if S.length≠b.2.2.2.2.length then (4,[]) else Hj b.2.2.2.2 (nfD K C b).1 S b.2.2.2.2.length C
theorem Ht{b:Zk}(h:Yt b=0):0<b.2.2.2.2.length∧b.2.2.2.2.length≤4∧1≤b.2.1∧b.2.1≤1000:=by
 unfold Yt at h
 split at h
 ·cases h
 rename_i h1
 split at h
 ·cases h
 split at h
 ·cases h
 unfold Wu at h1
 simp only[Bool.not_eq_false,Bool.and_eq_true,decide_eq_true_eq] at h1
 omega
theorem Zdi{K:List ByteArray}{C:List Zh}{b:Zk}(h:(nfD K C b).2=0):Z6 C∧Yt b=0∧∃ X n N,Xf K b=(X,n,N,0)∧(nfD K C b).1=N:=by
 unfold nfD at h ⊢
 split at h
 ·rename_i q;exact absurd h q
 rename_i q
 obtain⟨⟨X,n,N,x⟩,hx⟩:∃ r,Xf K b=r:=⟨_,rfl⟩
 rw[hx] at h
 have h:x=0:=h
 subst h
 rw[if_neg q,hx]
 exact⟨(Zz C).1 (Decidable.not_not.1 q),(Zdf hx).1,X,n,N,rfl,rfl⟩
theorem Zim{K:List ByteArray}{C:List Zh}{b:Zk}{X:List ByteArray}{n:Int}{N:List Int}(hC:Z6 C)(h:Xf K b=(X,n,N,0)):nfD K C b=(N,0):=by
 unfold nfD
 rw[(Zz C).2 hC,if_neg (by decide),h]
theorem Mn{K:List ByteArray}{C M:List Zh}{b:Zk}{S:List (List Zh)}(e:Wf K C b=(0,M,S)) :
  Z6 C∧Z6 M∧Yt b=0∧S.length=b.2.2.2.2.length∧disD K M b S=(0,C)∧Zo M≤Zo C+(rwD b.2.1).1∧(rwD b.2.1).2=0:=by
 unfold Wf at e
 split at e
 ·rename_i q
  injection e with e _
  exact absurd e q
 rename_i q
 obtain⟨hC,hb,X,n,N,hN,hN2⟩:=Zdi (Decidable.not_not.1 q)
 rw[hN2] at e
 obtain⟨h0,h4,h1,h2⟩:=Ht hb
 have hM:=Lt _ _ _ _ _ _ e hC
 obtain⟨b1,b2,b3⟩:=Fh _ _ _ _ _ _ e (by omega) (by simp)
 refine⟨hC,hM,hb,b1,?_,Zgq h0 h4 e,?_⟩
 ·unfold disD
  rw[Zim hM hN,if_neg (fun q=>q rfl),if_neg (fun q=>q b1)]
  exact b3
 ·unfold rwD
  rw[if_pos (by simp only[Bool.and_eq_true,decide_eq_true_eq];omega)]
open Bk (Right nm nameR)
def doD(h:Int)(s:List ByteArray×List Zh)(t:TxD):Int×List ByteArray×List Zh:=
 if Zx t≠0 then (Zx t,s) else if t.2.1.length=0 then (4,s) else
 if (nameR s.1 (txT t)).2.2≠0 then ((nameR s.1 (txT t)).2.2,s) else
 if (apD s.2 t (nameR s.1 (txT t)).2.1 h).1≠0 then ((apD s.2 t (nameR s.1 (txT t)).2.1 h).1,s) else
 (0,(nameR s.1 (txT t)).1,(apD s.2 t (nameR s.1 (txT t)).2.1 h).2.1)
def Zs(h:Int):List TxD→List ByteArray×List Zh→List TxD×List ByteArray×List Zh
 | [],s=>([],s)
 | t :: l,s=>if (doD h s t).1=0 then (t :: (Zs h l (doD h s t).2).1,(Zs h l (doD h s t).2).2) else Zs h l s
theorem As{K:List ByteArray}{s:ByteArray}(hK:Right K)(h0:(nameR K s).2.2=0):Right (nameR K s).1∧(∃ M,(nameR K s).1=K++M)∧∀ M,Right ((nameR K s).1++M)→nameR ((nameR K s).1++M) s=((nameR K s).1++M,(nameR K s).2.1,0):=by
 have e:nameR K s=nm K s:=by unfold nameR;rw[if_pos ((Bk.right_iff K).2 hK)]
 rw[e] at h0 ⊢
 refine⟨Bk.nm_right hK h0,Bk.nm_grows h0,fun M hM=>?_⟩
 obtain⟨h1,h2,h3⟩:=Bk.nm_place h0
 have e2:nameR ((nm K s).1++M) s=nm ((nm K s).1++M) s:=by unfold nameR;rw[if_pos ((Bk.right_iff _).2 hM)]
 have h4:=Bk.place_stays M h2
 rw[e2,Bk.nm_there h3 (by rw[h4];exact h2),h4,h1]
theorem To{h:Int}{K:List ByteArray}{C:List Zh}{t:TxD}(hK:Right K)(h0:(doD h (K,C) t).1=0) :
  Right (doD h (K,C) t).2.1∧(∃ M,(doD h (K,C) t).2.1=K++M)∧∀ M,Right ((doD h (K,C) t).2.1++M)→doD h ((doD h (K,C) t).2.1++M,C) t=(0,(doD h (K,C) t).2.1++M,(doD h (K,C) t).2.2):=by
 by_cases q1:Zx t≠0
 ·unfold doD at h0;rw[if_pos q1] at h0;exact absurd h0 q1
 by_cases q2:t.2.1.length=0
 ·unfold doD at h0;rw[if_neg q1,if_pos q2] at h0;exact absurd (show (4:Int)=0 from h0) (by decide)
 by_cases q3:(nameR K (txT t)).2.2≠0
 ·unfold doD at h0;rw[if_neg q1,if_neg q2,if_pos q3] at h0;exact absurd h0 q3
 by_cases q4:(apD C t (nameR K (txT t)).2.1 h).1≠0
 ·unfold doD at h0;rw[if_neg q1,if_neg q2,if_neg q3,if_pos q4] at h0;exact absurd h0 q4
 have e:doD h (K,C) t=(0,(nameR K (txT t)).1,(apD C t (nameR K (txT t)).2.1 h).2.1):=by
  unfold doD;rw[if_neg q1,if_neg q2,if_neg q3,if_neg q4]
 obtain⟨n1,n2,n3⟩:=As hK (Decidable.not_not.1 q3)
 rw[e]
 refine⟨n1,n2,fun M hM=>?_⟩
 have e2:=n3 M hM
 unfold doD
 rw[if_neg q1,if_neg q2]
 simp only
 rw[e2]
 simp only
 rw[if_neg (fun r=>r rfl),if_neg q4]
theorem Wh{h:Int}:∀ (l:List TxD) (K:List ByteArray) (C:List Zh),Right K→Right (Zs h l (K,C)).2.1∧∃ M,(Zs h l (K,C)).2.1=K++M
 | [],K,C,hK=>⟨hK,[],by simp[Zs]⟩
 | t :: l,K,C,hK=>by
  rw[Zs]
  by_cases q:(doD h (K,C) t).1=0
  ·rw[if_pos q]
   obtain⟨d1,⟨M,d2⟩,_⟩:=To hK q
   obtain⟨s1,M2,s2⟩:=Wh l (doD h (K,C) t).2.1 (doD h (K,C) t).2.2 d1
   exact⟨s1,M++M2,by rw[s2,d2,List.append_assoc]⟩
  ·rw[if_neg q]
   exact Wh l K C hK
theorem R4{h:Int}:∀ (l:List TxD) (K:List ByteArray) (C:List Zh) (M:List ByteArray),Right K→Right ((Zs h l (K,C)).2.1++M) →
  Zs h (Zs h l (K,C)).1 ((Zs h l (K,C)).2.1++M,C)=((Zs h l (K,C)).1,(Zs h l (K,C)).2.1++M,(Zs h l (K,C)).2.2)
 | [],K,C,M,_,_=>rfl
 | t :: l,K,C,M,hK,hM=>by
  by_cases q:(doD h (K,C) t).1=0
  ·have e:Zs h (t :: l) (K,C)=(t :: (Zs h l (doD h (K,C) t).2).1,(Zs h l (doD h (K,C) t).2).2):=by rw[Zs,if_pos q]
   rw[e] at hM ⊢
   obtain⟨d1,_,d3⟩:=To hK q
   obtain⟨M2,s2⟩:=(Wh (h:=h) l (doD h (K,C) t).2.1 (doD h (K,C) t).2.2 d1).2
   have s2':(Zs h l (doD h (K,C) t).2).2.1=(doD h (K,C) t).2.1++M2:=s2
   have hd:=d3 (M2++M) (by rw[←List.append_assoc,←s2'];exact hM)
   rw[←List.append_assoc,←s2'] at hd
   have ih:=R4 l (doD h (K,C) t).2.1 (doD h (K,C) t).2.2 M d1 hM
   show Zs h (t :: (Zs h l (doD h (K,C) t).2).1) ((Zs h l (doD h (K,C) t).2).2.1++M,C)=_
   rw[Zs,hd,if_pos (show (0:Int)=0 from rfl)]
   exact congrArg (fun r:List TxD×List ByteArray×List Zh=>(t :: r.1,r.2)) ih
  ·have e:Zs h (t :: l) (K,C)=Zs h l (K,C):=by rw[Zs,if_neg q]
   rw[e] at hM ⊢
   exact R4 l K C M hK hM
theorem Ce{h:Int}{t:TxD}:∀ (l:List TxD) (s s1 s2:List ByteArray×List Zh),Zs h l s=(l,s1)→doD h s1 t=(0,s2)→Zs h (l++[t]) s=(l++[t],s2)
 | [],s,s1,s2,hl,hd=>by
  rw[Zs] at hl
  obtain⟨_,rfl⟩:=Prod.mk.inj hl
  rw[List.nil_append,Zs,hd]
  rfl
 | x :: l,s,s1,s2,hl,hd=>by
  rw[Zs] at hl
  by_cases q:(doD h s x).1=0
  ·rw[if_pos q] at hl
   obtain⟨h1,h2⟩:=Prod.mk.inj hl
   have h3:=(List.cons.inj h1).2
   have ih:=Ce l (doD h s x).2 s1 s2 (Prod.ext h3 h2) hd
   rw[List.cons_append,Zs,if_pos q,ih]
  ·rw[if_neg q] at hl
   exact absurd (congrArg (fun r=>r.1.length) hl) (by have:=sw_few (h:=h) l s;simp only[List.length_cons];omega)
 where
 sw_few {h:Int}:∀ (l:List TxD) (s:List ByteArray×List Zh),(Zs h l s).1.length≤l.length
 | [],s=>by simp[Zs]
 | t :: l,s=>by
  rw[Zs]
  split
  ·simp only[List.length_cons];have:=sw_few (h:=h) l (doD h s t).2;omega
  ·have:=sw_few (h:=h) l s;simp only[List.length_cons];omega
theorem Zha{h:Int}{l:List TxD}{K K2:List ByteArray}{C C2:List Zh}{t:TxD}(hK:Right K)(hd:doD h (Zs h l (K,C)).2 t=(0,K2,C2)) :
  Zs h ((Zs h l (K,C)).1++[t]) (K2,C)=((Zs h l (K,C)).1++[t],K2,C2):=by
 obtain⟨s1,_⟩:=Wh (h:=h) l K C hK
 have hd':doD h ((Zs h l (K,C)).2.1,(Zs h l (K,C)).2.2) t=(0,K2,C2):=hd
 obtain⟨d1,⟨M,d2⟩,d3⟩:=To s1 (by rw[hd'])
 rw[hd'] at d1 d2 d3
 simp only at d1 d2 d3
 have hw:=R4 (h:=h) l K C M hK (by rw[←d2];exact d1)
 rw[←d2] at hw
 have h3:=d3 [] (by rw[List.append_nil];exact d1)
 rw[List.append_nil] at h3
 exact Ce _ _ _ _ hw h3
theorem Gr.cell{w w':World}{S:Nat→Prop}(h:Gr w w' S){p:Addr}{v:Value}(hc:w.cell? p=some v)(hn:¬S p.block):w'.cell? p=some v:=
 (World.cell?_of_block (h.block p.block (World.block_lt_of_cell? _ _ hc) hn)).trans hc
theorem Fresh.now{B:Nat}{w:World}{Q:World→Prop}(h:Fresh B w Q):Q w:=h w (Gr.refl _ _)
theorem Fresh.on{B:Nat}{w w':World}{Q:World→Prop}(h:Fresh B w Q)(g:Gr w w' (fun k=>k<B)):Fresh B w' Q:=fun w2 g2=>h w2 (g.trans g2)
theorem Fresh.later{B:Nat}{w w':World}{Q:World→Prop}(h:Fresh B w Q)(g:Below w.heap.size w w'):Fresh B w' Q:=h.on (Gr.of g)
theorem Fresh.less{B B':Nat}{w:World}{Q:World→Prop}(h:Fresh B' w Q)(hb:B≤B'):Fresh B w Q:=fun w2 g2=>h w2 (g2.mono fun _ _ hk=>Nat.lt_of_lt_of_le hk hb)
theorem Fresh.imp{B:Nat}{w:World}{Q R:World→Prop}(h:Fresh B w Q)(f:∀ w2,Q w2→R w2):Fresh B w R:=fun w2 g2=>f w2 (h w2 g2)
end Go.Proofs.YtmomfkikogbdeaaGreatDoor
namespace Go.Proofs.YtmomfkikogbdeaaGreatDoor.Tr
open Go.RowKit
theorem Yv(w:World)(a b:Value)(t:TypeId):(w.alloc (.cells #[a,b] t)).heap[w.heap.size]? = some (.cells [a,b].toArray t (0,0)):=heap_alloc_new w _
theorem Ym{w:World}{base:Nat}{e:TypeId}{size:Nat}{v:Value}{n:Nat}{xs:List Value}(h:w.ownsRow base e size v n xs):∃ a c,v = .slice a n c∧SlOk a n c∧∀ ad,a=some ad→base≤ad.block∧ad.block<w.heap.size:=by
 rcases h.2 with ⟨rfl,rfl⟩|⟨g,cap,cur,rfl,hg,hh,h1,h2,_⟩
 ·exact⟨none,0,rfl,⟨Nat.le_refl _,Nat.zero_le _,fun _=>⟨rfl,rfl⟩⟩,fun ad e=>by cases e⟩
 ·exact⟨_,cap,rfl,⟨h1,h2,fun e=>by cases e⟩,fun ad e=>by cases e;exact⟨hg,lt_of_block hh⟩⟩
def Qv(w:World)(b o:Nat)(cs:List Value):Prop:=∀ j u,cs[j]? = some u→w.cell? ⟨b,o+j,none⟩=some u
structure Rec(α : Type) where
 sz:Nat
 C:World→List Value → α→Prop
 R:World→Nat→Nat → α→Prop
 wide:∀ w cs x,C w cs x→cs.length=sz
 one:∀ w cs x,C w cs x→∀ v∈cs,v.oneCell'=true
 kept:∀ w w' cs x,Below w.heap.size w w'→C w cs x→C w' cs x
 rc:∀ w b o x,R w b o x→∃ cs,Qv w b o cs∧C w cs x
 cr:∀ w b o cs x,Qv w b o cs→C w cs x→R w b o x
def AllC{α : Type}(Z:Rec α)(w:World)(K:List (List Value))(L:List α):Prop:=K.length=L.length∧∀ i (h:i<L.length) (h':i<K.length),Z.C w K[i] L[i]
theorem Wm{α : Type}{Z:Rec α}{w:World}:∀ {K:List (List Value)} {L:List α},AllC Z w K L→K.flatten.length=L.length*Z.sz
 | [],[],_=>by simp
 | [],_ :: _,h=>by cases h.1
 | _ :: _,[],h=>by cases h.1
 | k :: K,x :: L,h=>by
  have h1:AllC Z w K L:=⟨by simpa using h.1,fun i h1 h2=>h.2 (i+1) (by simpa using h1) (by simpa using h2)⟩
  have h2:=Z.wide _ _ _ (h.2 0 (by simp) (by simp))
  simp only[List.getElem_cons_zero] at h2
  rw[List.flatten_cons,List.length_append,Wm h1,h2,List.length_cons,Nat.succ_mul];omega
theorem flat_one{α : Type}{Z:Rec α}{w:World}{K:List (List Value)}{L:List α}(h:AllC Z w K L):∀ u∈K.flatten,u.oneCell'=true:=by
 intro u hu
 obtain⟨k,hk,hu⟩:=List.mem_flatten.1 hu
 obtain⟨i,hi,rfl⟩:=List.getElem_of_mem hk
 exact Z.one _ _ _ (h.2 i (by rw[←h.1];exact hi) hi) u hu
theorem AllC.later{α : Type}{Z:Rec α}{w w':World}{K:List (List Value)}{L:List α}(h:AllC Z w K L)(hb:Below w.heap.size w w'):AllC Z w' K L:=
 ⟨h.1,fun i h1 h2=>Z.kept _ _ _ _ hb (h.2 i h1 h2)⟩
theorem AllC.snoc{α : Type}{Z:Rec α}{w:World}{K:List (List Value)}{L:List α}(h:AllC Z w K L){k:List Value}{x : α}(hx:Z.C w k x):AllC Z w (K++[k]) (L++[x]):=by
 refine⟨by simp[h.1],fun i h1 h2=>?_⟩
 rcases Nat.lt_or_ge i L.length with q|q
 ·rw[List.getElem_append_left (h:=by rw[h.1];exact q),List.getElem_append_left (h:=q)]
  exact h.2 i q (by rw[h.1];exact q)
 ·have e:i=L.length:=by simp at h1;omega
  subst e
  rw[List.getElem_append_right (by rw[h.1];exact Nat.le_refl _),List.getElem_append_right (Nat.le_refl _)]
  simpa[h.1] using hx
theorem Jv{α : Type}{Z:Rec α}{w:World}:∀ {K:List (List Value)} {L:List α} (_:AllC Z w K L) (i:Nat) (h':i<K.length) (j:Nat) (_:j<Z.sz),K.flatten[i*Z.sz+j]? = (K[i])[j]?
 | [],_,_,_,h',_,_=>absurd h' (by simp)
 | _ :: _,[],h,_,_,_,_=>by cases h.1
 | k :: K,x :: L,h,0,_,j,hj=>by
  have h2:=Z.wide _ _ _ (h.2 0 (by simp) (by simp))
  simp only[List.getElem_cons_zero] at h2
  rw[List.flatten_cons,List.getElem?_append_left (by omega)]
  simp
 | k :: K,x :: L,h,i+1,h',j,hj=>by
  have h1:AllC Z w K L:=⟨by simpa using h.1,fun i h1 h2=>h.2 (i+1) (by simpa using h1) (by simpa using h2)⟩
  have h2:=Z.wide _ _ _ (h.2 0 (by simp) (by simp))
  simp only[List.getElem_cons_zero] at h2
  rw[List.flatten_cons,List.getElem?_append_right (by rw[h2,Nat.succ_mul];omega),h2]
  rw[show (i+1)*Z.sz+j - Z.sz=i*Z.sz+j by rw[Nat.succ_mul];omega]
  rw[Jv h1 i (by simpa using h') j hj]
  simp
theorem Qa{α : Type}(Z:Rec α){w:World}{b off:Nat}{L:List α}(h:∀ i (h:i<L.length),Z.R w b (off+i*Z.sz) L[i]):∃ K,AllC Z w K L∧Qv w b off K.flatten:=by
 have h2:∀ k,k≤L.length→∃ K,AllC Z w K (L.take k)∧Qv w b off K.flatten:=by
  intro k
  induction k with
  | zero=>intro _;exact⟨[],⟨by simp,fun i h1 h2=>absurd h2 (by simp)⟩,fun j u hj=>by simp at hj⟩
  | succ k ih=>
   intro hk
   obtain⟨K,h1,h3⟩:=ih (by omega)
   obtain⟨cs,h4,h5⟩:=Z.rc _ _ _ _ (h k (by omega))
   refine⟨K++[cs],by rw[List.take_succ_eq_append_getElem (by omega)];exact h1.snoc h5,fun j u hj=>?_⟩
   have hl:=Wm h1
   rw[List.length_take,Nat.min_eq_left (by omega)] at hl
   rw[List.flatten_append] at hj
   rcases Nat.lt_or_ge j K.flatten.length with q|q
   ·rw[List.getElem?_append_left q] at hj;exact h3 j u hj
   ·rw[List.getElem?_append_right q] at hj
    have:=h4 (j - K.flatten.length) u (by simpa using hj)
    rw[show off+k*Z.sz+(j - K.flatten.length)=off+j by omega] at this
    exact this
 obtain⟨K,h1,h3⟩:=h2 L.length (Nat.le_refl _)
 rw[List.take_length] at h1
 exact⟨K,h1,h3⟩
theorem rows_of_own{α : Type}(Z:Rec α){w:World}{base n:Nat}{e:TypeId}{v:Value}{K:List (List Value)}{L:List α}(h:w.ownsRow base e Z.sz v n K.flatten)(hc:AllC Z w K L)(hn:L.length=n):∃ a c,v = .slice a n c∧RowsAt Z.R Z.sz w a n L∧SlOk a n c:=by
 rcases h.2 with ⟨rfl,rfl⟩|⟨g,cap,cur,rfl,hg,hh,h1,h2,h3,h4⟩
 ·exact⟨none,0,rfl,⟨hn,fun h=>absurd h (by omega)⟩,Nat.le_refl _,Nat.zero_le _,fun _=>⟨rfl,rfl⟩⟩
 ·refine⟨_,cap,rfl,⟨hn,fun _=>⟨g,0,rfl,lt_of_block hh,fun i hi=>?_⟩⟩,h1,h2,fun e=>by cases e⟩
  have hi':i<K.length:=by rw[hc.1];exact hi
  refine Z.cr _ _ _ (K[i]) _ (fun j u hj=>?_) (hc.2 i hi hi')
  have hw:=Z.wide _ _ _ (hc.2 i hi hi')
  have hjl:j<Z.sz:=by rw[←hw];exact (List.getElem?_eq_some_iff.1 hj).1
  rw[Nat.zero_add,World.ownsRow.cellAt h _ (by
   have:(i+1)*Z.sz≤n*Z.sz:=Nat.mul_le_mul_right _ (by omega)
   rw[Nat.succ_mul] at this;omega),Jv hc i hi' j hjl]
  exact hj
end Go.Proofs.YtmomfkikogbdeaaGreatDoor.Tr
namespace Go.Proofs.YtmomfkikogbdeaaGreatDoor
open Go.RowKit
theorem Gr.row{w w1:World}{S:Nat→Prop}(h:Gr w w1 S){g:Nat}(hg:S g∨w.heap.size≤g)(cs:Array Value):Gr w (w1.setRow g cs) S:=
 ⟨h.os,h.tape,h.output,by rw[setRow_size];exact h.size,fun i hi hn=>(setRow_other w1 g i cs (fun e=>by
  subst e
  rcases hg with q|q
  ·exact hn q
  ·omega)).trans (h.block i hi hn)⟩
section
variable {P : Program}
end
theorem tk{P:Program}{ops:Array Oper}{Q:Exit→Act→World→Prop}{md:Region.Mode}{S:World→Prop}(i:Nat)(oi:Oper)(v:Value){fuel:Nat}{listed:Array Bool}{a:Act}{w:World}(hi:ops[i]? = some oi)
  (hy:∀ w,S w→(execOp a.eval oi).run P w = .ok (.value v) w) (hS:S w) (h:wpAnyH P md ops Q S fuel (listed.setIfInBounds i true) (a.put oi.dst v) w)
  (hQ:∀ c a w,Q (.panic c) (a.put oi.dst v) w→Q (.panic c) a w:=by exact fun _ _ _ h=>h) (hw:Region.wanted oi (yielded ops a.tmps)=true:=by rfl)
  (hs:Region.noSelect ops=true:=by kernel_rfl) (hf:Region.free md ops listed i=true:=by kernel_rfl) (hr:(Region.ready md ops listed).contains i=true:=by kernel_rfl) :
  wpAnyH P md ops Q S (fuel+1) listed a w:=wpAnyH_take hi hs hf hr hQ (Or.inl ⟨hw,hy⟩) hS h
open Go.RowKit Go.Shelf
attribute [local go_sem] Oper.semAt_some
structure KpD(n1 b c:Nat)(W W':World):Prop where
 os:W'.os=W.os
 tape:W'.tape=W.tape
 output:W'.output=W.output
 size:W.heap.size≤W'.heap.size
 block:∀ k,k<n1→k≠b→k≠c→W'.heap[k]? = W.heap[k]?
theorem KpD.refl(n1 b c:Nat)(W:World):KpD n1 b c W W:=⟨rfl,rfl,rfl,Nat.le_refl _,fun _ _ _ _=>rfl⟩
theorem KpD.trans{n1 b c:Nat}{A B C:World}(h:KpD n1 b c A B)(k:KpD n1 b c B C):KpD n1 b c A C:=
 ⟨k.os.trans h.os,k.tape.trans h.tape,k.output.trans h.output,Nat.le_trans h.size k.size,fun i h1 h2 h3=>(k.block i h1 h2 h3).trans (h.block i h1 h2 h3)⟩
theorem KpD.put{n1 b c:Nat}(W:World)(l:Nat)(o:Obj)(h:n1≤l):KpD n1 b c W (W.putObj l o):=
 ⟨rfl,rfl,rfl,by simp,fun k hk _ _=>World.putObj_heap_other (by omega)⟩
theorem KpD.set{n1 b c:Nat}{W W':World}(h:KpD n1 b c W W'){p:Addr}(hp:p.block=b∨p.block=c)(u:Value):KpD n1 b c W (W'.setCell p u):=
 ⟨h.os,h.tape,h.output,by simpa[World.setCell] using h.size,fun k h1 h2 h3=>(Below.heap_setCell W' p u k (fun e=>by subst e;rcases hp with q|q;exact h2 q;exact h3 q)).trans (h.block k h1 h2 h3)⟩
theorem KpD.on{n1 b c:Nat}{W W1 W2:World}(h:KpD n1 b c W W1)(hb:Below W1.heap.size W1 W2)(hn:n1≤W1.heap.size):KpD n1 b c W W2:=
 ⟨hb.os.trans h.os,hb.tape.trans h.tape,hb.output.trans h.output,Nat.le_trans h.size hb.size,fun k h1 h2 h3=>(hb.block k (by omega)).trans (h.block k h1 h2 h3)⟩
theorem KpD.grown{n1 b c:Nat}{W W1 W2:World}(h:KpD n1 b c W W1){row:Option Nat}(g:W1.grownBy W2 row)(hr:∀ r,row=some r→n1≤r)(hn:n1≤W1.heap.size):KpD n1 b c W W2:=
 ⟨g.os.trans h.os,g.tape.trans h.tape,g.output.trans h.output,Nat.le_trans h.size g.size,fun k h1 h2 h3=>(g.block k (by omega) (fun e=>by have:=hr k e.symm;omega)).trans (h.block k h1 h2 h3)⟩
theorem KpD.below{n1 b c:Nat}{w W0 W:World}(h:KpD n1 b c W0 W)(hb:Below w.heap.size w W0)(hn:w.heap.size≤n1)(h1:w.heap.size≤b)(h2:w.heap.size≤c):Below w.heap.size w W:=
 ⟨h.os.trans hb.os,h.tape.trans hb.tape,h.output.trans hb.output,Nat.le_trans hb.size h.size,fun k hk=>(h.block k (by omega) (by omega) (by omega)).trans (hb.block k hk)⟩
theorem KpD.cell{n1 b c:Nat}{W W':World}(h:KpD n1 b c W W'){k o:Nat}{v:Value}(hk:k<n1)(h2:k≠b)(h3:k≠c)(hv:W.cell? ⟨k,o,none⟩=some v):W'.cell? ⟨k,o,none⟩=some v:=
 (World.cell?_of_block (a:=⟨k,o,none⟩) (h.block k hk h2 h3)).trans hv
def Box1(W:World)(k:Nat):Prop:=∃ v t fr,W.heap[k]? = some (.cells #[v] t fr)
theorem Box1.two{W:World}{k:Nat}(h:Box1 W k){o:Nat}{v:Value}(h2:W.cell? ⟨k,o+1,none⟩=some v):False:=by
 obtain⟨x,t,fr,hx⟩:=h
 rw[cell_of_row W k (o+1) #[x] t fr hx] at h2
 simp at h2
theorem Zfs{W W':World}{S:Nat→Prop}(hk:∀ k,k<W.heap.size→¬S k→W'.heap[k]? = W.heap[k]?)(hB:∀ k,S k→Box1 W k){a:Option Addr}{n:Nat}{l:List (Int×Int)}(h:OpsAt W a n l):OpsAt W' a n l:=by
 refine⟨h.1,fun h0=>?_⟩
 obtain⟨b,off,rfl,hc⟩:=h.2 h0
 refine⟨b,off,rfl,fun i hi=>?_⟩
 obtain⟨c0,c1⟩:=hc i hi
 have e:=hk b (World.block_lt_of_cell? _ _ c0) (fun q=>(hB b q).two c1)
 exact⟨(World.cell?_of_block (a:=⟨b,_,none⟩) e).trans c0,(World.cell?_of_block (a:=⟨b,_,none⟩) e).trans c1⟩
theorem Zaz{W W':World}{S:Nat→Prop}(hs:W.heap.size≤W'.heap.size)(hk:∀ k,k<W.heap.size→¬S k→W'.heap[k]? = W.heap[k]?)(hB:∀ k,S k→Box1 W k){a:Option Addr}{n:Nat}{L:List Zh}(h:CoinsAt W a n L):CoinsAt W' a n L:=by
 refine⟨h.1,fun h0=>?_⟩
 obtain⟨b,off,rfl,hl,hc⟩:=h.2 h0
 refine⟨b,off,rfl,Nat.lt_of_lt_of_le hl hs,fun i hi=>?_⟩
 obtain⟨c0,c1,c2,⟨la,ln,lc,c3,h5,h6⟩,c4,c5⟩:=hc i hi
 have e:=hk b hl (fun q=>(hB b q).two c1)
 have g:=fun (o:Nat)=>World.cell?_of_block (a:=⟨b,o,none⟩) e
 exact⟨(g _).trans c0,(g _).trans c1,(g _).trans c2,⟨la,ln,lc,(g _).trans c3,Zfs hk hB h5,h6⟩,(g _).trans c4,(g _).trans c5⟩
end Go.Proofs.YtmomfkikogbdeaaGreatDoor
namespace Go.Proofs.YtmomfkikogbdeaaGreatDoor
open Go.RowKit
theorem Zl{P:Program}{ops:Array Oper}{o:Oper}{a:Act}{w:World}{K:Act→World→Prop}{Q:Exit→Act→World→Prop}{E:Prop}
  (hw:Region.wanted o (yielded ops a.tmps)=true) (f:FuncId) (vs:Array Value) (he:(execOp a.eval o).run P w = .ok (.enter f vs) w) {R:Ending→World→Prop} (hc:Calls P f vs w R) (h:∀ e w',R e w'→∃ v,e = .returned v∧K (a.put o.dst v) w') :
  if Region.wanted o (yielded ops a.tmps)=true then Oper.wp P o a w K Q else E:=by
 rw[if_pos hw]
 unfold Oper.wp
 rw[he,Oper.upon_enter]
 refine hc.mono ?_
 intro e w' hr
 obtain⟨v,rfl,hk⟩:=h e w' hr
 exact hk
theorem L9{P:Program}{ops:Array Oper}{o:Oper}{a:Act}{w:World}{K:Act→World→Prop}{Q:Exit→Act→World→Prop}{E:Prop}
  (hg:o.guard=none) (f:FuncId) (vs:Array Value) (he:(execOp a.eval o).run P w = .ok (.enter f vs) w) {R:Ending→World→Prop} (hc:Calls P f vs w R) (h:∀ e w',R e w'→∃ v,e = .returned v∧K (a.put o.dst v) w') :
  if Region.wanted o (yielded ops a.tmps)=true then Oper.wp P o a w K Q else E:=
 Zl (by simp[Region.wanted,hg]) f vs he hc h
end Go.Proofs.YtmomfkikogbdeaaGreatDoor
