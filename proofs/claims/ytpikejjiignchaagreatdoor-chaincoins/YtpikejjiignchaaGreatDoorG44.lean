import Derived.Test.YtpikejjiignchaaGreatDoorG43
namespace Go.Proofs.YtpikejjiignchaaGreatDoor
open Tr (fnd chkTr Yt pathE blockE TrOk)
def Yn(K:List ByteArray)(N:List Int)(T:List Zk):List Int→List Zf→Int×List Zf×List (List (List Zf))
 | [],C=>(0,C,[])
 | x :: R,C=>if (Xp K C (fnd x N T)).1≠0 then ((Xp K C (fnd x N T)).1,[],[]) else
   if (Yn K N T R (Xp K C (fnd x N T)).2.1).1≠0 then ((Yn K N T R (Xp K C (fnd x N T)).2.1).1,[],[]) else
   (0,(Yn K N T R (Xp K C (fnd x N T)).2.1).2.1,(Xp K C (fnd x N T)).2.2 :: (Yn K N T R (Xp K C (fnd x N T)).2.1).2.2)
theorem Rh{K:List ByteArray}{N:List Int}{T:List Zk}{x:Int}{R:List Int}{C M:List Zf}{U:List (List (List Zf))}(h:Yn K N T (x :: R) C=(0,M,U)) :
  ∃ C' S V,Xp K C (fnd x N T)=(0,C',S)∧Yn K N T R C'=(0,M,V)∧U=S :: V:=by
 rw[Yn] at h
 split at h
 ·rename_i q;injection h with h _;exact absurd h q
 rename_i q
 split at h
 ·rename_i q;injection h with h _;exact absurd h q
 rename_i q2
 injection h with h1 h2
 injection h2 with h2 h3
 refine⟨_,_,_,Prod.ext (Decidable.not_not.1 q) rfl,Prod.ext (Decidable.not_not.1 q2) (Prod.ext h2 rfl),h3.symm⟩
theorem Zbp{K:List ByteArray}{N:List Int}{T:List Zk}{x:Int}{R:List Int}{C C' M:List Zf}{S:List (List Zf)}{V:List (List (List Zf))}(h1:Xp K C (fnd x N T)=(0,C',S))(h2:Yn K N T R C'=(0,M,V)):Yn K N T (x :: R) C=(0,M,S :: V):=by
 rw[Yn,h1,if_neg (fun q=>q rfl),h2,if_neg (fun q=>q rfl)]
theorem Ke{K:List ByteArray}{N:List Int}{T:List Zk}:∀ (P Q:List Int) (C M:List Zf) (U:List (List (List Zf))),Yn K N T (P++Q) C=(0,M,U)→∃ C' V W,Yn K N T P C=(0,C',V)∧Yn K N T Q C'=(0,M,W)∧U=V++W
 | [],_,C,_,U,h=>⟨C,[],U,rfl,h,rfl⟩
 | x :: P,Q,C,M,U,h=>by
  obtain⟨C1,S,V1,h1,h2,rfl⟩:=Rh (R:=P++Q) h
  obtain⟨C',V,W,h3,h4,rfl⟩:=Ke P Q C1 M V1 h2
  exact⟨C',S :: V,W,Zbp h1 h3,h4,rfl⟩
theorem Pi{K:List ByteArray}{N:List Int}{T:List Zk}:∀ (P Q:List Int) (C C' M:List Zf) (V W:List (List (List Zf))),Yn K N T P C=(0,C',V)→Yn K N T Q C'=(0,M,W)→Yn K N T (P++Q) C=(0,M,V++W)
 | [],_,C,C',_,V,_,h,h2=>by
  injection h with _ h
  injection h with h3 h4
  subst h3 h4
  exact h2
 | x :: P,Q,C,C',M,V,W,h,h2=>by
  obtain⟨C1,S,V1,h1,h3,rfl⟩:=Rh h
  exact Zbp h1 (Pi P Q C1 C' M V1 W h3 h2)
theorem Kd{K:List ByteArray}{N:List Int}{T:List Zk}:∀ (P:List Int) (C M:List Zf) (U:List (List (List Zf))),Yn K N T P C=(0,M,U)→U.length=P.length
 | [],_,_,_,h=>by injection h with _ h;injection h with _ h;subst h;rfl
 | x :: P,C,M,U,h=>by
  obtain⟨C1,S,V1,h1,h3,rfl⟩:=Rh h
  simp[Kd P _ _ _ h3]
def Ub(K:List ByteArray)(N:List Int)(T:List Zk):List Int→List Zf→List (List (List Zf))→Int×List Zf×List (List (List Zf))
 | [],C,U=>(0,C,U)
 | x :: R,C,U=>if x=0 then Ub K N T R C (U++[[]]) else
   if (blockE N T x).2≠0 then ((blockE N T x).2,[],[]) else
   if (Xp K C (blockE N T x).1).1≠0 then ((Xp K C (blockE N T x).1).1,[],[]) else
   Ub K N T R (Xp K C (blockE N T x).1).2.1 (U++[(Xp K C (blockE N T x).1).2.2])
theorem C7{N:List Int}{T:List Zk}{x:Int}(hc:chkTr N T=0)(hx:x∈N):blockE N T x=(fnd x N T,0):=by
 unfold Tr.blockE
 rw[if_neg (fun q=>q hc),if_pos (by simpa using hx)]
theorem S8(K:List ByteArray)(N:List Int)(T:List Zk):∀ (z:Nat) (R:List Int) (C:List Zf) (U:List (List (List Zf))),Ub K N T (List.replicate z 0++R) C U=Ub K N T R C (U++List.replicate z [])
 | 0,R,C,U=>by simp
 | z+1,R,C,U=>by
  rw[List.replicate_succ,List.cons_append,Ub,if_pos rfl,S8 K N T z,List.replicate_succ,List.append_assoc];rfl
theorem Lx{K:List ByteArray}{N:List Int}{T:List Zk}(hc:chkTr N T=0):∀ (P R:List Int) (C:List Zf) (U:List (List (List Zf))),(∀ x∈P,x∈N) →
  Ub K N T (P++R) C U=if (Yn K N T P C).1≠0 then ((Yn K N T P C).1,[],[]) else Ub K N T R (Yn K N T P C).2.1 (U++(Yn K N T P C).2.2)
 | [],R,C,U,_=>by simp[Yn]
 | x :: P,R,C,U,h=>by
  have hx:=h x (by simp)
  have h0:x≠0:=fun q=>(TrOk.of hc).zero (q ▸ hx)
  rw[List.cons_append,Ub,if_neg h0,C7 hc hx,if_neg (fun q=>q rfl)]
  by_cases q:(Xp K C (fnd x N T)).1=0
  ·rw[if_neg (fun r=>r q),Lx hc P R _ _ (fun y hy=>h y (by simp[hy]))]
   by_cases q2:(Yn K N T P (Xp K C (fnd x N T)).2.1).1=0
   ·have e:Yn K N T (x :: P) C=(0,(Yn K N T P (Xp K C (fnd x N T)).2.1).2.1,(Xp K C (fnd x N T)).2.2 :: (Yn K N T P (Xp K C (fnd x N T)).2.1).2.2):=by rw[Yn,if_neg (fun r=>r q),if_neg (fun r=>r q2)]
    rw[if_neg (fun r=>r q2),e,if_neg (fun r=>r rfl),List.append_assoc];rfl
   ·have e:Yn K N T (x :: P) C=((Yn K N T P (Xp K C (fnd x N T)).2.1).1,[],[]):=by rw[Yn,if_neg (fun r=>r q),if_pos q2]
    rw[if_pos q2,e,if_pos q2]
  ·have e:Yn K N T (x :: P) C=((Xp K C (fnd x N T)).1,[],[]):=by rw[Yn,if_pos q]
   rw[if_pos q,e,if_pos q]
def Y7(P:List Int):List Int:=P++List.replicate (24 - P.length) 0
def Wa(K:List ByteArray)(N:List Int)(T:List Zk)(s:Int):Int×List Zf:=
 if Bk.bkChk K≠0 then (Bk.bkChk K,[]) else if (pathE N T s).2≠0 then ((pathE N T s).2,[]) else ((Ub K N T (Y7 (pathE N T s).1) [] []).1,(Ub K N T (Y7 (pathE N T s).1) [] []).2.1)
theorem Fu{K:List ByteArray}{N:List Int}{T:List Zk}(hc:chkTr N T=0)(P:List Int)(C:List Zf)(h:∀ x∈P,x∈N) :
  Ub K N T (Y7 P) C []=if (Yn K N T P C).1≠0 then ((Yn K N T P C).1,[],[]) else (0,(Yn K N T P C).2.1,(Yn K N T P C).2.2++List.replicate (24 - P.length) []):=by
 unfold Y7
 rw[Lx hc P _ C [] h]
 have:=S8 K N T (24 - P.length) [] (Yn K N T P C).2.1 ([]++(Yn K N T P C).2.2)
 rw[List.append_nil] at this
 rw[this]
 rfl
theorem Cn{K:List ByteArray}{N:List Int}{T:List Zk}{s:Int}{A:List Zf}(h:Wa K N T s=(0,A)):Bk.bkChk K=0∧chkTr N T=0∧(s=0∨s∈N)∧∃ U,Yn K N T (Yt N T s) []=(0,A,U):=by
 unfold Wa at h
 split at h
 ·rename_i q;injection h with h _;exact absurd h q
 rename_i q1
 split at h
 ·rename_i q;injection h with h _;exact absurd h q
 rename_i q2
 obtain⟨hc,hs,hp⟩:=Tr.pathE_ok (Decidable.not_not.1 q2)
 refine⟨Decidable.not_not.1 q1,hc,hs,?_⟩
 rw[hp,Fu hc _ _ ((TrOk.of hc).pth_sub hs)] at h
 split at h
 ·rename_i q;injection h with h _;exact absurd h q
 rename_i q3
 injection h with _ h
 exact⟨_,Prod.ext (Decidable.not_not.1 q3) (Prod.ext h rfl)⟩
theorem Se{N:List Int}{T:List Zk}{s:Int}(hc:chkTr N T=0)(hs:s=0∨s∈N):pathE N T s=(Yt N T s,0):=by
 unfold Tr.pathE
 rw[if_neg (fun q=>q hc),if_neg]
 rintro ⟨h1,h2⟩
 rcases hs with h|h
 ·exact h1 h
 ·simp[h] at h2
theorem Zia{K:List ByteArray}{N:List Int}{T:List Zk}{s:Int}{A:List Zf}{U:List (List (List Zf))}(hk:Bk.bkChk K=0)(hc:chkTr N T=0)(hs:s=0∨s∈N)(h:Yn K N T (Yt N T s) []=(0,A,U)):Wa K N T s=(0,A):=by
 unfold Wa
 rw[if_neg (fun q=>q hk),Se hc hs,if_neg (fun q=>q rfl),Fu hc _ _ ((TrOk.of hc).pth_sub hs),h,if_neg (fun q=>q rfl)]
def J4(A B:List Int):List Int:=List.zipWith (fun x y=>if x=y then 0 else x) A B
def Fl(K:List ByteArray)(N:List Int)(T:List Zk)(L:List Int)(U:List (List (List Zf))):Nat→List Zf→Int×List Zf
 | 0,C=>(0,C)
 | k+1,C=>if L.getD k 0=0 then Fl K N T L U k C else
   if (blockE N T (L.getD k 0)).2≠0 then ((blockE N T (L.getD k 0)).2,[]) else
   if (Zhx K C (blockE N T (L.getD k 0)).1 (U.getD k [])).1≠0 then ((Zhx K C (blockE N T (L.getD k 0)).1 (U.getD k [])).1,[]) else Fl K N T L U k (Zhx K C (blockE N T (L.getD k 0)).1 (U.getD k [])).2
def N8(K:List ByteArray)(N:List Int)(T:List Zk)(C:List Zf)(W L:List Int):Int×List Zf:=
 if L=List.replicate 24 0 then (0,C) else if (Ub K N T W [] []).1≠0 then ((Ub K N T W [] []).1,[]) else Fl K N T L (Ub K N T W [] []).2.2 24 C
def Gk(K:List ByteArray)(N:List Int)(T:List Zk)(C:List Zf)(s t:Int):Int×List Zf:=
 if Bk.bkChk K≠0 then (Bk.bkChk K,[]) else if (pathE N T s).2≠0 then ((pathE N T s).2,[]) else if (pathE N T t).2≠0 then ((pathE N T t).2,[]) else
 if (N8 K N T C (Y7 (pathE N T s).1) (J4 (Y7 (pathE N T s).1) (Y7 (pathE N T t).1))).1≠0 then ((N8 K N T C (Y7 (pathE N T s).1) (J4 (Y7 (pathE N T s).1) (Y7 (pathE N T t).1))).1,[]) else
 ((Ub K N T (J4 (Y7 (pathE N T t).1) (Y7 (pathE N T s).1)) (N8 K N T C (Y7 (pathE N T s).1) (J4 (Y7 (pathE N T s).1) (Y7 (pathE N T t).1))).2 []).1,
  (Ub K N T (J4 (Y7 (pathE N T t).1) (Y7 (pathE N T s).1)) (N8 K N T C (Y7 (pathE N T s).1) (J4 (Y7 (pathE N T s).1) (Y7 (pathE N T t).1))).2 []).2.1)
theorem Dw{N:List Int}{T:List Zk}{s:Int}(hc:chkTr N T=0)(hs:s=0∨s∈N):(Yt N T s).length≤24:=by
 have h:=TrOk.of hc
 have h1:=Tr.nd_len (Yt N T s) N (h.pth_nd hs) (h.pth_sub hs)
 have h2:N.length≤24:=by
  unfold Tr.chkTr at hc
  split at hc
  ·cases hc
  split at hc
  ·cases hc
  omega
 omega
theorem parts{P Q:List Int}(hc:Tr.Coh P Q):∃ X A B,P=X++A∧Q=X++B∧∀ i,i<A.length→i<B.length→A.getD i 0≠B.getD i 0:=by
 have key:∀ (P Q X:List Int),Tr.Coh (X++P) (X++Q)→∃ Y A B,P=Y++A∧Q=Y++B∧∀ i,i<A.length→i<B.length→A.getD i 0≠B.getD i 0:=by
  intro P
  induction P with
  | nil=>intro Q X _;exact⟨[],[],Q,rfl,rfl,fun i h=>absurd h (by simp)⟩
  | cons x P ih=>
   intro Q X hc
   cases Q with
   | nil=>exact⟨[],x :: P,[],rfl,rfl,fun i _ h=>absurd h (by simp)⟩
   | cons y Q=>
    by_cases e:x=y
    ·subst e
     obtain⟨Y,A,B,h1,h2,h3⟩:=ih Q (X++[x]) (by simpa using hc)
     exact⟨x :: Y,A,B,by rw[h1];rfl,by rw[h2];rfl,h3⟩
    ·refine⟨[],x :: P,y :: Q,rfl,rfl,fun i h1 h2 q=>?_⟩
     have:=hc (X.length+i) (by simp at h1 ⊢;omega) (by simp at h2 ⊢;omega) (by
      simp only[List.getD_eq_getElem?_getD] at q ⊢
      rw[List.getElem?_append_right (by omega),List.getElem?_append_right (by omega),Nat.add_sub_cancel_left]
      exact q)
     have h4:=congrArg (fun l:List Int=>l[X.length]?) this
     rw[List.getElem?_take_of_lt (by omega),List.getElem?_take_of_lt (by omega),List.getElem?_append_right (by omega),List.getElem?_append_right (by omega)] at h4
     simp at h4
     exact e h4
 exact key P Q [] hc
theorem F7{α : Type}(f : α → α → α):∀ (X A B:List α),List.zipWith f (X++A) (X++B)=List.zipWith f X X++List.zipWith f A B
 | [],_,_=>by simp
 | x :: X,A,B=>by simp[F7 f X A B]
theorem Kx:∀ (X:List Int),J4 X X=List.replicate X.length 0
 | []=>rfl
 | x :: X=>by
  have:=Kx X
  unfold J4 at this ⊢
  rw[List.zipWith_cons_cons,this,if_pos rfl];rfl
theorem Sj:∀ (A B:List Int) (z:Nat),(∀ i,i<A.length→i<B.length→A.getD i 0≠B.getD i 0)→(∀ x∈A,x≠0)→A.length≤z→B.length≤z →
  J4 (A++List.replicate (z - A.length) 0) (B++List.replicate (z - B.length) 0)=A++List.replicate (z - A.length) 0
 | [],[],z,_,_,_,_=>by
  have:=Kx (List.replicate z 0)
  simpa using this
 | [],b :: B,z,_,_,_,h2=>by
  obtain⟨z,rfl⟩:∃ y,z=y+1:=⟨z - 1,by simp at h2;omega⟩
  have:=Sj [] B z (fun i h=>absurd h (by simp)) (fun x h=>by cases h) (by simp) (by simpa using h2)
  unfold J4 at this ⊢
  simp only[List.nil_append,List.length_nil,Nat.sub_zero,List.length_cons,Nat.add_sub_add_right,List.cons_append,List.replicate_succ,List.zipWith_cons_cons] at this ⊢
  rw[this]
  simp
 | a :: A,[],z,_,h0,h1,_=>by
  obtain⟨z,rfl⟩:∃ y,z=y+1:=⟨z - 1,by simp at h1;omega⟩
  have:=Sj A [] z (fun i _ h=>absurd h (by simp)) (fun x h=>h0 x (by simp[h])) (by simpa using h1) (by simp)
  have ha:=h0 a (by simp)
  unfold J4 at this ⊢
  simp only[List.nil_append,List.length_nil,Nat.sub_zero,List.length_cons,Nat.add_sub_add_right,List.cons_append,List.replicate_succ,List.zipWith_cons_cons] at this ⊢
  rw[this,if_neg ha]
 | a :: A,b :: B,z,hd,h0,h1,h2=>by
  obtain⟨z,rfl⟩:∃ y,z=y+1:=⟨z - 1,by simp at h1;omega⟩
  have:=Sj A B z (fun i q r=>hd (i+1) (by simpa using q) (by simpa using r)) (fun x h=>h0 x (by simp[h])) (by simpa using h1) (by simpa using h2)
  have ha:a≠b:=hd 0 (by simp) (by simp)
  unfold J4 at this ⊢
  simp only[List.length_cons,Nat.add_sub_add_right,List.cons_append,List.zipWith_cons_cons] at this ⊢
  rw[this,if_neg ha]
theorem Zbu{X A B:List Int}(hd:∀ i,i<A.length→i<B.length→A.getD i 0≠B.getD i 0)(h0:∀ x∈A,x≠0)(h1:(X++A).length≤24)(h2:(X++B).length≤24) :
  J4 (Y7 (X++A)) (Y7 (X++B))=List.replicate X.length 0++(A++List.replicate (24 - (X++A).length) 0):=by
 unfold Y7
 rw[List.append_assoc,List.append_assoc]
 have e1:=F7 (fun x y:Int=>if x=y then 0 else x) X (A++List.replicate (24 - (X++A).length) 0) (B++List.replicate (24 - (X++B).length) 0)
 unfold J4
 rw[e1]
 have e2:=Kx X
 unfold J4 at e2
 rw[e2]
 have e3:=Sj A B (24 - X.length) hd h0 (by simp at h1;omega) (by simp at h2;omega)
 unfold J4 at e3
 rw[List.length_append,List.length_append,Nat.sub_add_eq,Nat.sub_add_eq]
 rw[e3]
theorem Fk{K:List ByteArray}{N:List Int}{T:List Zk}{L:List Int}{U:List (List (List Zf))}{lo:Nat}(C:List Zf):∀ (k:Nat),(∀ i,lo≤i→i<lo+k→L.getD i 0=0)→Fl K N T L U (lo+k) C=Fl K N T L U lo C
 | 0,_=>rfl
 | k+1,h=>by
  rw[←Nat.add_assoc,Fl,if_pos (h (lo+k) (by omega) (by omega)),Fk C k (fun i h1 h2=>h i h1 (by omega))]
theorem Zch{K:List ByteArray}{N:List Int}{T:List Zk}{L:List Int}{U:List (List (List Zf))}(hc:chkTr N T=0):∀ (A:List Int) (lo:Nat) (C M:List Zf) (V:List (List (List Zf))),(∀ x∈A,x∈N)→Yn K N T A C=(0,M,V) →
  (∀ i,i<A.length→L.getD (lo+i) 0=A.getD i 0∧U.getD (lo+i) []=V.getD i [])→Fl K N T L U (lo+A.length) M=Fl K N T L U lo C
 | [],lo,C,M,V,_,h,_=>by
  injection h with _ h
  injection h with h _
  rw[h];rfl
 | x :: A,lo,C,M,V,hA,h,hL=>by
  obtain⟨C',S,V',h1,h2,rfl⟩:=Rh h
  have hx:=hA x (by simp)
  have h0:x≠0:=fun q=>(TrOk.of hc).zero (q ▸ hx)
  have e:=Zch hc A (lo+1) C' M V' (fun y hy=>hA y (by simp[hy])) h2 (fun i hi=>by
   have:=hL (i+1) (by simpa using hi)
   rw[show lo+1+i=lo+(i+1) by omega]
   simpa using this)
  rw[List.length_cons,show lo+(A.length+1)=lo+1+A.length by omega,e,Fl]
  obtain⟨e1,e2⟩:=hL 0 (by simp)
  have e1:L.getD lo 0=x:=e1
  have e2:U.getD lo []=S:=e2
  rw[e1,e2,if_neg h0,C7 hc hx,if_neg (fun q=>q rfl),(Zke h1).2.2.2.2.1,if_neg (fun q=>q rfl)]
theorem Jh{α : Type}(X Y:List α)(i:Nat)(d : α):(X++Y).getD (X.length+i) d=Y.getD i d:=by
 simp only[List.getD_eq_getElem?_getD]
 rw[List.getElem?_append_right (by omega),Nat.add_sub_cancel_left]
theorem Uy{α : Type}(X Y:List α)(i:Nat)(d : α)(h:i<X.length):(X++Y).getD i d=X.getD i d:=by
 simp only[List.getD_eq_getElem?_getD]
 rw[List.getElem?_append_left h]
theorem Cd{α : Type}(n i:Nat)(d : α):(List.replicate n d).getD i d=d:=by
 simp only[List.getD_eq_getElem?_getD]
 rcases Nat.lt_or_ge i n with h|h
 ·rw[List.getElem?_replicate,if_pos h];rfl
 ·rw[List.getElem?_eq_none (by simpa using h)];rfl
theorem Zaa{K:List ByteArray}{N:List Int}{T:List Zk}{s t:Int}{X A B:List Int}{C M:List Zf}{U V:List (List (List Zf))}(hk:Bk.bkChk K=0)(hc:chkTr N T=0)(hs:s=0∨s∈N)(ht:t=0∨t∈N)
  (hP:Yt N T s=X++A) (hQ:Yt N T t=X++B) (hd:∀ i,i<A.length→i<B.length→A.getD i 0≠B.getD i 0) (h1:Yn K N T X []=(0,C,U)) (h2:Yn K N T A C=(0,M,V)) :
  Gk K N T M s t=((Yn K N T B C).1,if (Yn K N T B C).1≠0 then [] else (Yn K N T B C).2.1):=by
 have hT:=TrOk.of hc
 have sP:=hT.pth_sub hs
 have sQ:=hT.pth_sub ht
 have l1:=Dw hc hs
 have l2:=Dw hc ht
 rw[hP] at sP l1
 rw[hQ] at sQ l2
 have nA:∀ x∈A,x≠0:=fun x hx q=>hT.zero (q ▸ sP x (by simp[hx]))
 have nB:∀ x∈B,x≠0:=fun x hx q=>hT.zero (q ▸ sQ x (by simp[hx]))
 have o1:=Zbu hd nA l1 l2
 have o2:=Zbu (fun i q r e=>hd i r q e.symm) nB l2 l1
 have hrun:=Pi X A [] C M U V h1 h2
 have hcl:=Fu (K:=K) hc (X++A) [] sP
 rw[hrun,if_neg (fun q=>q rfl)] at hcl
 have lU:=Kd _ _ _ _ h1
 have lV:=Kd _ _ _ _ h2
 have hdesc:N8 K N T M (Y7 (X++A)) (J4 (Y7 (X++A)) (Y7 (X++B)))=(0,C):=by
  unfold N8
  rw[o1]
  by_cases hA:A=[]
  ·subst hA
   rw[if_pos]
   ·injection h2 with _ h2
    injection h2 with h2 _
    rw[h2]
   ·rw[List.nil_append,List.append_nil,List.replicate_append_replicate]
    simp at l1
    rw[show X.length+(24 - X.length)=24 by omega]
  ·rw[if_neg]
   ·rw[hcl,if_neg (fun q=>q rfl)]
    simp only
    have e1:=Fk (K:=K) (N:=N) (T:=T) (L:=List.replicate X.length 0++(A++List.replicate (24 - (X++A).length) 0)) (U:=U++V++List.replicate (24 - (X++A).length) []) (lo:=X.length+A.length) M (24 - (X++A).length) (fun i q r=>by
     have:=Jh (List.replicate X.length 0) (A++List.replicate (24 - (X++A).length) 0) (i - X.length) (0:Int)
     rw[List.length_replicate,show X.length+(i - X.length)=i by omega] at this
     rw[this]
     have:=Jh A (List.replicate (24 - (X++A).length) 0) (i - X.length - A.length) (0:Int)
     rw[show A.length+(i - X.length - A.length)=i - X.length by omega] at this
     rw[this,Cd])
    rw[show X.length+A.length+(24 - (X++A).length)=24 by simp at l1 ⊢;omega] at e1
    rw[e1,Zch hc A X.length C M V (fun x hx=>sP x (by simp[hx])) h2 (fun i hi=>⟨?_,?_⟩)]
    ·have e2:=Fk (K:=K) (N:=N) (T:=T) (L:=List.replicate X.length 0++(A++List.replicate (24 - (X++A).length) 0)) (U:=U++V++List.replicate (24 - (X++A).length) []) (lo:=0) C X.length (fun i _ r=>by
      rw[Uy _ _ _ _ (by simp;omega),Cd])
     rw[Nat.zero_add] at e2
     rw[e2];rfl
    ·have:=Jh (List.replicate X.length 0) (A++List.replicate (24 - (X++A).length) 0) i (0:Int)
     rw[List.length_replicate] at this
     rw[this,Uy _ _ _ _ hi]
    ·rw[List.append_assoc]
     have:=Jh U (V++List.replicate (24 - (X++A).length) []) i ([]:List (List Zf))
     rw[lU] at this
     rw[this,Uy _ _ _ _ (by omega)]
   ·intro q
    obtain⟨x,hx⟩:=List.exists_mem_of_ne_nil A hA
    have:x∈List.replicate 24 (0:Int):=by rw[←q];simp[hx]
    exact nA x hx (List.eq_of_mem_replicate this)
 unfold Gk
 rw[if_neg (fun q=>q hk),Se hc hs,Se hc ht,if_neg (fun q=>q rfl),if_neg (fun q=>q rfl),hP,hQ,hdesc,if_neg (fun q=>q rfl),o2,S8,Lx hc B _ C _ (fun x hx=>sQ x (by simp[hx]))]
 by_cases q:(Yn K N T B C).1=0
 ·rw[if_neg (fun r=>r q),if_neg (fun r=>r q)]
  have:=S8 K N T (24 - (X++B).length) [] (Yn K N T B C).2.1 ([]++List.replicate X.length []++(Yn K N T B C).2.2)
  rw[List.append_nil] at this
  rw[this,q];rfl
 ·rw[if_pos q,if_pos q]
theorem Th{K:List ByteArray}{N:List Int}{T:List Zk}{s t:Int}{A:List Zf}(ha:Wa K N T s=(0,A))(ht:t=0∨t∈N):∀ B,Gk K N T A s t=(0,B)↔Wa K N T t=(0,B):=by
 obtain⟨hk,hc,hs,U,hU⟩:=Cn ha
 obtain⟨X,P,Q,hP,hQ,hd⟩:=parts (Tr.upD_coh N T (fnd s N T).2.1.toNat (fnd t N T).2.1.toNat s t)
 have hP:Yt N T s=X++P:=hP
 have hQ:Yt N T t=X++Q:=hQ
 have hU2:=hU
 rw[hP] at hU2
 obtain⟨C,V,W,h1,h2,_⟩:=Ke X P [] A U hU2
 have hm:=Zaa hk hc hs ht hP hQ hd h1 h2
 intro B
 rw[hm]
 constructor
 ·intro e
  injection e with e1 e2
  rw[if_neg (fun q=>q e1)] at e2
  refine Zia (U:=V++(Yn K N T Q C).2.2) hk hc ht ?_
  rw[hQ]
  exact Pi X Q [] C B V _ h1 (Prod.ext e1 (Prod.ext e2 rfl))
 ·intro e
  obtain⟨_,_,_,Y,hY⟩:=Cn e
  rw[hQ] at hY
  obtain⟨C2,V2,W2,h3,h4,_⟩:=Ke X Q [] B Y hY
  rw[h1] at h3
  injection h3 with _ h3
  injection h3 with h3 _
  subst h3
  rw[h4,if_neg (fun q=>q rfl)]
theorem Nq{K:List ByteArray}{N:List Int}{T:List Zk}{s t:Int}{A B:List Zf}(h:Gk K N T A s t=(0,B)):t=0∨t∈N:=by
 unfold Gk at h
 split at h
 ·rename_i q;injection h with h _;exact absurd h q
 split at h
 ·rename_i q;injection h with h _;exact absurd h q
 split at h
 ·rename_i q;injection h with h _;exact absurd h q
 rename_i q
 exact (Tr.pathE_ok (Decidable.not_not.1 q)).2.1
theorem ways{K:List ByteArray}{N:List Int}{T:List Zk}{a b c:Int}{L X Y:List Zf}(h:Wa K N T a=(0,L))(hx:Gk K N T L a b=(0,X))(hy:Gk K N T L a c=(0,Y)):Gk K N T Y c b=(0,X):=by
 have hb:=Nq hx
 have hc:=Nq hy
 exact (Th ((Th h hc Y).1 hy) hb X).2 ((Th h hb X).1 hx)
def J9(N:List Int)(T:List Zk)(s t:Int):Int×Int:=
 if (pathE N T t).2≠0 then (0,(pathE N T t).2) else if Tr.idxI s (pathE N T t).1 0<0 then (0,5) else (((pathE N T t).1.length:Int) - 1 - Tr.idxI s (pathE N T t).1 0,0)
theorem Zac:∀ (L:List Int) (s:Int) (k:Nat),(Tr.idxI s L k = -1)∨∃ i,Tr.idxI s L k=(k+i:Nat)∧L[i]? = some s
 | [],_,_=>.inl rfl
 | a :: L,s,k=>by
  by_cases e:s=a
  ·exact .inr ⟨0,by simp[Tr.idxI,e],by simp[e]⟩
  ·rcases Zac L s (k+1) with h|⟨i,h1,h2⟩
   ·exact .inl (by simp[Tr.idxI,e,h])
   ·exact .inr ⟨i+1,by simp[Tr.idxI,e,h1];omega,by simpa using h2⟩
open Go.RowKit
def Yp(R:List Int):List Value:=R.map (Value.int .i64)
theorem Au(R:List Int):(Yp R).length=R.length:=by simp[Yp]
theorem J0{P:List Int}(h:P.length≤24):(Y7 P).length=24:=by simp[Y7];omega
theorem At(R:List Int):(Yp R).toArray.all (·.oneCell')=true:=by
 rw[Array.all_eq_true_iff_forall_mem]
 intro v hv
 simp[Yp] at hv
 obtain⟨x,_,rfl⟩:=hv
 rfl
theorem Tryz.infoRow:(Tryz.prog.info? 76).map (·.size)=some 24:=by kernel_rfl
theorem Kg{R:List Int}(h:R.length=24):(Tryz.prog.info? 76).map (·.size)=some (Yp R).toArray.size:=by rw[Tryz.infoRow];simp[Yp,h]
theorem Ee:(#[.int .i64 0,.int .i64 0,.int .i64 0,.int .i64 0,.int .i64 0,.int .i64 0,.int .i64 0,.int .i64 0,.int .i64 0,.int .i64 0,.int .i64 0,.int .i64 0,.int .i64 0,.int .i64 0,.int .i64 0,.int .i64 0,.int .i64 0,.int .i64 0,.int .i64 0,.int .i64 0,.int .i64 0,.int .i64 0,.int .i64 0,.int .i64 0]:Array Value)=(Yp (List.replicate 24 0)).toArray:=by kernel_rfl
theorem Bv{P:List Int}:laid (Yp (List.replicate 24 0)) 0 (Yp P)=Yp (Y7 P):=by
 have e:Yp (List.replicate 24 0)=List.replicate 24 (.int .i64 0):=by unfold Yp;rw[List.map_replicate]
 have e2:Yp (Y7 P)=Yp P++List.replicate (24 - P.length) (.int .i64 0):=by unfold Yp Y7;rw[List.map_append,List.map_replicate]
 rw[e,e2]
 have hl:=Au P
 generalize Yp P=L at hl
 unfold laid
 rw[List.take_zero,List.nil_append,Nat.zero_add,List.drop_replicate,hl]
set_option maxRecDepth 10000 in
set_option maxHeartbeats 3200000 in
theorem Zge(a b:Option Addr)(n c m d:Nat)(N:List Int)(T:List Zk)(s:Int)(P:List Int)(x:Int)(w:World)(hN:Tr.IntsAt w a n N)(hT:Tr.BlksAt w b m T)(sN:SlOk a n c)(sT:SlOk b m d)(hx:Tr.pathE N T s=(P,x))(hP:P.length≤24) :
  Calls Tryz.prog 33 #[.agg #[.slice a n c,.slice b m d],.int .i64 s] w fun e w'=>e = .returned (.tuple #[.agg (Yp (Y7 P)).toArray,.int .i64 x])∧Below w.heap.size w w':=by
 obtain⟨X,hX⟩:∃ X,X=(w.alloc (.cells #[.slice a n c,.slice b m d] 28)).alloc (.cells #[.int .i64 0,.int .i64 0,.int .i64 0,.int .i64 0,.int .i64 0,.int .i64 0,.int .i64 0,.int .i64 0,.int .i64 0,.int .i64 0,.int .i64 0,.int .i64 0,.int .i64 0,.int .i64 0,.int .i64 0,.int .i64 0,.int .i64 0,.int .i64 0,.int .i64 0,.int .i64 0,.int .i64 0,.int .i64 0,.int .i64 0,.int .i64 0] 76):=⟨_,rfl⟩
 have hbX:Below w.heap.size w X:=by rw[hX];exact Ze (Zg _ _) (Zg _ _)
 have hX0:X.heap[w.heap.size]? = some (.cells [.slice a n c,.slice b m d].toArray 28 (0,0)):=by rw[hX,Below.heap_alloc _ _ _ (by simp)];exact Tr.two_heap _ _ _ _
 have hX1:X.heap[w.heap.size+1]? = some (.cells (Yp (List.replicate 24 0)).toArray 76 (0,0)):=by
  rw[hX,Ee]
  have:=heap_alloc_new (w.alloc (.cells #[.slice a n c,.slice b m d] 28)) (.cells (Yp (List.replicate 24 0)).toArray 76)
  rw[show (w.alloc (.cells #[.slice a n c,.slice b m d] 28)).heap.size=w.heap.size+1 by simp] at this
  exact this
 obtain⟨pn,hpn⟩:∃ pn,P.length=pn:=⟨_,rfl⟩
 have C1:=Zb (Tr.path_is a b n c m d N T s P pn x X (hN.later hbX) (hT.later hbX) sN sT hx hpn)
 have x0:=Zd hX0 0 _ rfl
 have x1:=Zd hX0 1 _ rfl
 have xl:=lt_of_block hX0
 have HBX:=Zb hbX
 have HX1:=Zb hX1
 have HPN:=Zb hpn
 clear hN hT sN sT hx hbX hX0 hX1 hpn
 go_enter Tryz.func33,Tryz.ntmps33
 go_wp2_with fail
 rw[←hX]
 clear hX
 (try go_wp2_with fail)
 refine (Za C1).mono ?_
 rintro e w1 ⟨v,rfl,ho,hb1⟩
 obtain⟨pa,pc,rfl,sP,hPI⟩:=Tr.ints_of_own ho
 obtain⟨Y,hY⟩:∃ Y,Y=w1.alloc (.cells #[.int .i64 0,.int .i64 0,.int .i64 0,.int .i64 0,.int .i64 0,.int .i64 0,.int .i64 0,.int .i64 0,.int .i64 0,.int .i64 0,.int .i64 0,.int .i64 0,.int .i64 0,.int .i64 0,.int .i64 0,.int .i64 0,.int .i64 0,.int .i64 0,.int .i64 0,.int .i64 0,.int .i64 0,.int .i64 0,.int .i64 0,.int .i64 0] 76):=⟨_,rfl⟩
 have hbY:Below w1.heap.size w1 Y:=by rw[hY];exact Zg _ _
 have hYr:Y.heap[w1.heap.size]? = some (.cells (Yp (List.replicate 24 0)).toArray 76 (0,0)):=by rw[hY,Ee];exact heap_alloc_new _ _
 have hPY:=hPI.later hbY
 have hlen:=Za HPN
 have CP:Hid ((Builtin.copy_ #[25,25] 3 #[.slice (some ⟨w1.heap.size,0,none⟩) 24 24,.slice pa pn pc]).run Tryz.prog Y = .ok (.int .i64 pn) (Y.setRow w1.heap.size (Yp (Y7 P)).toArray)):=by
  show _=_
  rcases Nat.eq_zero_or_pos pn with q|q
  ·subst q
   have hP0:P=[]:=List.length_eq_zero_iff.1 hlen
   subst hP0
   have e:Y.setRow w1.heap.size (Yp (Y7 [])).toArray=Y:=setRow_self _ _ _ _ _ hYr
   rw[e]
   cases pa with
   | none=>rfl
   | some ad=>
    have:=X3 (P:=Tryz.prog) Y 25 25 3 3 w1.heap.size 0 24 24 ad 0 pc 1 (Yp (List.replicate 24 0)).toArray 76 [] Tryz.underlying25 (by kernel_rfl) hYr (by simp) (fun j u hj=>by simp at hj) (by simp) (fun u hu=>by cases hu)
    rw[this]
    have e2:laid (Yp (List.replicate 24 0)).toArray.toList 0 []=Yp (Y7 []):=Bv (P:=[])
    rw[e2,e]
    rfl
  ·obtain⟨pb,po,rfl,_,hc⟩:=hPY.2 q
   have hmin:Nat.min pn 24=pn:=Nat.min_eq_left (by omega)
   have:=X3 (P:=Tryz.prog) Y 25 25 3 3 w1.heap.size 0 24 24 ⟨pb,po,none⟩ pn pc 1 (Yp (List.replicate 24 0)).toArray 76 (Yp P) Tryz.underlying25 (by kernel_rfl) hYr (by rw[Au,hlen,hmin];omega) (fun j u hj=>by
    rw[Yp,List.getElem?_map] at hj
    cases hq:P[j]? with
    | none=>rw[hq] at hj;cases hj
    | some z=>
     rw[hq] at hj
     cases hj
     obtain⟨h1,h2⟩:=List.getElem?_eq_some_iff.1 hq
     have:=hc j h1
     rw[h2] at this
     rw[show (⟨pb,po,none⟩:Addr).add j=⟨pb,po+j,none⟩ from Addr.add_mid _ _ _]
     exact this) (by simp[Yp];omega) (fun u hu=>by simp[Yp] at hu;obtain⟨z,_,rfl⟩:=hu;rfl)
   rw[this]
   have e2:laid (Yp (List.replicate 24 0)).toArray.toList 0 (Yp P)=Yp (Y7 P):=Bv
   rw[e2,hmin]
   rfl
 have HB1:=Zb (Ze (Za HBX) (Ze hb1 hbY))
 have hl1:=lt_of_block (Za HX1)
 have hs1:=hb1.size
 have HX1Y:=Zb ((hbY.block _ (Nat.lt_of_lt_of_le hl1 hs1)).trans ((hb1.block _ hl1).trans (Za HX1)))
 have HYR:=Zb hYr
 obtain⟨Z,hZ⟩:∃ Z,Z=Y.setRow w1.heap.size (Yp (Y7 P)).toArray:=⟨_,rfl⟩
 have hZr:Z.heap[w1.heap.size]? = some (.cells (Yp (Y7 P)).toArray 76 (0,0)):=by rw[hZ];exact setRow_heap _ _ _ _ _ _ hYr
 have hZ1:Z.heap[w.heap.size+1]? = some (.cells (Yp (List.replicate 24 0)).toArray 76 (0,0)):=by
  rw[hZ,setRow_other _ _ _ _ (by omega)];exact Za HX1Y
 have hbZ:Below w.heap.size w Z:=by rw[hZ];exact below_setRow (Za HB1) (by omega) _
 rw[←hZ] at CP
 have HZR:=Zb hZr
 have HZ1:=Zb hZ1
 have HBZ:=Zb hbZ
 have hR:=Kg (J0 hP)
 have hR2:((Yp (List.replicate 24 0)).toArray:Array Value).size=(Yp (Y7 P)).toArray.size:=by simp[Yp,J0 hP]
 obtain⟨R,hRR⟩:∃ R,(Yp (Y7 P)).toArray=R:=⟨_,rfl⟩
 have hone:R.all (·.oneCell')=true:=by rw[←hRR];exact At _
 rw[hRR] at HZR hR hR2
 clear ho hPI hPY hb1 hbY hYr hZr hZ1 hbZ hZ hlen HB1 HX1Y HYR C1 HX1 x0 x1
 go_wp2_with fail
 rw[←hY]
 clear hY
 rw[Za CP]
 go_wp2_with (first|(refine V9 rfl 76 _ rfl _ rfl _ _ (Za HZR) _ _ Tryz.underlying76 hR ?_)|(refine Y6 rfl 76 _ _ rfl _ rfl _ _ rfl _ (Za HZ1) hR hR2 hone ?_))
 (try simp only[Exit.inBlock,Exit.then])
 have hF:(Z.setRow (w.heap.size+1) R).heap[w.heap.size+1]? = some (.cells R 76 (0,0)):=setRow_heap _ _ _ _ _ _ (Za HZ1)
 have HL:=run_loadVar_row (P:=Tryz.prog) (Z.setRow (w.heap.size+1) R) (w.heap.size+1) 76 76 R (0,0) _ hF Tryz.underlying76 rfl hR
 refine bodyPost_ret (v:=.tuple #[.agg R,.int .i64 x]) ?_ rfl ⟨by rw[hRR],below_setRow (Za HBZ) (by omega) _⟩
 rw[Zw rfl]
 simp[asAddr,Result.andThen,HL]
def UnV(B:Nat)(w:World)(v:Value)(S:List (List Zf)):Prop:=∃ a n c,v = .slice a n c∧UndosAt w a n S∧∀ ad,a=some ad→B≤ad.block
def UnC(B:Nat)(w:World)(cs:List Value)(U:List (List (List Zf))):Prop:=cs.length=24∧∀ i,i<24→∃ v,cs[i]? = some v∧UnV B w v (U.getD i [])
def UnAt(B g:Nat)(w:World)(U:List (List (List Zf))):Prop:=∃ cs:List Value,w.heap[g]? = some (.cells cs.toArray 81 (0,0))∧UnC B w cs U
theorem UnV.later{B:Nat}{w w':World}{v:Value}{S:List (List Zf)}(h:UnV B w v S)(hb:Below w.heap.size w w'):UnV B w' v S:=by
 obtain⟨a,n,c,e,h,h2⟩:=h
 exact⟨a,n,c,e,h.later hb,h2⟩
theorem UnC.later{B:Nat}{w w':World}{cs:List Value}{U:List (List (List Zf))}(h:UnC B w cs U)(hb:Below w.heap.size w w'):UnC B w' cs U:=
 ⟨h.1,fun i hi=>by obtain⟨v,e,hv⟩:=h.2 i hi;exact⟨v,e,hv.later hb⟩⟩
theorem UnAt.later{B g:Nat}{w w':World}{U:List (List (List Zf))}(h:UnAt B g w U)(hb:Below w.heap.size w w'):UnAt B g w' U:=by
 obtain⟨cs,h1,h2⟩:=h
 exact⟨cs,(hb.block _ (lt_of_block h1)).trans h1,h2.later hb⟩
theorem UnC.nil(B:Nat)(w:World):UnC B w (List.replicate 24 (.slice none 0 0)) []:=
 ⟨by simp,fun i hi=>⟨.slice none 0 0,by rw[List.getElem?_replicate,if_pos hi],none,0,0,rfl,⟨by simp[List.getD],fun h=>absurd h (by omega)⟩,fun ad e=>by cases e⟩⟩
theorem UnC.slices{B:Nat}{w:World}{cs:List Value}{U:List (List (List Zf))}(h:UnC B w cs U):∀ v∈cs,∃ a n c,v = .slice a n c:=by
 intro v hv
 obtain⟨i,hi,rfl⟩:=List.getElem_of_mem hv
 obtain⟨v,e,a,n,c,e2,_⟩:=h.2 i (by rw[←h.1];exact hi)
 rw[List.getElem?_eq_getElem hi] at e
 injection e with e
 exact⟨a,n,c,e.trans e2⟩
theorem UnC.usok{B g:Nat}{w:World}{cs:List Value}{U:List (List (List Zf))}(h:UnC B w cs U)(hg:w.heap[g]? = some (.cells cs.toArray 81 (0,0))):UsOk 81 g 24 w:=⟨cs,hg,h.1,h.slices⟩
theorem Hv{ty:TypeId}{g m:Nat}{w w':World}{a:Option Addr}{n:Nat}{S:List (List Zf)}(h:UndosAt w a n S)(ho:UsOk ty g m w)(hn:∀ ad,a=some ad→ad.block≠g)(hg:Gr w w' (fun q=>q=g)):UndosAt w' a n S:=by
 refine⟨h.1,fun h0=>?_⟩
 obtain⟨b,off,rfl,hb,hc⟩:=h.2 h0
 refine⟨b,off,rfl,Nat.lt_of_lt_of_le hb hg.size,fun i hi=>?_⟩
 have hne:b≠g:=hn _ rfl
 obtain⟨ca,cn,cc,h1,h2,h3⟩:=hc i hi
 exact⟨ca,cn,cc,hg.cell h1 hne,Wh h2 ho hg,h3⟩
theorem UnC.gr{ty:TypeId}{B g m:Nat}{w w':World}{cs:List Value}{U:List (List (List Zf))}(h:UnC B w cs U)(ho:UsOk ty g m w)(hB:g<B)(hg:Gr w w' (fun q=>q=g)):UnC B w' cs U:=
 ⟨h.1,fun i hi=>by
  obtain⟨v,e,a,n,c,e2,h1,h2⟩:=h.2 i hi
  exact⟨v,e,a,n,c,e2,Hv h1 ho (fun ad q=>by have:=h2 ad q;omega) hg,h2⟩⟩
theorem UnAt.put{B g:Nat}{w:World}{U:List (List (List Zf))}(h:UnAt B g w U)(hB:g<B){a:Option Addr}{n c:Nat}{S:List (List Zf)}(hS:UndosAt w a n S)(ha:∀ ad,a=some ad→B≤ad.block) :
  UnAt B g (w.setCell ⟨g,U.length,none⟩ (.slice a n c)) (U++[S]):=by
 obtain⟨cs,h1,h2⟩:=h
 have hg:=(Gr.refl w (fun q=>q=g)).one g U.length (.inl rfl) (.slice a n c)
 have ho:=h2.usok h1
 refine⟨cs.set U.length (.slice a n c),Dn h1 _ _,by rw[List.length_set];exact h2.1,fun i hi=>?_⟩
 by_cases e:i=U.length
 ·subst e
  refine⟨_,by rw[List.getElem?_set_self (by rw[h2.1];exact hi)],a,n,c,rfl,?_,ha⟩
  have e0:(U++[S]).getD U.length []=S:=by simp
  rw[e0]
  exact Hv hS ho (fun ad q=>by have:=ha ad q;omega) hg
 ·obtain⟨v,e1,a',n',c',e2,h3,h4⟩:=h2.2 i hi
  refine⟨v,by rw[List.getElem?_set_ne (fun q=>e q.symm)];exact e1,a',n',c',e2,?_,h4⟩
  have e3:(U++[S]).getD i []=U.getD i []:=by
   rcases Nat.lt_or_ge i U.length with q|q
   ·exact Uy _ _ _ _ q
   ·simp only[List.getD_eq_getElem?_getD]
    rw[List.getElem?_eq_none (by simp;omega),List.getElem?_eq_none q]
  rw[e3]
  exact Hv h3 ho (fun ad q=>by have:=h4 ad q;omega) hg
theorem UnAt.skip{B g:Nat}{w:World}{U:List (List (List Zf))}(h:UnAt B g w U):UnAt B g w (U++[[]]):=by
 obtain⟨cs,h1,h2⟩:=h
 refine⟨cs,h1,h2.1,fun i hi=>?_⟩
 have e3:(U++[[]]).getD i []=U.getD i []:=by
  rcases Nat.lt_or_ge i U.length with q|q
  ·exact Uy _ _ _ _ q
  ·simp only[List.getD_eq_getElem?_getD]
   rw[List.getElem?_eq_none (i:=i) (l:=U) q]
   rcases Nat.eq_or_lt_of_le q with r|r
   ·subst r;simp
   ·rw[List.getElem?_eq_none (by simp;omega)]
 rw[e3]
 exact h2.2 i hi
theorem UnC.less{B B':Nat}{w:World}{cs:List Value}{U:List (List (List Zf))}(h:UnC B' w cs U)(hb:B≤B'):UnC B w cs U:=
 ⟨h.1,fun i hi=>by obtain⟨v,e,a,n,c,e2,h1,h2⟩:=h.2 i hi;exact⟨v,e,a,n,c,e2,h1,fun ad q=>Nat.le_trans hb (h2 ad q)⟩⟩
theorem UnC.one{B:Nat}{w:World}{cs:List Value}{U:List (List (List Zf))}(h:UnC B w cs U):cs.toArray.all (·.oneCell')=true:=by
 rw[Array.all_eq_true_iff_forall_mem]
 intro v hv
 obtain⟨a,n,c,rfl⟩:=h.slices v (by simpa using hv)
 rfl
theorem Tryz.infoUndone:(Tryz.prog.info? 81).map (·.size)=some 24:=by kernel_rfl
theorem Hg{cs:List Value}(h:cs.length=24):(Tryz.prog.info? 81).map (·.size)=some cs.toArray.size:=by rw[Tryz.infoUndone];simp[h]
theorem Zbg:(#[.slice none 0 0,.slice none 0 0,.slice none 0 0,.slice none 0 0,.slice none 0 0,.slice none 0 0,.slice none 0 0,.slice none 0 0,.slice none 0 0,.slice none 0 0,.slice none 0 0,.slice none 0 0,.slice none 0 0,.slice none 0 0,.slice none 0 0,.slice none 0 0,.slice none 0 0,.slice none 0 0,.slice none 0 0,.slice none 0 0,.slice none 0 0,.slice none 0 0,.slice none 0 0,.slice none 0 0]:Array Value)=(List.replicate 24 (.slice none 0 0)).toArray:=by kernel_rfl
theorem tk{P:Program}{ops:Array Oper}{Q:Exit→Act→World→Prop}{md:Region.Mode}{S:World→Prop}(i:Nat)(oi:Oper)(v:Value){fuel:Nat}{listed:Array Bool}{a:Act}{w:World}(hi:ops[i]? = some oi)
  (hy:∀ w,S w→(execOp a.eval oi).run P w = .ok (.value v) w) (hS:S w) (h:wpAnyH P md ops Q S fuel (listed.setIfInBounds i true) (a.put oi.dst v) w)
  (hQ:∀ c a w,Q (.panic c) (a.put oi.dst v) w→Q (.panic c) a w:=by exact fun _ _ _ h=>h) (hw:Region.wanted oi (yielded ops a.tmps)=true:=by rfl)
  (hs:Region.noSelect ops=true:=by kernel_rfl) (hf:Region.free md ops listed i=true:=by kernel_rfl) (hr:(Region.ready md ops listed).contains i=true:=by kernel_rfl) :
  wpAnyH P md ops Q S (fuel+1) listed a w:=wpAnyH_take hi hs hf hr hQ (Or.inl ⟨hw,hy⟩) hS h
theorem Bu{P:Program}{o:Oper}{a:Act}{w:World}(ty:TypeId)(x:Operand)(ho:o.op = .load ty x)
  (g:Nat) (hx:a.eval x = .pointer (some ⟨g,0,none⟩)) (c:Array Value) (t:TypeId) (hg:w.heap[g]? = some (.cells c t (0,0))) (n:Nat) (e:TypeId) (hu:P.underlying ty=some (.array n e)) (hi:(P.info? ty).map (·.size)=some c.size) :
  (execOp a.eval o).run P w = .ok (.value (.agg c)) w:=by
 unfold execOp
 simp only[ho,hx,Instr.loadAt,Instr.sureAddr,Sem.run_bind,Sem.run_pure,Result.andThen_ok,run_loadVar_row w g t ty c (0,0) _ hg hu rfl hi]
theorem Hx{P:Program}{ops:Array Oper}{o:Oper}{a:Act}{w:World}{K:Act→World→Prop}{Q:Exit→Act→World→Prop}{E:Prop}(hw:Region.wanted o (yielded ops a.tmps)=true)(ty:TypeId)(x y:Operand)(ho:o.op = .store ty x y)
  (g:Nat) (hx:a.eval x = .pointer (some ⟨g,0,none⟩)) (c c':Array Value) (hy:a.eval y = .agg c') (t:TypeId) (hg:w.heap[g]? = some (.cells c t (0,0))) (hi:(P.info? ty).map (·.size)=some c'.size) (hs:c.size=c'.size) (h1:c'.all (·.oneCell')=true)
  (h:K (a.put o.dst undef) (w.setRow g c')):if Region.wanted o (yielded ops a.tmps)=true then Oper.wp P o a w K Q else E:=by
 rw[if_pos hw]
 unfold Oper.wp execOp
 simp only[ho,hx,hy,Instr.storeAt,Instr.sureAddr,Sem.run_bind,Sem.run_pure,Result.andThen_ok,run_storeVar_row w g t ty c c' hg hi hs h1]
 exact h
end Go.Proofs.YtpikejjiignchaaGreatDoor
