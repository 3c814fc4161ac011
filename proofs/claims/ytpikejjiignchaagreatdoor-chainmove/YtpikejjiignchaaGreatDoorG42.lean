import Derived.Test.YtpikejjiignchaaGreatDoorH
import Derived.Test.YtpikejjiignchaaGreatDoorG41
open Go.Proofs.Tryz
open Go renaming setRow_other->cT,TypeId->bO,heap_alloc_new->aK,lt_of_block->aA,bodyPost_ret->aR
open Go.Ending renaming returned->dX
open Go.Exit renaming inBlock->aO
open Go.IntKind renaming i64->J
open Go.Obj renaming cells->dW
open Go.Proofs.Tryz renaming prog->aB,underlying76->bY
open Go.Value renaming int->bC,slice->bN,int->E,slice->F,tuple->dY,pointer->dZ
open List renaming drop_eq_getElem_cons->aN,take_succ_eq_append_getElem->aM,cons_append->cG,getElem?_eq_getElem->aS,getD_eq_getElem?_getD->aZ,getElem?_append_right->cM,nil_append->dL,length_append->bB,replicate->aF,getElem_mem->bK
open Nat renaming lt_of_lt_of_le->aI
set_option maxHeartbeats 6400000
set_option maxRecDepth 10000
namespace Go.Proofs.YtpikejjiignchaaGreatDoor
open Go.RowKit
open Tr (fnd Zm chkTr TrOk blockE)
def Wy(K:List ByteArray)(N:List Int)(T:List Zj):List Int->List Zf->Int×List Zf
 | [],C=>(0,C)
 | x :: R,C=>if (Ym K C (fnd x N T)).1≠0 then ((Ym K C (fnd x N T)).1,[]) else Wy K N T R (Ym K C (fnd x N T)).2.1
theorem Zad{K N}{T}:∀ (P:List Int) (C:List Zf),(Yt K N T P C).1≠0->(Yt K N T P C).2.1=[]
 | [],_,h=>absurd rfl h
 | x :: P,C,h=>by
  rw[Yt] at h ⊢;split
  ·rfl
  split
  ·rfl
  rename_i z O;rw[if_neg z,if_neg O] at h;exact absurd rfl h
theorem L4{K N}{T}:∀ (P:List Int) (C:List Zf),Wy K N T P C=((Yt K N T P C).1,(Yt K N T P C).2.1)
 | [],_=>rfl
 | x :: P,C=>by
  rw[Wy,Yt];by_cases q:(Ym K C (fnd x N T)).1=0
  ·rw[if_neg (λr=>r q),if_neg (λr=>r q),L4 P];by_cases z:(Yt K N T P (Ym K C (fnd x N T)).2.1).1=0
   ·rw[if_neg (λr=>r z),z]
   ·rw[if_pos z,Zad P _ z]
  ·rw[if_pos q,if_pos q]
theorem Znx{K N T}{P:List Int}{j:Nat}(z:j<P.length)(C) :
  Wy K N T (P.drop j) C=if (Ym K C (fnd P[j] N T)).1≠0 then ((Ym K C (fnd P[j] N T)).1,[]) else Wy K N T (P.drop (j+1)) (Ym K C (fnd P[j] N T)).2.1:=by
 rw[aN z];rfl
theorem Dk{K C M}{b:Zj}{S}(h:Ym K C b=(0,M,S)):Zy M:=by
 unfold Ym at h;split at h
 ·rename_i q;injection h with h _;exact absurd h q
 rename_i q;exact Hy _ _ _ _ _ _ h (Nq (Decidable.not_not.1 q)).1
theorem Mt{K N}{T}:∀ (P:List Int) (C M:List Zf),Zy C->Wy K N T P C=(0,M)->Zy M
 | [],C,M,h,e=>by injection e with _ e;exact e ▸ h
 | x :: P,C,M,h,e=>by
  rw[Wy] at e;split at e
  ·rename_i q;injection e with e _;exact absurd e q
  rename_i q;exact Mt P _ M (Dk (S:=(Ym K C (fnd x N T)).2.2) (Prod.ext (Decidable.not_not.1 q) rfl)) e
def dsR(K:List ByteArray)(N:List Int)(T:List Zj)(Q:List Int):List Int->List Zf->Int×List Zf
 | [],C=>(0,C)
 | x :: R,C=>if x∈Q then (0,C) else
   if (Wy K N T (Zm N T (fnd x N T).1) []).1≠0 then ((Wy K N T (Zm N T (fnd x N T).1) []).1,[]) else
   if (Ym K (Wy K N T (Zm N T (fnd x N T).1) []).2 (fnd x N T)).1≠0 then ((Ym K (Wy K N T (Zm N T (fnd x N T).1) []).2 (fnd x N T)).1,[]) else
   if Zo C≠0 then (Zo C,[]) else
   if (Q0 K C (fnd x N T) (Ym K (Wy K N T (Zm N T (fnd x N T).1) []).2 (fnd x N T)).2.2).1≠0 then ((Q0 K C (fnd x N T) (Ym K (Wy K N T (Zm N T (fnd x N T).1) []).2 (fnd x N T)).2.2).1,[]) else
   dsR K N T Q R (Q0 K C (fnd x N T) (Ym K (Wy K N T (Zm N T (fnd x N T).1) []).2 (fnd x N T)).2.2).2
def upR(K:List ByteArray)(N:List Int)(T:List Zj)(P:List Int):List Int->List Zf->Int×List Zf
 | [],C=>(0,C)
 | x :: R,C=>if x∈P then upR K N T P R C else
   if Zo C≠0 then (Zo C,[]) else
   if (Ym K C (fnd x N T)).1≠0 then ((Ym K C (fnd x N T)).1,[]) else upR K N T P R (Ym K C (fnd x N T)).2.1
def mvR(K:List ByteArray)(N:List Int)(T:List Zj)(P Q:List Int)(C:List Zf):Int×List Zf:=
 if (dsR K N T Q P.reverse C).1≠0 then ((dsR K N T Q P.reverse C).1,[]) else upR K N T P Q (dsR K N T Q P.reverse C).2
theorem Zpw{K N T}{P Q:List Int}{j:Nat}(z:j<Q.length)(C) :
  upR K N T P (Q.drop j) C=if Q[j]∈P then upR K N T P (Q.drop (j+1)) C else
   if Zo C≠0 then (Zo C,[]) else
   if (Ym K C (fnd Q[j] N T)).1≠0 then ((Ym K C (fnd Q[j] N T)).1,[]) else upR K N T P (Q.drop (j+1)) (Ym K C (fnd Q[j] N T)).2.1:=by
 rw[aN z];rfl
theorem Mk{P:List Int}{j:Nat}(z:j<P.length):(P.take (j+1)).reverse=P[j] :: (P.take j).reverse:=by
 rw[aM z,List.reverse_append];rfl
theorem Zrd{K C}(b:Zj)(h:Zo C≠0):(Ym K C b).1=Zo C:=by
 have e:nfD K C b=([],Zo C):=by unfold nfD;rw[if_pos h]
 unfold Ym;rw[e,if_pos h]
theorem Zrc{K C}(b:Zj)(S)(h:Zo C≠0):(Q0 K C b S).1=Zo C:=by
 have e:nfD K C b=([],Zo C):=by unfold nfD;rw[if_pos h]
 unfold Q0;rw[e,if_pos h]
theorem Bh{K N T}{P R}:∀ (X:List Int) (C:List Zf),(∀ x∈X,x∈P)->upR K N T P (X++R) C=upR K N T P R C
 | [],_,_=>rfl
 | x :: X,C,h=>by rw[cG,upR,if_pos (h x (by simp)),Bh X C (λy z=>h y (by simp[z]))]
theorem Zjm{K N T}{P}:∀ (B:List Int) (C:List Zf),(∀ x∈B,x∉P)->upR K N T P B C=Wy K N T B C
 | [],_,_=>rfl
 | x :: B,C,h=>by
  rw[upR,Wy,if_neg (h x (by simp))];by_cases q:Zo C=0
  ·rw[if_neg (λr=>r q),Zjm B _ (λy z=>h y (by simp[z]))]
  ·rw[if_pos q,Zrd _ q,if_pos q]
theorem Zky{N T}{s:Int}(hT:TrOk N T)(hs:s=0\/s∈N){j:Nat}(z:j<(Zm N T s).length):Zm N T (fnd (Zm N T s)[j] N T).1=(Zm N T s).take j:=by
 obtain⟨h1,h2⟩:=hT.pth_in hs (aS z);have O:(Zm N T s).take (j+1)=Tr.upD N T (j+1) ((Zm N T s).getD j 0):=Tr.upD_take N T _ s j (by rw[Tr.pth_length] at z;exact z)
 have e2:Zm N T (Zm N T s)[j]=Tr.upD N T (j+1) (Zm N T s)[j]:=by
  show Tr.upD N T (fnd _ N T).2.1.toNat _=_;rw[h2,show ((j:Int)+1).toNat=j+1 by omega]
 have e3:(Zm N T s).getD j 0=(Zm N T s)[j]:=by rw[aZ,aS z];rfl
 rw[e3,<-e2,hT.pth_step h1,aM z] at O;exact (List.append_cancel_right O).symm
theorem Zhe{K N T}{P:List Int}{C M}{U:List (List (List Zf))}(h:Yt K N T P C=(0,M,U)){k:Nat}(O:k<P.length) :
  ∃ D V C',Yt K N T (P.take k) C=(0,D,V)/\Ym K D (fnd P[k] N T)=(0,C',U.getD k []):=by
 have h2:=h;rw[<-List.take_append_drop k P] at h2;obtain⟨D,V,W,h3,h4,h5⟩:=Gc _ _ _ _ _ h2;rw[aN O] at h4;obtain⟨C',S,V',h6,_,h7⟩:=Jy h4;have z:=Tf _ _ _ _ h3;rw[List.length_take,Nat.min_eq_left (by omega)] at z;refine⟨D,V,C',h3,?_⟩;have:=Vn V W 0 ([]:List (List Zf));rw[Nat.add_zero,z] at this;rw[h5,this,h7];exact h6
theorem Cn{K N T}{Q}:∀ (R:List Int) (C:List Zf),(∀ x∈R,x∈Q)->dsR K N T Q R C=(0,C)
 | [],_,_=>rfl
 | x :: R,C,h=>by rw[dsR,if_pos (h x (by simp))]
theorem Zmn{K N T}{s:Int}{Q L:List Int}{U V:List (List (List Zf))}{M}{lo:Nat}(hc:chkTr N T=0)(hs:s=0\/s∈N)(hr:Yt K N T (Zm N T s) []=(0,M,U))
  (hL:∀ i (h:i<(Zm N T s).length),lo<=i->(Zm N T s)[i]∉Q/\L.getD i 0=(Zm N T s)[i]/\V.getD i []=U.getD i [])
  (hb:∀ C,dsR K N T Q ((Zm N T s).take lo).reverse C=Po K N T L V lo C):∀ (k:Nat),lo+k<=(Zm N T s).length->∀ C,dsR K N T Q ((Zm N T s).take (lo+k)).reverse C=Po K N T L V (lo+k) C
 | 0,_,C=>hb C
 | k+1,hk,C=>by
  have O:=TrOk.of hc;have z:lo+k<(Zm N T s).length:=by omega
  obtain⟨h1,h2,h3⟩:=hL (lo+k) z (by omega);obtain⟨D,W,C',h4,h5⟩:=Zhe hr z;have hx:=(O.pth_in hs (aS z)).1;have h0:(Zm N T s)[lo+k]≠0:=λq=>O.zero (q ▸ hx);have e:Wy K N T (Zm N T (fnd (Zm N T s)[lo+k] N T).1) []=(0,D):=by rw[Zky O hs z,L4,h4]
  rw[<-Nat.add_assoc,Mk z,dsR,Po,if_neg h1,e,if_neg (λq=>q rfl),h5,if_neg (λq=>q rfl),h2,h3,if_neg h0,Dy hc hx];by_cases q:Zo C=0
  ·rw[if_neg (show ¬Zo C≠0 from λr=>r q),if_neg (show ¬(0:Int)≠0 from λr=>r rfl),Zmn hc hs hr hL hb k (by omega)]
  ·rw[if_pos q,if_neg (show ¬(0:Int)≠0 from λr=>r rfl),Zrc _ _ q,if_pos q]
theorem Zfm{N T}{s t:Int}(O:TrOk N T)(hs:s=0\/s∈N)(ht:t=0\/t∈N){X A B:List Int}(hP:Zm N T s=X++A)(z:Zm N T t=X++B)(hd:∀ i,i<A.length->i<B.length->A.getD i 0≠B.getD i 0) :
  ∀ x∈A,x∉X++B:=by
 intro x hx hq;obtain⟨i,hi,rfl⟩:=List.getElem_of_mem hx;obtain⟨j,hj,e⟩:=List.getElem_of_mem hq;have h1:(Zm N T s)[X.length+i]? = some A[i]:=by rw[hP,cM (by omega),Nat.add_sub_cancel_left,aS hi]
 have h2:(Zm N T t)[j]? = some A[i]:=by rw[z,aS hj,e]
 have h3:=(O.pth_in hs h1).2;have h4:=(O.pth_in ht h2).2;have ae:j=X.length+i:=by rw[h3] at h4;omega
 subst ae;have ad:i<B.length:=by simp at hj;omega
 refine hd i hi ad ?_;have h5:(X++B)[X.length+i]? = some A[i]:=by rw[<-z];exact h2
 rw[cM (by omega),Nat.add_sub_cancel_left] at h5;rw[aZ,aZ,h5,aS hi]
theorem Zpt{K N T}{s t:Int}(hk:Bk.bkChk K=0)(hc:chkTr N T=0)(hs:s=0\/s∈N)(ht:t=0\/t∈N)(C):Vt K N T C s t=mvR K N T (Zm N T s) (Zm N T t) C:=by
 obtain⟨X,A,B,z,hQ,hd⟩:=Zps (Tr.upD_coh N T (fnd s N T).2.1.toNat (fnd t N T).2.1.toNat s t);have z:Zm N T s=X++A:=z;have hQ:Zm N T t=X++B:=hQ;have hT:=TrOk.of hc;have sP:=hT.pth_sub hs;have sQ:=hT.pth_sub ht;have l1:=M8 hc hs;have l2:=M8 hc ht;have oA:=Zfm hT hs ht z hQ hd;have oB:=Zfm hT ht hs hQ z (λi q r e=>hd i r q e.symm);have ag:=Cx (K:=K) hc (Zm N T s) [] sP
 have br:dsR K N T (Zm N T t) (Zm N T s).reverse C=J6 K N T C (Yx (Zm N T s)) (X3 (Yx (Zm N T s)) (Yx (Zm N T t))):=by
  have ai:=l1;have aj:=l2;rw[z] at ai;rw[hQ] at aj;have o1:=L9 hd (λx O q=>hT.zero (q ▸ sP x (by rw[z];simp[O]))) ai aj;rw[<-z,<-hQ] at o1;unfold J6;rw[o1];by_cases hA:A=[]
  ·subst hA;rw[List.append_nil] at z;rw[if_pos]
   ·exact Cn _ _ (λx O=>by rw[z] at O;rw[hQ];simp at O;simp[O])
   ·rw[dL,List.replicate_append_replicate,z];rw[z] at l1;rw[show X.length+(24 - X.length)=24 by omega]
  rw[if_neg]
  ·by_cases q:(Yt K N T (Zm N T s) []).1=0
   ·obtain⟨⟨x,M,U⟩,hr⟩:=ZF (Yt K N T (Zm N T s) []);rw[hr] at q ag;have q:x=0:=q;subst q;rw[if_neg (λr=>r rfl)] at ag;rw[ag,if_neg (λr=>r rfl)];simp only;have lU:=Tf _ _ _ _ hr;have ap:(Zm N T s).length=X.length+A.length:=(by rw[z,bB]);obtain⟨L,hL⟩:=ZF (aF X.length 0++(A++aF (24 - (Zm N T s).length) 0));obtain⟨V,hV⟩:=ZF (U++aF (24 - (Zm N T s).length) [])
    have gl:∀ i,L.getD (X.length+i) 0=(A++aF (24 - (Zm N T s).length) 0).getD i 0:=λi=>by
     rw[<-hL];have:=Vn (aF X.length 0) (A++aF (24 - (Zm N T s).length) 0) i (0:Int);rw[List.length_replicate] at this;exact this
    rw[hL,hV]
    have e1:=Gv (K:=K) (N:=N) (T:=T) (L:=L) (U:=V) (lo:=X.length+A.length) C (24 - (Zm N T s).length) (λi h1 h2=>by
     have:=gl (i - X.length);rw[show X.length+(i - X.length)=i by omega] at this;rw[this];have:=Vn A (aF (24 - (Zm N T s).length) 0) (i - X.length - A.length) (0:Int);rw[show A.length+(i - X.length - A.length)=i - X.length by omega] at this;rw[this,Tm])
    rw[show X.length+A.length+(24 - (Zm N T s).length)=24 by omega] at e1;rw[e1]
    have e2:=Zmn (K:=K) (Q:=Zm N T t) (L:=L) (V:=V) (lo:=X.length) hc hs hr (λi hi hl=>by
     obtain⟨k,rfl⟩:∃ k,i=X.length+k:=⟨i - X.length,by omega⟩;have an:k<A.length:=by omega
     have ex:(Zm N T s)[X.length+k]=A[k]:=by
      have h1:(Zm N T s)[X.length+k]? = some A[k]:=(by rw[z,cM (by omega),Nat.add_sub_cancel_left,aS an]);rw[aS hi] at h1;injection h1
     refine⟨?_,?_,?_⟩
     ·rw[ex,hQ];exact oA _ (bK an)
     ·rw[gl,Wz _ _ _ _ an,ex,aZ,aS an];rfl
     ·rw[<-hV,Wz _ _ _ _ (by omega)]) (λC=>by
      rw[Cn _ _ (λx O=>by rw[z] at O;rw[hQ];simp at O;simp[O])]
      have e2:=Gv (K:=K) (N:=N) (T:=T) (L:=L) (U:=V) (lo:=0) C X.length (λi _ r=>by
       rw[<-hL,Wz _ _ _ _ (by simp;omega),Tm])
      rw[Nat.zero_add] at e2;rw[e2];rfl) A.length (by omega) C
    rw[<-ap,List.take_length] at e2;rw[ap] at e2;exact e2
   ·rw[if_pos q] at ag;rw[ag,if_pos q]
    obtain⟨j,hj⟩:∃ j,(Zm N T s).length=j+1:=⟨(Zm N T s).length - 1,by
     have:0<A.length:=List.length_pos_iff.2 hA;rw[z,bB];omega⟩
    have am:j<(Zm N T s).length:=by omega
    have bq:(Zm N T s)[j]∉Zm N T t:=by
     have bt:0<A.length:=List.length_pos_iff.2 hA;have ap:(Zm N T s).length=X.length+A.length:=(by rw[z,bB]);have h1:(Zm N T s)[j]? = some A[A.length - 1]:=(by rw[z,cM (by omega),show j - X.length=A.length - 1 by omega,aS (by omega)]);rw[aS am] at h1;injection h1 with h1;rw[h1,hQ];exact oA _ (bK _)
    have ep:(Zm N T s).reverse=(Zm N T s)[j] :: ((Zm N T s).take j).reverse:=(by rw[<-Mk am,<-hj,List.take_length]);have hv:=L4 (K:=K) (N:=N) (T:=T) (Zm N T s) [];have eq:Zm N T s=(Zm N T s).take j++[(Zm N T s)[j]]:=by rw[<-aM am,<-hj,List.take_length]
    have bw:∀ (P:List Int) (x:Int) (C:List Zf),Wy K N T (P++[x]) C=if (Wy K N T P C).1≠0 then ((Wy K N T P C).1,[]) else if (Ym K (Wy K N T P C).2 (fnd x N T)).1≠0 then ((Ym K (Wy K N T P C).2 (fnd x N T)).1,[]) else (0,(Ym K (Wy K N T P C).2 (fnd x N T)).2.1):=by
     intro P x
     induction P with
     | nil=>intro C;rw[dL,Wy,Wy,if_neg (λr:(0:Int)≠0=>r rfl)];rfl
     | cons y P ih=>
      intro C;have e:∀ R:List Int,Wy K N T (y :: R) C=if (Ym K C (fnd y N T)).1≠0 then ((Ym K C (fnd y N T)).1,[]) else Wy K N T R (Ym K C (fnd y N T)).2.1:=λ_=>rfl
      rw[cG,e,e];by_cases q:(Ym K C (fnd y N T)).1=0
      ·have q:¬(Ym K C (fnd y N T)).1≠0:=λr=>r q;rw[if_neg q,if_neg q,ih]
      ·have q:(Ym K C (fnd y N T)).1≠0:=q;rw[if_pos q,if_pos q,if_pos q]
    rw[ep,dsR,if_neg bq,Zky hT hs am];have ab:=bw ((Zm N T s).take j) (Zm N T s)[j] [];rw[<-eq,hv] at ab;by_cases q1:(Wy K N T ((Zm N T s).take j) []).1=0
    ·rw[if_neg (λr=>r q1)] at ab ⊢;by_cases q2:(Ym K (Wy K N T ((Zm N T s).take j) []).2 (fnd (Zm N T s)[j] N T)).1=0
     ·rw[if_neg (λr=>r q2)] at ab;injection ab with ab _;exact absurd ab q
     ·rw[if_pos q2] at ab ⊢;injection ab with ab _;rw[ab]
    ·rw[if_pos q1] at ab ⊢;injection ab with ab _;rw[ab]
  ·intro q;obtain⟨x,O⟩:=List.exists_mem_of_ne_nil A hA;have:x∈aF 24 (0:Int):=(by rw[<-q];simp[O]);exact hT.zero ((List.eq_of_mem_replicate this) ▸ sP x (by rw[z];simp[O]))
 unfold Vt mvR;rw[if_neg (λq=>q hk),Sb hc hs,Sb hc ht,if_neg (λq=>q rfl),if_neg (λq=>q rfl),br];by_cases q:(J6 K N T C (Yx (Zm N T s)) (X3 (Yx (Zm N T s)) (Yx (Zm N T t)))).1=0
 ·rw[if_neg (λr=>r q),if_neg (λr=>r q)];obtain⟨D,hD⟩:=ZF ((J6 K N T C (Yx (Zm N T s)) (X3 (Yx (Zm N T s)) (Yx (Zm N T t)))).2);rw[hD];have ai:=l1;have aj:=l2;rw[z] at ai;rw[hQ] at aj;have o2:=L9 (λi q r e=>hd i r q e.symm) (λx O q=>hT.zero (q ▸ sQ x (by rw[hQ];simp[O]))) aj ai;rw[<-z,<-hQ] at o2;rw[o2,J7,G2 hc B _ D _ (λx O=>sQ x (by rw[hQ];simp[O]))]
  have eu:upR K N T (Zm N T s) (Zm N T t) D=Wy K N T B D:=by
   have h1:=Bh (K:=K) (N:=N) (T:=T) (P:=Zm N T s) (R:=B) X D (λx O=>by rw[z];simp[O]);have h2:=Zjm (K:=K) (N:=N) (T:=T) (P:=Zm N T s) B D (λx O=>by rw[z];exact oB x O);rw[hQ,h1,h2]
  rw[eu,L4];by_cases q:(Yt K N T B D).1=0
  ·rw[if_neg (λr=>r q)];have:=J7 K N T (24 - (Zm N T t).length) [] (Yt K N T B D).2.1 ([]++aF X.length []++(Yt K N T B D).2.2);rw[List.append_nil] at this;rw[this,q];rfl
  ·rw[if_pos q,Zad B D q]
 ·rw[if_pos q,if_pos q]
theorem Gr.row{w z:World}{S:Nat->Prop}(h:Gr w z S){g:Nat}(hg:S g\/w.heap.size<=g)(cs):Gr w (z.setRow g cs) S:=
 ⟨h.os,h.tape,h.output,by rw[setRow_size];exact h.size,λi hi O=>(cT z g i cs (λe=>by
  subst e
  rcases hg with q|q
  ·exact O q
  ·omega)).trans (h.block i hi O)⟩
section
variable {P : Program}
theorem Yu{ops rest}{o:Oper}{a:Act}{w:World}{Q:Exit->Act->World->Prop}(aa:o.guard=none)(ty:bO)(x:Operand)(ho:o.op = .load ty x)
  (g:Nat) (hx:a.eval x = dZ (some ⟨g,0,none⟩)) (c:Array Value) (t:bO) (O:w.heap[g]? = some (dW c t (0,0))) (n:Nat) (e:bO) (hu:P.underlying ty=some (.array n e)) (hi:(P.info? ty).map (·.size)=some c.size)
  (h:wpList P ops Q rest (a.put o.dst (.agg c)) w):wpList P ops Q (o :: rest) a w:=by
 refine wpList_plain aa λK z=>?_;unfold Oper.wp execOp;simp only[ho,hx,Instr.loadAt,Instr.sureAddr,Sem.run_bind,Sem.run_pure,Result.andThen_ok,run_loadVar_row w g t ty c (0,0) _ O hu rfl hi];exact z _ _ h
theorem Zu{ops rest}{o:Oper}{a:Act}{w:World}{Q:Exit->Act->World->Prop}(ab:o.guard=none)(ty:bO)(x y:Operand)(ho:o.op = .store ty x y)
  (g:Nat) (hx:a.eval x = dZ (some ⟨g,0,none⟩)) (c z:Array Value) (hy:a.eval y = .agg z) (t:bO) (hg:w.heap[g]? = some (dW c t (0,0))) (hi:(P.info? ty).map (·.size)=some z.size) (hs:c.size=z.size) (h1:z.all (·.oneCell')=true)
  (h:wpList P ops Q rest (a.put o.dst undef) (w.setRow g z)):wpList P ops Q (o :: rest) a w:=by
 refine wpList_plain ab λK O=>?_;unfold Oper.wp execOp;simp only[ho,hx,hy,Instr.storeAt,Instr.sureAddr,Sem.run_bind,Sem.run_pure,Result.andThen_ok,run_storeVar_row w g t ty c z hg hi hs h1];exact O _ _ h
end
def Zl(R:List Int):List Value:=R.map (bC .i64)
theorem Zaf(R:List Int):(Zl R).length=R.length:=by simp[Zl]
theorem Qp{P:List Int}(h:P.length<=24):(Yx P).length=24:=by simp[Yx];omega
theorem Uw(R):(Zl R).toArray.all (·.oneCell')=true:=by
 rw[Array.all_eq_true_iff_forall_mem];intro v z;simp[Zl] at z;obtain⟨x,_,rfl⟩:=z;rfl
theorem Tryz.infoRow:(Tryz.prog.info? 76).map (·.size)=some 24:=by kernel_rfl
theorem Xm{R:List Int}(h:R.length=24):(Tryz.prog.info? 76).map (·.size)=some (Zl R).toArray.size:=by rw[Tryz.infoRow];simp[Zl,h]
theorem Ql:(#[E J 0,E J 0,E J 0,E J 0,E J 0,E J 0,E J 0,E J 0,E J 0,E J 0,E J 0,E J 0,E J 0,E J 0,E J 0,E J 0,E J 0,E J 0,E J 0,E J 0,E J 0,E J 0,E J 0,E J 0]:Array Value)=(Zl (aF 24 0)).toArray:=by kernel_rfl
theorem Zbh{P}:laid (Zl (aF 24 0)) 0 (Zl P)=Zl (Yx P):=by
 have e:Zl (aF 24 0)=aF 24 (E J 0):=by unfold Zl;rw[List.map_replicate]
 have O:Zl (Yx P)=Zl P++aF (24 - P.length) (E J 0):=by unfold Zl Yx;rw[List.map_append,List.map_replicate]
 rw[e,O];have z:=Zaf P;generalize Zl P=L at z;unfold laid;rw[List.take_zero,dL,Nat.zero_add,List.drop_replicate,z]
theorem My(a b n c m d N T)(s:Int)(P:List Int)(x:Int)(w:World)(hN:Tr.IntsAt w a n N)(hT:Tr.BlksAt w b m T)(sN:SlOk a n c)(sT:SlOk b m d)(hx:Tr.pathE N T s=(P,x))(hP:P.length<=24) :
  ZH 33 #[.agg #[F a n c,F b m d],E J s] w (dY #[.agg (Zl (Yx P)).toArray,E J x]):=by
 obtain⟨X,hX⟩:=ZG ((w.alloc (dW #[F a n c,F b m d] 28)).alloc (dW #[E J 0,E J 0,E J 0,E J 0,E J 0,E J 0,E J 0,E J 0,E J 0,E J 0,E J 0,E J 0,E J 0,E J 0,E J 0,E J 0,E J 0,E J 0,E J 0,E J 0,E J 0,E J 0,E J 0,E J 0] 76));have aj:ZD w X:=by rw[hX];exact Ze (Zg _ _) (Zg _ _)
 have ag:X.heap[w.heap.size]? = some (dW [F a n c,F b m d].toArray 28 (0,0)):=by rw[hX,Below.heap_alloc _ _ _ (by simp)];exact Tr.two_heap _ _ _ _
 have bf:X.heap[w.heap.size+1]? = some (dW (Zl (aF 24 0)).toArray 76 (0,0)):=by
  rw[hX,Ql];have:=aK (w.alloc (dW #[F a n c,F b m d] 28)) (dW (Zl (aF 24 0)).toArray 76);rw[show (w.alloc (dW #[F a n c,F b m d] 28)).heap.size=w.heap.size+1 by simp] at this;exact this
 obtain⟨pn,ap⟩:=ZF (P.length);have C1:=Zb (Tr.path_is a b n c m d N T s P pn x X (hN.later aj) (hT.later aj) sN sT hx ap);have x0:=Zd ag 0 _ rfl;have x1:=Zd ag 1 _ rfl;have xl:=aA ag;have bv:=Zb aj;have aw:=Zb bf;have bz:=Zb ap;clear hN hT sN sT hx aj ag bf ap;go_enter func33,ntmps33;go_wp2_with fail;rw[<-hX];clear hX;(try go_wp2_with fail);refine C1.mono ?_;rintro e z ⟨v,rfl,ho,ai⟩;obtain⟨pa,pc,rfl,sP,bb⟩:=Tr.ints_of_own ho;obtain⟨Y,hY⟩:=ZG (z.alloc (dW #[E J 0,E J 0,E J 0,E J 0,E J 0,E J 0,E J 0,E J 0,E J 0,E J 0,E J 0,E J 0,E J 0,E J 0,E J 0,E J 0,E J 0,E J 0,E J 0,E J 0,E J 0,E J 0,E J 0,E J 0] 76));have ak:ZD z Y:=by rw[hY];exact Zg _ _
 have ab:Y.heap[z.heap.size]? = some (dW (Zl (aF 24 0)).toArray 76 (0,0)):=by rw[hY,Ql];exact aK _ _
 have bc:=bb.later ak;have ao:=Za bz
 have CP:Hid ((Builtin.copy_ #[25,25] 3 #[F (some ⟨z.heap.size,0,none⟩) 24 24,F pa pn pc]).run aB Y = .ok (E J pn) (Y.setRow z.heap.size (Zl (Yx P)).toArray)):=by
  show _=_
  rcases Nat.eq_zero_or_pos pn with q|q
  ·subst q;have cb:P=[]:=List.length_eq_zero_iff.1 ao;subst cb;have e:Y.setRow z.heap.size (Zl (Yx [])).toArray=Y:=setRow_self _ _ _ _ _ ab;rw[e];cases pa with
   | none=>rfl
   | some ad=>
    have:=Wq (P:=aB) Y 25 25 3 3 z.heap.size 0 24 24 ad 0 pc 1 (Zl (aF 24 0)).toArray 76 [] underlying25 (by kernel_rfl) ab (by simp) (λj u O=>by simp at O) (by simp) (λu hu=>by cases hu);rw[this];have e2:laid (Zl (aF 24 0)).toArray.toList 0 []=Zl (Yx []):=Zbh (P:=[]);rw[e2,e];rfl
  ·obtain⟨pb,po,rfl,_,hc⟩:=bc.2 q;have bk:Nat.min pn 24=pn:=Nat.min_eq_left (by omega)
   have:=Wq (P:=aB) Y 25 25 3 3 z.heap.size 0 24 24 ⟨pb,po,none⟩ pn pc 1 (Zl (aF 24 0)).toArray 76 (Zl P) underlying25 (by kernel_rfl) ab (by rw[Zaf,ao,bk];omega) (λj u O=>by
    rw[Zl,List.getElem?_map] at O;cases hq:P[j]? with
    | none=>rw[hq] at O;cases O
    | some cn=>
     rw[hq] at O;cases O;obtain⟨h1,h2⟩:=List.getElem?_eq_some_iff.1 hq;have:=hc j h1;rw[h2] at this;rw[show (⟨pb,po,none⟩:Addr).add j=⟨pb,po+j,none⟩ from Addr.add_mid _ _ _];exact this) (by simp[Zl];omega) (λu hu=>by simp[Zl] at hu;obtain⟨cn,_,rfl⟩:=hu;rfl)
   rw[this];have e2:laid (Zl (aF 24 0)).toArray.toList 0 (Zl P)=Zl (Yx P):=Zbh;rw[e2,bk];rfl
 have bu:=Zb (Ze bv (Ze ai ak));have bj:=aA aw;have ce:=ai.size;have ca:=Zb ((ak.block _ (aI bj ce)).trans ((ai.block _ bj).trans aw));have cj:=Zb ab;obtain⟨Z,hZ⟩:=ZG (Y.setRow z.heap.size (Zl (Yx P)).toArray);have bh:Z.heap[z.heap.size]? = some (dW (Zl (Yx P)).toArray 76 (0,0)):=by rw[hZ];exact setRow_heap _ _ _ _ _ _ ab
 have bg:Z.heap[w.heap.size+1]? = some (dW (Zl (aF 24 0)).toArray 76 (0,0)):=by
  rw[hZ,cT _ _ _ _ (by omega)];exact Za ca
 have bi:ZD w Z:=by rw[hZ];exact below_setRow bu (by omega) _
 rw[<-hZ] at CP;have ay:=Zb bh;have ax:=Zb bg;have bw:=Zb bi;have hR:=Xm (Qp hP);have bd:((Zl (aF 24 0)).toArray:Array Value).size=(Zl (Yx P)).toArray.size:=by simp[Zl,Qp hP]
 obtain⟨R,an⟩:=ZF ((Zl (Yx P)).toArray);have cd:R.all (·.oneCell')=true:=by rw[<-an];exact Uw _
 rw[an] at ay hR bd;clear ho bb bc ai ak ab bh bg bi hZ ao x0 x1;go_wp2_with fail;rw[<-hY];clear hY;rw[Za CP]
 go_wp2_with (first|(refine Yu rfl 76 _ rfl _ rfl _ _ ay _ _ bY hR ?_)|(refine Zu rfl 76 _ _ rfl _ rfl _ _ rfl _ ax hR bd cd ?_))
 (try simp only[aO,Exit.then]);have hF:(Z.setRow (w.heap.size+1) R).heap[w.heap.size+1]? = some (dW R 76 (0,0)):=setRow_heap _ _ _ _ _ _ ax;have HL:=run_loadVar_row (P:=aB) (Z.setRow (w.heap.size+1) R) (w.heap.size+1) 76 76 R (0,0) _ hF bY rfl hR;refine aR (v:=dY #[.agg R,E J x]) ?_ rfl ⟨by rw[an],below_setRow bw (by omega) _⟩;rw[Yb rfl];simp[asAddr,Result.andThen,HL]
def UnV(B:Nat)(w:World)(v:Value)(S:List (List Zf)):Prop:=∃ a n c,v = F a n c/\UndosAt w a n S/\∀ z,a=some z->B<=z.block
def UnC(B:Nat)(w:World)(cs:List Value)(U:List (List (List Zf))):Prop:=cs.length=24/\∀ i,i<24->∃ v,cs[i]? = some v/\UnV B w v (U.getD i [])
def UnAt(B g:Nat)(w:World)(U:List (List (List Zf))):Prop:=∃ cs:List Value,w.heap[g]? = some (dW cs.toArray 81 (0,0))/\UnC B w cs U
theorem UnV.later{B:Nat}{w w':World}{v S}(h:UnV B w v S)(z:ZD w w'):UnV B w' v S:=by
 obtain⟨a,n,c,e,h,h2⟩:=h;exact⟨a,n,c,e,h.later z,h2⟩
theorem UnC.later{B:Nat}{w w':World}{cs U}(h:UnC B w cs U)(z:ZD w w'):UnC B w' cs U:=
 ⟨h.1,λi hi=>by obtain⟨v,e,O⟩:=h.2 i hi;exact⟨v,e,O.later z⟩⟩
theorem UnAt.later{B g}{w w':World}{U}(h:UnAt B g w U)(z:ZD w w'):UnAt B g w' U:=by
 obtain⟨cs,h1,h2⟩:=h;exact⟨cs,ZE z h1,h2.later z⟩
theorem UnC.nil(B:Nat)(w):UnC B w (aF 24 (F none 0 0)) []:=
 ⟨by simp,λi hi=>⟨F none 0 0,by rw[List.getElem?_replicate,if_pos hi],none,0,0,rfl,⟨by simp[List.getD],λh=>absurd h (by omega)⟩,λz e=>by cases e⟩⟩
theorem UnC.slices{B:Nat}{w cs U}(h:UnC B w cs U):∀ v∈cs,∃ a n c,v = F a n c:=by
 intro v O;obtain⟨i,hi,rfl⟩:=List.getElem_of_mem O;obtain⟨v,e,a,n,c,z,_⟩:=h.2 i (by rw[<-h.1];exact hi);rw[aS hi] at e;injection e with e;exact⟨a,n,c,e.trans z⟩
theorem UnC.usok{B g:Nat}{w:World}{cs:List Value}{U}(h:UnC B w cs U)(z:w.heap[g]? = some (dW cs.toArray 81 (0,0))):UsOk 81 g 24 w:=⟨cs,z,h.1,h.slices⟩
theorem Mi{ty:bO}{g m:Nat}{w w' a n S}(h:UndosAt w a n S)(ho:UsOk ty g m w)(hn:∀ O,a=some O->O.block≠g)(z:Gr w w' (λq=>q=g)):UndosAt w' a n S:=by
 refine⟨h.1,λh0=>?_⟩;obtain⟨b,off,rfl,hb,hc⟩:=h.2 h0;refine⟨b,off,rfl,aI hb z.size,λi hi=>?_⟩;have ag:b≠g:=hn _ rfl;obtain⟨ca,cn,cc,h1,h2,h3⟩:=hc i hi;exact⟨ca,cn,cc,z.cell h1 ag,W7 h2 ho z,h3⟩
theorem UnC.gr{ty:bO}{B g m:Nat}{w w' cs U}(h:UnC B w cs U)(ho:UsOk ty g m w)(hB:g<B)(hg:Gr w w' (λq=>q=g)):UnC B w' cs U:=
 ⟨h.1,λi hi=>by
  obtain⟨v,e,a,n,c,O,h1,h2⟩:=h.2 i hi;exact⟨v,e,a,n,c,O,Mi h1 ho (λz q=>by have:=h2 z q;omega) hg,h2⟩⟩
theorem UnAt.put{B g}{w:World}{U:List (List (List Zf))}(h:UnAt B g w U)(hB:g<B){a n c S}(hS:UndosAt w a n S)(O:∀ z,a=some z->B<=z.block) :
  UnAt B g (w.setCell ⟨g,U.length,none⟩ (F a n c)) (U++[S]):=by
 obtain⟨cs,h1,h2⟩:=h;have hg:=(Gr.refl w (λq=>q=g)).one g U.length (.inl rfl) (F a n c);have ho:=h2.usok h1;refine⟨cs.set U.length (F a n c),Mh h1 _ _,by rw[List.length_set];exact h2.1,λi hi=>?_⟩;by_cases e:i=U.length
 ·subst e;refine⟨_,by rw[List.getElem?_set_self (by rw[h2.1];exact hi)],a,n,c,rfl,?_,O⟩;have e0:(U++[S]).getD U.length []=S:=by simp
  rw[e0];exact Mi hS ho (λz q=>by have:=O z q;omega) hg
 ·obtain⟨v,e1,a',n',c',e2,h3,h4⟩:=h2.2 i hi;refine⟨v,by rw[List.getElem?_set_ne (λq=>e q.symm)];exact e1,a',n',c',e2,?_,h4⟩
  have e3:(U++[S]).getD i []=U.getD i []:=by
   rcases Nat.lt_or_ge i U.length with q|q
   ·exact Wz _ _ _ _ q
   ·simp only[aZ];rw[List.getElem?_eq_none (by simp;omega),List.getElem?_eq_none q]
  rw[e3];exact Mi h3 ho (λz q=>by have:=h4 z q;omega) hg
theorem UnAt.skip{B g w U}(h:UnAt B g w U):UnAt B g w (U++[[]]):=by
 obtain⟨cs,h1,h2⟩:=h;refine⟨cs,h1,h2.1,λi hi=>?_⟩
 have z:(U++[[]]).getD i []=U.getD i []:=by
  rcases Nat.lt_or_ge i U.length with q|q
  ·exact Wz _ _ _ _ q
  ·simp only[aZ];rw[List.getElem?_eq_none (i:=i) (l:=U) q]
   rcases Nat.eq_or_lt_of_le q with r|r
   ·subst r;simp
   ·rw[List.getElem?_eq_none (by simp;omega)]
 rw[z];exact h2.2 i hi
theorem UnC.less{B z:Nat}{w cs U}(h:UnC z w cs U)(hb:B<=z):UnC B w cs U:=
 ⟨h.1,λi hi=>by obtain⟨v,e,a,n,c,e2,h1,h2⟩:=h.2 i hi;exact⟨v,e,a,n,c,e2,h1,λO q=>Nat.le_trans hb (h2 O q)⟩⟩
theorem UnC.one{B:Nat}{w}{cs:List Value}{U}(h:UnC B w cs U):cs.toArray.all (·.oneCell')=true:=by
 rw[Array.all_eq_true_iff_forall_mem];intro v z;obtain⟨a,n,c,rfl⟩:=h.slices v (by simpa using z);rfl
theorem Tryz.infoUndone:(Tryz.prog.info? 81).map (·.size)=some 24:=by kernel_rfl
theorem Ty{cs:List Value}(h:cs.length=24):(Tryz.prog.info? 81).map (·.size)=some cs.toArray.size:=by rw[Tryz.infoUndone];simp[h]
theorem Ly:(#[F none 0 0,F none 0 0,F none 0 0,F none 0 0,F none 0 0,F none 0 0,F none 0 0,F none 0 0,F none 0 0,F none 0 0,F none 0 0,F none 0 0,F none 0 0,F none 0 0,F none 0 0,F none 0 0,F none 0 0,F none 0 0,F none 0 0,F none 0 0,F none 0 0,F none 0 0,F none 0 0,F none 0 0]:Array Value)=(aF 24 (F none 0 0)).toArray:=by kernel_rfl
theorem tk{P:Program}{ops}{Q:Exit->Act->World->Prop}{z:Region.Mode}{S:World->Prop}(i:Nat)(oi:Oper)(v){fuel:Nat}{listed:Array Bool}{a:Act}{w}(hi:ops[i]? = some oi)
  (hy:∀ w,S w->(execOp a.eval oi).run P w = .ok (.value v) w) (hS:S w) (h:wpAnyH P z ops Q S fuel (listed.setIfInBounds i true) (a.put oi.dst v) w)
  (O:∀ c a w,Q (.panic c) (a.put oi.dst v) w->Q (.panic c) a w:=by exact λ_ _ _ h=>h) (hw:Region.wanted oi (yielded ops a.tmps)=true:=by rfl)
  (hs:Region.noSelect ops=true:=by kernel_rfl) (hf:Region.free z ops listed i=true:=by kernel_rfl) (hr:(Region.ready z ops listed).contains i=true:=by kernel_rfl) :
  wpAnyH P z ops Q S (fuel+1) listed a w:=wpAnyH_take hi hs hf hr O (Or.inl ⟨hw,hy⟩) hS h
theorem Uz{P:Program}{o:Oper}{a:Act}{w:World}(ty:bO)(x:Operand)(O:o.op = .load ty x)
  (g:Nat) (hx:a.eval x = dZ (some ⟨g,0,none⟩)) (c:Array Value) (t:bO) (z:w.heap[g]? = some (dW c t (0,0))) (n:Nat) (e:bO) (hu:P.underlying ty=some (.array n e)) (hi:(P.info? ty).map (·.size)=some c.size) :
  (execOp a.eval o).run P w = .ok (.value (.agg c)) w:=by
 unfold execOp;simp only[O,hx,Instr.loadAt,Instr.sureAddr,Sem.run_bind,Sem.run_pure,Result.andThen_ok,run_loadVar_row w g t ty c (0,0) _ z hu rfl hi]
theorem Vy{P:Program}{ops}{o:Oper}{a:Act}{w:World}{K:Act->World->Prop}{Q:Exit->Act->World->Prop}{O:Prop}(hw:Region.wanted o (yielded ops a.tmps)=true)(ty:bO)(x y:Operand)(ho:o.op = .store ty x y)
  (g:Nat) (hx:a.eval x = dZ (some ⟨g,0,none⟩)) (c z:Array Value) (hy:a.eval y = .agg z) (t:bO) (hg:w.heap[g]? = some (dW c t (0,0))) (hi:(P.info? ty).map (·.size)=some z.size) (hs:c.size=z.size) (h1:z.all (·.oneCell')=true)
  (h:K (a.put o.dst undef) (w.setRow g z)):if Region.wanted o (yielded ops a.tmps)=true then Oper.wp P o a w K Q else O:=by
 rw[if_pos hw];unfold Oper.wp execOp;simp only[ho,hx,hy,Instr.storeAt,Instr.sureAddr,Sem.run_bind,Sem.run_pure,Result.andThen_ok,run_storeVar_row w g t ty c z hg hi hs h1];exact h
def ClR(w w':World)(x:Int)(C:List Zf)(U:List (List (List Zf)))(e:Ending):Prop:=
 ∃ z O oc cs,e = dX (dY #[F z O oc,.agg cs.toArray,E J x])/\CoinsAt w' z O C/\SlOk z O oc/\UnC w.heap.size w' cs U/\ZD w w'
theorem Zmy{w w':World}{x y:Int}{C U}(h:((y:Int),([]:List Zf),([]:List (List (List Zf))))=(x,C,U))(z:ZD w w'):ClR w w' x C U (dX (dY #[F none 0 0,.agg (aF 24 (bN none 0 0)).toArray,E J y])):=by
 injection h with h1 h2;injection h2 with h2 h3;subst h1 h2 h3;exact⟨none,0,0,_,rfl,⟨rfl,λh=>absurd h (by omega)⟩,Wd,UnC.nil _ _,z⟩
theorem cl_at{K N T}{R:List Int}{j:Nat}(z:j<R.length)(C)(U) :
  Ue K N T (R.drop j) C U=if R[j]=0 then Ue K N T (R.drop (j+1)) C (U++[[]]) else
   if (Tr.blockE N T R[j]).2≠0 then ((Tr.blockE N T R[j]).2,[],[]) else
   if (Ym K C (Tr.blockE N T R[j]).1).1≠0 then ((Ym K C (Tr.blockE N T R[j]).1).1,[],[]) else
   Ue K N T (R.drop (j+1)) (Ym K C (Tr.blockE N T R[j]).1).2.1 (U++[(Ym K C (Tr.blockE N T R[j]).1).2.2]):=by
 rw[aN z];rfl
theorem Zdy(w:World)(z O o3 o4 o5:Obj)(X:World)(hX:X=((((w.alloc z).alloc O).alloc o3).alloc o4).alloc o5) :
  ZD w X/\X.heap.size=w.heap.size+5/\X.heap[w.heap.size]? = some z/\X.heap[w.heap.size+1]? = some O/\X.heap[w.heap.size+2]? = some o3/\X.heap[w.heap.size+3]? = some o4/\X.heap[w.heap.size+4]? = some o5:=by
 have b1:=Zg w z;have b2:=Zg (w.alloc z) O;have b3:=Zg ((w.alloc z).alloc O) o3;have b4:=Zg (((w.alloc z).alloc O).alloc o3) o4;have b5:=Zg ((((w.alloc z).alloc O).alloc o3).alloc o4) o5;have h1:=aK w z;have h2:=aK (w.alloc z) O;have h3:=aK ((w.alloc z).alloc O) o3;have h4:=aK (((w.alloc z).alloc O).alloc o3) o4;have h5:=aK ((((w.alloc z).alloc O).alloc o3).alloc o4) o5;have k3:=Ze b4 b5;have k2:=Ze b3 k3;have k1:=Ze b2 k2;have g1:=ZE k1 h1;have g2:=ZE k2 h2;have g3:=ZE k3 h3;have g4:=ZE b5 h4;simp only[World.size_alloc] at g2 g3 g4 h5;subst hX;exact⟨Ze b1 k1,by simp[World.size_alloc],g1,g2,g3,g4,h5⟩
theorem Fe(R:List Int)(h:R.length=24)(j:Nat)(z:j<R.length)(w):(Instr.index 76 (.agg (Zl R).toArray) (E J j)).run aB w = .ok (E J R[j]) w:=by
 have e:(Zl R)[j]? = some (E J R[j]):=by simp[Zl,z]
 simp[Instr.index,run_underlying bY,asIntOf,go_sem];rw[if_pos (by omega),e];rfl
theorem UnAt.old{B g}{w:World}{U}(h:UnAt B g w U){j:Nat}(z:j<24):(∃ v,w.cell? ⟨g,j,none⟩=some v)/\w.frozen? ⟨g,j,none⟩=false/\g<w.heap.size:=by
 obtain⟨cs,h1,h2⟩:=h;obtain⟨v,e,_⟩:=h2.2 j z;exact⟨⟨v,Zd h1 j v e⟩,Zi h1 j,aA h1⟩
theorem UnAt.coins{B g w w' U}(h:UnAt B g w U){a n C}(z:CoinsAt w a n C)(O:Gr w w' (λq=>q=g)):CoinsAt w' a n C:=by
 obtain⟨cs,h1,h2⟩:=h;exact W7 z (h2.usok h1) O
theorem G1(ka kn kc K a b n c m d N T la ln lc C0)(R:List Int)(x:Int)(C' U' w)(hE:Env w)(hK:Bk.TextsAt w ka kn K)(hN:Tr.IntsAt w a n N)(hT:Tr.BlksAt w b m T)(sN:SlOk a n c)(sT:SlOk b m d)(hC:CoinsAt w la ln C0)(sC:SlOk la ln lc)(hR:R.length=24)(hx:Ue K N T R C0 []=(x,C',U')) :
  Calls aB 34 #[.agg #[F ka kn kc],.agg #[F a n c,F b m d],F la ln lc,.agg (Zl R).toArray] w λe w'=>ClR w w' x C' U' e:=by
 obtain⟨X,hX⟩:=ZG (((((w.alloc (dW #[F ka kn kc] 24)).alloc (dW #[F a n c,F b m d] 28)).alloc (dW (Zl R).toArray 76)).alloc (dW #[F none 0 0,F none 0 0,F none 0 0,F none 0 0,F none 0 0,F none 0 0,F none 0 0,F none 0 0,F none 0 0,F none 0 0,F none 0 0,F none 0 0,F none 0 0,F none 0 0,F none 0 0,F none 0 0,F none 0 0,F none 0 0,F none 0 0,F none 0 0,F none 0 0,F none 0 0,F none 0 0,F none 0 0] 81)).alloc (dW #[F none 0 0,F none 0 0,F none 0 0,F none 0 0,F none 0 0,F none 0 0,F none 0 0,F none 0 0,F none 0 0,F none 0 0,F none 0 0,F none 0 0,F none 0 0,F none 0 0,F none 0 0,F none 0 0,F none 0 0,F none 0 0,F none 0 0,F none 0 0,F none 0 0,F none 0 0,F none 0 0,F none 0 0] 81));obtain⟨cp,dy,dv,dw,dx,cm,cn⟩:=Zdy _ _ _ _ _ _ X hX;rw[Ly] at cm cn;have dc:=Zb cp;have fg:=Zb dv;have fh:=Zb dw;have dl:=Zb cm;have ci:=Zb dy;have HE:=Zb hE;have HK:=Zb hK;have HN:=Zb hN;have HT:=Zb hT;have ep:=Zb (hC.later cp);have ew:=Zb sC;have ez:=Zb sN;have fa:=Zb sT;have HR:=Zb hR;have HX:=Zb hx;have fd:Hid (UnAt (w.heap.size+5) (w.heap.size+4) X []):=⟨_,cn,UnC.nil _ _⟩;have fm:=Xm hR
 have ev:Hid ((((((w.alloc (dW #[F ka kn kc] 24)).alloc (dW #[F a n c,F b m d] 28)).alloc (dW (Zl R).toArray 76)).alloc (dW #[F none 0 0,F none 0 0,F none 0 0,F none 0 0,F none 0 0,F none 0 0,F none 0 0,F none 0 0,F none 0 0,F none 0 0,F none 0 0,F none 0 0,F none 0 0,F none 0 0,F none 0 0,F none 0 0,F none 0 0,F none 0 0,F none 0 0,F none 0 0,F none 0 0,F none 0 0,F none 0 0,F none 0 0] 81)).alloc (dW #[F none 0 0,F none 0 0,F none 0 0,F none 0 0,F none 0 0,F none 0 0,F none 0 0,F none 0 0,F none 0 0,F none 0 0,F none 0 0,F none 0 0,F none 0 0,F none 0 0,F none 0 0,F none 0 0,F none 0 0,F none 0 0,F none 0 0,F none 0 0,F none 0 0,F none 0 0,F none 0 0,F none 0 0] 81)).heap[w.heap.size+2]? = some (dW (Zl R).toArray 76 (0,0))):=by rw[<-hX];exact dx
 clear hE hK hN hT sN sT hC sC cp dv dw dx cm cn dy hx;go_enter func34,ntmps34
 go_wp2_with (refine Yu rfl 76 _ rfl _ rfl _ _ ev _ _ bY fm ?_)
 rw[<-hX];clear hX
 go_loopw [2,17] (λcv i wr=>∃ (j:Nat) (ca:Option Addr) (ia ib:Nat) (C:List Zf) (U:List (List (List Zf))),j<=24/\i = .int .i64 j/\cv = F ca ia ib/\Hid (U.length=j)/\Hid (CoinsAt wr ca ia C/\SlOk ca ia ib)/\Hid (UnAt (w.heap.size+5) (w.heap.size+4) wr U)/\Hid (Ue K N T (R.drop j) C U=(x,C',U'))/\Hid (Gr X wr (λq=>q=w.heap.size+4))) (λ_ i _=>24 - (intOf i).toNat)
 case atStart=>exact⟨0,la,ln,lc,C0,[],Nat.zero_le _,rfl,rfl,rfl,⟨Za ep,Za ew⟩,fd,by show _=_;rw[List.drop_zero];exact Za HX,Gr.refl _ _⟩
 case round=>
  obtain⟨j,ca,ia,ib,C,U,hj,rfl,rfl,cg,ar,HU,HQ,O⟩:=hrel;by_cases ed:j<24
  ·have ec:j<R.length:=(by rw[Za HR];exact ed);have z:=(cl_at ec C U).symm.trans HQ;have fq:=λW=>Fe R HR j ec W;obtain⟨s,hs⟩:=ZF (R[j]);rw[hs] at z fq;have dh:=Zb z;have gw:(j:Int)<24:=(by omega);clear z hs;by_cases h0:s=0
   ·subst h0;have bj:Hid (Ue K N T (R.drop (j+1)) C (U++[[]])=(x,C',U')):=(by have:=Za dh;rw[if_pos rfl] at this;exact this);go_wp2;go_roundw
    case rel=>exact⟨j+1,ca,ia,ib,C,U++[[]],by omega,by go_num,rfl,by show _=_;rw[bB,Za cg];rfl,ar,HU.skip,bj,O⟩
    case measure=>simp[intOf];omega
   ·have gq:(s == 0)=false:=(by simp[h0]);obtain⟨⟨bx,y⟩,ct⟩:=ZF (Tr.blockE N T s);obtain⟨bp,bh,ic,id,L⟩:=bx;have z:=Za dh;rw[if_neg h0,ct] at z;simp only at z;obtain⟨⟨x3,C3,S3⟩,cw⟩:=ZF (Ym K C (bp,bh,ic,id,L));rw[cw] at z;simp only at z;have ak:ZD w wr:=O.below dc (by have:=Za ci;omega) (λq e=>by omega);have C1:=Zb (Tr.block_is a b n c m d N T s (bp,bh,ic,id,L) y wr (HN.later ak) (HT.later ak) ez fa ct);have H0:=Zb (O.heap fg (by omega));have H1:=Zb (O.heap fh (by omega));have H3:=Zb (O.heap dl (by omega));have fv:=Zd H1 0 _ rfl;have fw:=Zd H1 1 _ rfl;have fx:=aA H1;have bj:=Zb z;have af:=Zb ak;have eq:=Zb cw;clear z ct ak cw;go_wp2_with fail;refine C1.mono ?_;rintro e w1 ⟨ta,tn,tc,rfl,cl,el,bt⟩;simp only at cl;obtain⟨Y,hY⟩:=ZG (w1.alloc (dW #[.int .i64 bp,.int .i64 bh,.int .i64 ic,.int .i64 id,F ta tn tc] 68));have cq:ZD w1 Y:=(by rw[hY];exact Zg _ _);have dz:Y.heap[w1.heap.size]? = some (dW [.int .i64 bp,.int .i64 bh,.int .i64 ic,.int .i64 id,F ta tn tc].toArray 68 (0,0)):=(by rw[hY];exact Z8 _ _ _ _ _ _ _);have bv:=Ze bt cq;have am:=Zb bv;have fc:=Zb (cl.later cq);have an:=Zb dz;have gm:=Zb el;have gl:=Zb (ZE bv H0);have cd:=Zb (ZE bv H3);have r0:=Zc bt (Zd H0 0 _ rfl);have fz:=aI (aA H0) bt.size;clear cl el bt cq dz bv fv fw fx;by_cases hy:y=0
    ·subst hy;have di:Hid ((if x3≠0 then (x3,[],[]) else Ue K N T (R.drop (j+1)) C3 (U++[S3]))=(x,C',U')):=(by have:=Za bj;rw[if_neg (λq=>q rfl)] at this;exact this);have CN:=Zb (Zej ka kn kc K ca ia ib C bp bh ic id ta tn tc L x3 C3 S3 Y (HE.later (Ze af am)) (HK.later (Ze af am)) (ar.1.later am) ar.2 fc eq);have s0:=Zd an 0 _ rfl;have s1:=Zd an 1 _ rfl;have s2:=Zd an 2 _ rfl;have s3:=Zd an 3 _ rfl;have s4:=Zd an 4 _ rfl;have sl:=aA an;go_wp2_with fail;rw[<-hY];clear hY;(try go_wp2_with fail);refine CN.mono ?_;rintro e w3 ⟨oa,fu,oc,ua,un,uc,rfl,dp,ei,du,gi,co,eb⟩;have bu:=Ze am co;have bq:=HU.later bu;obtain⟨⟨ov,gx⟩,gs,gu⟩:=bq.old ed;have bn:=(Gr.refl w3 (λq=>q=w.heap.size+4)).one (w.heap.size+4) j (.inl rfl) (F ua un uc);have dd:=Zb (bq.coins dp bn);have cx:=am.size;have gy:=Za ci;have fo:=O.size;have dj:Hid (UnAt (w.heap.size+5) (w.heap.size+4) (w3.setCell ⟨w.heap.size+4,j,none⟩ (F ua un uc)) (U++[S3])):=(by have:=bq.put (by omega) (c:=uc) du (λad e=>by have:=eb ad e;omega);rw[Za cg] at this;exact this);have df:=Zb ((O.on bu).one (w.heap.size+4) j (.inl rfl) (F ua un uc));have cc:=Zb (bn.heap (ZE co cd) (by omega));have ey:=Zb ei;obtain⟨W4,br⟩:=ZG (w3.setCell ⟨w.heap.size+4,j,none⟩ (F ua un uc));have bk:=Zb (bn.below (Ze af bu) (by omega) (λq e=>by omega));rw[<-br] at dd dj df cc bk;clear dp ei du gi co eb bu bq bn s0 s1 s2 s3 s4 sl r0 fz cx fo;by_cases cy:x3=0
     ·subst cy;have eu:Hid (Ue K N T (R.drop (j+1)) C3 (U++[S3])=(x,C',U')):=(by have:=Za di;rw[if_neg (λq=>q rfl)] at this;exact this);go_wp2;rw[<-br];clear br;go_roundw
      case rel=>exact⟨j+1,oa,fu,oc,C3,U++[S3],by omega,by go_num,rfl,by show _=_;rw[bB,Za cg];rfl,⟨Za dd,Za ey⟩,dj,eu,df⟩
      case measure=>simp[intOf];omega
     ·have av:Hid ((x3,([]:List Zf),([]:List (List (List Zf))))=(x,C',U')):=(by have:=Za di;rw[if_pos cy] at this;exact this);have ie:(x3 != 0)=true:=(by simp[cy]);subst br;have ba:=Ty (cs:=aF 24 (bN none 0 0)) (by simp);have cz:=(UnC.nil 0 (w3.setCell ⟨w.heap.size+4,j,none⟩ (F ua un uc))).one
      go_wp2_with (refine Zu rfl 81 _ _ rfl _ rfl _ (aF 24 (bN none 0 0)).toArray (by rfl) _ cc ba rfl cz ?_)
      (try simp only[aO,Exit.then]);have hF:((w3.setCell ⟨w.heap.size+4,j,none⟩ (F ua un uc)).setRow (w.heap.size+3) (aF 24 (bN none 0 0)).toArray).heap[w.heap.size+3]? = some (dW (aF 24 (bN none 0 0)).toArray 81 (0,0)):=setRow_heap _ _ _ _ _ _ cc;have HL:=run_loadVar_row (P:=aB) _ (w.heap.size+3) 81 81 _ (0,0) _ hF underlying81 rfl ba;refine aR (v:=dY #[F none 0 0,.agg (aF 24 (bN none 0 0)).toArray,.int .i64 x3]) ?_ rfl ?_
      ·rw[Zn rfl];exact (congrArg (λr=>Result.andThen r λx w₂=>Result.ok (Value.tuple #[F none 0 0,x,.int .i64 x3]) w₂) HL).trans rfl
      ·exact Zmy av (below_setRow bk (by omega) _)
    ·have av:Hid ((y,([]:List Zf),([]:List (List (List Zf))))=(x,C',U')):=(by have:=Za bj;rw[if_pos hy] at this;exact this);have ig:(y == 0)=false:=(by simp[hy]);have ie:(y != 0)=true:=(by simp[hy]);have bk:=Zb (Ze af am);subst hY;have ba:=Ty (cs:=aF 24 (bN none 0 0)) (by simp);have cz:=(UnC.nil 0 (w1.alloc (dW #[.int .i64 bp,.int .i64 bh,.int .i64 ic,.int .i64 id,F ta tn tc] 68))).one
     go_wp2_with (refine Zu rfl 81 _ _ rfl _ rfl _ (aF 24 (bN none 0 0)).toArray (by rfl) _ cd ba rfl cz ?_)
     (try simp only[aO,Exit.then]);have hF:((w1.alloc (dW #[.int .i64 bp,.int .i64 bh,.int .i64 ic,.int .i64 id,F ta tn tc] 68)).setRow (w.heap.size+3) (aF 24 (bN none 0 0)).toArray).heap[w.heap.size+3]? = some (dW (aF 24 (bN none 0 0)).toArray 81 (0,0)):=setRow_heap _ _ _ _ _ _ cd;have HL:=run_loadVar_row (P:=aB) _ (w.heap.size+3) 81 81 _ (0,0) _ hF underlying81 rfl ba;refine aR (v:=dY #[F none 0 0,.agg (aF 24 (bN none 0 0)).toArray,.int .i64 y]) ?_ rfl ?_
     ·rw[Zn rfl];exact (congrArg (λr=>Result.andThen r λx w₂=>Result.ok (Value.tuple #[F none 0 0,x,.int .i64 y]) w₂) HL).trans rfl
     ·exact Zmy av (below_setRow bk (by omega) _)
  ·obtain rfl:j=24:=(by omega);have av:Hid (((0:Int),C,U)=(x,C',U')):=(by have:=Za HQ;rw[List.drop_of_length_le (by rw[Za HR];exact Nat.le_refl _)] at this;exact this);obtain⟨cs,ea,ay⟩:=Za HU;have h3:=O.heap dl (by omega);have ak:ZD w wr:=O.below dc (by have:=Za ci;omega) (λq e=>by omega);have cu:=Ty ay.1;have fp:=ay.one;have cx:((aF 24 (bN none 0 0)).toArray:Array Value).size=cs.toArray.size:=(by simp[ay.1]);have de:=Zb ea;have H3:=Zb h3;have af:=Zb ak;have fe:=Zb ay;clear ea h3 ak ay;go_wp2_with fail;refine wp_region_held_drew (S:=λV=>V.heap[w.heap.size+4]? = some (dW cs.toArray 81 (0,0))) (by kernel_rfl) de (λag=>?_);refine tk 0 ⟨some 46,.move (.tmp 2),29, "chain.go:55",#[],none⟩ ?_ rfl ?_ ag ?_;rotate_left
   ·(intro W bo;go_simp;first|done|with_reducible rfl)
   (try simp only[Act.put,ZA,ZB,ZC]);refine tk 1 ⟨some 47,.load 81 (.tmp 11),81, "chain.go:55",#[⟨2,.gcOnly .lateStores⟩],none⟩ (.agg cs.toArray) rfl ?_ ag ?_
   ·(intro V bo;exact Uz 81 _ rfl (w.heap.size+4) rfl cs.toArray 81 bo _ _ underlying81 cu)
   (try simp only[Act.put,ZA,ZB,ZC]);refine tk 2 ⟨some 8,.assign (.tmp 46),29, "chain.go:55",#[⟨0,.data⟩,⟨0,.phase⟩,⟨1,.textOnly .lateStores⟩],none⟩ ?_ rfl ?_ ag ?_;rotate_left
   ·(intro W bo;go_simp;first|done|with_reducible rfl)
   (try simp only[Act.put,ZA,ZB,ZC]);refine wpAnyH_ready (rs:=[3]) (by kernel_rfl) (by simp) ?_;refine AllReadyH.cons (o:=⟨none,.store 81 (.tmp 9) (.tmp 47),0, "chain.go:55",#[⟨1,.data⟩,⟨2,.chain⟩,⟨0,.phase⟩,⟨1,.phase⟩,⟨2,.phase⟩],none⟩) rfl (λKQ hK=>?_) AllReadyH.nil;refine Vy (by rfl) 81 _ _ rfl (w.heap.size+3) rfl (aF 24 (bN none 0 0)).toArray cs.toArray rfl 81 H3 cu cx fp ?_;refine hK.out _ _ ((cT _ _ _ _ (by omega)).trans de) (λdm=>?_);clear hK KQ ag;have ag:=dm;clear dm;(try simp only[Act.put]);refine tk 4 ⟨some 10,.assign (.const (bC IntKind.i64 0)),30, "chain.go:55",#[⟨3,.chain⟩,⟨0,.phase⟩,⟨1,.phase⟩,⟨2,.phase⟩,⟨3,.phase⟩],none⟩ ?_ rfl ?_ ag ?_;rotate_left
   ·(intro W bo;go_simp;first|done|with_reducible rfl)
   (try simp only[Act.put,ZA,ZB,ZC]);refine wpAnyH_done (by kernel_rfl) ?_ _;clear ag;go_wp2;(try simp only[aO,Exit.then]);obtain⟨r1,r2⟩:=Prod.mk.inj av;obtain⟨r2,r3⟩:=Prod.mk.inj r2;subst r1 r2 r3;have hF:(wr.drew.setRow (w.heap.size+3) cs.toArray).heap[w.heap.size+3]? = some (dW cs.toArray 81 (0,0)):=setRow_heap _ _ _ _ _ _ H3;have HL:=run_loadVar_row (P:=aB) _ (w.heap.size+3) 81 81 _ (0,0) _ hF underlying81 rfl cu;have cj:Gr wr (wr.drew.setRow (w.heap.size+3) cs.toArray) (λq=>q=w.heap.size+3):=(Gr.refl wr (λq=>q=w.heap.size+3)).draw.row (g:=w.heap.size+3) (.inl rfl) _;have ef:UsOk 81 (w.heap.size+3) 24 wr:=(UnC.nil 0 wr).usok H3;refine aR (v:=dY #[F ca ia ib,.agg cs.toArray,.int .i64 0]) ?_ rfl ⟨ca,ia,ib,cs,rfl,W7 ar.1 ef cj,ar.2,(fe.gr ef (by omega) cj).less (by omega),cj.below af (by have:=af.size;omega) (λq e=>by omega)⟩;rw[Zn rfl];exact (congrArg (λr=>Result.andThen r λx w₂=>Result.ok (Value.tuple #[F ca ia ib,x,.int .i64 0]) w₂) HL).trans rfl
