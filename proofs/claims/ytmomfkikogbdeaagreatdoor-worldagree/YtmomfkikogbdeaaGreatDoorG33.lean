import Derived.Test.YtmomfkikogbdeaaGreatDoorH
import Derived.Test.YtmomfkikogbdeaaGreatDoorG32
open Classical renaming not_not->cC
open Go renaming lt_of_block->aA,wp_region_held_drew->dD,wpAnyH_ready->cM
open Go.Act renaming put->aQ
open Go.Ending renaming returned->dF
open Go.IntKind renaming i64->J
open Go.Obj renaming cells->dE
open Go.Value renaming int->E,slice->F,tuple->dG,pointer->dH
open List renaming cons_append->bZ,mem_cons->aO,mem_singleton->cP,mem_append->bL,drop_eq_getElem_cons->aJ,length_take->bI,getElem_mem->bE
open Nat renaming lt_of_lt_of_le->aD,le_refl->aF
open Prod.mk renaming injEq->aU
set_option maxHeartbeats 12800000
set_option maxRecDepth 10000
namespace Go.Proofs.YtmomfkikogbdeaaGreatDoor.Tr
open Go.RowKit
theorem nextD_ok{N T}{x:Int}{b:Zk}(h:nextD N T x b=0):(1<=x/\x<=120)/\Yq b=0/\x∉N/\(b.1=0\/b.1∈N)/\b.2.1=(fnd b.1 N T).2.1+1:=by
 unfold nextD at h;split at h
 ·cases h
 ·next q1=>
  split at h
  ·next q2=>exact absurd h q2
  ·next q2=>
   split at h
   ·cases h
   ·next q3=>
    split at h
    ·cases h
    ·next q4=>
     split at h
     ·cases h
     ·next q5=>
      refine⟨by simpa using q1,cC.1 q2,by simpa using q3,?_,cC.1 q5⟩;by_cases e:b.1=0
      ·exact .inl e
      ·right
       by_cases e2:b.1∈N
       ·exact e2
       ·exact absurd ⟨e,by simp[e2]⟩ q4
theorem nextD_mk{N T}{x:Int}{b:Zk}(h1:1<=x/\x<=120)(h2:Yq b=0)(h3:x∉N)(h4:b.1=0\/b.1∈N)(h5:b.2.1=(fnd b.1 N T).2.1+1):nextD N T x b=0:=by
 unfold nextD
 rw[if_neg (by simp[h1]),if_neg (by simp[h2]),if_neg (by simp[h3]),if_neg (by
  rintro ⟨e,e2⟩
  rcases h4 with h|h
  ·exact e h
  ·simp[h] at e2),if_neg (by simp[h5])]
theorem Zgu{N M:List Int}{T U:List Zk}{y:Int}:N.length=T.length->y∈N->fnd y (N++M) (T++U)=fnd y N T:=by
 induction N generalizing T with
 | nil=>intro _ h;cases h
 | cons a N ih=>
  intro hl h;cases T with
  | nil=>cases hl
  | cons b T=>
   simp only[bZ,fnd];by_cases e:y=a
   ·simp[e]
   ·rw[if_neg e,if_neg e];refine ih (by simpa using hl) ?_
    rcases aO.1 h with h|h
    ·exact absurd h e
    ·exact h
theorem Po{N M:List Int}{T U:List Zk}{y:Int}:N.length=T.length->y∉N->fnd y (N++M) (T++U)=fnd y M U:=by
 induction N generalizing T with
 | nil=>
  intro hl _;cases T with
  | nil=>rfl
  | cons _ _=>cases hl
 | cons a N ih=>
  intro hl h;cases T with
  | nil=>cases hl
  | cons b T=>
   simp only[bZ,fnd];rw[if_neg (λe=>h (by simp[e]))];exact ih (by simpa using hl) (λq=>h (by simp[q]))
theorem Zom(x:Int)(b:Zk):fnd x [x] [b]=b:=by simp[fnd]
structure TrOk(N:List Int)(T:List Zk):Prop where
 len:N.length=T.length
 nd:N.Nodup
 nm:∀ x∈N,1<=x/\x<=120
 par:∀ x∈N,(fnd x N T).1=0\/(fnd x N T).1∈N
 hgt:∀ x∈N,(fnd x N T).2.1=(fnd (fnd x N T).1 N T).2.1+1
 chk:∀ b∈T,Yq b=0
theorem TrOk.nil:TrOk [] []:=⟨rfl,List.nodup_nil,λ_ h=>(by cases h),λ_ h=>(by cases h),λ_ h=>(by cases h),λ_ h=>(by cases h)⟩
theorem TrOk.zero{N T}(h:TrOk N T):(0:Int)∉N:=λq=>by have:=(h.nm 0 q).1;omega
theorem TrOk.heads{N T}(h:TrOk N T):Xb T:=λb hb=>Pt (h.chk b hb)
theorem TrOk.same{N T}{x:Int}{b:Zk}(h:TrOk N T)(hx:1<=x){y:Int}(hy:y=0\/y∈N):fnd y (N++[x]) (T++[b])=fnd y N T:=by
 by_cases e:y∈N
 ·exact Zgu h.len e
 ·have ab:y=0:=by rcases hy with q|q;exact q;exact absurd q e
  rw[Po h.len e,fnd_out h.len e];unfold fnd;rw[if_neg (by omega)];unfold fnd;rfl
theorem TrOk.new{N T}{x:Int}{b:Zk}(h:TrOk N T)(hx:x∉N):fnd x (N++[x]) (T++[b])=b:=by
 rw[Po h.len hx,Zom]
theorem TrOk.add{N T}{x:Int}{b:Zk}(h:TrOk N T)(hn:nextD N T x b=0):TrOk (N++[x]) (T++[b]):=by
 obtain⟨h1,h2,h3,h4,h5⟩:=nextD_ok hn;refine⟨by simp[h.len],?_,λy hy=>?_,λy hy=>?_,λy hy=>?_,λc hc=>?_⟩
 ·rw[List.nodup_append];exact⟨h.nd,by simp,λa ha c hc=>by rw[cP.1 hc];exact λe=>h3 (e ▸ ha)⟩
 ·rcases bL.1 hy with q|q
  ·exact h.nm y q
  ·rw[cP.1 q];exact h1
 ·rcases bL.1 hy with q|q
  ·rw[h.same h1.1 (.inr q)]
   rcases h.par y q with e|e
   ·exact .inl e
   ·exact .inr (by simp[e])
  ·rw[cP.1 q,h.new h3]
   rcases h4 with e|e
   ·exact .inl e
   ·exact .inr (by simp[e])
 ·rcases bL.1 hy with q|q
  ·rw[h.same h1.1 (.inr q),h.same h1.1 (h.par y q)];exact h.hgt y q
  ·rw[cP.1 q,h.new h3,h.same h1.1 h4];exact h5
 ·rcases bL.1 hc with q|q
  ·exact h.chk c q
  ·rw[cP.1 q];exact h2
theorem Ly:∀ (M:List Int) (U:List Zk) (N:List Int) (T:List Zk),M.length=U.length->TrOk N T->Xg N T M U=0->TrOk (N++M) (T++U)
 | [],[],N,T,_,h,_=>by simpa using h
 | [],_ :: _,_,_,h,_,_=>by cases h
 | _ :: _,[],_,_,h,_,_=>by cases h
 | x :: M,b :: U,N,T,hl,h,hc=>by
  rw[Xg] at hc;split at hc
  ·next q=>exact absurd hc q
  ·next q=>
   have:=Ly M U _ _ (by simpa using hl) (h.add (cC.1 q)) hc;simpa using this
theorem TrOk.of{N T}(h:chkTr N T=0):TrOk N T:=by
 obtain⟨h1,_,_,h4⟩:=Wz h;simpa using Ly N T [] [] h1 TrOk.nil h4
theorem Lz:∀ (M:List Int) (U:List Zk) (N:List Int) (T:List Zk) (x:Int) (b:Zk),M.length=U.length->Xg N T M U=0->nextD (N++M) (T++U) x b=0->Xg N T (M++[x]) (U++[b])=0
 | [],[],N,T,x,b,_,_,h=>by
  rw[List.append_nil,List.append_nil] at h;simp[Xg,h]
 | [],_ :: _,_,_,_,_,h,_,_=>by cases h
 | _ :: _,[],_,_,_,_,h,_,_=>by cases h
 | y :: M,c :: U,N,T,x,b,h,hc,hn=>by
  rw[Xg] at hc;split at hc
  ·next q=>exact absurd hc q
  ·next q=>
   rw[bZ,bZ,Xg,if_neg q];exact Lz M U _ _ x b (by simpa using h) hc (by simpa using hn)
theorem chkTr_snoc{N:List Int}{T}{x:Int}{b:Zk}(h:chkTr N T=0)(hn:nextD N T x b=0)(hl:N.length≠24):chkTr (N++[x]) (T++[b])=0:=by
 obtain⟨h1,h2,_,h4⟩:=Wz h;unfold chkTr;rw[if_neg (by simp[h1]),if_neg (by simp;omega)];exact Lz N T [] [] x b h1 h4 (by simpa using hn)
theorem TrOk.up{N T}(h:TrOk N T)(y:Int):(fnd y N T).1=0\/(fnd y N T).1∈N:=by
 by_cases e:y∈N
 ·exact h.par y e
 ·rw[fnd_out h.len e];exact .inl rfl
theorem TrOk.up_mem{N T}(h:TrOk N T):∀ (d:Nat) (y:Int),(y=0\/y∈N)->∀ z∈upD N T d y,z=0\/z∈N
 | 0,_,_,z,hz=>by cases hz
 | d+1,y,hy,z,hz=>by
  rw[upD] at hz
  rcases bL.1 hz with q|q
  ·exact h.up_mem d _ (h.up y) z q
  ·rw[cP.1 q];exact hy
theorem Zhz(N T):∀ (P Q:List Int) (s:Int),W4 N T s (P++Q)=W4 N T (W4 N T s P) Q
 | [],_,_=>rfl
 | y :: P,Q,s=>by rw[bZ,W4,W4,Zhz N T P Q]
def Rm(N:List Int)(T:List Zk)(q:Int×Int)(P:List Int):Int×Int:=P.foldl (λq x=>if q.2<Xc N T x\/Xc N T x=q.2/\x<q.1 then (x,Xc N T x) else q) q
theorem Ag(N T):∀ (P:List Int) (b m:Int),bstGo N T b m P=(Rm N T (b,m) P).1
 | [],_,_=>rfl
 | x :: P,b,m=>by
  rw[bstGo];unfold Rm;rw[List.foldl_cons];split
  ·rw[Ag N T P];rfl
  ·rw[Ag N T P];rfl
theorem L8(N T):∀ (P:List Int) (q:Int×Int),q.2=Xc N T q.1->(Rm N T q P).2=Xc N T (Rm N T q P).1
 | [],_,h=>h
 | x :: P,q,h=>by
  unfold Rm;rw[List.foldl_cons];split
  ·exact L8 N T P _ rfl
  ·exact L8 N T P _ h
theorem L9(N T):∀ (P:List Int) (q:Int×Int),(Rm N T q P).1=q.1\/(Rm N T q P).1∈P
 | [],_=>.inl rfl
 | x :: P,q=>by
  unfold Rm;rw[List.foldl_cons];split
  ·rcases L9 N T P (x,Xc N T x) with h|h
   ·exact .inr (by unfold Rm at h;rw[h];simp)
   ·exact .inr (by unfold Rm at h;simp[h])
  ·rcases L9 N T P q with h|h
   ·exact .inl h
   ·exact .inr (by unfold Rm at h;simp[h])
theorem TrOk.wrk_zero{N T}(h:TrOk N T):Xc N T 0=0:=by
 unfold Xc Vv;rw[fnd_out h.len h.zero];rfl
theorem addE_ok{N:List Int}{T}{x:Int}{b:Zk}{N' T'}(h:addE N T x b=(N',T',0)):chkTr N T=0/\nextD N T x b=0/\N.length≠24/\N'=N++[x]/\T'=T++[b]:=by
 unfold addE at h;split at h
 ·next q=>exact absurd (congrArg (·.2.2) h) q
 ·next q=>
  split at h
  ·next q2=>exact absurd (congrArg (·.2.2) h) q2
  ·next q2=>
   split at h
   ·next q3=>have:=congrArg (·.2.2) h;simp at this
   ·next q3=>exact⟨cC.1 q,cC.1 q2,q3,(congrArg (·.1) h).symm,(congrArg (·.2.1) h).symm⟩
theorem Zjk{N T}{y:Int}(h:chkTr N T=0)(hy:y=0\/y∈N):Jo N T y=(Vv N T y,0):=by
 unfold Jo
 rw[if_neg (by simp[h]),if_neg (by
  rintro ⟨e,e2⟩
  rcases hy with q|q
  ·exact e q
  ·simp[q] at e2)]
theorem workE_mk{N T}{y:Int}(h:chkTr N T=0)(hy:y=0\/y∈N):workE N T y=(Xc N T y,0):=by
 unfold workE;rw[Zjk h hy,if_neg (by simp)];rfl
theorem bstD_mk{N T}(h:chkTr N T=0):bstD N T=(bstGo N T 0 0 N,0):=by
 unfold bstD;rw[if_neg (by simp[h])]
theorem wrk_bd{N T}(hH:Xb T)(y:Int):0<=Xc N T y/\Xc N T y<=1000000:=by
 have h1:=Hi hH (Vv N T y) 0 (N:=N);have h2:=Fa (N:=N) hH y;unfold Xc;omega
theorem Fe:∀ (U N:List Int),U.Nodup->(∀ x∈U,x∈N)->U.length<=N.length
 | [],_,_,_=>Nat.zero_le _
 | x :: U,N,h,hs=>by
  have hx:x∈N:=hs x (by simp);have hn:=List.nodup_cons.1 h;have h1:=Fe U (N.erase x) hn.2 (λy hy=>(List.mem_erase_of_ne (λ(e:y=x)=>hn.1 (e ▸ hy))).2 (hs y (by simp[hy])));rw[List.length_erase_of_mem hx] at h1;have:0<N.length:=List.length_pos_of_mem hx;simp only[List.length_cons];omega
theorem L3:∀ (M:List Int) (U:List Zk) (N:List Int) (T:List Zk),M.length=U.length->Xg N T M U=0->∀ i (h:i<M.length) (h':i<U.length),nextD (N++M.take i) (T++U.take i) M[i] U[i]=0
 | [],_,_,_,_,_,_,h,_=>absurd h (by simp)
 | _ :: _,[],_,_,h,_,_,_,_=>by cases h
 | x :: M,b :: U,N,T,hl,hc,0,_,_=>by
  rw[Xg] at hc;split at hc
  ·next q=>exact absurd hc q
  ·next q=>simpa using cC.1 q
 | x :: M,b :: U,N,T,hl,hc,i+1,h,h'=>by
  rw[Xg] at hc;split at hc
  ·next q=>exact absurd hc q
  ·next q=>
   have:=L3 M U _ _ (by simpa using hl) hc i (by simpa using h) (by simpa using h');simpa using this
theorem ahead{N:List Int}{T:List Zk}(hc:chkTr N T=0)(i:Nat)(h:i<N.length)(h':i<T.length):fnd N[i] N T=T[i]/\(T[i].1=0\/T[i].1∈N.take i):=by
 obtain⟨hl,_,_,ad⟩:=Wz hc;have h1:=L3 N T [] [] hl ad i h h';simp only[List.nil_append] at h1;obtain⟨_,_,q3,q4,_⟩:=nextD_ok h1;refine⟨?_,q4⟩;have e1:N=N.take i++(N[i] :: N.drop (i+1)):=by rw[<-aJ h,List.take_append_drop]
 have e2:T=T.take i++(T[i] :: T.drop (i+1)):=by rw[<-aJ h',List.take_append_drop]
 have:=Po (N:=N.take i) (M:=N[i] :: N.drop (i+1)) (T:=T.take i) (U:=T[i] :: T.drop (i+1)) (by rw[bI,bI];omega) q3;rw[<-e1,<-e2] at this;rw[this];simp[fnd]
structure Sub(U:List Int)(V:List Zk)(N:List Int)(T:List Zk):Prop where
 chk:chkTr U V=0
 mem:∀ y∈U,y∈N
 same:∀ y∈U,fnd y U V=fnd y N T
theorem Sub.nil(N T):Sub [] [] N T:=⟨rfl,λ_ h=>(by cases h),λ_ h=>(by cases h)⟩
theorem Sub.all{U V N T}(h:Sub U V N T)(hc:chkTr N T=0){y:Int}(hy:y=0\/y∈U):fnd y U V=fnd y N T:=by
 by_cases e:y∈U
 ·exact h.same y e
 ·have ac:y=0:=by rcases hy with q|q;exact q;exact absurd q e
  subst ac;rw[fnd_out (TrOk.of h.chk).len e,fnd_out (TrOk.of hc).len (TrOk.of hc).zero]
theorem Sub.step{U V}{N:List Int}{T:List Zk}(h:Sub U V N T)(hc:chkTr N T=0){k:Nat}(hk:k<N.length)(af:k<T.length){U' V'}(ha:addE U V N[k] T[k]=(U',V',0)):Sub U' V' N T/\U'=U++[N[k]]:=by
 obtain⟨h1,h2,h3,rfl,rfl⟩:=addE_ok ha;have ok:=TrOk.of h1;obtain⟨g1,_,g3,_,_⟩:=nextD_ok h2;refine⟨⟨chkTr_snoc h1 h2 h3,λy hy=>?_,λy hy=>?_⟩,rfl⟩
 ·rcases bL.1 hy with q|q
  ·exact h.mem y q
  ·rw[cP.1 q];exact bE hk
 ·rcases bL.1 hy with q|q
  ·rw[ok.same g1.1 (.inr q)];exact h.same y q
  ·rw[cP.1 q,ok.new g3,(ahead hc k hk af).1]
theorem Sub.must{U V}{N:List Int}{T:List Zk}(h:Sub U V N T)(hc:chkTr N T=0){i:Nat}(hi:i<N.length)(ae:i<T.length)(ha:∀ j (hj:j<N.length),j<i->N[j]∈U)(hn:N[i]∉U):∃ U' V',addE U V N[i] T[i]=(U',V',0):=by
 have okN:=TrOk.of hc;have aq:=TrOk.of h.chk;obtain⟨e1,e2⟩:=ahead hc i hi ae;have ab:N[i]∈N:=bE hi
 have ah:T[i].1=0\/T[i].1∈U:=by
  rcases e2 with q|q
  ·exact .inl q
  ·obtain⟨j,hj,ej⟩:=List.getElem_of_mem q;rw[bI] at hj;rw[List.getElem_take] at ej;rw[<-ej];exact .inr (ha j (by omega) (by omega))
 have hh:=okN.hgt _ ab;rw[e1,<-h.all hc ah] at hh;have ap:nextD U V N[i] T[i]=0:=nextD_mk (okN.nm _ ab) (okN.chk _ (bE ae)) hn ah hh
 have an:U.length≠24:=by
  have h1:=Fe (N[i] :: U) N (List.nodup_cons.2 ⟨hn,aq.nd⟩) (λx hx=>by
   rcases aO.1 hx with rfl|hx
   ·exact ab
   ·exact h.mem x hx)
  have h2:=(Wz hc).2.1;simp only[List.length_cons] at h1;omega
 refine⟨U++[N[i]],V++[T[i]],?_⟩;unfold addE;rw[if_neg (by simp[h.chk]),if_neg (by simp[ap]),if_neg an]
theorem Sub.full{U:List Int}{V}{N:List Int}{T}(h:Sub U V N T)(hc:chkTr N T=0)(ha:∀ j (hj:j<N.length),N[j]∈U):U.length=N.length/\∀ y∈N,y∈U:=by
 have hs:∀ y∈N,y∈U:=λy hy=>by
  obtain⟨j,hj,rfl⟩:=List.getElem_of_mem hy;exact ha j hj
 have h1:=Fe U N (TrOk.of h.chk).nd h.mem;have h2:=Fe N U (TrOk.of hc).nd hs;exact⟨by omega,hs⟩
theorem Sub.up{U V N T}(h:Sub U V N T)(hc:chkTr N T=0):∀ (d:Nat) (y:Int),(y=0\/y∈U)->upD U V d y=upD N T d y
 | 0,_,_=>rfl
 | d+1,y,hy=>by
  rw[upD,upD,<-h.all hc hy,h.up hc d _ ((TrOk.of h.chk).up y)]
theorem Sub.pth{U V N T}(h:Sub U V N T)(hc:chkTr N T=0){y:Int}(hy:y=0\/y∈U):Vv U V y=Vv N T y:=by
 unfold Vv;rw[h.all hc hy,h.up hc _ y hy]
theorem Sub.wk{U V N T}(h:Sub U V N T)(hc:chkTr N T=0):∀ (P:List Int) (s:Int),(∀ z∈P,z=0\/z∈U)->W4 U V s P=W4 N T s P
 | [],_,_=>rfl
 | y :: P,s,hP=>by
  rw[W4,W4,h.all hc (hP y (by simp)),h.wk hc P _ (λz hz=>hP z (by simp[hz]))]
theorem Sub.wrk{U V N T}(h:Sub U V N T)(hc:chkTr N T=0){y:Int}(hy:y=0\/y∈U):Xc U V y=Xc N T y:=by
 unfold Xc;rw[h.wk hc (Vv U V y) 0 ((TrOk.of h.chk).up_mem _ y hy),h.pth hc hy]
theorem TrOk.wrk_pos{N T}(h:TrOk N T){y:Int}(hy:y∈N):1<=Xc N T y:=by
 have hb:=h.heads _ (fnd_in h.len hy);obtain⟨d,hd⟩:∃ d,(fnd y N T).2.1.toNat=d+1:=⟨(fnd y N T).2.1.toNat - 1,by omega⟩;unfold Xc Vv;rw[hd,upD,Zhz,W4,W4];have:=(Hi h.heads (upD N T d (fnd y N T).1) 0 (N:=N)).1;omega
theorem E5(N T):∀ (P D:List Int) (q:Int×Int),(∀ y∈D,Xc N T y<q.2\/Xc N T y=q.2/\q.1<=y)->∀ y,y∈D\/y∈P->Xc N T y<(Rm N T q P).2\/Xc N T y=(Rm N T q P).2/\(Rm N T q P).1<=y
 | [],D,q,h,y,hy=>by
  rcases hy with hy|hy
  ·exact h y hy
  ·cases hy
 | x :: P,D,q,h,y,hy=>by
  have ac:Rm N T q (x :: P)=Rm N T (if q.2<Xc N T x\/Xc N T x=q.2/\x<q.1 then (x,Xc N T x) else q) P:=rfl;rw[ac]
  refine E5 N T P (x :: D) _ (λz hz=>?_) y (by
   rcases hy with hy|hy
   ·exact .inl (by simp[hy])
   ·rcases aO.1 hy with rfl|hy
    ·exact .inl (by simp)
    ·exact .inr hy)
  rcases aO.1 hz with rfl|hz
  ·split
   ·exact .inr ⟨rfl,Int.le_refl _⟩
   ·next q1=>omega
  ·have:=h z hz;split
   ·next q1=>simp only;omega
   ·exact this
theorem best_max{N T}(h:TrOk N T):(bstGo N T 0 0 N=0\/bstGo N T 0 0 N∈N)/\(∀ y∈N,Xc N T y<Xc N T (bstGo N T 0 0 N)\/Xc N T y=Xc N T (bstGo N T 0 0 N)/\bstGo N T 0 0 N<=y):=by
 rw[Ag];have hw:=L8 N T N (0,0) h.wrk_zero.symm;rw[<-hw];exact⟨L9 N T N (0,0),λy hy=>E5 N T N [] (0,0) (λ_ q=>by cases q) y (.inr hy)⟩
theorem best_same{U V N T}(h:Sub U V N T)(hc:chkTr N T=0)(hs:∀ y∈N,y∈U):bstGo U V 0 0 U=bstGo N T 0 0 N:=by
 have okN:=TrOk.of hc;have ag:=TrOk.of h.chk;obtain⟨a1,a2⟩:=best_max okN;obtain⟨b1,b2⟩:=best_max ag;obtain⟨p,hp⟩:=ZF (bstGo N T 0 0 N);obtain⟨q,hq⟩:=ZF (bstGo U V 0 0 U);rw[hp] at a1 a2 ⊢;rw[hq] at b1 b2 ⊢;have af:Xc U V q=Xc N T q:=h.wrk hc b1
 rcases a1 with a1|a1
 ·rcases b1 with b1|b1
  ·rw[a1,b1]
  ·have e:=a2 q (h.mem q b1);rw[a1,okN.wrk_zero] at e;have:=okN.wrk_pos (h.mem q b1);omega
 ·have e1:=b2 p (hs p a1);rw[h.wrk hc (.inr (hs p a1)),af] at e1
  rcases b1 with b1|b1
  ·rw[b1,okN.wrk_zero] at e1;have:=okN.wrk_pos a1;omega
  ·have e2:=a2 q (h.mem q b1);omega
end Tr
open Go.RowKit
theorem Wf{N:List Int}{T:List Zk}(hc:Tr.chkTr N T=0):N.length=T.length/\N.length<=24/\(∀ x∈N,(Lit.int .i64 x).wf=true)/\(∀ b∈T,(Lit.int .i64 b.1).wf=true)/\(∀ b∈T,Tr.BlkSmall b)/\∀ s,0<=Xz N T s/\Xz N T s<=1000:=by
 have ok:=Tr.TrOk.of hc
 have h24:N.length<=24:=by
  unfold Tr.chkTr at hc;split at hc
  ·cases hc
  split at hc
  ·cases hc
  omega
 refine⟨ok.len,h24,λx hx=>?_,λb hb=>?_,λb hb=>Tr.blk_small (ok.chk b hb),λs=>?_⟩
 ·have:=ok.nm x hx;exact Hk (by omega) (by omega)
 ·have h1:=ok.chk b hb;obtain⟨p,h,k,n,L⟩:=b;have h2:=(Ww h1).1;simp[Wk] at h2;exact Hk (by simp only;omega) (by simp only;omega)
 ·unfold Xz Tr.blockE;rw[if_neg (λq=>q hc)];split
  ·rename_i q;have:=Ey (ok.chk _ (Tr.fnd_at ok.len (by simpa using q)));simp only;omega
  ·exact⟨Int.le_refl _,by decide⟩
theorem Xq{N T}{z:Int}(h:Tr.bstD N T=(z,0)):Tr.chkTr N T=0/\(z=0\/z∈N):=by
 unfold Tr.bstD at h;split at h
 ·rename_i q;injection h with _ h;exact absurd h q
 ·rename_i q;injection h with h _;have hc:=Decidable.not_not.1 q;exact⟨hc,h ▸ (Tr.best_max (Tr.TrOk.of hc)).1⟩
theorem Zgg(w:World):(Instr.makeMap 252 none).run Tryz.prog w = .ok (.map (some w.heap.size)) (w.alloc (.map #[] 0)):=by kernel_rfl
def Zma(Z:Nat->Prop)(w:World)(d bm m:Nat)(K:List ByteArray)(N:List Int)(T:List Zk)(P:List TxD)(tip:Int)(β : Int->List Zj):Prop:=
 ∃ ka kn kc na nn nc ba bn bc pa pn pc f,DeskAt Z w d bm m ka kn kc K na nn nc N ba bn bc T pa pn pc P tip f β
theorem Ea{V w6 w7:World}{d bm B A:Nat}{ka na ba pa kn kc nn nc bn bc pn pc K N T P}{tip:Int}(hK:Fresh A V (λw2=>Bk.TextsAt w2 ka kn K))(sk:SlOk ka kn kc)(hb:ZD V w6)(hF:Fresh B w6 (λw2=>Tr.IntsAt w2 na nn N/\Tr.BlksAt w2 ba bn T/\TxsAt w2 pa pn P))(sn:SlOk na nn nc)(sb:SlOk ba bn bc)(sp:SlOk pa pn pc)
  (h67:ZD w6 w7) (box:w7.heap[d]? = some (dE [F ka kn kc,F na nn nc,F ba bn bc,F pa pn pc,E J tip,.map (some bm)].toArray 254 (0,0))) (hm:BMap bm 0 (λ_=>Ce) w7) (h1:V.heap.size<=bm) (h2:w6.heap.size<=d) (h3:bm<B\/w6.heap.size<=bm) (h4:d≠bm) (hA:A<=B) (hA2:A<=V.heap.size) :
  DeskAt (λq=>q<A) w7 d bm 0 ka kn kc K na nn nc N ba bn bc T pa pn pc P tip (λ_=>Ce) noB:=by
 have hs:=hb.size;have aj:=h67.size;refine⟨box,λW g=>?_,λW _ x=>⟨none,0,0,rfl,RowsAt.nil _ _,Zu⟩,sk,sn,sb,sp,hm,h4,λq e=>by have e:q<A:=e;omega⟩
 have gV:Gr V W (λq=>q<A):=((Gr.of (Zf hb h67)):Gr V w7 (λq=>q<A)).far g (λq e=>by
  rcases e with e|e|e
  ·exact .inl (by omega)
  ·exact .inl (by omega)
  ·exact .inr e)
 have g6:Gr w6 W (λq=>q<B):=((Gr.of h67):Gr w6 w7 (λq=>q<B)).far g (λq e=>by
  rcases e with e|e|e
  ·omega
  ·omega
  ·exact .inr (aD e hA))
 have ab:=hF W g6;exact⟨hK W gV,ab.1,ab.2.1,ab.2.2⟩
def OpnR(w w':World)(x:Int)(K:List ByteArray)(N:List Int)(T:List Zk)(P:List TxD)(tip:Int)(β : Int->List Zj)(e:Ending):Prop:=
 ZD w w'/\((x≠0/\e = dF (dG #[dH none,E J x]))\/(x=0/\∃ d bm m,e = dF (dG #[dH (some ⟨d,0,none⟩),E J 0])/\Zma (λq=>q<w.heap.size) w' d bm m K N T P tip β/\w.heap.size<=d/\w.heap.size<=bm/\m<=24))
theorem Kw(ka kn kc K na ba pa nn nc bn bc pn pc N T P)(tip x:Int)(w)(hE:Env w)(hK:Bk.TextsAt w ka kn K)(hN:Tr.IntsAt w na nn N)(hT:Tr.BlksAt w ba bn T)(hP:TxsAt w pa pn P)(sN:SlOk na nn nc)(sT:SlOk ba bn bc)(sP:SlOk pa pn pc)(hp:pn<=2513169434916)(hq:∀ t∈P,Tr.TxSmall t)(hx:opE K N T P tip=x) :
  Calls Tryz.prog 107 #[.agg #[F ka kn kc],.agg #[F na nn nc,F ba bn bc,F pa pn pc,.int .i64 tip]] w λe w'=>OpnR w w' x K N T P tip (Z1 K N T noB).2 e:=by
 obtain⟨X,hX⟩:=ZG (Yv w [dE #[F ka kn kc] 24,dE #[F na nn nc,F ba bn bc,F pa pn pc,.int .i64 tip] 67]);have dx:X=(w.alloc (dE #[F ka kn kc] 24)).alloc (dE #[F na nn nc,F ba bn bc,F pa pn pc,.int .i64 tip] 67):=hX;have cg:ZD w X:=by rw[hX];exact Zs _ _
 have dy:X.heap.size=w.heap.size+2:=by rw[hX];exact Z0 _ _
 have x0:=kl0 hX _ _ rfl;have x1:=kl hX 1 _ _ rfl;obtain⟨⟨M,Z,z⟩,hz⟩:=ZF (Bk.allR K [])
 have cq:z=Bk.bkChk K/\(z=0->M=K):=by
  unfold Bk.allR at hz;split at hz
  ·rename_i q;rw[Bk.nmGo] at hz;simp only[aU] at hz;exact⟨by rw[<-hz.2.2,q],λ_=>hz.1.symm⟩
  ·rename_i q;simp only[aU] at hz;exact⟨hz.2.2.symm,λe=>absurd (hz.2.2.trans e) q⟩
 have C1:=Zd (Bk.all_isF ka none kn kc 0 0 K [] M Z z X (hK.later cg) ⟨rfl,λh=>absurd h (by omega)⟩ (by omega) hz);obtain⟨⟨b,y⟩,hy⟩:=ZF (Tr.bstD N T);have C2:=Zd (λV (hv:ZD w V)=>Tr.best_is na ba nn nc bn bc N T b y V (hN.later hv) (hT.later hv) sN sT hy);obtain⟨⟨u,γ⟩,hu⟩:=ZF (Z1 K N T noB);unfold opE at hx;rw[<-cq.1,hy,hu] at hx;simp only at hx;rw[hu];simp only;obtain⟨HX,fi,dh,dp,ff,fg,HY,HU⟩:=kh8 hx cq cg dy x0 x1 hy hu;obtain⟨HE,HN,HT,HP,ew,ez,ey,eu⟩:=kh8 hE hN hT hP sN sT sP hp;have HQ:=Zd hq;obtain⟨t0,tl⟩:=kc1 x0;clear hE hK hN hT hP sN sT sP hp hq hx cg dy x0 x1 hX hz cq hy hu;go_enter Tryz.func107,Tryz.ntmps107;go_wp2_with fail;rw[<-dx];clear dx;(try go_wp2_with fail);refine C1.mono ?_;rintro e w1 ⟨⟨a',n',c',a2,n2,c2,rfl,dv,ei,_,_,_⟩,ax⟩;have h10:=ZE ax ff;have h11:=ZE ax fg;obtain⟨y0,yf,yl⟩:=kf1 h10;obtain⟨V,hV⟩:=ZG (w1.setCell ⟨w.heap.size,0,none⟩ (F a' n' c'));have g1:Gr w1 V (λq=>q=w.heap.size):=by rw[hV];exact (Gr.refl w1 (λq=>q=w.heap.size)).one w.heap.size 0 (.inl rfl) _
 have v0:V.heap[w.heap.size]? = some (dE #[F a' n' c'] 24 (0,0)):=by rw[hV];exact Vk h10
 have v1:=g1.heap h11 (by omega);have cf:ZD w V:=g1.below (Zf dh ax) (Zf dh ax).size (λq e=>by have e:q=w.heap.size:=e;omega);have dl:Hid (Fresh w.heap.size V (λw2=>Bk.TextsAt w2 a' n' M)):=λW g=>dv W ((g1.mono (λq _ e=>by have e:q=w.heap.size:=e;have:=Za dp;omega)).trans (g.mono (λq _ e=>by have e:q<w.heap.size:=e;have:=Za dp;omega)));obtain⟨bg,fb,fc,dm⟩:=kh4 cf v0 v1 ei;obtain⟨q0,q1,-,q3,ql⟩:=kc4 v1;obtain⟨p0,p1,pl⟩:=kc2 h11;have D2:=Zd (C2 V cf);clear ax h10 h11 g1 v0 v1 cf dv ei C1 C2 t0 tl;by_cases z0:z=0
 ·subst z0;obtain rfl:=fi.2 rfl;go_wp2_with fail;rw[<-hV];clear hV y0 yf yl p0 p1 pl;(try go_wp2_with fail);refine D2.mono ?_;rintro e w2 ⟨rfl,ay⟩;obtain⟨ae,bh⟩:=kh2 (Zf bg ay) ay;have h20:=ZE ay fb;have h21:=ZE ay fc;obtain⟨gb,gc⟩:=kh2 h20 h21;have r0:=Zb h20 0 _ rfl;obtain⟨s0,s1,s2,s3,-⟩:=kc4 h21;have rl:=aA h20;have sl:=aA h21;clear ay h20 h21 D2 q0 q1 q3 ql;by_cases bs:y=0
  ·subst bs;by_cases cy:b=tip
   ·subst cy;have cn:=Za HX;rw[if_neg (λq=>q rfl),if_neg (λq=>q rfl),if_neg (λq=>q rfl)] at cn;have bi:=Zd cn;clear cn HX;obtain⟨hc,ed⟩:=Xq HY;obtain⟨f1,f2,f3,f4,f5,f6⟩:=Wf hc;have fj:bn=nn:=(by have q1:=HN.1;have q2:=HT.1;omega);subst fj;have gm:bn<=24:=(by have q1:=HN.1;omega);have CN:=Zd (λU (hv:ZD w U)=>Ps na ba pa bn nc bc pn pc N T P b U (HN.later hv) (HT.later hv) (HP.later hv) ew ez ey (by omega) f5 eu HQ);have fe:Hid ((Lit.int .i64 b).wf=true):=(by rcases ed with q|q;exact Hk (by omega) (by omega);exact f3 b q);obtain⟨ep,dj,er,es,dk⟩:=kh5 f1 f2 f3 f4 (f6 b);have fk:=Zgg;clear hc ed f1 f2 f3 f4 f5 f6;have KS:Hid (∀ U:World,ZD w2 U->((U.cell? ⟨w.heap.size,0,none⟩=some (F a' n' c')/\w.heap.size<U.heap.size)/\U.cell? ⟨w.heap.size+1,0,none⟩=some (F na bn nc)/\U.cell? ⟨w.heap.size+1,1,none⟩=some (F ba bn bc)/\U.cell? ⟨w.heap.size+1,2,none⟩=some (F pa pn pc)/\U.cell? ⟨w.heap.size+1,3,none⟩=some (.int .i64 b)/\w.heap.size+1<U.heap.size)):=λU hu=>⟨⟨Ze hu r0,aD rl hu.size⟩,Ze hu s0,Ze hu s1,Ze hu s2,Ze hu s3,aD sl hu.size⟩
    go_upto_region 9 with fail
    clear r0 s0 s1 s2 s3 rl sl
    go_cut [9] from 34 to 39 (λs9 wx=>∃ d bm:Nat,s9 = .pointer (some ⟨d,0,none⟩)/\Hid (∃ na' nc' ba' bc' pa' pc',DeskAt (λq=>q<w.heap.size) wx d bm 0 a' n' c' M na' bn nc' N ba' bn bc' T pa' pn pc' P b (λ_=>Ce) noB)/\Hid (ZD w wx/\w.heap.size<=d/\w.heap.size<=bm))
    case first=>
     refine dD (S:=λU=>(U.cell? ⟨w.heap.size,0,none⟩=some (F a' n' c')/\w.heap.size<U.heap.size)/\U.cell? ⟨w.heap.size+1,0,none⟩=some (F na bn nc)/\U.cell? ⟨w.heap.size+1,1,none⟩=some (F ba bn bc)/\U.cell? ⟨w.heap.size+1,2,none⟩=some (F pa pn pc)/\U.cell? ⟨w.heap.size+1,3,none⟩=some (.int .i64 b)/\w.heap.size+1<U.heap.size) (by kernel_rfl) (KS _ (Zi _)) (λaa=>?_);refine tkL 0 rfl aa ?_;refine tkL 1 rfl aa ?_;refine cM (rs:=[2,3]) (by kernel_rfl) (by simp) ?_;refine rdC rfl (λKQ hK=>?_) (rdC rfl (λKQ hK=>?_) AllReadyH.nil)
     ·have hb:=Zi w2;refine Zm (by kernel_rfl) 171 #[.agg #[F na bn nc,F ba bn bc,F pa pn pc,.int .i64 b]] (by kernel_rfl) (CN w2.drew (Zf ae hb)) ?_;rintro e w5 ⟨na',nc',ba',bc',pa',pc',rfl,cd,cw,cu,cx,az⟩;refine⟨_,rfl,?_⟩;have ac:=Zf hb az;clear aa;refine hK.out _ _ (KS _ ac) (λaa=>?_);clear hK KQ;(try simp only[aQ,ZA,ZB,ZC]);refine rdY 3 rfl (λKQ hK=>?_);go_simp;obtain⟨w6,bd⟩:=ZG (w5.alloc (.map #[] 0));rw[<-bd];have bk:ZD w5 w6:=(by rw[bd];exact Zh _ _);have cm:BMap w5.heap.size 0 (λ_=>Ce) w6:=(by rw[bd];exact BMap.made w5);have ec:w6.heap.size=w5.heap.size+1:=(by rw[bd];simp);clear bd;clear aa;refine hK.out _ _ (KS _ (Zf ac bk)) (λaa=>?_);clear hK KQ;refine tkL 4 rfl aa ?_;refine rdY 5 rfl (λKQ hK=>?_);go_simp;obtain⟨w7,be,ag,bz⟩:=ka00 w6 [F a' n' c',F na' bn nc',F ba' bn bc',F pa' pn pc',.int .i64 b,.map (some w5.heap.size)] 254;rw[<-be];clear be;clear aa;refine hK.out _ _ (KS _ (Zf (Zf ac bk) ag)) (λaa=>?_);clear hK KQ;refine tkL 6 rfl aa ?_;refine wpAnyH_done (by kernel_rfl) ?_ _;clear aa;go_wp2_with fail;go_meet
      case rel=>
       have s2:=ae.size;have s5:=ac.size;have sV:=bh.size;exact⟨w6.heap.size,w5.heap.size,(by first|rfl|rw[ec]),⟨na',nc',ba',bc',pa',pc',Ea (V:=V) (B:=w2.drew.heap.size) dl dm (Zf bh ac) cd cw cu cx (Zf bk ag) bz (cm.keep ag) (by omega) (by omega) (.inr (aF _)) (by omega) (by have:=ae.size;show w.heap.size<=w2.heap.size;omega) bg.size⟩,Zf (Zf ae ac) (Zf bk ag),by omega,by omega⟩
     ·go_simp;obtain⟨v6,bb⟩:=ZG ((w2.alloc (.map #[] 0)).drew);rw[<-bb];have hb:ZD w2 v6:=(by rw[bb];exact Zf (Zh _ _) (Zi _));have cm:BMap w2.heap.size 0 (λ_=>Ce) v6:=(by rw[bb];exact (BMap.made w2).heap rfl);have ec:v6.heap.size=w2.heap.size+1:=(by rw[bb];simp);clear bb;clear aa;refine hK.out _ _ (KS _ hb) (λaa=>?_);clear hK KQ;(try simp only[aQ,ZA,ZB,ZC]);refine rdS 2 rfl (CN v6 (Zf ae hb)) ?_;rintro e w5 ⟨na',nc',ba',bc',pa',pc',rfl,cd,cw,cu,cx,az⟩;have ac:=Zf hb az;clear aa;refine⟨_,rfl,(KS _ ac),λaa=>?_⟩;refine tkL 4 rfl aa ?_;refine rdY 5 rfl (λKQ hK=>?_);go_simp;obtain⟨w7,be,ag,bz⟩:=ka00 w5 [F a' n' c',F na' bn nc',F ba' bn bc',F pa' pn pc',.int .i64 b,.map (some w2.heap.size)] 254;rw[<-be];clear be;clear aa;refine hK.out _ _ (KS _ (Zf ac ag)) (λaa=>?_);clear hK KQ;refine tkL 6 rfl aa ?_;refine wpAnyH_done (by kernel_rfl) ?_ _;clear aa;go_wp2_with fail;go_meet
      case rel=>
       have s2:=ae.size;have s5:=az.size;have sV:=bh.size;exact⟨w5.heap.size,w2.heap.size,rfl,⟨na',nc',ba',bc',pa',pc',Ea (V:=V) (B:=v6.heap.size) dl dm (Zf bh ac) cd cw cu cx ag bz ((cm.keep az).keep ag) (by omega) (aF _) (.inl (by omega)) (by omega) (by have:=ae.size;omega) bg.size⟩,Zf (Zf ae ac) ag,by omega,by omega⟩
    case rest=>
     obtain⟨d,bm,rfl,hD,hL⟩:=hcut;obtain⟨na',nc',ba',bc',pa',pc',hD⟩:=Za hD;obtain⟨cl,hd,cj⟩:=Za hL;obtain⟨E1,dg,el,df⟩:=kh4 (Zcf hD w cl cj HE ep dj er es u γ HU) cl hd cj;clear hD hL cl hd cj KS CN fk;go_wp2_with fail;refine E1.mono ?_;rintro e w8 ⟨rfl,eb,cb⟩;have bo:ZD w w8:=eb.below dg dg.size (λq e=>by have e:q=bm:=e;have:=Za df;omega);have dd:=Zd bo;clear eb E1;by_cases u0:u=0
     ·subst u0;obtain⟨f',cc⟩:=cb rfl;have cp:=Za bi;rw[if_neg (λq=>q rfl)] at cp;obtain⟨E2,eo⟩:=kh2 (Zlf cc (HE.later bo) fe dk.1 dk.2 x cp) cc;clear cb cc bo bi cp;go_wp2_with fail;refine E2.mono ?_;rintro e w9 ⟨rfl,ce⟩;obtain⟨de,en⟩:=kh2 (Zf dd ce) (eo.later ce);clear ce E2;by_cases x0:x=0
      ·subst x0;go_wp2;go_ret2;exact⟨Za de,.inr ⟨rfl,d,bm,_,rfl,⟨_,_,_,_,_,_,_,_,_,_,_,_,_,Za en⟩,Za el,Za df,Za dj⟩⟩
      ·have gx:(x != 0)=true:=(by simp[x0]);go_wp2;go_ret2;exact⟨Za de,.inl ⟨x0,rfl⟩⟩
     ·have gu:(u != 0)=true:=(by simp[u0]);have an:Hid (x=u):=(by have q:=Za bi;rw[if_pos u0] at q;exact q.symm);clear bi cb bo;go_wp2;go_ret2;rw[Za an];exact⟨Za dd,.inl ⟨u0,rfl⟩⟩
   ·have gt:(b != tip)=true:=(by simp[cy]);have an:Hid (x=4):=(by have q:=Za HX;rw[if_neg (λq=>q rfl),if_neg (λq=>q rfl),if_pos cy] at q;exact q.symm);clear HX;go_wp2;go_ret2;rw[Za an];exact⟨Za ae,.inl ⟨by decide,rfl⟩⟩
  ·have gy:(y != 0)=true:=(by simp[bs]);have an:Hid (x=y):=(by have q:=Za HX;rw[if_neg (λq=>q rfl),if_pos bs] at q;exact q.symm);clear HX;go_wp2;go_ret2;rw[Za an];exact⟨Za ae,.inl ⟨bs,rfl⟩⟩
 ·have gz:(z != 0)=true:=by simp[z0]
  have an:Hid (x=z):=by have q:=Za HX;rw[if_pos z0] at q;exact q.symm
  have fd:=Zd hV;clear HX hV D2;go_wp2;rw[<-Za fd];go_ret2;rw[Za an];exact⟨Za bg,.inl ⟨z0,rfl⟩⟩
section
variable {Z : Nat -> Prop} {w w' : World} {d bm m : Nat} {ka na ba pa ka' na' ba' pa' : Option Addr} {kn kc nn nc bn bc pn pc kn' kc' nn' nc' bn' bc' pn' pc' : Nat} {K K' : List ByteArray} {N N' : List Int} {T T' : List Zk} {P P' : List TxD} {tip tip' : Int} {f : Int -> Value} {β : Int -> List Zj}
theorem DeskAt.set(h:DeskAt Z w d bm m ka kn kc K na nn nc N ba bn bc T pa pn pc P tip f β)(g:Gr w w' (λq=>q=d))
  (box:w'.heap[d]? = some (dE [F ka' kn' kc',F na' nn' nc',F ba' bn' bc',F pa' pn' pc',E J tip',.map (some bm)].toArray 254 (0,0)))
  (D:∀ W,Gr w' W (λq=>q=d\/q=bm\/Z q)->Uo W ka kn K na nn N ba bn T pa pn P->Bk.TextsAt W ka' kn' K'/\Tr.IntsAt W na' nn' N'/\Tr.BlksAt W ba' bn' T'/\TxsAt W pa' pn' P')
  (s1:SlOk ka' kn' kc') (s2:SlOk na' nn' nc') (s3:SlOk ba' bn' bc') (s4:SlOk pa' pn' pc'):DeskAt Z w' d bm m ka' kn' kc' K' na' nn' nc' N' ba' bn' bc' T' pa' pn' pc' P' tip' f β:=by
 refine⟨box,λW gW=>?_,λW gW=>h.coi W ((g.mono (λq _ e=>.inl e)).trans gW),s1,s2,s3,s4,h.mp.gr g (λe=>h.ne (by have e:bm=d:=e;exact e.symm)),h.ne,λq e=>aD (h.zb q e) g.size⟩;have D0:=h.dat W ((g.mono (λq _ e=>.inl e)).trans gW);obtain⟨h1,h2,h3,h4⟩:=D W gW D0;exact⟨h1,h2,h3,h4⟩
theorem DeskAt.swept(h:DeskAt Z w d bm m ka kn kc K na nn nc N ba bn bc T pa pn pc P tip f β){V w1:World}(hv:ZD w V)(h1:ZD V w1)(hF:Fresh V.heap.size w1 (λw2=>Bk.TextsAt w2 ka' kn' K'/\TxsAt w2 pa' pn' P'))(s1:SlOk ka' kn' kc')(s4:SlOk pa' pn' pc')
  (g:Gr w1 w' (λq=>q=d)) (box:w'.heap[d]? = some (dE [F ka' kn' kc',F na nn nc,F ba bn bc,F pa' pn' pc',E J tip,.map (some bm)].toArray 254 (0,0))) :
  DeskAt Z w' d bm m ka' kn' kc' K' na nn nc N ba bn bc T pa' pn' pc' P' tip f β/\Gr w w' (λq=>q=d):=by
 have gw:Gr w w' (λq=>q=d):=(Gr.of (Zf hv h1)).trans g;have l1:=aA h.box;have l2:=h.mp.lt;have l3:=hv.size;refine⟨h.set gw box (λW gW D0=>?_) s1 h.sn h.sb s4,gw⟩;have ab:=hF W ((g.mono (λq _ e=>by have e:q=d:=e;omega)).trans (gW.mono (λq _ e=>e.elim (λe=>by omega) (λe=>e.elim (λe=>by omega) (λe=>aD (h.zb q e) l3)))));exact⟨ab.1,D0.n,D0.b,ab.2⟩
end
def Gs(K:List ByteArray)(C:List Zj)(P:List TxD)(h:Int):List ByteArray×List TxD×Int:=
 if 1000<h then (K,P,0) else ((swF K C P h (swE K C P h)).1,(swF K C P h (swE K C P h)).2.1,swE K C P h)
def SwpR(Z:Nat->Prop)(w w':World)(d bm m:Nat)(K:List ByteArray)(na:Option Addr)(nn nc:Nat)(N:List Int)(ba:Option Addr)(bn bc:Nat)(T:List Zk)(P:List TxD)(tip:Int)(f:Int->Value)(β : Int->List Zj):Prop:=
 ∃ ka kn kc pa pn pc,DeskAt Z w' d bm m ka kn kc K na nn nc N ba bn bc T pa pn pc P tip f β/\Gr w w' (λq=>q=d)
section
variable {Z : Nat -> Prop} {w : World} {d bm m : Nat} {ka na ba pa : Option Addr} {kn kc nn nc bn bc pn pc : Nat} {K : List ByteArray} {N : List Int} {T : List Zk} {P : List TxD} {tip : Int} {f : Int -> Value} {β : Int -> List Zj}
theorem Zhc(h:DeskAt Z w d bm m ka kn kc K na nn nc N ba bn bc T pa pn pc P tip f β)(hE:Env w)(ht:(Lit.int .i64 tip).wf=true)(z:Int)(K1 P1)(x:Int)(hx:Gs K (β tip) P z=(K1,P1,x)) :
  Calls Tryz.prog 164 #[.pointer (some ⟨d,0,none⟩),.int .i64 z] w λe w'=>e = dF (.int .i64 x)/\SwpR Z w w' d bm m K1 na nn nc N ba bn bc T P1 tip f β:=by
 unfold Gs at hx;by_cases hz:1000<z
 ·rw[if_pos hz] at hx;simp only[aU] at hx;obtain⟨rfl,rfl,rfl⟩:=hx;have H:=Zd h;clear h hE ht;go_enter Tryz.func164,Tryz.ntmps164;go_wp2;go_ret;exact⟨rfl,ka,kn,kc,pa,pn,pc,Za H,Gr.refl _ _⟩
 ·rw[if_neg hz] at hx;obtain⟨y,hy⟩:=ZF (swE K (β tip) P z);rw[hy] at hx;obtain⟨⟨K2,P2,C2,F2⟩,hr⟩:=ZF (swF K (β tip) P z y);rw[hr] at hx;simp only[aU] at hx;obtain⟨rfl,rfl,rfl⟩:=hx;obtain⟨ca,dd,cc,aw,_,sC⟩:=h.c tip;have CC:=Zd (λV (hv:ZD w V)=>Rj (h.later hv) ht);rw[aw] at CC;have CS:=Zd (λV (hv:ZD w V)=>Nq ka kn kc K ca dd cc (β tip) pa pn pc P z y K2 P2 C2 F2 V (hE.later hv) (h.later hv).now.k (by obtain⟨a2,n2,c2,q1,q2,_⟩:=(h.later hv).c tip;rw[aw] at q1;injection q1 with e1 e2 e3;subst e1 e2 e3;exact q2) sC (h.later hv).now.p hy hr);obtain⟨c0,-,-,c3,dl⟩:=kc4 h.box;have KS:Hid (∀ U:World,w.heap.size<=U.heap.size->d<U.heap.size):=λU hu=>aD dl hu;have KC:Hid (∀ U:World,ZD w U->(U.cell? ⟨d,0,none⟩=some (F ka kn kc)/\U.cell? ⟨d,3,none⟩=some (F pa pn pc)/\d<U.heap.size)):=λU hu=>⟨Ze hu c0,Ze hu c3,aD dl hu.size⟩;have H:=Zd h;clear h hE ht aw sC c0 c3 dl hy hr;go_enter Tryz.func164,Tryz.ntmps164
  go_upto_region 3 with fail
  go_cut [4] from 7 to 32 (λs4 wx=>s4 = .int .i64 y/\Hid (SwpR Z w wx d bm m K2 na nn nc N ba bn bc T P2 tip f β))
  case first=>
   refine dD (S:=λU=>d<U.heap.size) (by kernel_rfl) (KS _ (aF _)) (λaa=>?_);refine tkL 0 rfl aa ?_;refine tkL 1 rfl aa ?_;refine tkL 2 rfl aa ?_;refine tkL 3 rfl aa ?_;refine tkL 4 rfl aa ?_;refine tkL 6 rfl aa ?_;refine tkL 8 rfl aa ?_;refine tkL 9 rfl aa ?_;refine tkL 10 rfl aa ?_;refine tkL 11 rfl aa ?_;refine tkL 13 rfl aa ?_;have hb:=Zi w;refine cM (rs:=[5,7,12]) (by kernel_rfl) (by simp) ?_;refine rdC rfl (λKQ hK=>?_) (rdC rfl (λKQ hK=>?_) (rdC rfl (λKQ hK=>?_) AllReadyH.nil));obtain⟨l0,l3,ll⟩:=KC w.drew hb;go_simp;clear l0 l3 ll;clear aa;refine hK.out _ _ (KS _ hb.size) (λaa=>?_);clear hK KQ;(try simp only[aQ,ZA,ZB,ZC]);refine cM (rs:=[7,12]) (by kernel_rfl) (by simp) ?_;refine rdC rfl (λKQ hK=>?_) (rdC rfl (λKQ hK=>?_) AllReadyH.nil);refine Zm (by kernel_rfl) 108 #[.pointer (some ⟨d,0,none⟩)] (by kernel_rfl) (CC w.drew hb) ?_;rintro e v1 ⟨rfl,ag⟩;refine⟨_,rfl,?_⟩;have hb:=Zf hb ag;clear aa;refine hK.out _ _ (KS _ hb.size) (λaa=>?_);clear hK KQ;(try simp only[aQ,ZA,ZB,ZC]);refine rdY 12 rfl (λKQ hK=>?_);obtain⟨l0,l3,ll⟩:=KC v1 hb;go_simp;clear l0 l3 ll;clear aa;refine hK.out _ _ (KS _ hb.size) (λaa=>?_);clear hK KQ;(try simp only[aQ,ZA,ZB,ZC]);obtain⟨vz,aj⟩:∃ z,z=v1:=⟨_,rfl⟩;subst aj;rotate_left;obtain⟨l0,l3,ll⟩:=KC w.drew hb;go_simp;clear l0 l3 ll;clear aa;refine hK.out _ _ (KS _ hb.size) (λaa=>?_);clear hK KQ;(try simp only[aQ,ZA,ZB,ZC])
   refine rdS 7 rfl (CC w.drew hb) ?_;rintro e v2 ⟨rfl,ag⟩;have hb:=Zf hb ag;clear aa;refine⟨_,rfl,(KS _ hb.size),λaa=>?_⟩;(try simp only[aQ,ZA,ZB,ZC]);obtain⟨vz,aj⟩:∃ z,z=v2:=⟨_,rfl⟩;subst aj;rotate_left;refine Zm (by kernel_rfl) 108 #[.pointer (some ⟨d,0,none⟩)] (by kernel_rfl) (CC w.drew hb) ?_;rintro e v3 ⟨rfl,ag⟩;refine⟨_,rfl,?_⟩;have hb:=Zf hb ag;clear aa;refine hK.out _ _ (KS _ hb.size) (λaa=>?_);clear hK KQ;(try simp only[aQ,ZA,ZB,ZC]);refine cM (rs:=[5,12]) (by kernel_rfl) (by simp) ?_;refine rdC rfl (λKQ hK=>?_) (rdC rfl (λKQ hK=>?_) AllReadyH.nil);obtain⟨l0,l3,ll⟩:=KC v3 hb;go_simp;clear l0 l3 ll;clear aa;refine hK.out _ _ (KS _ hb.size) (λaa=>?_);clear hK KQ;(try simp only[aQ,ZA,ZB,ZC]);refine rdY 12 rfl (λKQ hK=>?_);obtain⟨l0,l3,ll⟩:=KC v3 hb;go_simp;clear l0 l3 ll;clear aa;refine hK.out _ _ (KS _ hb.size) (λaa=>?_);clear hK KQ;(try simp only[aQ,ZA,ZB,ZC]);obtain⟨vz,aj⟩:∃ z,z=v3:=⟨_,rfl⟩;subst aj;rotate_left;obtain⟨l0,l3,ll⟩:=KC v3 hb;go_simp;clear l0 l3 ll;clear aa;refine hK.out _ _ (KS _ hb.size) (λaa=>?_);clear hK KQ;(try simp only[aQ,ZA,ZB,ZC]);refine rdY 5 rfl (λKQ hK=>?_);obtain⟨l0,l3,ll⟩:=KC v3 hb;go_simp;clear l0 l3 ll;clear aa;refine hK.out _ _ (KS _ hb.size) (λaa=>?_);clear hK KQ;(try simp only[aQ,ZA,ZB,ZC]);obtain⟨vz,aj⟩:∃ z,z=v3:=⟨_,rfl⟩;subst aj;rotate_left;obtain⟨l0,l3,ll⟩:=KC w.drew hb;go_simp;clear l0 l3 ll;clear aa;refine hK.out _ _ (KS _ hb.size) (λaa=>?_);clear hK KQ
   (try simp only[aQ,ZA,ZB,ZC]);refine cM (rs:=[5,7]) (by kernel_rfl) (by simp) ?_;refine rdC rfl (λKQ hK=>?_) (rdC rfl (λKQ hK=>?_) AllReadyH.nil);obtain⟨l0,l3,ll⟩:=KC w.drew hb;go_simp;clear l0 l3 ll;clear aa;refine hK.out _ _ (KS _ hb.size) (λaa=>?_);clear hK KQ;(try simp only[aQ,ZA,ZB,ZC]);refine rdS 7 rfl (CC w.drew hb) ?_;rintro e v4 ⟨rfl,ag⟩;have hb:=Zf hb ag;clear aa;refine⟨_,rfl,(KS _ hb.size),λaa=>?_⟩;(try simp only[aQ,ZA,ZB,ZC]);obtain⟨vz,aj⟩:∃ z,z=v4:=⟨_,rfl⟩;subst aj;rotate_left;refine Zm (by kernel_rfl) 108 #[.pointer (some ⟨d,0,none⟩)] (by kernel_rfl) (CC w.drew hb) ?_;rintro e v5 ⟨rfl,ag⟩;refine⟨_,rfl,?_⟩;have hb:=Zf hb ag;clear aa;refine hK.out _ _ (KS _ hb.size) (λaa=>?_);clear hK KQ;(try simp only[aQ,ZA,ZB,ZC]);refine rdY 5 rfl (λKQ hK=>?_);obtain⟨l0,l3,ll⟩:=KC v5 hb;go_simp;clear l0 l3 ll;clear aa;refine hK.out _ _ (KS _ hb.size) (λaa=>?_);clear hK KQ;(try simp only[aQ,ZA,ZB,ZC]);obtain⟨vz,aj⟩:∃ z,z=v5:=⟨_,rfl⟩;subst aj;rotate_left
   all_goals
    refine rdS 14 rfl (CS vz hb) ?_;rintro e vy ⟨k5,bd,bq,sa,sn,sc,oa,on,oc,rfl,bj,cn,cp,-,ag⟩;have aq:=Zf hb ag;clear aa;refine⟨_,rfl,(KS _ aq.size),λaa=>?_⟩;refine tkL 15 rfl aa ?_;refine tkL 16 rfl aa ?_;refine tkL 17 rfl aa ?_;refine tkL 18 rfl aa ?_;refine tkL 19 rfl aa ?_;refine tkL 20 rfl aa ?_;refine tkL 21 rfl aa ?_;refine tkL 22 rfl aa ?_;have bk:=ZE aq H.box;obtain⟨y0,-,-,y3,g0,-,-,g3,yl⟩:=kf4 bk;refine rdY 23 rfl (λKQ hK=>?_);go_simp;clear aa;refine hK.out _ _ (KS _ (by simpa[World.setCell] using aq.size)) (λaa=>?_);clear hK KQ;(try simp only[aQ]);refine tkL 24 rfl aa ?_;refine tkL 25 rfl aa ?_;refine tkL 26 rfl aa ?_;refine rdY 27 rfl (λKQ hK=>?_);go_simp;clear aa;refine hK.out _ _ (KS _ (by simpa[World.setCell] using aq.size)) (λaa=>?_);clear hK KQ;(try simp only[aQ]);refine tkL 28 rfl aa ?_;refine wpAnyH_done (by kernel_rfl) ?_ _;clear aa;go_wp2_with fail;go_meet
    case rel=>
     refine⟨rfl,k5,bd,bq,sa,sn,sc,?_⟩;have bz:Fresh vz.heap.size vy (λw2=>Bk.TextsAt w2 k5 bd K2/\TxsAt w2 sa sn P2):=λW g=>⟨(bj W g).1,(bj W g).2.1⟩;exact H.swept hb ag bz cn cp (((Gr.refl vy (λq=>q=d)).one d 0 (.inl rfl) (F k5 bd bq)).one d 3 (.inl rfl) (F sa sn sc)) (Tr.set_cells (Tr.set_cells bk 0 _) 3 _)
  case rest=>
   obtain⟨rfl,HD⟩:=hcut;clear KS KC CC CS H;go_wp2;go_ret;exact⟨rfl,Za HD⟩
end
