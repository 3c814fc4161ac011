/- What a right tree is, and what it is with a block more: mathematics. Nothing of the program. -/
import Derived.Test.YtmomfkikogbdeaaGreatDoorNodCloneToTrForkM
import Derived.Test.YtmomfkikogbdeaaGreatDoorTrCheckToTrAdd
import Derived.Test.YtmomfkikogbdeaaGreatDoorNodBlocks
import Derived.Test.YtmomfkikogbdeaaGreatDoorNodPool
import Derived.Test.YtmomfkikogbdeaaGreatDoorBlkNamesBToBlkReward
namespace Go.Proofs.YtmomfkikogbdeaaGreatDoor.Tr
open Go.RowKit
theorem Tj{N:List Int}{T:List Zg}{x:Int}{b:Zg}(h:Xq N T x b=0):(1≤x∧x≤120)∧Yg b=0∧x∉N∧(b.1=0∨b.1∈N)∧b.2.1=(fnd b.1 N T).2.1+1:=by
 unfold Xq at h
 split at h
 ·cases h
 ·next q1=>
  split at h
  ·next q2=>exact absurd h q2
  ·next q2=>
   split at h
   ·cases h
   ·next q3=>
    split at h
    ·cases h
    ·next q4=>
     split at h
     ·cases h
     ·next q5=>
      refine⟨by simpa using q1,Classical.not_not.1 q2,by simpa using q3,?_,Classical.not_not.1 q5⟩
      by_cases e:b.1=0
      ·exact .inl e
      ·right
       by_cases e2:b.1∈N
       ·exact e2
       ·exact absurd ⟨e,by simp[e2]⟩ q4
theorem Fm{N M:List Int}{T U:List Zg}{y:Int}:N.length=T.length→y∈N→fnd y (N++M) (T++U)=fnd y N T:=by
 induction N generalizing T with
 | nil=>intro _ h;cases h
 | cons a N ih=>
  intro hl h
  cases T with
  | nil=>cases hl
  | cons b T=>
   simp only[List.cons_append,fnd]
   by_cases e:y=a
   ·simp[e]
   ·rw[if_neg e,if_neg e]
    refine ih (by simpa using hl) ?_
    rcases List.mem_cons.1 h with h|h
    ·exact absurd h e
    ·exact h
theorem Jx{N M:List Int}{T U:List Zg}{y:Int}:N.length=T.length→y∉N→fnd y (N++M) (T++U)=fnd y M U:=by
 induction N generalizing T with
 | nil=>
  intro hl _
  cases T with
  | nil=>rfl
  | cons _ _=>cases hl
 | cons a N ih=>
  intro hl h
  cases T with
  | nil=>cases hl
  | cons b T=>
   simp only[List.cons_append,fnd]
   rw[if_neg (fun e=>h (by simp[e]))]
   exact ih (by simpa using hl) (fun q=>h (by simp[q]))
theorem Zae(x:Int)(b:Zg):fnd x [x] [b]=b:=by simp[fnd]
structure TrOk(N:List Int)(T:List Zg):Prop where
 len:N.length=T.length
 nd:N.Nodup
 nm:∀ x∈N,1≤x∧x≤120
 par:∀ x∈N,(fnd x N T).1=0∨(fnd x N T).1∈N
 hgt:∀ x∈N,(fnd x N T).2.1=(fnd (fnd x N T).1 N T).2.1+1
 chk:∀ b∈T,Yg b=0
theorem TrOk.nil:TrOk [] []:=⟨rfl,List.nodup_nil,fun _ h=>(by cases h),fun _ h=>(by cases h),fun _ h=>(by cases h),fun _ h=>(by cases h)⟩
theorem TrOk.zero{N:List Int}{T:List Zg}(h:TrOk N T):(0:Int)∉N:=fun q=>by have:=(h.nm 0 q).1;omega
theorem TrOk.heads{N:List Int}{T:List Zg}(h:TrOk N T):Y3 T:=fun b hb=>Jz (h.chk b hb)
theorem TrOk.same{N:List Int}{T:List Zg}{x:Int}{b:Zg}(h:TrOk N T)(hx:1≤x){y:Int}(hy:y=0∨y∈N):fnd y (N++[x]) (T++[b])=fnd y N T:=by
 by_cases e:y∈N
 ·exact Fm h.len e
 ·have hy0:y=0:=by rcases hy with q|q;exact q;exact absurd q e
  rw[Jx h.len e,fnd_out h.len e]
  unfold fnd
  rw[if_neg (by omega)]
  unfold fnd
  rfl
theorem TrOk.new{N:List Int}{T:List Zg}{x:Int}{b:Zg}(h:TrOk N T)(hx:x∉N):fnd x (N++[x]) (T++[b])=b:=by
 rw[Jx h.len hx,Zae]
theorem TrOk.add{N:List Int}{T:List Zg}{x:Int}{b:Zg}(h:TrOk N T)(hn:Xq N T x b=0):TrOk (N++[x]) (T++[b]):=by
 obtain⟨h1,h2,h3,h4,h5⟩:=Tj hn
 refine⟨by simp[h.len],?_,fun y hy=>?_,fun y hy=>?_,fun y hy=>?_,fun c hc=>?_⟩
 ·rw[List.nodup_append]
  exact⟨h.nd,by simp,fun a ha c hc=>by rw[List.mem_singleton.1 hc];exact fun e=>h3 (e ▸ ha)⟩
 ·rcases List.mem_append.1 hy with q|q
  ·exact h.nm y q
  ·rw[List.mem_singleton.1 q];exact h1
 ·rcases List.mem_append.1 hy with q|q
  ·rw[h.same h1.1 (.inr q)]
   rcases h.par y q with e|e
   ·exact .inl e
   ·exact .inr (by simp[e])
  ·rw[List.mem_singleton.1 q,h.new h3]
   rcases h4 with e|e
   ·exact .inl e
   ·exact .inr (by simp[e])
 ·rcases List.mem_append.1 hy with q|q
  ·rw[h.same h1.1 (.inr q),h.same h1.1 (h.par y q)]
   exact h.hgt y q
  ·rw[List.mem_singleton.1 q,h.new h3,h.same h1.1 h4]
   exact h5
 ·rcases List.mem_append.1 hc with q|q
  ·exact h.chk c q
  ·rw[List.mem_singleton.1 q];exact h2
theorem T8:∀ (M:List Int) (U:List Zg) (N:List Int) (T:List Zg),M.length=U.length→TrOk N T→Yt N T M U=0→TrOk (N++M) (T++U)
 | [],[],N,T,_,h,_=>by simpa using h
 | [],_ :: _,_,_,h,_,_=>by cases h
 | _ :: _,[],_,_,h,_,_=>by cases h
 | x :: M,b :: U,N,T,hl,h,hc=>by
  rw[Yt] at hc
  split at hc
  ·next q=>exact absurd hc q
  ·next q=>
   have:=T8 M U _ _ (by simpa using hl) (h.add (Classical.not_not.1 q)) hc
   simpa using this
theorem TrOk.of{N:List Int}{T:List Zg}(h:chkTr N T=0):TrOk N T:=by
 obtain⟨h1,_,_,h4⟩:=Vm h
 simpa using T8 N T [] [] h1 TrOk.nil h4
theorem T9:∀ (M:List Int) (U:List Zg) (N:List Int) (T:List Zg) (x:Int) (b:Zg),M.length=U.length→Yt N T M U=0→Xq (N++M) (T++U) x b=0→Yt N T (M++[x]) (U++[b])=0
 | [],[],N,T,x,b,_,_,h=>by
  rw[List.append_nil,List.append_nil] at h
  simp[Yt,h]
 | [],_ :: _,_,_,_,_,h,_,_=>by cases h
 | _ :: _,[],_,_,_,_,h,_,_=>by cases h
 | y :: M,c :: U,N,T,x,b,h,hc,hn=>by
  rw[Yt] at hc
  split at hc
  ·next q=>exact absurd hc q
  ·next q=>
   rw[List.cons_append,List.cons_append,Yt,if_neg q]
   exact T9 M U _ _ x b (by simpa using h) hc (by simpa using hn)
theorem chkTr_snoc{N:List Int}{T:List Zg}{x:Int}{b:Zg}(h:chkTr N T=0)(hn:Xq N T x b=0)(hl:N.length≠24):chkTr (N++[x]) (T++[b])=0:=by
 obtain⟨h1,h2,_,h4⟩:=Vm h
 unfold chkTr
 rw[if_neg (by simp[h1]),if_neg (by simp;omega)]
 exact T9 N T [] [] x b h1 h4 (by simpa using hn)
theorem TrOk.up{N:List Int}{T:List Zg}(h:TrOk N T)(y:Int):(fnd y N T).1=0∨(fnd y N T).1∈N:=by
 by_cases e:y∈N
 ·exact h.par y e
 ·rw[fnd_out h.len e];exact .inl rfl
def Us(N:List Int)(T:List Zg)(q:Int×Int)(P:List Int):Int×Int:=P.foldl (fun q x=>if q.2<Xu N T x∨Xu N T x=q.2∧x<q.1 then (x,Xu N T x) else q) q
theorem He(N:List Int)(T:List Zg):∀ (P:List Int) (b m:Int),Y8 N T b m P=(Us N T (b,m) P).1
 | [],_,_=>rfl
 | x :: P,b,m=>by
  rw[Y8]
  unfold Us
  rw[List.foldl_cons]
  split
  ·rw[He N T P];rfl
  ·rw[He N T P];rfl
theorem Sf(N:List Int)(T:List Zg):∀ (P:List Int) (q:Int×Int),q.2=Xu N T q.1→(Us N T q P).2=Xu N T (Us N T q P).1
 | [],_,h=>h
 | x :: P,q,h=>by
  unfold Us
  rw[List.foldl_cons]
  split
  ·exact Sf N T P _ rfl
  ·exact Sf N T P _ h
theorem Sg(N:List Int)(T:List Zg):∀ (P:List Int) (q:Int×Int),(Us N T q P).1=q.1∨(Us N T q P).1∈P
 | [],_=>.inl rfl
 | x :: P,q=>by
  unfold Us
  rw[List.foldl_cons]
  split
  ·rcases Sg N T P (x,Xu N T x) with h|h
   ·exact .inr (by unfold Us at h;rw[h];simp)
   ·exact .inr (by unfold Us at h;simp[h])
  ·rcases Sg N T P q with h|h
   ·exact .inl h
   ·exact .inr (by unfold Us at h;simp[h])
theorem TrOk.wrk_zero{N:List Int}{T:List Zg}(h:TrOk N T):Xu N T 0=0:=by
 unfold Xu Jn
 rw[fnd_out h.len h.zero]
 rfl
theorem addE_ok{N:List Int}{T:List Zg}{x:Int}{b:Zg}{N':List Int}{T':List Zg}(h:addE N T x b=(N',T',0)):chkTr N T=0∧Xq N T x b=0∧N.length≠24∧N'=N++[x]∧T'=T++[b]:=by
 unfold addE at h
 split at h
 ·next q=>exact absurd (congrArg (·.2.2) h) q
 ·next q=>
  split at h
  ·next q2=>exact absurd (congrArg (·.2.2) h) q2
  ·next q2=>
   split at h
   ·next q3=>have:=congrArg (·.2.2) h;simp at this
   ·next q3=>exact⟨Classical.not_not.1 q,Classical.not_not.1 q2,q3,(congrArg (·.1) h).symm,(congrArg (·.2.1) h).symm⟩
theorem Me:∀ (U N:List Int),U.Nodup→(∀ x∈U,x∈N)→U.length≤N.length
 | [],_,_,_=>Nat.zero_le _
 | x :: U,N,h,hs=>by
  have hx:x∈N:=hs x (by simp)
  have hn:=List.nodup_cons.1 h
  have h1:=Me U (N.erase x) hn.2 (fun y hy=>(List.mem_erase_of_ne (fun (e:y=x)=>hn.1 (e ▸ hy))).2 (hs y (by simp[hy])))
  rw[List.length_erase_of_mem hx] at h1
  have:0<N.length:=List.length_pos_of_mem hx
  simp only[List.length_cons]
  omega
theorem Sa:∀ (M:List Int) (U:List Zg) (N:List Int) (T:List Zg),M.length=U.length→Yt N T M U=0→∀ i (h:i<M.length) (h':i<U.length),Xq (N++M.take i) (T++U.take i) M[i] U[i]=0
 | [],_,_,_,_,_,_,h,_=>absurd h (by simp)
 | _ :: _,[],_,_,h,_,_,_,_=>by cases h
 | x :: M,b :: U,N,T,hl,hc,0,_,_=>by
  rw[Yt] at hc
  split at hc
  ·next q=>exact absurd hc q
  ·next q=>simpa using Classical.not_not.1 q
 | x :: M,b :: U,N,T,hl,hc,i+1,h,h'=>by
  rw[Yt] at hc
  split at hc
  ·next q=>exact absurd hc q
  ·next q=>
   have:=Sa M U _ _ (by simpa using hl) hc i (by simpa using h) (by simpa using h')
   simpa using this
theorem ahead{N:List Int}{T:List Zg}(hc:chkTr N T=0)(i:Nat)(h:i<N.length)(h':i<T.length):fnd N[i] N T=T[i]∧(T[i].1=0∨T[i].1∈N.take i):=by
 obtain⟨hl,_,_,hgo⟩:=Vm hc
 have h1:=Sa N T [] [] hl hgo i h h'
 simp only[List.nil_append] at h1
 obtain⟨_,_,q3,q4,_⟩:=Tj h1
 refine⟨?_,q4⟩
 have e1:N=N.take i++(N[i] :: N.drop (i+1)):=by rw[←List.drop_eq_getElem_cons h,List.take_append_drop]
 have e2:T=T.take i++(T[i] :: T.drop (i+1)):=by rw[←List.drop_eq_getElem_cons h',List.take_append_drop]
 have:=Jx (N:=N.take i) (M:=N[i] :: N.drop (i+1)) (T:=T.take i) (U:=T[i] :: T.drop (i+1)) (by rw[List.length_take,List.length_take];omega) q3
 rw[←e1,←e2] at this
 rw[this]
 simp[fnd]
structure Sub(U:List Int)(V:List Zg)(N:List Int)(T:List Zg):Prop where
 chk:chkTr U V=0
 mem:∀ y∈U,y∈N
 same:∀ y∈U,fnd y U V=fnd y N T
theorem Sub.nil(N:List Int)(T:List Zg):Sub [] [] N T:=⟨rfl,fun _ h=>(by cases h),fun _ h=>(by cases h)⟩
theorem Sub.all{U:List Int}{V:List Zg}{N:List Int}{T:List Zg}(h:Sub U V N T)(hc:chkTr N T=0){y:Int}(hy:y=0∨y∈U):fnd y U V=fnd y N T:=by
 by_cases e:y∈U
 ·exact h.same y e
 ·have hy0:y=0:=by rcases hy with q|q;exact q;exact absurd q e
  subst hy0
  rw[fnd_out (TrOk.of h.chk).len e,fnd_out (TrOk.of hc).len (TrOk.of hc).zero]
theorem Sub.step{U:List Int}{V:List Zg}{N:List Int}{T:List Zg}(h:Sub U V N T)(hc:chkTr N T=0){k:Nat}(hk:k<N.length)(hk':k<T.length){U':List Int}{V':List Zg}(ha:addE U V N[k] T[k]=(U',V',0)):Sub U' V' N T∧U'=U++[N[k]]:=by
 obtain⟨h1,h2,h3,rfl,rfl⟩:=addE_ok ha
 have ok:=TrOk.of h1
 obtain⟨g1,_,g3,_,_⟩:=Tj h2
 refine⟨⟨chkTr_snoc h1 h2 h3,fun y hy=>?_,fun y hy=>?_⟩,rfl⟩
 ·rcases List.mem_append.1 hy with q|q
  ·exact h.mem y q
  ·rw[List.mem_singleton.1 q];exact List.getElem_mem hk
 ·rcases List.mem_append.1 hy with q|q
  ·rw[ok.same g1.1 (.inr q)];exact h.same y q
  ·rw[List.mem_singleton.1 q,ok.new g3,(ahead hc k hk hk').1]
theorem Sub.full{U:List Int}{V:List Zg}{N:List Int}{T:List Zg}(h:Sub U V N T)(hc:chkTr N T=0)(ha:∀ j (hj:j<N.length),N[j]∈U):U.length=N.length∧∀ y∈N,y∈U:=by
 have hs:∀ y∈N,y∈U:=fun y hy=>by
  obtain⟨j,hj,rfl⟩:=List.getElem_of_mem hy
  exact ha j hj
 have h1:=Me U N (TrOk.of h.chk).nd h.mem
 have h2:=Me N U (TrOk.of hc).nd hs
 exact⟨by omega,hs⟩
theorem Sub.up{U:List Int}{V:List Zg}{N:List Int}{T:List Zg}(h:Sub U V N T)(hc:chkTr N T=0):∀ (d:Nat) (y:Int),(y=0∨y∈U)→upD U V d y=upD N T d y
 | 0,_,_=>rfl
 | d+1,y,hy=>by
  rw[upD,upD,←h.all hc hy,h.up hc d _ ((TrOk.of h.chk).up y)]
theorem Sub.wk{U:List Int}{V:List Zg}{N:List Int}{T:List Zg}(h:Sub U V N T)(hc:chkTr N T=0):∀ (P:List Int) (s:Int),(∀ z∈P,z=0∨z∈U)→U6 U V s P=U6 N T s P
 | [],_,_=>rfl
 | y :: P,s,hP=>by
  rw[U6,U6,h.all hc (hP y (by simp)),h.wk hc P _ (fun z hz=>hP z (by simp[hz]))]
theorem Lt(N:List Int)(T:List Zg):∀ (P D:List Int) (q:Int×Int),(∀ y∈D,Xu N T y<q.2∨Xu N T y=q.2∧q.1≤y)→∀ y,y∈D∨y∈P→Xu N T y<(Us N T q P).2∨Xu N T y=(Us N T q P).2∧(Us N T q P).1≤y
 | [],D,q,h,y,hy=>by
  rcases hy with hy|hy
  ·exact h y hy
  ·cases hy
 | x :: P,D,q,h,y,hy=>by
  have hstep:Us N T q (x :: P)=Us N T (if q.2<Xu N T x∨Xu N T x=q.2∧x<q.1 then (x,Xu N T x) else q) P:=rfl
  rw[hstep]
  refine Lt N T P (x :: D) _ (fun z hz=>?_) y (by
   rcases hy with hy|hy
   ·exact .inl (by simp[hy])
   ·rcases List.mem_cons.1 hy with rfl|hy
    ·exact .inl (by simp)
    ·exact .inr hy)
  rcases List.mem_cons.1 hz with rfl|hz
  ·split
   ·exact .inr ⟨rfl,Int.le_refl _⟩
   ·next q1=>omega
  ·have:=h z hz
   split
   ·next q1=>simp only;omega
   ·exact this
theorem best_max{N:List Int}{T:List Zg}(h:TrOk N T):(Y8 N T 0 0 N=0∨Y8 N T 0 0 N∈N)∧(∀ y∈N,Xu N T y<Xu N T (Y8 N T 0 0 N)∨Xu N T y=Xu N T (Y8 N T 0 0 N)∧Y8 N T 0 0 N≤y):=by
 rw[He]
 have hw:=Sf N T N (0,0) h.wrk_zero.symm
 rw[←hw]
 exact⟨Sg N T N (0,0),fun y hy=>Lt N T N [] (0,0) (fun _ q=>by cases q) y (.inr hy)⟩
end Go.Proofs.YtmomfkikogbdeaaGreatDoor.Tr
namespace Go.Proofs.YtmomfkikogbdeaaGreatDoor
open Go.RowKit
theorem U7{N:List Int}{T:List Zg}(hc:Tr.chkTr N T=0):N.length=T.length∧N.length≤24∧(∀ x∈N,(Lit.int .i64 x).wf=true)∧(∀ b∈T,(Lit.int .i64 b.1).wf=true)∧(∀ b∈T,Tr.BlkSmall b)∧∀ s,0≤Yo N T s∧Yo N T s≤1000:=by
 have ok:=Tr.TrOk.of hc
 have h24:N.length≤24:=by
  unfold Tr.chkTr at hc
  split at hc
  ·cases hc
  split at hc
  ·cases hc
  omega
 refine⟨ok.len,h24,fun x hx=>?_,fun b hb=>?_,fun b hb=>Tr.blk_small (ok.chk b hb),fun s=>?_⟩
 ·have:=ok.nm x hx;exact Rr (by omega) (by omega)
 ·have h1:=ok.chk b hb
  obtain⟨p,h,k,n,L⟩:=b
  have h2:=(Vn h1).1
  simp[Xy] at h2
  exact Rr (by simp only;omega) (by simp only;omega)
 ·unfold Yo Tr.blockE
  rw[if_neg (fun q=>q hc)]
  split
  ·rename_i q
   have:=Sb (ok.chk _ (Tr.fnd_at ok.len (by simpa using q)))
   simp only
   omega
  ·exact⟨Int.le_refl _,by decide⟩
theorem Ql{N:List Int}{T:List Zg}{z:Int}(h:Tr.bstD N T=(z,0)):Tr.chkTr N T=0∧(z=0∨z∈N):=by
 unfold Tr.bstD at h
 split at h
 ·rename_i q;injection h with _ h;exact absurd h q
 ·rename_i q
  injection h with h _
  have hc:=Decidable.not_not.1 q
  exact⟨hc,h ▸ (Tr.best_max (Tr.TrOk.of hc)).1⟩
theorem Fe(w:World):(Instr.makeMap 252 none).run Tryz.prog w = .ok (.map (some w.heap.size)) (w.alloc (.map #[] 0)):=by kernel_rfl
def Cv(Z:Nat→Prop)(w:World)(d bm m:Nat)(K:List ByteArray)(N:List Int)(T:List Zg)(P:List TxD)(tip:Int)(β : Int→List Zd):Prop:=
 ∃ ka kn kc na nn nc ba bn bc pa pn pc f,DeskAt Z w d bm m ka kn kc K na nn nc N ba bn bc T pa pn pc P tip f β
theorem Lb{V w6 w7:World}{d bm B A:Nat}{ka na ba pa:Option Addr}{kn kc nn nc bn bc pn pc:Nat}{K:List ByteArray}{N:List Int}{T:List Zg}{P:List TxD}{tip:Int}(hK:Fresh A V (fun w2=>Bk.TextsAt w2 ka kn K))(sk:SlOk ka kn kc)(hb:Below V.heap.size V w6)(hF:Fresh B w6 (fun w2=>Tr.IntsAt w2 na nn N∧Tr.BlksAt w2 ba bn T∧TxsAt w2 pa pn P))(sn:SlOk na nn nc)(sb:SlOk ba bn bc)(sp:SlOk pa pn pc)
  (h67:Below w6.heap.size w6 w7) (box:w7.heap[d]? = some (.cells [.slice ka kn kc,.slice na nn nc,.slice ba bn bc,.slice pa pn pc,.int .i64 tip,.map (some bm)].toArray 254 (0,0))) (hm:BMap bm 0 (fun _=>Kt) w7) (h1:V.heap.size≤bm) (h2:w6.heap.size≤d) (h3:bm<B∨w6.heap.size≤bm) (h4:d≠bm) (hA:A≤B) (hA2:A≤V.heap.size) :
  DeskAt (fun q=>q<A) w7 d bm 0 ka kn kc K na nn nc N ba bn bc T pa pn pc P tip (fun _=>Kt) noB:=by
 have hs:=hb.size
 have hs7:=h67.size
 refine⟨box,fun W g=>?_,fun W _ x=>⟨none,0,0,rfl,RowsAt.nil _ _,Zo⟩,sk,sn,sb,sp,hm,h4,fun q e=>by have e:q<A:=e;omega⟩
 have gV:Gr V W (fun q=>q<A):=((Gr.of (bel_on hb h67)):Gr V w7 (fun q=>q<A)).far g (fun q e=>by
  rcases e with e|e|e
  ·exact .inl (by omega)
  ·exact .inl (by omega)
  ·exact .inr e)
 have g6:Gr w6 W (fun q=>q<B):=((Gr.of h67):Gr w6 w7 (fun q=>q<B)).far g (fun q e=>by
  rcases e with e|e|e
  ·omega
  ·omega
  ·exact .inr (Nat.lt_of_lt_of_le e hA))
 have F:=hF W g6
 exact⟨hK W gV,F.1,F.2.1,F.2.2⟩
def OpnR(w w':World)(x:Int)(K:List ByteArray)(N:List Int)(T:List Zg)(P:List TxD)(tip:Int)(β : Int→List Zd)(e:Ending):Prop:=
 Below w.heap.size w w'∧((x≠0∧e = .returned (.tuple #[.pointer none,.int .i64 x]))∨(x=0∧∃ d bm m,e = .returned (.tuple #[.pointer (some ⟨d,0,none⟩),.int .i64 0])∧Cv (fun q=>q<w.heap.size) w' d bm m K N T P tip β∧w.heap.size≤d∧w.heap.size≤bm∧m≤24))
set_option maxRecDepth 10000 in
set_option maxHeartbeats 12800000 in
theorem Tm(ka:Option Addr)(kn kc:Nat)(K:List ByteArray)(na ba pa:Option Addr)(nn nc bn bc pn pc:Nat)(N:List Int)(T:List Zg)(P:List TxD)(tip x:Int)(w:World)(hE:Env w)(hK:Bk.TextsAt w ka kn K)(hN:Tr.IntsAt w na nn N)(hT:Tr.BlksAt w ba bn T)(hP:TxsAt w pa pn P)(sN:SlOk na nn nc)(sT:SlOk ba bn bc)(sP:SlOk pa pn pc)(hp:pn≤2513169434916)(hq:∀ t∈P,Tr.TxSmall t)(hx:opE K N T P tip=x) :
  Calls Tryz.prog 107 #[.agg #[.slice ka kn kc],.agg #[.slice na nn nc,.slice ba bn bc,.slice pa pn pc,.int .i64 tip]] w fun e w'=>OpnR w w' x K N T P tip (Xf K N T noB).2 e:=by
 obtain⟨X,hX⟩:∃ X,X=Y5 w [.cells #[.slice ka kn kc] 24,.cells #[.slice na nn nc,.slice ba bn bc,.slice pa pn pc,.int .i64 tip] 67]:=⟨_,rfl⟩
 have hX':X=(w.alloc (.cells #[.slice ka kn kc] 24)).alloc (.cells #[.slice na nn nc,.slice ba bn bc,.slice pa pn pc,.int .i64 tip] 67):=hX
 have hbX:Below w.heap.size w X:=by rw[hX];exact Z7 _ _
 have hXs:X.heap.size=w.heap.size+2:=by rw[hX];exact Yn _ _
 have x0:X.heap[w.heap.size]? = some (.cells [.slice ka kn kc].toArray 24 (0,0)):=by rw[hX];exact Zj _ w 0 _ rfl
 have x1:X.heap[w.heap.size+1]? = some (.cells [.slice na nn nc,.slice ba bn bc,.slice pa pn pc,.int .i64 tip].toArray 67 (0,0)):=by rw[hX];exact Zj _ w 1 _ rfl
 obtain⟨⟨M,Z,z⟩,hz⟩:∃ r,Bk.allR K []=r:=⟨_,rfl⟩
 have hzc:z=Bk.bkChk K∧(z=0→M=K):=by
  unfold Bk.allR at hz
  split at hz
  ·rename_i q;rw[Bk.nmGo] at hz;simp only[Prod.mk.injEq] at hz;exact⟨by rw[←hz.2.2,q],fun _=>hz.1.symm⟩
  ·rename_i q;simp only[Prod.mk.injEq] at hz;exact⟨hz.2.2.symm,fun e=>absurd (hz.2.2.trans e) q⟩
 have C1:=hide (Bk.all_isF ka none kn kc 0 0 K [] M Z z X (hK.later hbX) ⟨rfl,fun h=>absurd h (by omega)⟩ (by omega) hz)
 obtain⟨⟨b,y⟩,hy⟩:∃ r,Tr.bstD N T=r:=⟨_,rfl⟩
 have C2:=hide (fun V (hv:Below w.heap.size w V)=>Tr.best_is na ba nn nc bn bc N T b y V (hN.later hv) (hT.later hv) sN sT hy)
 obtain⟨⟨u,γ⟩,hu⟩:∃ r,Xf K N T noB=r:=⟨_,rfl⟩
 unfold opE at hx
 rw[←hzc.1,hy,hu] at hx
 simp only at hx
 rw[hu]
 simp only
 have HX:=hide hx
 have HZC:=hide hzc
 have HBX:=hide hbX
 have HXs:=hide hXs
 have HX0:=hide x0
 have HX1:=hide x1
 have HY:=hide hy
 have HU:=hide hu
 have HE:=hide hE
 have HN:=hide hN
 have HT:=hide hT
 have HP:=hide hP
 have HSN:=hide sN
 have HST:=hide sT
 have HSP:=hide sP
 have HPP:=hide hp
 have HQ:=hide hq
 have t0:=Za x0 0 _ rfl
 have tl:=lt_of_block x0
 clear hE hK hN hT hP sN sT sP hp hq hx hbX hXs x0 x1 hX hz hzc hy hu
 go_enter Tryz.func107,Tryz.ntmps107
 go_wp2_with fail
 rw[←hX']
 clear hX'
 (try go_wp2_with fail)
 refine (unhide C1).mono ?_
 rintro e w1 ⟨⟨a',n',c',a2,n2,c2,rfl,hF1,sk1,_,_,_⟩,hb1⟩
 have h10:=(hb1.block _ (lt_of_block (unhide HX0))).trans (unhide HX0)
 have h11:=(hb1.block _ (lt_of_block (unhide HX1))).trans (unhide HX1)
 have y0:=Za h10 0 _ rfl
 have yf:=Zb h10 0
 have yl:=lt_of_block h10
 obtain⟨V,hV⟩:∃ V,V=w1.setCell ⟨w.heap.size,0,none⟩ (.slice a' n' c'):=⟨_,rfl⟩
 have g1:Gr w1 V (fun q=>q=w.heap.size):=by rw[hV];exact (Gr.refl w1 (fun q=>q=w.heap.size)).one w.heap.size 0 (.inl rfl) _
 have v0:V.heap[w.heap.size]? = some (.cells #[.slice a' n' c'] 24 (0,0)):=by rw[hV];exact Wa h10
 have v1:=g1.heap h11 (by omega)
 have hbV:Below w.heap.size w V:=g1.below (bel_on (unhide HBX) hb1) (bel_on (unhide HBX) hb1).size (fun q e=>by have e:q=w.heap.size:=e;omega)
 have HKV:Hid (Fresh w.heap.size V (fun w2=>Bk.TextsAt w2 a' n' M)):=fun W g=>hF1 W ((g1.mono (fun q _ e=>by have e:q=w.heap.size:=e;have:=unhide HXs;omega)).trans (g.mono (fun q _ e=>by have e:q<w.heap.size:=e;have:=unhide HXs;omega)))
 have HBV:=hide hbV
 have HV0:=hide v0
 have HV1:=hide v1
 have HSK:=hide sk1
 have q0:=Za v1 0 _ rfl
 have q1:=Za v1 1 _ rfl
 have q3:=Za v1 3 _ rfl
 have ql:=lt_of_block v1
 have p0:=Za h11 0 _ rfl
 have p1:=Za h11 1 _ rfl
 have pl:=lt_of_block h11
 have D2:=hide ((unhide C2) V hbV)
 clear hb1 h10 h11 g1 v0 v1 hbV hF1 sk1 C1 C2 t0 tl
 by_cases z0:z=0
 ·subst z0
  obtain rfl:=(unhide HZC).2 rfl
  go_wp2_with fail
  rw[←hV]
  clear hV y0 yf yl p0 p1 pl
  (try go_wp2_with fail)
  refine (unhide D2).mono ?_
  rintro e w2 ⟨rfl,hb2⟩
  have HB2:=hide (bel_on (unhide HBV) hb2)
  have HV2:=hide hb2
  have h20:=(hb2.block _ (lt_of_block (unhide HV0))).trans (unhide HV0)
  have h21:=(hb2.block _ (lt_of_block (unhide HV1))).trans (unhide HV1)
  have H20:=hide h20
  have H21:=hide h21
  have r0:=Za h20 0 _ rfl
  have s0:=Za h21 0 _ rfl
  have s1:=Za h21 1 _ rfl
  have s2:=Za h21 2 _ rfl
  have s3:=Za h21 3 _ rfl
  have rl:=lt_of_block h20
  have sl:=lt_of_block h21
  clear hb2 h20 h21 D2 q0 q1 q3 ql
  by_cases y00:y=0
  ·subst y00
   by_cases t00:b=tip
   ·subst t00
    have hx1:=unhide HX
    rw[if_neg (fun q=>q rfl),if_neg (fun q=>q rfl),if_neg (fun q=>q rfl)] at hx1
    have HX1E:=hide hx1
    clear hx1 HX
    obtain⟨hc,htip⟩:=Ql (unhide HY)
    obtain⟨f1,f2,f3,f4,f5,f6⟩:=U7 hc
    have hbn:bn=nn:=by have q1:=(unhide HN).1;have q2:=(unhide HT).1;omega
    subst hbn
    have hnn:bn≤24:=by have q1:=(unhide HN).1;omega
    have CN:=hide (fun U (hv:Below w.heap.size w U)=>Fr na ba pa bn nc bc pn pc N T P b U ((unhide HN).later hv) ((unhide HT).later hv) ((unhide HP).later hv) (unhide HSN) (unhide HST) (unhide HSP) (by omega) f5 (unhide HPP) (unhide HQ))
    have HWT:Hid ((Lit.int .i64 b).wf=true):=by rcases htip with q|q;exact Rr (by omega) (by omega);exact f3 b q
    have HF1:=hide f1
    have HF2:=hide f2
    have HF3:=hide f3
    have HF4:=hide f4
    have HF6:=hide (f6 b)
    have hmk:=Fe
    clear hc htip f1 f2 f3 f4 f5 f6
    have KS:Hid (∀ U:World,Below w2.heap.size w2 U→((U.cell? ⟨w.heap.size,0,none⟩=some (.slice a' n' c')∧w.heap.size<U.heap.size)∧U.cell? ⟨w.heap.size+1,0,none⟩=some (.slice na bn nc)∧U.cell? ⟨w.heap.size+1,1,none⟩=some (.slice ba bn bc)∧U.cell? ⟨w.heap.size+1,2,none⟩=some (.slice pa pn pc)∧U.cell? ⟨w.heap.size+1,3,none⟩=some (.int .i64 b)∧w.heap.size+1<U.heap.size)):=fun U hu=>⟨⟨cell_later hu r0,Nat.lt_of_lt_of_le rl hu.size⟩,cell_later hu s0,cell_later hu s1,cell_later hu s2,cell_later hu s3,Nat.lt_of_lt_of_le sl hu.size⟩
    go_upto_region 9 with fail
    clear r0 s0 s1 s2 s3 rl sl
    go_cut [9] from 34 to 39 (fun s9 wx=>∃ d bm:Nat,s9 = .pointer (some ⟨d,0,none⟩)∧Hid (∃ na' nc' ba' bc' pa' pc',DeskAt (fun q=>q<w.heap.size) wx d bm 0 a' n' c' M na' bn nc' N ba' bn bc' T pa' pn pc' P b (fun _=>Kt) noB)∧Hid (Below w.heap.size w wx∧w.heap.size≤d∧w.heap.size≤bm))
    case first=>
     refine wp_region_held_drew (S:=fun U=>(U.cell? ⟨w.heap.size,0,none⟩=some (.slice a' n' c')∧w.heap.size<U.heap.size)∧U.cell? ⟨w.heap.size+1,0,none⟩=some (.slice na bn nc)∧U.cell? ⟨w.heap.size+1,1,none⟩=some (.slice ba bn bc)∧U.cell? ⟨w.heap.size+1,2,none⟩=some (.slice pa pn pc)∧U.cell? ⟨w.heap.size+1,3,none⟩=some (.int .i64 b)∧w.heap.size+1<U.heap.size) (by kernel_rfl) ((unhide KS) _ (Ze _)) (fun hHeld=>?_)
     refine tk 0 ⟨some 34,.load 24 (.tmp 2),24, "desk.go:32",#[],none⟩ ?_ rfl ?_ hHeld ?_
     rotate_left
     ·(intro U hSw;obtain⟨⟨u1,u2⟩,u3,u4,u5,u6,u7⟩:=hSw;go_simp;first|done|with_reducible rfl)
     (try simp only[Act.put,ZA,ZB,ZC])
     refine tk 1 ⟨some 35,.load 67 (.tmp 3),67, "desk.go:32",#[],none⟩ ?_ rfl ?_ hHeld ?_
     rotate_left
     ·(intro U hSw;obtain⟨⟨u1,u2⟩,u3,u4,u5,u6,u7⟩:=hSw;go_simp;first|done|with_reducible rfl)
     (try simp only[Act.put,ZA,ZB,ZC])
     refine wpAnyH_ready (rs:=[2,3]) (by kernel_rfl) (by simp) ?_
     refine AllReadyH.cons (o:=⟨some 36,.call { callee:=Callee.value (.func 171),args:=#[.tmp 35],argTypes:=#[67] },67, "desk.go:32",#[⟨1,.data⟩],none⟩) rfl (fun KQ hK=>?_) (AllReadyH.cons (o:=⟨some 37,.makeMap 252 none,252, "desk.go:32",#[],none⟩) rfl (fun KQ hK=>?_) AllReadyH.nil)
     ·have hb:=Ze w2
      refine Zf (by kernel_rfl) 171 #[.agg #[.slice na bn nc,.slice ba bn bc,.slice pa pn pc,.int .i64 b]] (by kernel_rfl) ((unhide CN) w2.drew (bel_on (unhide HB2) hb)) ?_
      rintro e w5 ⟨na',nc',ba',bc',pa',pc',rfl,hF5,sn5,sb5,sp5,hb5⟩
      refine⟨_,rfl,?_⟩
      have hbc:=bel_on hb hb5
      refine hK.out _ _ ((unhide KS) _ hbc) (fun hHeld2=>?_)
      clear hK KQ hHeld
      have hHeld:=hHeld2
      clear hHeld2
      (try simp only[Act.put,ZA,ZB,ZC])
      refine wpAnyH_ready (rs:=[3]) (by kernel_rfl) (by simp) ?_
      refine AllReadyH.cons (o:=⟨some 37,.makeMap 252 none,252, "desk.go:32",#[],none⟩) rfl (fun KQ hK=>?_) AllReadyH.nil
      go_simp
      obtain⟨w6,hw6⟩:∃ w6,w6=w5.alloc (.map #[] 0):=⟨_,rfl⟩
      rw[←hw6]
      have hb6:Below w5.heap.size w5 w6:=by rw[hw6];exact bel_new _ _
      have hm6:BMap w5.heap.size 0 (fun _=>Kt) w6:=by rw[hw6];exact BMap.made w5
      have hs6:w6.heap.size=w5.heap.size+1:=by rw[hw6];simp
      clear hw6
      refine hK.out _ _ ((unhide KS) _ (bel_on hbc hb6)) (fun hHeld2=>?_)
      clear hK KQ hHeld
      have hHeld:=hHeld2
      clear hHeld2
      (try simp only[Act.put,ZA,ZB,ZC])
      refine tk 4 ⟨some 38,.build 254 #[(0,.tmp 34),(1,.tmp 36),(2,.tmp 37)],254, "desk.go:32",#[⟨0,.data⟩,⟨2,.data⟩,⟨3,.data⟩],none⟩ ?_ rfl ?_ hHeld ?_
      rotate_left
      ·(intro U hSw;(try dsimp only at hSw);go_simp;first|done|with_reducible rfl)
      (try simp only[Act.put,ZA,ZB,ZC])
      refine wpAnyH_ready (rs:=[5]) (by kernel_rfl) (by simp) ?_
      refine AllReadyH.cons (o:=⟨some 39,.box 254 (.tmp 38),181, "desk.go:32",#[⟨4,.data⟩],none⟩) rfl (fun KQ hK=>?_) AllReadyH.nil
      go_simp
      obtain⟨w7,hw7⟩:∃ w7,w7=w6.alloc (.cells #[.slice a' n' c',.slice na' bn nc',.slice ba' bn bc',.slice pa' pn pc',.int .i64 b,.map (some w5.heap.size)] 254):=⟨_,rfl⟩
      rw[←hw7]
      have hb7:Below w6.heap.size w6 w7:=by rw[hw7];exact bel_new _ _
      have bx7:w7.heap[w6.heap.size]? = some (.cells [.slice a' n' c',.slice na' bn nc',.slice ba' bn bc',.slice pa' pn pc',.int .i64 b,.map (some w5.heap.size)].toArray 254 (0,0)):=by rw[hw7];exact heap_alloc_new _ _
      clear hw7
      refine hK.out _ _ ((unhide KS) _ (bel_on (bel_on hbc hb6) hb7)) (fun hHeld2=>?_)
      clear hK KQ hHeld
      have hHeld:=hHeld2
      clear hHeld2
      (try simp only[Act.put,ZA,ZB,ZC])
      refine tk 6 ⟨some 9,.assign (.tmp 39),181, "desk.go:32",#[⟨5,.data⟩,⟨2,.chain⟩,⟨0,.phase⟩,⟨1,.phase⟩,⟨2,.phase⟩,⟨3,.phase⟩,⟨4,.phase⟩,⟨5,.phase⟩],none⟩ ?_ rfl ?_ hHeld ?_
      rotate_left
      ·(intro U hSw;(try dsimp only at hSw);go_simp;first|done|with_reducible rfl)
      (try simp only[Act.put,ZA,ZB,ZC])
      refine wpAnyH_done (by kernel_rfl) ?_ _
      clear hHeld
      go_wp2_with fail
      go_meet
      case rel=>
       have s2:=(unhide HB2).size
       have s5:=hbc.size
       have sV:=(unhide HV2).size
       exact⟨w6.heap.size,w5.heap.size,(by first|rfl|rw[hs6]),⟨na',nc',ba',bc',pa',pc',Lb (V:=V) (B:=w2.drew.heap.size) (unhide HKV) (unhide HSK) (bel_on (unhide HV2) hbc) hF5 sn5 sb5 sp5 (bel_on hb6 hb7) bx7 (hm6.keep hb7) (by omega) (by omega) (.inr (Nat.le_refl _)) (by omega) (by have:=(unhide HB2).size;show w.heap.size≤w2.heap.size;omega) (unhide HBV).size⟩,bel_on (bel_on (unhide HB2) hbc) (bel_on hb6 hb7),by omega,by omega⟩
     ·go_simp
      obtain⟨v6,hv6⟩:∃ v6,v6=(w2.alloc (.map #[] 0)).drew:=⟨_,rfl⟩
      rw[←hv6]
      have hb:Below w2.heap.size w2 v6:=by rw[hv6];exact bel_on (bel_new _ _) (Ze _)
      have hm6:BMap w2.heap.size 0 (fun _=>Kt) v6:=by rw[hv6];exact (BMap.made w2).heap rfl
      have hs6:v6.heap.size=w2.heap.size+1:=by rw[hv6];simp
      clear hv6
      refine hK.out _ _ ((unhide KS) _ hb) (fun hHeld2=>?_)
      clear hK KQ hHeld
      have hHeld:=hHeld2
      clear hHeld2
      (try simp only[Act.put,ZA,ZB,ZC])
      refine wpAnyH_ready (rs:=[2]) (by kernel_rfl) (by simp) ?_
      refine AllReadyH.cons (o:=⟨some 36,.call { callee:=Callee.value (.func 171),args:=#[.tmp 35],argTypes:=#[67] },67, "desk.go:32",#[⟨1,.data⟩],none⟩) rfl (fun KQ hK=>?_) AllReadyH.nil
      refine Zf (by kernel_rfl) 171 #[.agg #[.slice na bn nc,.slice ba bn bc,.slice pa pn pc,.int .i64 b]] (by kernel_rfl) ((unhide CN) v6 (bel_on (unhide HB2) hb)) ?_
      rintro e w5 ⟨na',nc',ba',bc',pa',pc',rfl,hF5,sn5,sb5,sp5,hb5⟩
      refine⟨_,rfl,?_⟩
      have hbc:=bel_on hb hb5
      refine hK.out _ _ ((unhide KS) _ hbc) (fun hHeld2=>?_)
      clear hK KQ hHeld
      have hHeld:=hHeld2
      clear hHeld2
      (try simp only[Act.put,ZA,ZB,ZC])
      refine tk 4 ⟨some 38,.build 254 #[(0,.tmp 34),(1,.tmp 36),(2,.tmp 37)],254, "desk.go:32",#[⟨0,.data⟩,⟨2,.data⟩,⟨3,.data⟩],none⟩ ?_ rfl ?_ hHeld ?_
      rotate_left
      ·(intro U hSw;(try dsimp only at hSw);go_simp;first|done|with_reducible rfl)
      (try simp only[Act.put,ZA,ZB,ZC])
      refine wpAnyH_ready (rs:=[5]) (by kernel_rfl) (by simp) ?_
      refine AllReadyH.cons (o:=⟨some 39,.box 254 (.tmp 38),181, "desk.go:32",#[⟨4,.data⟩],none⟩) rfl (fun KQ hK=>?_) AllReadyH.nil
      go_simp
      obtain⟨w7,hw7⟩:∃ w7,w7=w5.alloc (.cells #[.slice a' n' c',.slice na' bn nc',.slice ba' bn bc',.slice pa' pn pc',.int .i64 b,.map (some w2.heap.size)] 254):=⟨_,rfl⟩
      rw[←hw7]
      have hb7:Below w5.heap.size w5 w7:=by rw[hw7];exact bel_new _ _
      have bx7:w7.heap[w5.heap.size]? = some (.cells [.slice a' n' c',.slice na' bn nc',.slice ba' bn bc',.slice pa' pn pc',.int .i64 b,.map (some w2.heap.size)].toArray 254 (0,0)):=by rw[hw7];exact heap_alloc_new _ _
      clear hw7
      refine hK.out _ _ ((unhide KS) _ (bel_on hbc hb7)) (fun hHeld2=>?_)
      clear hK KQ hHeld
      have hHeld:=hHeld2
      clear hHeld2
      (try simp only[Act.put,ZA,ZB,ZC])
      refine tk 6 ⟨some 9,.assign (.tmp 39),181, "desk.go:32",#[⟨5,.data⟩,⟨2,.chain⟩,⟨0,.phase⟩,⟨1,.phase⟩,⟨2,.phase⟩,⟨3,.phase⟩,⟨4,.phase⟩,⟨5,.phase⟩],none⟩ ?_ rfl ?_ hHeld ?_
      rotate_left
      ·(intro U hSw;(try dsimp only at hSw);go_simp;first|done|with_reducible rfl)
      (try simp only[Act.put,ZA,ZB,ZC])
      refine wpAnyH_done (by kernel_rfl) ?_ _
      clear hHeld
      go_wp2_with fail
      go_meet
      case rel=>
       have s2:=(unhide HB2).size
       have s5:=hb5.size
       have sV:=(unhide HV2).size
       exact⟨w5.heap.size,w2.heap.size,rfl,⟨na',nc',ba',bc',pa',pc',Lb (V:=V) (B:=v6.heap.size) (unhide HKV) (unhide HSK) (bel_on (unhide HV2) hbc) hF5 sn5 sb5 sp5 hb7 bx7 ((hm6.keep hb5).keep hb7) (by omega) (Nat.le_refl _) (.inl (by omega)) (by omega) (by have:=(unhide HB2).size;omega) (unhide HBV).size⟩,bel_on (bel_on (unhide HB2) hbc) hb7,by omega,by omega⟩
    case rest=>
     obtain⟨d,bm,rfl,hD,hL⟩:=hcut
     obtain⟨na',nc',ba',bc',pa',pc',hD⟩:=unhide hD
     obtain⟨hbw,hd,hbm⟩:=unhide hL
     have E1:=hide (My hD w hbw hbm (unhide HE) (unhide HF1) (unhide HF2) (unhide HF3) (unhide HF4) u γ (unhide HU))
     have HBW:=hide hbw
     have HD1:=hide hd
     have HBM:=hide hbm
     clear hD hL hbw hd hbm KS CN hmk
     go_wp2_with fail
     refine (unhide E1).mono ?_
     rintro e w8 ⟨rfl,hg8,hD8⟩
     have hb8:Below w.heap.size w w8:=hg8.below (unhide HBW) (unhide HBW).size (fun q e=>by have e:q=bm:=e;have:=unhide HBM;omega)
     have HB8:=hide hb8
     clear hg8 E1
     by_cases u0:u=0
     ·subst u0
      obtain⟨f',hD9⟩:=hD8 rfl
      have hx2:=unhide HX1E
      rw[if_neg (fun q=>q rfl)] at hx2
      have E2:=hide (B9 hD9 ((unhide HE).later hb8) (unhide HWT) (unhide HF6).1 (unhide HF6).2 x hx2)
      have HD9:=hide hD9
      clear hD8 hD9 hb8 HX1E hx2
      go_wp2_with fail
      refine (unhide E2).mono ?_
      rintro e w9 ⟨rfl,hb9⟩
      have HB9:=hide (bel_on (unhide HB8) hb9)
      have HD10:=hide ((unhide HD9).later hb9)
      clear hb9 E2
      by_cases x0:x=0
      ·subst x0
       go_wp2
       go_ret2
       exact⟨unhide HB9,.inr ⟨rfl,d,bm,_,rfl,⟨_,_,_,_,_,_,_,_,_,_,_,_,_,unhide HD10⟩,unhide HD1,unhide HBM,unhide HF2⟩⟩
      ·have gx:(x != 0)=true:=by simp[x0]
       go_wp2
       go_ret2
       exact⟨unhide HB9,.inl ⟨x0,rfl⟩⟩
     ·have gu:(u != 0)=true:=by simp[u0]
      have HXE:Hid (x=u):=by have q:=unhide HX1E;rw[if_pos u0] at q;exact q.symm
      clear HX1E hD8 hb8
      go_wp2
      go_ret2
      rw[unhide HXE]
      exact⟨unhide HB8,.inl ⟨u0,rfl⟩⟩
   ·have gt:(b != tip)=true:=by simp[t00]
    have HXE:Hid (x=4):=by have q:=unhide HX;rw[if_neg (fun q=>q rfl),if_neg (fun q=>q rfl),if_pos t00] at q;exact q.symm
    clear HX
    go_wp2
    go_ret2
    rw[unhide HXE]
    exact⟨unhide HB2,.inl ⟨by decide,rfl⟩⟩
  ·have gy:(y != 0)=true:=by simp[y00]
   have HXE:Hid (x=y):=by have q:=unhide HX;rw[if_neg (fun q=>q rfl),if_pos y00] at q;exact q.symm
   clear HX
   go_wp2
   go_ret2
   rw[unhide HXE]
   exact⟨unhide HB2,.inl ⟨y00,rfl⟩⟩
 ·have gz:(z != 0)=true:=by simp[z0]
  have HXE:Hid (x=z):=by have q:=unhide HX;rw[if_pos z0] at q;exact q.symm
  have HVV:=hide hV
  clear HX hV D2
  go_wp2
  rw[←unhide HVV]
  go_ret2
  rw[unhide HXE]
  exact⟨unhide HBV,.inl ⟨z0,rfl⟩⟩
section
variable {Z : Nat → Prop} {w w' : World} {d bm m : Nat} {ka na ba pa ka' na' ba' pa' : Option Addr} {kn kc nn nc bn bc pn pc kn' kc' nn' nc' bn' bc' pn' pc' : Nat} {K K' : List ByteArray} {N N' : List Int} {T T' : List Zg} {P P' : List TxD} {tip tip' : Int} {f : Int → Value} {β : Int → List Zd}
theorem DeskAt.set(h:DeskAt Z w d bm m ka kn kc K na nn nc N ba bn bc T pa pn pc P tip f β)(g:Gr w w' (fun q=>q=d))
  (box:w'.heap[d]? = some (.cells [.slice ka' kn' kc',.slice na' nn' nc',.slice ba' bn' bc',.slice pa' pn' pc',.int .i64 tip',.map (some bm)].toArray 254 (0,0)))
  (D:∀ W,Gr w' W (fun q=>q=d∨q=bm∨Z q)→Sp W ka kn K na nn N ba bn T pa pn P→Bk.TextsAt W ka' kn' K'∧Tr.IntsAt W na' nn' N'∧Tr.BlksAt W ba' bn' T'∧TxsAt W pa' pn' P')
  (s1:SlOk ka' kn' kc') (s2:SlOk na' nn' nc') (s3:SlOk ba' bn' bc') (s4:SlOk pa' pn' pc'):DeskAt Z w' d bm m ka' kn' kc' K' na' nn' nc' N' ba' bn' bc' T' pa' pn' pc' P' tip' f β:=by
 refine⟨box,fun W gW=>?_,fun W gW=>h.coi W ((g.mono (fun q _ e=>.inl e)).trans gW),s1,s2,s3,s4,h.mp.gr g (fun e=>h.ne (by have e:bm=d:=e;exact e.symm)),h.ne,fun q e=>Nat.lt_of_lt_of_le (h.zb q e) g.size⟩
 have D0:=h.dat W ((g.mono (fun q _ e=>.inl e)).trans gW)
 obtain⟨h1,h2,h3,h4⟩:=D W gW D0
 exact⟨h1,h2,h3,h4⟩
theorem DeskAt.swept(h:DeskAt Z w d bm m ka kn kc K na nn nc N ba bn bc T pa pn pc P tip f β){V w1:World}(hv:Below w.heap.size w V)(h1:Below V.heap.size V w1)(hF:Fresh V.heap.size w1 (fun w2=>Bk.TextsAt w2 ka' kn' K'∧TxsAt w2 pa' pn' P'))(s1:SlOk ka' kn' kc')(s4:SlOk pa' pn' pc')
  (g:Gr w1 w' (fun q=>q=d)) (box:w'.heap[d]? = some (.cells [.slice ka' kn' kc',.slice na nn nc,.slice ba bn bc,.slice pa' pn' pc',.int .i64 tip,.map (some bm)].toArray 254 (0,0))) :
  DeskAt Z w' d bm m ka' kn' kc' K' na nn nc N ba bn bc T pa' pn' pc' P' tip f β∧Gr w w' (fun q=>q=d):=by
 have gw:Gr w w' (fun q=>q=d):=(Gr.of (bel_on hv h1)).trans g
 have l1:=lt_of_block h.box
 have l2:=h.mp.lt
 have l3:=hv.size
 refine⟨h.set gw box (fun W gW D0=>?_) s1 h.sn h.sb s4,gw⟩
 have F:=hF W ((g.mono (fun q _ e=>by have e:q=d:=e;omega)).trans (gW.mono (fun q _ e=>e.elim (fun e=>by omega) (fun e=>e.elim (fun e=>by omega) (fun e=>Nat.lt_of_lt_of_le (h.zb q e) l3)))))
 exact⟨F.1,D0.n,D0.b,F.2⟩
end
def Eb(K:List ByteArray)(C:List Zd)(P:List TxD)(h:Int):List ByteArray×List TxD×Int:=
 if 1000<h then (K,P,0) else ((swF K C P h (swE K C P h)).1,(swF K C P h (swE K C P h)).2.1,swE K C P h)
def SwpR(Z:Nat→Prop)(w w':World)(d bm m:Nat)(K:List ByteArray)(na:Option Addr)(nn nc:Nat)(N:List Int)(ba:Option Addr)(bn bc:Nat)(T:List Zg)(P:List TxD)(tip:Int)(f:Int→Value)(β : Int→List Zd):Prop:=
 ∃ ka kn kc pa pn pc,DeskAt Z w' d bm m ka kn kc K na nn nc N ba bn bc T pa pn pc P tip f β∧Gr w w' (fun q=>q=d)
end Go.Proofs.YtmomfkikogbdeaaGreatDoor
