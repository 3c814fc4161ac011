import Derived.Test.YtpikejjiignchaaGreatDoorG42
set_option maxHeartbeats 6400000
set_option maxRecDepth 10000
namespace Go.Proofs.YtpikejjiignchaaGreatDoor.Tr
open Go.RowKit
def Ve(p h k n:Int):Zk:=(p,h,k,0,[(h,[],[(n,[])])])
theorem simple_is(p h k n:Int)(w:World) :
  Calls Tryz.prog 38 #[.int .i64 p,.int .i64 h,.int .i64 k,.int .i64 n] w fun e w'=>∃ a c,e = .returned (.agg #[.int .i64 p,.int .i64 h,.int .i64 k,.int .i64 0,.slice a 1 c])∧TxsAt w' a 1 [(h,[],[(n,[])])]∧SlOk a 1 c∧Below w.heap.size w w':=by
 obtain⟨X,hX⟩:∃ X,X=(((w.alloc (.cells #[.int .i64 p,.int .i64 h,.int .i64 k,.int .i64 0,.slice (some ⟨w.heap.size+1+1,0,none⟩) 1 1] 68)).alloc (.cells #[.int .i64 n,.slice none 0 0] 101)).alloc (.cells #[.int .i64 h,.slice none 0 0,.slice (some ⟨w.heap.size+1,0,none⟩) 1 1] 52)):=⟨_,rfl⟩
 have hbX:Below w.heap.size w X:=by rw[hX];exact Ze (Ze (Zg _ _) (Zg _ _)) (Zg _ _)
 have hX1:X.heap[w.heap.size+1]? = some (.cells [.int .i64 n,.slice none 0 0].toArray 101 (0,0)):=by
  rw[hX,Below.heap_alloc _ _ _ (by simp)]
  have:=two_heap (w.alloc (.cells #[.int .i64 p,.int .i64 h,.int .i64 k,.int .i64 0,.slice (some ⟨w.heap.size+1+1,0,none⟩) 1 1] 68)) (.int .i64 n) (.slice none 0 0) 101
  rw[show (w.alloc (.cells #[.int .i64 p,.int .i64 h,.int .i64 k,.int .i64 0,.slice (some ⟨w.heap.size+1+1,0,none⟩) 1 1] 68)).heap.size=w.heap.size+1 by simp] at this
  exact this
 have hX2:X.heap[w.heap.size+1+1]? = some (.cells [.int .i64 h,.slice none 0 0,.slice (some ⟨w.heap.size+1,0,none⟩) 1 1].toArray 52 (0,0)):=by
  rw[hX]
  have:=Zp ((w.alloc (.cells #[.int .i64 p,.int .i64 h,.int .i64 k,.int .i64 0,.slice (some ⟨w.heap.size+1+1,0,none⟩) 1 1] 68)).alloc (.cells #[.int .i64 n,.slice none 0 0] 101)) (.int .i64 h) (.slice none 0 0) (.slice (some ⟨w.heap.size+1,0,none⟩) 1 1) 52
  rw[show ((w.alloc (.cells #[.int .i64 p,.int .i64 h,.int .i64 k,.int .i64 0,.slice (some ⟨w.heap.size+1+1,0,none⟩) 1 1] 68)).alloc (.cells #[.int .i64 n,.slice none 0 0] 101)).heap.size=w.heap.size+1+1 by simp] at this
  exact this
 have sok:∀ q,SlOk (some ⟨q,0,none⟩) 1 1:=fun q=>⟨Nat.le_refl _,by unfold maxLen;omega,fun e=>by cases e⟩
 have snil:SlOk none 0 0:=⟨Nat.le_refl _,Nat.zero_le _,fun _=>⟨rfl,rfl⟩⟩
 have hO:OutsAt X (some ⟨w.heap.size+1,0,none⟩) 1 [(n,[])]:=⟨rfl,fun _=>⟨w.heap.size+1,0,rfl,lt_of_block hX1,fun i hi=>by
  obtain rfl:i=0:=by simp at hi;exact hi
  exact⟨Zd hX1 0 _ rfl,_,_,_,Zd hX1 1 _ rfl,⟨rfl,fun h=>absurd h (by omega)⟩,snil⟩⟩⟩
 have hT:TxsAt X (some ⟨w.heap.size+1+1,0,none⟩) 1 [(h,[],[(n,[])])]:=⟨rfl,fun _=>⟨w.heap.size+1+1,0,rfl,lt_of_block hX2,fun i hi=>by
  obtain rfl:i=0:=by simp at hi;exact hi
  exact⟨Zd hX2 0 _ rfl,⟨_,_,_,Zd hX2 1 _ rfl,RowsAt.nil _ _,snil⟩,_,_,_,Zd hX2 2 _ rfl,hO,sok _⟩⟩⟩
 have HT:=Zb hT
 have HB:=Zb hbX
 have SO:=Zb sok
 clear hT hbX sok snil hO hX1 hX2
 go_enter Tryz.func38,Tryz.ntmps38
 go_wp2
 (try simp only[Exit.inBlock,Exit.then])
 refine bodyPost_ret (v:=.agg #[.int .i64 p,.int .i64 h,.int .i64 k,.int .i64 0,.slice (some ⟨w.heap.size+1+1,0,none⟩) 1 1]) ?_ rfl ⟨_,_,rfl,?_,(Za SO) _,?_⟩
 ·rw[Ys rfl]
  go_simp
 ·rw[←hX];exact Za HT
 ·rw[←hX];exact Za HB
def GrS(w:World)(t:Nat)(N:List Int)(T:List Zk)(n:Nat)(W:World):Prop:=
 ∃ a1 c1 a2 c2,W.heap[t]? = some (.cells [.slice a1 n c1,.slice a2 n c2].toArray 28 (0,0))∧IntsAt W a1 n N∧BlksAt W a2 n T∧SlOk a1 n c1∧SlOk a2 n c2∧Below w.heap.size w W∧w.heap.size≤t
theorem grS_store{w W w2:World}{t n n':Nat}{N':List Int}{T':List Zk}{a1 a2 b1 b2:Option Addr}{c1 c2 d1 d2:Nat}(hb:Below w.heap.size w W)(ht:w.heap.size≤t)(htW:t<W.heap.size)
  (hx:w2.heap[t]? = some (.cells [.slice b1 n d1,.slice b2 n d2].toArray 28 (0,0))) (hF:Fresh W.heap.size w2 (fun w3=>IntsAt w3 a1 n' N'∧BlksAt w3 a2 n' T')) (s1:SlOk a1 n' c1) (s2:SlOk a2 n' c2) (hb2:Below W.heap.size W w2) :
  GrS w t N' T' n' ((w2.setCell ⟨t,0,none⟩ (.slice a1 n' c1)).setCell ⟨t,1,none⟩ (.slice a2 n' c2)):=by
 have hg:=((Gr.refl w2 (fun q=>q=t)).one t 0 (.inl rfl) (.slice a1 n' c1)).one t 1 (.inl rfl) (.slice a2 n' c2)
 have h1:=hF _ (hg.mono fun q _ e=>by omega)
 refine⟨a1,c1,a2,c2,set_cells (set_cells hx 0 _) 1 _,h1.1,h1.2,s1,s2,hg.below (Ze hb hb2) (by have:=hb.size;have:=hb2.size;omega) (fun q e=>by omega),ht⟩
theorem Zko{N:List Int}{T:List Zk}{x:Int}{b:Zk}{N':List Int}{T':List Zk}(h:addE N T x b=(N',T',0)):chkTr N T=0∧Xi N T x b=0∧N.length≠24∧N'=N++[x]∧T'=T++[b]:=by
 unfold addE at h
 split at h
 ·next q=>exact absurd (congrArg (·.2.2) h) q
 ·next q=>
  split at h
  ·next q2=>exact absurd (congrArg (·.2.2) h) q2
  ·next q2=>
   split at h
   ·next q3=>have:=congrArg (·.2.2) h;simp at this
   ·next q3=>exact⟨Classical.not_not.1 q,Classical.not_not.1 q2,q3,(congrArg (·.1) h).symm,(congrArg (·.2.1) h).symm⟩
theorem nd_len:∀ (U N:List Int),U.Nodup→(∀ x∈U,x∈N)→U.length≤N.length
 | [],_,_,_=>Nat.zero_le _
 | x :: U,N,h,hs=>by
  have hx:x∈N:=hs x (by simp)
  have hn:=List.nodup_cons.1 h
  have h1:=nd_len U (N.erase x) hn.2 (fun y hy=>(List.mem_erase_of_ne (fun (e:y=x)=>hn.1 (e ▸ hy))).2 (hs y (by simp[hy])))
  rw[List.length_erase_of_mem hx] at h1
  have:0<N.length:=List.length_pos_of_mem hx
  simp only[List.length_cons]
  omega
theorem Ma:∀ (M:List Int) (U:List Zk) (N:List Int) (T:List Zk),M.length=U.length→Xo N T M U=0→∀ i (h:i<M.length) (h':i<U.length),Xi (N++M.take i) (T++U.take i) M[i] U[i]=0
 | [],_,_,_,_,_,_,h,_=>absurd h (by simp)
 | _ :: _,[],_,_,h,_,_,_,_=>by cases h
 | x :: M,b :: U,N,T,hl,hc,0,_,_=>by
  rw[Xo] at hc
  split at hc
  ·next q=>exact absurd hc q
  ·next q=>simpa using Classical.not_not.1 q
 | x :: M,b :: U,N,T,hl,hc,i+1,h,h'=>by
  rw[Xo] at hc
  split at hc
  ·next q=>exact absurd hc q
  ·next q=>
   have:=Ma M U _ _ (by simpa using hl) hc i (by simpa using h) (by simpa using h')
   simpa using this
theorem ahead{N:List Int}{T:List Zk}(hc:chkTr N T=0)(i:Nat)(h:i<N.length)(h':i<T.length):fnd N[i] N T=T[i]∧(T[i].1=0∨T[i].1∈N.take i):=by
 obtain⟨hl,_,_,hgo⟩:=Qz hc
 have h1:=Ma N T [] [] hl hgo i h h'
 simp only[List.nil_append] at h1
 obtain⟨_,_,q3,q4,_⟩:=K7 h1
 refine⟨?_,q4⟩
 have e1:N=N.take i++(N[i] :: N.drop (i+1)):=by rw[←List.drop_eq_getElem_cons h,List.take_append_drop]
 have e2:T=T.take i++(T[i] :: T.drop (i+1)):=by rw[←List.drop_eq_getElem_cons h',List.take_append_drop]
 have:=Qu (N:=N.take i) (M:=N[i] :: N.drop (i+1)) (T:=T.take i) (U:=T[i] :: T.drop (i+1)) (by rw[List.length_take,List.length_take];omega) q3
 rw[←e1,←e2] at this
 rw[this]
 simp[fnd]
structure Sub(U:List Int)(V:List Zk)(N:List Int)(T:List Zk):Prop where
 chk:chkTr U V=0
 mem:∀ y∈U,y∈N
 same:∀ y∈U,fnd y U V=fnd y N T
theorem Sub.nil(N:List Int)(T:List Zk):Sub [] [] N T:=⟨rfl,fun _ h=>(by cases h),fun _ h=>(by cases h)⟩
theorem Sub.all{U:List Int}{V:List Zk}{N:List Int}{T:List Zk}(h:Sub U V N T)(hc:chkTr N T=0){y:Int}(hy:y=0∨y∈U):fnd y U V=fnd y N T:=by
 by_cases e:y∈U
 ·exact h.same y e
 ·have hy0:y=0:=by rcases hy with q|q;exact q;exact absurd q e
  subst hy0
  rw[U8 (TrOk.of h.chk).len e,U8 (TrOk.of hc).len (TrOk.of hc).zero]
theorem Sub.step{U:List Int}{V:List Zk}{N:List Int}{T:List Zk}(h:Sub U V N T)(hc:chkTr N T=0){k:Nat}(hk:k<N.length)(hk':k<T.length){U':List Int}{V':List Zk}(ha:addE U V N[k] T[k]=(U',V',0)):Sub U' V' N T∧U'=U++[N[k]]:=by
 obtain⟨h1,h2,h3,rfl,rfl⟩:=Zko ha
 have ok:=TrOk.of h1
 obtain⟨g1,_,g3,_,_⟩:=K7 h2
 refine⟨⟨Zav h1 h2 h3,fun y hy=>?_,fun y hy=>?_⟩,rfl⟩
 ·rcases List.mem_append.1 hy with q|q
  ·exact h.mem y q
  ·rw[List.mem_singleton.1 q];exact List.getElem_mem hk
 ·rcases List.mem_append.1 hy with q|q
  ·rw[ok.same g1.1 (.inr q)];exact h.same y q
  ·rw[List.mem_singleton.1 q,ok.new g3,(ahead hc k hk hk').1]
theorem Sub.full{U:List Int}{V:List Zk}{N:List Int}{T:List Zk}(h:Sub U V N T)(hc:chkTr N T=0)(ha:∀ j (hj:j<N.length),N[j]∈U):U.length=N.length∧∀ y∈N,y∈U:=by
 have hs:∀ y∈N,y∈U:=fun y hy=>by
  obtain⟨j,hj,rfl⟩:=List.getElem_of_mem hy
  exact ha j hj
 have h1:=nd_len U N (TrOk.of h.chk).nd h.mem
 have h2:=nd_len N U (TrOk.of hc).nd hs
 exact⟨by omega,hs⟩
theorem Sub.up{U:List Int}{V:List Zk}{N:List Int}{T:List Zk}(h:Sub U V N T)(hc:chkTr N T=0):∀ (d:Nat) (y:Int),(y=0∨y∈U)→upD U V d y=upD N T d y
 | 0,_,_=>rfl
 | d+1,y,hy=>by
  rw[upD,upD,←h.all hc hy,h.up hc d _ ((TrOk.of h.chk).up y)]
theorem Sub.wk{U:List Int}{V:List Zk}{N:List Int}{T:List Zk}(h:Sub U V N T)(hc:chkTr N T=0):∀ (P:List Int) (s:Int),(∀ z∈P,z=0∨z∈U)→Zev U V s P=Zev N T s P
 | [],_,_=>rfl
 | y :: P,s,hP=>by
  rw[Zev,Zev,h.all hc (hP y (by simp)),h.wk hc P _ (fun z hz=>hP z (by simp[hz]))]
theorem TrOk.pth_zero{N:List Int}{T:List Zk}(h:TrOk N T):Yt N T 0=[]:=by
 unfold Yt
 rw[U8 h.len h.zero]
 rfl
theorem TrOk.pth_step{N:List Int}{T:List Zk}(h:TrOk N T){x:Int}(hx:x∈N):Yt N T x=Yt N T (fnd x N T).1++[x]:=by
 have e:=h.hgt x hx
 have h0:=(Qg h.heads (fnd x N T).1 N).1
 unfold Yt
 rw[show (fnd x N T).2.1.toNat=(fnd (fnd x N T).1 N T).2.1.toNat+1 by omega]
 rfl
theorem Td(N:List Int)(T:List Zk)(x:Int):(Yt N T x).length=(fnd x N T).2.1.toNat:=Q0 _ _ _ _
theorem TrOk.pth_at{N:List Int}{T:List Zk}(h:TrOk N T):∀ (d:Nat) (x:Int),(x=0∨x∈N)→(fnd x N T).2.1.toNat=d→∀ (i:Nat) (z:Int),(Yt N T x)[i]? = some z→z∈N∧(fnd z N T).2.1=i+1:=by
 intro d
 induction d with
 | zero=>
  intro x _ hd i z hz
  have hl:=Td N T x
  have:=(List.getElem?_eq_some_iff.1 hz).1
  omega
 | succ d ih=>
  intro x hx hd i z hz
  have hxN:x∈N:=by
   rcases hx with rfl|hx
   ·rw[U8 h.len h.zero] at hd
    simp[Ud] at hd
   ·exact hx
  have e:=h.hgt x hxN
  have h0:=(Qg h.heads (fnd x N T).1 N).1
  have hl:=Td N T (fnd x N T).1
  rw[h.pth_step hxN,List.getElem?_append] at hz
  split at hz
  ·exact ih _ (h.par x hxN) (by omega) i z hz
  ·next q=>
   obtain⟨hlt,hz⟩:=List.getElem?_eq_some_iff.1 hz
   simp only[List.length_cons,List.length_nil] at hlt
   have hi:i=(Yt N T (fnd x N T).1).length:=by omega
   have hzx:x=z:=by simpa using hz
   subst hzx
   exact⟨hxN,by omega⟩
theorem TrOk.pth_in{N:List Int}{T:List Zk}(h:TrOk N T){x:Int}(hx:x=0∨x∈N){i:Nat}{z:Int}(hz:(Yt N T x)[i]? = some z):z∈N∧(fnd z N T).2.1=i+1:=h.pth_at _ x hx rfl i z hz
theorem TrOk.pth_nd{N:List Int}{T:List Zk}(h:TrOk N T){x:Int}(hx:x=0∨x∈N):(Yt N T x).Nodup:=by
 rw[List.nodup_iff_pairwise_ne,List.pairwise_iff_getElem]
 intro i j hi hj hij e
 have h1:=(h.pth_in hx (List.getElem?_eq_getElem hi)).2
 have h2:=(h.pth_in hx (List.getElem?_eq_getElem hj)).2
 rw[e] at h1
 omega
theorem TrOk.pth_sub{N:List Int}{T:List Zk}(h:TrOk N T){x:Int}(hx:x=0∨x∈N):∀ z∈Yt N T x,z∈N:=by
 intro z hz
 obtain⟨i,hi,rfl⟩:=List.getElem_of_mem hz
 exact (h.pth_in hx (List.getElem?_eq_getElem hi)).1
def srt(N:List Int):List Int:=N.mergeSort fun x y=>decide (x≤y)
theorem Ca(x:Int):∀ (N:List Int) (k:Nat),x∉N→idxI x N k = -1
 | [],_,_=>rfl
 | a :: N,k,h=>by
  simp only[List.mem_cons,not_or] at h
  simp only[idxI,if_neg h.1]
  exact Ca x N (k+1) h.2
theorem Bn(w:World)(B:Nat)(e:TypeId)(sz:Nat):w.ownsRow B e sz (.slice none 0 0) 0 []:=⟨by simp,.inl ⟨rfl,rfl⟩⟩
theorem Eo(a b:Option Addr)(n c e:Nat)(w:World) :
  Calls Tryz.prog 11 #[.agg #[.slice a n c,.slice b n e],.int .i64 0] w fun r w'=>r = .returned (.tuple #[.slice none 0 0,.bool true])∧Below w.heap.size w w':=by
 have HB:=Zb (Zg w (.cells #[.slice a n c,.slice b n e] 28))
 go_enter Tryz.func11,Tryz.ntmps11
 go_wp2
 go_ret2
 exact⟨rfl,Za HB⟩
theorem Zda(a b:Option Addr)(n c e:Nat)(N:List Int)(x:Int)(w:World)(hn:n≤maxLen)(hN:IntsAt w a n N)(h0:x≠0)(hx:x∉N) :
  Calls Tryz.prog 11 #[.agg #[.slice a n c,.slice b n e],.int .i64 x] w fun r w'=>r = .returned (.tuple #[.slice none 0 0,.bool false])∧Below w.heap.size w w':=by
 obtain⟨X,hX⟩:∃ X,X=w.alloc (.cells #[.slice a n c,.slice b n e] 28):=⟨_,rfl⟩
 have hbX:Below w.heap.size w X:=by rw[hX];exact Zg _ _
 have hX0:X.heap[w.heap.size]? = some (.cells [.slice a n c,.slice b n e].toArray 28 (0,0)):=by rw[hX];exact two_heap _ _ _ _
 have hi:idxI x N 0 = -1:=Ca x N 0 hx
 have C1:=Zb (indexInt_is a n c N x (-1) X hn (hN.later hbX) hi)
 have x0:=Zd hX0 0 _ rfl
 have xl:=lt_of_block hX0
 have HB:=Zb hbX
 have g:(x == 0)=false:=by simp[h0]
 clear hbX hX0 hN hx hi h0
 go_enter Tryz.func11,Tryz.ntmps11
 go_wp2_with fail
 rw[←hX]
 clear hX
 refine (Za C1).mono ?_
 rintro r w1 ⟨rfl,rfl⟩
 go_wp2
 go_ret2
 exact⟨rfl,Za HB⟩
theorem Ep(a b:Option Addr)(n c e:Nat)(N:List Int)(T:List Zk)(x y:Int)(P:List Int)(d:Nat)(w:World)(hn:n≤maxLen)(hN:IntsAt w a n N)(hT:BlksAt w b n T)(hl:N.length=T.length)(h0:x≠0)(hx:x∈N)(hy:(fnd x N T).1=y)(hd:d≤1000)
  (ih:∀ W,Below w.heap.size w W→Calls Tryz.prog 11 #[.agg #[.slice a n c,.slice b n e],.int .i64 y] W fun r w'=>∃ v,r = .returned (.tuple #[v,.bool true])∧w'.ownsRow W.heap.size 3 1 v d (P.map (Value.int .i64))∧Below W.heap.size W w') :
  Calls Tryz.prog 11 #[.agg #[.slice a n c,.slice b n e],.int .i64 x] w fun r w'=>∃ v,r = .returned (.tuple #[v,.bool true])∧w'.ownsRow w.heap.size 3 1 v (d+1) ((P++[x]).map (Value.int .i64))∧Below w.heap.size w w':=by
 obtain⟨i0,hi0,hz0,hz1,hz2⟩:=info_parts Tryz.infoIntC
 obtain⟨X,hX⟩:∃ X,X=w.alloc (.cells #[.slice a n c,.slice b n e] 28):=⟨_,rfl⟩
 have hbX:Below w.heap.size w X:=by rw[hX];exact Zg _ _
 have hX0:X.heap[w.heap.size]? = some (.cells [.slice a n c,.slice b n e].toArray 28 (0,0)):=by rw[hX];exact two_heap _ _ _ _
 rcases idxI_fnd x N T 0 hl with ⟨_,q,_⟩|⟨i,hi,k1,_,k3⟩
 ·exact absurd hx q
 rw[Nat.zero_add] at k1
 have hin:i<n:=by rw[←hT.1];exact hi
 obtain⟨bq,oq,rfl,hbq,hcq⟩:=(hT.later hbX).2 (by omega)
 have cq:=(hcq i hi).1
 rw[←k3,hy] at cq
 have C1:=Zb (indexInt_is a n c N x (i:Nat) X hn (hN.later hbX) k1)
 have IH:=Zb (fun W (hb:Below X.heap.size X W)=>ih W (Ze hbX hb))
 have x0:=Zd hX0 0 _ rfl
 have x1:=Zd hX0 1 _ rfl
 have xl:=lt_of_block hX0
 have HB:=Zb hbX
 have HX0:=Zb hX0
 have g:(x == 0)=false:=by simp[h0]
 have gi:¬(i:Int)<0:=by omega
 have giN:(i:Int)<(n:Int):=by omega
 clear hbX hX0 hN hT hx h0 ih hcq hy k1 k3
 go_enter Tryz.func11,Tryz.ntmps11
 go_wp2_with fail
 rw[←hX]
 clear hX
 refine (Za C1).mono ?_
 rintro r w1 ⟨rfl,rfl⟩
 go_wp2_with fail
 go_region_with (go_at_call 11;refine ((Za IH) _ (Zh _)).mono ?_;rintro r w3 ⟨v,rfl,ho3,hb3⟩;have HO3:=Zb ho3;have HB3:=Zb hb3;clear ho3 hb3)
 all_goals
  obtain⟨av,cv,rfl,sv,-⟩:=ints_of_own (Za HO3)
  have hb6:=Zg w3 (.cells #[.int .i64 x] 3)
  have hb03:=Ze (Ze (Za HB) (Zh _)) (Za HB3)
  have OWN5:=Zb ((Gr.of (S:=fun _=>False) hb6).own (Xv (Za HO3) (Za HB).size) (fun _ _ q=>q))
  have NEWS:=Zb (World.news_of_block (heap_alloc_new w3 (.cells #[.int .i64 x] 3)))
  have HB6:=Zb (Ze hb03 hb6)
  clear hb6 hb03 sv
  go_wp2_with (at_builtin;refine wpList_append_lies _ rfl _ _ 25 rfl w.heap.size 3 i0 (.int .i64 0) 1 8 Tryz.underlying25 hi0 hz0 hz1 hz2 rfl (by decide) _ _ _ rfl (Za OWN5) ⟨w3.heap.size,0,none⟩ 1 1 [.int .i64 x] rfl rfl (Za NEWS) (fun u hu=>by simp at hu;subst hu;rfl) (by decide) (by unfold maxLen;omega) (by omega) (Za HB6).size _ rfl ?_;intro g7 cap7 w7 hown7 hgrow7 hor7 _)
  have OWN7:=Zb hown7
  have HB7:=Zb ((Za HB6).grown hgrow7 (Za HB6).size (fun k hk=>((Za OWN5).lt k hk).1))
  clear hown7 hgrow7 hor7
  go_wp2
  go_ret2
  exact⟨.slice (some ⟨g7,0,none⟩) (d+1) cap7,rfl,Za OWN7,Za HB7⟩
theorem Zgc(a b:Option Addr)(n c e:Nat)(N:List Int)(T:List Zk)(hok:TrOk N T)(hn:n≤maxLen):∀ (d:Nat) (x:Int) (w:World),IntsAt w a n N→BlksAt w b n T→(x=0∨x∈N)→(fnd x N T).2.1.toNat=d →
  Calls Tryz.prog 11 #[.agg #[.slice a n c,.slice b n e],.int .i64 x] w fun r w'=>∃ v,r = .returned (.tuple #[v,.bool true])∧w'.ownsRow w.heap.size 3 1 v d ((Yt N T x).map (Value.int .i64))∧Below w.heap.size w w':=by
 intro d
 induction d with
 | zero=>
  intro x w _ _ hx hd
  have h0:x=0:=by
   rcases hx with h|h
   ·exact h
   ·have:=(hok.heads _ (Zlr hok.len h)).1
    omega
  subst h0
  rw[hok.pth_zero]
  exact (Eo a b n c e w).mono fun r w' ⟨h1,h2⟩=>⟨_,h1,Bn _ _ _ _,h2⟩
 | succ d ih=>
  intro x w hN hT hx hd
  have hxN:x∈N:=by
   rcases hx with rfl|hx
   ·rw[U8 hok.len hok.zero] at hd
    simp[Ud] at hd
   ·exact hx
  have e1:=hok.hgt x hxN
  have h1:=Qg hok.heads (fnd x N T).1 N
  have h2:=Qg hok.heads x N
  rw[hok.pth_step hxN]
  exact Ep a b n c e N T x _ _ d w hn hN hT hok.len (fun q=>hok.zero (q ▸ hxN)) hxN rfl (by omega) (fun W hb=>ih _ W (hN.later hb) (hT.later hb) (hok.par x hxN) (by omega))
theorem rpath_is(a b:Option Addr)(n c e:Nat)(N:List Int)(T:List Zk)(x:Int)(P:List Int)(pn:Nat)(w:World)(hok:TrOk N T)(hn:n≤maxLen)(hN:IntsAt w a n N)(hT:BlksAt w b n T)(hx:x=0∨x∈N)(hP:Yt N T x=P)(hpn:P.length=pn) :
  Calls Tryz.prog 11 #[.agg #[.slice a n c,.slice b n e],.int .i64 x] w fun r w'=>∃ v,r = .returned (.tuple #[v,.bool true])∧w'.ownsRow w.heap.size 3 1 v pn (P.map (Value.int .i64))∧Below w.heap.size w w':=by
 subst hP hpn
 have:=Zgc a b n c e N T hok hn _ x w hN hT hx rfl
 rw[←Td] at this
 exact this
theorem rpath_any(a b:Option Addr)(n c e:Nat)(N:List Int)(T:List Zk)(x:Int)(Q:List Int)(o:Bool)(qn:Nat)(w:World)(hok:TrOk N T)(hn:n≤maxLen)(hN:IntsAt w a n N)(hT:BlksAt w b n T)(hQ:(if x=0∨x∈N then (Yt N T x,true) else (([]:List Int),false))=(Q,o))(hq:Q.length=qn) :
  Calls Tryz.prog 11 #[.agg #[.slice a n c,.slice b n e],.int .i64 x] w fun r w'=>∃ v,r = .returned (.tuple #[v,.bool o])∧w'.ownsRow w.heap.size 3 1 v qn (Q.map (Value.int .i64))∧Below w.heap.size w w':=by
 by_cases h:x=0∨x∈N
 ·rw[if_pos h] at hQ
  obtain⟨h1,rfl⟩:Yt N T x=Q∧true=o:=⟨congrArg Prod.fst hQ,congrArg Prod.snd hQ⟩
  exact rpath_is a b n c e N T x Q qn w hok hn hN hT h h1 hq
 ·rw[if_neg h] at hQ
  obtain⟨rfl,rfl⟩:([]:List Int)=Q∧false=o:=⟨congrArg Prod.fst hQ,congrArg Prod.snd hQ⟩
  obtain rfl:0=qn:=hq
  exact (Zda a b n c e N x w hn hN (fun q=>h (.inl q)) (fun q=>h (.inr q))).mono fun r w' ⟨h1,h2⟩=>⟨_,h1,Bn _ _ _ _,h2⟩
end Go.Proofs.YtpikejjiignchaaGreatDoor.Tr
namespace Go.Proofs.YtpikejjiignchaaGreatDoor
open Go.RowKit
theorem Gr.row{w w1:World}{S:Nat→Prop}(h:Gr w w1 S){g:Nat}(hg:S g∨w.heap.size≤g)(cs:Array Value):Gr w (w1.setRow g cs) S:=
 ⟨h.os,h.tape,h.output,by rw[setRow_size];exact h.size,fun i hi hn=>(setRow_other w1 g i cs (fun e=>by
  subst e
  rcases hg with q|q
  ·exact hn q
  ·omega)).trans (h.block i hi hn)⟩
section
variable {P : Program}
theorem V9{ops:Array Oper}{rest:List Oper}{o:Oper}{a:Act}{w:World}{Q:Exit→Act→World→Prop}(hgd:o.guard=none)(ty:TypeId)(x:Operand)(ho:o.op = .load ty x)
  (g:Nat) (hx:a.eval x = .pointer (some ⟨g,0,none⟩)) (c:Array Value) (t:TypeId) (hg:w.heap[g]? = some (.cells c t (0,0))) (n:Nat) (e:TypeId) (hu:P.underlying ty=some (.array n e)) (hi:(P.info? ty).map (·.size)=some c.size)
  (h:wpList P ops Q rest (a.put o.dst (.agg c)) w):wpList P ops Q (o :: rest) a w:=by
 refine wpList_plain hgd fun K hK=>?_
 unfold Oper.wp execOp
 simp only[ho,hx,Instr.loadAt,Instr.sureAddr,Sem.run_bind,Sem.run_pure,Result.andThen_ok,run_loadVar_row w g t ty c (0,0) _ hg hu rfl hi]
 exact hK _ _ h
theorem Y6{ops:Array Oper}{rest:List Oper}{o:Oper}{a:Act}{w:World}{Q:Exit→Act→World→Prop}(hgd:o.guard=none)(ty:TypeId)(x y:Operand)(ho:o.op = .store ty x y)
  (g:Nat) (hx:a.eval x = .pointer (some ⟨g,0,none⟩)) (c c':Array Value) (hy:a.eval y = .agg c') (t:TypeId) (hg:w.heap[g]? = some (.cells c t (0,0))) (hi:(P.info? ty).map (·.size)=some c'.size) (hs:c.size=c'.size) (h1:c'.all (·.oneCell')=true)
  (h:wpList P ops Q rest (a.put o.dst undef) (w.setRow g c')):wpList P ops Q (o :: rest) a w:=by
 refine wpList_plain hgd fun K hK=>?_
 unfold Oper.wp execOp
 simp only[ho,hx,hy,Instr.storeAt,Instr.sureAddr,Sem.run_bind,Sem.run_pure,Result.andThen_ok,run_storeVar_row w g t ty c c' hg hi hs h1]
 exact hK _ _ h
end
end Go.Proofs.YtpikejjiignchaaGreatDoor
namespace Go.Proofs.YtpikejjiignchaaGreatDoor.Tr
open Go.RowKit
def blockE(N:List Int)(T:List Zk)(s:Int):Zk×Int:=
 if chkTr N T≠0 then (Ud,chkTr N T) else if decide (s∈N)=true then (fnd s N T,0) else (Ud,5)
theorem Zls{N:List Int}{T:List Zk}{s:Int}(hl:N.length=T.length)(h:s∈N):fnd s N T∈T:=by
 rcases idxI_fnd s N T 0 hl with ⟨_,q,_⟩|⟨i,hi,_,_,q⟩
 ·exact absurd h q
 ·rw[q];exact List.getElem_mem hi
def Zis(w w':World)(x:Zk)(y:Int)(e:Ending):Prop:=
 ∃ ta tn tc,e = .returned (.tuple #[.agg #[.int .i64 x.1,.int .i64 x.2.1,.int .i64 x.2.2.1,.int .i64 x.2.2.2.1,.slice ta tn tc],.int .i64 y])∧TxsAt w' ta tn x.2.2.2.2∧SlOk ta tn tc∧Below w.heap.size w w'
theorem Mf{w w':World}{y:Int}(hb:Below w.heap.size w w'):Zis w w' Ud y (.returned (.tuple #[.agg #[.int .i64 0,.int .i64 0,.int .i64 0,.int .i64 0,.slice none 0 0],.int .i64 y])):=
 ⟨none,0,0,rfl,RowsAt.nil _ _,⟨Nat.le_refl _,Nat.zero_le _,fun _=>⟨rfl,rfl⟩⟩,hb⟩
theorem Fy(W:World)(t:Nat)(a b c d e:Value):Gr W (((((W.setCell ⟨t,0,none⟩ a).setCell ⟨t,1,none⟩ b).setCell ⟨t,2,none⟩ c).setCell ⟨t,3,none⟩ d).setCell ⟨t,4,none⟩ e) (fun q=>q=t):=
 (((((Gr.refl W (fun q=>q=t)).one t 0 (.inl rfl) _).one t 1 (.inl rfl) _).one t 2 (.inl rfl) _).one t 3 (.inl rfl) _).one t 4 (.inl rfl) _
theorem block_is(a b:Option Addr)(n c m d:Nat)(N:List Int)(T:List Zk)(s:Int)(x:Zk)(y:Int)(w:World)(hN:IntsAt w a n N)(hT:BlksAt w b m T)(sN:SlOk a n c)(sT:SlOk b m d)(hx:blockE N T s=(x,y)) :
  Calls Tryz.prog 73 #[.agg #[.slice a n c,.slice b m d],.int .i64 s] w fun e w'=>Zis w w' x y e:=by
 obtain⟨X,hX⟩:∃ X,X=(w.alloc (.cells #[.slice a n c,.slice b m d] 28)).alloc (.cells #[.int .i64 0,.int .i64 0,.int .i64 0,.int .i64 0,.slice none 0 0] 68):=⟨_,rfl⟩
 have hbX:Below w.heap.size w X:=by rw[hX];exact Ze (Zg _ _) (Zg _ _)
 have hX0:X.heap[w.heap.size]? = some (.cells [.slice a n c,.slice b m d].toArray 28 (0,0)):=by rw[hX,Below.heap_alloc _ _ _ (by simp)];exact two_heap _ _ _ _
 have hX1:X.heap[w.heap.size+1]? = some (.cells [.int .i64 0,.int .i64 0,.int .i64 0,.int .i64 0,.slice none 0 0].toArray 68 (0,0)):=by
  rw[hX]
  have:=Yd (w.alloc (.cells #[.slice a n c,.slice b m d] 28)) (.int .i64 0) (.int .i64 0) (.int .i64 0) (.int .i64 0) (.slice none 0 0) 68
  rw[show (w.alloc (.cells #[.slice a n c,.slice b m d] 28)).heap.size=w.heap.size+1 by simp] at this
  exact this
 have HB:=Zb hbX
 have HX0:=Zb hX0
 have HX1:=Zb hX1
 obtain⟨z,hz⟩:∃ z,chkTr N T=z:=⟨_,rfl⟩
 have C1:=Zb (Jv a b n c m d N T z X (hN.later hbX) (hT.later hbX) sN sT hz)
 have x0:=Zd hX0 0 _ rfl
 have x1:=Zd hX0 1 _ rfl
 have xl:=lt_of_block hX0
 unfold blockE at hx
 rw[hz] at hx
 by_cases q:z=0
 ·subst q
  rw[if_neg (by simp)] at hx
  obtain⟨hl,h24,hH,hgo⟩:=Qz hz
  obtain rfl:n=m:=by rw[←hN.1,←hT.1,hl]
  have hnm:n≤maxLen:=sN.len
  obtain⟨o,ho⟩:∃ o,decide (s∈N)=o:=⟨_,rfl⟩
  rw[ho] at hx
  have C2:=Zb (fun W (hb:Below X.heap.size X W)=>Fh a b n c n d N s o W hnm (hN.later (Ze hbX hb)) ho)
  cases o with
  | false=>
   rw[if_neg (by simp)] at hx
   obtain⟨rfl,rfl⟩:Ud=x∧5=y:=⟨congrArg Prod.fst hx,congrArg Prod.snd hx⟩
   clear hbX hX0 hX1 hN hT sN sT hz hx hl h24 hH hgo ho hnm
   go_enter Tryz.func73,Tryz.ntmps73
   go_wp2_with fail
   rw[←hX]
   clear hX
   refine (Za C1).mono ?_
   rintro e w1 ⟨rfl,hb1⟩
   have CC:=Zb ((Za C2) _ hb1)
   have hc:=(hb1.block _ (lt_of_block (Za HX0))).trans (Za HX0)
   have hc1:=(hb1.block _ (lt_of_block (Za HX1))).trans (Za HX1)
   have H0:=Zb hc
   have H1:=Zb hc1
   have t0:=Zd hc 0 _ rfl
   have t1:=Zd hc 1 _ rfl
   have tl:=lt_of_block hc
   have HBX1:=Zb hb1
   have HB1:=Zb (Ze (Za HB) hb1)
   clear hb1 x0 x1 xl hc hc1 C1 C2
   go_wp2_with fail
   refine (Za CC).mono ?_
   rintro e w2 ⟨rfl,hb2⟩
   have hd:=(hb2.block _ (lt_of_block (Za H1))).trans (Za H1)
   have z0:=Zd hd 0 _ rfl
   have f0:=Zi hd 0
   have z1:=Zd hd 1 _ rfl
   have f1:=Zi hd 1
   have z2:=Zd hd 2 _ rfl
   have f2:=Zi hd 2
   have z3:=Zd hd 3 _ rfl
   have f3:=Zi hd 3
   have z4:=Zd hd 4 _ rfl
   have f4:=Zi hd 4
   have zl:=lt_of_block hd
   clear hd
   have HBW:=Zb (Ze (Za HB1) hb2)
   clear hb2 t0 t1 tl
   go_wp2
   (try simp only[Exit.inBlock,Exit.then])
   refine bodyPost_ret (v:=.tuple #[.agg #[.int .i64 0,.int .i64 0,.int .i64 0,.int .i64 0,.slice none 0 0],.int .i64 5]) ?_ rfl (Mf ?_)
   ·rw[Zw rfl]
    go_simp
   ·exact (Fy _ _ _ _ _ _ _).below (Za HBW) (by omega) (fun k hk=>by omega)
  | true=>
   rw[if_pos rfl] at hx
   obtain⟨hfx,rfl⟩:fnd s N T=x∧0=y:=⟨congrArg Prod.fst hx,congrArg Prod.snd hx⟩
   have hmem:x∈T:=by rw[←hfx];exact Zls hl (by simpa using ho)
   have hsm:=Rq (To N T [] [] hl hgo x hmem)
   have C3:=Zb (fun W (hb:Below X.heap.size X W)=>Fj a b n c d N T s x W hnm (hN.later (Ze hbX hb)) (hT.later (Ze hbX hb)) hfx)
   have HSM:=Zb hsm
   clear hbX hX0 hX1 hN hT sN sT hz hx hl h24 hH hgo ho hnm hfx hmem hsm
   obtain⟨p,h,k,r,L⟩:=x
   go_enter Tryz.func73,Tryz.ntmps73
   go_wp2_with fail
   rw[←hX]
   clear hX
   refine (Za C1).mono ?_
   rintro e w1 ⟨rfl,hb1⟩
   have CC:=Zb ((Za C2) _ hb1)
   have hc:=(hb1.block _ (lt_of_block (Za HX0))).trans (Za HX0)
   have hc1:=(hb1.block _ (lt_of_block (Za HX1))).trans (Za HX1)
   have H0:=Zb hc
   have H1:=Zb hc1
   have t0:=Zd hc 0 _ rfl
   have t1:=Zd hc 1 _ rfl
   have tl:=lt_of_block hc
   have HBX1:=Zb hb1
   have HB1:=Zb (Ze (Za HB) hb1)
   clear hb1 x0 x1 xl hc hc1 C1 C2
   go_wp2_with fail
   refine (Za CC).mono ?_
   rintro e w2 ⟨rfl,hb2⟩
   have C4:=Zb ((Za C3) _ (Ze (Za HBX1) hb2))
   have hc2:=(hb2.block _ (lt_of_block (Za H0))).trans (Za H0)
   have hd:=(hb2.block _ (lt_of_block (Za H1))).trans (Za H1)
   have HD:=Zb hd
   have u0:=Zd hc2 0 _ rfl
   have u1:=Zd hc2 1 _ rfl
   have ul:=lt_of_block hc2
   have HB2:=Zb (Ze (Za HB1) hb2)
   clear hb2 hc2 hd t0 t1 tl CC C3
   go_wp2_with fail
   refine (Za C4).mono ?_
   rintro e w3 ⟨ta,tn,tc,rfl,hL,sL,hb3⟩
   have hL:TxsAt w2 ta tn L:=hL
   have C5:=Zb (Tm p h k r ta tn tc L w3 (hL.later hb3) sL (by rw[←hL.1];exact (Za HSM).1) (Za HSM).2)
   have hd:=(hb3.block _ (lt_of_block (Za HD))).trans (Za HD)
   have HD3:=Zb hd
   have HB3:=Zb (Ze (Za HB2) hb3)
   have HLT:=Zb hL.1
   clear hb3 hd hL sL u0 u1 ul C4
   unfold Zik
   go_wp2_with fail
   refine (Za C5).mono ?_
   rintro e w4 ⟨a',c',rfl,hf,hb4⟩
   have hd:=(hb4.block _ (lt_of_block (Za HD3))).trans (Za HD3)
   have z0:=Zd hd 0 _ rfl
   have f0:=Zi hd 0
   have z1:=Zd hd 1 _ rfl
   have f1:=Zi hd 1
   have z2:=Zd hd 2 _ rfl
   have f2:=Zi hd 2
   have z3:=Zd hd 3 _ rfl
   have f3:=Zi hd 3
   have z4:=Zd hd 4 _ rfl
   have f4:=Zi hd 4
   have zl:=lt_of_block hd
   clear hd
   have hg:=Fy w4 (w.heap.size+1) (.int .i64 p) (.int .i64 h) (.int .i64 k) (.int .i64 r) (.slice a' tn c')
   have hlw:=lt_of_block (Za HD3)
   have HW:=Zb (hf _ (hg.mono fun q _ e=>by omega))
   have HBW:Hid (Below w.heap.size w (((((w4.setCell ⟨w.heap.size+1,0,none⟩ (.int .i64 p)).setCell ⟨w.heap.size+1,1,none⟩ (.int .i64 h)).setCell ⟨w.heap.size+1,2,none⟩ (.int .i64 k)).setCell ⟨w.heap.size+1,3,none⟩ (.int .i64 r)).setCell ⟨w.heap.size+1,4,none⟩ (.slice a' tn c'))):=hg.below (Ze (Za HB3) hb4) (by omega) (fun k hk=>by omega)
   clear hb4 hf hg hlw C5
   go_wp2
   (try simp only[Exit.inBlock,Exit.then])
   refine bodyPost_ret (v:=.tuple #[.agg #[.int .i64 p,.int .i64 h,.int .i64 k,.int .i64 r,.slice a' tn c'],.int .i64 0]) ?_ rfl ?_
   ·rw[Zw rfl]
    go_simp
   ·obtain⟨a2,n2,c2,e2,f1,f2⟩:=Za HW
    cases e2
    exact⟨_,_,_,rfl,f1,f2,Za HBW⟩
 ·rw[if_pos q] at hx
  obtain⟨rfl,rfl⟩:Ud=x∧z=y:=⟨congrArg Prod.fst hx,congrArg Prod.snd hx⟩
  have g:(z != 0)=true:=by simp[q]
  clear hbX hX0 hX1 hN hT sN sT hz hx q
  go_enter Tryz.func73,Tryz.ntmps73
  go_wp2_with fail
  rw[←hX]
  clear hX
  refine (Za C1).mono ?_
  rintro e w1 ⟨rfl,hb1⟩
  have hd:=(hb1.block _ (lt_of_block (Za HX1))).trans (Za HX1)
  have z0:=Zd hd 0 _ rfl
  have f0:=Zi hd 0
  have z1:=Zd hd 1 _ rfl
  have f1:=Zi hd 1
  have z2:=Zd hd 2 _ rfl
  have f2:=Zi hd 2
  have z3:=Zd hd 3 _ rfl
  have f3:=Zi hd 3
  have z4:=Zd hd 4 _ rfl
  have f4:=Zi hd 4
  have zl:=lt_of_block hd
  clear hd
  have HB1:=Zb (Ze (Za HB) hb1)
  clear hb1 x0 x1 xl C1
  go_wp2
  (try simp only[Exit.inBlock,Exit.then])
  refine bodyPost_ret (v:=.tuple #[.agg #[.int .i64 0,.int .i64 0,.int .i64 0,.int .i64 0,.slice none 0 0],.int .i64 z]) ?_ rfl (Mf ?_)
  ·rw[Zw rfl]
   go_simp
  ·exact (Fy _ _ _ _ _ _ _).below (Za HB1) (by omega) (fun k hk=>by omega)
end Go.Proofs.YtpikejjiignchaaGreatDoor.Tr
