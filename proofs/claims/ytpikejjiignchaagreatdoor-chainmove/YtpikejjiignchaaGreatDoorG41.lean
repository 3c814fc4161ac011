import Derived.Test.YtpikejjiignchaaGreatDoorH
import Derived.Test.YtpikejjiignchaaGreatDoorG40
open Go.Proofs.Tryz
open Classical renaming not_not->cN
open Decidable renaming not_not->cC
open Go renaming maxLen->cD,lt_of_block->aA,bodyPost_ret->aR
open Go.Ending renaming returned->dX
open Go.Exit renaming inBlock->aO
open Go.IntKind renaming i64->J
open Go.Obj renaming cells->dW
open Go.Proofs.Tryz renaming prog->aB
open Go.Value renaming int->bC,int->E,slice->F,tuple->dY,bool->eA
open List renaming length_cons->dQ,nil_append->dL,drop_eq_getElem_cons->aN,length_take->bG,mem_append->cI,mem_singleton->dN,getElem_mem->bK,getElem?_eq_some_iff->cU,getElem?_eq_getElem->aS,replicate->aF,cons_append->cG,append_assoc->cV,getD_eq_getElem?_getD->aZ,getElem?_append_right->cM,length_append->bB
open Nat renaming le_refl->aE,zero_le->aP
set_option maxHeartbeats 6400000
set_option maxRecDepth 10000
namespace Go.Proofs.YtpikejjiignchaaGreatDoor.Tr
open Go.RowKit
def Vz(p h k n:Int):Zj:=(p,h,k,0,[(h,[],[(n,[])])])
theorem simple_is(p h k n:Int)(w:World) :
  Calls aB 38 #[E J p,E J h,E J k,E J n] w λe w'=>∃ a c,e = dX (.agg #[E J p,E J h,E J k,E J 0,F a 1 c])/\TxsAt w' a 1 [(h,[],[(n,[])])]/\SlOk a 1 c/\ZD w w':=by
 obtain⟨X,z⟩:=ZG ((((w.alloc (dW #[E J p,E J h,E J k,E J 0,F (some ⟨w.heap.size+1+1,0,none⟩) 1 1] 68)).alloc (dW #[E J n,F none 0 0] 101)).alloc (dW #[E J h,F none 0 0,F (some ⟨w.heap.size+1,0,none⟩) 1 1] 52)));have af:ZD w X:=by rw[z];exact Ze (Ze (Zg _ _) (Zg _ _)) (Zg _ _)
 have aa:X.heap[w.heap.size+1]? = some (dW [E J n,F none 0 0].toArray 101 (0,0)):=by
  rw[z,Below.heap_alloc _ _ _ (by simp)];have:=two_heap (w.alloc (dW #[E J p,E J h,E J k,E J 0,F (some ⟨w.heap.size+1+1,0,none⟩) 1 1] 68)) (E J n) (F none 0 0) 101;rw[show (w.alloc (dW #[E J p,E J h,E J k,E J 0,F (some ⟨w.heap.size+1+1,0,none⟩) 1 1] 68)).heap.size=w.heap.size+1 by simp] at this;exact this
 have O:X.heap[w.heap.size+1+1]? = some (dW [E J h,F none 0 0,F (some ⟨w.heap.size+1,0,none⟩) 1 1].toArray 52 (0,0)):=by
  rw[z];have:=Zs ((w.alloc (dW #[E J p,E J h,E J k,E J 0,F (some ⟨w.heap.size+1+1,0,none⟩) 1 1] 68)).alloc (dW #[E J n,F none 0 0] 101)) (E J h) (F none 0 0) (F (some ⟨w.heap.size+1,0,none⟩) 1 1) 52;rw[show ((w.alloc (dW #[E J p,E J h,E J k,E J 0,F (some ⟨w.heap.size+1+1,0,none⟩) 1 1] 68)).alloc (dW #[E J n,F none 0 0] 101)).heap.size=w.heap.size+1+1 by simp] at this;exact this
 have ac:∀ q,SlOk (some ⟨q,0,none⟩) 1 1:=λq=>⟨aE _,by unfold cD;omega,λe=>by cases e⟩;have ab:SlOk none 0 0:=⟨aE _,aP _,λ_=>⟨rfl,rfl⟩⟩
 have hO:OutsAt X (some ⟨w.heap.size+1,0,none⟩) 1 [(n,[])]:=⟨rfl,λ_=>⟨w.heap.size+1,0,rfl,aA aa,λi hi=>by
  obtain rfl:i=0:=by simp at hi;exact hi
  exact⟨Zd aa 0 _ rfl,_,_,_,Zd aa 1 _ rfl,⟨rfl,λh=>absurd h (by omega)⟩,ab⟩⟩⟩
 have hT:TxsAt X (some ⟨w.heap.size+1+1,0,none⟩) 1 [(h,[],[(n,[])])]:=⟨rfl,λ_=>⟨w.heap.size+1+1,0,rfl,aA O,λi hi=>by
  obtain rfl:i=0:=by simp at hi;exact hi
  exact⟨Zd O 0 _ rfl,⟨_,_,_,Zd O 1 _ rfl,RowsAt.nil _ _,ab⟩,_,_,_,Zd O 2 _ rfl,hO,ac _⟩⟩⟩
 have HT:=Zb hT;have HB:=Zb af;have SO:=Zb ac;clear hT af ac ab hO aa O;go_enter func38,ntmps38;go_wp2;(try simp only[aO,Exit.then]);refine aR (v:=.agg #[E J p,E J h,E J k,E J 0,F (some ⟨w.heap.size+1+1,0,none⟩) 1 1]) ?_ rfl ⟨_,_,rfl,?_,SO _,?_⟩
 ·rw[Xb rfl];go_simp
 ·rw[<-z];exact Za HT
 ·rw[<-z];exact Za HB
def GrS(w:World)(t:Nat)(N:List Int)(T:List Zj)(n:Nat)(W:World):Prop:=
 ∃ z c1 O c2,W.heap[t]? = some (dW [F z n c1,F O n c2].toArray 28 (0,0))/\IntsAt W z n N/\BlksAt W O n T/\SlOk z n c1/\SlOk O n c2/\ZD w W/\w.heap.size<=t
theorem grS_store{w W w2:World}{t n z:Nat}{N' T' O a2 b1 b2 c1 c2 d1 d2}(hb:ZD w W)(ht:w.heap.size<=t)(an:t<W.heap.size)
  (hx:w2.heap[t]? = some (dW [F b1 n d1,F b2 n d2].toArray 28 (0,0))) (hF:Fresh W.heap.size w2 (λw3=>IntsAt w3 O z N'/\BlksAt w3 a2 z T')) (s1:SlOk O z c1) (s2:SlOk a2 z c2) (af:ZD W w2) :
  GrS w t N' T' z ((w2.setCell ⟨t,0,none⟩ (F O z c1)).setCell ⟨t,1,none⟩ (F a2 z c2)):=by
 have hg:=((Gr.refl w2 (λq=>q=t)).one t 0 (.inl rfl) (F O z c1)).one t 1 (.inl rfl) (F a2 z c2);have h1:=hF _ (hg.mono λq _ e=>by omega);refine⟨O,c1,a2,c2,set_cells (set_cells hx 0 _) 1 _,h1.1,h1.2,s1,s2,hg.below (Ze hb af) (by have:=hb.size;have:=af.size;omega) (λq e=>by omega),ht⟩
theorem Zpq{N:List Int}{T}{x:Int}{b:Zj}{z O}(h:addE N T x b=(z,O,0)):chkTr N T=0/\Xw N T x b=0/\N.length≠24/\z=N++[x]/\O=T++[b]:=by
 unfold addE at h;split at h
 ·next q=>exact absurd (congrArg (·.2.2) h) q
 ·next q=>
  split at h
  ·next q2=>exact absurd (congrArg (·.2.2) h) q2
  ·next q2=>
   split at h
   ·next q3=>have:=congrArg (·.2.2) h;simp at this
   ·next q3=>exact⟨cN.1 q,cN.1 q2,q3,(congrArg (·.1) h).symm,(congrArg (·.2.1) h).symm⟩
theorem nd_len:∀ (U N:List Int),U.Nodup->(∀ x∈U,x∈N)->U.length<=N.length
 | [],_,_,_=>aP _
 | x :: U,N,h,hs=>by
  have O:x∈N:=hs x (by simp);have z:=List.nodup_cons.1 h;have h1:=nd_len U (N.erase x) z.2 (λy hy=>(List.mem_erase_of_ne (λ(e:y=x)=>z.1 (e ▸ hy))).2 (hs y (by simp[hy])));rw[List.length_erase_of_mem O] at h1;have:0<N.length:=List.length_pos_of_mem O;simp only[dQ];omega
theorem Du:∀ (M:List Int) (U:List Zj) (N:List Int) (T:List Zj),M.length=U.length->Wa N T M U=0->∀ i (h:i<M.length) (h':i<U.length),Xw (N++M.take i) (T++U.take i) M[i] U[i]=0
 | [],_,_,_,_,_,_,h,_=>absurd h (by simp)
 | _ :: _,[],_,_,h,_,_,_,_=>by cases h
 | x :: M,b :: U,N,T,hl,hc,0,_,_=>by
  rw[Wa] at hc;split at hc
  ·next q=>exact absurd hc q
  ·next q=>simpa using cN.1 q
 | x :: M,b :: U,N,T,hl,hc,i+1,h,h'=>by
  rw[Wa] at hc;split at hc
  ·next q=>exact absurd hc q
  ·next q=>
   have:=Du M U _ _ (by simpa using hl) hc i (by simpa using h) (by simpa using h');simpa using this
theorem ahead{N:List Int}{T:List Zj}(hc:chkTr N T=0)(i:Nat)(h:i<N.length)(h':i<T.length):fnd N[i] N T=T[i]/\(T[i].1=0\/T[i].1∈N.take i):=by
 obtain⟨hl,_,_,ab⟩:=J9 hc;have h1:=Du N T [] [] hl ab i h h';simp only[dL] at h1;obtain⟨_,_,q3,q4,_⟩:=Ns h1;refine⟨?_,q4⟩;have z:N=N.take i++(N[i] :: N.drop (i+1)):=by rw[<-aN h,List.take_append_drop]
 have O:T=T.take i++(T[i] :: T.drop (i+1)):=by rw[<-aN h',List.take_append_drop]
 have:=J3 (N:=N.take i) (M:=N[i] :: N.drop (i+1)) (T:=T.take i) (U:=T[i] :: T.drop (i+1)) (by rw[bG,bG];omega) q3;rw[<-z,<-O] at this;rw[this];simp[fnd]
structure Sub(U:List Int)(V:List Zj)(N:List Int)(T:List Zj):Prop where
 chk:chkTr U V=0
 mem:∀ y∈U,y∈N
 same:∀ y∈U,fnd y U V=fnd y N T
theorem Sub.nil(N)(T):Sub [] [] N T:=⟨rfl,λ_ h=>(by cases h),λ_ h=>(by cases h)⟩
theorem Sub.all{U V N T}(h:Sub U V N T)(z:chkTr N T=0){y:Int}(O:y=0\/y∈U):fnd y U V=fnd y N T:=by
 by_cases e:y∈U
 ·exact h.same y e
 ·have aa:y=0:=by rcases O with q|q;exact q;exact absurd q e
  subst aa;rw[Jg (TrOk.of h.chk).len e,Jg (TrOk.of z).len (TrOk.of z).zero]
theorem Sub.step{U V}{N:List Int}{T:List Zj}(h:Sub U V N T)(hc:chkTr N T=0){k:Nat}(hk:k<N.length)(af:k<T.length){z V'}(ha:addE U V N[k] T[k]=(z,V',0)):Sub z V' N T/\z=U++[N[k]]:=by
 obtain⟨h1,h2,h3,rfl,rfl⟩:=Zpq ha;have ok:=TrOk.of h1;obtain⟨g1,_,g3,_,_⟩:=Ns h2;refine⟨⟨Zep h1 h2 h3,λy O=>?_,λy O=>?_⟩,rfl⟩
 ·rcases cI.1 O with q|q
  ·exact h.mem y q
  ·rw[dN.1 q];exact bK hk
 ·rcases cI.1 O with q|q
  ·rw[ok.same g1.1 (.inr q)];exact h.same y q
  ·rw[dN.1 q,ok.new g3,(ahead hc k hk af).1]
theorem Sub.full{U:List Int}{V}{N:List Int}{T}(h:Sub U V N T)(hc:chkTr N T=0)(ha:∀ j (z:j<N.length),N[j]∈U):U.length=N.length/\∀ y∈N,y∈U:=by
 have O:∀ y∈N,y∈U:=λy hy=>by
  obtain⟨j,z,rfl⟩:=List.getElem_of_mem hy;exact ha j z
 have h1:=nd_len U N (TrOk.of h.chk).nd h.mem;have h2:=nd_len N U (TrOk.of hc).nd O;exact⟨by omega,O⟩
theorem Sub.up{U V N T}(h:Sub U V N T)(z:chkTr N T=0):∀ (d:Nat) (y:Int),(y=0\/y∈U)->upD U V d y=upD N T d y
 | 0,_,_=>rfl
 | d+1,y,hy=>by
  rw[upD,upD,<-h.all z hy,h.up z d _ ((TrOk.of h.chk).up y)]
theorem Sub.wk{U V N T}(h:Sub U V N T)(O:chkTr N T=0):∀ (P:List Int) (s:Int),(∀ z∈P,z=0\/z∈U)->Zjj U V s P=Zjj N T s P
 | [],_,_=>rfl
 | y :: P,s,hP=>by
  rw[Zjj,Zjj,h.all O (hP y (by simp)),h.wk O P _ (λz hz=>hP z (by simp[hz]))]
theorem TrOk.pth_zero{N T}(h:TrOk N T):Zm N T 0=[]:=by
 unfold Zm;rw[Jg h.len h.zero];rfl
theorem TrOk.pth_step{N T}(h:TrOk N T){x:Int}(z:x∈N):Zm N T x=Zm N T (fnd x N T).1++[x]:=by
 have e:=h.hgt x z;have h0:=(Jn h.heads (fnd x N T).1 N).1;unfold Zm;rw[show (fnd x N T).2.1.toNat=(fnd (fnd x N T).1 N T).2.1.toNat+1 by omega];rfl
theorem pth_length(N T)(x:Int):(Zm N T x).length=(fnd x N T).2.1.toNat:=Rb _ _ _ _
theorem TrOk.pth_at{N T}(h:TrOk N T):∀ (d:Nat) (x:Int),(x=0\/x∈N)->(fnd x N T).2.1.toNat=d->∀ (i:Nat) (ag:Int),(Zm N T x)[i]? = some ag->ag∈N/\(fnd ag N T).2.1=i+1:=by
 intro d
 induction d with
 | zero=>
  intro x _ hd i ag z;have hl:=pth_length N T x;have:=(cU.1 z).1;omega
 | succ d ih=>
  intro x hx hd i ag z
  have aa:x∈N:=by
   rcases hx with rfl|hx
   ·rw[Jg h.len h.zero] at hd;simp[U6] at hd
   ·exact hx
  have e:=h.hgt x aa;have h0:=(Jn h.heads (fnd x N T).1 N).1;have hl:=pth_length N T (fnd x N T).1;rw[h.pth_step aa,List.getElem?_append] at z;split at z
  ·exact ih _ (h.par x aa) (by omega) i ag z
  ·next q=>
   obtain⟨ae,z⟩:=cU.1 z;simp only[dQ,List.length_nil] at ae;have hi:i=(Zm N T (fnd x N T).1).length:=(by omega);have af:x=ag:=(by simpa using z);subst af;exact⟨aa,by omega⟩
theorem TrOk.pth_in{N T}(h:TrOk N T){x:Int}(O:x=0\/x∈N){i:Nat}{z:Int}(hz:(Zm N T x)[i]? = some z):z∈N/\(fnd z N T).2.1=i+1:=h.pth_at _ x O rfl i z hz
theorem TrOk.pth_nd{N T}(h:TrOk N T){x:Int}(z:x=0\/x∈N):(Zm N T x).Nodup:=by
 rw[List.nodup_iff_pairwise_ne,List.pairwise_iff_getElem];intro i j hi O aa e;have h1:=(h.pth_in z (aS hi)).2;have h2:=(h.pth_in z (aS O)).2;rw[e] at h1;omega
theorem TrOk.pth_sub{N T}(h:TrOk N T){x:Int}(O:x=0\/x∈N):∀ z∈Zm N T x,z∈N:=by
 intro z hz;obtain⟨i,hi,rfl⟩:=List.getElem_of_mem hz;exact (h.pth_in O (aS hi)).1
def srt(N:List Int):List Int:=N.mergeSort λx y=>decide (x<=y)
theorem Zbn(x:Int):∀ (N:List Int) (k:Nat),x∉N->idxI x N k = -1
 | [],_,_=>rfl
 | a :: N,k,h=>by
  simp only[List.mem_cons,not_or] at h;simp only[idxI,if_neg h.1];exact Zbn x N (k+1) h.2
theorem Zbb(w:World)(B:Nat)(e:TypeId)(sz:Nat):w.ownsRow B e sz (F none 0 0) 0 []:=⟨by simp,.inl ⟨rfl,rfl⟩⟩
theorem Zde(a b n c e)(w:World) :
  Calls aB 11 #[.agg #[F a n c,F b n e],E J 0] w λr w'=>r = dX (dY #[F none 0 0,eA true])/\ZD w w':=by
 have z:=Zb (Zg w (dW #[F a n c,F b n e] 28));go_enter func11,ntmps11;go_wp2;go_ret2;exact⟨rfl,Za z⟩
theorem Zhf(a b)(n c e:Nat)(N)(x:Int)(w:World)(hn:n<=cD)(hN:IntsAt w a n N)(h0:x≠0)(hx:x∉N) :
  Calls aB 11 #[.agg #[F a n c,F b n e],E J x] w λr w'=>r = dX (dY #[F none 0 0,eA false])/\ZD w w':=by
 obtain⟨X,z⟩:=ZG (w.alloc (dW #[F a n c,F b n e] 28));have aa:ZD w X:=by rw[z];exact Zg _ _
 have O:X.heap[w.heap.size]? = some (dW [F a n c,F b n e].toArray 28 (0,0)):=by rw[z];exact two_heap _ _ _ _
 have hi:idxI x N 0 = -1:=Zbn x N 0 hx;have C1:=Zb (indexInt_is a n c N x (-1) X hn (hN.later aa) hi);have x0:=Zd O 0 _ rfl;have xl:=aA O;have HB:=Zb aa;have g:(x == 0)=false:=by simp[h0]
 clear aa O hN hx hi h0;go_enter func11,ntmps11;go_wp2_with fail;rw[<-z];clear z;refine C1.mono ?_;rintro r w1 ⟨rfl,rfl⟩;go_wp2;go_ret2;exact⟨rfl,Za HB⟩
theorem Zdf(a b)(n c e:Nat)(N:List Int)(T:List Zj)(x y:Int)(P:List Int)(d:Nat)(w:World)(hn:n<=cD)(hN:IntsAt w a n N)(hT:BlksAt w b n T)(hl:N.length=T.length)(h0:x≠0)(hx:x∈N)(hy:(fnd x N T).1=y)(hd:d<=1000)
  (ih:∀ W,ZD w W->Calls aB 11 #[.agg #[F a n c,F b n e],E J y] W λr w'=>∃ v,r = dX (dY #[v,eA true])/\w'.ownsRow W.heap.size 3 1 v d (P.map (bC .i64))/\ZD W w') :
  Calls aB 11 #[.agg #[F a n c,F b n e],E J x] w λr w'=>∃ v,r = dX (dY #[v,eA true])/\w'.ownsRow w.heap.size 3 1 v (d+1) ((P++[x]).map (bC .i64))/\ZD w w':=by
 obtain⟨i0,bg,bn,bo,bq⟩:=info_parts Tryz.infoIntC;obtain⟨X,hX⟩:=ZG (w.alloc (dW #[F a n c,F b n e] 28));have O:ZD w X:=by rw[hX];exact Zg _ _
 have z:X.heap[w.heap.size]? = some (dW [F a n c,F b n e].toArray 28 (0,0)):=by rw[hX];exact two_heap _ _ _ _
 rcases idxI_fnd x N T 0 hl with ⟨_,q,_⟩|⟨i,hi,k1,_,k3⟩
 ·exact absurd hx q
 rw[Nat.zero_add] at k1;have ca:i<n:=by rw[<-hT.1];exact hi
 obtain⟨ci,oq,rfl,bx,al⟩:=(hT.later O).2 (by omega);have cq:=(al i hi).1;rw[<-k3,hy] at cq;have C1:=Zb (indexInt_is a n c N x (i:Nat) X hn (hN.later O) k1);have IH:=Zb (λW (hb:ZD X W)=>ih W (Ze O hb));have x0:=Zd z 0 _ rfl;have x1:=Zd z 1 _ rfl;have xl:=aA z;have HB:=Zb O;have bs:=Zb z;have g:(x == 0)=false:=by simp[h0]
 have gi:¬(i:Int)<0:=by omega
 have bw:(i:Int)<(n:Int):=by omega
 clear O z hN hT hx h0 ih al hy k1 k3;go_enter func11,ntmps11;go_wp2_with fail;rw[<-hX];clear hX;refine C1.mono ?_;rintro r w1 ⟨rfl,rfl⟩;go_wp2_with fail
 go_region_with (go_at_call 11;refine (IH _ (Zh _)).mono ?_;rintro r w3 ⟨v,rfl,an,ak⟩;have ag:=Zb an;have ax:=Zb ak;clear an ak)
 all_goals
  obtain⟨av,cv,rfl,sv,-⟩:=ints_of_own ag;have ad:=Zg w3 (dW #[E J x] 3);have aj:=Ze (Ze HB (Zh _)) ax;have ah:=Zb ((Gr.of (S:=λ_=>False) ad).own (Wh ag HB.size) (λ_ _ q=>q));have ba:=Zb (World.news_of_block (heap_alloc_new w3 (dW #[E J x] 3)));have ab:=Zb (Ze aj ad);clear ad aj sv
  go_wp2_with (at_builtin;refine wpList_append_lies _ rfl _ _ 25 rfl w.heap.size 3 i0 (E J 0) 1 8 underlying25 bg bn bo bq rfl (by decide) _ _ _ rfl ah ⟨w3.heap.size,0,none⟩ 1 1 [E J x] rfl rfl ba (λu hu=>by simp at hu;subst hu;rfl) (by decide) (by unfold cD;omega) (by omega) ab.size _ rfl ?_;intro g7 bc w7 ao am bk _)
  have bb:=Zb ao;have ay:=Zb (ab.grown am ab.size (λk hk=>(ah.lt k hk).1));clear ao am bk;go_wp2;go_ret2;exact⟨F (some ⟨g7,0,none⟩) (d+1) bc,rfl,Za bb,Za ay⟩
theorem Zkq(a b)(n c e:Nat)(N T)(z:TrOk N T)(hn:n<=cD):∀ (d:Nat) (x:Int) (w:World),IntsAt w a n N->BlksAt w b n T->(x=0\/x∈N)->(fnd x N T).2.1.toNat=d ->
  Calls aB 11 #[.agg #[F a n c,F b n e],E J x] w λr w'=>∃ v,r = dX (dY #[v,eA true])/\w'.ownsRow w.heap.size 3 1 v d ((Zm N T x).map (bC .i64))/\ZD w w':=by
 intro d
 induction d with
 | zero=>
  intro x w _ _ O hd
  have h0:x=0:=by
   rcases O with h|h
   ·exact h
   ·have:=(z.heads _ (Zqy z.len h)).1;omega
  subst h0;rw[z.pth_zero];exact (Zde a b n c e w).mono λr w' ⟨h1,h2⟩=>⟨_,h1,Zbb _ _ _ _,h2⟩
 | succ d ih=>
  intro x w hN hT O hd
  have aa:x∈N:=by
   rcases O with rfl|O
   ·rw[Jg z.len z.zero] at hd;simp[U6] at hd
   ·exact O
  have e1:=z.hgt x aa;have h1:=Jn z.heads (fnd x N T).1 N;have h2:=Jn z.heads x N;rw[z.pth_step aa];exact Zdf a b n c e N T x _ _ d w hn hN hT z.len (λq=>z.zero (q ▸ aa)) aa rfl (by omega) (λW hb=>ih _ W (hN.later hb) (hT.later hb) (z.par x aa) (by omega))
theorem rpath_is(a b)(n c e:Nat)(N T)(x:Int)(P:List Int)(z:Nat)(w:World)(ad:TrOk N T)(hn:n<=cD)(O:IntsAt w a n N)(hT:BlksAt w b n T)(hx:x=0\/x∈N)(hP:Zm N T x=P)(ae:P.length=z) :
  Calls aB 11 #[.agg #[F a n c,F b n e],E J x] w λr w'=>∃ v,r = dX (dY #[v,eA true])/\w'.ownsRow w.heap.size 3 1 v z (P.map (bC .i64))/\ZD w w':=by
 subst hP ae;have:=Zkq a b n c e N T ad hn _ x w O hT hx rfl;rw[<-pth_length] at this;exact this
theorem rpath_any(a b)(n c e:Nat)(N T)(x:Int)(Q:List Int)(o:Bool)(O:Nat)(w:World)(ae:TrOk N T)(hn:n<=cD)(hN:IntsAt w a n N)(hT:BlksAt w b n T)(z:(if x=0\/x∈N then (Zm N T x,true) else (([]:List Int),false))=(Q,o))(hq:Q.length=O) :
  Calls aB 11 #[.agg #[F a n c,F b n e],E J x] w λr w'=>∃ v,r = dX (dY #[v,eA o])/\w'.ownsRow w.heap.size 3 1 v O (Q.map (bC .i64))/\ZD w w':=by
 by_cases h:x=0\/x∈N
 ·rw[if_pos h] at z;obtain⟨h1,rfl⟩:Zm N T x=Q/\true=o:=⟨congrArg Prod.fst z,congrArg Prod.snd z⟩;exact rpath_is a b n c e N T x Q O w ae hn hN hT h h1 hq
 ·rw[if_neg h] at z;obtain⟨rfl,rfl⟩:([]:List Int)=Q/\false=o:=⟨congrArg Prod.fst z,congrArg Prod.snd z⟩;obtain rfl:0=O:=hq;exact (Zhf a b n c e N x w hn hN (λq=>h (.inl q)) (λq=>h (.inr q))).mono λr w' ⟨h1,h2⟩=>⟨_,h1,Zbb _ _ _ _,h2⟩
def blockE(N:List Int)(T:List Zj)(s:Int):Zj×Int:=
 if chkTr N T≠0 then (U6,chkTr N T) else if decide (s∈N)=true then (fnd s N T,0) else (U6,5)
theorem Zqz{N:List Int}{T:List Zj}{s:Int}(z:N.length=T.length)(h:s∈N):fnd s N T∈T:=by
 rcases idxI_fnd s N T 0 z with ⟨_,q,_⟩|⟨i,hi,_,_,q⟩
 ·exact absurd h q
 ·rw[q];exact bK hi
def Zno(w w':World)(x:Zj)(y:Int)(e:Ending):Prop:=
 ∃ z O tc,e = dX (dY #[.agg #[E J x.1,E J x.2.1,E J x.2.2.1,E J x.2.2.2.1,F z O tc],E J y])/\TxsAt w' z O x.2.2.2.2/\SlOk z O tc/\ZD w w'
theorem Dz{w w':World}{y:Int}(z:ZD w w'):Zno w w' U6 y (dX (dY #[.agg #[E J 0,E J 0,E J 0,E J 0,F none 0 0],E J y])):=
 ⟨none,0,0,rfl,RowsAt.nil _ _,⟨aE _,aP _,λ_=>⟨rfl,rfl⟩⟩,z⟩
theorem C7(W:World)(t:Nat)(a b c d e):Gr W (((((W.setCell ⟨t,0,none⟩ a).setCell ⟨t,1,none⟩ b).setCell ⟨t,2,none⟩ c).setCell ⟨t,3,none⟩ d).setCell ⟨t,4,none⟩ e) (λq=>q=t):=
 (((((Gr.refl W (λq=>q=t)).one t 0 (.inl rfl) _).one t 1 (.inl rfl) _).one t 2 (.inl rfl) _).one t 3 (.inl rfl) _).one t 4 (.inl rfl) _
theorem block_is(a b n c m d N T)(s:Int)(x:Zj)(y:Int)(w)(hN:IntsAt w a n N)(hT:BlksAt w b m T)(sN:SlOk a n c)(sT:SlOk b m d)(hx:blockE N T s=(x,y)) :
  Calls aB 73 #[.agg #[F a n c,F b m d],E J s] w λe w'=>Zno w w' x y e:=by
 obtain⟨X,hX⟩:=ZG ((w.alloc (dW #[F a n c,F b m d] 28)).alloc (dW #[E J 0,E J 0,E J 0,E J 0,F none 0 0] 68));have ae:ZD w X:=by rw[hX];exact Ze (Zg _ _) (Zg _ _)
 have ag:X.heap[w.heap.size]? = some (dW [F a n c,F b m d].toArray 28 (0,0)):=by rw[hX,Below.heap_alloc _ _ _ (by simp)];exact two_heap _ _ _ _
 have av:X.heap[w.heap.size+1]? = some (dW [E J 0,E J 0,E J 0,E J 0,F none 0 0].toArray 68 (0,0)):=by
  rw[hX];have:=Z8 (w.alloc (dW #[F a n c,F b m d] 28)) (E J 0) (E J 0) (E J 0) (E J 0) (F none 0 0) 68;rw[show (w.alloc (dW #[F a n c,F b m d] 28)).heap.size=w.heap.size+1 by simp] at this;exact this
 have HB:=Zb ae;have cb:=Zb ag;have bg:=Zb av;obtain⟨dp,hz⟩:=ZF (chkTr N T);have C1:=Zb (Ta a b n c m d N T dp X (hN.later ae) (hT.later ae) sN sT hz);have x0:=Zd ag 0 _ rfl;have x1:=Zd ag 1 _ rfl;have xl:=aA ag;unfold blockE at hx;rw[hz] at hx;by_cases q:dp=0
 ·subst q;rw[if_neg (by simp)] at hx;obtain⟨hl,h24,hH,bn⟩:=J9 hz;obtain rfl:n=m:=by rw[<-hN.1,<-hT.1,hl]
  have az:n<=cD:=sN.len;obtain⟨o,ho⟩:=ZF (decide (s∈N));rw[ho] at hx;have C2:=Zb (λW (hb:ZD X W)=>Ci a b n c n d N s o W az (hN.later (Ze ae hb)) ho);cases o with
  | false=>
   rw[if_neg (by simp)] at hx;obtain⟨rfl,rfl⟩:U6=x/\5=y:=⟨congrArg Prod.fst hx,congrArg Prod.snd hx⟩;clear ae ag av hN hT sN sT hz hx hl h24 hH bn ho az;go_enter func73,ntmps73;go_wp2_with fail;rw[<-hX];clear hX;refine C1.mono ?_;rintro e w1 ⟨rfl,O⟩;have CC:=Zb (C2 _ O);have hc:=ZE O cb;have al:=ZE O bg;have H0:=Zb hc;have H1:=Zb al;have t0:=Zd hc 0 _ rfl;have t1:=Zd hc 1 _ rfl;have tl:=aA hc;have bx:=Zb O;have ak:=Zb (Ze HB O);clear O x0 x1 xl hc al;go_wp2_with fail;refine CC.mono ?_;rintro e w2 ⟨rfl,ad⟩;have z:=ZE ad H1;have z0:=Zd z 0 _ rfl;have f0:=Zi z 0;have z1:=Zd z 1 _ rfl;have f1:=Zi z 1;have z2:=Zd z 2 _ rfl;have f2:=Zi z 2;have z3:=Zd z 3 _ rfl;have f3:=Zi z 3;have z4:=Zd z 4 _ rfl;have f4:=Zi z 4;have zl:=aA z;clear z;have bf:=Zb (Ze ak ad);clear ad t0 t1 tl;go_wp2;(try simp only[aO,Exit.then]);refine aR (v:=dY #[.agg #[E J 0,E J 0,E J 0,E J 0,F none 0 0],E J 5]) ?_ rfl (Dz ?_)
   ·rw[Yb rfl];go_simp
   ·exact (C7 _ _ _ _ _ _ _).below bf (by omega) (λk hk=>by omega)
  | true=>
   rw[if_pos rfl] at hx;obtain⟨bj,rfl⟩:fnd s N T=x/\0=y:=⟨congrArg Prod.fst hx,congrArg Prod.snd hx⟩;have ci:x∈T:=(by rw[<-bj];exact Zqz hl (by simpa using ho));have cj:=Sg (Pv N T [] [] hl bn x ci);have C3:=Zb (λW (hb:ZD X W)=>Cm a b n c d N T s x W az (hN.later (Ze ae hb)) (hT.later (Ze ae hb)) bj);have ca:=Zb cj;clear ae ag av hN hT sN sT hz hx hl h24 hH bn ho az bj ci cj;obtain⟨p,h,k,r,L⟩:=x;go_enter func73,ntmps73;go_wp2_with fail;rw[<-hX];clear hX;refine C1.mono ?_;rintro e w1 ⟨rfl,O⟩;have CC:=Zb (C2 _ O);have hc:=ZE O cb;have al:=ZE O bg;have H0:=Zb hc;have H1:=Zb al;have t0:=Zd hc 0 _ rfl;have t1:=Zd hc 1 _ rfl;have tl:=aA hc;have bx:=Zb O;have ak:=Zb (Ze HB O);clear O x0 x1 xl hc al;go_wp2_with fail;refine CC.mono ?_;rintro e w2 ⟨rfl,ad⟩;have C4:=Zb (C3 _ (Ze bx ad));have ay:=ZE ad H0;have z:=ZE ad H1;have HD:=Zb z;have u0:=Zd ay 0 _ rfl;have u1:=Zd ay 1 _ rfl;have ul:=aA ay;have db:=Zb (Ze ak ad);clear ad ay z t0 t1 tl;go_wp2_with fail;refine C4.mono ?_;rintro e w3 ⟨ta,tn,tc,rfl,hL,sL,ax⟩;have hL:TxsAt w2 ta tn L:=hL;have C5:=Zb (Pr p h k r ta tn tc L w3 (hL.later ax) sL (by rw[<-hL.1];exact ca.1) ca.2);have z:=ZE ax HD;have bz:=Zb z;have dc:=Zb (Ze db ax);have dj:=Zb hL.1;clear ax z hL sL u0 u1 ul;unfold Zne;go_wp2_with fail;refine C5.mono ?_;rintro e w4 ⟨a',c',rfl,hf,bi⟩;have z:=ZE bi bz;have z0:=Zd z 0 _ rfl;have f0:=Zi z 0;have z1:=Zd z 1 _ rfl;have f1:=Zi z 1;have z2:=Zd z 2 _ rfl;have f2:=Zi z 2;have z3:=Zd z 3 _ rfl
   have f3:=Zi z 3;have z4:=Zd z 4 _ rfl;have f4:=Zi z 4;have zl:=aA z;clear z;have hg:=C7 w4 (w.heap.size+1) (E J p) (E J h) (E J k) (E J r) (F a' tn c');have dg:=aA bz;have HW:=Zb (hf _ (hg.mono λq _ e=>by omega));have bf:Hid (ZD w (((((w4.setCell ⟨w.heap.size+1,0,none⟩ (E J p)).setCell ⟨w.heap.size+1,1,none⟩ (E J h)).setCell ⟨w.heap.size+1,2,none⟩ (E J k)).setCell ⟨w.heap.size+1,3,none⟩ (E J r)).setCell ⟨w.heap.size+1,4,none⟩ (F a' tn c'))):=hg.below (Ze dc bi) (by omega) (λk hk=>by omega);clear bi hf hg dg;go_wp2;(try simp only[aO,Exit.then]);refine aR (v:=dY #[.agg #[E J p,E J h,E J k,E J r,F a' tn c'],E J 0]) ?_ rfl ?_
   ·rw[Yb rfl];go_simp
   ·obtain⟨a2,n2,c2,e2,f1,f2⟩:=Za HW;cases e2;exact⟨_,_,_,rfl,f1,f2,Za bf⟩
 ·rw[if_pos q] at hx;obtain⟨rfl,rfl⟩:U6=x/\dp=y:=⟨congrArg Prod.fst hx,congrArg Prod.snd hx⟩;have g:(dp != 0)=true:=by simp[q]
  clear ae ag av hN hT sN sT hz hx q;go_enter func73,ntmps73;go_wp2_with fail;rw[<-hX];clear hX;refine C1.mono ?_;rintro e w1 ⟨rfl,O⟩;have z:=ZE O bg;have z0:=Zd z 0 _ rfl;have f0:=Zi z 0;have z1:=Zd z 1 _ rfl;have f1:=Zi z 1;have z2:=Zd z 2 _ rfl;have f2:=Zi z 2;have z3:=Zd z 3 _ rfl;have f3:=Zi z 3;have z4:=Zd z 4 _ rfl;have f4:=Zi z 4;have zl:=aA z;clear z;have ak:=Zb (Ze HB O);clear O x0 x1 xl;go_wp2;(try simp only[aO,Exit.then]);refine aR (v:=dY #[.agg #[E J 0,E J 0,E J 0,E J 0,F none 0 0],E J dp]) ?_ rfl (Dz ?_)
  ·rw[Yb rfl];go_simp
  ·exact (C7 _ _ _ _ _ _ _).below ak (by omega) (λk hk=>by omega)
end Tr
open Tr (fnd chkTr Zm pathE blockE TrOk)
def Yt(K:List ByteArray)(N:List Int)(T:List Zj):List Int->List Zf->Int×List Zf×List (List (List Zf))
 | [],C=>(0,C,[])
 | x :: R,C=>if (Ym K C (fnd x N T)).1≠0 then ((Ym K C (fnd x N T)).1,[],[]) else
   if (Yt K N T R (Ym K C (fnd x N T)).2.1).1≠0 then ((Yt K N T R (Ym K C (fnd x N T)).2.1).1,[],[]) else
   (0,(Yt K N T R (Ym K C (fnd x N T)).2.1).2.1,(Ym K C (fnd x N T)).2.2 :: (Yt K N T R (Ym K C (fnd x N T)).2.1).2.2)
theorem Jy{K N T}{x:Int}{R C M U}(h:Yt K N T (x :: R) C=(0,M,U)) :
  ∃ C' S V,Ym K C (fnd x N T)=(0,C',S)/\Yt K N T R C'=(0,M,V)/\U=S :: V:=by
 rw[Yt] at h;split at h
 ·rename_i q;injection h with h _;exact absurd h q
 rename_i q;split at h
 ·rename_i q;injection h with h _;exact absurd h q
 rename_i z;injection h with h1 h2;injection h2 with h2 h3;refine⟨_,_,_,Prod.ext (cC.1 q) rfl,Prod.ext (cC.1 z) (Prod.ext h2 rfl),h3.symm⟩
theorem Zfh{K N T}{x:Int}{R C C' M S V}(h1:Ym K C (fnd x N T)=(0,C',S))(h2:Yt K N T R C'=(0,M,V)):Yt K N T (x :: R) C=(0,M,S :: V):=by
 rw[Yt,h1,if_neg (λq=>q rfl),h2,if_neg (λq=>q rfl)]
theorem Gc{K N}{T}:∀ (P Q:List Int) (C M:List Zf) (U:List (List (List Zf))),Yt K N T (P++Q) C=(0,M,U)->∃ C' V W,Yt K N T P C=(0,C',V)/\Yt K N T Q C'=(0,M,W)/\U=V++W
 | [],_,C,_,U,h=>⟨C,[],U,rfl,h,rfl⟩
 | x :: P,Q,C,M,U,h=>by
  obtain⟨z,S,O,h1,h2,rfl⟩:=Jy (R:=P++Q) h;obtain⟨C',V,W,h3,h4,rfl⟩:=Gc P Q z M O h2;exact⟨C',S :: V,W,Zfh h1 h3,h4,rfl⟩
theorem Hg{K N}{T}:∀ (P Q:List Int) (C C' M:List Zf) (V W:List (List (List Zf))),Yt K N T P C=(0,C',V)->Yt K N T Q C'=(0,M,W)->Yt K N T (P++Q) C=(0,M,V++W)
 | [],_,C,C',_,V,_,h,h2=>by
  injection h with _ h;injection h with h3 h4;subst h3 h4;exact h2
 | x :: P,Q,C,C',M,V,W,h,h2=>by
  obtain⟨z,S,O,h1,h3,rfl⟩:=Jy h;exact Zfh h1 (Hg P Q z C' M O W h3 h2)
theorem Tf{K N}{T}:∀ (P:List Int) (C M:List Zf) (U:List (List (List Zf))),Yt K N T P C=(0,M,U)->U.length=P.length
 | [],_,_,_,h=>by injection h with _ h;injection h with _ h;subst h;rfl
 | x :: P,C,M,U,h=>by
  obtain⟨z,S,O,h1,h3,rfl⟩:=Jy h;simp[Tf P _ _ _ h3]
def Ue(K:List ByteArray)(N:List Int)(T:List Zj):List Int->List Zf->List (List (List Zf))->Int×List Zf×List (List (List Zf))
 | [],C,U=>(0,C,U)
 | x :: R,C,U=>if x=0 then Ue K N T R C (U++[[]]) else
   if (blockE N T x).2≠0 then ((blockE N T x).2,[],[]) else
   if (Ym K C (blockE N T x).1).1≠0 then ((Ym K C (blockE N T x).1).1,[],[]) else
   Ue K N T R (Ym K C (blockE N T x).1).2.1 (U++[(Ym K C (blockE N T x).1).2.2])
theorem Dy{N T}{x:Int}(z:chkTr N T=0)(O:x∈N):blockE N T x=(fnd x N T,0):=by
 unfold Tr.blockE;rw[if_neg (λq=>q z),if_pos (by simpa using O)]
theorem J7(K N)(T):∀ (z:Nat) (R:List Int) (C:List Zf) (U:List (List (List Zf))),Ue K N T (aF z 0++R) C U=Ue K N T R C (U++aF z [])
 | 0,R,C,U=>by simp
 | z+1,R,C,U=>by
  rw[List.replicate_succ,cG,Ue,if_pos rfl,J7 K N T z,List.replicate_succ,cV];rfl
theorem G2{K N T}(O:chkTr N T=0):∀ (P R:List Int) (C:List Zf) (U:List (List (List Zf))),(∀ x∈P,x∈N) ->
  Ue K N T (P++R) C U=if (Yt K N T P C).1≠0 then ((Yt K N T P C).1,[],[]) else Ue K N T R (Yt K N T P C).2.1 (U++(Yt K N T P C).2.2)
 | [],R,C,U,_=>by simp[Yt]
 | x :: P,R,C,U,h=>by
  have hx:=h x (by simp);have h0:x≠0:=λq=>(TrOk.of O).zero (q ▸ hx);rw[cG,Ue,if_neg h0,Dy O hx,if_neg (λq=>q rfl)];by_cases q:(Ym K C (fnd x N T)).1=0
  ·rw[if_neg (λr=>r q),G2 O P R _ _ (λy hy=>h y (by simp[hy]))];by_cases z:(Yt K N T P (Ym K C (fnd x N T)).2.1).1=0
   ·have e:Yt K N T (x :: P) C=(0,(Yt K N T P (Ym K C (fnd x N T)).2.1).2.1,(Ym K C (fnd x N T)).2.2 :: (Yt K N T P (Ym K C (fnd x N T)).2.1).2.2):=(by rw[Yt,if_neg (λr=>r q),if_neg (λr=>r z)]);rw[if_neg (λr=>r z),e,if_neg (λr=>r rfl),cV];rfl
   ·have e:Yt K N T (x :: P) C=((Yt K N T P (Ym K C (fnd x N T)).2.1).1,[],[]):=(by rw[Yt,if_neg (λr=>r q),if_pos z]);rw[if_pos z,e,if_pos z]
  ·have e:Yt K N T (x :: P) C=((Ym K C (fnd x N T)).1,[],[]):=(by rw[Yt,if_pos q]);rw[if_pos q,e,if_pos q]
def Yx(P:List Int):List Int:=P++aF (24 - P.length) 0
def Q4(K:List ByteArray)(N:List Int)(T:List Zj)(s:Int):Int×List Zf:=
 if Bk.bkChk K≠0 then (Bk.bkChk K,[]) else if (pathE N T s).2≠0 then ((pathE N T s).2,[]) else ((Ue K N T (Yx (pathE N T s).1) [] []).1,(Ue K N T (Yx (pathE N T s).1) [] []).2.1)
theorem Cx{K N T}(z:chkTr N T=0)(P:List Int)(C)(h:∀ x∈P,x∈N) :
  Ue K N T (Yx P) C []=if (Yt K N T P C).1≠0 then ((Yt K N T P C).1,[],[]) else (0,(Yt K N T P C).2.1,(Yt K N T P C).2.2++aF (24 - P.length) []):=by
 unfold Yx;rw[G2 z P _ C [] h];have:=J7 K N T (24 - P.length) [] (Yt K N T P C).2.1 ([]++(Yt K N T P C).2.2);rw[List.append_nil] at this;rw[this];rfl
theorem Zcb{K N T}{s:Int}{A}(h:Q4 K N T s=(0,A)):Bk.bkChk K=0/\chkTr N T=0/\(s=0\/s∈N)/\∃ U,Yt K N T (Zm N T s) []=(0,A,U):=by
 unfold Q4 at h;split at h
 ·rename_i q;injection h with h _;exact absurd h q
 rename_i q1;split at h
 ·rename_i q;injection h with h _;exact absurd h q
 rename_i q2;obtain⟨z,O,hp⟩:=Tr.pathE_ok (cC.1 q2);refine⟨cC.1 q1,z,O,?_⟩;rw[hp,Cx z _ _ ((TrOk.of z).pth_sub O)] at h;split at h
 ·rename_i q;injection h with h _;exact absurd h q
 rename_i q3;injection h with _ h;exact⟨_,Prod.ext (cC.1 q3) (Prod.ext h rfl)⟩
theorem Sb{N T}{s:Int}(z:chkTr N T=0)(O:s=0\/s∈N):pathE N T s=(Zm N T s,0):=by
 unfold Tr.pathE;rw[if_neg (λq=>q z),if_neg];rintro ⟨h1,h2⟩
 rcases O with h|h
 ·exact h1 h
 ·simp[h] at h2
theorem Zmu{K N T}{s:Int}{A U}(hk:Bk.bkChk K=0)(z:chkTr N T=0)(O:s=0\/s∈N)(h:Yt K N T (Zm N T s) []=(0,A,U)):Q4 K N T s=(0,A):=by
 unfold Q4;rw[if_neg (λq=>q hk),Sb z O,if_neg (λq=>q rfl),Cx z _ _ ((TrOk.of z).pth_sub O),h,if_neg (λq=>q rfl)]
def X3(A B:List Int):List Int:=List.zipWith (λx y=>if x=y then 0 else x) A B
def Po(K:List ByteArray)(N:List Int)(T:List Zj)(L:List Int)(U:List (List (List Zf))):Nat->List Zf->Int×List Zf
 | 0,C=>(0,C)
 | k+1,C=>if L.getD k 0=0 then Po K N T L U k C else
   if (blockE N T (L.getD k 0)).2≠0 then ((blockE N T (L.getD k 0)).2,[]) else
   if (Q0 K C (blockE N T (L.getD k 0)).1 (U.getD k [])).1≠0 then ((Q0 K C (blockE N T (L.getD k 0)).1 (U.getD k [])).1,[]) else Po K N T L U k (Q0 K C (blockE N T (L.getD k 0)).1 (U.getD k [])).2
def J6(K:List ByteArray)(N:List Int)(T:List Zj)(C:List Zf)(W L:List Int):Int×List Zf:=
 if L=aF 24 0 then (0,C) else if (Ue K N T W [] []).1≠0 then ((Ue K N T W [] []).1,[]) else Po K N T L (Ue K N T W [] []).2.2 24 C
def Vt(K:List ByteArray)(N:List Int)(T:List Zj)(C:List Zf)(s t:Int):Int×List Zf:=
 if Bk.bkChk K≠0 then (Bk.bkChk K,[]) else if (pathE N T s).2≠0 then ((pathE N T s).2,[]) else if (pathE N T t).2≠0 then ((pathE N T t).2,[]) else
 if (J6 K N T C (Yx (pathE N T s).1) (X3 (Yx (pathE N T s).1) (Yx (pathE N T t).1))).1≠0 then ((J6 K N T C (Yx (pathE N T s).1) (X3 (Yx (pathE N T s).1) (Yx (pathE N T t).1))).1,[]) else
 ((Ue K N T (X3 (Yx (pathE N T t).1) (Yx (pathE N T s).1)) (J6 K N T C (Yx (pathE N T s).1) (X3 (Yx (pathE N T s).1) (Yx (pathE N T t).1))).2 []).1,
  (Ue K N T (X3 (Yx (pathE N T t).1) (Yx (pathE N T s).1)) (J6 K N T C (Yx (pathE N T s).1) (X3 (Yx (pathE N T s).1) (Yx (pathE N T t).1))).2 []).2.1)
theorem M8{N T}{s:Int}(z:chkTr N T=0)(O:s=0\/s∈N):(Zm N T s).length<=24:=by
 have h:=TrOk.of z;have h1:=Tr.nd_len (Zm N T s) N (h.pth_nd O) (h.pth_sub O)
 have h2:N.length<=24:=by
  unfold Tr.chkTr at z;split at z
  ·cases z
  split at z
  ·cases z
  omega
 omega
theorem Zps{P Q}(z:Tr.Coh P Q):∃ X A B,P=X++A/\Q=X++B/\∀ i,i<A.length->i<B.length->A.getD i 0≠B.getD i 0:=by
 have O:∀ (P Q X:List Int),Tr.Coh (X++P) (X++Q)->∃ Y A B,P=Y++A/\Q=Y++B/\∀ i,i<A.length->i<B.length->A.getD i 0≠B.getD i 0:=by
  intro P
  induction P with
  | nil=>intro Q X _;exact⟨[],[],Q,rfl,rfl,λi h=>absurd h (by simp)⟩
  | cons x P ih=>
   intro Q X z;cases Q with
   | nil=>exact⟨[],x :: P,[],rfl,rfl,λi _ h=>absurd h (by simp)⟩
   | cons y Q=>
    by_cases e:x=y
    ·subst e;obtain⟨Y,A,B,h1,h2,h3⟩:=ih Q (X++[x]) (by simpa using z);exact⟨x :: Y,A,B,by rw[h1];rfl,by rw[h2];rfl,h3⟩
    ·refine⟨[],x :: P,y :: Q,rfl,rfl,λi h1 h2 q=>?_⟩
     have:=z (X.length+i) (by simp at h1 ⊢;omega) (by simp at h2 ⊢;omega) (by
      simp only[aZ] at q ⊢;rw[cM (by omega),cM (by omega),Nat.add_sub_cancel_left];exact q)
     have h4:=congrArg (λl:List Int=>l[X.length]?) this;rw[List.getElem?_take_of_lt (by omega),List.getElem?_take_of_lt (by omega),cM (by omega),cM (by omega)] at h4;simp at h4;exact e h4
 exact O P Q [] z
theorem Ee{α : Type}(f : α -> α -> α):∀ (X A B:List α),List.zipWith f (X++A) (X++B)=List.zipWith f X X++List.zipWith f A B
 | [],_,_=>by simp
 | x :: X,A,B=>by simp[Ee f X A B]
theorem Nm:∀ (X:List Int),X3 X X=aF X.length 0
 | []=>rfl
 | x :: X=>by
  have:=Nm X;unfold X3 at this ⊢;rw[List.zipWith_cons_cons,this,if_pos rfl];rfl
theorem Gl:∀ (A B:List Int) (z:Nat),(∀ i,i<A.length->i<B.length->A.getD i 0≠B.getD i 0)->(∀ x∈A,x≠0)->A.length<=z->B.length<=z ->
  X3 (A++aF (z - A.length) 0) (B++aF (z - B.length) 0)=A++aF (z - A.length) 0
 | [],[],z,_,_,_,_=>by
  have:=Nm (aF z 0);simpa using this
 | [],b :: B,z,_,_,_,h2=>by
  obtain⟨z,rfl⟩:∃ y,z=y+1:=⟨z - 1,by simp at h2;omega⟩;have:=Gl [] B z (λi h=>absurd h (by simp)) (λx h=>by cases h) (by simp) (by simpa using h2);unfold X3 at this ⊢;simp only[dL,List.length_nil,Nat.sub_zero,dQ,Nat.add_sub_add_right,cG,List.replicate_succ,List.zipWith_cons_cons] at this ⊢;rw[this];simp
 | a :: A,[],z,_,h0,h1,_=>by
  obtain⟨z,rfl⟩:∃ y,z=y+1:=⟨z - 1,by simp at h1;omega⟩;have:=Gl A [] z (λi _ h=>absurd h (by simp)) (λx h=>h0 x (by simp[h])) (by simpa using h1) (by simp);have O:=h0 a (by simp);unfold X3 at this ⊢;simp only[dL,List.length_nil,Nat.sub_zero,dQ,Nat.add_sub_add_right,cG,List.replicate_succ,List.zipWith_cons_cons] at this ⊢;rw[this,if_neg O]
 | a :: A,b :: B,z,hd,h0,h1,h2=>by
  obtain⟨z,rfl⟩:∃ y,z=y+1:=⟨z - 1,by simp at h1;omega⟩;have:=Gl A B z (λi q r=>hd (i+1) (by simpa using q) (by simpa using r)) (λx h=>h0 x (by simp[h])) (by simpa using h1) (by simpa using h2);have O:a≠b:=hd 0 (by simp) (by simp);unfold X3 at this ⊢;simp only[dQ,Nat.add_sub_add_right,cG,List.zipWith_cons_cons] at this ⊢;rw[this,if_neg O]
theorem L9{X A B:List Int}(hd:∀ i,i<A.length->i<B.length->A.getD i 0≠B.getD i 0)(h0:∀ x∈A,x≠0)(h1:(X++A).length<=24)(h2:(X++B).length<=24) :
  X3 (Yx (X++A)) (Yx (X++B))=aF X.length 0++(A++aF (24 - (X++A).length) 0):=by
 unfold Yx;rw[cV,cV];have e1:=Ee (λx y:Int=>if x=y then 0 else x) X (A++aF (24 - (X++A).length) 0) (B++aF (24 - (X++B).length) 0);unfold X3;rw[e1];have z:=Nm X;unfold X3 at z;rw[z];have O:=Gl A B (24 - X.length) hd h0 (by simp at h1;omega) (by simp at h2;omega);unfold X3 at O;rw[bB,bB,Nat.sub_add_eq,Nat.sub_add_eq];rw[O]
theorem Gv{K N T}{L:List Int}{U}{lo:Nat}(C):∀ (k:Nat),(∀ i,lo<=i->i<lo+k->L.getD i 0=0)->Po K N T L U (lo+k) C=Po K N T L U lo C
 | 0,_=>rfl
 | k+1,h=>by
  rw[<-Nat.add_assoc,Po,if_pos (h (lo+k) (by omega) (by omega)),Gv C k (λi h1 h2=>h i h1 (by omega))]
theorem Zgh{K N T}{L:List Int}{U:List (List (List Zf))}(hc:chkTr N T=0):∀ (A:List Int) (lo:Nat) (C M:List Zf) (V:List (List (List Zf))),(∀ x∈A,x∈N)->Yt K N T A C=(0,M,V) ->
  (∀ i,i<A.length->L.getD (lo+i) 0=A.getD i 0/\U.getD (lo+i) []=V.getD i [])->Po K N T L U (lo+A.length) M=Po K N T L U lo C
 | [],lo,C,M,V,_,h,_=>by
  injection h with _ h;injection h with h _;rw[h];rfl
 | x :: A,lo,C,M,V,hA,h,hL=>by
  obtain⟨C',S,V',h1,h2,rfl⟩:=Jy h;have hx:=hA x (by simp);have h0:x≠0:=λq=>(TrOk.of hc).zero (q ▸ hx)
  have e:=Zgh hc A (lo+1) C' M V' (λy hy=>hA y (by simp[hy])) h2 (λi hi=>by
   have:=hL (i+1) (by simpa using hi);rw[show lo+1+i=lo+(i+1) by omega];simpa using this)
  rw[dQ,show lo+(A.length+1)=lo+1+A.length by omega,e,Po];obtain⟨z,O⟩:=hL 0 (by simp);have z:L.getD lo 0=x:=z;have O:U.getD lo []=S:=O;rw[z,O,if_neg h0,Dy hc hx,if_neg (λq=>q rfl),(Zpg h1).2.2.2.2.1,if_neg (λq=>q rfl)]
theorem Vn{α : Type}(X Y:List α)(i:Nat)(d : α):(X++Y).getD (X.length+i) d=Y.getD i d:=by
 simp only[aZ];rw[cM (by omega),Nat.add_sub_cancel_left]
theorem Wz{α : Type}(X Y:List α)(i:Nat)(d : α)(h:i<X.length):(X++Y).getD i d=X.getD i d:=by
 simp only[aZ];rw[List.getElem?_append_left h]
theorem Tm{α : Type}(n i:Nat)(d : α):(aF n d).getD i d=d:=by
 simp only[aZ]
 rcases Nat.lt_or_ge i n with h|h
 ·rw[List.getElem?_replicate,if_pos h];rfl
 ·rw[List.getElem?_eq_none (by simpa using h)];rfl
theorem Zds{K N T}{s t:Int}{X A B:List Int}{C M U V}(hk:Bk.bkChk K=0)(O:chkTr N T=0)(hs:s=0\/s∈N)(ht:t=0\/t∈N)
  (hP:Zm N T s=X++A) (hQ:Zm N T t=X++B) (hd:∀ i,i<A.length->i<B.length->A.getD i 0≠B.getD i 0) (h1:Yt K N T X []=(0,C,U)) (h2:Yt K N T A C=(0,M,V)) :
  Vt K N T M s t=((Yt K N T B C).1,if (Yt K N T B C).1≠0 then [] else (Yt K N T B C).2.1):=by
 have hT:=TrOk.of O;have sP:=hT.pth_sub hs;have sQ:=hT.pth_sub ht;have l1:=M8 O hs;have l2:=M8 O ht;rw[hP] at sP l1;rw[hQ] at sQ l2;have nA:∀ x∈A,x≠0:=λx z q=>hT.zero (q ▸ sP x (by simp[z]));have nB:∀ x∈B,x≠0:=λx z q=>hT.zero (q ▸ sQ x (by simp[z]));have o1:=L9 hd nA l1 l2;have o2:=L9 (λi q r e=>hd i r q e.symm) nB l2 l1;have ar:=Hg X A [] C M U V h1 h2;have am:=Cx (K:=K) O (X++A) [] sP;rw[ar,if_neg (λq=>q rfl)] at am;have lU:=Tf _ _ _ _ h1;have lV:=Tf _ _ _ _ h2
 have ap:J6 K N T M (Yx (X++A)) (X3 (Yx (X++A)) (Yx (X++B)))=(0,C):=by
  unfold J6;rw[o1];by_cases hA:A=[]
  ·subst hA;rw[if_pos]
   ·injection h2 with _ h2;injection h2 with h2 _;rw[h2]
   ·rw[dL,List.append_nil,List.replicate_append_replicate];simp at l1;rw[show X.length+(24 - X.length)=24 by omega]
  ·rw[if_neg]
   ·rw[am,if_neg (λq=>q rfl)];simp only
    have e1:=Gv (K:=K) (N:=N) (T:=T) (L:=aF X.length 0++(A++aF (24 - (X++A).length) 0)) (U:=U++V++aF (24 - (X++A).length) []) (lo:=X.length+A.length) M (24 - (X++A).length) (λi q r=>by
     have:=Vn (aF X.length 0) (A++aF (24 - (X++A).length) 0) (i - X.length) (0:Int);rw[List.length_replicate,show X.length+(i - X.length)=i by omega] at this;rw[this];have:=Vn A (aF (24 - (X++A).length) 0) (i - X.length - A.length) (0:Int);rw[show A.length+(i - X.length - A.length)=i - X.length by omega] at this;rw[this,Tm])
    rw[show X.length+A.length+(24 - (X++A).length)=24 by simp at l1 ⊢;omega] at e1;rw[e1,Zgh O A X.length C M V (λx z=>sP x (by simp[z])) h2 (λi hi=>⟨?_,?_⟩)]
    ·have e2:=Gv (K:=K) (N:=N) (T:=T) (L:=aF X.length 0++(A++aF (24 - (X++A).length) 0)) (U:=U++V++aF (24 - (X++A).length) []) (lo:=0) C X.length (λi _ r=>by
      rw[Wz _ _ _ _ (by simp;omega),Tm])
     rw[Nat.zero_add] at e2;rw[e2];rfl
    ·have:=Vn (aF X.length 0) (A++aF (24 - (X++A).length) 0) i (0:Int);rw[List.length_replicate] at this;rw[this,Wz _ _ _ _ hi]
    ·rw[cV];have:=Vn U (V++aF (24 - (X++A).length) []) i ([]:List (List Zf));rw[lU] at this;rw[this,Wz _ _ _ _ (by omega)]
   ·intro q;obtain⟨x,z⟩:=List.exists_mem_of_ne_nil A hA;have:x∈aF 24 (0:Int):=(by rw[<-q];simp[z]);exact nA x z (List.eq_of_mem_replicate this)
 unfold Vt;rw[if_neg (λq=>q hk),Sb O hs,Sb O ht,if_neg (λq=>q rfl),if_neg (λq=>q rfl),hP,hQ,ap,if_neg (λq=>q rfl),o2,J7,G2 O B _ C _ (λx z=>sQ x (by simp[z]))];by_cases q:(Yt K N T B C).1=0
 ·rw[if_neg (λr=>r q),if_neg (λr=>r q)];have:=J7 K N T (24 - (X++B).length) [] (Yt K N T B C).2.1 ([]++aF X.length []++(Yt K N T B C).2.2);rw[List.append_nil] at this;rw[this,q];rfl
 ·rw[if_pos q,if_pos q]
theorem Pj{K N T}{s t:Int}{A}(ha:Q4 K N T s=(0,A))(ht:t=0\/t∈N):∀ B,Vt K N T A s t=(0,B)↔Q4 K N T t=(0,B):=by
 obtain⟨hk,hc,hs,U,hU⟩:=Zcb ha;obtain⟨X,P,Q,O,z,hd⟩:=Zps (Tr.upD_coh N T (fnd s N T).2.1.toNat (fnd t N T).2.1.toNat s t);have O:Zm N T s=X++P:=O;have z:Zm N T t=X++Q:=z;have ac:=hU;rw[O] at ac;obtain⟨C,V,W,h1,h2,_⟩:=Gc X P [] A U ac;have hm:=Zds hk hc hs ht O z hd h1 h2;intro B;rw[hm];constructor
 ·intro e;injection e with e1 e2;rw[if_neg (λq=>q e1)] at e2;refine Zmu (U:=V++(Yt K N T Q C).2.2) hk hc ht ?_;rw[z];exact Hg X Q [] C B V _ h1 (Prod.ext e1 (Prod.ext e2 rfl))
 ·intro e;obtain⟨_,_,_,Y,hY⟩:=Zcb e;rw[z] at hY;obtain⟨C2,V2,W2,h3,h4,_⟩:=Gc X Q [] B Y hY;rw[h1] at h3;injection h3 with _ h3;injection h3 with h3 _;subst h3;rw[h4,if_neg (λq=>q rfl)]
theorem Ah{K N T}{s t:Int}{A B}(h:Vt K N T A s t=(0,B)):t=0\/t∈N:=by
 unfold Vt at h;split at h
 ·rename_i q;injection h with h _;exact absurd h q
 split at h
 ·rename_i q;injection h with h _;exact absurd h q
 split at h
 ·rename_i q;injection h with h _;exact absurd h q
 rename_i q;exact (Tr.pathE_ok (cC.1 q)).2.1
theorem ways{K N T}{a b c:Int}{L X Y}(h:Q4 K N T a=(0,L))(O:Vt K N T L a b=(0,X))(hy:Vt K N T L a c=(0,Y)):Vt K N T Y c b=(0,X):=by
 have z:=Ah O;have hc:=Ah hy;exact (Pj ((Pj h hc Y).1 hy) z X).2 ((Pj h z X).1 O)
def Zeh(N:List Int)(T:List Zj)(s t:Int):Int×Int:=
 if (pathE N T t).2≠0 then (0,(pathE N T t).2) else if Tr.idxI s (pathE N T t).1 0<0 then (0,5) else (((pathE N T t).1.length:Int) - 1 - Tr.idxI s (pathE N T t).1 0,0)
theorem Zma:∀ (L:List Int) (s:Int) (k:Nat),(Tr.idxI s L k = -1)\/∃ i,Tr.idxI s L k=(k+i:Nat)/\L[i]? = some s
 | [],_,_=>.inl rfl
 | a :: L,s,k=>by
  by_cases e:s=a
  ·exact .inr ⟨0,by simp[Tr.idxI,e],by simp[e]⟩
  ·rcases Zma L s (k+1) with h|⟨i,h1,h2⟩
   ·exact .inl (by simp[Tr.idxI,e,h])
   ·exact .inr ⟨i+1,by simp[Tr.idxI,e,h1];omega,by simpa using h2⟩
