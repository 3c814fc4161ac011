import Derived.Test.YtpikejjiignchaaGreatDoorH
import Derived.Test.YtpikejjiignchaaGreatDoorG16
import Derived.Test.YtpikejjiignchaaGreatDoorG17
import Derived.Test.YtpikejjiignchaaGreatDoorG15
open Go.Proofs.Tryz
open Go renaming lt_of_block->aA,wp_loop_rounds->aQ,rounds_succ->aL,maxLen->cD
open Go.Ending renaming returned->dX
open Go.IntKind renaming i64->J
open Go.Obj renaming cells->dW
open Go.Proofs renaming intOf->aV
open Go.Proofs.Tryz renaming prog->aB
open Go.Value renaming int->E,slice->F,tuple->dY,bool->eA
open Go.World renaming block_lt_of_cell?->aC
open List renaming getElem_mem->bK,take_succ_eq_append_getElem->aM,length_take->bG,take_of_length_le->aY,length_eq_zero_iff->aJ,map_append->bW
open Nat renaming le_refl->aE,zero_le->aP
set_option maxHeartbeats 6400000
set_option maxRecDepth 10000
namespace Go.Proofs.YtpikejjiignchaaGreatDoor
open Go.RowKit
def Zgb:List (InD×Value)->List Value
 | []=>[]
 | x :: r=>E J x.1.1 :: E J x.1.2.1 :: x.2 :: Zgb r
def Zbd:List (Ya×Value)->List Value
 | []=>[]
 | x :: r=>E J x.1.1 :: x.2 :: Zbd r
theorem Ve{w w':World}{base:Nat}{e:TypeId}{size:Nat}{v}{n:Nat}{xs}(h:w.ownsRow base e size v n xs)(hk:∀ (k:Nat) (cs:Array Value),w.heap[k]? = some (dW cs e (0,0))->w'.heap[k]? = w.heap[k]?):w'.ownsRow base e size v n xs:=by
 obtain⟨hl,h0|⟨g,cap,z,hv,hg,O,r⟩⟩:=h
 ·exact⟨hl,.inl h0⟩
 ·exact⟨hl,.inr ⟨g,cap,z,hv,hg,(hk g z O).trans O,r⟩⟩
structure PL(w:World)(q p lb:Nat)(A:Array Value)(h:Int)(wr:World)(v1 v2:Value)(L1:List (InD×Value))(L2:List (Ya×Value)):Prop where
 box:wr.heap[p]? = some (dW #[E J h,v1,v2] 52 (0,0))
 res:wr.heap[q]? = some (dW #[E J 0,F none 0 0,F none 0 0] 52 (0,0))
 pq:p≠q
 lin:wr.heap[lb]? = some (dW A 9 (0,0))
 own1:wr.ownsRow w.heap.size 124 3 v1 L1.length (Zgb L1)
 own2:wr.ownsRow w.heap.size 101 2 v2 L2.length (Zbd L2)
 keys1:∀ x∈L1,wr.ownsRow w.heap.size 122 2 x.2 x.1.2.2.length (flat x.1.2.2)
 keys2:∀ x∈L2,wr.ownsRow w.heap.size 122 2 x.2 x.1.2.length (flat x.1.2)
 bel:ZD w wr
 pge:w.heap.size<=p
theorem PL.later{w}{q p lb:Nat}{A}{h:Int}{wr w':World}{v1 v2 L1 L2}(s:PL w q p lb A h wr v1 v2 L1 L2)(z:ZD wr w'):PL w q p lb A h w' v1 v2 L1 L2 where
 box:=ZE z s.box
 res:=ZE z s.res
 pq:=s.pq
 lin:=ZE z s.lin
 own1:=Xv s.own1 z
 own2:=Xv s.own2 z
 keys1:=λx O=>Xv (s.keys1 x O) z
 keys2:=λx O=>Xv (s.keys2 x O) z
 bel:=Ze s.bel z
 pge:=s.pge
theorem Hs{w w':World}{base:Nat}{e:TypeId}{size:Nat}{v:Value}{n:Nat}{xs}(h:w.ownsRow base e size v n xs)(hg:w.grownBy w' v.ownBlock)(k:Nat)(cs)(t:TypeId)(hk:w.heap[k]? = some (dW cs t (0,0)))(ht:t≠e):w'.heap[k]? = w.heap[k]?:=by
 refine hg.block k (aA hk) (λO=>?_);obtain⟨_,⟨rfl,_⟩|⟨g,cap,ae,rfl,_,z,_⟩⟩:=h
 ·cases O
 ·have e2:k=g:=by injection O
  subst e2;rw[hk] at z;injection z with z;injection z with _ z;exact ht z
theorem PL.alloc{w}{q p lb:Nat}{A}{h:Int}{wr:World}{v1 v2 L1 L2}(s:PL w q p lb A h wr v1 v2 L1 L2)(o:Obj):PL w q p lb A h (wr.alloc o) v1 v2 L1 L2:=s.later (Zg wr o)
theorem PL.drewN{w}{q p lb:Nat}{A}{h:Int}{wr:World}{v1 v2 L1 L2}(s:PL w q p lb A h wr v1 v2 L1 L2)(n:Nat):PL w q p lb A h (wr.drewN n) v1 v2 L1 L2:=
 s.later ⟨rfl,rfl,rfl,aE _,λ_ _=>rfl⟩
def hd1(x:List UInt8):Option UInt8:=x.head?
theorem Zin{p h k n:Int}(f:Wj p h k n=true):∀ z∈[p,h,k,n],-10000000000<=z/\z<=10000000000:=by
 simp only[Wj,Bool.and_eq_true,decide_eq_true_eq] at f;intro z O;simp only[List.mem_cons,List.not_mem_nil,or_false] at O
 rcases O with rfl|rfl|rfl|rfl <;> omega
theorem P5(t):∀ T:List TxD,Yw (T++[t])=Yw T++Ye t
 | []=>by
  apply Jp
  simp[Yw,ByteArray.data_append]
 | u :: T=>by
  show Ye u++Yw (T++[t])=Ye u++Yw T++Ye t;rw[P5 t T]
  apply Jp
  simp[ByteArray.data_append]
theorem Zam(p h k n:Int)(a m c T)(w:World)(hE:EnvF w)(hT:TxsAt w a m T)(hx:Xo (p,h,k,n,T)=0) :
  ZH 132 #[.agg #[E J p,E J h,E J k,E J n,F a m c]] w (.string (Qe (p,h,k,n,T))):=by
 obtain⟨f1,f2,f3,_,f5⟩:=Uo hx;have hz:T.length=m:=hT.1;obtain⟨X,hX⟩:=ZG ((w.alloc (dW #[E J p,E J h,E J k,E J n,F a m c] 68)).alloc (dW #[E J p,E J h,E J k,E J n] 3));have am:ZD w X:=by rw[hX];exact Ze (Zg _ _) (Zg _ _)
 have bv:X.heap[w.heap.size]? = some (dW [E J p,E J h,E J k,E J n,F a m c].toArray 68 (0,0)):=by
  rw[hX,Below.heap_alloc _ _ _ (by simp)];exact Z8 _ _ _ _ _ _ _
 have aw:X.heap[w.heap.size+1]? = some (dW [E J p,E J h,E J k,E J n].toArray 3 (0,0)):=by
  rw[hX];have:=Se (w.alloc (dW #[E J p,E J h,E J k,E J n,F a m c] 68)) (E J p) (E J h) (E J k) (E J n) 3;rw[show (w.alloc (dW #[E J p,E J h,E J k,E J n,F a m c] 68)).heap.size=w.heap.size+1 by simp] at this;exact this
 have HE:=Zb (λW (hb:ZD X W)=>hE.later (Ze am hb));have HT:=Zb (λW (hb:ZD X W)=>hT.later (Ze am hb));have HB:=Zb am;have ct:=Zb bv;have dh:=Zb aw;have HZ:=Zb hz;have HF:=Zb (Zin f1);have HC:=Zb f5;obtain⟨Z,hZ⟩:=ZF ([p,h,k,n]);have bw:Z.length=4:=by rw[<-hZ];rfl
 have bx:∀ j (hj:j<Z.length),X.cell? ⟨w.heap.size+1,j,none⟩=some (E J Z[j]):=by
  subst hZ;intro j hj;refine Zd aw j _ ?_
  match j,hj with
  | 0,_=>rfl
  | 1,_=>rfl
  | 2,_=>rfl
  | 3,_=>rfl
 rw[hZ] at HF;have cl:=Zb bx;have ap:=Zb bw;have cu:=Zb hZ;have dr:m<=4:=by omega
 clear hE hT am bv aw hz bx bw hZ f1 f2 f3 f5 hx;go_enter func132,ntmps132;go_wp2_with fail;rw[<-hX];clear hX
 go_loopw [3,18] (λsv i wr=>∃ j:Nat,j<=4/\i = E J j/\sv = .string (Vl blockB (Z.take j))/\Hid (ZD X wr)) (λ_ i _=>4 - (aV i).toNat)
 case atStart=>exact⟨0,aP _,rfl,rfl,(Below.refl _ _:ZD X X)⟩
 case round=>
  obtain⟨j,hj,rfl,rfl,ae⟩:=hrel;by_cases ba:j<4
  ·have O:j<Z.length:=(by rw[Za ap];exact ba);have bk:=Zc ae (cl j O);have dj:=aC _ _ bk;have bb:=HF Z[j] (bK O);have z:=F6 blockB (Z.take j) Z[j];rw[<-aM O] at z
   have dc:(Vl blockB (Z.take j)).size<=200:=by
    have:=Ui blockB (Z.take j) (λdu hz=>HF du (List.mem_of_mem_take hz));rw[bG] at this;have e5:blockB.size=5:=rfl;omega
   obtain⟨du,hz⟩:=ZF (Z[j]);rw[hz] at bk bb z;obtain⟨T1,bu⟩:=ZF (Vl blockB (Z.take j));rw[bu] at z dc ⊢;have HS:=Zb z;have dn:=Vi du bb;have dp:((⟨#[32]⟩:ByteArray)++X4 du).size<=22:=by rw[Nl];omega
   have IT:Hid (∀ w,Env w->Calls aB 107 #[E J du] w λe w'=>e = dX (.string (X4 du))/\ZD w w'):=λw hw=>
    (Tryz.strconv_Itoa du (by omega) (by omega) w hw.tab).mono λe w' ⟨h1,k,os,h2⟩=>⟨h1,by rw[h2];exact Lib.below_grow _ _ (aE _) k os⟩
   have EE:=Zb (HE wr ae).envp.env;have dd:(j:Int)<4:=(by omega);clear hz bu z bb;go_wp2_with fail;refine (IT _ EE).mono ?_;rintro e w3 ⟨rfl,ai⟩;have ao:=Zb (Ze ae ai);clear ai;go_wp2;go_roundw
   case rel=>exact⟨j+1,by omega,by go_num,by rw[Za HS],ao⟩
   case measure=>simp[aV];omega
  ·obtain rfl:j=4:=(by omega);have HR:Hid (Vl blockB (Z.take 4)=Vl blockB Z):=(by show _=_;rw[aY (by rw[Za ap];exact aE _)]);rw[Za HR]
   have db:(Vl blockB Z).size<=200:=by
    have:=Ui blockB Z HF;rw[Za ap] at this;have e5:blockB.size=5:=rfl;omega
   obtain⟨R,hR⟩:=ZF (Vl blockB Z);rw[hR] at db ⊢;have h1:=ZE ae ct;have b4:=Zd h1 4 _ rfl;have bl:=aA h1;have co:=Zb hR;clear h1 hR;go_wp2
   go_loopw [3,33] (λsv i df=>∃ j:Nat,j<=m/\i = E J j/\sv = .string ((R++⟨#[10]⟩)++Yw (T.take j))/\Hid (ZD X df)) (λ_ i _=>m - (aV i).toNat)
   case atStart=>exact⟨0,aP _,rfl,by congr 1;apply Jp;simp[Yw,ByteArray.data_append],ae⟩
   case round=>
    obtain⟨j,dq,rfl,rfl,ak⟩:=hrel;clear b4 bl;by_cases ba:j<m
    ·have O:j<T.length:=(by rw[Za HZ];exact ba);obtain⟨tb,dt,rfl,_,bz⟩:=(HT _ ak).2 (by omega);have ca:=bz j O;have an:=HC T[j] (bK O);have z:=P5 T[j] (T.take j);rw[<-aM O] at z;have cc:=Qb (T.take j) (λt ht=>HC t (List.mem_of_mem_take ht));rw[bG] at cc
     have cb:(Ye T[j]).size<=6000:=by
      have:=Qb [T[j]] (λt ht=>by rw[List.mem_singleton.1 ht];exact an);have e:Yw [T[j]]=Ye T[j]++Yw []:=rfl;rw[e,ByteArray.size_append] at this;simp at this;omega
     obtain⟨t1,I,dv,ht⟩:∃ t1 I dv,T[j]=(t1,I,dv):=⟨_,_,_,rfl⟩;rw[ht] at ca an z cb;obtain⟨g0,⟨dw,ni,dy,g1,hI,_⟩,dx,no,dz,g2,hO,_⟩:=ca;simp only at g0 g1 g2 hI hO;obtain⟨A1,hA1⟩:=ZF ((R++⟨#[10]⟩)++Yw (T.take j))
     have dm:A1.size<=30000:=by
      rw[<-hA1,ByteArray.size_append,Qm];have:min j T.length<=4:=(by omega);omega
     have be:Hid (A1++Ye (t1,I,dv)=(R++⟨#[10]⟩)++Yw (T.take (j+1))):=by
      show _=_;rw[<-hA1,z]
      apply Jp
      simp[ByteArray.data_append]
     rw[hA1];obtain⟨Y,hY⟩:=ZG (wr.alloc (dW #[E J t1,F dw ni dy,F dx no dz] 52));have aj:ZD wr Y:=(by rw[hY];exact Zg _ _);have CC:=Zb (Fv t1 dw dx ni dy no dz I dv Y (HE Y (Ze ak aj)) (hI.later aj) (hO.later aj) an);obtain⟨B1,bs⟩:=ZF (Ye (t1,I,dv));rw[bs] at CC cb be;have cj:=Zb (Ze ak aj);have dd:(j:Int)<(m:Int):=(by omega);have gl:=aC _ _ g0;clear bz z cc ht hI hO hA1 bs an aj;go_wp2_with fail;rw[<-hY];clear hY;refine CC.mono ?_;rintro e w3 ⟨rfl,ai⟩;have ao:=Zb (Ze cj ai);clear ai;go_wp2;go_roundw
     case rel=>
      refine⟨_,_,_,_,_,_,_,_,_,_,_,?_,rfl⟩;exact⟨j+1,by omega,by go_num,by rw[Za be],ao⟩
     case measure=>simp[aV];omega
    ·have cm:Hid ((R++⟨#[10]⟩)++Yw (T.take j)=Qe (p,h,k,n,T)):=by
      show _=_;rw[aY (by rw[Za HZ];omega),<-Za co,<-Za cu];rfl
     have ci:=Zb (Ze HB ak);go_wp2;go_ret;exact⟨L7 cm,Za ci⟩
theorem Zal(a)(len cap:Nat)(w)(h:16<len) :
  Calls aB 69 #[F a len cap] w λe w'=>e = dX (E J 2)/\w=w':=by
 go_enter func69,ntmps69;go_wp2;go_ret;exact⟨rfl,rfl⟩
theorem Zak(a cap)(w) :
  Calls aB 69 #[F a 0 cap] w λe w'=>e = dX (E J 0)/\w=w':=by
 go_enter func69,ntmps69;go_wp2;refine aQ 1 ?_;rw[aL];go_wp2;go_ret;exact⟨rfl,rfl⟩
theorem Ziy(k n:Int) :
  (k<1/\Xq (k,n)=4)\/(¬k<1/\13<k/\Xq (k,n)=4) \/
  (¬k<1/\¬13<k/\n < -1000000/\Xq (k,n)=3)\/(¬k<1/\¬13<k/\¬n < -1000000/\1000000<n/\Xq (k,n)=3) \/
  (¬k<1/\¬13<k/\¬n < -1000000/\¬1000000<n/\(k != 1)=true/\(n != 0)=true/\Xq (k,n)=3) \/
  (¬k<1/\¬13<k/\¬n < -1000000/\¬1000000<n/\(k != 1)=true/\(n != 0)=false/\Xq (k,n)=0) \/
  (¬k<1/\¬13<k/\¬n < -1000000/\¬1000000<n/\(k != 1)=false/\Xq (k,n)=0):=by
 by_cases h1:k<1
 ·exact .inl ⟨h1,by simp[Xq,h1]⟩
 by_cases h2:13<k
 ·exact .inr (.inl ⟨h1,h2,by simp[Xq,h2]⟩)
 by_cases h3:n < -1000000
 ·have z:fit n=false:=(Mc n).2 (.inl h3);exact .inr (.inr (.inl ⟨h1,h2,h3,by simp[Xq,h1,h2,z]⟩))
 by_cases h4:1000000<n
 ·have z:fit n=false:=(Mc n).2 (.inr h4);exact .inr (.inr (.inr (.inl ⟨h1,h2,h3,h4,by simp[Xq,h1,h2,z]⟩)))
 have z:fit n=true:=(Yf n).2 (by omega);by_cases h5:k=1
 ·exact .inr (.inr (.inr (.inr (.inr (.inr ⟨h1,h2,h3,h4,by simp[h5],by simp[Xq,h5,z]⟩)))))
 by_cases h6:n=0
 ·exact .inr (.inr (.inr (.inr (.inr (.inl ⟨h1,h2,h3,h4,by simp[h5],by simp[h6],by simp[Xq,h1,h2,h6];try decide⟩)))))
 ·exact .inr (.inr (.inr (.inr (.inl ⟨h1,h2,h3,h4,by simp[h5],by simp[h6],by simp[Xq,h1,h2,h5,h6]⟩))))
theorem Zaj(b off len cap:Nat)(l:List (Int×Int))(w:World)(h0:len<=16)(hz:l.length=len)
  (hc:∀ i,i<len->w.cell? ⟨b,off+i*2,none⟩=some (E J (l.getD i (0,0)).1)/\w.cell? ⟨b,off+i*2+1,none⟩=some (E J (l.getD i (0,0)).2)) (hl:b<w.heap.size) :
  ZH 69 #[F (some ⟨b,off,none⟩) len cap] w (E J (Un l)):=by
 have HC:=Zb hc;have HZ:=Zb hz;clear hc hz;go_enter func69,ntmps69;go_wp2
 go_loopw [10] (λi wr=>∃ k:Nat,k<=len/\i = E J k/\Un (l.take k)=0/\ZD w wr) (λi _=>len - (aV i).toNat)
 case atStart=>exact⟨0,aP _,rfl,rfl,Below.refl _ _⟩
 case round=>
  obtain⟨k,hk,rfl,am,z⟩:=hrel;have aa:=Zb am;have HB:=Zb z;clear am;by_cases al:k<len
  ·obtain⟨c1,c2⟩:=HC k al;rw[<-z.cell (p:=⟨b,off+k*2,none⟩) hl] at c1;rw[<-z.cell (p:=⟨b,off+k*2+1,none⟩) hl] at c2;obtain⟨q,hq⟩:=ZG (l.getD k (0,0));rw[<-hq] at c1 c2;have ad:k<l.length:=(by rw[Za HZ];exact al);have an:q=l[k]:=(by rw[hq];simp[ad]);have HQ:=Zb an;have ag:=Zb (z.trans (((Below.refl wr.heap.size wr).alloc (aE _) (dW #[E J q.1,E J q.2] 122)).mono z.size));clear z hq an;obtain⟨q1,q2⟩:=q;obtain⟨x,hx⟩:=ZG (Xq (q1,q2));have HX:=Zb hx;have ao:=Ziy q1 q2;rw[<-hx] at ao;clear hx
   rcases ao with ⟨h1,O⟩|⟨h1,h2,O⟩|⟨h1,h2,h3,O⟩|⟨h1,h2,h3,h4,O⟩|⟨h1,h2,h3,h4,h5,h6,O⟩|⟨h1,h2,h3,h4,h5,h6,O⟩|⟨h1,h2,h3,h4,h5,O⟩
   all_goals
    subst O;go_wp2
   iterate 5
    go_ret;refine⟨Gd ?_,Za ag⟩;rw[A6 l k ad (Za aa) (by rw[<-Za HQ,<-Za HX];decide),<-Za HQ,<-Za HX]
   all_goals
    go_roundw
    case rel=>
     refine⟨k+1,by omega,by go_num,?_,Za ag⟩;rw[Az l k ad (Za aa),<-Za HQ,<-Za HX];rfl
    case measure=>simp[aV];omega
  ·clear z;go_wp2;go_ret;have e:k=len:=(by omega);subst e;refine⟨Gd ?_,Za HB⟩;have h1:=Za aa;rw[<-Za HZ,List.take_length] at h1;exact h1.symm
theorem Rh(a len cap l)(w:World)(h:OpsAt w a len l) :
  ZH 69 #[F a len cap] w (E J (chk l)):=by
 obtain⟨z,hc⟩:=h;unfold chk;rw[z];by_cases h1:16<len
 ·rw[if_pos h1];exact (Zal a len cap w h1).mono λe w' ⟨x,y⟩=>⟨x,y ▸ Below.refl _ _⟩
 ·rw[if_neg h1];by_cases h2:len=0
  ·subst h2;have e:l=[]:=aJ.1 z;subst e;exact (Zak a cap w).mono λe w' ⟨x,y⟩=>⟨x,y ▸ Below.refl _ _⟩
  ·obtain⟨b,off,rfl,O⟩:=hc (by omega);exact Zaj b off len cap l w (by omega) z O (aC _ _ (O 0 (by omega)).1)
theorem Rr(n:Int)(w)(h1:0<=n)(h2:n<=1000000000) :
  Calls aB 78 #[E J n] w λe w'=>e = dX (eA true)/\w=w':=by
 go_enter func78,ntmps78;go_wp2;go_ret;exact⟨rfl,rfl⟩
theorem Ku(n:Int)(w)(h:n<0\/1000000000<n) :
  Calls aB 78 #[E J n] w λe w'=>e = dX (eA false)/\w=w':=by
 by_cases h1:n<0
 ·go_enter func78,ntmps78;go_wp2;go_ret;exact⟨rfl,rfl⟩
 ·have h2:1000000000<n:=by omega
  have h3:0<=n:=by omega
  have h4:decide (n<=1000000000)=false:=by simp;omega
  clear h;go_enter func78,ntmps78;go_wp2;go_ret;exact⟨rfl,rfl⟩
theorem F2(a len cap Z w)(h:RowAt w a len Z) :
  Calls aB 105 #[F a len cap] w λe w'=>e = dX (dY #[E J (sm 0 Z).1,E J (sm 0 Z).2])/\w=w':=by
 obtain⟨hz,hm,hc⟩:=h;unfold cD at hm
 rcases Nat.eq_zero_or_pos len with h0|h0
 ·subst h0;have HZ:Hid (Z=[]):=List.eq_nil_of_length_eq_zero hz;clear hz hc hm;go_enter func105,ntmps105;go_wp2;refine aQ 1 ?_;rw[aL];go_wp2;go_ret2;rw[HZ.out];exact⟨rfl,rfl⟩
 ·obtain⟨b,off,rfl,ae⟩:=hc h0;have HC:Hid (∀ i,i<len->w.cell? ⟨b,off+i,none⟩=some (E J (Z.getD i 0))):=ae;clear hc ae;go_enter func105,ntmps105;go_wp2
  go_loop [4,9] (λs i=>∃ (k:Nat) (x:Int),k<=len/\i = E J k/\s = E J x/\0<=x/\x<=1000000000/\Hid (sm 0 Z=sm x (Z.drop k))) (λ_ i=>len - (aV i).toNat)
  case atStart=>exact⟨0,0,aP _,rfl,rfl,by decide,by decide,by exact rfl⟩
  case round=>
   obtain⟨k,x,hk,rfl,rfl,aq,ar,O⟩:=hrel;by_cases an:k<len
   ·have al:=HC.out k an;generalize hv:Z.getD k 0=v at al;have z:Hid (Z.getD k 0=v):=hv;clear hv;by_cases hr:v<0\/1000000000<v
    ·go_wp2_with (go_at_call 78;refine (Ku _ _ hr).mono ?_;rintro e w' ⟨rfl,rfl⟩)
     go_ret2;rw[O.out,Ew x Z k (by omega) (by rw[z.out];exact hr)];exact⟨rfl,rfl⟩
    ·have aa:0<=v:=(by omega);have ab:v<=1000000000:=(by omega);clear hr;by_cases hf:1000000000<x+v
     ·go_wp2_with (go_at_call 78;refine (Rr _ _ aa ab).mono ?_;rintro e w' ⟨rfl,rfl⟩)
      go_ret2;rw[O.out,Zff x Z k (by omega) (by rw[z.out];exact aa) (by rw[z.out];exact ab) (by rw[z.out];exact hf)];exact⟨rfl,rfl⟩
     ·have am:x+v<=1000000000:=(by omega);have ao:0<=x+v:=(by omega);clear hf
      go_wp2_with (go_at_call 78;refine (Rr _ _ aa ab).mono ?_;rintro e w' ⟨rfl,rfl⟩)
      go_round
      case rel=>
       refine⟨k+1,x+v,by omega,by go_num,rfl,by omega,by omega,?_⟩;show sm 0 Z=_;rw[O.out,Zfe x Z k (by omega) (by rw[z.out];exact aa) (by rw[z.out];exact ab) (by rw[z.out];exact am),z.out]
      case measure=>simp[aV];omega
   ·go_wp2;go_ret2;rw[O.out,Zkg x Z k (by omega)];exact⟨rfl,rfl⟩
def Ws(q:Int×Int):List (Int×Int)->Nat->Int
 | [],_=>-1
 | y :: r,k=>if q=y then k else Ws q r (k+1)
theorem Ad(q:Int×Int):∀ (l:List (Int×Int)) (k:Nat),decide (0<=Ws q l k)=decide (q∈l)
 | [],_=>by simp[Ws]
 | y :: r,k=>by
  unfold Ws;by_cases h:q=y
  ·rw[if_pos h];simp[h]
  ·rw[if_neg h,Ad q r (k+1)];simp[h]
theorem Zaz(q:Int×Int)(l:List (Int×Int))(k:Nat)(h:k<l.length):Ws q (l.drop k) k=if q=l[k] then (k:Int) else Ws q (l.drop (k+1)) (k+1):=by
 rw[List.drop_eq_getElem_cons h];rfl
theorem Ce(b off n c:Nat)(l:List (Int×Int))(z O:Int)(w:World)(hn:n<=6)(hz:l.length=n)
  (hc:∀ i,i<n->w.cell? ⟨b,off+i*2,none⟩=some (E J (l.getD i (0,0)).1)/\w.cell? ⟨b,off+i*2+1,none⟩=some (E J (l.getD i (0,0)).2)) :
  ZH 145 #[F (some ⟨b,off,none⟩) n c,.agg #[E J z,E J O]] w (E J (Ws (z,O) l 0)):=by
 obtain⟨X,hX⟩:=ZG (w.alloc (dW #[E J z,E J O] 99));have ab:ZD w X:=by rw[hX];exact Zg _ _
 have cx:=Qf w (E J z) (E J O) 99;rw[<-hX] at cx;obtain⟨x0,x1⟩:=cx;have HC:Hid (∀ i,i<n->X.cell? ⟨b,off+i*2,none⟩=some (E J (l.getD i (0,0)).1)/\X.cell? ⟨b,off+i*2+1,none⟩=some (E J (l.getD i (0,0)).2)):=λi hi=>⟨Zc ab (hc i hi).1,Zc ab (hc i hi).2⟩;have HZ:=Zb hz;have ad:=Zb ab;clear hc hz ab;go_enter func145,ntmps145;go_wp2;rw[<-hX];clear hX
 go_loopw [8] (λi wr=>∃ k m:Nat,k<=n/\i = E J k/\wr=X.drewN m/\Hid (Ws (z,O) l 0=Ws (z,O) (l.drop k) k)) (λi _=>n - (aV i).toNat)
 case atStart=>exact⟨0,0,aP _,rfl,rfl,rfl⟩
 case round=>
  obtain⟨k,m,hk,rfl,rfl,A⟩:=hrel;by_cases ak:k<n
  ·have aj:k<l.length:=(by rw[Za HZ];exact ak);obtain⟨g1,g2⟩:=HC k ak;have S:=Zb (Zaz (z,O) l k aj);have e1:l.getD k (0,0)=l[k]:=(by simp[aj]);rw[e1] at g1 g2;obtain⟨r,hr⟩:=ZF (l[k]);rw[hr] at g1 g2 S;obtain⟨r1,r2⟩:=r;simp only at g1 g2;clear hr e1;by_cases he:z=r1
   ·subst he;by_cases hf:O=r2
    ·subst hf;have R:Hid (Ws (z,O) l 0=k):=(by show _=_;rw[Za A,Za S,if_pos rfl]);clear A;go_wp2
     go_quiet (fail)
     go_wp2;go_ret;exact⟨by rw[Za R];rfl,Ze ad (by simp only[World.drewN_drewN];exact G6 _ _)⟩
    ·have R:Hid (Ws (z,O) l 0=Ws (z,O) (l.drop (k+1)) (k+1)):=(by show _=_;rw[Za A,Za S,if_neg (λe=>hf (by injection e))]);clear A;go_wp2
     go_quiet (fail)
     go_wp2;go_roundw
     case rel=>exact⟨k+1,m+nq,by omega,by go_num,rfl,R⟩
     case measure=>simp[aV];omega
   ·have R:Hid (Ws (z,O) l 0=Ws (z,O) (l.drop (k+1)) (k+1)):=(by show _=_;rw[Za A,Za S,if_neg (λe=>he (by injection e))]);clear A;go_wp2
    go_quiet (fail)
    go_wp2;go_roundw
    case rel=>exact⟨k+1,m+nq,by omega,by go_num,rfl,R⟩
    case measure=>simp[aV];omega
  ·have R:Hid (Ws (z,O) l 0 = -1):=by
    show _=_;rw[Za A,List.drop_of_length_le (by rw[Za HZ];omega)];rfl
   clear A;go_wp2;go_ret;exact⟨by rw[Za R];rfl,Ze ad (G6 _ _)⟩
theorem Cf(a c)(z O:Int)(w:World) :
  ZH 145 #[F a 0 c,.agg #[E J z,E J O]] w (E J (-1)):=by
 have HB:=Zb (Zg w (dW #[E J z,E J O] 99));go_enter func145,ntmps145;go_wp2;refine aQ 1 ?_;rw[aL];go_wp2;go_ret;exact⟨rfl,Za HB⟩
theorem Fj(a)(n c:Nat)(l)(z O:Int)(o:Bool)(w:World)(hn:n<=6)(h:OpsAt w a n l)(ho:decide ((z,O)∈l)=o) :
  ZH 104 #[F a n c,.agg #[E J z,E J O]] w (eA o):=by
 have hb:=Zg w (dW #[E J z,E J O] 99)
 have C:Calls aB 145 #[F a n c,.agg #[E J z,E J O]] (w.alloc (dW #[E J z,E J O] 99)) λe w'=>e = dX (E J (Ws (z,O) l 0))/\Below (w.alloc (dW #[E J z,E J O] 99)).heap.size (w.alloc (dW #[E J z,E J O] 99)) w':=by
  by_cases h0:n=0
  ·subst h0;have e:l=[]:=aJ.1 h.1;subst e;exact Cf a c z O _
  ·obtain⟨b,off,rfl,hc⟩:=(h.later hb).2 (by omega);exact Ce b off n c l z O _ hn h.1 hc
 have ab:Hid (decide (0<=Ws (z,O) l 0)=o):=by show _=_;rw[Ad,ho]
 obtain⟨al,hz⟩:=ZF (Ws (z,O) l 0);rw[hz] at C ab;have CC:=Zb C;have HB:=Zb hb;clear C hz h ho hb;cases o with
 | true=>
  have h0:0<=al:=of_decide_eq_true ab;go_enter func104,ntmps104;go_wp2_with fail;refine CC.mono ?_;rintro e w' ⟨rfl,aa⟩;have ac:=Zb (Ze HB aa);clear aa;go_wp2;go_ret;exact⟨rfl,Za ac⟩
 | false=>
  have h2:decide (0<=al)=false:=Za ab;have h1:al<0:=by have:=of_decide_eq_false h2;omega
  go_enter func104,ntmps104;go_wp2_with fail;refine CC.mono ?_;rintro e w' ⟨rfl,aa⟩;have ac:=Zb (Ze HB aa);clear aa;go_wp2;go_ret;exact⟨rfl,Za ac⟩
theorem Ki{w:World}{base:Nat}{v}{n:Nat}{N:List Int}(h:w.ownsRow base 3 1 v n (N.map (Value.int .i64)))(hm:n<=cD):∃ a cap,v = F a n cap/\RowAt w a n N:=by
 have z:N.length=n:=by have:=h.1;simpa using this
 rcases h.2 with ⟨rfl,rfl⟩|⟨g,cap,ab,rfl,_,_,h1,h2,_,_⟩
 ·have e:N=[]:=aJ.1 z;subst e;exact⟨none,0,rfl,RowAt.nil _ _⟩
 ·refine⟨_,cap,rfl,z,hm,λ_=>⟨g,0,rfl,λi hi=>?_⟩⟩;rw[Nat.zero_add,World.ownsRow.cellAt h i (by omega)];have O:i<N.length:=by omega
  simp[O]
def M7(I:List InD):List (Int×Int):=I.map λx=>(x.1,x.2.1)
theorem Znz(x:InD)(I:List InD):decide ((x.1,x.2.1)∈M7 I)=I.any (Vk x):=by
 rw[Bool.eq_iff_iff,decide_eq_true_iff,List.any_eq_true];unfold M7 Vk;rw[List.mem_map];constructor
 ·rintro ⟨y,z,e⟩;injection e with O e2;exact⟨y,z,by simp[O,e2]⟩
 ·rintro ⟨y,z,e⟩;simp only[Bool.and_eq_true,decide_eq_true_eq] at e;exact⟨y,z,by rw[e.1,e.2]⟩
theorem Tryz.infoPoint:(Tryz.prog.info? 99).map (λi=>(i.zero,i.size,i.bytes))=some (some (.agg #[E J 0,E J 0]),2,16):=by kernel_rfl
theorem Zkw(h:Int)(ai dv ni dw no co I du)(z:Int)(w:World)(hI:InsAt w ai ni I)(hO:OutsAt w dv no du)(dg:ni<=6)(dh:no<=6)(dm:0<no)(hn:ni=0)(dj:1<=h)(dl:h<=1000)(hz:Zw du=z) :
  ZH 57 #[.agg #[E J h,F ai ni dw,F dv no co]] w (E J z):=by
 obtain⟨i1,cp,cw,cx,cy⟩:=info_parts Tryz.infoInt;have O:=Zg w (dW #[E J h,F ai ni dw,F dv no co] 52);obtain⟨n0,n1,n2⟩:=Vp w (E J h) (F ai ni dw) (F dv no co) 52;obtain⟨W,hW⟩:=ZG (w.alloc (dW #[E J h,F ai ni dw,F dv no co] 52));rw[<-hW] at O n0 n1 n2;have HB:=Zb O;have HI:=Zb (hI.later O);have HO:=Zb (hO.later O);have N2:=Zb n2;have q1:¬(6:Int)<(ni:Int):=by omega
 have q2:¬(6:Int)<(no:Int):=by omega
 have q3:((no:Int) == 0)=false:=by simp;omega
 have HZ:=Zb hz;have g1:¬(h<1):=by omega
 have g2:¬(1000<h):=by omega
 subst hn;clear hI hO hz O;go_enter func57,ntmps57;go_wp2;rw[<-hW];clear hW;refine aQ 1 ?_;rw[aL];go_wp2;have ce:=Zb (Below.refl W.heap.size W);have cj:Hid (W.ownsRow W.heap.size 3 1 (F none 0 0) 0 ((([]:List Int).map (Value.int .i64)))):=⟨rfl,Or.inl ⟨rfl,rfl⟩⟩
 go_loopw [7,100] (λv i wr=>∃ k:Nat,k<=no/\i = E J k/\ZD W wr/\Hid (wr.ownsRow W.heap.size 3 1 v k (((du.take k).map (·.1)).map (Value.int .i64)))/\Hid (Yc du=Yc (du.drop k))) (λ_ i _=>no - (aV i).toNat)
 case atStart=>exact⟨0,aP _,rfl,Za ce,cj,rfl⟩
 case round=>
  obtain⟨k,cq,rfl,O,bi,A⟩:=hrel;have al:=Zb O;by_cases ct:k<no
  ·obtain⟨cz,bt⟩:=Za HO;obtain⟨b,off,rfl,di,hc⟩:=bt (by omega);have ao:k<du.length:=(by omega);have bv:=OutAt.kept _ _ _ _ _ O (hc k ao);have ST:=Zb (Ry du k ao);have SS:=Zb (Rz du k ao);have TK:=Zb (aM ao);obtain⟨x,hx⟩:=ZF (du[k]);rw[hx] at bv ST SS TK;obtain⟨x1,ae⟩:=x;obtain⟨g1,ka,kn,kc,g3,g4,_⟩:=bv;simp only at g1 g3 g4;have af:=Zg wr (dW #[E J x1,F ka kn kc] 101);obtain⟨n1,n2⟩:=Qf wr (E J x1) (F ka kn kc) 101;have KO:=Zb (g4.later af);have cg:=Zb n1;have au:=Zb af;have cm:=Zb (Xv bi af);clear O hx g4 n1 hc bt;by_cases bb:x1<1
   ·have R:Hid (z=3):=by
     have e:Xe (x1,ae)=3:=Ps bb;have e2:Yc du=3:=(by rw[Za A,(Za ST) (by rw[e];decide),e]);show _=_;rw[<-Za HZ];unfold Zw;rw[e2];rfl
    have aq:=Zb (Ze al au);clear A af;go_wp2;go_ret;exact⟨by rw[Za R];rfl,Ze HB aq⟩
   ·have CK:=Zb (Rh ka kn kc ae _ KO);by_cases ab:chk ae=0
    ·have R:Hid (Yc du=Yc (du.drop (k+1))):=by
      have e:Xe (x1,ae)=0:=(by rw[Um bb];exact ab);show _=_;rw[Za A,(Za SS) e]
     rw[ab] at CK;clear A ab af;go_wp2_with fail;refine CK.mono ?_;rintro e w3 ⟨rfl,ad⟩;have m1:=Zc ad cg;have dn:=aC _ _ m1;have ba:=Zg w3 (dW #[E J x1] 3);have bj:=Zb (Xv (Xv cm ad) ba);have ci:=Zb (World.news_of_block (heap_alloc_new w3 (dW #[E J x1] 3)));have ar:=Zb (Ze (Ze (Ze al au) ad) ba);clear ad ba
     go_wp2_with (at_builtin;refine wpList_append_own _ rfl _ _ 25 rfl W.heap.size 3 i1 (E J 0) 1 8 underlying25 cp cw cx cy rfl (by decide) _ _ _ rfl bj ⟨w3.heap.size,0,none⟩ 1 1 [E J x1] rfl rfl ci (λu hu=>by simp at hu;subst hu;rfl) (by unfold cD;omega) (by omega) ar.size ?_;intro v7 w7 bw bu _)
     have cl:Hid (w7.ownsRow W.heap.size 3 1 v7 (k+1) (((du.take (k+1)).map (·.1)).map (Value.int .i64))):=by
      show World.ownsRow _ _ _ _ _ _ _;rw[Za TK,bW,bW];exact bw
     have cd:=Zb (ar.grown bu ar.size (Qr bj));clear bw bu;go_roundw
     case rel=>exact⟨k+1,by omega,by go_num,Za cd,cl,R⟩
     case measure=>simp[aV];omega
    ·obtain⟨y,hy⟩:=ZF (chk ae)
     have R:Hid (z=y):=by
      have e:Xe (x1,ae)=chk ae:=Um bb;have e2:Yc du=y:=(by rw[Za A,(Za ST) (by rw[e];exact ab),e];exact hy);show _=_;rw[<-Za HZ];unfold Zw;rw[e2,if_neg (by rw[<-hy];exact ab)]
     rw[hy] at CK;rw[hy] at ab;have gz:(y != 0)=true:=(by simp[ab]);clear A hy ab af;go_wp2_with fail;refine CK.mono ?_;rintro e w3 ⟨rfl,ad⟩;have aq:=Zb (Ze (Ze al au) ad);clear ad;go_wp2;go_ret;exact⟨by rw[Za R];rfl,Ze HB aq⟩
  ·have e:k=no:=(by omega);subst e;have cz:=HO.1
   have R:Hid (z=(sm 0 (du.map (·.1))).2):=by
    show _=_;rw[<-Za HZ];unfold Zw;rw[Za A,Tt du k (by omega)];rfl
   have bc:=Za bi;rw[aY (by omega)] at bc;obtain⟨av,cv,rfl,bx⟩:=Ki bc (by unfold cD;omega);have SM:=Zb (F2 av k cv (du.map (·.1)) _ bx);obtain⟨s,hs⟩:=ZF (sm 0 (du.map (·.1)));rw[hs] at SM R;obtain⟨s1,s2⟩:=s;clear A O bc bx hs ct cq;go_wp2_with fail;refine SM.mono ?_;rintro e w' ⟨rfl,rfl⟩;go_wp2;go_ret;exact⟨by rw[Za R];rfl,Ze HB al⟩
