import Derived.Test.YtmomfkikogbdeaaGreatDoorH
import Derived.Test.YtmomfkikogbdeaaGreatDoorG16
open Go.Proofs.Tryz
open Go.Ending renaming returned->dF
open Go.IntKind renaming i64->J
open Go.Obj renaming cells->dE
open Go.Value renaming int->E,slice->F,tuple->dG
open Nat renaming le_refl->aF,zero_le->aI
set_option maxHeartbeats 3200000
set_option maxRecDepth 10000
namespace Go.Proofs.YtmomfkikogbdeaaGreatDoor
open Go.RowKit
theorem Cc:∀ (l:List ByteArray) (L:List ByteArray) (N:List Int) (M:List ByteArray) (N':List Int),Bk.nmGo L N l=(M,N',0)->N'.length=N.length+l.length
 | [],L,N,M,N',h=>by
  unfold Bk.nmGo at h;injection h with _ h;injection h with h _;subst h;rfl
 | s :: r,L,N,M,N',h=>by
  unfold Bk.nmGo at h;split at h
  ·have:=Cc r _ _ M N' h;rw[this,List.length_append,List.length_cons,List.length_cons,List.length_nil];omega
  ·rename_i q;injection h with _ h;injection h with _ h;exact absurd h q
theorem Mf{L l M:List ByteArray}{N:List Int}(h:Bk.allR L l=(M,N,0)):N.length=l.length:=by
 unfold Bk.allR at h;split at h
 ·have:=Cc l L [] M N h;rw[this];simp
 ·rename_i q;injection h with _ h;injection h with _ h;exact absurd h q
theorem Zgc(ka kn kc L)(p h k n:Int)(a m c T M)(nm:Int)(N)(x:Int)(w)(hE:Env w)(hL:Bk.TextsAt w ka kn L)(hT:TxsAt w a m T)(hx:Xl L (p,h,k,n,T)=(M,nm,N,x)) :
  Calls Tryz.prog 27 #[.agg #[F ka kn kc],.agg #[E J p,E J h,E J k,E J n,F a m c]] w λe w'=>NmR w w' M nm N x e:=by
 have hz:T.length=m:=hT.1;unfold Xl at hx;by_cases h0:Yq (p,h,k,n,T)=0
 ·rw[if_neg (by rw[h0];decide)] at hx;obtain⟨⟨M',N',x'⟩,hr⟩:=ZF (Bk.allR L (Yb (p,h,k,n,T)));rw[hr] at hx;simp only[hz] at hx
  have ak:x'=0->N'.length=m+1:=λe=>by
   subst e;rw[Mf hr];unfold Yb;simp[hz]
  by_cases af:x'=0
  ·subst af;rw[if_neg (by decide)] at hx;injection hx with e1 e2;injection e2 with e2 e3;injection e3 with e3 e4;subst e1 e2 e3 e4;exact Kv ka kn kc L p h k n a m c T M' N' 0 w hE hL hT h0 hr ak _ _ _ (if_pos rfl)
  ·rw[if_pos af] at hx;injection hx with e1 e2;injection e2 with e2 e3;injection e3 with e3 e4;subst e1 e2 e3 e4;exact Kv ka kn kc L p h k n a m c T M' N' x' w hE hL hT h0 hr ak _ _ _ (if_neg af)
 ·rw[if_pos h0] at hx;injection hx with e1 e2;injection e2 with e2 e3;injection e3 with e3 e4;subst e1 e2 e3;exact Zgb ka kn kc p h k n a m c T x w hT e4 (by rw[<-e4];exact h0)
def nfD(K:List ByteArray)(C:List Zj)(b:Zk):List Int×Int:=if Z8 C≠0 then ([],Z8 C) else ((Xl K b).2.2.1,(Xl K b).2.2.2)
def NfR(w w':World)(N:List Int)(x:Int)(e:Ending):Prop:=∃ a n c,e = dF (dG #[F a n c,E J x])/\Bk.IntsAt w' a n N/\n<=c/\ZD w w'
theorem Cg(ka kn kc L la ln lc C)(p h k n:Int)(a m c T N)(x:Int)(w)(hE:Env w)(hL:Bk.TextsAt w ka kn L)(hC:CoinsAt w la ln C)(hT:TxsAt w a m T)(hx:nfD L C (p,h,k,n,T)=(N,x)) :
  Calls Tryz.prog 73 #[.agg #[F ka kn kc],F la ln lc,.agg #[E J p,E J h,E J k,E J n,F a m c]] w λe w'=>NfR w w' N x e:=by
 obtain⟨X,hX⟩:=ZG ((w.alloc (dE #[F ka kn kc] 24)).alloc (dE #[E J p,E J h,E J k,E J n,F a m c] 39));have ac:ZD w X:=by rw[hX];exact Zf (Zh _ _) (Zh _ _)
 have an:X.heap[w.heap.size]? = some (dE [F ka kn kc].toArray 24 (0,0)):=by
  rw[hX,Below.heap_alloc _ _ _ (by simp)];exact Yp _ _ _
 have ap:X.heap[w.heap.size+1]? = some (dE [E J p,E J h,E J k,E J n,F a m c].toArray 39 (0,0)):=by
  rw[hX];have:=Zx (w.alloc (dE #[F ka kn kc] 24)) (E J p) (E J h) (E J k) (E J n) (F a m c) 39;rw[show (w.alloc (dE #[F ka kn kc] 24)).heap.size=w.heap.size+1 by simp] at this;exact this
 obtain⟨y,hy⟩:=ZF (Z8 C);obtain⟨CK,bj,bk,ax⟩:=kh4 (Ub la ln lc C y X (hC.later ac) hy) an ap ac;unfold nfD at hx;rw[hy] at hx;by_cases ag:y=0
 ·subst ag;rw[if_neg (by decide)] at hx;obtain⟨⟨M,nm,N',x'⟩,hr⟩:=ZF (Xl L (p,h,k,n,T));rw[hr] at hx;injection hx with e1 e2;simp only at e1 e2;subst e1 e2;have NA:=Zd (λW (hb:ZD X W)=>Zgc ka kn kc L p h k n a m c T M nm N' x' W ((hE.later ac).later hb) ((hL.later ac).later hb) ((hT.later ac).later hb) hr);clear hE hL hC hT hy hr an ap ac;go_enter func73,ntmps73;go_wp2_with fail;rw[<-hX];clear hX;refine CK.mono ?_;rintro e w1 ⟨rfl,aa⟩;have h1:=ZE aa bj;have h2:=ZE aa bk;have k0:=Zb h1 0 _ rfl;obtain⟨b0,b1,b2,b3,b4,-⟩:=kc5 h2;have l1:=lt_of_block h1;have l2:=lt_of_block h2;obtain⟨N1,bi⟩:=kh2 (NA w1 aa) (Zf ax aa);clear aa h1 h2 CK NA;go_wp2_with fail;refine N1.mono ?_;rintro e w2 ⟨a',n',c',a2,n2,c2,rfl,_,_,hI,hc,be⟩;have HF:Hid (NfR w (w2.alloc (dE #[F a' n' c'] 24)) N' x' (dF (dG #[F a2 n2 c2,E J x']))):=⟨a2,n2,c2,rfl,hI.later (Zh _ _),hc,Zf (Zf bi be) (Zh _ _)⟩;clear hI hc be;go_wp2;go_ret2;exact Za HF
 ·rw[if_pos ag] at hx;injection hx with e1 e2;subst e1 e2;have gy:(y != 0)=true:=by simp[ag]
  clear hE hL hC hT hy an ap ac ag;go_enter func73,ntmps73;go_wp2_with fail;rw[<-hX];clear hX;refine CK.mono ?_;rintro e w1 ⟨rfl,aa⟩;have HF:Hid (NfR w w1 [] y (dF (dG #[F none 0 0,E J y]))):=⟨none,0,0,rfl,Bk.IntsAt.nil _ _,aF _,Zf ax aa⟩;clear aa;go_wp2;go_ret2;exact Za HF
def At(m i:Nat):Value:=E J (((i+1) % m:Nat):Int)
theorem Zid(m:Nat)(w:World)(h0:0<m)(hm:m<=4) :
  Calls Tryz.prog 74 #[E J m] w λe w'=>e = dF (F (some ⟨w.heap.size,0,none⟩) m m)/\FillV w.heap.size 3 m (At m) w w' m:=by
 obtain⟨i0,hi,ap,aq,ar⟩:=info_parts Tryz.infoInt;go_enter func74,ntmps74
 go_wp2_with (at_make;refine wpList_make_full _ rfl _ _ 25 rfl w.heap.size 3 i0 (E J 0) 1 underlying25 hi ap aq .i64 .i64 _ _ m rfl rfl rfl rfl (by rw[ar];omega) (by unfold maxLen;omega) (aF _) ?_;intro w2 ae ad)
 have af:FillV w.heap.size 3 m (At m) w w2 0:=⟨⟨_,ae,λj hj=>absurd hj (by omega)⟩,(Below.refl _ _).grown ad (aF _) (λk h=>by cases h)⟩;have ah:=Zd af;clear af ae ad
 go_loopw [8] (λi wr=>∃ k:Nat,k<=m/\i = E J k/\FillV w.heap.size 3 m (At m) w wr k) (λi _=>m - (intOf i).toNat)
 case atStart=>exact⟨0,aI _,rfl,Za ah⟩
 case round=>
  obtain⟨k,hk,rfl,aa⟩:=hrel;have HF:=Zd aa;by_cases ab:k<m
  ·obtain⟨v,az⟩:=aa.old ab;have av:=aa.free k;have aw:=aa.lt;have ay:(m:Int)≠0:=by omega
   have an:((k:Int)+1).tmod (m:Int)=(((k+1) % m:Nat):Int):=by
    rw[show ((k:Int)+1)=((k+1:Nat):Int) by omega];rfl
   have am:(k+1) % m<m:=Nat.mod_lt _ h0;obtain⟨q,hq⟩:=ZF ((k+1) % m);rw[hq] at an am;have HQ:=Zd hq;clear aa hq;go_wp2;go_roundw
   case rel=>
    refine⟨k+1,by omega,by go_num,HF.step ab ?_⟩;unfold At;rw[Za HQ]
   case measure=>simp[intOf];omega
  ·clear aa;have e:k=m:=(by omega);subst e;clear hk ab;go_wp2;go_ret;exact⟨rfl,Za HF⟩
def rwN:Nat->Nat
 | 0=>64
 | n+1=>rwN n / 2
theorem H8:∀ n,rwN n<=64
 | 0=>aF _
 | n+1=>by
  have:=H8 n;unfold rwN;omega
def rwD(h:Int):Int×Int:=if (decide (1<=h) && decide (h<=1000))=true then ((rwN ((h - 1).toNat / 8):Nat),0) else (0,3)
theorem Nk(h r x:Int)(w:World)(hx:rwD h=(r,x)) :
  ZH 83 #[E J h] w (dG #[E J r,E J x]):=by
 unfold rwD at hx;cases q:(decide ((1:Int)<=h) && decide (h<=1000)) with
 | false=>
  rw[q,if_neg (by decide)] at hx;injection hx with e1 e2;subst e1 e2;have CC:=Zd (Yg h 1 1000 false w q);clear q;go_enter func83,ntmps83;go_wp2_with fail;refine CC.mono ?_;rintro e w1 ⟨rfl,ab⟩;have HB:=Zd ab;clear ab;go_wp2;go_ret2;exact⟨rfl,Za HB⟩
 | true=>
  rw[q,if_pos rfl] at hx;injection hx with e1 e2;subst e2;have CC:=Zd (Yg h 1 1000 true w q);rw[Bool.and_eq_true,decide_eq_true_eq,decide_eq_true_eq] at q;obtain⟨k,rfl⟩:∃ k:Nat,h=(k:Int)+1:=⟨(h - 1).toNat,by omega⟩;have hk:k<1000:=by omega
  rw[show (((k:Int)+1 - 1).toNat)=k by omega] at e1;obtain⟨n,hn⟩:=ZF (k / 8);have hq:((k:Int)).tdiv 8=(n:Int):=by rw[<-hn];rfl
  have ax:n<=125:=by omega
  rw[hn] at e1;have HR:=Zd e1;clear q e1 hn;go_enter func83,ntmps83;go_wp2_with fail;refine CC.mono ?_;rintro e w1 ⟨rfl,ab⟩;have HB:=Zd ab;clear ab;go_wp2
  go_loopw [4,11] (λv i wr=>∃ j:Nat,j<=n/\v = E J (rwN j:Nat)/\i = E J j/\Hid (ZD w wr)) (λ_ i _=>n - (intOf i).toNat)
  case atStart=>exact⟨0,aI _,rfl,rfl,HB⟩
  case round=>
   obtain⟨j,hj,rfl,rfl,aj⟩:=hrel;have ap:=H8 j;by_cases aw:j<n
   ·have hd:((rwN j:Nat):Int).tdiv 2=((rwN (j+1):Nat):Int):=rfl;have aq:=H8 (j+1);obtain⟨a,ha⟩:=ZF (rwN j);obtain⟨b,hb⟩:=ZF (rwN (j+1));rw[ha,hb] at hd;rw[ha] at ap;rw[hb] at aq;rw[ha];have ak:=Zd hb;clear ha hb;go_wp2;go_roundw
    case rel=>exact⟨j+1,by omega,by rw[Za ak],by go_num,aj⟩
    case measure=>simp[intOf];omega
   ·have e:j=n:=(by omega);subst e;go_wp2;go_ret2;exact⟨by rw[Za HR];rfl,Za aj⟩
