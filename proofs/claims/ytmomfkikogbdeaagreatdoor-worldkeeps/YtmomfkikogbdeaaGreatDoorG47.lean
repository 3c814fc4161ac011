import Derived.Test.YtmomfkikogbdeaaGreatDoorH
import Derived.Test.YtmomfkikogbdeaaGreatDoorG46
import Derived.Deep.SlicePairs
import Derived.HandedShaped
open Go.Proofs.Tryz
open Go renaming maxLen->cH,heap_alloc_new->aJ,DataW->cI,MemPlace->bL
open Go.DataW renaming trod->aU,trod_int->aS
open Go.Ending renaming returned->cS
open Go.IntKind renaming i64->J
open Go.Obj renaming cells->cR
open Go.Proofs.Tryz renaming prog->aA,underlying3->aK
open Go.Value renaming int->E,slice->F,bool->cV
open Go.World renaming block_lt_of_cell?->aD
open List renaming take_of_length_le->aN,length_eq_zero_iff->aG,length_append->bH
open List.cons renaming injEq->bC
open Nat renaming zero_le->aM,le_trans->aT,lt_of_lt_of_le->aC
set_option maxHeartbeats 12800000
namespace Go.Proofs.YtmomfkikogbdeaaGreatDoor
open Go.RowKit
def mvR1:Int×Zl×Dsk:=nmR [] [] [] [] 0 1 0 [(1,0),(7,0)]
def mvY(D:Dsk):Vo:=(D.n,D.t,D.p,D.tip)
def mvS0:WD:=⟨[],[n0,n0],[]⟩
def mvS1:WD:=⟨mvR1.2.2.k,[mvY mvR1.2.2,n0],[(1,0,1,0,mvR1.2.1,Xt)]⟩
def mvR2:Int×Int×Dsk:=ntR mvR1.2.2.k [] [] [] 0 mvR1.2.1
def mvS2:WD:=⟨mvR2.2.2.k,[mvY mvR1.2.2,mvY mvR2.2.2],[]⟩
def mvR4:Int×Zl×Dsk:=nmR mvR2.2.2.k mvR2.2.2.n mvR2.2.2.t mvR2.2.2.p mvR2.2.2.tip 1 0 [(1,0),(7,0)]
def Zmw:WD:=⟨mvR4.2.2.k,[mvY mvR1.2.2,mvY mvR4.2.2],[(1,1,0,0,mvR4.2.1,Xt)]⟩
theorem mv_1:mvS0.mine 0 1 0 0=(0,mvS1):=by kernel_rfl
theorem mv_2:(mvS1.lost 0).told 1 0 mvR1.2.1=mvS2:=by kernel_rfl
theorem mv_4:mvS2.mine 1 1 0 0=(0,Zmw):=by kernel_rfl
theorem Zln:Xl mvS0.k mvS0.n mvS0.m=0:=by kernel_rfl
theorem Zlm:Xl mvS1.k mvS1.n mvS1.m=0:=by kernel_rfl
theorem Zgx:Xl mvS2.k mvS2.n mvS2.m=0:=by kernel_rfl
theorem Zlo:Ym mvR1.2.1=0:=by kernel_rfl
theorem mv_b4:Ym mvR4.2.1=0:=by kernel_rfl
theorem mv_l1:mvR1.2.2.n.length=1:=by kernel_rfl
theorem mv_l2:mvR4.2.2.n.length=2:=by kernel_rfl
def mvS:Nat->WD:=λk=>if k=0 then mvS0 else if k=1 then mvS1 else if k<4 then mvS2 else Zmw
def mvX:Nat->Int:=λk=>if k=2 then 5 else 0
def mvH:Nat->Int×Int×Int×Int×Int×Int:=λk=>if k=0 then (1,0,0,0,1,0) else if k<3 then (3,0,0,0,0,0) else (1,1,0,0,1,0)
def mvW:Nat->WD:=λk=>if k=0 then mvS1 else if k<3 then mvS2 else Zmw
theorem Zmv:∀ k,k<4->Di (.agg #[E J (mvH k).1,E J (mvH k).2.1,E J (mvH k).2.2.1,E J (mvH k).2.2.2.1,E J (mvH k).2.2.2.2.1,E J (mvH k).2.2.2.2.2,E J 0,F none 0 0,F none 0 0]) (mvS k) (mvX k) (mvW k):=by
 intro k z
 match k,z with
 | 0,_=>exact Ss (W:=mvS0) (i:=0) (xi:=0) (xt:=0) (xw:=1) (xN:=0) Zln (by decide) (Tr.blk_small Zlo) mv_1
 | 1,_=>exact Pk (W:=mvS1) (k:=0) (ti:=1) (xn:=0) Zlm (by decide) ⟨rfl,rfl⟩ (by decide) mv_2
 | 2,_=>exact Zdf (W:=mvS2) (xi:=0) (xn:=0) rfl
 | 3,_=>exact Ss (W:=mvS2) (i:=1) (xi:=0) (xt:=0) (xw:=1) (xN:=0) Zgx (by decide) (Tr.blk_small mv_b4) mv_4
 | k+4,h=>exact absurd h (by omega)
set_option maxRecDepth 10000 in
theorem Zhs(b z c d n:Nat)(L:List Int)(w:World)(hn:n<=cH)(hz:L.length=n)(Q:∀ i (h:i<L.length),w.cell? ⟨b,i,none⟩=some (E J L[i]))(aa:∀ i (h:i<L.length),w.cell? ⟨z,i,none⟩=some (E J L[i])) :
  ZH 114 #[F (some ⟨b,0,none⟩) n c,F (some ⟨z,0,none⟩) n d] w (cV true):=by
 have HC:=Zd Q;have ae:=Zd aa;have HZ:=Zd hz;have g0:((n:Int) != (n:Int))=false:=by simp
 unfold cH at hn;clear Q aa hz;go_enter func114,ntmps114;go_wp2
 go_loopw [13] (λi wr=>∃ j m:Nat,j<=n/\i = E J j/\wr=w.drewN m) (λi _=>n - (intOf i).toNat)
 case atStart=>exact⟨0,0,aM _,rfl,rfl⟩
 case round=>
  obtain⟨j,m,hk,rfl,rfl⟩:=hrel;by_cases aj:j<n
  ·have h1:j<L.length:=(by rw[Za HZ];exact aj);have f1:=HC j h1;have f2:=ae j h1;obtain⟨s,hs⟩:=ZF (L[j]);rw[hs] at f1 f2;have g:(s != s)=false:=(by simp);clear hs;go_wp2
   go_quiet (fail)
   go_wp2;go_roundw
   case rel=>exact⟨j+1,m+nq,by omega,by go_num,rfl⟩
   case measure=>simp[intOf];omega
  ·go_wp2;go_ret;exact⟨rfl,Tr.below_dn _ _⟩
set_option maxRecDepth 10000 in
theorem Zcr(w:World)(hE:Env w):ZH 44 #[] w (cV true):=by
 obtain⟨X,hX⟩:=ZG (w.alloc (cR #[E J 1,E J 0,E J 0,E J 0,E J 1,E J 0,E J 0,F none 0 0,F none 0 0,E J 3,E J 0,E J 0,E J 0,E J 0,E J 0,E J 0,F none 0 0,F none 0 0,E J 3,E J 0,E J 0,E J 0,E J 0,E J 0,E J 0,F none 0 0,F none 0 0,E J 1,E J 1,E J 0,E J 0,E J 1,E J 0,E J 0,F none 0 0,F none 0 0] 103));have al:ZD w X:=by rw[hX];exact Zh _ _
 have x0:X.heap[w.heap.size]? = some (cR [E J 1,E J 0,E J 0,E J 0,E J 1,E J 0,E J 0,F none 0 0,F none 0 0,E J 3,E J 0,E J 0,E J 0,E J 0,E J 0,E J 0,F none 0 0,F none 0 0,E J 3,E J 0,E J 0,E J 0,E J 0,E J 0,E J 0,F none 0 0,F none 0 0,E J 1,E J 1,E J 0,E J 0,E J 1,E J 0,E J 0,F none 0 0,F none 0 0].toArray 103 (0,0)):=by rw[hX];exact aJ _ _
 have C1:=Zd (Zjc w.heap.size mvH mvS mvW mvX X (hE.later al) (lt_of_block x0) (λk hk j v z=>by
  refine Zb x0 _ _ ?_;have aj:j<9:=by have:=(List.getElem?_eq_some_iff.1 z).1;simpa using this
  match k,hk with
  | 0,_=>match j,aj with
   | 0,_=>exact z
   | 1,_=>exact z
   | 2,_=>exact z
   | 3,_=>exact z
   | 4,_=>exact z
   | 5,_=>exact z
   | 6,_=>exact z
   | 7,_=>exact z
   | 8,_=>exact z
   | j+9,h=>exact absurd h (by omega)
  | 1,_=>match j,aj with
   | 0,_=>exact z
   | 1,_=>exact z
   | 2,_=>exact z
   | 3,_=>exact z
   | 4,_=>exact z
   | 5,_=>exact z
   | 6,_=>exact z
   | 7,_=>exact z
   | 8,_=>exact z
   | j+9,h=>exact absurd h (by omega)
  | 2,_=>match j,aj with
   | 0,_=>exact z
   | 1,_=>exact z
   | 2,_=>exact z
   | 3,_=>exact z
   | 4,_=>exact z
   | 5,_=>exact z
   | 6,_=>exact z
   | 7,_=>exact z
   | 8,_=>exact z
   | j+9,h=>exact absurd h (by omega)
  | 3,_=>match j,aj with
   | 0,_=>exact z
   | 1,_=>exact z
   | 2,_=>exact z
   | 3,_=>exact z
   | 4,_=>exact z
   | 5,_=>exact z
   | 6,_=>exact z
   | 7,_=>exact z
   | 8,_=>exact z
   | j+9,h=>exact absurd h (by omega)
  | k+4,h=>exact absurd h (by omega)) rfl
  (λk hk=>by
   match k,hk with
   | 0,_=>exact Zln
   | 1,_=>exact Zlm
   | 2,_=>exact Zgx
   | 3,_=>exact Zgx
   | k+4,h=>exact absurd h (by omega))
  (λk hk m hm=>by
   match k,hk with
   | 0,_=>cases hm
   | 1,_=>
    rcases List.mem_singleton.1 hm with rfl
    exact⟨Tr.blk_small Zlo,aM _,aM _,by simp[Xt],by simp[Xt]⟩
   | 2,_=>cases hm
   | 3,_=>cases hm
   | k+4,h=>exact absurd h (by omega)) Zmv
  (λk hk=>by
   match k,hk with
   | 0,_=>rfl
   | 1,_=>rfl
   | 2,_=>rfl
   | 3,_=>rfl
   | k+4,h=>exact absurd h (by omega)))
 have au:=Zd al;clear hE al x0;go_enter func44,ntmps44;go_wp2_with fail;rw[<-hX];clear hX;(try go_wp2_with fail);refine C1.mono ?_;rintro e Q ⟨ka,kn,kc,na,nn,nc,ma,mn,mc,sd,rfl,⟨h1,h2,h3⟩,s1,s2,s3,h4,ay⟩;have aq:=onb au ay;obtain rfl:2=nn:=h2.1;obtain rfl:1=mn:=h3.1;obtain⟨gb,go,rfl,_,am⟩:=h2.2 (by decide);obtain⟨qa,qn,qc,qb,qm,qd,qp,qq,qr,c0,_,_,_,i0,_⟩:=am 0 (by decide);obtain⟨pa,pn,pc,pb,pm,pd,pp,pq,pr,c1,_,_,_,i1,_⟩:=am 1 (by decide);obtain rfl:1=qn:=by rw[<-i0.1];exact mv_l1.symm
 obtain rfl:2=pn:=by rw[<-i1.1];exact mv_l2.symm
 have c0:Q.cell? ⟨gb,go,none⟩=some (F qa 1 qc):=c0;have c1:Q.cell? ⟨gb,go+4,none⟩=some (F pa 2 pc):=c1;have bg:=aD _ _ c0;obtain⟨Y,hY⟩:=ZG ((Q.alloc (cR #[F ka kn kc,F (some ⟨gb,go,none⟩) 2 nc,F ma 1 mc] 90)).alloc (cR #[E J 0,E J 0,E J 5,E J 0] 30));have ae:ZD Q Y:=by rw[hY];exact Zf (Zh _ _) (Zh _ _)
 have y0:Y.heap[Q.heap.size]? = some (cR [F ka kn kc,F (some ⟨gb,go,none⟩) 2 nc,F ma 1 mc].toArray 90 (0,0)):=by rw[hY];exact Zk [cR #[F ka kn kc,F (some ⟨gb,go,none⟩) 2 nc,F ma 1 mc] 90,cR #[E J 0,E J 0,E J 5,E J 0] 30] Q 0 _ rfl
 have y1:Y.heap[Q.heap.size+1]? = some (cR [E J 0,E J 0,E J 5,E J 0].toArray 30 (0,0)):=by rw[hY];exact Zk [cR #[F ka kn kc,F (some ⟨gb,go,none⟩) 2 nc,F ma 1 mc] 90,cR #[E J 0,E J 0,E J 5,E J 0] 30] Q 1 _ rfl
 have y4:=ZE ae h4
 have C2:=Zd (Zhs sd (Q.heap.size+1) 4 4 4 [0,0,5,0] Y (by unfold cH;omega) rfl (λi hi=>by
  match i,hi with
  | 0,_=>exact Zb y4 0 _ rfl
  | 1,_=>exact Zb y4 1 _ rfl
  | 2,_=>exact Zb y4 2 _ rfl
  | 3,_=>exact Zb y4 3 _ rfl
  | i+4,h=>exact absurd h (by simp)) (λi hi=>by
  match i,hi with
  | 0,_=>exact Zb y1 0 _ rfl
  | 1,_=>exact Zb y1 1 _ rfl
  | 2,_=>exact Zb y1 2 _ rfl
  | 3,_=>exact Zb y1 3 _ rfl
  | i+4,h=>exact absurd h (by simp)))
 have ax:=Zd y0;have av:=Zd (Ze ae c0);have aw:=Zd (Ze ae c1);have ar:=onb aq ae;clear C1 ay ae y0 y1 y4 h1 h2 h3 h4 s1 s2 s3 am i0 i1 c0 c1 au aq;go_wp2_with fail;(try rw[<-hY]);clear hY;(try go_wp2_with fail);refine C2.mono ?_;rintro e w2 ⟨rfl,ad⟩;have be:=onb ar ad;obtain⟨r0,r1,r2,rl⟩:=cl3 (mvd ad ax);have d0:=Ze ad av;have d1:=Ze ad aw;have dl:=aD _ _ d0;clear ad C2 ax av aw ar bg;go_wp2;go_ret;exact⟨rfl,Za be⟩
open Go.RowKit Classical
theorem Zbw{x y:Zl}{o:Bool}(h:decide (x=y)=o):D9 x y=o:=by
 by_cases e:x=y
 ·rw[decide_eq_true e] at h;subst h;exact (Md x y).2 e
 ·rw[decide_eq_false e] at h;subst h;cases q:D9 x y
  ·rfl
  ·exact absurd ((Md x y).1 q) e
theorem Bx{x y}{o:Bool}(h:decide (x=y)=o):Wd x y=o:=by
 by_cases e:x=y
 ·rw[decide_eq_true e] at h;subst h;exact Rx e
 ·rw[decide_eq_false e] at h;subst h;exact Sk e
set_option maxRecDepth 10000 in
theorem Ap(b1 o1 b2 o2 n c d:Nat)(l k:List Zl)(o:Bool)(w:World)(hn:n<=cH)(z1:l.length=n)(z2:k.length=n)
  (h1:∀ i (h:i<l.length),Tr.BlkAt w b1 (o1+i*5) l[i]) (h2:∀ i (h:i<k.length),Tr.BlkAt w b2 (o2+i*5) k[i]) (ho:decide (l=k)=o) :
  ZH 122 #[F (some ⟨b1,o1,none⟩) n c,F (some ⟨b2,o2,none⟩) n d,.func (.func 37) #[] #[]] w (cV o):=by
 subst ho;unfold cH at hn;have H1:=Zd h1;have H2:=Zd h2;have Z1:=Zd z1;have Z2:=Zd z2;clear h1 h2 z1 z2;go_enter func122,ntmps122;go_wp2
 go_loopw [17] (λi wr=>∃ j:Nat,j<=n/\i = E J j/\ZD w wr/\Hid (l.take j=k.take j)) (λi _=>n - (intOf i).toNat)
 case atStart=>exact⟨0,aM _,rfl,Below.refl _ _,rfl⟩
 case round=>
  obtain⟨j,hk,rfl,hb,A⟩:=hrel;have HB:=Zd hb;by_cases bs:j<n
  ·have bd:j<l.length:=(by rw[Za Z1];exact bs);have be:j<k.length:=(by rw[Za Z2];exact bs);have g:=Tr.BlkAt.kept _ _ _ _ _ hb (H1 j bd);have f:=Tr.BlkAt.kept _ _ _ _ _ hb (H2 j be);have TS:=Zd (U5 bd be A);have TU:=Zd (Vf bd be);obtain⟨q,hq⟩:=ZF (l[j]);obtain⟨r,hr⟩:=ZF (k[j]);rw[hq] at g;rw[hr] at f;rw[hq,hr] at TS TU;obtain⟨Q,q2,q3,q4,qT⟩:=q;obtain⟨r1,r2,r3,r4,rT⟩:=r;obtain⟨g1,g2,g3,g4,qa,qn,qc,g6,az,bb⟩:=g;obtain⟨f1,f2,f3,f4,ra,rn,rc,f6,ay,br⟩:=f;simp only at g1 g2 g3 g4 g6 az bb f1 f2 f3 f4 f6 ay br;have cn:b2<wr.heap.size:=aD _ _ f1;have am:=Zf (Zh wr (cR #[E J Q,E J q2,E J q3,E J q4,F qa qn qc] 39)) (Zh _ (cR #[E J r1,E J r2,E J r3,E J r4,F ra rn rc] 39));have bj:=Zd am
   have C:Hid (∀ o,decide (((Q,q2,q3,q4,qT):Zl)=(r1,r2,r3,r4,rT))=o->Calls aA 37 #[.agg #[E J Q,E J q2,E J q3,E J q4,F qa qn qc],.agg #[E J r1,E J r2,E J r3,E J r4,F ra rn rc]] ((wr.alloc (cR #[E J Q,E J q2,E J q3,E J q4,F qa qn qc] 39)).alloc (cR #[E J r1,E J r2,E J r3,E J r4,F ra rn rc] 39)) λe w'=>e = cS (cV o)/\Below _ _ w'):=
    λo ho=>E9 Q q2 q3 q4 r1 r2 r3 r4 qa ra qn qc rn rc qT rT o _ bb.len (az.later am) (ay.later am) (Zbw ho)
   clear hq hr A hb am az bb ay br;by_cases z:((Q,q2,q3,q4,qT):Zl)=(r1,r2,r3,r4,rT)
   ·have T:=Zd (TS z);have C2:=Zd (C true (decide_eq_true z));clear TS TU C z;go_wp2_with fail;refine C2.mono ?_;rintro e w3 ⟨rfl,aj⟩;have aw:=Zd (Zf (Zf HB bj) aj);clear aj;go_wp2;go_roundw
    case rel=>exact⟨j+1,by omega,by go_num,Za aw,T⟩
    case measure=>simp[intOf];omega
   ·have U:Hid (decide (l=k)=false):=decide_eq_false (TU z);have C2:=Zd (C false (decide_eq_false z));clear TS TU C z;go_wp2_with fail;refine C2.mono ?_;rintro e w3 ⟨rfl,aj⟩;have aw:=Zd (Zf (Zf HB bj) aj);clear aj;go_wp2;go_ret;exact⟨by rw[Za U];rfl,Za aw⟩
  ·have U:Hid (decide (l=k)=true):=by
    have h:=Za A;rw[aN (by rw[Za Z1];omega),aN (by rw[Za Z2];omega)] at h;exact decide_eq_true h
   clear A hb;go_wp2;go_ret;exact⟨by rw[Za U];rfl,Za HB⟩
theorem Ar(a b)(n m c d:Nat)(v w)(h:n≠m) :
  Calls aA 122 #[F a n c,F b m d,v] w λe w'=>e = cS (cV false)/\w=w':=by
 have g:((n:Int) != (m:Int))=true:=by simp;omega
 clear h;go_enter func122,ntmps122;go_wp2;go_ret;exact⟨rfl,rfl⟩
theorem Aq(a b c d v w) :
  Calls aA 122 #[F a 0 c,F b 0 d,v] w λe w'=>e = cS (cV true)/\w=w':=by
 go_enter func122,ntmps122;go_wp2;refine wp_loop_rounds 1 ?_;rw[rounds_succ];go_wp2;go_ret;exact⟨rfl,rfl⟩
theorem Zdy(a b)(n m c d:Nat)(l k)(o:Bool)(w:World)(hn:n<=cH)(Q:RowsAt Tr.BlkAt 5 w a n l)(hB:RowsAt Tr.BlkAt 5 w b m k)(z:decide (l=k)=o) :
  ZH 122 #[F a n c,F b m d,.func (.func 37) #[] #[]] w (cV o):=by
 by_cases h:n=m
 ·subst h;by_cases h0:n=0
  ·subst h0;have e1:l=[]:=aG.1 Q.1;have e2:k=[]:=aG.1 hB.1;subst e1 e2;rw[decide_eq_true rfl] at z;subst z;exact (Aq a b c d _ w).mono λe w' ⟨h1,h2⟩=>⟨h1,h2 ▸ Below.refl _ _⟩
  ·obtain⟨b1,o1,rfl,_,h1⟩:=Q.2 (by omega);obtain⟨b2,o2,rfl,_,h2⟩:=hB.2 (by omega);exact Ap b1 o1 b2 o2 n c d l k o w hn Q.1 hB.1 h1 h2 z
 ·have e:l≠k:=λe=>h (by rw[<-Q.1,<-hB.1,e]);rw[decide_eq_false e] at z;subst z;exact (Ar a b n m c d _ w h).mono λe w' ⟨h1,h2⟩=>⟨h1,h2 ▸ Below.refl _ _⟩
set_option maxRecDepth 10000 in
theorem Zgu(na ba pa nn nc bn bc pn pc N T P)(tip:Int)(na' ba' pa' nn' nc' bn' bc' pn' pc' N' T' P')(tip':Int)(o:Bool)(w:World)(hN:Tr.IntsAt w na nn N)(hT:Tr.BlksAt w ba bn T)(hP:TxsAt w pa pn P)(sN:SlOk na nn nc)(sT:SlOk ba bn bc)(sP:SlOk pa pn pc)(be:Tr.IntsAt w na' nn' N')(bg:Tr.BlksAt w ba' bn' T')(bf:TxsAt w pa' pn' P')(z:decide (((N,T,P,tip):Vo)=(N',T',P',tip'))=o) :
  ZH 50 #[.agg #[F na nn nc,F ba bn bc,F pa pn pc,E J tip],.agg #[F na' nn' nc',F ba' bn' bc',F pa' pn' pc',E J tip']] w (cV o):=by
 obtain⟨X,hX⟩:=ZG (Yr w [cR #[F na nn nc,F ba bn bc,F pa pn pc,E J tip] 67,cR #[F na' nn' nc',F ba' bn' bc',F pa' pn' pc',E J tip'] 67]);have ar:X=(w.alloc (cR #[F na nn nc,F ba bn bc,F pa pn pc,E J tip] 67)).alloc (cR #[F na' nn' nc',F ba' bn' bc',F pa' pn' pc',E J tip'] 67):=hX;have aw:ZD w X:=by rw[hX];exact Zs _ _
 have Q:Hid (X.heap[w.heap.size]? = some (cR [F na nn nc,F ba bn bc,F pa pn pc,E J tip].toArray 67 (0,0))):=by rw[hX];exact Zk _ w 0 _ rfl
 have aa:Hid (X.heap[w.heap.size+1]? = some (cR [F na' nn' nc',F ba' bn' bc',F pa' pn' pc',E J tip'].toArray 67 (0,0))):=by rw[hX];exact Zk _ w 1 _ rfl
 obtain⟨o2,h2⟩:∃ o,decide (N=N')=o:=⟨_,rfl⟩;obtain⟨o3,h3⟩:∃ o,decide (T=T')=o:=⟨_,rfl⟩;obtain⟨o4,h4⟩:∃ o,decide (P=P')=o:=⟨_,rfl⟩;have C2:=Zd (Tr.eqInt_is na na' nn nn' nc nc' N N' o2 X sN.len (hN.later aw) (be.later aw) h2);have C3:=Zd (λV (hv:ZD w V)=>Zdy ba ba' bn bn' bc bc' T T' o3 V sT.len (hT.later hv) (bg.later hv) h3);have C4:=Zd (λV (hv:ZD w V)=>Aj pa pa' pn pn' pc pc' P P' o4 V sP.len (hP.later hv) (bf.later hv) (Bx h4))
 have z:o=(decide (tip=tip') && (o2 && (o3 && o4))):=by
  rw[<-z,<-h2,<-h3,<-h4];simp only[Prod.mk.injEq,Bool.decide_and];cases decide (tip=tip') <;> cases decide (N=N') <;> cases decide (T=T') <;> cases decide (P=P') <;> rfl
 have HB:=Zd aw;obtain⟨a0,a1,a2,a3,al⟩:=cl4 Q;obtain⟨b0,b1,b2,b3,bl⟩:=cl4 aa;clear hN hT hP sN sT sP be bg bf aw hX h2 h3 h4;by_cases ht:tip=tip';rotate_left
 ·have gt:(tip == tip')=false:=by simp[ht]
  rw[decide_eq_false ht] at z;subst z;clear C2 C3 C4;go_enter func50,ntmps50
  go_upto_region 1 with fail
  rw[<-ar];clear ar;go_wp2;go_ret;exact⟨rfl,Za HB⟩
 subst ht;rw[decide_eq_true rfl,Bool.true_and] at z;go_enter func50,ntmps50
 go_upto_region 1 with fail
 rw[<-ar];clear ar;go_wp2_with fail;refine C2.mono ?_;rintro e w1 ⟨rfl,au⟩;have ap:=onb HB au;have Q:=mvd au Q;have aa:=mvd au aa;clear au C2 HB a0 a1 a2 a3 al b0 b1 b2 b3 bl;obtain⟨a0,a1,a2,a3,al⟩:=cl4 Q;obtain⟨b0,b1,b2,b3,bl⟩:=cl4 aa;cases o2
 ·rw[Bool.false_and] at z;subst z;clear C3 C4;go_wp2;go_ret;exact⟨rfl,Za ap⟩
 rw[Bool.true_and] at z;have CC:=Zd (C3 w1 ap);clear C3;go_wp2_with fail;refine CC.mono ?_;rintro e w2 ⟨rfl,av⟩;have aq:=onb ap av;have Q:=mvd av Q;have aa:=mvd av aa;clear av CC ap a0 a1 a2 a3 al b0 b1 b2 b3 bl;obtain⟨a0,a1,a2,a3,al⟩:=cl4 Q;obtain⟨b0,b1,b2,b3,bl⟩:=cl4 aa;cases o3
 ·rw[Bool.false_and] at z;subst z;clear C4;go_wp2;go_ret;exact⟨rfl,Za aq⟩
 rw[Bool.true_and] at z;subst z;have CC:=Zd (C4 w2 aq);clear C4;go_wp2_with fail;refine CC.mono ?_;rintro e w3 ⟨rfl,bh⟩;have bj:=onb aq bh;clear bh CC aq Q aa a0 a1 a2 a3 al b0 b1 b2 b3 bl;go_wp2;go_ret;exact⟨rfl,Za bj⟩
open Go.RowKit Classical
theorem WorldAt.later{w w':World}{W:WD}{ka na ma kn nn mn}(h:WorldAt w W ka kn na nn ma mn)(z:ZD w w'):WorldAt w' W ka kn na nn ma mn:=⟨h.1.later z,h.2.1.later z,h.2.2.later z⟩
theorem Pb{w a n}{K M:List ByteArray}(h:Bk.TextsAt w a n (K++M)):Bk.TextsAt w a K.length K/\K.length<=n:=by
 have Q:=h.1;rw[bH] at Q;refine⟨⟨rfl,λh0=>?_⟩,by omega⟩;obtain⟨b,o,e,z⟩:=h.2 (by omega);refine⟨b,o,e,λi hi=>?_⟩;rw[z i (by rw[bH];omega),List.getElem_append_left hi]
theorem H8{w a n}{K M:List Int}(h:Tr.IntsAt w a n (K++M)):Tr.IntsAt w a K.length K/\K.length<=n:=by
 have Q:=h.1;rw[bH] at Q;refine⟨⟨rfl,λh0=>?_⟩,by omega⟩;obtain⟨b,o,e,aa,z⟩:=h.2 (by omega);refine⟨b,o,e,aa,λi hi=>?_⟩;rw[z i (by rw[bH];omega),List.getElem_append_left hi]
set_option maxRecDepth 10000 in
theorem Gm(ka kn kc na nn nc ma mn mc)(W:WD)(xk xn xt xi xw xN th:Int)(ai ao ni ci no co I O)(w:World)(hE:Env w)(hW:WorldAt w W ka kn na nn ma mn)(sK:SlOk ka kn kc)(sN:SlOk na nn nc)(sM:SlOk ma mn mc)(fg:∀ y∈W.n,Vr y)(dx:∀ m∈W.m,Uv m)(hI:InsAt w ai ni I)(hO:OutsAt w ao no O)(sI:SlOk ai ni ci)(sO:SlOk ao no co)(hz:Tr.TxSmall (th,I,O)) :
  ZH 14 #[.agg #[F ka kn kc,F na nn nc,F ma mn mc],.agg #[E J xk,E J xn,E J xt,E J xi,E J xw,E J xN,E J th,F ai ni ci,F ao no co]] w (cV true):=by
 obtain⟨X,hX⟩:=ZG (Yr w [cR #[F ka kn kc,F na nn nc,F ma mn mc] 90,cR #[E J xk,E J xn,E J xt,E J xi,E J xw,E J xN,E J th,F ai ni ci,F ao no co] 103]);have ev:X=(w.alloc (cR #[F ka kn kc,F na nn nc,F ma mn mc] 90)).alloc (cR #[E J xk,E J xn,E J xt,E J xi,E J xw,E J xN,E J th,F ai ni ci,F ao no co] 103):=hX;have aq:ZD w X:=by rw[hX];exact Zs _ _
 have HX:Hid (X.heap[w.heap.size]? = some (cR [F ka kn kc,F na nn nc,F ma mn mc].toArray 90 (0,0))):=by rw[hX];exact Zk _ w 0 _ rfl
 have hh:X.heap[w.heap.size+1]? = some (cR [E J xk,E J xn,E J xt,E J xi,E J xw,E J xN,E J th,F ai ni ci,F ao no co].toArray 103 (0,0)):=by rw[hX];exact Zk _ w 1 _ rfl
 obtain⟨x0,h0⟩:∃ x,Xl W.k W.n W.m=x:=⟨_,rfl⟩
 obtain⟨y,W',hH,et⟩:∃ y W',(x0=0->HapP (λU=>Env U/\InsAt U ai ni I/\OutsAt U ao no O) (.agg #[E J xk,E J xn,E J xt,E J xi,E J xw,E J xN,E J th,F ai ni ci,F ao no co]) W y W')/\(x0=0->y=0->Wu W W'):=by
  by_cases q:x0=0
  ·obtain⟨y,W',a,b⟩:=Zhv (xk:=xk) (xn:=xn) (xt:=xt) (xi:=xi) (xw:=xw) (xN:=xN) (h0.trans q) dx sI sO hz;exact⟨y,W',λ_=>a,λ_=>b⟩
  ·exact⟨0,W,λe=>absurd e q,λe=>absurd e q⟩
 obtain⟨x,hx⟩:=ZF ((if x0=0 then y else x0))
 have en:Hid (x=0->Wu W W'):=λe=>by
  by_cases q:x0=0
  ·rw[if_pos q] at hx;exact et q (hx.trans e)
  ·rw[if_neg q] at hx;exact absurd (hx.trans e) q
 have C1:=Zd (Zag _ ka kn kc na nn nc ma mn mc xk xn xt xi xw xN th ai ao ni ci no co W x0 y x W' X (hE.later aq) (hW.1.later aq) (hW.2.1.later aq) (hW.2.2.later aq) sK sN sM fg dx h0 (λU hu=>⟨hE.later (Zf aq hu),hI.later (Zf aq hu),hO.later (Zf aq hu)⟩) hH hx);have HE:=Zd hE;have HW:=Zd hW;have HB:=Zd aq;have HS:=Zd (And.intro sK sN);have du:=Zd hW.2.1.1;have MV:=Zd (λV (Q:ZD w V)=>Zcr V (hE.later Q));have c0:=Zb hh 0 _ rfl;have c1:=Zb hh 1 _ rfl;have c2:=Zb hh 2 _ rfl;have c3:=Zb hh 3 _ rfl;have c4:=Zb hh 4 _ rfl;have c5:=Zb hh 5 _ rfl;have c6:=Zb hh 6 _ rfl;have c7:=Zb hh 7 _ rfl;have c8:=Zb hh 8 _ rfl;have gn:=lt_of_block hh;obtain⟨z0,z1,z2,zl⟩:=cl3 HX;clear hE hW sK sN sM fg dx hI hO sI sO hz h0 hH et hx hh aq hX;go_enter func14,ntmps14
 go_upto_region 1 with fail
 rw[<-ev];clear ev;go_wp2_with fail;refine C1.mono ?_;rintro e w1 ⟨dc,hr⟩;clear C1 c0 c1 c2 c3 c4 c5 c6 c7 c8 gn z0 z1 z2 zl
 rcases hr with ⟨dy,rfl⟩|⟨dy,k1,bb,az,n1,ed,dg,m1,df,de,rfl,hF,s1,s2,s3⟩
 ·have iy:(x != 0)=true:=by simp[dy]
  obtain⟨Y,hY⟩:=ZG (w1.alloc (cR #[F none 0 0,F none 0 0,F none 0 0] 90));have bj:ZD w1 Y:=by rw[hY];exact Zh _ _
  have HB:=onb HB (Zf dc bj);clear dc bj HX
  go_upto_region 2 with fail
  rw[<-hY];clear hY;go_wp2_with fail;refine (MV _ HB).mono ?_;rintro e w2 ⟨rfl,ax⟩;have HB:=onb HB ax;clear ax;go_wp2_with fail;refine (MV _ HB).mono ?_;rintro e w3 ⟨rfl,ez⟩;have HB:=onb HB ez;clear ez MV;go_wp2;go_ret;exact⟨rfl,Za HB⟩
 subst dy;obtain⟨p1,p2,⟨M,p3⟩,jj,p4⟩:=en rfl;obtain⟨Y,hY⟩:=ZG (w1.alloc (cR #[F k1 bb az,F n1 ed dg,F m1 df de] 90));have bj:ZD w1 Y:=by rw[hY];exact Zh _ _
 have HY:Hid (Y.heap[w1.heap.size]? = some (cR [F k1 bb az,F n1 ed dg,F m1 df de].toArray 90 (0,0))):=by rw[hY];exact aJ _ _
 have hF:=hF.now.later bj;have e1:nn=ed:=by rw[<-Za du,<-p2];exact hF.2.1.1
 subst e1;have HF:=Zd hF;have fx:=Zd p4;have fw:=Zd p2;have gv:kn<=bb:=by have:=hF.1;rw[p3] at this;rw[<-(Za HW).1.1];exact (Pb this).2
 have HB:=onb HB (Zf dc bj);have HX:=mvd (Zf dc bj) HX;have CE:=Zd (λV (Q:ZD Y V)=>Bk.eqStr_is k1 ka kn kn az kc W.k W.k true V (aT HS.1.1 HS.1.2.1) (by have q:=(hF.later Q).1;rw[p3] at q;have:=(Pb q).1;rw[(Za HW).1.1] at this;exact this) (HW.later (Zf HB Q)).1 (by simp));have CC:=Zd (λV (Q:ZD Y V)=>L4 k1 bb az W'.k n1 nn dg W'.n m1 df de W'.m 0 V (HE.later (Zf HB Q)) (hF.later Q).1 (hF.later Q).2.1 (hF.later Q).2.2 (λy hy=>Qc ((Yc p1).2.2.2.2.2.1 y hy)) p1);have gq:(kn:Int)<=(az:Int):=by have:=s1.1;omega
 have gs:¬(bb:Int)<(kn:Int):=by omega
 have gu:decide ((bb:Int)<(kn:Int))=false:=by simp;omega
 have ip:nn<=4:=by have:=(Yc p1).2.1;rw[p2,Za du] at this;exact this
 have BY:Hid (ZD Y Y):=Below.refl _ _;clear dc bj hF p1 p2 p3 p4 s1 s2 s3 en
 go_upto_region 2 with fail
 rw[<-hY];clear hY;go_wp2_with fail;refine (MV _ HB).mono ?_;rintro e w2 ⟨rfl,ax⟩;have HB:=onb HB ax;have HX:=mvd ax HX;have HY:=mvd ax HY;have BY:=onb BY ax;clear ax MV
 go_upto_region 4 with fail
 have KS:Hid (∀ U:World,ZD w2 U->(U.cell? ⟨w.heap.size,0,none⟩=some (F ka kn kc)/\U.cell? ⟨w.heap.size,1,none⟩=some (F na nn nc)/\U.cell? ⟨w.heap.size,2,none⟩=some (F ma mn mc)/\w.heap.size<U.heap.size/\U.cell? ⟨w1.heap.size,0,none⟩=some (F k1 bb az)/\U.cell? ⟨w1.heap.size,1,none⟩=some (F n1 nn dg)/\U.cell? ⟨w1.heap.size,2,none⟩=some (F m1 df de)/\w1.heap.size<U.heap.size)):=λU hu=>⟨Ze hu (Zb HX 0 _ rfl),Ze hu (Zb HX 1 _ rfl),Ze hu (Zb HX 2 _ rfl),aC (lt_of_block HX) hu.size,Ze hu (Zb HY 0 _ rfl),Ze hu (Zb HY 1 _ rfl),Ze hu (Zb HY 2 _ rfl),aC (lt_of_block HY) hu.size⟩
 go_cut [65] from 28 to 64 (λib wx=>ib = cV false/\Hid (ZD w2 wx))
 case first=>
  have ab:=Zi w2;refine wp_region_held_drew (S:=λU=>(U.cell? ⟨w.heap.size,0,none⟩=some (F ka kn kc)/\U.cell? ⟨w.heap.size,1,none⟩=some (F na nn nc)/\U.cell? ⟨w.heap.size,2,none⟩=some (F ma mn mc)/\w.heap.size<U.heap.size/\U.cell? ⟨w1.heap.size,0,none⟩=some (F k1 bb az)/\U.cell? ⟨w1.heap.size,1,none⟩=some (F n1 nn dg)/\U.cell? ⟨w1.heap.size,2,none⟩=some (F m1 df de)/\w1.heap.size<U.heap.size)) (by kernel_rfl) (KS _ ab) (λz=>?_);refine tkJ 0 rfl z ?_;refine tkL 1 rfl z ?_;refine tkJ 2 rfl z ?_;refine tkJ 3 rfl z ?_;refine tkL 4 rfl z ?_;refine tkJ 5 rfl z ?_;refine tkJ 6 (v:=cV false) rfl z ?_;refine tkJ 7 rfl z ?_;refine tkJ 8 rfl z ?_;refine tkJ 9 rfl z ?_;refine tkL 10 rfl z ?_;refine tkJ 11 rfl z ?_;refine tkJ 12 rfl z ?_;refine tkJ 13 rfl z ?_;refine tkL 14 rfl z ?_;refine tkJ 15 rfl z ?_;refine tkJ 16 (v:=cV false) rfl z ?_;refine tkJ 17 (v:=cV false) rfl z ?_;refine tkJ 18 rfl z ?_;refine tkJ 19 rfl z ?_;refine tkJ 20 rfl z ?_;refine tkL 21 rfl z ?_;refine tkJ 22 rfl z ?_;refine tkJ 23 rfl z ?_;refine tkL 24 rfl z ?_;refine tkJ 25 rfl z ?_;refine tkJ 26 (v:=F k1 kn az) rfl z ?_;refine tkJ 27 rfl z ?_;refine tkJ 28 rfl z ?_;refine tkL 29 rfl z ?_;refine rdS 30 rfl (CE _ (Zf BY ab)) ?_;rintro e w3 ⟨rfl,ay⟩;have ab:=Zf ab ay;clear ay;clear z;refine⟨_,rfl,(KS _ ab),λz=>?_⟩;refine tkJ 31 rfl z ?_;refine tkJ 32 (v:=cV false) rfl z ?_;refine tkJ 33 rfl z ?_;refine tkL 34 rfl z ?_;refine rdS 35 rfl (CC _ (Zf BY ab)) ?_
  rintro e w4 ⟨rfl,ay⟩;have ab:=Zf ab ay;clear ay;clear z;refine⟨_,rfl,(KS _ ab),λz=>?_⟩;refine tkJ 36 (v:=cV false) rfl z ?_;refine tkJ 37 (v:=cV false) rfl z ?_;refine wpAnyH_done (by kernel_rfl) ?_ _;clear z;go_wp2_with fail;go_meet
  case rel=>exact⟨rfl,ab⟩
 case rest=>
  obtain⟨rfl,HR⟩:=hcut;have dd:=Za HR;have HX:=mvd dd HX;have HY:=mvd dd HY;have HF:=Zd (HF.later (Zf BY dd));have HB:=onb HB dd;clear dd HR KS CE CC BY gq gs gu gv;obtain⟨z0,z1,z2,zl⟩:=cl3 HX;go_wp2_with fail
  go_loopw [7,69] (λc i U=>∃ j d:Nat,j<=nn/\i = E J j/\c = E J d/\(d=0\/(d=1/\jj<j))/\Hid (ZD wc U)) (λ_ i _=>nn - (intOf i).toNat)
  case atStart=>exact⟨0,0,aM _,rfl,rfl,.inl rfl,Below.refl _ _⟩
  case round=>
   obtain⟨j,d,hj,rfl,rfl,hd,HG⟩:=hrel;clear z0 z1 z2 zl;have HX:=mvd HG HX;have HY:=mvd HG HY;have el:=onb HB HG;have fv:=Zd (HF.later HG);by_cases fc:j<nn;rotate_left
   ·have gp:j=nn:=(by omega);have hd1:(d:Int)<=1:=(by omega);subst gp;clear fc;obtain⟨z0,z1,z2,zl⟩:=cl3 HX;go_wp2;go_ret;exact⟨rfl,Za el⟩
   have dv:j<W.n.length:=(by rw[Za du];exact fc);have fb:j<W'.n.length:=(by rw[Za fw];exact dv);have im:(j:Int)<(nn:Int):=(by omega);obtain⟨⟨⟨Ms,g1⟩,v,u,g2,g3,g4⟩,g5⟩:=fx j dv fb;obtain⟨ob,oo,gl,_,fe⟩:=(HW.later el).2.1.2 (by omega);subst gl;obtain⟨rb,ro,gj,_,ff⟩:=fv.2.1.2 (by omega);subst gj;have ha:=fe j dv;have hr:=ff j fb;obtain⟨⟨N,T,P,wt⟩,hy⟩:=ZF (W.n[j]);obtain⟨⟨N',T',P',ut⟩,fh⟩:=ZF (W'.n[j]);rw[hy] at ha g1 g2 g5;rw[fh] at hr g1 g3 g5;obtain⟨qa,qn,qc,qb,qm,qd,qp,qq,qr,v0,v1,v2,v3,iN,iT,iP,dh,eg,fs⟩:=ha;obtain⟨ra,rn,rc,rd,rm,re,rp,rq,rr,t0,t1,t2,t3,jN,jT,jP,eh,ft,ih⟩:=hr;simp only at v3 t3 iN iT iP jN jT jP g1 g2 g3 g4;obtain⟨o,ho⟩:=ZF (decide (((N,T,P,wt):Vo)=(N',T',P',ut)))
   have fd:o=false->j=jj:=λe=>by
    by_cases q:j=jj
    ·exact q
    ·exact absurd (g5 q).symm (of_decide_eq_false (ho.trans e))
   have lN:N.length=qn:=iN.1;have gy:qn<=rn:=(by rw[g1] at jN;rw[<-lN];exact (H8 jN).2);obtain⟨Z,hZ⟩:=ZG (Yr wr [cR #[F qa qn qc,F qb qm qd,F qp qq qr,E J wt] 67,cR #[F ra rn rc,F rd rm re,F rp rq rr,E J ut] 67]);have ew:Z=(wr.alloc (cR #[F qa qn qc,F qb qm qd,F qp qq qr,E J wt] 67)).alloc (cR #[F ra rn rc,F rd rm re,F rp rq rr,E J ut] 67):=hZ;have aj:ZD wr Z:=(by rw[hZ];exact Zs _ _);have HN:Hid (Z.heap[wr.heap.size]? = some (cR [F qa qn qc,F qb qm qd,F qp qq qr,E J wt].toArray 67 (0,0))):=(by rw[hZ];exact Zk _ wr 0 _ rfl);have HM:Hid (Z.heap[wr.heap.size+1]? = some (cR [F ra rn rc,F rd rm re,F rp rq rr,E J ut].toArray 67 (0,0))):=(by rw[hZ];exact Zk _ wr 1 _ rfl);have CE:=Zd (λV (Q:ZD Z V)=>Tr.eqInt_is ra qa qn qn rc qc N N true V (aT dh.1 dh.2.1) (by have q:=jN.later (Zf aj Q);rw[g1] at q;have:=(H8 q).1;rw[lN] at this;exact this) (iN.later (Zf aj Q)) (by simp));have CV:=Zd (λV (Q:ZD Z V)=>Tr.work_is qa qb qn qc qm qd N T wt v 0 V (iN.later (Zf aj Q)) (iT.later (Zf aj Q)) dh eg g2);have CU:=Zd (λV (Q:ZD Z V)=>Tr.work_is ra rd rn rc rm re N' T' ut u 0 V (jN.later (Zf aj Q)) (jT.later (Zf aj Q)) eh ft g3)
   have CS:=Zd (λV (Q:ZD Z V)=>Zgu qa qb qp qn qc qm qd qq qr N T P wt ra rd rp rn rc rm re rq rr N' T' P' ut o V (iN.later (Zf aj Q)) (iT.later (Zf aj Q)) (iP.later (Zf aj Q)) dh eg fs (jN.later (Zf aj Q)) (jT.later (Zf aj Q)) (jP.later (Zf aj Q)) ho);have gw:(qn:Int)<=(rc:Int):=(by have:=eh.1;omega);have gx:¬(rn:Int)<(qn:Int):=(by omega);have ix:¬u<v:=(by omega);have vl:=aD _ _ v0;have tl:=aD _ _ t0;obtain⟨z0,z1,z2,zl⟩:=cl3 HX;obtain⟨d0,d1,d2,dl⟩:=cl3 HY;have BZ:Hid (ZD Z Z):=Below.refl _ _;have HG:=onb HG aj;have eo:=Zd fd;have HD:=Zd hd;clear hZ fe ff g1 g2 g3 g5 hy fh iN iT iP jN jT jP dh eg fs eh ft ih ho fd lN aj hd
   go_upto_region 11 with fail
   rw[<-ew];clear ew v0 v1 v2 v3 vl t0 t1 t2 t3 tl z0 z1 z2 zl d0 d1 d2 dl;have KS:Hid (∀ U:World,ZD Z U->(U.cell? ⟨wr.heap.size,0,none⟩=some (F qa qn qc)/\U.cell? ⟨wr.heap.size,1,none⟩=some (F qb qm qd)/\U.cell? ⟨wr.heap.size,2,none⟩=some (F qp qq qr)/\U.cell? ⟨wr.heap.size,3,none⟩=some (E J wt)/\wr.heap.size<U.heap.size/\U.cell? ⟨wr.heap.size+1,0,none⟩=some (F ra rn rc)/\U.cell? ⟨wr.heap.size+1,1,none⟩=some (F rd rm re)/\U.cell? ⟨wr.heap.size+1,2,none⟩=some (F rp rq rr)/\U.cell? ⟨wr.heap.size+1,3,none⟩=some (E J ut)/\wr.heap.size+1<U.heap.size)):=λU hu=>⟨Ze hu (Zb HN 0 _ rfl),Ze hu (Zb HN 1 _ rfl),Ze hu (Zb HN 2 _ rfl),Ze hu (Zb HN 3 _ rfl),aC (lt_of_block HN) hu.size,Ze hu (Zb HM 0 _ rfl),Ze hu (Zb HM 1 _ rfl),Ze hu (Zb HM 2 _ rfl),Ze hu (Zb HM 3 _ rfl),aC (lt_of_block HM) hu.size⟩;have ab:=Zi Z;refine wp_region_held_drew (S:=λU=>(U.cell? ⟨wr.heap.size,0,none⟩=some (F qa qn qc)/\U.cell? ⟨wr.heap.size,1,none⟩=some (F qb qm qd)/\U.cell? ⟨wr.heap.size,2,none⟩=some (F qp qq qr)/\U.cell? ⟨wr.heap.size,3,none⟩=some (E J wt)/\wr.heap.size<U.heap.size/\U.cell? ⟨wr.heap.size+1,0,none⟩=some (F ra rn rc)/\U.cell? ⟨wr.heap.size+1,1,none⟩=some (F rd rm re)/\U.cell? ⟨wr.heap.size+1,2,none⟩=some (F rp rq rr)/\U.cell? ⟨wr.heap.size+1,3,none⟩=some (E J ut)/\wr.heap.size+1<U.heap.size)) (by kernel_rfl) (KS _ ab) (λz=>?_);refine tkJ 0 rfl z ?_;refine tkJ 1 rfl z ?_
   refine tkL 2 rfl z ?_;refine tkJ 3 rfl z ?_;refine tkJ 4 rfl z ?_;refine tkJ 5 rfl z ?_;refine tkL 6 rfl z ?_;refine tkJ 7 rfl z ?_;refine tkJ 8 (v:=cV false) rfl z ?_;refine tkJ 9 rfl z ?_;refine tkJ 10 rfl z ?_;refine tkJ 11 rfl z ?_;refine tkL 12 rfl z ?_;refine tkJ 13 rfl z ?_;refine tkJ 14 rfl z ?_;refine tkL 15 rfl z ?_;refine tkJ 16 rfl z ?_;refine tkJ 17 (v:=F ra qn rc) rfl z ?_;refine tkJ 18 rfl z ?_;refine tkJ 19 rfl z ?_;refine tkL 20 rfl z ?_;refine rdS 21 rfl (CE _ ab) ?_;rintro e w5 ⟨rfl,ay⟩;have ab:=Zf ab ay;clear ay;clear z;refine⟨_,rfl,(KS _ ab),λz=>?_⟩;refine tkJ 22 rfl z ?_;refine tkJ 23 (v:=cV false) rfl z ?_;refine wpAnyH_done (by kernel_rfl) ?_ _;clear z KS CE gw gx gy;have HN:=mvd ab HN;have HM:=mvd ab HM;have BZ:=onb BZ ab;have HG:=onb HG ab;clear ab;obtain⟨a0,a1,a2,a3,al⟩:=cl4 HN;obtain⟨c0,c1,c2,c3,cl⟩:=cl4 HM;have au:=Zd (CV _ BZ);clear CV;go_wp2_with fail;refine au.mono ?_;rintro e w6 ⟨rfl,hb⟩;have HN:=mvd hb HN;have HM:=mvd hb HM;have BZ:=onb BZ hb;have HG:=onb HG hb;clear hb au a0 a1 a2 a3 al c0 c1 c2 c3 cl;obtain⟨a0,a1,a2,a3,al⟩:=cl4 HN;obtain⟨c0,c1,c2,c3,cl⟩:=cl4 HM;have au:=Zd (CU _ BZ);clear CU;go_wp2_with fail;refine au.mono ?_;rintro e w7 ⟨rfl,hb⟩;have HN:=mvd hb HN;have HM:=mvd hb HM;have BZ:=onb BZ hb;have HG:=onb HG hb;clear hb au a0 a1 a2 a3 al c0 c1 c2 c3 cl;obtain⟨a0,a1,a2,a3,al⟩:=cl4 HN;obtain⟨c0,c1,c2,c3,cl⟩:=cl4 HM;have au:=Zd (CS _ BZ);clear CS;go_wp2_with fail;refine au.mono ?_;rintro e w8 ⟨rfl,hb⟩
   have HN:=mvd hb HN;have HM:=mvd hb HM;have BZ:=onb BZ hb;have HG:=onb HG hb;clear hb au a0 a1 a2 a3 al c0 c1 c2 c3 cl;clear HN HM BZ;cases o;rotate_left
   ·go_wp2;go_roundw
    case rel=>exact⟨j+1,d,by omega,by go_num,rfl,by have:=Za HD;omega,HG⟩
    case measure=>simp[intOf];omega
   have io:=eo rfl;obtain rfl:d=0:=(by have:=Za HD;omega);clear eo HD;go_wp2;go_roundw
   case rel=>exact⟨j+1,1,by omega,by go_num,rfl,.inr ⟨rfl,by omega⟩,HG⟩
   case measure=>simp[intOf];omega
open Go.ChangeShapes Go.WideShapes Go.ChangeAt Go.RowKit
theorem own:ownKnob Tryz.prog.godebug=none:=by kernel_rfl
theorem Tu:laidOutB aA=true:=by kernel_rfl
theorem Tryz.cellsOp:Tryz.prog.cellsOf 164=2:=by kernel_rfl
theorem Tryz.cells3:Tryz.prog.cellsOf 3=1:=by kernel_rfl
theorem Tp{H:Type}{enc:TypeId×Value->H}{W}{sp:Nat->Bool}{held:Bool}{fuel:Nat}{a len cap}{x:cI H×List bL}
  (h:aU enc aA W 0 sp held fuel 48 [F a len cap]=some x):(∃ l,OpsAt W a len l)/\(a=none->len=0/\cap=0):=by
 rcases Deep.open_slice_pairs underlying48 underlying164 Tryz.cellsOp rfl rfl Tryz.cells3 Tryz.cells3 h with ⟨z,_⟩|⟨b,l,c,m,n,V0,V1,D0,D1,P0,P1,z,_,hl,_,hm,_,ae⟩
 ·simp at z;obtain⟨rfl,rfl,rfl⟩:=z;exact⟨⟨[],rfl,λh=>absurd h (by omega)⟩,λ_=>⟨rfl,rfl⟩⟩
 ·simp at z;obtain⟨rfl,rfl,rfl⟩:=z;refine⟨?_,λh=>by cases h⟩;have ax:len<=m:=by rw[hm];split <;> omega
  have each:∀ i,i<len->∃ q:Int×Int,W.cell? (b.add (i*2))=some (.int .i64 q.1)/\W.cell? (b.add (i*2+1))=some (.int .i64 q.2):=λi hi=>by
   obtain⟨h1,h2,t1,t2⟩:=ae i (by omega);obtain⟨z1,e1,_,_⟩:=aS aK t1;obtain⟨z2,e2,_,_⟩:=aS aK t2;simp only[bC,and_true] at e1 e2;exact⟨(z1,z2),by rw[h1,e1],by rw[h2,e2]⟩
  obtain⟨f,hf⟩:=Deep.choose_lt each;refine⟨(List.range len).map f,by simp,λag=>?_⟩;obtain⟨Q,off,aj⟩:=b;have ah:aj=none:=by simpa[Addr.add] using World.cell?_spot (hf 0 ag).1
  subst ah;refine⟨Q,off,rfl,λi hi=>?_⟩;have ac:∀ j,(⟨Q,off,none⟩:Addr).add j=⟨Q,off+j,none⟩:=λj=>by unfold Addr.add;split <;> simp_all
  have h1:=hf i hi;rw[ac,ac] at h1;rw[<-Nat.add_assoc] at h1;simpa[hi] using h1
theorem Tryz.cellsTx:Tryz.prog.cellsOf 59=3:=by kernel_rfl
theorem Tryz.cellsIn:Tryz.prog.cellsOf 119=3:=by kernel_rfl
theorem Tryz.cellsOut:Tryz.prog.cellsOf 122=2:=by kernel_rfl
theorem Tryz.cellsPoint:Tryz.prog.cellsOf 117=2:=by kernel_rfl
theorem Tryz.cellsOps:Tryz.prog.cellsOf 48=1:=by kernel_rfl
theorem Tryz.cellsIns:Tryz.prog.cellsOf 56=1:=by kernel_rfl
theorem Tryz.cellsOuts:Tryz.prog.cellsOf 57=1:=by kernel_rfl
theorem list_two{cs:List Value}(h:cs.length=2):∃ a b,cs=[a,b]:=by
 match cs,h with
 | [a,b],_=>exact⟨a,b,rfl⟩
theorem list_three{cs:List Value}(h:cs.length=3):∃ a b c,cs=[a,b,c]:=by
 match cs,h with
 | [a,b,c],_=>exact⟨a,b,c,rfl⟩
section
variable {H : Type} {enc : TypeId × Value -> H} {W : World} {sp : Nat -> Bool} {held : Bool} {fuel : Nat}
theorem ops_full{v}{x:cI H×List bL}(h:aU enc aA W 0 sp held fuel 48 [v]=some x):∃ a n c l,v = F a n c/\OpsAt W a n l/\SlOk a n c:=by
 have h':=h
 rcases Deep.open_slice underlying48 h with ⟨z,_⟩|⟨b,l,c,m,n,D,Pl,z,_,hl,hm,_⟩
 ·simp at z;subst z;exact⟨none,0,0,[],rfl,⟨rfl,λh=>absurd h (by omega)⟩,Nat.le_refl _,aM _,λ_=>⟨rfl,rfl⟩⟩
 ·simp at z;subst z;obtain⟨⟨L,Q⟩,_⟩:=Tp h';exact⟨some b,l,c,L,rfl,Q,hl,hm,λh=>by cases h⟩
theorem Zau{cs}{x:cI H×List bL}(h:aU enc aA W 0 sp held fuel 119 cs=some x):∃ z Q a n c l,cs=[.int .i64 z,.int .i64 Q,F a n c]/\OpsAt W a n l/\SlOk a n c:=by
 obtain⟨y0,y1,k,_,hl,h0,h1⟩:=trod_struct2 underlying119 h;rw[Tryz.cellsIn] at hl;obtain⟨c0,c1,c2,rfl⟩:=list_three hl;simp[Tryz.cellsPoint,Tryz.cellsOps] at h0 h1;obtain⟨z0,z1,k2,_,_,g0,g1⟩:=trod_struct2 underlying117 h0;simp[Tryz.cells3] at g0 g1;obtain⟨z,e1,_,_⟩:=aS aK g0;obtain⟨Q,e2,_,_⟩:=aS aK g1;obtain⟨a,n,c,l,rfl,hO,hS⟩:=ops_full h1;simp only[bC,and_true] at e1 e2;subst e1 e2;exact⟨z,Q,a,n,c,l,rfl,hO,hS⟩
theorem Fp{cs}{x:cI H×List bL}(h:aU enc aA W 0 sp held fuel 122 cs=some x):∃ z a n c l,cs=[.int .i64 z,F a n c]/\OpsAt W a n l/\SlOk a n c:=by
 obtain⟨y0,y1,k,_,hl,h0,h1⟩:=trod_struct2 underlying122 h;rw[Tryz.cellsOut] at hl;obtain⟨c0,c1,rfl⟩:=list_two hl;simp[Tryz.cells3,Tryz.cellsOps] at h0 h1;obtain⟨z,Q,_,_⟩:=aS aK h0;obtain⟨a,n,c,l,rfl,hO,hS⟩:=ops_full h1;simp only[bC,and_true] at Q;subst Q;exact⟨z,a,n,c,l,rfl,hO,hS⟩
end
namespace Bk
open Go.ChangeShapes Go.WideShapes Go.ChangeAt Go.RowKit
theorem own:ownKnob Tryz.prog.godebug=none:=by kernel_rfl
theorem Tu:laidOutB aA=true:=by kernel_rfl
theorem Tryz.cells9:Tryz.prog.cellsOf 9=1:=by kernel_rfl
theorem Tryz.cellsStrs:Tryz.prog.cellsOf 22=1:=by kernel_rfl
theorem Tryz.cellsBook:Tryz.prog.cellsOf 24=1:=by kernel_rfl
section
variable {H : Type} {enc : TypeId × Value -> H} {W : World} {sp : Nat -> Bool} {held : Bool} {fuel : Nat}
theorem Zbp{v}{x:cI H×List bL}(h:aU enc aA W 0 sp held fuel 22 [v]=some x) :
  ∃ a n c L,v = F a n c/\TextsAt W a n L/\SlOk a n c/\(n=0\/∃ aa aj,x.1 = .slice aa aj/\aa.length=n):=by
 rcases Deep.open_strs underlying22 underlying9 Tryz.cells9 h with ⟨z,_⟩|⟨b,l,c,m,Sx,z,_,hl,hm,ag,hx,ab⟩
 ·simp at z;subst z;exact⟨none,0,0,[],rfl,TextsAt.nil _ _,SlOk.nil,Or.inl rfl⟩
 ·simp at z;subst z;have an:l<=m:=by rw[ag];split <;> omega
  refine⟨some b,l,c,(List.range l).map Sx,rfl,⟨by simp,λap=>?_⟩,⟨hl,hm,λh=>by cases h⟩,Or.inr ⟨_,_,by rw[hx],by simp⟩⟩;obtain⟨Q,off,ak⟩:=b;have z0:=(ab 0 (by omega)).1;have ah:ak=none:=by simpa[Addr.add] using World.cell?_spot z0
  subst ah;have ad:∀ j,(⟨Q,off,none⟩:Addr).add j=⟨Q,off+j,none⟩:=λj=>by unfold Addr.add;split <;> simp_all
  refine⟨Q,off,rfl,λi hi=>?_⟩;have am:i<l:=by simpa using hi
  have q:=(ab i (by omega)).1;rw[ad] at q;rw[List.getElem_map,List.getElem_range];exact q
theorem book_full{cs}{x:cI H×List bL}(h:aU enc aA W 0 sp held fuel 24 cs=some x):∃ a n c L,cs=[F a n c]/\TextsAt W a n L/\SlOk a n c:=by
 obtain⟨y0,k,_,z,h0⟩:=trod_struct1 underlying24 h;rw[Tryz.cellsBook] at z;obtain⟨c0,rfl⟩:=List.length_eq_one_iff.1 z;simp[Tryz.cellsStrs] at h0;obtain⟨a,n,c,L,rfl,hT,Q,_⟩:=Zbp h0;exact⟨a,n,c,L,rfl,hT,Q⟩
end
end Bk
open Go.ChangeShapes Go.WideShapes Go.ChangeAt Go.RowKit
theorem Tryz.cellsBlk:Tryz.prog.cellsOf 39=5:=by kernel_rfl
theorem Tryz.cellsTxs:Tryz.prog.cellsOf 37=1:=by kernel_rfl
theorem list_five{cs:List Value}(h:cs.length=5):∃ a b c d e,cs=[a,b,c,d,e]:=by
 match cs,h with
 | [a,b,c,d,e],_=>exact⟨a,b,c,d,e,rfl⟩
section
variable {H : Type} {enc : TypeId × Value -> H} {W : World} {sp : Nat -> Bool} {held : Bool} {fuel : Nat}
theorem Tf{t:TypeId}{z Q f2 f3 f4:Field}{cs:List Value}{x:cI H×List bL}(ht:Tryz.prog.underlying t=some (.struct #[z,Q,f2,f3,f4]))(h:aU enc aA W 0 sp held fuel t cs=some x) :
  ∃ y0 y1 y2 y3 y4 n,cs.length=Tryz.prog.cellsOf t/\aU enc aA W 0 sp held n z.type ((cs.drop z.offset).take (Tryz.prog.cellsOf z.type))=some y0 /\
   aU enc aA W 0 sp held n Q.type ((cs.drop Q.offset).take (Tryz.prog.cellsOf Q.type))=some y1/\aU enc aA W 0 sp held n f2.type ((cs.drop f2.offset).take (Tryz.prog.cellsOf f2.type))=some y2 /\
   aU enc aA W 0 sp held n f3.type ((cs.drop f3.offset).take (Tryz.prog.cellsOf f3.type))=some y3/\aU enc aA W 0 sp held n f4.type ((cs.drop f4.offset).take (Tryz.prog.cellsOf f4.type))=some y4:=by
 obtain⟨xs,n,_,rfl,hl,al,hf⟩:=DataW.trod_struct ht h
 match xs,al with
 | [y0,y1,y2,y3,y4],_=>exact⟨y0,y1,y2,y3,y4,n,hl,by simpa using hf 0 z rfl,by simpa using hf 1 Q rfl,by simpa using hf 2 f2 rfl,by simpa using hf 3 f3 rfl,by simpa using hf 4 f4 rfl⟩
end
set_option maxRecDepth 100000 in
theorem Np{H:Type}{enc:TypeId×Value->H}{os:Os}{f:FuncId}{fn:Func}{s:ChangeSpec}{X:World->Prop}(hX:∀ w w':World,w.heap=w'.heap->X w->X w')
  (ap:os.Started) (an:Tryz.checked.prog.inits.idxOf? f=none) (ag:Tryz.checked.prog.funcs[f]? = some fn)
  (aq:∃ (w:World) (tape:Tape) (i:Input),w.os=os/\(w.forCall tape i).Shaped Tryz.checked.prog/\i.vars=[]/\Input.okWide Tryz.checked.prog (w.forCall tape i) .any w.heap.size f i /\
   ((s.pre enc Tryz.checked.prog fn [] false (w.forCall tape i).memory i.args/\X (w.forCall tape i).memory)/\sizedMet enc Tryz.checked.prog fn (OpenSpec.ofChange s) false (w.forCall tape i).memory i.args)/\({}:Assume).holds Tryz.checked.prog (lone (Frame.enter Tryz.checked.prog f i.args .normal) [] (w.forCall tape i)))
  (ac:∀ (W:World) (base:Nat) (args:Array Value) (z Q:List (cI H)) (aa:List bL),
   (∀ (j:Nat) t v,fn.params[j]? = some t->args[j]? = some v->Value.okWide Tryz.checked.prog W .any base t v) ->
   DataW.Whole enc Tryz.checked.prog fn.params.toList s.vars false W args.toList z Q aa->X W->(DataW.weightsEach Tryz.checked.prog (fn.params.toList++s.plain.varTypes Tryz.checked.prog) (z++Q)).all (·<=reachBytes)=true ->
   Calls Tryz.checked.prog f args W λe W'=>∃ v,e = cS v/\s.post enc Tryz.checked.prog fn false true false false W args v W') :
  ReturnsInHanded {} Tryz.checked os f .any (λw args=>(s.pre enc Tryz.checked.prog fn [] false w args/\X w)/\sizedMet enc Tryz.checked.prog fn (OpenSpec.ofChange s) false w args) (s.post enc Tryz.checked.prog fn false true false false):=by
 refine returnsInHanded_of_calls own ap an aq ?_;intro w tape i _ _ _ aj ak _;obtain⟨_,_,_,ad,ah,_,_,_,_,al⟩:=aj;obtain rfl:ad=fn:=Option.some.inj (ah.symm.trans ag);obtain⟨⟨⟨z,Q,aa,hw,_⟩,hx⟩,hz⟩:=ak;refine (ac (w.forCall tape i) w.heap.size i.args z Q aa al (DataW.Whole.of_heap (w':=w.forCall tape i) (by rfl) hw) (hX _ _ (by rfl) hx) (hz.weights hw)).mono λe W' ⟨v,he,hp⟩=>?_;subst he;exact ChangeSpec.post_blind hp
