import Derived.Test.YtmomfkikogbdeaaGreatDoorH
import Derived.Test.YtmomfkikogbdeaaGreatDoorG45
open Go.Proofs.Tryz
open Go renaming maxLen->bP,heap_alloc_new->aR,lt_of_block->aA,wp_loop_rounds->cG,rounds_succ->bD
open Go.Ending renaming returned->cY
open Go.IntKind renaming i64->J
open Go.Obj renaming cells->cW
open Go.Proofs.Tryz renaming prog->aB
open Go.RowKit renaming intOf->cE,Below->aD
open Go.Value renaming int->E,slice->F,bool->dB
open Go.World renaming block_lt_of_cell?->aF
open List renaming take_of_length_le->aL,length_eq_zero_iff->aI
open Nat renaming zero_le->aQ
set_option maxHeartbeats 12800000
set_option maxRecDepth 10000
namespace Go.Proofs.YtmomfkikogbdeaaGreatDoor
open Go.RowKit
def mvR1:Int×Zl×Dsk:=nmR [] [] [] [] 0 1 0 [(1,0),(7,0)]
def mvY(D:Dsk):Vu:=(D.n,D.t,D.p,D.tip)
def mvS0:WD:=⟨[],[n0,n0],[]⟩
def mvS1:WD:=⟨mvR1.2.2.k,[mvY mvR1.2.2,n0],[(1,0,1,0,mvR1.2.1,Vw)]⟩
def mvR2:Int×Int×Dsk:=ntR mvR1.2.2.k [] [] [] 0 mvR1.2.1
def mvS2:WD:=⟨mvR2.2.2.k,[mvY mvR1.2.2,mvY mvR2.2.2],[]⟩
def mvR4:Int×Zl×Dsk:=nmR mvR2.2.2.k mvR2.2.2.n mvR2.2.2.t mvR2.2.2.p mvR2.2.2.tip 1 0 [(1,0),(7,0)]
def Zjm:WD:=⟨mvR4.2.2.k,[mvY mvR1.2.2,mvY mvR4.2.2],[(1,1,0,0,mvR4.2.1,Vw)]⟩
theorem mv_1:mvS0.mine 0 1 0 0=(0,mvS1):=by kernel_rfl
theorem mv_2:(mvS1.lost 0).told 1 0 mvR1.2.1=mvS2:=by kernel_rfl
theorem mv_4:mvS2.mine 1 1 0 0=(0,Zjm):=by kernel_rfl
theorem Zie:Vv mvS0.k mvS0.n mvS0.m=0:=by kernel_rfl
theorem Zid:Vv mvS1.k mvS1.n mvS1.m=0:=by kernel_rfl
theorem Zdy:Vv mvS2.k mvS2.n mvS2.m=0:=by kernel_rfl
theorem Zif:Yn mvR1.2.1=0:=by kernel_rfl
theorem mv_b4:Yn mvR4.2.1=0:=by kernel_rfl
theorem mv_l1:mvR1.2.2.n.length=1:=by kernel_rfl
theorem mv_l2:mvR4.2.2.n.length=2:=by kernel_rfl
def mvS:Nat->WD:=λk=>if k=0 then mvS0 else if k=1 then mvS1 else if k<4 then mvS2 else Zjm
def mvX:Nat->Int:=λk=>if k=2 then 5 else 0
def mvH:Nat->Int×Int×Int×Int×Int×Int:=λk=>if k=0 then (1,0,0,0,1,0) else if k<3 then (3,0,0,0,0,0) else (1,1,0,0,1,0)
def mvW:Nat->WD:=λk=>if k=0 then mvS1 else if k<3 then mvS2 else Zjm
theorem Zjl:∀ k,k<4->Hp (.agg #[E J (mvH k).1,E J (mvH k).2.1,E J (mvH k).2.2.1,E J (mvH k).2.2.2.1,E J (mvH k).2.2.2.2.1,E J (mvH k).2.2.2.2.2,E J 0,F none 0 0,F none 0 0]) (mvS k) (mvX k) (mvW k):=by
 intro k z
 match k,z with
 | 0,_=>exact Le (W:=mvS0) (i:=0) (xi:=0) (xt:=0) (xw:=1) (xN:=0) Zie (by decide) (Tr.blk_small Zif) mv_1
 | 1,_=>exact Qq (W:=mvS1) (k:=0) (ti:=1) (xn:=0) Zid (by decide) ⟨rfl,rfl⟩ (by decide) mv_2
 | 2,_=>exact Zaw (W:=mvS2) (xi:=0) (xn:=0) rfl
 | 3,_=>exact Le (W:=mvS2) (i:=1) (xi:=0) (xt:=0) (xw:=1) (xN:=0) Zdy (by decide) (Tr.blk_small mv_b4) mv_4
 | k+4,h=>exact absurd h (by omega)
theorem Zeo(b z c d n:Nat)(L:List Int)(w:World)(hn:n<=bP)(hz:L.length=n)(Q:∀ i (h:i<L.length),w.cell? ⟨b,i,none⟩=some (E J L[i]))(aa:∀ i (h:i<L.length),w.cell? ⟨z,i,none⟩=some (E J L[i])) :
  ZH 114 #[F (some ⟨b,0,none⟩) n c,F (some ⟨z,0,none⟩) n d] w (dB true):=by
 have HC:=Zd Q;have ae:=Zd aa;have HZ:=Zd hz;have g0:((n:Int) != (n:Int))=false:=by simp
 unfold bP at hn;clear Q aa hz;go_enter func114,ntmps114;go_wp2
 go_loopw [13] (λi wr=>∃ j m:Nat,j<=n/\i = E J j/\wr=w.drewN m) (λi _=>n - (cE i).toNat)
 case atStart=>exact⟨0,0,aQ _,rfl,rfl⟩
 case round=>
  obtain⟨j,m,hk,rfl,rfl⟩:=hrel;by_cases aj:j<n
  ·have h1:j<L.length:=(by rw[Za HZ];exact aj);have f1:=HC j h1;have f2:=ae j h1;obtain⟨s,hs⟩:=ZF (L[j]);rw[hs] at f1 f2;have g:(s != s)=false:=(by simp);clear hs;go_wp2
   go_quiet (fail)
   go_wp2;go_roundw
   case rel=>exact⟨j+1,m+nq,by omega,by go_num,rfl⟩
   case measure=>simp[cE];omega
  ·go_wp2;go_ret;exact⟨rfl,Tr.below_dn _ _⟩
theorem Zam(w:World)(hE:Env w):ZH 44 #[] w (dB true):=by
 obtain⟨X,hX⟩:=ZG (w.alloc (cW #[E J 1,E J 0,E J 0,E J 0,E J 1,E J 0,E J 0,F none 0 0,F none 0 0,E J 3,E J 0,E J 0,E J 0,E J 0,E J 0,E J 0,F none 0 0,F none 0 0,E J 3,E J 0,E J 0,E J 0,E J 0,E J 0,E J 0,F none 0 0,F none 0 0,E J 1,E J 1,E J 0,E J 0,E J 1,E J 0,E J 0,F none 0 0,F none 0 0] 103));have al:aD w.heap.size w X:=by rw[hX];exact Zh _ _
 have x0:X.heap[w.heap.size]? = some (cW [E J 1,E J 0,E J 0,E J 0,E J 1,E J 0,E J 0,F none 0 0,F none 0 0,E J 3,E J 0,E J 0,E J 0,E J 0,E J 0,E J 0,F none 0 0,F none 0 0,E J 3,E J 0,E J 0,E J 0,E J 0,E J 0,E J 0,F none 0 0,F none 0 0,E J 1,E J 1,E J 0,E J 0,E J 1,E J 0,E J 0,F none 0 0,F none 0 0].toArray 103 (0,0)):=by rw[hX];exact aR _ _
 have C1:=Zd (Zfx w.heap.size mvH mvS mvW mvX X (hE.later al) (aA x0) (λk hk j v z=>by
  refine Zb x0 _ _ ?_;have aj:j<9:=by have:=(List.getElem?_eq_some_iff.1 z).1;simpa using this
  match k,hk with
  | 0,_=>match j,aj with
   | 0,_=>exact z
   | 1,_=>exact z
   | 2,_=>exact z
   | 3,_=>exact z
   | 4,_=>exact z
   | 5,_=>exact z
   | 6,_=>exact z
   | 7,_=>exact z
   | 8,_=>exact z
   | j+9,h=>exact absurd h (by omega)
  | 1,_=>match j,aj with
   | 0,_=>exact z
   | 1,_=>exact z
   | 2,_=>exact z
   | 3,_=>exact z
   | 4,_=>exact z
   | 5,_=>exact z
   | 6,_=>exact z
   | 7,_=>exact z
   | 8,_=>exact z
   | j+9,h=>exact absurd h (by omega)
  | 2,_=>match j,aj with
   | 0,_=>exact z
   | 1,_=>exact z
   | 2,_=>exact z
   | 3,_=>exact z
   | 4,_=>exact z
   | 5,_=>exact z
   | 6,_=>exact z
   | 7,_=>exact z
   | 8,_=>exact z
   | j+9,h=>exact absurd h (by omega)
  | 3,_=>match j,aj with
   | 0,_=>exact z
   | 1,_=>exact z
   | 2,_=>exact z
   | 3,_=>exact z
   | 4,_=>exact z
   | 5,_=>exact z
   | 6,_=>exact z
   | 7,_=>exact z
   | 8,_=>exact z
   | j+9,h=>exact absurd h (by omega)
  | k+4,h=>exact absurd h (by omega)) rfl
  (λk hk=>by
   match k,hk with
   | 0,_=>exact Zie
   | 1,_=>exact Zid
   | 2,_=>exact Zdy
   | 3,_=>exact Zdy
   | k+4,h=>exact absurd h (by omega))
  (λk hk m hm=>by
   match k,hk with
   | 0,_=>cases hm
   | 1,_=>
    rcases List.mem_singleton.1 hm with rfl
    exact⟨Tr.blk_small Zif,aQ _,aQ _,by simp[Vw],by simp[Vw]⟩
   | 2,_=>cases hm
   | 3,_=>cases hm
   | k+4,h=>exact absurd h (by omega)) Zjl
  (λk hk=>by
   match k,hk with
   | 0,_=>rfl
   | 1,_=>rfl
   | 2,_=>rfl
   | 3,_=>rfl
   | k+4,h=>exact absurd h (by omega)))
 have au:=Zd al;clear hE al x0;go_enter func44,ntmps44;go_wp2_with fail;rw[<-hX];clear hX;(try go_wp2_with fail);refine C1.mono ?_;rintro e Q ⟨ka,kn,kc,na,nn,nc,ma,mn,mc,sd,rfl,⟨h1,h2,h3⟩,s1,s2,s3,h4,ay⟩;have aq:=onb au ay;obtain rfl:2=nn:=h2.1;obtain rfl:1=mn:=h3.1;obtain⟨gb,go,rfl,_,am⟩:=h2.2 (by decide);obtain⟨qa,qn,qc,qb,qm,qd,qp,qq,qr,c0,_,_,_,i0,_⟩:=am 0 (by decide);obtain⟨pa,pn,pc,pb,pm,pd,pp,pq,pr,c1,_,_,_,i1,_⟩:=am 1 (by decide);obtain rfl:1=qn:=by rw[<-i0.1];exact mv_l1.symm
 obtain rfl:2=pn:=by rw[<-i1.1];exact mv_l2.symm
 have c0:Q.cell? ⟨gb,go,none⟩=some (F qa 1 qc):=c0;have c1:Q.cell? ⟨gb,go+4,none⟩=some (F pa 2 pc):=c1;have bg:=aF _ _ c0;obtain⟨Y,hY⟩:=ZG ((Q.alloc (cW #[F ka kn kc,F (some ⟨gb,go,none⟩) 2 nc,F ma 1 mc] 90)).alloc (cW #[E J 0,E J 0,E J 5,E J 0] 30));have ae:aD Q.heap.size Q Y:=by rw[hY];exact Zf (Zh _ _) (Zh _ _)
 have y0:Y.heap[Q.heap.size]? = some (cW [F ka kn kc,F (some ⟨gb,go,none⟩) 2 nc,F ma 1 mc].toArray 90 (0,0)):=by rw[hY];exact Zk [cW #[F ka kn kc,F (some ⟨gb,go,none⟩) 2 nc,F ma 1 mc] 90,cW #[E J 0,E J 0,E J 5,E J 0] 30] Q 0 _ rfl
 have y1:Y.heap[Q.heap.size+1]? = some (cW [E J 0,E J 0,E J 5,E J 0].toArray 30 (0,0)):=by rw[hY];exact Zk [cW #[F ka kn kc,F (some ⟨gb,go,none⟩) 2 nc,F ma 1 mc] 90,cW #[E J 0,E J 0,E J 5,E J 0] 30] Q 1 _ rfl
 have y4:=ZE ae h4
 have C2:=Zd (Zeo sd (Q.heap.size+1) 4 4 4 [0,0,5,0] Y (by unfold bP;omega) rfl (λi hi=>by
  match i,hi with
  | 0,_=>exact Zb y4 0 _ rfl
  | 1,_=>exact Zb y4 1 _ rfl
  | 2,_=>exact Zb y4 2 _ rfl
  | 3,_=>exact Zb y4 3 _ rfl
  | i+4,h=>exact absurd h (by simp)) (λi hi=>by
  match i,hi with
  | 0,_=>exact Zb y1 0 _ rfl
  | 1,_=>exact Zb y1 1 _ rfl
  | 2,_=>exact Zb y1 2 _ rfl
  | 3,_=>exact Zb y1 3 _ rfl
  | i+4,h=>exact absurd h (by simp)))
 have ax:=Zd y0;have av:=Zd (Ze ae c0);have aw:=Zd (Ze ae c1);have ar:=onb aq ae;clear C1 ay ae y0 y1 y4 h1 h2 h3 h4 s1 s2 s3 am i0 i1 c0 c1 au aq;go_wp2_with fail;(try rw[<-hY]);clear hY;(try go_wp2_with fail);refine C2.mono ?_;rintro e w2 ⟨rfl,ad⟩;have be:=onb ar ad;obtain⟨r0,r1,r2,rl⟩:=cl3 (mvd ad ax);have d0:=Ze ad av;have d1:=Ze ad aw;have dl:=aF _ _ d0;clear ad C2 ax av aw ar bg;go_wp2;go_ret;exact⟨rfl,Za be⟩
open Go.RowKit Classical
theorem Ez{x y:Zl}{o:Bool}(h:decide (x=y)=o):Nr x y=o:=by
 by_cases e:x=y
 ·rw[decide_eq_true e] at h;subst h;exact (Ku x y).2 e
 ·rw[decide_eq_false e] at h;subst h;cases q:Nr x y
  ·rfl
  ·exact absurd ((Ku x y).1 q) e
theorem Ah{x y:List TxD}{o:Bool}(h:decide (x=y)=o):Xl x y=o:=by
 by_cases e:x=y
 ·rw[decide_eq_true e] at h;subst h;exact Jz e
 ·rw[decide_eq_false e] at h;subst h;exact Th e
theorem Fb(b1 o1 b2 o2 n c d:Nat)(l k:List Zl)(o:Bool)(w:World)(hn:n<=bP)(z1:l.length=n)(z2:k.length=n)
  (h1:∀ i (h:i<l.length),Tr.BlkAt w b1 (o1+i*5) l[i]) (h2:∀ i (h:i<k.length),Tr.BlkAt w b2 (o2+i*5) k[i]) (ho:decide (l=k)=o) :
  ZH 122 #[F (some ⟨b1,o1,none⟩) n c,F (some ⟨b2,o2,none⟩) n d,.func (.func 37) #[] #[]] w (dB o):=by
 subst ho;unfold bP at hn;have H1:=Zd h1;have H2:=Zd h2;have Z1:=Zd z1;have Z2:=Zd z2;clear h1 h2 z1 z2;go_enter func122,ntmps122;go_wp2
 go_loopw [17] (λi wr=>∃ j:Nat,j<=n/\i = E J j/\aD w.heap.size w wr/\Hid (l.take j=k.take j)) (λi _=>n - (cE i).toNat)
 case atStart=>exact⟨0,aQ _,rfl,Below.refl _ _,rfl⟩
 case round=>
  obtain⟨j,hk,rfl,hb,A⟩:=hrel;have HB:=Zd hb;by_cases bs:j<n
  ·have bd:j<l.length:=(by rw[Za Z1];exact bs);have be:j<k.length:=(by rw[Za Z2];exact bs);have g:=Tr.BlkAt.kept _ _ _ _ _ hb (H1 j bd);have f:=Tr.BlkAt.kept _ _ _ _ _ hb (H2 j be);have TS:=Zd (Ue bd be A);have TU:=Zd (Wt bd be);obtain⟨q,hq⟩:=ZF (l[j]);obtain⟨r,hr⟩:=ZF (k[j]);rw[hq] at g;rw[hr] at f;rw[hq,hr] at TS TU;obtain⟨Q,q2,q3,q4,qT⟩:=q;obtain⟨r1,r2,r3,r4,rT⟩:=r;obtain⟨g1,g2,g3,g4,qa,qn,qc,g6,az,bb⟩:=g;obtain⟨f1,f2,f3,f4,ra,rn,rc,f6,ay,br⟩:=f;simp only at g1 g2 g3 g4 g6 az bb f1 f2 f3 f4 f6 ay br;have cn:b2<wr.heap.size:=aF _ _ f1;have am:=Zf (Zh wr (cW #[E J Q,E J q2,E J q3,E J q4,F qa qn qc] 39)) (Zh _ (cW #[E J r1,E J r2,E J r3,E J r4,F ra rn rc] 39));have bj:=Zd am
   have C:Hid (∀ o,decide (((Q,q2,q3,q4,qT):Zl)=(r1,r2,r3,r4,rT))=o->Calls aB 37 #[.agg #[E J Q,E J q2,E J q3,E J q4,F qa qn qc],.agg #[E J r1,E J r2,E J r3,E J r4,F ra rn rc]] ((wr.alloc (cW #[E J Q,E J q2,E J q3,E J q4,F qa qn qc] 39)).alloc (cW #[E J r1,E J r2,E J r3,E J r4,F ra rn rc] 39)) λe w'=>e = cY (dB o)/\aD _ _ w'):=
    λo ho=>Cf Q q2 q3 q4 r1 r2 r3 r4 qa ra qn qc rn rc qT rT o _ bb.len (az.later am) (ay.later am) (Ez ho)
   clear hq hr A hb am az bb ay br;by_cases z:((Q,q2,q3,q4,qT):Zl)=(r1,r2,r3,r4,rT)
   ·have T:=Zd (TS z);have C2:=Zd (C true (decide_eq_true z));clear TS TU C z;go_wp2_with fail;refine C2.mono ?_;rintro e w3 ⟨rfl,aj⟩;have aw:=Zd (Zf (Zf HB bj) aj);clear aj;go_wp2;go_roundw
    case rel=>exact⟨j+1,by omega,by go_num,Za aw,T⟩
    case measure=>simp[cE];omega
   ·have U:Hid (decide (l=k)=false):=decide_eq_false (TU z);have C2:=Zd (C false (decide_eq_false z));clear TS TU C z;go_wp2_with fail;refine C2.mono ?_;rintro e w3 ⟨rfl,aj⟩;have aw:=Zd (Zf (Zf HB bj) aj);clear aj;go_wp2;go_ret;exact⟨by rw[Za U];rfl,Za aw⟩
  ·have U:Hid (decide (l=k)=true):=by
    have h:=Za A;rw[aL (by rw[Za Z1];omega),aL (by rw[Za Z2];omega)] at h;exact decide_eq_true h
   clear A hb;go_wp2;go_ret;exact⟨by rw[Za U];rfl,Za HB⟩
theorem Fd(a b:Option Addr)(n m c d:Nat)(v:Value)(w:World)(h:n≠m) :
  Calls aB 122 #[F a n c,F b m d,v] w λe w'=>e = cY (dB false)/\w=w':=by
 have g:((n:Int) != (m:Int))=true:=by simp;omega
 clear h;go_enter func122,ntmps122;go_wp2;go_ret;exact⟨rfl,rfl⟩
theorem Fc(a b:Option Addr)(c d:Nat)(v:Value)(w:World) :
  Calls aB 122 #[F a 0 c,F b 0 d,v] w λe w'=>e = cY (dB true)/\w=w':=by
 go_enter func122,ntmps122;go_wp2;refine cG 1 ?_;rw[bD];go_wp2;go_ret;exact⟨rfl,rfl⟩
theorem Zbg(a b:Option Addr)(n m c d:Nat)(l k:List Zl)(o:Bool)(w:World)(hn:n<=bP)(Q:RowsAt Tr.BlkAt 5 w a n l)(hB:RowsAt Tr.BlkAt 5 w b m k)(z:decide (l=k)=o) :
  ZH 122 #[F a n c,F b m d,.func (.func 37) #[] #[]] w (dB o):=by
 by_cases h:n=m
 ·subst h;by_cases h0:n=0
  ·subst h0;have e1:l=[]:=aI.1 Q.1;have e2:k=[]:=aI.1 hB.1;subst e1 e2;rw[decide_eq_true rfl] at z;subst z;exact (Fc a b c d _ w).mono λe w' ⟨h1,h2⟩=>⟨h1,h2 ▸ Below.refl _ _⟩
  ·obtain⟨b1,o1,rfl,_,h1⟩:=Q.2 (by omega);obtain⟨b2,o2,rfl,_,h2⟩:=hB.2 (by omega);exact Fb b1 o1 b2 o2 n c d l k o w hn Q.1 hB.1 h1 h2 z
 ·have e:l≠k:=λe=>h (by rw[<-Q.1,<-hB.1,e]);rw[decide_eq_false e] at z;subst z;exact (Fd a b n m c d _ w h).mono λe w' ⟨h1,h2⟩=>⟨h1,h2 ▸ Below.refl _ _⟩
theorem Do(na ba pa:Option Addr)(nn nc bn bc pn pc:Nat)(N:List Int)(T:List Zl)(P:List TxD)(tip:Int)(na' ba' pa':Option Addr)(nn' nc' bn' bc' pn' pc':Nat)(N':List Int)(T':List Zl)(P':List TxD)(tip':Int)(o:Bool)(w:World)(hN:Tr.IntsAt w na nn N)(hT:Tr.BlksAt w ba bn T)(hP:TxsAt w pa pn P)(sN:SlOk na nn nc)(sT:SlOk ba bn bc)(sP:SlOk pa pn pc)(be:Tr.IntsAt w na' nn' N')(bg:Tr.BlksAt w ba' bn' T')(bf:TxsAt w pa' pn' P')(z:decide (((N,T,P,tip):Vu)=(N',T',P',tip'))=o) :
  ZH 50 #[.agg #[F na nn nc,F ba bn bc,F pa pn pc,E J tip],.agg #[F na' nn' nc',F ba' bn' bc',F pa' pn' pc',E J tip']] w (dB o):=by
 obtain⟨X,hX⟩:=ZG (Yp w [cW #[F na nn nc,F ba bn bc,F pa pn pc,E J tip] 67,cW #[F na' nn' nc',F ba' bn' bc',F pa' pn' pc',E J tip'] 67]);have ar:X=(w.alloc (cW #[F na nn nc,F ba bn bc,F pa pn pc,E J tip] 67)).alloc (cW #[F na' nn' nc',F ba' bn' bc',F pa' pn' pc',E J tip'] 67):=hX;have aw:aD w.heap.size w X:=by rw[hX];exact Zs _ _
 have Q:Hid (X.heap[w.heap.size]? = some (cW [F na nn nc,F ba bn bc,F pa pn pc,E J tip].toArray 67 (0,0))):=by rw[hX];exact Zk _ w 0 _ rfl
 have aa:Hid (X.heap[w.heap.size+1]? = some (cW [F na' nn' nc',F ba' bn' bc',F pa' pn' pc',E J tip'].toArray 67 (0,0))):=by rw[hX];exact Zk _ w 1 _ rfl
 obtain⟨o2,h2⟩:∃ o,decide (N=N')=o:=⟨_,rfl⟩;obtain⟨o3,h3⟩:∃ o,decide (T=T')=o:=⟨_,rfl⟩;obtain⟨o4,h4⟩:∃ o,decide (P=P')=o:=⟨_,rfl⟩;have C2:=Zd (Tr.eqInt_is na na' nn nn' nc nc' N N' o2 X sN.len (hN.later aw) (be.later aw) h2);have C3:=Zd (λV (hv:aD w.heap.size w V)=>Zbg ba ba' bn bn' bc bc' T T' o3 V sT.len (hT.later hv) (bg.later hv) h3);have C4:=Zd (λV (hv:aD w.heap.size w V)=>Dx pa pa' pn pn' pc pc' P P' o4 V sP.len (hP.later hv) (bf.later hv) (Ah h4))
 have z:o=(decide (tip=tip') && (o2 && (o3 && o4))):=by
  rw[<-z,<-h2,<-h3,<-h4];simp only[Prod.mk.injEq,Bool.decide_and];cases decide (tip=tip') <;> cases decide (N=N') <;> cases decide (T=T') <;> cases decide (P=P') <;> rfl
 have HB:=Zd aw;obtain⟨a0,a1,a2,a3,al⟩:=cl4 Q;obtain⟨b0,b1,b2,b3,bl⟩:=cl4 aa;clear hN hT hP sN sT sP be bg bf aw hX h2 h3 h4;by_cases ht:tip=tip';rotate_left
 ·have gt:(tip == tip')=false:=by simp[ht]
  rw[decide_eq_false ht] at z;subst z;clear C2 C3 C4;go_enter func50,ntmps50
  go_upto_region 1 with fail
  rw[<-ar];clear ar;go_wp2;go_ret;exact⟨rfl,Za HB⟩
 subst ht;rw[decide_eq_true rfl,Bool.true_and] at z;go_enter func50,ntmps50
 go_upto_region 1 with fail
 rw[<-ar];clear ar;go_wp2_with fail;refine C2.mono ?_;rintro e w1 ⟨rfl,au⟩;have ap:=onb HB au;have Q:=mvd au Q;have aa:=mvd au aa;clear au C2 HB a0 a1 a2 a3 al b0 b1 b2 b3 bl;obtain⟨a0,a1,a2,a3,al⟩:=cl4 Q;obtain⟨b0,b1,b2,b3,bl⟩:=cl4 aa;cases o2
 ·rw[Bool.false_and] at z;subst z;clear C3 C4;go_wp2;go_ret;exact⟨rfl,Za ap⟩
 rw[Bool.true_and] at z;have CC:=Zd (C3 w1 ap);clear C3;go_wp2_with fail;refine CC.mono ?_;rintro e w2 ⟨rfl,av⟩;have aq:=onb ap av;have Q:=mvd av Q;have aa:=mvd av aa;clear av CC ap a0 a1 a2 a3 al b0 b1 b2 b3 bl;obtain⟨a0,a1,a2,a3,al⟩:=cl4 Q;obtain⟨b0,b1,b2,b3,bl⟩:=cl4 aa;cases o3
 ·rw[Bool.false_and] at z;subst z;clear C4;go_wp2;go_ret;exact⟨rfl,Za aq⟩
 rw[Bool.true_and] at z;subst z;have CC:=Zd (C4 w2 aq);clear C4;go_wp2_with fail;refine CC.mono ?_;rintro e w3 ⟨rfl,bh⟩;have bj:=onb aq bh;clear bh CC aq Q aa a0 a1 a2 a3 al b0 b1 b2 b3 bl;go_wp2;go_ret;exact⟨rfl,Za bj⟩
open Go.RowKit Classical
theorem D9(b1 o1 b2 o2 n c d:Nat)(l:List Vu)(w:World)(hn:n<=bP)(z1:l.length=n)
  (h1:∀ i (h:i<l.length),NodAt w b1 (o1+i*4) l[i]) (h2:∀ i (h:i<l.length),NodAt w b2 (o2+i*4) l[i]) :
  ZH 54 #[F (some ⟨b1,o1,none⟩) n c,F (some ⟨b2,o2,none⟩) n d,.func (.func 50) #[] #[]] w (dB true):=by
 unfold bP at hn;have H1:=Zd h1;have H2:=Zd h2;have Z1:=Zd z1;have g0:((n:Int) != (n:Int))=false:=by simp
 clear h1 h2 z1;go_enter func54,ntmps54;go_wp2
 go_loopw [17] (λi wr=>∃ j:Nat,j<=n/\i = E J j/\Hid (aD w.heap.size w wr)) (λi _=>n - (cE i).toNat)
 case atStart=>exact⟨0,aQ _,rfl,Below.refl _ _⟩
 case round=>
  obtain⟨j,hk,rfl,HB⟩:=hrel;by_cases bv:j<n
  ·have ay:j<l.length:=(by rw[Za Z1];exact bv);have g:=NodAt.kept _ _ _ _ _ HB (H1 j ay);have f:=NodAt.kept _ _ _ _ _ HB (H2 j ay);obtain⟨q,hq⟩:=ZF (l[j]);rw[hq] at g f;obtain⟨N,T,P,tip⟩:=q;obtain⟨na,nn,nc,ba,bn,bc,pa,pn,pc,g0,g1,g2,g3,gN,gT,gP,s1,s2,s3⟩:=g;obtain⟨na',nn',nc',ba',bn',bc',pa',pn',pc',f0,f1,f2,f3,fN,fT,fP,_⟩:=f;simp only at g0 g1 g2 g3 gN gT gP f0 f1 f2 f3 fN fT fP;have bz:b2<wr.heap.size:=aF _ _ f0;have ct:b1<wr.heap.size:=aF _ _ g0;obtain⟨X,hX⟩:=ZG (wr.alloc (cW #[F na nn nc,F ba bn bc,F pa pn pc,E J tip] 67));have Q:aD wr.heap.size wr X:=(by rw[hX];exact Zh _ _);obtain⟨Y,hY⟩:=ZG (X.alloc (cW #[F na' nn' nc',F ba' bn' bc',F pa' pn' pc',E J tip] 67));have ar:aD X.heap.size X Y:=(by rw[hY];exact Zh _ _);have z:=Zf Q ar;have bu:X.heap.size=wr.heap.size+1:=(by rw[hX];simp);have HA:Hid (Y.heap[wr.heap.size]? = some (cW [F na nn nc,F ba bn bc,F pa pn pc,E J tip].toArray 67 (0,0))):=(ar.block _ (by omega)).trans (by rw[hX];exact aR _ _);have av:Hid (Y.heap[wr.heap.size+1]? = some (cW [F na' nn' nc',F ba' bn' bc',F pa' pn' pc',E J tip].toArray 67 (0,0))):=(by rw[<-bu,hY];exact aR _ _);have C:=Zd (Do na ba pa nn nc bn bc pn pc N T P tip na' ba' pa' nn' nc' bn' bc' pn' pc' N T P tip true Y (gN.later z) (gT.later z) (gP.later z) s1 s2 s3 (fN.later z) (fT.later z) (fP.later z) (decide_eq_true rfl))
   have e0:=Ze Q f0;have e1:=Ze Q f1;have e2:=Ze Q f2;have e3:=Ze Q f3;have el:=Nat.lt_of_lt_of_le bz Q.size;obtain⟨a0,a1,a2,a3,al⟩:=cl4 HA;obtain⟨d0,d1,d2,d3,dl⟩:=cl4 av;have bj:=onb HB z;have cp:(j:Int)<(n:Int):=(by omega);clear gN gT gP fN fT fP s1 s2 s3 z Q ar hq HA av
   go_upto_region 6 with fail
   rw[<-hX];clear hX
   go_upto_region 7 with fail
   rw[<-hY];clear hY g0 g1 g2 g3 f0 f1 f2 f3 e0 e1 e2 e3;go_wp2_with fail;refine C.mono ?_;rintro e w3 ⟨rfl,ax⟩;have bk:=onb bj ax;clear ax C;go_wp2;go_roundw
   case rel=>exact⟨j+1,by omega,by go_num,bk⟩
   case measure=>simp[cE];omega
  ·go_wp2;go_ret;exact⟨rfl,Za HB⟩
theorem Sg(a b:Option Addr)(c d:Nat)(v:Value)(w:World) :
  Calls aB 54 #[F a 0 c,F b 0 d,v] w λe w'=>e = cY (dB true)/\w=w':=by
 go_enter func54,ntmps54;go_wp2;refine cG 1 ?_;rw[bD];go_wp2;go_ret;exact⟨rfl,rfl⟩
theorem Bq(a b:Option Addr)(c d:Nat)(v:Value)(w:World) :
  Calls aB 124 #[F a 0 c,F b 0 d,v] w λe w'=>e = cY (dB true)/\w=w':=by
 go_enter func124,ntmps124;go_wp2;refine cG 1 ?_;rw[bD];go_wp2;go_ret;exact⟨rfl,rfl⟩
theorem Lh(a b:Option Addr)(n c d:Nat)(l:List Vu)(w:World)(hn:n<=bP)(z:NodsAt w a n l)(hB:NodsAt w b n l) :
  ZH 54 #[F a n c,F b n d,.func (.func 50) #[] #[]] w (dB true):=by
 by_cases h0:n=0
 ·subst h0;exact (Sg a b c d _ w).mono λe w' ⟨h1,h2⟩=>⟨h1,h2 ▸ Below.refl _ _⟩
 ·obtain⟨b1,o1,rfl,_,h1⟩:=z.2 (by omega);obtain⟨Q,o2,rfl,_,h2⟩:=hB.2 (by omega);exact D9 b1 o1 Q o2 n c d l w hn z.1 h1 h2
theorem Nq(ka ka':Option Addr)(kn kc kc':Nat)(K:List ByteArray)(w:World)(hn:kn<=bP)(hK:Bk.TextsAt w ka kn K)(ae:Bk.TextsAt w ka' kn K) :
  ZH 51 #[.agg #[F ka kn kc,F none 0 0,F none 0 0],.agg #[F ka' kn kc',F none 0 0,F none 0 0]] w (dB true):=by
 obtain⟨X,z⟩:=ZG (Yp w [cW #[F ka kn kc,F none 0 0,F none 0 0] 90,cW #[F ka' kn kc',F none 0 0,F none 0 0] 90]);have af:X=(w.alloc (cW #[F ka kn kc,F none 0 0,F none 0 0] 90)).alloc (cW #[F ka' kn kc',F none 0 0,F none 0 0] 90):=z;have aa:aD w.heap.size w X:=by rw[z];exact Zs _ _
 have HA:Hid (X.heap[w.heap.size]? = some (cW [F ka kn kc,F none 0 0,F none 0 0].toArray 90 (0,0))):=by rw[z];exact Zk _ w 0 _ rfl
 have ac:Hid (X.heap[w.heap.size+1]? = some (cW [F ka' kn kc',F none 0 0,F none 0 0].toArray 90 (0,0))):=by rw[z];exact Zk _ w 1 _ rfl
 have C1:=Zd (Bk.eqStr_is ka ka' kn kn kc kc' K K true X hn (hK.later aa) (ae.later aa) (by simp));have HB:=Zd aa;obtain⟨a0,a1,a2,al⟩:=cl3 HA;obtain⟨b0,b1,b2,bl⟩:=cl3 ac;clear hK ae aa z;go_enter func51,ntmps51
 go_upto_region 1 with fail
 rw[<-af];clear af;go_wp2_with fail;refine C1.mono ?_;rintro e w1 ⟨rfl,Q⟩;have ah:=onb HB Q;obtain⟨c0,c1,c2,cl⟩:=cl3 (mvd Q HA);obtain⟨d0,d1,d2,dl⟩:=cl3 (mvd Q ac);clear Q C1 HB a0 a1 a2 al b0 b1 b2 bl HA ac;go_wp2_with fail;refine (Sg none none 0 0 _ w1).mono ?_;rintro e w2 ⟨rfl,rfl⟩;go_wp2_with fail;refine (Bq none none 0 0 _ w1).mono ?_;rintro e w2 ⟨rfl,rfl⟩;go_wp2;go_ret;exact⟨rfl,Za ah⟩
namespace Tr
open Go.RowKit
theorem Zkg(k:Int)(n:Nat)(w:World)(z:0<n)(h17:n<=24)(h3:Int.tmod k n<0) :
  Calls aB 52 #[E J k,E J n] w λe w'=>e = cY (E J ((Int.tmod k n+n).toNat:Int))/\w=w':=by
 have h0:¬(n:Int)=0:=by omega
 have h1 : -(n:Int)<Int.tmod k n:=by
  have:=Int.lt_tmod_of_pos k (show (0:Int)<n by omega);omega
 have h2:Int.tmod k n<n:=Int.tmod_lt_of_pos k (by omega);have e:((Int.tmod k n+n).toNat:Int)=Int.tmod k n+n:=by omega
 rw[e];clear e;go_enter func52,ntmps52;go_wp2;go_ret;exact⟨rfl,rfl⟩
theorem Zkf(k:Int)(n:Nat)(w:World)(z:0<n)(h17:n<=24)(h3:¬Int.tmod k n<0) :
  Calls aB 52 #[E J k,E J n] w λe w'=>e = cY (E J ((Int.tmod k n).toNat:Int))/\w=w':=by
 have h0:¬(n:Int)=0:=by omega
 have h2:Int.tmod k n<n:=Int.tmod_lt_of_pos k (by omega);have e:((Int.tmod k n).toNat:Int)=Int.tmod k n:=by omega
 rw[e];clear e;go_enter func52,ntmps52;go_wp2;go_ret;exact⟨rfl,rfl⟩
theorem at_is(k:Int)(n:Nat)(z:0<n)(h17:n<=24):∃ m:Nat,m<n/\∀ w,Calls aB 52 #[E J k,E J n] w λe w'=>e = cY (E J m)/\w=w':=by
 by_cases h3:Int.tmod k n<0
 ·have h1 : -(n:Int)<Int.tmod k n:=by
   have:=Int.lt_tmod_of_pos k (show (0:Int)<n by omega);omega
  refine⟨(Int.tmod k n+n).toNat,by omega,λw=>(Zkg k n w z h17 h3)⟩
 ·have h2:Int.tmod k n<n:=Int.tmod_lt_of_pos k (by omega);refine⟨(Int.tmod k n).toNat,by omega,λw=>(Zkf k n w z h17 h3)⟩
def OrS(Y:World)(t:Nat)(U:List Int)(V:List Zl)(W:World):Prop:=
 ∃ n z c1 Q c2,W.heap[t]? = some (cW [F z n c1,F Q n c2].toArray 28 (0,0))/\IntsAt W z n U/\BlksAt W Q n V/\SlOk z n c1/\SlOk Q n c2/\Gr Y W (λq=>q=t)
theorem OrS.keep{Y:World}{t:Nat}{U:List Int}{V:List Zl}{W W':World}(h:OrS Y t U V W)(z:aD W.heap.size W W'):OrS Y t U V W':=by
 obtain⟨n,Q,c1,a2,c2,h1,h2,h3,h4,h5,h6⟩:=h;exact⟨n,Q,c1,a2,c2,ZE z h1,h2.later z,h3.later z,h4,h5,h6.on z⟩
theorem OrS.lt{Y:World}{t:Nat}{U:List Int}{V:List Zl}{W:World}(h:OrS Y t U V W):t<W.heap.size:=by
 obtain⟨n,z,c1,Q,c2,h1,_⟩:=h;exact aA h1
theorem OrS.store{Y wr wx:World}{t:Nat}{U U':List Int}{V V':List Zl}{n:Nat}{z Q:Option Addr}{c1 c2:Nat}(h:OrS Y t U V wr)(hF:Fresh wr.heap.size wx (λw2=>IntsAt w2 z n U'/\BlksAt w2 Q n V'))(s1:SlOk z n c1)(s2:SlOk Q n c2)(hb:aD wr.heap.size wr wx) :
  OrS Y t U' V' ((wx.setCell ⟨t,0,none⟩ (F z n c1)).setCell ⟨t,1,none⟩ (F Q n c2)):=by
 have ht:=h.lt;obtain⟨n0,b1,d1,b2,d2,h1,_,_,_,_,h6⟩:=h.keep hb;have hg:=((Gr.refl wx (λk=>k=t)).one t 0 (.inl rfl) (F z n c1)).one t 1 (.inl rfl) (F Q n c2);have hI:=hF _ (hg.mono λk _ e=>by omega);exact⟨n,z,c1,Q,c2,set_cells (set_cells h1 0 _) 1 _,hI.1,hI.2,s1,s2,h6.trans hg⟩
