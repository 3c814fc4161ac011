import Derived.Test.YtmomfkikogbdeaaGreatDoorH
import Derived.Test.YtmomfkikogbdeaaGreatDoorG45
import Derived.Test.YtmomfkikogbdeaaGreatDoorG46
import Derived.Deep.SlicePairs
import Derived.HandedShaped
open Go.Proofs.Tryz
open Go renaming bodyPost_ret->aW,lt_of_block->aA,heap_alloc_new->aH
open Go.DataW renaming trod_int->cB
open Go.Ending renaming returned->dA
open Go.IntKind renaming i64->J
open Go.Obj renaming cells->cZ
open Go.Proofs.Tryz renaming prog->aB,underlying3->bC
open Go.Value renaming int->E,slice->F,tuple->dB,bool->dD
open Go.World renaming block_lt_of_cell?->aE
open List renaming getElem_mem->aQ,take_of_length_le->aV,append_assoc->bZ
open Nat renaming le_of_eq->bL,zero_le->aL,le_refl->aF
set_option maxHeartbeats 12800000
namespace Go.Proofs.YtmomfkikogbdeaaGreatDoor
open Go.RowKit
set_option maxRecDepth 10000 in
theorem Zir(n:Int)(h:(decide (1<=n) && decide (n<=4))=false)(w:World):ZH 130 #[E J n] w (dB #[.agg #[F none 0 0,F none 0 0,F none 0 0],E J 3]):=by
 obtain⟨X,hX,ad,ae⟩:=ka11 w [F none 0 0,F none 0 0,F none 0 0] 90;have C1:=Zd (Ty n false X h);go_enter func130,ntmps130
 go_upto_region 1 with fail
 rw[<-hX];clear hX;go_wp2_with fail;refine C1.mono ?_;rintro e w1 ⟨rfl,Q⟩;have aa:=onb ad Q;have z:=mvd Q ae;obtain⟨r0,r1,r2,rl⟩:=cl3 z;have f0:=Zg z 0;have f1:=Zg z 1;have f2:=Zg z 2;have ac:Hid (∀ V,Gr w1 V (λq=>q=w.heap.size)->ZD w V):=λV g=>g.below aa aa.size (λq e=>bL (Eq.symm e));clear Q C1;go_wp2;(try simp only[Exit.inBlock,Exit.then]);refine aW (v:=dB #[.agg #[F none 0 0,F none 0 0,F none 0 0],E J 3]) ?_ rfl ?_
 ·rw[Zn rfl];go_simp
 ·refine⟨rfl,ac _ ?_⟩
  repeat' first|refine Gr.one ?_ _ _ ?_ _|exact Gr.refl _ _
  all_goals exact Or.inl rfl
set_option maxRecDepth 10000 in
theorem Ag(n:Int)(sa)(L sc:Nat)(x:Int)(w:World)(hx:((decide (1<=n) && decide (n<=4))=false/\x=3)\/(∃ c:Nat,n=c/\1<=c/\c<=4)/\60<L/\x=2):ZH 55 #[E J n,F sa L sc] w (dB #[.agg #[F none 0 0,F none 0 0,F none 0 0],F none 0 0,E J x]):=by
 obtain⟨A,hA,ah,ag⟩:=ka11 w [F none 0 0,F none 0 0,F none 0 0] 90
 rcases hx with ⟨hn,rfl⟩|⟨⟨c,rfl,h1,h4⟩,hL,rfl⟩
 ·have C1:=Zd (Zir n hn A);go_enter func55,ntmps55
  go_upto_region 1 with fail
  rw[<-hA];clear hA;go_wp2_with fail;refine C1.mono ?_;rintro e w1 ⟨rfl,aa⟩;obtain⟨Y,Q⟩:=ZG (w1.alloc (cZ #[F none 0 0,F none 0 0,F none 0 0] 90));have ab:ZD w1 Y:=by rw[Q];exact Zh _ _
  have ac:=onb ah (Zf aa ab);have z:=mvd (Zf aa ab) ag;obtain⟨r0,r1,r2,rl⟩:=cl3 z;have f0:=Zg z 0;have f1:=Zg z 1;have f2:=Zg z 2;have af:Hid (∀ V,Gr Y V (λq=>q=w.heap.size)->ZD w V):=λV g=>g.below ac ac.size (λq e=>bL (Eq.symm e));clear aa ab C1 hn
  go_upto_region 2 with fail
  rw[<-Q];clear Q;go_wp2;(try simp only[Exit.inBlock,Exit.then]);refine aW (v:=dB #[.agg #[F none 0 0,F none 0 0,F none 0 0],F none 0 0,E J 3]) ?_ rfl ?_
  ·rw[Bk.results_cell_tmp2 rfl];go_simp
  ·refine⟨rfl,af _ ?_⟩
   repeat' first|refine Gr.one ?_ _ _ ?_ _|exact Gr.refl _ _
   all_goals exact Or.inl rfl
 ·have C1:=Zd (Zdh c h1 h4 A);have ax:(60:Int)<(L:Int):=by omega
  go_enter func55,ntmps55
  go_upto_region 1 with fail
  rw[<-hA];clear hA;go_wp2_with fail;refine C1.mono ?_;rintro e w1 ⟨ng,rfl,_,_,aa⟩;obtain⟨Y,Q⟩:=ZG (w1.alloc (cZ #[F none 0 0,F (some ⟨ng,0,none⟩) c c,F none 0 0] 90));have ab:ZD w1 Y:=by rw[Q];exact Zh _ _
  have ac:=onb ah (Zf aa ab);have z:=mvd (Zf aa ab) ag;obtain⟨r0,r1,r2,rl⟩:=cl3 z;have f0:=Zg z 0;have f1:=Zg z 1;have f2:=Zg z 2;have af:Hid (∀ V,Gr Y V (λq=>q=w.heap.size)->ZD w V):=λV g=>g.below ac ac.size (λq e=>bL (Eq.symm e));clear aa ab C1 hL
  go_upto_region 2 with fail
  rw[<-Q];clear Q;go_wp2;(try simp only[Exit.inBlock,Exit.then]);refine aW (v:=dB #[.agg #[F none 0 0,F none 0 0,F none 0 0],F none 0 0,E J 2]) ?_ rfl ?_
  ·rw[Bk.results_cell_tmp2 rfl];go_simp
  ·refine⟨rfl,af _ ?_⟩
   repeat' first|refine Gr.one ?_ _ _ ?_ _|exact Gr.refl _ _
   all_goals exact Or.inl rfl
def mvR1:Int×Zl×Dsk:=nmR [] [] [] [] 0 1 0 [(1,0),(7,0)]
def mvY(D:Dsk):U9:=(D.n,D.t,D.p,D.tip)
def mvS0:WD:=⟨[],[n0,n0],[]⟩
def mvS1:WD:=⟨mvR1.2.2.k,[mvY mvR1.2.2,n0],[(1,0,1,0,mvR1.2.1,Yz)]⟩
def mvR2:Int×Int×Dsk:=ntR mvR1.2.2.k [] [] [] 0 mvR1.2.1
def mvS2:WD:=⟨mvR2.2.2.k,[mvY mvR1.2.2,mvY mvR2.2.2],[]⟩
def mvR4:Int×Zl×Dsk:=nmR mvR2.2.2.k mvR2.2.2.n mvR2.2.2.t mvR2.2.2.p mvR2.2.2.tip 1 0 [(1,0),(7,0)]
def Zrm:WD:=⟨mvR4.2.2.k,[mvY mvR1.2.2,mvY mvR4.2.2],[(1,1,0,0,mvR4.2.1,Yz)]⟩
theorem mv_1:mvS0.mine 0 1 0 0=(0,mvS1):=by kernel_rfl
theorem mv_2:(mvS1.lost 0).told 1 0 mvR1.2.1=mvS2:=by kernel_rfl
theorem mv_4:mvS2.mine 1 1 0 0=(0,Zrm):=by kernel_rfl
theorem Zpx:Xp mvS0.k mvS0.n mvS0.m=0:=by kernel_rfl
theorem Zpw:Xp mvS1.k mvS1.n mvS1.m=0:=by kernel_rfl
theorem Zks:Xp mvS2.k mvS2.n mvS2.m=0:=by kernel_rfl
theorem Zpy:Yk mvR1.2.1=0:=by kernel_rfl
theorem mv_b4:Yk mvR4.2.1=0:=by kernel_rfl
theorem mv_l1:mvR1.2.2.n.length=1:=by kernel_rfl
theorem mv_l2:mvR4.2.2.n.length=2:=by kernel_rfl
def mvS:Nat->WD:=λk=>if k=0 then mvS0 else if k=1 then mvS1 else if k<4 then mvS2 else Zrm
def mvX:Nat->Int:=λk=>if k=2 then 5 else 0
def mvH:Nat->Int×Int×Int×Int×Int×Int×Int:=λk=>if k=0 then (1,0,0,0,1,0,0) else if k<3 then (3,0,0,0,0,0,0) else (1,1,0,0,1,0,0)
def mvW:Nat->WD:=λk=>if k=0 then mvS1 else if k<3 then mvS2 else Zrm
theorem Zrk{k j:Nat}{v}(hk:k<4)(z:([E J (mvH k).1,E J (mvH k).2.1,E J (mvH k).2.2.1,E J (mvH k).2.2.2.1,E J (mvH k).2.2.2.2.1,E J (mvH k).2.2.2.2.2.1,E J (mvH k).2.2.2.2.2.2,F none 0 0,F none 0 0]:List Value)[j]? = some v):([E J 1,E J 0,E J 0,E J 0,E J 1,E J 0,E J 0,F none 0 0,F none 0 0,E J 3,E J 0,E J 0,E J 0,E J 0,E J 0,E J 0,F none 0 0,F none 0 0,E J 3,E J 0,E J 0,E J 0,E J 0,E J 0,E J 0,F none 0 0,F none 0 0,E J 1,E J 1,E J 0,E J 0,E J 1,E J 0,E J 0,F none 0 0,F none 0 0]:List Value)[0+k*9+j]? = some v:=by
 have ab:j<9:=by have:=(List.getElem?_eq_some_iff.1 z).1;simpa using this
 have qk:k=0\/k=1\/k=2\/k=3:=by omega
 have Q:j=0\/j=1\/j=2\/j=3\/j=4\/j=5\/j=6\/j=7\/j=8:=by omega
 rcases qk with rfl|rfl|rfl|rfl <;> rcases Q with rfl|rfl|rfl|rfl|rfl|rfl|rfl|rfl|rfl <;> exact z
theorem Zrl:∀ k,k<4->Zdd (.agg #[E J (mvH k).1,E J (mvH k).2.1,E J (mvH k).2.2.1,E J (mvH k).2.2.2.1,E J (mvH k).2.2.2.2.1,E J (mvH k).2.2.2.2.2.1,E J (mvH k).2.2.2.2.2.2,F none 0 0,F none 0 0]) (mvS k) (mvX k) (mvW k):=by
 intro k z
 match k,z with
 | 0,_=>exact Gc (W:=mvS0) (i:=0) (xi:=0) (xt:=0) (xw:=1) (xN:=0) Zpx (by decide) (Tr.blk_small Zpy) mv_1
 | 1,_=>exact Gw (W:=mvS1) (k:=0) (ti:=1) (xn:=0) Zpw (by decide) ⟨rfl,rfl⟩ (by decide) mv_2
 | 2,_=>exact Zha (W:=mvS2) (xi:=0) (xn:=0) rfl
 | 3,_=>exact Gc (W:=mvS2) (i:=1) (xi:=0) (xt:=0) (xw:=1) (xN:=0) Zks (by decide) (Tr.blk_small mv_b4) mv_4
 | k+4,h=>exact absurd h (by omega)
set_option maxRecDepth 10000 in
theorem Zlq(b z c d n:Nat)(L:List Int)(w:World)(hn:n<=maxLen)(hz:L.length=n)(Q:∀ i (h:i<L.length),w.cell? ⟨b,i,none⟩=some (E J L[i]))(aa:∀ i (h:i<L.length),w.cell? ⟨z,i,none⟩=some (E J L[i])) :
  ZH 114 #[F (some ⟨b,0,none⟩) n c,F (some ⟨z,0,none⟩) n d] w (dD true):=by
 obtain⟨HC,ae,HZ⟩:=kh3 Q aa hz;have g0:((n:Int) != (n:Int))=false:=by simp
 unfold maxLen at hn;clear Q aa hz;go_enter func114,ntmps114;go_wp2
 go_loopw [13] (λi wr=>∃ j m:Nat,j<=n/\i = E J j/\wr=w.drewN m) (λi _=>n - (intOf i).toNat)
 case atStart=>exact⟨0,0,aL _,rfl,rfl⟩
 case round=>
  obtain⟨j,m,hk,rfl,rfl⟩:=hrel;by_cases aj:j<n
  ·have h1:j<L.length:=(by rw[Za HZ];exact aj);have f1:=HC j h1;have f2:=ae j h1;obtain⟨s,hs⟩:=ZF (L[j]);rw[hs] at f1 f2;have g:(s != s)=false:=(by simp);clear hs;go_wp2
   go_quiet (fail)
   go_wp2;go_roundw
   case rel=>exact⟨j+1,m+nq,by omega,by go_num,rfl⟩
   case measure=>simp[intOf];omega
  ·go_wp2;go_ret;exact⟨rfl,Tr.below_dn _ _⟩
set_option maxRecDepth 10000 in
theorem Zgn(w:World)(hE:Env w):ZH 44 #[] w (dD true):=by
 obtain⟨X,hX,ah,x0⟩:=ka00 w [E J 1,E J 0,E J 0,E J 0,E J 1,E J 0,E J 0,F none 0 0,F none 0 0,E J 3,E J 0,E J 0,E J 0,E J 0,E J 0,E J 0,F none 0 0,F none 0 0,E J 3,E J 0,E J 0,E J 0,E J 0,E J 0,E J 0,F none 0 0,F none 0 0,E J 1,E J 1,E J 0,E J 0,E J 1,E J 0,E J 0,F none 0 0,F none 0 0] 103
 have C1:=Zd (Zdg 2 (by decide) (by decide) (some ⟨w.heap.size,0,none⟩) 4 4 (by decide) mvH mvS mvW mvX X (hE.later ah) (λk Q=>⟨w.heap.size,0,none,0,0,none,0,0,Env,rfl,aA x0,λj v hj=>Zb x0 _ _ (Zrk Q hj),λU hu=>(hE.later ah).later hu,Zrl k Q⟩) rfl
  (λk Q=>by
   match k,Q with
   | 0,_=>exact Zpx
   | 1,_=>exact Zpw
   | 2,_=>exact Zks
   | 3,_=>exact Zks
   | k+4,h=>exact absurd h (by omega))
  (λk Q m hm=>by
   match k,Q with
   | 0,_=>cases hm
   | 1,_=>
    rcases List.mem_singleton.1 hm with rfl
    exact⟨Tr.blk_small Zpy,aL _,aL _,by simp[Yz],by simp[Yz]⟩
   | 2,_=>cases hm
   | 3,_=>cases hm
   | k+4,h=>exact absurd h (by omega))
  (λk Q=>by
   match k,Q with
   | 0,_=>rfl
   | 1,_=>rfl
   | 2,_=>rfl
   | 3,_=>rfl
   | k+4,h=>exact absurd h (by omega)))
 have aq:=Zd ah;clear hE ah x0;go_enter func44,ntmps44;go_wp2_with fail;rw[<-hX];clear hX;(try go_wp2_with fail);refine C1.mono ?_;rintro e z ⟨ka,kn,kc,na,nn,nc,ma,mn,mc,sd,rfl,⟨h1,h2,h3⟩,s1,s2,s3,h4,ax⟩;have an:=onb aq ax;have h4:z.heap[sd]? = some (cZ [E J 0,E J 0,E J 5,E J 0].toArray 30 (0,0)):=h4;obtain rfl:2=nn:=h2.1;obtain rfl:1=mn:=h3.1;obtain⟨gb,go,rfl,_,ak⟩:=h2.2 (by decide);obtain⟨qa,qn,qc,qb,qm,qd,qp,qq,qr,c0,_,_,_,i0,_⟩:=ak 0 (by decide);obtain⟨pa,pn,pc,pb,pm,pd,pp,pq,pr,c1,_,_,_,i1,_⟩:=ak 1 (by decide);obtain rfl:1=qn:=by rw[<-i0.1];exact mv_l1.symm
 obtain rfl:2=pn:=by rw[<-i1.1];exact mv_l2.symm
 have c0:z.cell? ⟨gb,go,none⟩=some (F qa 1 qc):=c0;have c1:z.cell? ⟨gb,go+4,none⟩=some (F pa 2 pc):=c1;have bf:=aE _ _ c0;obtain⟨Y,hY⟩:=ZG ((z.alloc (cZ #[F ka kn kc,F (some ⟨gb,go,none⟩) 2 nc,F ma 1 mc] 90)).alloc (cZ #[E J 0,E J 0,E J 5,E J 0] 30));have ae:ZD z Y:=by rw[hY];exact Zf (Zh _ _) (Zh _ _)
 have y0:Y.heap[z.heap.size]? = some (cZ [F ka kn kc,F (some ⟨gb,go,none⟩) 2 nc,F ma 1 mc].toArray 90 (0,0)):=by rw[hY];exact Zk [cZ #[F ka kn kc,F (some ⟨gb,go,none⟩) 2 nc,F ma 1 mc] 90,cZ #[E J 0,E J 0,E J 5,E J 0] 30] z 0 _ rfl
 have y1:Y.heap[z.heap.size+1]? = some (cZ [E J 0,E J 0,E J 5,E J 0].toArray 30 (0,0)):=by rw[hY];exact Zk [cZ #[F ka kn kc,F (some ⟨gb,go,none⟩) 2 nc,F ma 1 mc] 90,cZ #[E J 0,E J 0,E J 5,E J 0] 30] z 1 _ rfl
 have y4:=ZE ae h4
 have C2:=Zd (Zlq sd (z.heap.size+1) 4 4 4 [0,0,5,0] Y (by unfold maxLen;omega) rfl (λi hi=>by
  match i,hi with
  | 0,_=>exact Zb y4 0 _ rfl
  | 1,_=>exact Zb y4 1 _ rfl
  | 2,_=>exact Zb y4 2 _ rfl
  | 3,_=>exact Zb y4 3 _ rfl
  | i+4,h=>exact absurd h (by simp)) (λi hi=>by
  match i,hi with
  | 0,_=>exact Zb y1 0 _ rfl
  | 1,_=>exact Zb y1 1 _ rfl
  | 2,_=>exact Zb y1 2 _ rfl
  | 3,_=>exact Zb y1 3 _ rfl
  | i+4,h=>exact absurd h (by simp)))
 obtain⟨av,ar,au⟩:=kh3 y0 (Ze ae c0) (Ze ae c1);have ap:=onb an ae;clear C1 ax ae y0 y1 y4 h1 h2 h3 h4 s1 s2 s3 ak i0 i1 c0 c1 aq an;go_wp2_with fail;(try rw[<-hY]);clear hY;(try go_wp2_with fail);refine C2.mono ?_;rintro e w2 ⟨rfl,ad⟩;have bd:=onb ap ad;obtain⟨r0,r1,r2,rl⟩:=cl3 (mvd ad av);have d0:=Ze ad ar;have d1:=Ze ad au;have dl:=aE _ _ d0;clear ad C2 av ar au ap bf;go_wp2;go_ret;exact⟨rfl,Za bd⟩
set_option maxRecDepth 10000 in
theorem K9(ka kn kc K na ba pa nn nc bn bc pn pc N T P)(tip:Int)(w:World)(hE:Env w)(hK:Bk.TextsAt w ka kn K)(hN:Tr.IntsAt w na nn N)(hT:Tr.BlksAt w ba bn T)(hP:TxsAt w pa pn P)(sN:SlOk na nn nc)(sT:SlOk ba bn bc)(sP:SlOk pa pn pc)(hp:pn<=2513169434916)(hq:∀ t∈P,Tr.TxSmall t) :
  ZH 9 #[.agg #[F ka kn kc],.agg #[F na nn nc,F ba bn bc,F pa pn pc,E J tip]] w (dD true):=by
 obtain⟨X,hX⟩:=ZG (Yw w [cZ #[F ka kn kc] 24,cZ #[F na nn nc,F ba bn bc,F pa pn pc,E J tip] 67]);have cp:X=(w.alloc (cZ #[F ka kn kc] 24)).alloc (cZ #[F na nn nc,F ba bn bc,F pa pn pc,E J tip] 67):=hX;have z:ZD w X:=by rw[hX];exact Zs _ _
 have x0:=kl0 hX _ _ rfl;have x1:=kl hX 1 _ _ rfl;obtain⟨x,hx⟩:=ZF (opE K N T P tip);obtain⟨C,hC⟩:=ZF ((if x=0 then (Z0 K N T noB).2 tip else []));have C1:=Zd (Rr ka kn kc K na ba pa nn nc bn bc pn pc N T P tip x X (hE.later z) (hK.later z) (hN.later z) (hT.later z) (hP.later z) sN sT sP hp hq hx C hC)
 have bt:Hid (x=0->Z4 C=0/\Zp C<=Jz (Yh N T tip).toNat/\0<=Yh N T tip/\Yh N T tip<=1000/\(tip=0->Yh N T tip=0)/\(tip≠0->(Tr.blockE N T tip).2=0)):=λe=>by
  have:=Br (hx.trans e);rw[if_pos e] at hC;rw[hC] at this;exact this
 have CB:=Zd (λV (hv:ZD X V) y dt (hy:Tr.blockE N T tip=(y,dt))=>Tr.block_is na ba nn nc bn bc N T tip y dt V (hN.later (Zf z hv)) (hT.later (Zf z hv)) sN sT hy);have HE:Hid (∀ V,ZD X V->Env V):=λV hv=>hE.later (Zf z hv);obtain⟨dg,br⟩:=kh2 x1 z;have t0:=Zb x0 0 _ rfl;obtain⟨t1,t2,t3,t4,-⟩:=kc4 x1;have tl:=aA x0;have bi:=aA x1;clear hE hK hN hT hP sN sT sP hp hq hx hC z x0 x1 hX;go_enter func9,ntmps9;go_wp2_with fail;rw[<-cp];clear cp;(try go_wp2_with fail);refine C1.mono ?_;rintro e w1 ⟨ca,cn,cc,rfl,ct,-,bv⟩;obtain⟨bk,bs,D2⟩:=kh3 bv ct (Ca w1 (HE w1 bv));clear bv ct C1 t0 t1 t2 t3 t4 tl bi;by_cases h0:x=0
 ·subst h0;obtain⟨n1,n2,n3,n4,n5,n6⟩:=bt rfl;clear bt;obtain⟨ce,cf,cg,cj,cl,cm⟩:=kh6 n1 n2 n3 n4 n5 n6;clear n1 n2 n3 n4 n5 n6;go_wp2_with fail;refine D2.mono ?_;rintro e w2 ⟨rfl,ae⟩;have bz:=Zf bk ae;obtain⟨ad,cd⟩:=kh2 bz (bs.later ae);have y1:=ZE bz dg;obtain⟨t1,t2,t3,t4,bi⟩:=kc4 y1;have n1:=Za ce;have n2:=Za cf;have n3:=Za cg;have n4:=Za cj;have n5:=Za cl;have n6:=Za cm;obtain⟨hn,bb⟩:∃ n:Nat,Yh N T tip=n:=Int.eq_ofNat_of_zero_le n3;have e2:(Yh N T tip).toNat=hn:=by omega
  rw[e2] at n2;obtain⟨s,hs⟩:=ZF (Zp C);obtain⟨M,hM⟩:=ZF (Jz hn);rw[hs,hM] at n2;have CT:=Zd (λV (hv:ZD w2 V)=>An ca cn cc C 0 s V (cd.later hv) n1 ((if_pos rfl).trans hs));have CS:=Zd (λV=>Zfc hn V (by omega));rw[hM] at CS;clear ae bz y1 D2 bk bs HE n1 n3 n4 hs hM e2 cd ce cf cg cj cl cm;by_cases e0:tip=0
  ·have hz:(hn:Int)=0:=(by rw[<-bb];exact n5 e0);rw[hz] at CS;subst e0;have D3:=Zd (CT w2 (Below.refl _ _));clear hz n5 n6 bb CB CT;go_wp2_with fail;refine D3.mono ?_;rintro e w3 ⟨rfl,Q⟩;obtain⟨D4,bo⟩:=kh2 (CS w3) (Zf ad Q);clear Q D3 CS t1 t2 t3 t4 bi;go_wp2_with fail;refine D4.mono ?_;rintro e w4 ⟨rfl,an⟩;have bq:=Zd (Zf br (Zf bo an));clear an D4;go_wp2;go_ret;exact⟨rfl,Za bq⟩
  ·have gt:(tip != 0)=true:=(by simp[e0]);have hz:=n6 e0;obtain⟨⟨⟨q1,q2,q3,q4,qL⟩,y⟩,hy⟩:=ZF (Tr.blockE N T tip);have dl:y=0:=(by rw[hy] at hz;exact hz);subst dl;have dk:q2=(hn:Int):=(by rw[<-bb];unfold Yh;rw[hy]);subst dk;have D3:=Zd (CB w2 ad _ _ hy);clear hz n5 n6 bb hy CB;go_wp2_with fail;refine D3.mono ?_;rintro e w3 ⟨ta,tn,tc,rfl,-,-,Q⟩;obtain⟨V,hV⟩:=ZG (w3.alloc (cZ #[E J q1,E J (hn:Int),E J q3,E J q4,F ta tn tc] 39));have bx:ZD w3 V:=(by rw[hV];exact Zh _ _);obtain⟨D4,df⟩:=kh2 (CT V (Zf Q bx)) (Zf ad (Zf Q bx));have v0:V.heap[w3.heap.size]? = some (cZ [E J q1,E J (hn:Int),E J q3,E J q4,F ta tn tc].toArray 39 (0,0)):=(by rw[hV];exact aH w3 _);obtain⟨-,v1,vl⟩:=kc2 v0;clear Q bx D3 CT t1 t2 t3 t4 bi v0
   go_upto_region 10 with fail
   rw[<-hV];clear hV v1 vl;go_wp2_with fail;refine D4.mono ?_;rintro e w4 ⟨rfl,an⟩;obtain⟨D5,bq⟩:=kh2 (CS w4) (Zf df an);clear an D4 CS;go_wp2_with fail;refine D5.mono ?_;rintro e w5 ⟨rfl,cq⟩;have de:=Zd (Zf br (Zf bq cq));clear cq D5;go_wp2;go_ret;exact⟨rfl,Za de⟩
 ·have gx:(x != 0)=true:=by simp[h0]
  go_wp2_with fail;refine D2.mono ?_;rintro e w2 ⟨rfl,ae⟩;have ad:=Zd (Zf bk ae);have D3:=Zd (Ca w2 (HE w2 ad));clear ae D2 bt HE CB bs;go_wp2_with fail;refine D3.mono ?_;rintro e w3 ⟨rfl,Q⟩;have bo:=Zd (Zf br (Zf ad Q));clear Q D3;go_wp2;go_ret;exact⟨rfl,Za bo⟩
theorem WorldAt.later{w w':World}{W:WD}{ka na ma kn nn mn}(h:WorldAt w W ka kn na nn ma mn)(z:ZD w w'):WorldAt w' W ka kn na nn ma mn:=⟨h.1.later z,h.2.1.later z,h.2.2.later z⟩
theorem Zgo(w:World):(Instr.makeMap 115 none).run aB w = .ok (.map (some w.heap.size)) (w.alloc (.map #[] 0)):=by kernel_rfl
set_option maxRecDepth 10000 in
theorem Hg(n:Int)(sa L sc l)(w:World)(hE:Env w)(hl:RowsAt hapR.R 9 w sa L l)(hz:∀ y∈l,Tr.TxSmall y.2.2.2.2.2.2) :
  ZH 15 #[.int .i64 n,F sa L sc] w (.bool true):=by
 have MV:=Zd (λV (hv:ZD w V)=>Zgn V (hE.later hv));by_cases Q:(decide (1<=n) && decide (n<=4))=false\/60<L
 ·obtain⟨x,ky,C1⟩:∃ x:Int,x≠0/\Hid (Calls aB 55 #[.int .i64 n,F sa L sc] w λe w'=>e = dA (.tuple #[.agg #[F none 0 0,F none 0 0,F none 0 0],F none 0 0,.int .i64 x])/\ZD w w'):=by
   by_cases q:(decide (1<=n) && decide (n<=4))=false
   ·exact⟨3,by decide,Ag n sa L sc 3 w (.inl ⟨q,rfl⟩)⟩
   ·have q2:60<L:=(by rcases Q with h|h;exact absurd h q;exact h);simp at q;exact⟨2,by decide,Ag n sa L sc 2 w (.inr ⟨⟨n.toNat,by omega,by omega,by omega⟩,q2,rfl⟩)⟩
  have oq:(x != 0)=true:=by simp[ky]
  clear hE hl hz Q;go_enter func15,ntmps15;go_wp2_with fail;refine C1.mono ?_;rintro e w1 ⟨rfl,cx⟩;obtain⟨Y,hY⟩:=ZG (w1.alloc (cZ #[F none 0 0,F none 0 0,F none 0 0] 90));have HB:Hid (ZD w Y):=Zf cx (by rw[hY];exact Zh _ _);clear cx C1
  go_upto_region 2 with fail
  rw[<-hY];clear hY;go_wp2_with fail;refine (MV _ HB).mono ?_;rintro e w2 ⟨rfl,bt⟩;have HB:=onb HB bt;clear bt;go_wp2_with fail;refine (MV _ HB).mono ?_;rintro e w3 ⟨rfl,bu⟩;have HB:=onb HB bu;clear bu MV;go_wp2;go_ret;exact⟨rfl,Za HB⟩
 obtain⟨c,rfl,h1,h4⟩:∃ c:Nat,n=c/\1<=c/\c<=4:=by
  simp at Q;exact⟨n.toNat,by omega,by omega,by omega⟩
 have hL:L<=60:=by omega
 obtain⟨H,S,W',X,s0,hr,hS,hg⟩:=Zah h1 h4 hE hl hz;have C1:=Zd (Zdg c h1 h4 sa L sc hL H S W' X w hE hr s0 (λk hk=>(hg k (by omega)).1) (λk hk=>(hg k (by omega)).2) hS);obtain⟨W,hW⟩:=ZF (S L);have hc:=(hg L (aF _)).1;rw[hW] at hc;obtain⟨HC,HE,gp⟩:=kh3 hc hE hW;clear hE hl hz Q hr s0 hS hg hc hW hL;go_enter func15,ntmps15;go_wp2_with fail;refine C1.mono ?_;rintro e w1 ⟨k1,cg,dd,n1,an,fh,m1,iz,iy,sd,rfl,hF,s1,s2,s3,_,cx⟩;rw[Za gp] at hF;obtain⟨Y,hY,en,HY⟩:=ka01 w1 [F k1 cg dd,F n1 an fh,F m1 iz iy] 90;have HB:Hid (ZD w Y):=Zf cx en;have HF:=Zd (hF.later en);have HS:=Zd (⟨s1,s2⟩:SlOk k1 cg dd/\SlOk n1 an fh);clear C1 hF s1 s2 s3 cx en gp
 go_upto_region 2 with fail
 rw[<-hY];clear hY;go_wp2_with fail;refine (MV _ HB).mono ?_;rintro e w2 ⟨rfl,bt⟩;have HB:=onb HB bt;have HY:=mvd bt HY;have HF:=Zd (HF.later bt);clear bt MV;have C2:=Zd (Nc k1 cg dd W.k n1 an fh W.n m1 iz iy W.m 0 w2 (HE.later HB) HF.1 HF.2.1 HF.2.2 (λy hy=>Ux ((Ye HC).2.2.2.2.2.1 y hy)) HC);obtain⟨z0,z1,z2,zl⟩:=cl3 HY;go_wp2_with fail;refine C2.mono ?_;rintro e w3 ⟨rfl,bu⟩;have HB:=onb HB bu;have HY:=mvd bu HY;have HF:=Zd (HF.later bu);clear bu C2 z0 z1 z2 zl;have im:W.n.length=an:=HF.2.1.1;have nj:an<=4:=by have:=(Ye HC).2.1;omega
 have jm:=Zd im;clear im;obtain⟨z0,z1,z2,zl⟩:=cl3 HY;go_wp2_with fail
 go_loopw [42] (λi U=>∃ j:Nat,j<=an/\i = .int .i64 j/\Hid (ZD w3 U)) (λi _=>an - (intOf i).toNat)
 case atStart=>exact⟨0,aL _,rfl,Below.refl _ _⟩
 case round=>
  obtain⟨j,hj,rfl,HG⟩:=hrel;clear z0 z1 z2 zl;have HY:=mvd HG HY;have HB:=onb HB HG;have HF:=Zd (HF.later HG);by_cases ij:j<an;rotate_left
  ·have kr:an=j:=(by omega);subst kr;clear ij;obtain⟨z0,z1,z2,zl⟩:=cl3 HY;go_wp2;go_ret;exact⟨rfl,Za HB⟩
  have ih:j<W.n.length:=by rw[Za jm];exact ij
  have nf:(j:Int)<(an:Int):=by omega
  obtain⟨ob,oo,kh,_,ip⟩:=HF.2.1.2 (by omega);subst kh;have ha:=ip j ih;have bg:=(Ye HC).2.2.2.2.2.1 _ (aQ ih);obtain⟨⟨N,T,P,tip⟩,hy⟩:=ZF (W.n[j]);rw[hy] at ha bg;obtain⟨qa,qn,qc,qb,qm,qd,qp,qq,qr,v0,v1,v2,v3,iN,iT,iP,fm,fo,fp⟩:=ha;simp only at v3 iN iT iP;have bg:opE W.k N T P tip=0:=bg;have fa:=Ux (K:=W.k) (y:=(N,T,P,tip)) bg;obtain⟨Pt,dn⟩:∃ p,Tr.pthD N T tip=p:=⟨_,rfl⟩;obtain⟨pn,it⟩:∃ n,Pt.length=n:=⟨_,rfl⟩;obtain⟨eq,fb⟩:=Yb (Yg bg).2.1;have ir:Tr.pathE N T tip=(Pt,0):=by rw[Tr.pathE_mk eq fb,dn]
  have ey:=Zgh bg;rw[dn] at ey;obtain⟨Z,hZ⟩:=ZG (wr.alloc (cZ #[F qa qn qc,F qb qm qd,F qp qq qr,.int .i64 tip] 67));have bf:ZD wr Z:=by rw[hZ];exact Zh _ _
  obtain⟨b9,ek⟩:∃ b,b=wr.heap.size:=⟨_,rfl⟩;have HN:Hid (Z.heap[b9]? = some (cZ [F qa qn qc,F qb qm qd,F qp qq qr,.int .i64 tip].toArray 67 (0,0))):=by rw[ek,hZ];exact aH _ _
  have ND:Hid (∀ V,ZD Z V->Env V/\Bk.TextsAt V k1 cg W.k/\Tr.IntsAt V qa qn N/\Tr.BlksAt V qb qm T/\TxsAt V qp qq P):=λV hv=>⟨HE.later (Zf (Zf HB bf) hv),HF.1.later (Zf bf hv),iN.later (Zf bf hv),iT.later (Zf bf hv),iP.later (Zf bf hv)⟩;have SS:=Zd (⟨fm,fo,fp⟩:SlOk qa qn qc/\SlOk qb qm qd/\SlOk qp qq qr);have dh:Hid (qq<=2513169434916/\∀ t∈P,Tr.TxSmall t):=⟨by rw[<-iP.1];exact fa.1,fa.2⟩;obtain⟨gi,gh,be,dz,cq,jn,gn⟩:=kh7 bg ey eq dn it ir fb;have vl:=aE _ _ v0;obtain⟨z0,z1,z2,zl⟩:=cl3 HY;have BZ:Hid (ZD Z Z):=Below.refl _ _;have al:=onb HG bf;have aw:=mvd bf HY;have CS:=Zd (K9 k1 cg dd W.k qa qb qp qn qc qm qd qq qr N T P tip Z (ND Z BZ).1 (ND Z BZ).2.1 (ND Z BZ).2.2.1 (ND Z BZ).2.2.2.1 (ND Z BZ).2.2.2.2 fm fo fp dh.1 dh.2);clear ip bg hy iN iT iP fm fo fp fa dn it eq fb ir ey bf HG HY HB HF
  go_upto_region 9 with fail
  rw[<-hZ,<-ek];clear hZ ek v0 v1 v2 v3 vl z0 z1 z2 zl;obtain⟨a0,a1,a2,a3,ol⟩:=cl4 HN;obtain⟨z0,z1,z2,zl⟩:=cl3 aw;go_wp2_with fail;refine CS.mono ?_;rintro e y1 ⟨rfl,Q⟩;have HN:=mvd Q HN;have aw:=mvd Q aw;have BZ:=onb BZ Q;have al:=onb al Q;clear Q CS a0 a1 a2 a3 ol z0 z1 z2 zl;have CP:=Zd (Tr.path_is qa qb qn qc qm qd N T tip Pt pn 0 y1 (ND y1 BZ).2.2.1 (ND y1 BZ).2.2.2.1 SS.1 SS.2.1 jn cq);obtain⟨a0,a1,a2,a3,ol⟩:=cl4 HN;go_wp2_with fail;refine CP.mono ?_;rintro e z ⟨pv,rfl,ho,Q⟩;obtain⟨pa,pc,rfl,sP,gw⟩:=Tr.ints_of_own ho;have HN:=mvd Q HN;have aw:=mvd Q aw;have BZ:=onb BZ Q;have al:=onb al Q;have jo:=Zd gw;clear Q CP a0 a1 a2 a3 ol ho sP gw;obtain⟨M,hM⟩:=ZG ((z.alloc (.map #[] 0)).alloc (cZ #[.map (some z.heap.size)] 115));have B2:Hid (ZD z M):=by rw[hM];exact Zf (Zh _ _) (Zh _ _)
  have HP:Hid (PMap z.heap.size 0 [] M):=by show PMap _ _ _ _;rw[hM];exact (PMap.made z).keep (Zh _ _)
  have gf:Hid (M.heap[z.heap.size+1]? = some (cZ [.map (some z.heap.size)].toArray 115 (0,0))):=by rw[hM];exact Zk [.map #[] 0,cZ #[.map (some z.heap.size)] 115] z 1 _ rfl
  have kv:=Zgo z;obtain⟨a0,a1,a2,a3,ol⟩:=cl4 HN
  go_upto_region 15 with fail
  rw[<-hM];clear hM kv a0 a1 a2 a3 ol;have nr:pn<=1000:=by rw[<-Za cq,<-Za dz,Tr.pth_length];have:=(Zlf be tip).2;omega
  have jl:Hid ((spP N T Pt).length<=24*pn):=by show _<=_;rw[<-Za cq];exact Zdm Pt (λs hs=>(Tr.TrOk.of be).chk _ (Tr.fnd_at (Tr.TrOk.of be).len ((Tr.TrOk.of be).pth_sub gn s (by rw[Za dz];exact hs))))
  go_wp2_with fail
  go_loopw [64] (λi U=>∃ a:Nat,a<=pn/\i = .int .i64 a/\Hid (ZD z U)/\Hid (PMap z.heap.size (spP N T (Pt.take a)).length (spP N T (Pt.take a)) U)/\Hid (U.heap[z.heap.size+1]? = some (cZ [.map (some z.heap.size)].toArray 115 (0,0)))) (λi _=>pn - (intOf i).toNat)
  case atStart=>exact⟨0,aL _,rfl,B2,HP,gf⟩
  case round=>
   obtain⟨a,ha,rfl,HG,bq,HQ⟩:=hrel;clear B2 HP gf;have HN:=mvd HG HN;have aw:=mvd HG aw;have BZ:=onb BZ HG;have al:=onb al HG;by_cases ii:a<pn;rotate_left
   ·have kp:pn=a:=(by omega);subst kp;have gl:Hid (PMap z.heap.size (spP N T Pt).length (spP N T Pt) wr):=(by have:=Za bq;rw[aV (by rw[Za cq];exact aF _)] at this;exact this);clear bq ii;obtain⟨C,hC⟩:=ZF ((Z0 W.k N T noB).2 tip);have CN:=Zd (Rr k1 cg dd W.k qa qb qp qn qc qm qd qq qr N T P tip 0 wr (ND wr BZ).1 (ND wr BZ).2.1 (ND wr BZ).2.2.1 (ND wr BZ).2.2.2.1 (ND wr BZ).2.2.2.2 SS.1 SS.2.1 SS.2.2 dh.1 dh.2 gi C (by rw[if_pos rfl];exact hC))
    have gb:Hid (∀ x∈C,(x.1,x.2.1)∉spP N T Pt/\(Lit.int .i64 x.1).wf=true/\(Lit.int .i64 x.2.1).wf=true):=λx hx=>by
     have hk:=(Br gi).1;rw[hC] at hk;have ep:=Yu (((Z6 C).1 hk).one x hx);refine⟨λhm=>?_,Ur (by omega) (by omega),Ur (by omega) (by omega)⟩;have hh:=gh.2 _ hm;rw[hC] at hh;have:Y3 (x.1,x.2.1) C=true:=(Y5 _ _).2 ⟨x,hx,rfl⟩;rw[this] at hh;cases hh
    clear hC;obtain⟨a0,a1,a2,a3,ol⟩:=cl4 HN;obtain⟨z0,z1,z2,zl⟩:=cl3 aw;go_wp2_with fail;refine CN.mono ?_;rintro e x1 ⟨ca,cn,cc,rfl,id,fj,Q⟩;have CT:=Zd (Hk 58 #[.pointer (some ⟨z.heap.size+1,0,none⟩)] ca cn cc C x1 (Zaf (gl.keep Q) (ZE Q HQ) gb) id (Nat.le_trans fj.1 fj.2.1));have al:=onb al Q;clear Q CN id fj a0 a1 a2 a3 ol z0 z1 z2 zl HN aw BZ gl HQ gb;go_wp2_with fail;refine CT.mono ?_;rintro e x2 ⟨rfl,Q⟩;have al:=onb al Q;clear Q CT;go_wp2;go_roundw
    case rel=>exact⟨j+1,by omega,by go_num,al⟩
    case measure=>simp[intOf];omega
   have dq:a<Pt.length:=(by rw[Za cq];exact ii);have lx:(a:Int)<(pn:Int):=(by omega);obtain⟨s,hs⟩:=ZF (Pt[a]);obtain⟨b,Q⟩:=ZF (Tr.fnd s N T);obtain⟨bp,bh,bk,bo,Tx⟩:=b;obtain⟨pb,po,ki,kw,iq⟩:=jo.2 (by omega);subst ki;have c0:=Ze HG (iq a dq);rw[hs] at c0;have jx:=aE _ _ c0;have ez:s∈N:=(Tr.TrOk.of be).pth_sub gn s (by rw[Za dz,<-hs];exact aQ dq);have ib:Tr.blockE N T s=((bp,bh,bk,bo,Tx),0):=(by unfold Tr.blockE;rw[if_neg (λq=>q be),if_pos (by simpa using ez),Q]);have et:Yk (bp,bh,bk,bo,Tx)=0:=(by rw[<-Q];exact (Tr.TrOk.of be).chk _ (Tr.fnd_at (Tr.TrOk.of be).len ez));have CB:=Zd (Tr.block_fresh qa qb qn qc qm qd N T s (bp,bh,bk,bo,Tx) 0 wr (ND wr BZ).2.2.1 (ND wr BZ).2.2.2.1 SS.1 SS.2.1 ib);have gd:Hid ((Tr.fnd Pt[a] N T).2.2.2.2=Tx):=(by show _=_;rw[hs,Q]);have jq:=Zd (Pz et);have jp:=Zd (Qw et).2.1;obtain⟨lo,ev⟩:∃ n,n=wr.heap.size:=⟨_,rfl⟩;have ly:z.heap.size<lo:=(by rw[ev];exact bq.lt);obtain⟨a0,a1,a2,a3,ol⟩:=cl4 HN;clear Q ez ib et iq kw hs;go_wp2_with fail;refine CB.mono ?_;rintro e x1 ⟨ta,tn,tc,rfl,hF,sT,Q⟩;obtain⟨B,hB,el,jh⟩:=ka01 x1 [.int .i64 bp,.int .i64 bh,.int .i64 bk,.int .i64 bo,F ta tn tc] 39;have dc:=Zf Q el;have dx:Hid (∀ V,Gr B V (λq=>q<lo)->TxsAt V ta tn Tx):=λV g=>hF V (((Gr.of el).mono (λq _ e=>e)).trans (by rw[ev] at g;exact g));have GB:=onb HG dc;have bq:=Zd (bq.keep dc);have HQ:=mvd dc HQ;have lm:=Zd dc.size;have fc:Tx.length=tn:=(dx B (Gr.refl _ _)).1;have go:=Zd fc
   have nv:tn<=4:=(by have:=Za jp;rw[<-fc];exact this);clear CB hF Q el dc a0 a1 a2 a3 ol c0 jx ev fc HG sT
   go_upto_region 19 with fail
   rw[<-hB];clear hB;obtain⟨d0,d1,d2,d3,d4,dl⟩:=cl5 jh;go_wp2_with fail
   go_loopw [80] (λi U=>∃ t:Nat,t<=tn/\i = .int .i64 t/\Hid (Gr B U (λq=>q=z.heap.size))/\Hid (PMap z.heap.size (spP N T (Pt.take a)++Y4 (Tx.take t)).length (spP N T (Pt.take a)++Y4 (Tx.take t)) U)/\Hid (U.heap[z.heap.size+1]? = some (cZ [.map (some z.heap.size)].toArray 115 (0,0)))) (λi _=>tn - (intOf i).toNat)
   case atStart=>exact⟨0,aL _,rfl,Gr.refl _ _,by have:=Za bq;show PMap _ _ _ _;simpa[Y4] using this,HQ⟩
   case round=>
    obtain⟨t,ht,rfl,G3,P3,Q3⟩:=hrel;clear d0 d1 d2 d3 d4 dl bq HQ;by_cases ik:t<tn;rotate_left
    ·have ks:tn=t:=(by omega);subst ks;have ic:ZD z wr:=G3.below GB GB.size (λq e=>bL (Eq.symm e));have P4:Hid (PMap z.heap.size (spP N T (Pt.take (a+1))).length (spP N T (Pt.take (a+1))) wr):=(by have:=Za P3;rw[show Tx.take tn=Tx from aV (by rw[Za go];exact aF _),<-Za gd,<-Ay dq] at this;exact this);have ji:=Zd ic;clear P3 ic ik;go_wp2;go_roundw
     case rel=>exact⟨a+1,by omega,by go_num,ji,P4,Q3⟩
     case measure=>simp[intOf];omega
    have da:t<Tx.length:=(by rw[Za go];exact ik);have nu:(t:Int)<(tn:Int):=(by omega);have iv:=dx wr (G3.mono (λq _ e=>by have e:q=z.heap.size:=e;omega));obtain⟨tb,li,kj,kx,iw⟩:=iv.2 (by omega);subst kj;obtain⟨th,db⟩:∃ t1,Tx[t]=t1:=⟨_,rfl⟩;have gz:=iw t da;rw[db] at gz;obtain⟨t1,I,O⟩:=th;obtain⟨c0,⟨ai,ni,ci,c1,hI,sI⟩,ao,no,co,c2,_,_⟩:=gz;simp only at c0 hI;have jd:tb≠z.heap.size:=λe=>P3.noc (e ▸ c0)
    have dy:Hid (∀ V,Gr wr V (λq=>q=z.heap.size)->InsAt V ai ni I):=λV g=>by
     obtain⟨oi,oj,e2,_,km⟩:=(dx V ((G3.trans g).mono (λq _ e=>by have e:q=z.heap.size:=e;omega))).2 (by omega);injection e2 with e2;injection e2 with e3 e4 _;subst e3 e4;have ia:=km t da;rw[db] at ia;obtain⟨_,⟨lq,ny,lr,q1,kk,_⟩,_⟩:=ia;have q2:=(World.cell?_of_block (a:=⟨tb,li+t*3+1,none⟩) (g.block tb (aE _ _ c0) jd)).trans c1;rw[q1] at q2;injection q2 with q2;injection q2 with r1 r2 _;subst r1 r2;exact kk
    have ep:Zu (t1,I,O)=0:=jq _ (by rw[<-db];exact aQ da);obtain⟨gm,ea⟩:=kh2 (Ziu ep) db;have ew:I.length=ni:=hI.1;have gg:=Zd ew;have nk:ni<=6:=(by have:=gm.1;rw[<-ew];exact this);obtain⟨D,hD,cy,jj⟩:=ka01 wr [.int .i64 t1,F ai ni ci,F ao no co] 59;have GD:Hid (Gr B D (λq=>q=z.heap.size)):=G3.on cy;have P3:=Zd (P3.keep cy);have Q3:=mvd cy Q3;have dy:Hid (∀ V,Gr D V (λq=>q=z.heap.size)->InsAt V ai ni I):=λV g=>dy V ((Gr.of cy).trans g);clear iw hI sI ep ew jd iv cy db G3
    go_upto_region 24 with fail
    rw[<-hD];clear hD c0 c1 c2 kx;obtain⟨d0,d1,d2,dl⟩:=cl3 jj;go_wp2_with fail
    go_loopw [87] (λi U=>∃ k:Nat,k<=ni/\i = .int .i64 k/\Hid (Gr D U (λq=>q=z.heap.size))/\Hid (PMap z.heap.size (spP N T (Pt.take a)++Y4 (Tx.take t)++(spT (t1,I,O)).take k).length (spP N T (Pt.take a)++Y4 (Tx.take t)++(spT (t1,I,O)).take k) U)/\Hid (U.heap[z.heap.size+1]? = some (cZ [.map (some z.heap.size)].toArray 115 (0,0)))) (λi _=>ni - (intOf i).toNat)
    case atStart=>exact⟨0,aL _,rfl,Gr.refl _ _,by have:=Za P3;show PMap _ _ _ _;simpa using this,Q3⟩
    case round=>
     obtain⟨k,hk,rfl,G4,P4,Q4⟩:=hrel;clear d0 d1 d2 dl P3 Q3;by_cases il:k<ni;rotate_left
     ·have kq:ni=k:=(by omega);subst kq;have G5:Hid (Gr B wr (λq=>q=z.heap.size)):=GD.trans G4
      have P5:Hid (PMap z.heap.size (spP N T (Pt.take a)++Y4 (Tx.take (t+1))).length (spP N T (Pt.take a)++Y4 (Tx.take (t+1))) wr):=by
       have:=Za P4;rw[show (spT (t1,I,O)).take ni=spT (t1,I,O) from aV (by show (I.map _).length<=ni;rw[List.length_map];exact bL gg),bZ] at this;have e:=Nl da;rw[Za ea] at e;rw[<-e] at this;exact this
      clear P4 G4 il;go_wp2;go_roundw
      case rel=>exact⟨t+1,by omega,by go_num,G5,P5,Q4⟩
      case measure=>simp[intOf];omega
     have es:k<I.length:=(by rw[Za gg];exact il);have nh:(k:Int)<(ni:Int):=(by omega);obtain⟨ot,io,kf,ko,ig⟩:=(dy wr G4).2 (by omega);subst kf;obtain⟨c0,c1,oa,on,oc,c2,_,_⟩:=ig k es;have hp:=Zfy gh.1 dq gd da (I:=I) (by rw[Za ea]) es;rw[Za ea] at hp;obtain⟨dv,dw⟩:=gm.2 _ (aQ es);obtain⟨x1,x2,fd⟩:∃ x1 x2:Int,x1=I[k].1/\x2=I[k].2.1:=⟨_,_,rfl,rfl⟩;rw[<-fd.1] at c0 hp dv;rw[<-fd.2] at c1 hp dw;obtain⟨fz,hE,dr,jk⟩:=ka01 wr [.int .i64 x1,.int .i64 x2,F oa on oc] 119;have pE:=P4.keep dr;have Q5:=mvd dr Q4;have lk:=PMap.look pE (x1,x2) dv dw;have lf:decide (((x1,x2):PtD)∈spP N T (Pt.take a)++Y4 (Tx.take t)++(spT (t1,I,O)).take k)=false:=decide_eq_false hp.1;rw[lf] at lk;have kt:=Za jl;obtain⟨V,ns,gx,ie⟩:=PMap.put pE (by have:=hp.2.1;omega) (x1,x2) dv dw;have gV:Gr fz V (λq=>q=z.heap.size):=(Gr.refl fz (λq=>q=z.heap.size)).grown ie (λq e=>.inl (by injection e with e;exact e.symm));have G6:Hid (Gr D V (λq=>q=z.heap.size)):=(G4.on dr).trans gV
     have P6:Hid (PMap z.heap.size (spP N T (Pt.take a)++Y4 (Tx.take t)++(spT (t1,I,O)).take (k+1)).length (spP N T (Pt.take a)++Y4 (Tx.take t)++(spT (t1,I,O)).take (k+1)) V):=by
      rw[hp.2.2,<-bZ];have e:(spP N T (Pt.take a)++Y4 (Tx.take t)++(spT (t1,I,O)).take k++[((x1,x2):PtD)]).length=(spP N T (Pt.take a)++Y4 (Tx.take t)++(spT (t1,I,O)).take k).length+1:=(by rw[List.length_append];rfl);show PMap _ _ _ _;rw[e];exact gx
     have Q6:Hid (V.heap[z.heap.size+1]? = some (cZ [.map (some z.heap.size)].toArray 115 (0,0))):=gV.heap Q5 (by show ¬z.heap.size+1=z.heap.size;omega);obtain⟨e0,e1,e2,om⟩:=cl3 jk;obtain⟨q0,ql⟩:=cl1 Q5;clear ig ko hp dv dw fd dr pE kt lf ie gV gx P4 G4
     go_upto_region 27 with fail
     rw[<-hE];clear hE c0 c1 c2;go_wp2;go_roundw
     case rel=>exact⟨k+1,by omega,by go_num,G6,P6,Q6⟩
     case measure=>simp[intOf];omega
namespace Tr
open Go.ChangeShapes Go.WideShapes Go.ChangeAt Go.RowKit
theorem own:ownKnob Tryz.prog.godebug=none:=by kernel_rfl
theorem Hs:laidOutB aB=true:=by kernel_rfl
theorem Tryz.cellsOp:Tryz.prog.cellsOf 164=2:=by kernel_rfl
theorem Tryz.cells3:Tryz.prog.cellsOf 3=1:=by kernel_rfl
theorem Sl{H:Type}{enc:TypeId×Value->H}{W}{sp:Nat->Bool}{held:Bool}{fuel:Nat}{a len cap}{x:DataW H×List MemPlace}
  (h:DataW.trod enc aB W 0 sp held fuel 48 [F a len cap]=some x):(∃ l,OpsAt W a len l)/\(a=none->len=0/\cap=0):=by
 rcases Deep.open_slice_pairs underlying48 underlying164 Tryz.cellsOp rfl rfl Tryz.cells3 Tryz.cells3 h with ⟨z,_⟩|⟨b,l,c,m,n,V0,V1,D0,D1,P0,P1,z,_,hl,_,hm,_,ae⟩
 ·simp at z;obtain⟨rfl,rfl,rfl⟩:=z;exact⟨⟨[],rfl,λh=>absurd h (by omega)⟩,λ_=>⟨rfl,rfl⟩⟩
 ·simp at z;obtain⟨rfl,rfl,rfl⟩:=z;refine⟨?_,λh=>by cases h⟩;have ax:len<=m:=by rw[hm];split <;> omega
  have each:∀ i,i<len->∃ q:Int×Int,W.cell? (b.add (i*2))=some (.int .i64 q.1)/\W.cell? (b.add (i*2+1))=some (.int .i64 q.2):=λi hi=>by
   obtain⟨h1,h2,t1,t2⟩:=ae i (by omega);obtain⟨z1,e1,_,_⟩:=cB bC t1;obtain⟨z2,e2,_,_⟩:=cB bC t2;simp only[List.cons.injEq,and_true] at e1 e2;exact⟨(z1,z2),by rw[h1,e1],by rw[h2,e2]⟩
  obtain⟨f,hf⟩:=Deep.choose_lt each;refine⟨(List.range len).map f,by simp,λag=>?_⟩;obtain⟨Q,off,aj⟩:=b;have ah:aj=none:=by simpa[Addr.add] using World.cell?_spot (hf 0 ag).1
  subst ah;refine⟨Q,off,rfl,λi hi=>?_⟩;have ac:∀ j,(⟨Q,off,none⟩:Addr).add j=⟨Q,off+j,none⟩:=λj=>by unfold Addr.add;split <;> simp_all
  have h1:=hf i hi;rw[ac,ac] at h1;rw[<-Nat.add_assoc] at h1;simpa[hi] using h1
theorem Tryz.cellsTx:Tryz.prog.cellsOf 59=3:=by kernel_rfl
theorem Tryz.cellsIn:Tryz.prog.cellsOf 119=3:=by kernel_rfl
theorem Tryz.cellsOut:Tryz.prog.cellsOf 122=2:=by kernel_rfl
theorem Tryz.cellsPoint:Tryz.prog.cellsOf 117=2:=by kernel_rfl
theorem Tryz.cellsOps:Tryz.prog.cellsOf 48=1:=by kernel_rfl
theorem Tryz.cellsIns:Tryz.prog.cellsOf 56=1:=by kernel_rfl
theorem Tryz.cellsOuts:Tryz.prog.cellsOf 57=1:=by kernel_rfl
theorem list_two{cs:List Value}(h:cs.length=2):∃ a b,cs=[a,b]:=by
 match cs,h with
 | [a,b],_=>exact⟨a,b,rfl⟩
theorem list_three{cs:List Value}(h:cs.length=3):∃ a b c,cs=[a,b,c]:=by
 match cs,h with
 | [a,b,c],_=>exact⟨a,b,c,rfl⟩
section
variable {H : Type} {enc : TypeId × Value -> H} {W : World} {sp : Nat -> Bool} {held : Bool} {fuel : Nat}
theorem ops_full{v}{x:DataW H×List MemPlace}(h:DataW.trod enc aB W 0 sp held fuel 48 [v]=some x):∃ a n c l,v = F a n c/\OpsAt W a n l/\SlOk a n c:=by
 have h':=h
 rcases Deep.open_slice underlying48 h with ⟨z,_⟩|⟨b,l,c,m,n,D,Pl,z,_,hl,hm,_⟩
 ·simp at z;subst z;exact⟨none,0,0,[],rfl,⟨rfl,λh=>absurd h (by omega)⟩,aF _,aL _,λ_=>⟨rfl,rfl⟩⟩
 ·simp at z;subst z;obtain⟨⟨L,Q⟩,_⟩:=Sl h';exact⟨some b,l,c,L,rfl,Q,hl,hm,λh=>by cases h⟩
end
end Tr
open Go.ChangeShapes Go.WideShapes Go.ChangeAt Go.RowKit
theorem own:ownKnob Tryz.prog.godebug=none:=by kernel_rfl
theorem Hs:laidOutB aB=true:=by kernel_rfl
theorem Tryz.cellsOp:Tryz.prog.cellsOf 164=2:=by kernel_rfl
theorem Tryz.cells3:Tryz.prog.cellsOf 3=1:=by kernel_rfl
theorem Sl{H:Type}{enc:TypeId×Value->H}{W}{sp:Nat->Bool}{held:Bool}{fuel:Nat}{a len cap}{x:DataW H×List MemPlace}
  (h:DataW.trod enc aB W 0 sp held fuel 48 [F a len cap]=some x):(∃ l,OpsAt W a len l)/\(a=none->len=0/\cap=0):=by
 rcases Deep.open_slice_pairs underlying48 underlying164 Tryz.cellsOp rfl rfl Tryz.cells3 Tryz.cells3 h with ⟨z,_⟩|⟨b,l,c,m,n,V0,V1,D0,D1,P0,P1,z,_,hl,_,hm,_,ae⟩
 ·simp at z;obtain⟨rfl,rfl,rfl⟩:=z;exact⟨⟨[],rfl,λh=>absurd h (by omega)⟩,λ_=>⟨rfl,rfl⟩⟩
 ·simp at z;obtain⟨rfl,rfl,rfl⟩:=z;refine⟨?_,λh=>by cases h⟩;have ax:len<=m:=by rw[hm];split <;> omega
  have each:∀ i,i<len->∃ q:Int×Int,W.cell? (b.add (i*2))=some (.int .i64 q.1)/\W.cell? (b.add (i*2+1))=some (.int .i64 q.2):=λi hi=>by
   obtain⟨h1,h2,t1,t2⟩:=ae i (by omega);obtain⟨z1,e1,_,_⟩:=cB bC t1;obtain⟨z2,e2,_,_⟩:=cB bC t2;simp only[List.cons.injEq,and_true] at e1 e2;exact⟨(z1,z2),by rw[h1,e1],by rw[h2,e2]⟩
  obtain⟨f,hf⟩:=Deep.choose_lt each;refine⟨(List.range len).map f,by simp,λag=>?_⟩;obtain⟨Q,off,aj⟩:=b;have ah:aj=none:=by simpa[Addr.add] using World.cell?_spot (hf 0 ag).1
  subst ah;refine⟨Q,off,rfl,λi hi=>?_⟩;have ac:∀ j,(⟨Q,off,none⟩:Addr).add j=⟨Q,off+j,none⟩:=λj=>by unfold Addr.add;split <;> simp_all
  have h1:=hf i hi;rw[ac,ac] at h1;rw[<-Nat.add_assoc] at h1;simpa[hi] using h1
theorem Tryz.cellsTx:Tryz.prog.cellsOf 59=3:=by kernel_rfl
theorem Tryz.cellsIn:Tryz.prog.cellsOf 119=3:=by kernel_rfl
theorem Tryz.cellsOut:Tryz.prog.cellsOf 122=2:=by kernel_rfl
theorem Tryz.cellsPoint:Tryz.prog.cellsOf 117=2:=by kernel_rfl
theorem Tryz.cellsOps:Tryz.prog.cellsOf 48=1:=by kernel_rfl
theorem Tryz.cellsIns:Tryz.prog.cellsOf 56=1:=by kernel_rfl
theorem Tryz.cellsOuts:Tryz.prog.cellsOf 57=1:=by kernel_rfl
theorem list_two{cs:List Value}(h:cs.length=2):∃ a b,cs=[a,b]:=by
 match cs,h with
 | [a,b],_=>exact⟨a,b,rfl⟩
theorem list_three{cs:List Value}(h:cs.length=3):∃ a b c,cs=[a,b,c]:=by
 match cs,h with
 | [a,b,c],_=>exact⟨a,b,c,rfl⟩
section
variable {H : Type} {enc : TypeId × Value -> H} {W : World} {sp : Nat -> Bool} {held : Bool} {fuel : Nat}
theorem ops_full{v}{x:DataW H×List MemPlace}(h:DataW.trod enc aB W 0 sp held fuel 48 [v]=some x):∃ a n c l,v = F a n c/\OpsAt W a n l/\SlOk a n c:=by
 have h':=h
 rcases Deep.open_slice underlying48 h with ⟨z,_⟩|⟨b,l,c,m,n,D,Pl,z,_,hl,hm,_⟩
 ·simp at z;subst z;exact⟨none,0,0,[],rfl,⟨rfl,λh=>absurd h (by omega)⟩,aF _,aL _,λ_=>⟨rfl,rfl⟩⟩
 ·simp at z;subst z;obtain⟨⟨L,Q⟩,_⟩:=Sl h';exact⟨some b,l,c,L,rfl,Q,hl,hm,λh=>by cases h⟩
end
namespace Bk
open Go.ChangeShapes Go.WideShapes Go.ChangeAt Go.RowKit
theorem own:ownKnob Tryz.prog.godebug=none:=by kernel_rfl
theorem Hs:laidOutB aB=true:=by kernel_rfl
theorem Tryz.cells9:Tryz.prog.cellsOf 9=1:=by kernel_rfl
section
variable {H : Type} {enc : TypeId × Value -> H} {W : World} {sp : Nat -> Bool} {held : Bool} {fuel : Nat}
end
end Bk
open Go.ChangeShapes Go.WideShapes Go.ChangeAt Go.RowKit
section
variable {H : Type} {enc : TypeId × Value -> H} {W : World} {sp : Nat -> Bool} {held : Bool} {fuel : Nat}
end
set_option maxRecDepth 100000 in
theorem Fm{H:Type}{enc:TypeId×Value->H}{os:Os}{f:FuncId}{fn:Func}{s:ChangeSpec}{X:World->Prop}(hX:∀ w w':World,w.heap=w'.heap->X w->X w')
  (ap:os.Started) (an:Tryz.checked.prog.inits.idxOf? f=none) (ag:Tryz.checked.prog.funcs[f]? = some fn)
  (aq:∃ (w:World) (tape:Tape) (i:Input),w.os=os/\(w.forCall tape i).Shaped Tryz.checked.prog/\i.vars=[]/\Input.okWide Tryz.checked.prog (w.forCall tape i) .any w.heap.size f i /\
   ((s.pre enc Tryz.checked.prog fn [] false (w.forCall tape i).memory i.args/\X (w.forCall tape i).memory)/\sizedMet enc Tryz.checked.prog fn (OpenSpec.ofChange s) false (w.forCall tape i).memory i.args)/\({}:Assume).holds Tryz.checked.prog (lone (Frame.enter Tryz.checked.prog f i.args .normal) [] (w.forCall tape i)))
  (ac:∀ (W:World) (base:Nat) (args:Array Value) (z Q:List (DataW H)) (aa:List MemPlace),
   (∀ (j:Nat) t v,fn.params[j]? = some t->args[j]? = some v->Value.okWide Tryz.checked.prog W .any base t v) ->
   DataW.Whole enc Tryz.checked.prog fn.params.toList s.vars false W args.toList z Q aa->X W->(DataW.weightsEach Tryz.checked.prog (fn.params.toList++s.plain.varTypes Tryz.checked.prog) (z++Q)).all (·<=reachBytes)=true ->
   Calls Tryz.checked.prog f args W λe W'=>∃ v,e = dA v/\s.post enc Tryz.checked.prog fn false true false false W args v W') :
  ReturnsInHanded {} Tryz.checked os f .any (λw args=>(s.pre enc Tryz.checked.prog fn [] false w args/\X w)/\sizedMet enc Tryz.checked.prog fn (OpenSpec.ofChange s) false w args) (s.post enc Tryz.checked.prog fn false true false false):=by
 refine returnsInHanded_of_calls own ap an aq ?_;intro w tape i _ _ _ aj ak _;obtain⟨_,_,_,ad,ah,_,_,_,_,al⟩:=aj;obtain rfl:ad=fn:=Option.some.inj (ah.symm.trans ag);obtain⟨⟨⟨z,Q,aa,hw,_⟩,hx⟩,hz⟩:=ak;refine (ac (w.forCall tape i) w.heap.size i.args z Q aa al (DataW.Whole.of_heap (w':=w.forCall tape i) (by rfl) hw) (hX _ _ (by rfl) hx) (hz.weights hw)).mono λe W' ⟨v,he,hp⟩=>?_;subst he;exact ChangeSpec.post_blind hp
