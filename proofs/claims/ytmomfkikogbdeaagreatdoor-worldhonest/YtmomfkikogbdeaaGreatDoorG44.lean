import Derived.Test.YtmomfkikogbdeaaGreatDoorH
import Derived.Test.YtmomfkikogbdeaaGreatDoorG43
open Go.Proofs.Tryz
open Go renaming bodyPost_ret->aW,lt_of_block->aA,heap_alloc_new->aH
open Go.Ending renaming returned->dA
open Go.IntKind renaming i64->J
open Go.Obj renaming cells->cZ
open Go.Value renaming slice->aX,int->E,slice->F,tuple->dB,pointer->dC
open Go.World.ownsRow renaming cellAt->aZ
open List renaming getElem_mem->aQ,mem_append->bA,mem_singleton->bX
set_option maxHeartbeats 12800000
set_option maxRecDepth 10000
namespace Go.Proofs.YtmomfkikogbdeaaGreatDoor.Tr
open Go.RowKit
def Zmz(w w':World)(x:Zl)(y:Int)(e:Ending):Prop:=
 ∃ z Q tc,e = dA (dB #[.agg #[E J x.1,E J x.2.1,E J x.2.2.1,E J x.2.2.2.1,F z Q tc],E J y])/\(∀ W2,Gr w' W2 (λq=>q<w.heap.size)->TxsAt W2 z Q x.2.2.2.2)/\SlOk z Q tc/\ZD w w'
theorem Mk{w w':World}{y:Int}(z:ZD w w'):Zmz w w' Ym y (dA (dB #[.agg #[E J 0,E J 0,E J 0,E J 0,F none 0 0],E J y])):=
 ⟨none,0,0,rfl,λ_ _=>RowsAt.nil _ _,⟨Nat.le_refl _,Nat.zero_le _,λ_=>⟨rfl,rfl⟩⟩,z⟩
theorem block_fresh(a b n c m d N T)(s:Int)(x:Zl)(y:Int)(w)(hN:IntsAt w a n N)(hT:BlksAt w b m T)(sN:SlOk a n c)(sT:SlOk b m d)(hx:blockE N T s=(x,y)) :
  Calls Tryz.prog 20 #[.agg #[F a n c,F b m d],E J s] w λe w'=>Zmz w w' x y e:=by
 obtain⟨X,hX⟩:=ZG ((w.alloc (cZ #[F a n c,F b m d] 28)).alloc (cZ #[E J 0,E J 0,E J 0,E J 0,F none 0 0] 39));have ac:ZD w X:=by rw[hX];exact Zf (Zh _ _) (Zh _ _)
 have an:X.heap[w.heap.size]? = some (cZ [F a n c,F b m d].toArray 28 (0,0)):=by rw[hX,Below.heap_alloc _ _ _ (by simp)];exact Y2 _ _ _ _
 have ay:X.heap[w.heap.size+1]? = some (cZ [E J 0,E J 0,E J 0,E J 0,F none 0 0].toArray 39 (0,0)):=by
  rw[hX];have:=Zz (w.alloc (cZ #[F a n c,F b m d] 28)) (E J 0) (E J 0) (E J 0) (E J 0) (F none 0 0) 39;rw[show (w.alloc (cZ #[F a n c,F b m d] 28)).heap.size=w.heap.size+1 by simp] at this;exact this
 obtain⟨HB,cg,bh⟩:=kh3 ac an ay;obtain⟨dr,hz⟩:=ZF (chkTr N T);have C1:=Zd (Vx a b n c m d N T dr X (hN.later ac) (hT.later ac) sN sT hz);obtain⟨x0,x1,xl⟩:=kc2 an;unfold blockE at hx;rw[hz] at hx;by_cases q:dr=0
 ·subst q;rw[if_neg (by simp)] at hx;obtain⟨hl,h24,hH,bq⟩:=Vb hz;obtain rfl:n=m:=by rw[<-hN.1,<-hT.1,hl]
  have bd:n<=maxLen:=sN.len;obtain⟨o,ho⟩:=ZF (decide (s∈N));rw[ho] at hx;have C2:=Zd (λW (hb:ZD X W)=>Ls a b n c n d N s o W bd (hN.later (Zf ac hb)) ho);cases o with
  | false=>
   rw[if_neg (by simp)] at hx;obtain⟨rfl,rfl⟩:Ym=x/\5=y:=⟨congrArg Prod.fst hx,congrArg Prod.snd hx⟩;clear ac an ay hN hT sN sT hz hx hl h24 hH bq ho bd;go_enter func20,ntmps20;go_wp2_with fail;rw[<-hX];clear hX;refine C1.mono ?_;rintro e w1 ⟨rfl,z⟩;have CC:=Zd (C2 _ z);have hc:=ZE z cg;have ap:=ZE z bh;obtain⟨H0,H1⟩:=kh2 hc ap;obtain⟨t0,t1,tl⟩:=kc2 hc;obtain⟨cc,ah⟩:=kh2 z (Zf HB z);clear z x0 x1 xl hc ap C1 C2;go_wp2_with fail;refine CC.mono ?_;rintro e w2 ⟨rfl,ab⟩;have Q:=ZE ab H1;obtain⟨z0,z1,z2,z3,z4,f0,f1,f2,f3,f4,zl⟩:=kf5 Q;clear Q;have bg:=Zd (Zf ah ab);clear ab t0 t1 tl;go_wp2;(try simp only[Exit.inBlock,Exit.then]);refine aW (v:=dB #[.agg #[E J 0,E J 0,E J 0,E J 0,F none 0 0],E J 5]) ?_ rfl (Mk ?_)
   ·rw[Zn rfl];go_simp
   ·exact (box5_gr _ _ _ _ _ _ _).below bg (by omega) (λk hk=>by omega)
  | true=>
   rw[if_pos rfl] at hx;obtain⟨bk,rfl⟩:fnd s N T=x/\0=y:=⟨congrArg Prod.fst hx,congrArg Prod.snd hx⟩;have cu:x∈T:=(by rw[<-bk];exact fnd_at hl (by simpa using ho));have cw:=blk_small (chkGo_blks N T [] [] hl bq x cu);have C3:=Zd (λW (hb:ZD X W)=>Sx a b n c d N T s x W bd (hN.later (Zf ac hb)) (hT.later (Zf ac hb)) bk);have ce:=Zd cw;clear ac an ay hN hT sN sT hz hx hl h24 hH bq ho bd bk cu cw;obtain⟨p,h,k,r,L⟩:=x;go_enter func20,ntmps20;go_wp2_with fail;rw[<-hX];clear hX;refine C1.mono ?_;rintro e w1 ⟨rfl,z⟩;have CC:=Zd (C2 _ z);have hc:=ZE z cg;have ap:=ZE z bh;obtain⟨H0,H1⟩:=kh2 hc ap;obtain⟨t0,t1,tl⟩:=kc2 hc;obtain⟨cc,ah⟩:=kh2 z (Zf HB z);clear z x0 x1 xl hc ap C1 C2;go_wp2_with fail;refine CC.mono ?_;rintro e w2 ⟨rfl,ab⟩;have C4:=Zd (C3 _ (Zf cc ab));have cp:=ZE ab H0;have Q:=ZE ab H1;have HD:=Zd Q;obtain⟨u0,u1,ul⟩:=kc2 cp;have dg:=Zd (Zf ah ab);clear ab cp Q t0 t1 tl CC C3;go_wp2_with fail;refine C4.mono ?_;rintro e w3 ⟨ta,tn,tc,rfl,hL,sL,bb⟩;have hL:TxsAt w2 ta tn L:=hL;have C5:=Zd (clBlock_is p h k r ta tn tc L w3 (hL.later bb) sL (by rw[<-hL.1];exact ce.1) ce.2);have Q:=ZE bb HD;obtain⟨cd,dh,dq⟩:=kh3 Q (Zf dg bb) hL.1;clear bb Q hL sL u0 u1 ul C4;unfold Jn;go_wp2_with fail;refine C5.mono ?_;rintro e w4 ⟨a',c',rfl,hf,bj⟩;have Q:=ZE bj cd;obtain⟨z0,z1,z2,z3,z4,f0,f1,f2,f3,f4,zl⟩:=kf5 Q;clear Q;have hg:=box5_gr w4 (w.heap.size+1) (E J p) (E J h) (E J k) (E J r) (F a' tn c');have dl:=aA cd
   have HW:=Zd (λW2 (g2:Gr (((((w4.setCell ⟨w.heap.size+1,0,none⟩ (E J p)).setCell ⟨w.heap.size+1,1,none⟩ (E J h)).setCell ⟨w.heap.size+1,2,none⟩ (E J k)).setCell ⟨w.heap.size+1,3,none⟩ (E J r)).setCell ⟨w.heap.size+1,4,none⟩ (F a' tn c')) W2 (λq=>q<w.heap.size))=>hf W2 ((hg.mono λq _ e=>by omega).trans (g2.mono (λq _ e=>by omega))));have bg:Hid (ZD w (((((w4.setCell ⟨w.heap.size+1,0,none⟩ (E J p)).setCell ⟨w.heap.size+1,1,none⟩ (E J h)).setCell ⟨w.heap.size+1,2,none⟩ (E J k)).setCell ⟨w.heap.size+1,3,none⟩ (E J r)).setCell ⟨w.heap.size+1,4,none⟩ (F a' tn c'))):=hg.below (Zf dh bj) (by omega) (λk hk=>by omega);clear bj hf hg dl C5;go_wp2;(try simp only[Exit.inBlock,Exit.then]);refine aW (v:=dB #[.agg #[E J p,E J h,E J k,E J r,F a' tn c'],E J 0]) ?_ rfl ?_
   ·rw[Zn rfl];go_simp
   ·refine⟨a',tn,c',rfl,λW2 g2=>?_,?_,Za bg⟩
    ·obtain⟨a2,n2,c2,e2,f1,f2⟩:=HW W2 g2;cases e2;exact f1
    ·obtain⟨a2,n2,c2,e2,f1,f2⟩:=HW _ (Gr.refl _ _);cases e2;exact f2
 ·rw[if_pos q] at hx;obtain⟨rfl,rfl⟩:Ym=x/\dr=y:=⟨congrArg Prod.fst hx,congrArg Prod.snd hx⟩;have g:(dr != 0)=true:=by simp[q]
  clear ac an ay hN hT sN sT hz hx q;go_enter func20,ntmps20;go_wp2_with fail;rw[<-hX];clear hX;refine C1.mono ?_;rintro e w1 ⟨rfl,z⟩;have Q:=ZE z bh;obtain⟨z0,z1,z2,z3,z4,f0,f1,f2,f3,f4,zl⟩:=kf5 Q;clear Q;have ah:=Zd (Zf HB z);clear z x0 x1 xl C1;go_wp2;(try simp only[Exit.inBlock,Exit.then]);refine aW (v:=dB #[.agg #[E J 0,E J 0,E J 0,E J 0,F none 0 0],E J dr]) ?_ rfl (Mk ?_)
  ·rw[Zn rfl];go_simp
  ·exact (box5_gr _ _ _ _ _ _ _).below ah (by omega) (λk hk=>by omega)
end Tr
open Go.RowKit
def WD.asked(W:WD)(i:Nat)(fr nm:Int):WD:=
 if h:i<W.n.length then
  let r:=Tr.blockE W.n[i].1 W.n[i].2.1 nm
  if r.2=0 then W.sent (1,i,fr,0,r.1,Yz) else W
 else W
theorem Zmn(Z:Nat->Prop)(s:Nat)(W:WD)(kd fr:Int)(xn:Nat)(nm bp bh bk ei:Int)(la ln lc)(th:Int)(ai ao ni ci no co)(W':WD)(w)(hS:Sc Z s W w)(hi:xn<W.n.length)(aj:Tr.BlkSmall (Tr.blockE W.n[xn].1 W.n[xn].2.1 nm).1)(hx:W.asked xn fr nm=W') :
  Calls Tryz.prog 272 #[dC (some ⟨s,0,none⟩),.agg #[E J kd,E J fr,E J xn,E J nm,E J bp,E J bh,E J bk,E J ei,F la ln lc,E J th,F ai ni ci,F ao no co]] w λe w'=>e = dA (dB #[])/\Sc Z s W' w'/\Gr w w' (λq=>¬Z q):=by
 obtain⟨ka,kn,kc,vn,vm,Kn,Km,hA⟩:=hS;have hw:=hA.on;obtain⟨ga,gc,ma,mc,rfl,rfl,_,_,sg,_⟩:=hw.read;have hb:=hA.box
 obtain⟨g,rfl⟩:∃ g,ga=some ⟨g,0,none⟩:=by
  rcases hw.rn.2 with ⟨_,e⟩|⟨g,cap,dr,e,_⟩
  ·omega
  ·injection e with e;exact⟨g,e⟩
 have ea:=(hw.rn.lt g rfl).2;have hk:xn<Kn.length:=by rw[hw.now.2.1.1];exact hi
 obtain⟨y,hy⟩:=ZF (W.n[xn])
 have hC:Tr.nodR.C w Kn[xn] y:=by
  have:=hw.now.2.1.2 xn hi hk;rw[hy] at this;exact this
 unfold WD.asked at hx;rw[dif_pos hi] at hx;rw[hy] at aj;simp only[hy] at hx;obtain⟨z0,z1,z2,z3⟩:=y;obtain⟨na,nn,nc,ba,bn,bc,pa,pn,pc,eK,hN,hT,hP,sN,sT,sP⟩:=hC;simp only at eK hN hT hP hx aj;obtain⟨⟨b,x1⟩,hr⟩:=ZF (Tr.blockE z0 z1 nm);rw[hr] at hx aj;simp only at hx aj;obtain⟨X,hX,ag,ax⟩:=ka00 w [E J kd,E J fr,E J xn,E J nm,E J bp,E J bh,E J bk,E J ei,F la ln lc,E J th,F ai ni ci,F ao no co] 106;have dg:X.heap.size=w.heap.size+1:=by rw[hX];simp
 have cd:=ZE ag hb;have rc:=λj (hj:j<4)=>(aZ (hw.later ag).rn (xn*4+j) (by have:(xn+1)*4<=W.n.length*4:=Nat.mul_le_mul_right _ hi;omega)).trans (Tr.wid_at hw.now.2.1.wid xn hk j hj);rw[eK] at rc;have r0:X.cell? ⟨g,xn*4,none⟩=some (F na nn nc):=rc 0 (by decide);have r1:X.cell? ⟨g,xn*4+1,none⟩=some (F ba bn bc):=rc 1 (by decide);have r2:X.cell? ⟨g,xn*4+2,none⟩=some (F pa pn pc):=rc 2 (by decide);have r3:X.cell? ⟨g,xn*4+3,none⟩=some (E J z3):=rc 3 (by decide);have eb:(xn:Int)<(W.n.length:Int):=by omega
 have ec:=aA hb;have CB:=Zd (λV (hv:ZD w V)=>Tr.block_fresh na ba nn nc bn bc z0 z1 nm b x1 V (hN.later hv) (hT.later hv) sN sT hr);have HS:=Zd (λV (hv:ZD w V)=>(⟨_,_,_,_,_,_,_,hA.later hv⟩:Sc Z s W V));obtain⟨cp,HX,bj,bt⟩:=kh4 aj hx ag ax;obtain⟨-,c1,cl⟩:=kc2 cd;obtain⟨-,-,m2,m3,ml⟩:=kc4 ax;have dh:g<X.heap.size:=by omega
 have C1:=Zd (CB X.drew (Zf ag (Zi X)));have az:ZD X (X.alloc (cZ #[E J 0,E J 0,E J 0,E J 0,F none 0 0] 39)).drew:=Zf (Zh _ _) (Zi _);have C2:=Zd (CB (X.alloc (cZ #[E J 0,E J 0,E J 0,E J 0,F none 0 0] 39)).drew (Zf ag az));have au:Hid ((X.alloc (cZ #[E J 0,E J 0,E J 0,E J 0,F none 0 0] 39)).drew.heap[X.heap.size]? = some (cZ [E J 0,E J 0,E J 0,E J 0,F none 0 0].toArray 39 (0,0))):=aH _ _;have br:Hid ((X.alloc (cZ #[E J 0,E J 0,E J 0,E J 0,F none 0 0] 39)).drew.heap.size=X.heap.size+1):=by show (X.alloc _).heap.size=_;simp
 have RB:Hid (∀ w1 z Q tc,(∀ W2,Gr w1 W2 (λq=>q<(X.alloc (cZ #[E J 0,E J 0,E J 0,E J 0,F none 0 0] 39)).drew.heap.size)->TxsAt W2 z Q b.2.2.2.2)->SlOk z Q tc->Below (X.alloc (cZ #[E J 0,E J 0,E J 0,E J 0,F none 0 0] 39)).drew.heap.size (X.alloc (cZ #[E J 0,E J 0,E J 0,E J 0,F none 0 0] 39)).drew w1->((((((w1.setCell ⟨X.heap.size,0,none⟩ (E J b.1)).setCell ⟨X.heap.size,1,none⟩ (E J b.2.1)).setCell ⟨X.heap.size,2,none⟩ (E J b.2.2.1)).setCell ⟨X.heap.size,3,none⟩ (E J b.2.2.2.1)).setCell ⟨X.heap.size,4,none⟩ (F z Q tc)).heap[X.heap.size]? = some (cZ [E J b.1,E J b.2.1,E J b.2.2.1,E J b.2.2.2.1,F z Q tc].toArray 39 (0,0))/\TxsAt (((((w1.setCell ⟨X.heap.size,0,none⟩ (E J b.1)).setCell ⟨X.heap.size,1,none⟩ (E J b.2.1)).setCell ⟨X.heap.size,2,none⟩ (E J b.2.2.1)).setCell ⟨X.heap.size,3,none⟩ (E J b.2.2.2.1)).setCell ⟨X.heap.size,4,none⟩ (F z Q tc)) z Q b.2.2.2.2/\SlOk z Q tc/\ZD X (((((w1.setCell ⟨X.heap.size,0,none⟩ (E J b.1)).setCell ⟨X.heap.size,1,none⟩ (E J b.2.1)).setCell ⟨X.heap.size,2,none⟩ (E J b.2.2.1)).setCell ⟨X.heap.size,3,none⟩ (E J b.2.2.2.1)).setCell ⟨X.heap.size,4,none⟩ (F z Q tc)))):=λw1 z Q tc hL sL ad=>by
  have zb:=ZE ad au;have ed:=Za br;have dz:=ad.size;have ee:=ag.size;have hg:Gr w1 (((((w1.setCell ⟨X.heap.size,0,none⟩ (E J b.1)).setCell ⟨X.heap.size,1,none⟩ (E J b.2.1)).setCell ⟨X.heap.size,2,none⟩ (E J b.2.2.1)).setCell ⟨X.heap.size,3,none⟩ (E J b.2.2.2.1)).setCell ⟨X.heap.size,4,none⟩ (F z Q tc)) (λq=>q=X.heap.size):=Tr.box5_gr _ _ _ _ _ _ _;refine⟨Tr.set_cells (Tr.set_cells (Tr.set_cells (Tr.set_cells (Tr.set_cells zb 0 _) 1 _) 2 _) 3 _) 4 _,hL _ (hg.mono (λq _ e=>?_)),sL,hg.below (Zf az ad) (by omega) (λq e=>?_)⟩
  ·have e:q=X.heap.size:=e;omega
  ·have e:q=X.heap.size:=e;omega
 clear hA hw hb eK hN hT hP sN sT sP ag dg ax cd rc hx hy hr aj r2 r3 az;go_enter func272,ntmps272
 go_upto_region 1 with fail
 rw[<-hX];clear hX CB
 go_cut [4,5] from 6 to 21 (λs4 s5 wx=>∃ p z Q tc,s4 = dC (some ⟨p,0,none⟩)/\s5 = E J x1/\Hid (wx.heap[p]? = some (cZ [E J b.1,E J b.2.1,E J b.2.2.1,E J b.2.2.2.1,F z Q tc].toArray 39 (0,0))/\TxsAt wx z Q b.2.2.2.2/\SlOk z Q tc/\ZD X wx))
 case first=>
  go_region_law (first
   | (refine Yo (by rfl) 20 #[.agg #[F na nn nc,F ba bn bc],E J nm] (by kernel_rfl) C1 ?_;rintro e w1 ⟨z,Q,tc,rfl,hL,sL,ad⟩;refine⟨_,rfl,?_⟩;have bv:Hid ((w1.alloc (cZ #[E J b.1,E J b.2.1,E J b.2.2.1,E J b.2.2.2.1,F z Q tc] 39)).heap[w1.heap.size]? = some (cZ [E J b.1,E J b.2.1,E J b.2.2.1,E J b.2.2.2.1,F z Q tc].toArray 39 (0,0))/\TxsAt (w1.alloc (cZ #[E J b.1,E J b.2.1,E J b.2.2.1,E J b.2.2.2.1,F z Q tc] 39)) z Q b.2.2.2.2/\SlOk z Q tc/\ZD X (w1.alloc (cZ #[E J b.1,E J b.2.1,E J b.2.2.1,E J b.2.2.2.1,F z Q tc] 39))):=⟨aH _ _,hL _ (Gr.of (Zh _ _)),sL,Zf (Zf (Zi X) ad) (Zh _ _)⟩;clear hL sL ad)
   | (refine Yo (by rfl) 20 #[.agg #[F na nn nc,F ba bn bc],E J nm] (by kernel_rfl) C2 ?_;rintro e w1 ⟨z,Q,tc,rfl,hL,sL,ad⟩;refine⟨_,rfl,?_⟩;have zb:=ZE ad au;have bv:=Zd (RB w1 z Q tc hL sL ad);have f0:=Zg zb 0;have f1:=Zg zb 1;have f2:=Zg zb 2;have f3:=Zg zb 3;have f4:=Zg zb 4;have z0:=Zb zb 0 _ rfl;have z1:=Zb zb 1 _ rfl;have z2:=Zb zb 2 _ rfl;have z3:=Zb zb 3 _ rfl;have z4:=Zb zb 4 _ rfl;have zl:=aA zb;clear hL sL ad zb))
  all_goals
   go_wp2_with fail;go_meet
   case rel=>exact⟨_,_,_,_,rfl,rfl,Za bv⟩
 case rest=>
  obtain⟨p,z,Q,tc,rfl,rfl,HC⟩:=hcut;obtain⟨be,hL,sL,bb⟩:=Za HC;have bd:=Zf bj bb;have h1:=ZE bb bt;have ah:Sc Z s W wc:=HS wc bd;have bo:Hid (Gr w wc (λq=>¬Z q)):=Gr.of bd;clear HC bb bd C1 C2 RB au br HS bt bj c1 cl m2 m3 ml dh r0 r1;by_cases h0:x1=0;rotate_left
  ·have e:=Za HX;rw[if_neg h0] at e;subst e;have ar:=Zd ah;have gx:(x1 == 0)=false:=(by simp[h0]);clear ah h1 hL be;go_wp2;go_end0;exact⟨rfl,Za ar,Za bo⟩
  subst h0;have e:=Za HX;rw[if_pos rfl] at e;subst e;have HN:=Zd (λq (hq:Xt wc s q)=>(ah.net_lt hq).1);obtain⟨cu,C2⟩:=kh2 ah.nz (Rm Z s W 1 xn fr 0 b.1 b.2.1 b.2.2.1 b.2.2.2.1 z Q tc b.2.2.2.2 0 none none 0 0 0 0 [] [] wc ah hL sL (RowsAt.nil _ _) (RowsAt.nil _ _) Zq Zq ⟨Za cp,Nat.zero_le _,Nat.zero_le _,by simp,by simp⟩);obtain⟨-,m1,m2,ml⟩:=kc3 h1;obtain⟨d0,d1,d2,d3,d4,dl⟩:=cl5 (Zd be);clear ah h1 hL be sL;go_wp2_with fail;refine C2.mono ?_;rintro e w2 ⟨rfl,cc,cf,_⟩;have ar:Hid (Sc Z s (W.sent (1,xn,fr,0,b,Yz)) w2):=cc
  have cq:Hid (Gr w w2 (λq=>¬Z q)):=bo.trans (cf.mono (λq _ e=>by
   rcases e with e|e
   ·rw[e];exact Za cu
   ·exact HN q e))
  clear cc cf C2 m1 m2 ml d0 d1 d2 d3 d4 dl;go_wp2;go_end0;exact⟨rfl,Za ar,Za cq⟩
theorem Zcx(Z:Nat->Prop)(s:Nat)(W:WD)(xk xn xt:Int)(xi:Nat)(xw xN th:Int)(ai ao ni ci no co w)(hS:Sc Z s W w)(hl:xi<W.m.length)(hm:W.m.length<=20)(ti:Nat)(hz:W.m[xi].1=2/\W.m[xi].2.2.1=ti)(dh:ti<W.n.length)(be:Tr.BlkSmall (Tr.blockE W.n[ti].1 W.n[ti].2.1 W.m[xi].2.2.2.1).1)(W':WD)(hx:(W.lost xi).asked ti W.m[xi].2.1 W.m[xi].2.2.2.1=W') :
  Calls Tryz.prog 238 #[dC (some ⟨s,0,none⟩),.agg #[E J xk,E J xn,E J xt,E J xi,E J xw,E J xN,E J th,F ai ni ci,F ao no co]] w λe w'=>e = dA (E J 0)/\Sc Z s W' w'/\Gr w w' (λq=>¬Z q):=by
 obtain⟨ka,kn,kc,vn,vm,Kn,Km,Q⟩:=hS;have z:=Q.on;obtain⟨na,nc,ma,mc,rfl,rfl,_,_,_,sm⟩:=z.read;have hb:=Q.box
 obtain⟨g,rfl⟩:∃ g,ma=some ⟨g,0,none⟩:=by
  rcases z.rm.2 with ⟨_,e⟩|⟨g,cap,eh,e,_⟩
  ·omega
  ·injection e with e;exact⟨g,e⟩
 have ej:=(z.rm.lt g rfl).2;have hk:xi<Km.length:=by rw[z.now.2.2.1];exact hl
 obtain⟨y,hy⟩:=ZF (W.m[xi])
 have hC:∀ V,Gr w V (λq=>(Z q\/q=s)\/(aX na W.n.length nc).ownBlock=some q\/(aX (some ⟨g,0,none⟩) W.m.length mc).ownBlock=some q)->Tr.msgR.C V Km[xi] y:=λV gV=>by
  have:=(z.dat V gV).2.2.2 xi hl hk;rw[hy] at this;exact this
 rw[hy] at hz hx be;obtain⟨x0,x1,x2,x3,⟨y0,y1,y2,y3,y4⟩,z0,z1,z2⟩:=y;obtain⟨pa,pn,pc,ia,im,ic,oa,om,oc,eK,hT,sT,hI,sI,hO,sO⟩:=hC w (Gr.refl _ _);simp only at eK hT hI hO;obtain⟨X,hX,aq,ay⟩:=ka00 w [E J xk,E J xn,E J xt,E J xi,E J xw,E J xN,E J th,F ai ni ci,F ao no co] 103;have ce:X.heap.size=w.heap.size+1:=by rw[hX];simp
 have cf:=ZE aq hb;have rc:=λj (hj:j<12)=>(aZ (z.later aq).rm (xi*12+j) (by have:(xi+1)*12<=W.m.length*12:=Nat.mul_le_mul_right _ hl;omega)).trans (Tr.wid_at z.now.2.2.wid xi hk j hj);rw[eK] at rc;have r0:X.cell? ⟨g,xi*12,none⟩=some (E J x0):=rc 0 (by decide);have r1:X.cell? ⟨g,xi*12+1,none⟩=some (E J x1):=rc 1 (by decide);have r2:X.cell? ⟨g,xi*12+2,none⟩=some (E J x2):=rc 2 (by decide);have r3:X.cell? ⟨g,xi*12+3,none⟩=some (E J x3):=rc 3 (by decide);have r4:X.cell? ⟨g,xi*12+4,none⟩=some (E J y0):=rc 4 (by decide);have r5:X.cell? ⟨g,xi*12+5,none⟩=some (E J y1):=rc 5 (by decide);have r6:X.cell? ⟨g,xi*12+6,none⟩=some (E J y2):=rc 6 (by decide);have r7:X.cell? ⟨g,xi*12+7,none⟩=some (E J y3):=rc 7 (by decide);have r8:X.cell? ⟨g,xi*12+8,none⟩=some (F pa pn pc):=rc 8 (by decide);have r9:X.cell? ⟨g,xi*12+9,none⟩=some (E J z0):=rc 9 (by decide);have dl:X.cell? ⟨g,xi*12+10,none⟩=some (F ia im ic):=rc 10 (by decide);have dm:X.cell? ⟨g,xi*12+11,none⟩=some (F oa om oc):=rc 11 (by decide);have ek:(xi:Int)<(W.m.length:Int):=by omega
 obtain⟨e1,e2⟩:=hz;simp only at e1 e2;subst e1 e2;have el:=aA hb;have CL:=Zd (λV (hv:ZD w V)=>Hq Z s W xk xn xt xi xw xN th ai ao ni ci no co V ⟨_,_,_,_,_,_,_,Q.later hv⟩ hl hm)
 have NB:Hid (∀ V,ZD w V->∀ q,Xt V s q->q<w.heap.size/\¬Z q/\(aX (some ⟨g,0,none⟩) W.m.length mc).ownBlock=some q):=λV hv q hq=>by
  have h:=((Q.later hv).nb q).2 hq;exact⟨(z.rm.lt q h).2,λe=>(Q.zs q e).2.2.2 h,h⟩
 have NZ:Hid (¬Z s):=λe=>(Q.zs s e).2.1 rfl;have CT:=Zd (λV (gw:Gr w V (λq=>q=s\/(aX (some ⟨g,0,none⟩) W.m.length mc).ownBlock=some q)) (dc:Sc Z s (W.lost xi) V)=>Zmn Z s (W.lost xi) 2 x1 ti x3 y0 y1 y2 y3 pa pn pc z0 ia oa im ic om oc W' V dc dh be hx);obtain⟨bo,br,bs⟩:=kh3 aq ay ce;obtain⟨-,-,c2,eq⟩:=kc3 cf;obtain⟨-,-,-,m3,ml⟩:=kc4 ay;have de:g<X.heap.size:=by omega
 clear Q z hb hC eK hT sT hI sI hO sO aq ce ay cf rc hx hy be;go_enter func238,ntmps238
 go_upto_region 1 with fail
 rw[<-hX];clear hX
 go_cut [5] from 6 to 14 (λs5 wx=>s5 = dC (some ⟨w.heap.size+1,0,none⟩)/\Hid (wx.heap[w.heap.size+1]? = some (cZ [E J 2,E J x1,E J ti,E J x3,E J y0,E J y1,E J y2,E J y3,F pa pn pc,E J z0,F ia im ic,F oa om oc].toArray 106 (0,0))/\ZD X wx))
 case first=>
  have cn:=Za bs
  have ZB:Hid (∀ U,U=X\/U=X.drew->(U.alloc (cZ #[E J 2,E J x1,E J ti,E J x3,E J y0,E J y1,E J y2,E J y3,F pa pn pc,E J z0,F ia im ic,F oa om oc] 106)).heap[w.heap.size+1]? = some (cZ [E J 2,E J x1,E J ti,E J x3,E J y0,E J y1,E J y2,E J y3,F pa pn pc,E J z0,F ia im ic,F oa om oc].toArray 106 (0,0))/\ZD X (U.alloc (cZ #[E J 2,E J x1,E J ti,E J x3,E J y0,E J y1,E J y2,E J y3,F pa pn pc,E J z0,F ia im ic,F oa om oc] 106))):=λU hU=>by
   rw[<-cn]
   rcases hU with rfl|rfl
   ·exact⟨aH _ _,Zh _ _⟩
   ·exact⟨aH X.drew _,Zf (Zi X) (Zh _ _)⟩
  go_region
  all_goals
   go_wp2_with fail;go_meet
   case rel=>exact⟨rfl,(ZB X (.inl rfl)).1,Zf (ZB X (.inl rfl)).2 (Zi _)⟩
 case rest=>
  obtain⟨rfl,HC⟩:=hcut;obtain⟨cm,bb⟩:=Za HC;have cn:=Za bs;have bd:=Zf bo bb;have bx:=ZE bb br;obtain⟨C1,cu,ap⟩:=kh3 (CL wc bd) cm bd;obtain⟨v0,v1,v2,v3,v4,v5,v6,v7,v8,vl⟩:=kc9 bx;clear HC cm bb bd bx CL c2 eq m3 ml de br bo r0 r1 r2 r3 r4 r5 r6 r7 r8 r9 dl dm;go_wp2_with fail;refine C1.mono ?_;rintro e w2 ⟨rfl,cc,ar,_⟩;have bv:Gr w w2 (λq=>q=s\/(aX (some ⟨g,0,none⟩) W.m.length mc).ownBlock=some q):=(Gr.of ap).trans (ar.mono (λq _ e=>e.imp id (λe=>(NB wc ap q e).2.2)))
  have cl:=ar.heap cu (λe=>by
   rcases e with e|e
   ·omega
   ·have:=(NB wc ap _ e).1;omega)
  have C2:=Zd (CT w2 bv cc)
  have cq:Hid (Gr w w2 (λq=>¬Z q)):=(Gr.of ap).trans (ar.mono (λq _ e=>by
   rcases e with e|e
   ·rw[e];exact Za NZ
   ·exact (NB wc ap q e).2.1))
  obtain⟨u0,u1,u2,u3,u4,u5,u6,u7,u8,u9,u10,u11,ul⟩:=kc12 cl;clear cc ar bv cl C1 CT v0 v1 v2 v3 v4 v5 v6 v7 v8 vl;go_wp2_with fail;refine C2.mono ?_;rintro e w3 ⟨rfl,cd,cg⟩;obtain⟨cw,ct⟩:=kh2 cd (cq.trans cg);clear cd cg C2 u0 u1 u2 u3 u4 u5 u6 u7 u8 u9 u10 u11 ul;go_wp2;go_ret;exact⟨rfl,Za cw,Za ct⟩
theorem Zcw(Z:Nat->Prop)(s:Nat)(W:WD)(xk xn xt:Int)(xi:Nat)(xw xN th:Int)(ai ao ni ci no co w)(hE:∀ V,Gr w V (λq=>¬Z q)->Env V)(hS:Sc Z s W w)(hl:xi<W.m.length)(hm:W.m.length<=20)(ti:Nat)(hz:W.m[xi].1=3/\W.m[xi].2.2.1=ti)(dr:ti<W.n.length)(cw:Js W.n[ti])(x:Int)(W':WD)(hx:(W.lost xi).offer ti W.m[xi].2.2.2.2.2=(x,W')) :
  Calls Tryz.prog 238 #[dC (some ⟨s,0,none⟩),.agg #[E J xk,E J xn,E J xt,E J xi,E J xw,E J xN,E J th,F ai ni ci,F ao no co]] w λe w'=>e = dA (E J 0)/\Sc Z s W' w'/\Gr w w' (λq=>¬Z q):=by
 obtain⟨ka,kn,kc,vn,vm,Kn,Km,Q⟩:=hS;have z:=Q.on;obtain⟨na,nc,ma,mc,rfl,rfl,_,_,_,sm⟩:=z.read;have hb:=Q.box
 obtain⟨g,rfl⟩:∃ g,ma=some ⟨g,0,none⟩:=by
  rcases z.rm.2 with ⟨_,e⟩|⟨g,cap,fc,e,_⟩
  ·omega
  ·injection e with e;exact⟨g,e⟩
 have fd:=(z.rm.lt g rfl).2;have hk:xi<Km.length:=by rw[z.now.2.2.1];exact hl
 obtain⟨y,hy⟩:=ZF (W.m[xi])
 have hC:∀ V,Gr w V (λq=>(Z q\/q=s)\/(aX na W.n.length nc).ownBlock=some q\/(aX (some ⟨g,0,none⟩) W.m.length mc).ownBlock=some q)->Tr.msgR.C V Km[xi] y:=λV gV=>by
  have:=(z.dat V gV).2.2.2 xi hl hk;rw[hy] at this;exact this
 rw[hy] at hz hx;obtain⟨x0,x1,x2,x3,⟨y0,y1,y2,y3,y4⟩,z0,z1,z2⟩:=y;obtain⟨pa,pn,pc,ia,im,ic,oa,om,oc,eK,hT,sT,hI,sI,hO,sO⟩:=hC w (Gr.refl _ _);simp only at eK hT hI hO;obtain⟨X,hX,au,bb⟩:=ka00 w [E J xk,E J xn,E J xt,E J xi,E J xw,E J xN,E J th,F ai ni ci,F ao no co] 103;have cm:X.heap.size=w.heap.size+1:=by rw[hX];simp
 have cn:=ZE au hb;have rc:=λj (hj:j<12)=>(aZ (z.later au).rm (xi*12+j) (by have:(xi+1)*12<=W.m.length*12:=Nat.mul_le_mul_right _ hl;omega)).trans (Tr.wid_at z.now.2.2.wid xi hk j hj);rw[eK] at rc;have r0:X.cell? ⟨g,xi*12,none⟩=some (E J x0):=rc 0 (by decide);have r1:X.cell? ⟨g,xi*12+1,none⟩=some (E J x1):=rc 1 (by decide);have r2:X.cell? ⟨g,xi*12+2,none⟩=some (E J x2):=rc 2 (by decide);have r3:X.cell? ⟨g,xi*12+3,none⟩=some (E J x3):=rc 3 (by decide);have r4:X.cell? ⟨g,xi*12+4,none⟩=some (E J y0):=rc 4 (by decide);have r5:X.cell? ⟨g,xi*12+5,none⟩=some (E J y1):=rc 5 (by decide);have r6:X.cell? ⟨g,xi*12+6,none⟩=some (E J y2):=rc 6 (by decide);have r7:X.cell? ⟨g,xi*12+7,none⟩=some (E J y3):=rc 7 (by decide);have r8:X.cell? ⟨g,xi*12+8,none⟩=some (F pa pn pc):=rc 8 (by decide);have r9:X.cell? ⟨g,xi*12+9,none⟩=some (E J z0):=rc 9 (by decide);have eb:X.cell? ⟨g,xi*12+10,none⟩=some (F ia im ic):=rc 10 (by decide);have ec:X.cell? ⟨g,xi*12+11,none⟩=some (F oa om oc):=rc 11 (by decide);have fe:(xi:Int)<(W.m.length:Int):=by omega
 obtain⟨e1,e2⟩:=hz;simp only at e1 e2;subst e1 e2;have ff:=aA hb;have CL:=Zd (λV (hv:ZD w V)=>Hq Z s W xk xn xt xi xw xN th ai ao ni ci no co V ⟨_,_,_,_,_,_,_,Q.later hv⟩ hl hm)
 have NB:Hid (∀ V,ZD w V->∀ q,Xt V s q->q<w.heap.size/\¬Z q/\(aX (some ⟨g,0,none⟩) W.m.length mc).ownBlock=some q):=λV hv q hq=>by
  have h:=((Q.later hv).nb q).2 hq;exact⟨(z.rm.lt q h).2,λe=>(Q.zs q e).2.2.2 h,h⟩
 have NZ:Hid (¬Z s):=λe=>(Q.zs s e).2.1 rfl
 have CT:=Zd (λV (gw:Gr w V (λq=>q=s\/(aX (some ⟨g,0,none⟩) W.m.length mc).ownBlock=some q)) (dk:Sc Z s (W.lost xi) V)=>(have gE:=gw.mono (T:=λq=>¬Z q) (λq _ e=>by
   rcases e with e|e
   ·rw[e];exact Za NZ
   ·exact λfi=>(Q.zs q fi).2.2.2 e)
  have gC:=hC V (gw.mono (λq _ e=>e.elim (λe=>.inl (.inr e)) (λe=>.inr (.inr e))))
  Bp Z s (W.lost xi) ti z0 ia oa im ic om oc z1 z2 x W' V (hE V gE) dk dr cw (by
   obtain⟨pa',pn',pc',ds,du,dt,dw,dy,dx,aa,dl,ep,ce,en,cg,eo⟩:=gC;rw[eK] at aa;simp only[List.cons.injEq,Value.slice.injEq,and_true,true_and] at aa;obtain⟨_,⟨rfl,rfl,rfl⟩,rfl,rfl,rfl⟩:=aa;exact ce) (by
   obtain⟨pa',pn',pc',ds,du,dt,dw,dy,dx,aa,dl,ep,ce,en,cg,eo⟩:=gC;rw[eK] at aa;simp only[List.cons.injEq,Value.slice.injEq,and_true,true_and] at aa;obtain⟨_,⟨rfl,rfl,rfl⟩,rfl,rfl,rfl⟩:=aa;exact cg) sI sO hx))
 obtain⟨bq,bs,bt⟩:=kh3 au bb cm;obtain⟨-,-,c2,fh⟩:=kc3 cn;obtain⟨-,-,-,m3,ml⟩:=kc4 bb;have dn:g<X.heap.size:=by omega
 clear Q z hb hC eK hT sT hI sI hO sO au cm bb cn rc hx hy hE cw;go_enter func238,ntmps238
 go_upto_region 1 with fail
 rw[<-hX];clear hX
 go_cut [5] from 6 to 14 (λs5 wx=>s5 = dC (some ⟨w.heap.size+1,0,none⟩)/\Hid (wx.heap[w.heap.size+1]? = some (cZ [E J 3,E J x1,E J ti,E J x3,E J y0,E J y1,E J y2,E J y3,F pa pn pc,E J z0,F ia im ic,F oa om oc].toArray 106 (0,0))/\ZD X wx))
 case first=>
  have cx:=Za bt
  have ZB:Hid (∀ U,U=X\/U=X.drew->(U.alloc (cZ #[E J 3,E J x1,E J ti,E J x3,E J y0,E J y1,E J y2,E J y3,F pa pn pc,E J z0,F ia im ic,F oa om oc] 106)).heap[w.heap.size+1]? = some (cZ [E J 3,E J x1,E J ti,E J x3,E J y0,E J y1,E J y2,E J y3,F pa pn pc,E J z0,F ia im ic,F oa om oc].toArray 106 (0,0))/\ZD X (U.alloc (cZ #[E J 3,E J x1,E J ti,E J x3,E J y0,E J y1,E J y2,E J y3,F pa pn pc,E J z0,F ia im ic,F oa om oc] 106))):=λU hU=>by
   rw[<-cx]
   rcases hU with rfl|rfl
   ·exact⟨aH _ _,Zh _ _⟩
   ·exact⟨aH X.drew _,Zf (Zi X) (Zh _ _)⟩
  go_region
  all_goals
   go_wp2_with fail;go_meet
   case rel=>exact⟨rfl,(ZB X (.inl rfl)).1,Zf (ZB X (.inl rfl)).2 (Zi _)⟩
 case rest=>
  obtain⟨rfl,HC⟩:=hcut;obtain⟨cu,be⟩:=Za HC;have cx:=Za bt;have bf:=Zf bq be;have cc:=ZE be bs;obtain⟨C1,dd,aj⟩:=kh3 (CL wc bf) cu bf;obtain⟨v0,v1,v2,v3,v4,v5,v6,v7,v8,vl⟩:=kc9 cc;clear HC cu be bf cc CL c2 fh m3 ml dn bs bq r0 r1 r2 r3 r4 r5 r6 r7 r8 r9 eb ec;go_wp2_with fail;refine C1.mono ?_;rintro e w2 ⟨rfl,cj,av,_⟩;have cb:Gr w w2 (λq=>q=s\/(aX (some ⟨g,0,none⟩) W.m.length mc).ownBlock=some q):=(Gr.of aj).trans (av.mono (λq _ e=>e.imp id (λe=>(NB wc aj q e).2.2)))
  have ct:=av.heap dd (λe=>by
   rcases e with e|e
   ·omega
   ·have:=(NB wc aj _ e).1;omega)
  have C2:=Zd (CT w2 cb cj)
  have db:Hid (Gr w w2 (λq=>¬Z q)):=(Gr.of aj).trans (av.mono (λq _ e=>by
   rcases e with e|e
   ·rw[e];exact Za NZ
   ·exact (NB wc aj q e).2.1))
  obtain⟨u0,u1,u2,u3,u4,u5,u6,u7,u8,u9,u10,u11,ul⟩:=kc12 ct;clear cj av cb ct C1 CT v0 v1 v2 v3 v4 v5 v6 v7 v8 vl;go_wp2_with fail;refine C2.mono ?_;rintro e w3 ⟨rfl,cl,cp⟩;obtain⟨de,dc⟩:=kh2 cl (db.trans cp);clear cl cp C2 u0 u1 u2 u3 u4 u5 u6 u7 u8 u9 u10 u11 ul;go_wp2;go_ret;exact⟨rfl,Za de,Za dc⟩
section
variable {W : WD} {xt xw xN th : Int} {ai ao : Option Addr} {ni ci no co : Nat}
theorem Zli{xn:Int}{k:Nat}{ti:Nat}{x:Int}{W':WD}(hc:Xp W.k W.n W.m=0)(hk:k<W.m.length)(hz:W.m[k].1=3/\W.m[k].2.2.1=ti)(ac:ti<W.n.length)(hx:(W.lost k).offer ti W.m[k].2.2.2.2.2=(x,W')):Zdd (.agg #[E J 3,E J xn,E J xt,E J k,E J xw,E J xN,E J th,F ai ni ci,F ao no co]) W 0 W':=λZ V s hE Q=>by
 obtain⟨_,q2,_,_,q5,q6,_⟩:=Ye hc;refine U1 Z s xn xt k xw xN th ai ao ni ci no co 0 W' V (λU p q z hb=>?_);refine Wh Z s W 3 xn xt k xw xN th ai ao ni ci no co p q 238 #[dC (some ⟨s,0,none⟩)] #[] 0 W' true U hb.1 hb.2 (Q.later z) (Xg hk) (λ_=>⟨enters_of (fn:=Tryz.f238) (by kernel_rfl) (by kernel_rfl) rfl,λV2 h2=>?_⟩) 0 (if_pos rfl);refine (Zcw Z s W 3 xn xt k xw xN th ai ao ni ci no co V2 (λU2 g=>hE U2 ((Gr.of (Zf z h2)).trans g)) (Q.later (Zf z h2)) hk q5 ti hz ac (Ux (q6 _ (aQ ac))) x W' hx).mono ?_;rintro e V3 ⟨rfl,h3,h4⟩;exact⟨rfl,λ_=>h3,h4⟩
theorem Zlj{P:World->Prop}{xn:Int}{k:Nat}{ti:Nat}{W':WD}(hc:Xp W.k W.n W.m=0)(hk:k<W.m.length)(hz:W.m[k].1=2/\W.m[k].2.2.1=ti)(af:ti<W.n.length)(ad:Tr.BlkSmall (Tr.blockE W.n[ti].1 W.n[ti].2.1 W.m[k].2.2.2.1).1)(hx:(W.lost k).asked ti W.m[k].2.1 W.m[k].2.2.2.1=W'):HapP P (.agg #[E J 3,E J xn,E J xt,E J k,E J xw,E J xN,E J th,F ai ni ci,F ao no co]) W 0 W':=λZ V s hE z=>by
 obtain⟨_,q2,_,_,q5,q6,_⟩:=Ye hc;refine U1 Z s xn xt k xw xN th ai ao ni ci no co 0 W' V (λU p q Q hb=>?_);refine Wh Z s W 3 xn xt k xw xN th ai ao ni ci no co p q 238 #[dC (some ⟨s,0,none⟩)] #[] 0 W' true U hb.1 hb.2 (z.later Q) (Xg hk) (λ_=>⟨enters_of (fn:=Tryz.f238) (by kernel_rfl) (by kernel_rfl) rfl,λV2 h2=>?_⟩) 0 (if_pos rfl);refine (Zcx Z s W 3 xn xt k xw xN th ai ao ni ci no co V2 (z.later (Zf Q h2)) hk q5 ti hz af ad W' hx).mono ?_;rintro e V3 ⟨rfl,h3,h4⟩;exact⟨rfl,λ_=>h3,h4⟩
theorem Zhj{P:World->Prop}{xn xi:Int}{W':WD}(h:Xu xn W.n.length=false):HapP P (.agg #[E J 1,E J xn,E J xt,E J xi,E J xw,E J xN,E J th,F ai ni ci,F ao no co]) W 5 W':=λZ V s hE Q=>by
 refine Lz Z s xn xt xi xw xN th ai ao ni ci no co 5 W' V (λU p q hU z=>?_);exact Y8 Z s W 1 xn xt xi xw xN th ai ao ni ci no co p q 235 #[dC (some ⟨s,0,none⟩)] #[] 0 W' false U z.1 z.2 (Q.later hU) h (λe=>by cases e) 5 (if_neg (by decide))
theorem Zhi{P:World->Prop}{xn xi:Int}{W':WD}(h:Xu xn W.n.length=false):HapP P (.agg #[E J 2,E J xn,E J xt,E J xi,E J xw,E J xN,E J th,F ai ni ci,F ao no co]) W 5 W':=λZ V s hE Q=>by
 refine Ly Z s xn xt xi xw xN th ai ao ni ci no co 5 W' V (λU p q hU z=>?_);exact Y8 Z s W 2 xn xt xi xw xN th ai ao ni ci no co p q 236 #[dC (some ⟨s,0,none⟩)] #[] 0 W' false U z.1 z.2 (Q.later hU) h (λe=>by cases e) 5 (if_neg (by decide))
theorem Zhh{P:World->Prop}{xn xi:Int}{W':WD}(h:Xu xi W.m.length=false):HapP P (.agg #[E J 3,E J xn,E J xt,E J xi,E J xw,E J xN,E J th,F ai ni ci,F ao no co]) W 5 W':=λZ V s hE Q=>by
 refine U1 Z s xn xt xi xw xN th ai ao ni ci no co 5 W' V (λU p q hU z=>?_);exact Wh Z s W 3 xn xt xi xw xN th ai ao ni ci no co p q 238 #[dC (some ⟨s,0,none⟩)] #[] 0 W' false U z.1 z.2 (Q.later hU) h (λe=>by cases e) 5 (if_neg (by decide))
theorem Zhg{P:World->Prop}{xn xi:Int}{W':WD}(h:Xu xi W.m.length=false):HapP P (.agg #[E J 4,E J xn,E J xt,E J xi,E J xw,E J xN,E J th,F ai ni ci,F ao no co]) W 5 W':=λZ V s hE Q=>by
 refine Lx Z s xn xt xi xw xN th ai ao ni ci no co 5 W' V (λU p q hU z=>?_);exact Wh Z s W 4 xn xt xi xw xN th ai ao ni ci no co p q 239 #[dC (some ⟨s,0,none⟩)] #[] 0 W' false U z.1 z.2 (Q.later hU) h (λe=>by cases e) 5 (if_neg (by decide))
theorem Zhf{P:World->Prop}{xn xi:Int}{W':WD}(h:Xu xi W.m.length=false):HapP P (.agg #[E J 5,E J xn,E J xt,E J xi,E J xw,E J xN,E J th,F ai ni ci,F ao no co]) W 5 W':=λZ V s hE Q=>by
 refine Lw Z s xn xt xi xw xN th ai ao ni ci no co 5 W' V (λU p q p' q' hU hb z=>?_);exact Wh Z s W 5 xn xt xi xw xN th ai ao ni ci no co p' q' 274 #[] #[dC (some ⟨p,0,none⟩),dC (some ⟨q,0,none⟩)] 0 W' false U z.1 z.2 (Q.later hU) h (λe=>by cases e) 5 (if_neg (by decide))
theorem Zhe{P:World->Prop}{xn xi:Int}{W':WD}(h:Xu xn W.n.length=false):HapP P (.agg #[E J 6,E J xn,E J xt,E J xi,E J xw,E J xN,E J th,F ai ni ci,F ao no co]) W 5 W':=λZ V s hE Q=>by
 refine Lv Z s xn xt xi xw xN th ai ao ni ci no co 5 W' V (λU p q p' q' ac ae hU hb ag z=>?_);exact Y8 Z s W 6 xn xt xi xw xN th ai ao ni ci no co ac ae 276 #[] #[dC (some ⟨p',0,none⟩),dC (some ⟨q',0,none⟩)] 0 W' false U z.1 z.2 (Q.later hU) h (λe=>by cases e) 5 (if_neg (by decide))
theorem Zhd{P:World->Prop}{xn xi:Int}{W':WD}(h:Xu xn W.n.length=false):HapP P (.agg #[E J 7,E J xn,E J xt,E J xi,E J xw,E J xN,E J th,F ai ni ci,F ao no co]) W 5 W':=λZ V s hE Q=>by
 refine Lu Z s xn xt xi xw xN th ai ao ni ci no co 5 W' V (λU p q hU z=>?_);exact Y8 Z s W 7 xn xt xi xw xN th ai ao ni ci no co p q 244 #[dC (some ⟨s,0,none⟩)] #[] 0 W' false U z.1 z.2 (Q.later hU) h (λe=>by cases e) 5 (if_neg (by decide))
theorem Zhc{P:World->Prop}{xn xi:Int}{W':WD}(h:Xu xn W.n.length=false):HapP P (.agg #[E J 8,E J xn,E J xt,E J xi,E J xw,E J xN,E J th,F ai ni ci,F ao no co]) W 5 W':=λZ V s hE Q=>by
 refine Lt Z s xn xt xi xw xN th ai ao ni ci no co 5 W' V (λU p q p' q' ac ae hU hb ag z=>?_);exact Y8 Z s W 8 xn xt xi xw xN th ai ao ni ci no co ac ae 276 #[] #[dC (some ⟨p',0,none⟩),dC (some ⟨q',0,none⟩)] 0 W' false U z.1 z.2 (Q.later hU) h (λe=>by cases e) 5 (if_neg (by decide))
end
theorem Zbu{P:World->Prop}{W W':WD}{z xn xt xi xw xN th:Int}{ai ao ni ci no co}(hk:(decide (1<=z) && decide (z<=8))=false):HapP P (.agg #[E J z,E J xn,E J xt,E J xi,E J xw,E J xN,E J th,F ai ni ci,F ao no co]) W 4 W':=λZ w s _ _=>by
 obtain⟨X,hX,ad,ab⟩:=ka00 w [E J z,E J xn,E J xt,E J xi,E J xw,E J xN,E J th,F ai ni ci,F ao no co] 103;obtain⟨C1,Q⟩:=kh2 (Yj z 1 8 false X hk) ad;obtain⟨m0,ml⟩:=kc1 ab;clear ad ab hk;go_enter func129,ntmps129
 go_upto_region 1 with fail
 rw[<-hX];clear hX;go_wp2_with fail;refine C1.mono ?_;rintro e w1 ⟨rfl,ac⟩;have af:=onb Q ac;clear ac C1 Q m0 ml;go_wp2;go_ret;exact⟨rfl,λe=>absurd e (by decide),Gr.of af⟩
def Zep(y z:U9):Prop:=(∃ M,z.1=y.1++M)/\∃ v u,Tr.workE y.1 y.2.1 y.2.2.2=(v,0)/\Tr.workE z.1 z.2.1 z.2.2.2=(u,0)/\v<=u
def Wz(W W':WD):Prop:=Xp W'.k W'.n W'.m=0/\W'.n.length=W.n.length/\(∃ M,W'.k=W.k++M)/\(∃ j,∀ i (h:i<W.n.length) (h':i<W'.n.length),Zep W.n[i] W'.n[i]/\(i≠j->W'.n[i]=W.n[i]))/\((∀ m∈W.m,Vf m)->∀ m∈W'.m,Vf m)
theorem Jc{K}{y z:U9}(h:opN K y=0)(e1:z.1=y.1)(e2:z.2.1=y.2.1)(e3:z.2.2.2=y.2.2.2):Zep y z:=by
 obtain⟨_,o2,_,_⟩:=Yg h;obtain⟨b1,Q⟩:=Yb o2;refine⟨⟨[],by rw[e1];simp⟩,_,_,Tr.workE_mk b1 Q,?_,Int.le_refl _⟩;rw[e1,e2,e3];exact Tr.workE_mk b1 Q
theorem Wi{W:WD}(h:Xp W.k W.n W.m=0):Wz W W:=by
 obtain⟨_,_,_,_,_,z,_⟩:=Ye h;exact⟨h,rfl,⟨[],by simp⟩,⟨0,λi h1 _=>⟨Jc (z _ (aQ h1)) rfl rfl rfl,λ_=>rfl⟩⟩,λh=>h⟩
theorem Um{W V:WD}(h:Wz W V){m:Jt}(z:Ry m V.n.length=0)(Q:Vf m):Wz W (V.sent m):=by
 unfold WD.sent;split
 ·rename_i hl;obtain⟨h1,h2,h3,h4,h5⟩:=h;obtain⟨q1,q2,q3,_,q5,q6,q7⟩:=Ye h1;refine⟨Hu (W:=⟨V.k,V.n,V.m++[m]⟩) q1 q2 q3 (by simp;omega) q6 (λx hx=>?_),h2,h3,h4,λq x hx=>?_⟩
  ·rcases bA.1 hx with hx|hx
   ·exact q7 x hx
   ·rw[bX.1 hx];exact z
  ·rcases bA.1 hx with hx|hx
   ·exact h5 q x hx
   ·rw[bX.1 hx];exact Q
 ·exact h
theorem Zgy{W V:WD}(h:Wz W V)(k:Nat):Wz W (V.lost k):=⟨Eo h.1 k,h.2.1,h.2.2.1,h.2.2.2.1,λq m z=>h.2.2.2.2 q m (Lj z)⟩
theorem Ln{W V:WD}(h:Wz W V){z fr nm:Int}{b:Zl}{t}(hm:∀ j:Nat,j<V.n.length->(j:Int)≠fr->Ry (z,fr,j,nm,b,t) V.n.length=0)(Q:Tr.BlkSmall b)(ht:Tr.TxSmall t):∀ j,j<=V.n.length->Wz W (V.sendAll z fr nm b t j)
 | 0,_=>h
 | j+1,hj=>by
  rw[WD.sendAll];have ih:=Ln h hm Q ht j (by omega);split
  ·exact ih
  ·rename_i q;refine Um ih ?_ ⟨Q,ht⟩;rw[(Nn V z fr nm b t j).1];exact hm j (by omega) q
theorem Ll{W:WD}(h:Xp W.k W.n W.m=0){i:Nat}(hi:i<W.n.length){D:Dsk}(o:opE D.k D.n D.t D.p D.tip=0)(hk:∃ M,D.k=W.k++M)(hn:Zep W.n[i] (D.n,D.t,D.p,D.tip)):Wz W (W.put i D):=by
 obtain⟨q1,q2,q3,_,q5,q6,q7⟩:=Ye h;obtain⟨M,t6⟩:=hk
 have hR:Bk.Right (W.k++M):=by
  have:=(Yg o).1;rw[t6] at this;exact (Bk.right_iff _).1 this
 have z:(W.put i D).n.length=W.n.length:=by show (W.n.set i _).length=_;rw[List.length_set]
 refine⟨Hu (W:=W.put i D) (by rw[z];exact q1) (by rw[z];exact q2) (Yg o).1 q5 (λy Q=>?_) (λm hm=>?_),z,⟨M,t6⟩,⟨i,λj h1 h2=>?_⟩,λh=>h⟩
 ·rcases List.mem_or_eq_of_mem_set Q with Q|rfl
  ·show opN D.k y=0;rw[t6];exact Zaw (q6 y Q) hR
  ·exact o
 ·rw[z];exact q7 m hm
 ·have key:∀ (L:List U9) (_:L=W.n.set i (D.n,D.t,D.p,D.tip)) (h3:j<L.length),Zep W.n[j] L[j]/\(j≠i->L[j]=W.n[j]):=by
   intro L e3 h3;subst e3;by_cases e:i=j
   ·subst e;rw[List.getElem_set_self];exact⟨hn,λq=>absurd rfl q⟩
   ·rw[List.getElem_set_ne e];exact⟨Jc (q6 _ (aQ h1)) rfl rfl rfl,λ_=>rfl⟩
  exact key _ rfl h2
