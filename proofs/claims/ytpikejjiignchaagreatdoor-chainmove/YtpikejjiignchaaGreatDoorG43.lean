import Derived.Test.YtpikejjiignchaaGreatDoorH
import Derived.Test.YtpikejjiignchaaGreatDoorG42
open Go.Proofs.Tryz
open Go renaming heap_alloc_new->aK,lt_of_block->aA,bodyPost_ret->aR,wpAnyH_ready->bJ
open Go.Act renaming put->aH
open Go.Ending renaming returned->dX
open Go.Exit renaming inBlock->aO
open Go.IntKind renaming i64->J
open Go.Obj renaming cells->dW
open Go.Value renaming int->E,slice->F,tuple->dY,pointer->dZ
open List renaming replicate->aF,getElem_mem->bK,drop_of_length_le->cB
open Nat renaming zero_le->aP,lt_of_lt_of_le->aI
set_option maxHeartbeats 12800000
set_option maxRecDepth 10000
namespace Go.Proofs.YtpikejjiignchaaGreatDoor.Bk
open Go.RowKit Go.Maps
theorem check_is(a n c L)(w:World)(h:TextsAt w a n L)(x:Int)(hx:bkChk L=x) :
  ZH 32 #[.agg #[F a n c]] w (E J x):=by
 have z:=Zg w (dW #[F a n c] 24);have ae:=Zb (Bv a n c L _ (h.later z) x hx);have HB:=Zb z;clear h hx z;go_enter func32,ntmps32;go_wp2_with fail;refine ae.mono ?_;rintro e w2 ⟨v,rfl,-,O⟩;have ac:=Zb (Ze HB O);clear O;go_wp2;go_ret;exact⟨rfl,Za ac⟩
end Bk
open Go.RowKit
def CnR(w w':World)(x:Int)(C:List Zf)(e:Ending):Prop:=∃ z O oc,e = dX (dY #[F z O oc,E J x])/\CoinsAt w' z O C/\SlOk z O oc/\ZD w w'
theorem Vo{w w':World}{x y:Int}{C}(h:((y:Int),([]:List Zf))=(x,C))(z:ZD w w'):CnR w w' x C (dX (dY #[F none 0 0,E J y])):=by
 injection h with h1 h2;subst h1 h2;exact⟨none,0,0,rfl,⟨rfl,λh=>absurd h (by omega)⟩,Wd,z⟩
theorem Rk{N T}{s:Int}{P:List Int}{x:Int}(h:Tr.pathE N T s=(P,x)):P.length<=24:=by
 by_cases z:x=0
 ·subst z;obtain⟨h1,h2,h3⟩:=Tr.pathE_ok (s:=s) (N:=N) (T:=T) (by rw[h]);have:=M8 h1 h2;rw[<-h3,h] at this;exact this
 ·unfold Tr.pathE at h;split at h
  ·injection h with h _;subst h;simp
  split at h
  ·injection h with h _;subst h;simp
  injection h with _ h;exact absurd h.symm z
theorem Zmv(O kn kc K a b n c m d N T)(s:Int)(x:Int)(C' w)(hE:Env w)(hK:Bk.TextsAt w O kn K)(hN:Tr.IntsAt w a n N)(hT:Tr.BlksAt w b m T)(sN:SlOk a n c)(sT:SlOk b m d)(hx:Q4 K N T s=(x,C')) :
  Calls Tryz.prog 7 #[.agg #[F O kn kc],.agg #[F a n c,F b m d],E J s] w λe w'=>CnR w w' x C' e:=by
 obtain⟨X,hX⟩:=ZG ((w.alloc (dW #[F O kn kc] 24)).alloc (dW #[F a n c,F b m d] 28));have z:ZD w X:=by rw[hX];exact Ze (Zg _ _) (Zg _ _)
 have ak:X.heap[w.heap.size]? = some (dW [F O kn kc].toArray 24 (0,0)):=by rw[hX,Below.heap_alloc _ _ _ (by simp)];exact Qs _ _ _
 have bc:X.heap[w.heap.size+1]? = some (dW [F a n c,F b m d].toArray 28 (0,0)):=by
  rw[hX];have:=aK (w.alloc (dW #[F O kn kc] 24)) (dW #[F a n c,F b m d] 28);rw[show (w.alloc (dW #[F O kn kc] 24)).heap.size=w.heap.size+1 by simp] at this;exact this
 obtain⟨dr,hz⟩:=ZF (Bk.bkChk K);obtain⟨⟨P,y⟩,hp⟩:=ZF (Tr.pathE N T s);obtain⟨⟨x4,C4,U4⟩,bd⟩:=ZF (Ue K N T (Yx P) [] []);unfold Q4 at hx;rw[hz,hp] at hx;simp only at hx;rw[bd] at hx;have hP:=Rk hp;have C1:=Zb (Bk.check_is O kn kc K X (hK.later z) dr hz);have C2:=Zb (λW (hw:ZD X W)=>My a b n c m d N T s P y W ((hN.later z).later hw) ((hT.later z).later hw) sN sT hp hP);have C3:=Zb (λW (hw:ZD X W)=>G1 O kn kc K a b n c m d N T none 0 0 [] (Yx P) x4 C4 U4 W ((hE.later z).later hw) ((hK.later z).later hw) ((hN.later z).later hw) ((hT.later z).later hw) sN sT ⟨rfl,λh=>absurd h (by omega)⟩ Wd (Qp hP) bd);have cj:=Zd ak 0 _ rfl;have xl:=aA bc;have xk:=aA ak;have aq:=Zb z;have cx:=Zb ak;have br:=Zb bc;have HX:=Zb hx;have HP:=Zb hP;clear hE hK hN hT sN sT z ak bc hx hp bd hz;go_enter func7,ntmps7;go_wp2_with fail;rw[<-hX];clear hX;(try go_wp2_with fail);refine C1.mono ?_;rintro e w1 ⟨rfl,ad⟩;by_cases bg:dr=0
 ·subst bg;have h11:=ZE ad br;have dd:=Zd h11 0 _ rfl;have de:=Zd h11 1 _ rfl;have df:=aA h11;have D2:=Zb (C2 w1 ad);have ct:=Zb ad;clear ad h11 cj;go_wp2_with fail;refine D2.mono ?_;rintro e w2 ⟨rfl,bz⟩;obtain⟨Y,hY⟩:=ZG (w2.alloc (dW (Zl (Yx P)).toArray 76));have cb:ZD w2 Y:=by rw[hY];exact Zg _ _
  have bx:Y.heap[w2.heap.size]? = some (dW (Zl (Yx P)).toArray 76 (0,0)):=by rw[hY];exact aK _ _
  have ah:=Ze ct (Ze bz cb);have h0:=ZE ah cx;have h1:=ZE ah br;have ai:=Xm (Qp HP);have az:=Uw (Yx P);have bh:((Zl (aF 24 0)).toArray:Array Value).size=(Zl (Yx P)).toArray.size:=by simp[Zl,Qp (Za HP)]
  have bu:Hid ((w2.alloc (dW #[E J 0,E J 0,E J 0,E J 0,E J 0,E J 0,E J 0,E J 0,E J 0,E J 0,E J 0,E J 0,E J 0,E J 0,E J 0,E J 0,E J 0,E J 0,E J 0,E J 0,E J 0,E J 0,E J 0,E J 0] 76)).heap[w2.heap.size]? = some (dW (Zl (aF 24 0)).toArray 76 (0,0))):=by rw[Ql];exact aK _ _
  have EY:Hid ((w2.alloc (dW #[E J 0,E J 0,E J 0,E J 0,E J 0,E J 0,E J 0,E J 0,E J 0,E J 0,E J 0,E J 0,E J 0,E J 0,E J 0,E J 0,E J 0,E J 0,E J 0,E J 0,E J 0,E J 0,E J 0,E J 0] 76)).setRow w2.heap.size (Zl (Yx P)).toArray=Y):=by show _=_;rw[hY];exact World.setRow_alloc_new _ _ _ _
  have D3:=Zb (C3 Y ah);have bs:=Zb ah;have H0:=Zb h0;have H1:=Zb h1;have bt:=Zb bx;clear bz cb bx ah h0 h1 dd de df hY;obtain⟨RR,ba⟩:=ZF ((Zl (Yx P)).toArray);rw[ba] at ai az bh EY bt D3;rw[ba];clear ba;have r0:=Zd H0 0 _ rfl;have r1:=Zd H1 0 _ rfl;have r2:=Zd H1 1 _ rfl;have rl:=aA H1;by_cases hy:y=0
  ·subst hy;have af:Hid ((x4,C4)=(x,C')):=by have:=Za HX;rw[if_neg (λq=>q rfl),if_neg (λq=>q rfl)] at this;exact this
   go_wp2_with (first|(refine Zu rfl 76 _ _ rfl _ rfl _ _ rfl _ bu ai bh az ?_;rw[Za EY])|(refine Yu rfl 76 _ rfl _ rfl _ _ bt _ _ underlying76 ai ?_))
   refine D3.mono ?_;rintro e w3 ⟨oa,dc,oc,cs,rfl,hC,sC,aj,ca⟩;obtain⟨r1,r2⟩:=Prod.mk.inj af;subst r1 r2;have cd:=Ty aj.1;have cc:=aj.one;have HC:=Zb hC;have cw:=Zb sC;have HW:=Zb (Ze aq (Ze bs ca));have ce:((aF 24 (Value.slice none 0 0)).toArray:Array Value).size=cs.toArray.size:=(by simp[aj.1]);have cy:Hid ((w3.alloc (dW #[F none 0 0,F none 0 0,F none 0 0,F none 0 0,F none 0 0,F none 0 0,F none 0 0,F none 0 0,F none 0 0,F none 0 0,F none 0 0,F none 0 0,F none 0 0,F none 0 0,F none 0 0,F none 0 0,F none 0 0,F none 0 0,F none 0 0,F none 0 0,F none 0 0,F none 0 0,F none 0 0,F none 0 0] 81)).heap[w3.heap.size]? = some (dW (aF 24 (Value.slice none 0 0)).toArray 81 (0,0))):=(by rw[Ly];exact aK _ _);have E3:Hid ((w3.alloc (dW #[F none 0 0,F none 0 0,F none 0 0,F none 0 0,F none 0 0,F none 0 0,F none 0 0,F none 0 0,F none 0 0,F none 0 0,F none 0 0,F none 0 0,F none 0 0,F none 0 0,F none 0 0,F none 0 0,F none 0 0,F none 0 0,F none 0 0,F none 0 0,F none 0 0,F none 0 0,F none 0 0,F none 0 0] 81)).setRow w3.heap.size cs.toArray=w3.alloc (dW cs.toArray 81)):=World.setRow_alloc_new _ _ _ _;clear hC sC aj ca r0 rl;obtain⟨CC,av⟩:=ZF (cs.toArray);rw[av] at cd cc ce E3;rw[av];clear av
   go_wp2_with (refine Zu rfl 81 _ _ rfl _ rfl _ _ rfl _ cy cd ce cc ?_;rw[Za E3])
   go_ret2;exact⟨oa,dc,oc,rfl,HC.later (Zg _ _),Za cw,Ze HW (Zg _ _)⟩
  ·have af:Hid ((y,([]:List Zf))=(x,C')):=(by have:=Za HX;rw[if_neg (λq=>q rfl),if_pos hy] at this;exact this);have gy:(y != 0)=true:=by simp[hy]
   go_wp2_with (refine Zu rfl 76 _ _ rfl _ rfl _ _ rfl _ bu ai bh az ?_;rw[Za EY])
   go_ret2;exact Vo af (Ze aq bs)
 ·have af:Hid ((dr,([]:List Zf))=(x,C')):=by have:=Za HX;rw[if_pos bg] at this;exact this
  have gz:(dr != 0)=true:=by simp[bg]
  have HW:=Zb (Ze aq ad);clear ad cj;go_wp2;go_ret2;exact Vo af HW
open Tr (fnd Zm chkTr TrOk)
theorem Zhn(ka kn kc K a b n c d N T)(s:Int)(x:Int)(C' w)(hE:EnvF w)(hK:Bk.TextsAt w ka kn K)(sK:Bk.SlOk ka kn kc)(hR:Bk.Right K)(hN:Tr.IntsAt w a n N)(hT:Tr.BlksAt w b n T)(hn:n<=maxLen)(ak:TrOk N T)(hs:s=0\/s∈N)(hx:Wy K N T (Zm N T s) []=(x,C')) :
  Calls Tryz.prog 15 #[F ka kn kc,.agg #[F a n c,F b n d],E J s] w λe w'=>CnR w w' x C' e:=by
 obtain⟨X,hX⟩:=ZG (w.alloc (dW #[F a n c,F b n d] 28));have ap:ZD w X:=by rw[hX];exact Zg _ _
 have aj:X.heap[w.heap.size]? = some (dW [F a n c,F b n d].toArray 28 (0,0)):=by rw[hX];exact Tr.two_heap _ _ _ _
 obtain⟨P,hP⟩:=ZF (Zm N T s);obtain⟨pn,au⟩:=ZF (P.length);have cj:∀ y∈P,y∈N:=by rw[<-hP];exact ak.pth_sub hs
 have fa:pn<=1000:=by rw[<-au,<-hP];exact Tr.pth_len ak.heads s
 rw[hP] at hx;have C1:=Zb (Tr.rpath_is a b n c d N T s P pn X ak hn (hN.later ap) (hT.later ap) hs hP au);have x0:=Zd aj 0 _ rfl;have x1:=Zd aj 1 _ rfl;have xl:=aA aj;have cy:=Zb ap;have dq:=Zb aj;have HE:=Zb hE;have HK:=Zb hK;have dl:=Zb sK;have HR:=Zb hR;have HN:=Zb hN;have HT:=Zb hT;have en:=Zb ak;have dm:=Zb cj;have bq:=Zb au;have HX:=Zb hx;clear hE hK sK hR hN hT ak hs hx ap aj hP cj au;go_enter func15,ntmps15;go_wp2_with fail;rw[<-hX];clear hX;(try go_wp2_with fail);refine C1.mono ?_;rintro e w1 ⟨v,rfl,cf,bd⟩;obtain⟨av,cv,rfl,sv,iv⟩:=Tr.ints_of_own cf;have bo:=Zb (Ze cy bd);have dr:=Zb (ZE bd dq);have dd:=Zb iv;clear cf bd iv sv x0 x1 xl;go_wp2_with fail
 go_loopw [8,24] (λcv i wr=>∃ (j:Nat) (z:Option Addr) (O fm:Nat) (C:List Zf),j<=pn/\i = E J j/\cv = F z O fm/\Hid (CoinsAt wr z O C/\SlOk z O fm/\Zy C)/\Hid (Wy K N T (P.drop j) C=(x,C'))/\Hid (ZD w1 wr)) (λ_ i _=>pn - (intOf i).toNat)
 case atStart=>exact⟨0,none,0,0,[],aP _,rfl,rfl,⟨⟨rfl,λh=>absurd h (by omega)⟩,Wd,(Z6 _).1 rfl⟩,by show _=_;rw[List.drop_zero];exact Za HX,Below.refl _ _⟩
 case round=>
  obtain⟨j,z,O,fm,C,hj,rfl,rfl,HC,HQ,HG⟩:=hrel;by_cases ea:j<pn
  ·have be:j<P.length:=(by rw[Za bq];exact ea);have hq:=(Znx be C).symm.trans HQ;obtain⟨pb,po,rfl,cg,ci⟩:=dd.2 (by omega);have f1:=Zc HG (ci j be);have fl:=aI cg HG.size;have bg:=dm P[j] (bK be);obtain⟨y,hy⟩:=ZF (P[j]);rw[hy] at hq f1 bg;have ad:=Ze bo HG;have ba:=HN.later ad;have an:=HT.later ad
   rcases Tr.idxI_fnd y N T 0 (by rw[ba.1,an.1]) with ⟨_,q,_⟩|⟨i,hi,k1,_,k3⟩
   ·exact absurd bg q
   rw[Nat.zero_add] at k1;have ew:i<n:=(by rw[<-an.1];exact hi);obtain⟨fo,oq,rfl,ev,cd⟩:=an.2 (by omega);have bc:=cd i hi;rw[<-k3] at bc;obtain⟨⟨bp,bh,bk,bn,L⟩,cc⟩:=ZF (fnd y N T);rw[cc] at bc hq;obtain⟨g0,g1,g2,g3,ta,tn,tc,g4,ht,sT⟩:=bc;simp only at g0 g1 g2 g3 ht;obtain⟨⟨x3,C3,S3⟩,aq⟩:=ZF (Ym K C (bp,bh,bk,bn,L));rw[aq] at hq;simp only at hq;have ar:=ZE HG dr;have t0:=Zd ar 0 _ rfl;have t1:=Zd ar 1 _ rfl;have tl:=aA ar;have CI:=Zb (λW (hw:ZD wr W)=>Tr.indexInt_is a n c N y (i:Nat) W hn (ba.later hw) k1);have CN:=Zb (λW (hw:ZD wr W)=>Mz ka kn kc K z O fm C bp bh bk bn ta tn tc L x3 C3 S3 W (HE.later (Ze ad hw)) (HK.later (Ze ad hw)) dl HR (HC.1.later hw) HC.2.1 HC.2.2 (ht.later hw) sT aq);have gi:¬(i:Int)<0:=(by omega);have et:(i:Int)<(n:Int):=(by omega);have ez:(j:Int)<(pn:Int):=(by omega);have bs:=Zb hq;have da:=Zb aq;have cx:=Zb ad;clear hq aq ad ba an ci cg hy bg k1 k3 cd cc ht sT ar;go_wp2_with fail
   go_region_with (first
    | (go_at_call 13;refine (CI _ (Zh _)).mono ?_;rintro e w3 ⟨rfl,rfl⟩)
    | (go_at_call 41;refine (CN _ (Zh _)).mono ?_;rintro e w4 ⟨oa,ed,oc,ua,un,uc,rfl,bw,co,dx,ee,cb,dy⟩;have H4:=Zb (Ze (Zh _) cb);have cz:=Zb bw;have dj:=Zb co;clear bw co dx ee cb dy))
   all_goals
    by_cases bj:x3=0
    ·subst bj;have dg:Hid (Wy K N T (P.drop (j+1)) C3=(x,C')):=(by have:=Za bs;rw[if_neg (λq=>q rfl)] at this;exact this);have ah:=Zb (Ze HG H4);have di:=Zb (Dk da);clear H4;go_wp2;go_roundw
     case rel=>exact⟨j+1,oa,ed,oc,C3,by omega,by go_num,rfl,⟨Za cz,Za dj,Za di⟩,dg,ah⟩
     case measure=>simp[intOf];omega
    ·have ay:Hid ((x3,([]:List Zf))=(x,C')):=(by have:=Za bs;rw[if_pos bj] at this;exact this);have gx:(x3 != 0)=true:=(by simp[bj]);have ah:=Zb (Ze cx H4);clear H4;go_wp2;(try simp only[aO,Exit.then]);refine aR (v:=dY #[F none 0 0,E J x3]) ?_ rfl (Vo ay ah);simp[results,Tryz.f15,go_sem]
  ·have dz:j=pn:=(by omega);have ay:Hid (((0:Int),C)=(x,C')):=(by have:=Za HQ;rw[cB (by rw[Za bq];omega)] at this;exact this);have ah:=Zb (Ze bo HG)
   have dc:Hid (CnR w wr x C' (dX (dY #[F z O fm,E J 0]))):=by
    obtain⟨e1,e2⟩:=Prod.mk.inj ay;subst e1 e2;exact⟨z,O,fm,rfl,HC.1,HC.2.1,Za ah⟩
   subst dz;go_wp2;(try simp only[aO,Exit.then]);refine aR (v:=dY #[F z O fm,E J 0]) ?_ rfl dc;simp[results,Tryz.f15,go_sem]
theorem Zkv(ka kn kc K la ln lc C0)(p h k0 n:Int)(a m c T ua un uc S)(x:Int)(C' w)(hE:EnvF w)(hK:Bk.TextsAt w ka kn K)(sK:Bk.SlOk ka kn kc)(hR:Bk.Right K)(hC:CoinsAt w la ln C0)(sC:SlOk la ln lc)(aq:Zy C0)(hT:TxsAt w a m T)(hU:UndosAt w ua un S)(hx:Q0 K C0 (p,h,k0,n,T) S=(x,C')) :
  Calls Tryz.prog 48 #[F ka kn kc,F la ln lc,.agg #[E J p,E J h,E J k0,E J n,F a m c],F ua un uc] w λe w'=>RvR w w' x C' e:=by
 obtain⟨⟨X1,bi,N,cf⟩,af⟩:=ZF (Q7 K (p,h,k0,n,T));have be:Zo C0=0:=(Z6 _).2 aq;have bf:nfD K C0 (p,h,k0,n,T)=(N,cf):=by unfold nfD;rw[if_neg (λq=>q be),af]
 unfold Q0 at hx;rw[bf] at hx;have zT:T.length=m:=hT.1;have zS:S.length=un:=hU.1;by_cases hz:cf=0
 ·subst hz;rw[if_neg (λq=>q rfl)] at hx;by_cases bs:un=m
  ·subst bs;rw[if_neg (λq=>q (zS.trans zT.symm))] at hx;refine Zhl ka kn kc K la ln lc C0 p h k0 n a un c T ua uc S X1 bi N x C' w hE hK sK hR hC sC aq hT hU af ?_;rw[<-zT];exact hx
  ·rw[if_pos (λq=>bs (zS.symm.trans (q.trans zT)))] at hx;have HE:Hid ((x,C')=((4:Int),([]:List Zf))):=hx.symm;obtain⟨X,hX⟩:=ZG (w.alloc (dW #[E J p,E J h,E J k0,E J n,F a m c] 68));have O:ZD w X:=(by rw[hX];exact Zg _ _);have z:X.heap[w.heap.size]? = some (dW [E J p,E J h,E J k0,E J n,F a m c].toArray 68 (0,0)):=(by rw[hX];exact Z8 _ _ _ _ _ _ _);have NF:=Zb (Jz ka kn kc K p h k0 n a m c T X1 bi N 0 X (hE.later O) (hK.later O) sK hR (hT.later O) af);have x0:=Zd z 0 _ rfl;have x1:=Zd z 1 _ rfl;have x2:=Zd z 2 _ rfl;have x3:=Zd z 3 _ rfl;have x4:=Zd z 4 _ rfl;have xl:=aA z;have ay:=Zb O;have gm:((un:Int) != (m:Int))=true:=(by simp;omega);clear hE hK sK hR hC aq hT hU af hx O z bf be zT zS;go_enter func48,ntmps48;go_wp2_with fail;rw[<-hX];clear hX;(try go_wp2_with fail);refine NF.mono ?_;rintro e w1 ⟨a',n',c',na,nn,nc,rfl,_,_,hN,ae⟩;have y4:=Zc ae x4;have yl:=World.block_lt_of_cell? _ _ y4;have ax:=Zb (Ze ay ae);clear hN ae x0 x1 x2 x3 x4 xl;go_wp2;go_ret2;exact Wl HE ax
 ·rw[if_pos hz] at hx;have HE:Hid ((x,C')=(cf,([]:List Zf))):=hx.symm;obtain⟨X,hX⟩:=ZG (w.alloc (dW #[E J p,E J h,E J k0,E J n,F a m c] 68));have O:ZD w X:=by rw[hX];exact Zg _ _
  have z:X.heap[w.heap.size]? = some (dW [E J p,E J h,E J k0,E J n,F a m c].toArray 68 (0,0)):=by rw[hX];exact Z8 _ _ _ _ _ _ _
  have NF:=Zb (Jz ka kn kc K p h k0 n a m c T X1 bi N cf X (hE.later O) (hK.later O) sK hR (hT.later O) af);have x0:=Zd z 0 _ rfl;have x1:=Zd z 1 _ rfl;have x2:=Zd z 2 _ rfl;have x3:=Zd z 3 _ rfl;have x4:=Zd z 4 _ rfl;have xl:=aA z;have ay:=Zb O;have gm:(cf != 0)=true:=by simp[hz]
  clear hE hK sK hR hC aq hT hU af hx O z bf be zT zS;go_enter func48,ntmps48;go_wp2_with fail;rw[<-hX];clear hX;(try go_wp2_with fail);refine NF.mono ?_;rintro e w1 ⟨a',n',c',na,nn,nc,rfl,_,_,hN,ae⟩;have ax:=Zb (Ze ay ae);clear hN ae x0 x1 x2 x3 x4 xl;go_wp2;go_ret2;exact Wl HE ax
open Tr (fnd Zm chkTr TrOk)
theorem B8{K N T}{P Q:List Int}{C0 C' D}{x ac:Int}(z:mvR K N T P Q C0=(x,C'))(hd:dsR K N T Q P.reverse C0=(ac,D))(hz:ac≠0):((ac:Int),([]:List Zf))=(x,C'):=by
 unfold mvR at z;rw[hd,if_pos hz] at z;exact z
theorem Zmo{K N T Q R C O C5 C6 S5}{y z x5 x6:Int}{B:Zj}(ae:y∉Q)(hb:fnd y N T=B)(h4:Wy K N T (Zm N T B.1) []=(z,O))(h5:Ym K O B=(x5,C5,S5))(h6:Q0 K C B S5=(x6,C6)) :
  dsR K N T Q (y :: R) C=if z≠0 then (z,[]) else if x5≠0 then (x5,[]) else if Zo C≠0 then (Zo C,[]) else if x6≠0 then (x6,[]) else dsR K N T Q R C6:=by
 rw[dsR,if_neg ae,hb,h4,h5,h6]
def MvS(O:Nat)(tn tb:Value)(pb po:Nat)(y:Int)(z o:Nat)(p h k n:Int)(tx:Value)(U:World):Prop:=
 U.cell? ⟨O,0,none⟩=some tn/\U.cell? ⟨O,1,none⟩=some tb/\U.cell? ⟨pb,po,none⟩=some (E J y)/\U.cell? ⟨z,o,none⟩=some (E J p)/\U.cell? ⟨z,o+1,none⟩=some (E J h)/\U.cell? ⟨z,o+2,none⟩=some (E J k)/\U.cell? ⟨z,o+3,none⟩=some (E J n)/\U.cell? ⟨z,o+4,none⟩=some tx/\O<U.heap.size/\pb<U.heap.size/\z<U.heap.size
theorem Zhg(nu nv nx K a b n c d N T ny ln nz C0)(s t:Int)(x:Int)(C' w)(hE:EnvF w)(hK:Bk.TextsAt w nu nv K)(sK:Bk.SlOk nu nv nx)(hR:Bk.Right K)(hN:Tr.IntsAt w a n N)(hT:Tr.BlksAt w b n T)(hn:n<=maxLen)(hC:CoinsAt w ny ln C0)(sC:SlOk ny ln nz)(bv:TrOk N T)(hs:s=0\/s∈N)(ht:t=0\/t∈N)(hx:mvR K N T (Zm N T s) (Zm N T t) C0=(x,C')) :
  Calls Tryz.prog 18 #[F nu nv nx,.agg #[F a n c,F b n d],F ny ln nz,E J s,E J t] w λe w'=>CnR w w' x C' e:=by
 obtain⟨X,hX⟩:=ZG (w.alloc (dW #[F a n c,F b n d] 28));have eq:ZD w X:=by rw[hX];exact Zg _ _
 have dj:X.heap[w.heap.size]? = some (dW [F a n c,F b n d].toArray 28 (0,0)):=by rw[hX];exact Tr.two_heap _ _ _ _
 obtain⟨P,hP⟩:=ZF (Zm N T s);obtain⟨pn,es⟩:=ZF (P.length);obtain⟨Q,hQ⟩:=ZF (Zm N T t);obtain⟨qn,et⟩:=ZF (Q.length);have jb:∀ y∈P,y∈N:=by rw[<-hP];exact bv.pth_sub hs
 have jc:∀ y∈Q,y∈N:=by rw[<-hQ];exact bv.pth_sub ht
 have nb:pn<=1000:=by rw[<-es,<-hP];exact Tr.pth_len bv.heads s
 have nc:qn<=1000:=by rw[<-et,<-hQ];exact Tr.pth_len bv.heads t
 rw[hP,hQ] at hx;have C1:=Zb (Tr.rpath_is a b n c d N T s P pn X bv hn (hN.later eq) (hT.later eq) hs hP es);have C2:=Zb (λV (hv:ZD w V)=>Tr.rpath_is a b n c d N T t Q qn V bv hn (hN.later hv) (hT.later hv) ht hQ et);have x0:=Zd dj 0 _ rfl;have x1:=Zd dj 1 _ rfl;have xl:=aA dj;have jy:=Zb eq;have ks:=Zb dj;have HE:=Zb hE;have HK:=Zb hK;have eg:=Zb sK;have HR:=Zb hR;have HN:=Zb hN;have HT:=Zb hT;have HC:=Zb hC;have kf:=Zb sC;have ie:=Zb bv;have kk:=Zb jb;have kl:=Zb jc;have ig:=Zb es;have ii:=Zb et;have HX:=Zb hx;clear hE hK sK hR hN hT bv hs ht hx eq dj hP hQ jb jc es et hC sC;go_enter func18,ntmps18;go_wp2_with fail;rw[<-hX];clear hX;(try go_wp2_with fail);refine C1.mono ?_;rintro e w1 ⟨v,rfl,iz,fq⟩;obtain⟨pa,pc,rfl,sp,ip⟩:=Tr.ints_of_own iz;have gy:=Zb (Ze jy fq);have ej:=Zb (ZE fq ks);have kc:=Zb ip;clear iz fq ip x0 x1 xl;have x0:=Zd ej 0 _ rfl;have x1:=Zd ej 1 _ rfl;have xl:=aA ej;go_wp2_with fail;refine (C2 _ gy).mono ?_;rintro e w2 ⟨v,rfl,ja,br⟩;obtain⟨qa,qc,rfl,sq,ob⟩:=Tr.ints_of_own ja;have da:=Zb (Ze gy br);have io:=Zb (ZE br ej);have ic:=Zb (kc.later br);have id:=Zb ob;have kh:=Zb sp;have ki:=Zb sq;have fe:=Zb (HC.later da);clear ja br ob sp sq x0 x1 xl;have lh:IntKind.i64.wrap ((pn:Int) - 1)=(pn:Int) - 1:=by rw[IntKind.wrap_i64];omega
 go_upto_block 0 with fail
 go_cut [2] from 29 (λcv W=>∃ (z:Option Addr) (O cc:Nat) (C:List Zf),cv = F z O cc/\Hid (CoinsAt W z O C/\SlOk z O cc)/\Hid (dsR K N T Q P.reverse C0=(0,C))/\Hid (ZD w2 W))
 case first=>
  go_wp2_with fail
  go_loopw [2,16] (λcv i wr=>∃ (j:Nat) (z:Option Addr) (O cc:Nat) (C:List Zf),j<=pn/\i = E J ((j:Int) - 1)/\cv = F z O cc/\Hid (CoinsAt wr z O C/\SlOk z O cc)/\Hid (dsR K N T Q (P.take j).reverse C=dsR K N T Q P.reverse C0)/\Hid (ZD w2 wr)) (λ_ i _=>(intOf i+1).toNat)
  case atStart=>exact⟨pn,ny,ln,nz,C0,Nat.le_refl _,rfl,rfl,⟨Za fe,Za kf⟩,by show _=_;rw[<-Za ig,List.take_length],Below.refl _ _⟩
  case round=>
   obtain⟨j,z,O,cc,C,hj,rfl,rfl,HC,HQ,HG⟩:=hrel;clear lh;by_cases iy:j=0
   ·subst iy;have HD:Hid (dsR K N T Q P.reverse C0=(0,C)):=HQ.symm;go_wp2_with fail;go_meet
    case rel=>exact⟨z,O,cc,C,rfl,HC,HD,HG⟩
   ·obtain⟨j,rfl⟩:∃ i,j=i+1:=⟨j - 1,by omega⟩;have fv:j<P.length:=(by rw[Za ig];omega);have hq:=Za HQ;rw[Mk fv] at hq;obtain⟨pb,po,rfl,dn,dp⟩:=ic.2 (by omega);have f1:=Zc HG (dp j fv);have nw:=aI dn HG.size;have cm:=kk P[j] (bK fv);obtain⟨y,hy⟩:=ZF (P[j]);rw[hy] at hq f1 cm;have e1:((j+1:Nat):Int) - 1=(j:Int):=(by omega);rw[e1];have CC:=Zb (λo (ho:decide (y∈Q)=o)=>Tr.containsInt_is qa qn qc Q y o wr ki.len (id.later HG) ho);have lz:¬((j:Int)<0):=(by omega);have le:(j:Int)<(pn:Int):=(by omega);have lw:(0:Int)<=(j:Int):=(by omega);have nf:IntKind.i64.wrap ((j:Int) - 1)=(j:Int) - 1:=(by rw[IntKind.wrap_i64];omega);clear dn dp hy e1 iy;by_cases am:y∈Q
    ·have E1:=Zb (CC true (decide_eq_true am));have HD:Hid (dsR K N T Q P.reverse C0=(0,C)):=(by have:=hq;rw[dsR,if_pos am] at this;exact this.symm);clear hq am;go_wp2_with fail;refine E1.mono ?_;rintro e w3 ⟨rfl,rfl⟩;clear f1 nw;go_wp2_with fail;go_meet
     case rel=>exact⟨z,O,cc,C,rfl,HC,HD,HG⟩
    ·have E1:=Zb (CC false (decide_eq_false am));have er:=Ze da HG;have ce:=HN.later er;have bq:=HT.later er
     rcases Tr.idxI_fnd y N T 0 (by rw[ce.1,bq.1]) with ⟨_,q,_⟩|⟨i,hi,k1,_,k3⟩
     ·exact absurd cm q
     rw[Nat.zero_add] at k1;have lx:i<n:=(by rw[<-bq.1];exact hi);obtain⟨nt,oq,rfl,lc,dl⟩:=bq.2 (by omega);have cf:=dl i hi;rw[<-k3] at cf;obtain⟨⟨bp,bh,np,nr,L⟩,cj⟩:=ZF (fnd y N T);have fz:=ie.up y;rw[cj] at cf fz;obtain⟨⟨x4,C4⟩,h4⟩:=ZF (Wy K N T (Zm N T bp) []);obtain⟨⟨x5,C5,S5⟩,h5⟩:=ZF (Ym K C4 (bp,bh,np,nr,L));obtain⟨⟨x6,C6⟩,h6⟩:=ZF (Q0 K C (bp,bh,np,nr,L) S5);rw[Zmo am cj h4 h5 h6] at hq;obtain⟨g0,g1,g2,g3,ta,tn,tc,g4,ht,sT⟩:=cf;simp only at g0 g1 g2 g3 ht;have bn:=ZE HG io;have t0:=Zd bn 0 _ rfl;have t1:=Zd bn 1 _ rfl;have tl:=aA bn;have CI:=Zb (λW (hw:ZD wr W)=>Tr.indexInt_is a n c N y (i:Nat) W hn (ce.later hw) k1);have KS:Hid (∀ U,ZD wr U->MvS w.heap.size (F a n c) (F (some ⟨nt,oq,none⟩) n d) pb (po+j) y nt (oq+i*5) bp bh np nr (F ta tn tc) U):=λU hu=>⟨Zc hu t0,Zc hu t1,Zc hu f1,Zc hu g0,Zc hu g1,Zc hu g2,Zc hu g3,Zc hu g4,aI tl hu.size,aI nw hu.size,aI (World.block_lt_of_cell? _ _ g0) hu.size⟩;have oe:¬(i:Int)<0:=(by omega);have la:(i:Int)<(n:Int):=(by omega);have bs:=Zb hq;have H4:=Zb h4;have H5:=Zb h5;have H6:=Zb h6;have kq:=Zb fz;have il:=Zb ht;have kj:=Zb sT;have ec:=Zb er;have fe:=Zb bn;clear hq er ce bq cm k1 k3 dl ht sT bn am h4 h5 h6 cj fz;go_wp2_with fail;refine E1.mono ?_;rintro e w3 ⟨rfl,rfl⟩;clear t0 t1 tl f1 nw g0 g1 g2 g3 g4
     go_upto_region 7 with fail
     go_cut [17] from 44 to 102 (λod W=>∃ g:Nat,od = dZ (some ⟨g,0,none⟩)/\Hid (W.heap[g]? = some (dW [E J bp,E J bh,E J np,E J nr,F ta tn tc].toArray 68 (0,0)))/\Hid (ZD wr W))
     case first=>
      refine wp_region_held_drew (S:=MvS w.heap.size (F a n c) (F (some ⟨nt,oq,none⟩) n d) pb (po+j) y nt (oq+i*5) bp bh np nr (F ta tn tc)) (by kernel_rfl) (KS _ (Zh _)) (λaa=>?_);refine tk 0 ⟨some 54,.fieldAddr 28 (.tmp 6) 1,0, "second.go:431",#[],none⟩ ?_ rfl ?_ aa ?_;rotate_left
      ·(intro W ab;obtain⟨e1,e2,e3,e4,e5,e6,e7,e8,e9,av,aw⟩:=ab;go_simp;first|done|with_reducible rfl)
      (try simp only[aH,ZA,ZB,ZC]);refine tk 1 ⟨some 55,.load 26 (.tmp 54),26, "second.go:431",#[⟨0,.data⟩],none⟩ ?_ rfl ?_ aa ?_;rotate_left
      ·(intro W ab;obtain⟨e1,e2,e3,e4,e5,e6,e7,e8,e9,av,aw⟩:=ab;go_simp;first|done|with_reducible rfl)
      (try simp only[aH,ZA,ZB,ZC]);refine tk 2 ⟨some 56,.fieldAddr 28 (.tmp 6) 0,0, "second.go:431",#[],none⟩ ?_ rfl ?_ aa ?_;rotate_left
      ·(intro W ab;obtain⟨e1,e2,e3,e4,e5,e6,e7,e8,e9,av,aw⟩:=ab;go_simp;first|done|with_reducible rfl)
      (try simp only[aH,ZA,ZB,ZC]);refine tk 3 ⟨some 57,.load 25 (.tmp 56),25, "second.go:431",#[⟨2,.data⟩],none⟩ ?_ rfl ?_ aa ?_;rotate_left
      ·(intro W ab;obtain⟨e1,e2,e3,e4,e5,e6,e7,e8,e9,av,aw⟩:=ab;go_simp;first|done|with_reducible rfl)
      (try simp only[aH,ZA,ZB,ZC]);refine tk 4 ⟨some 58,.move (.tmp 12),25, "second.go:431",#[],none⟩ ?_ rfl ?_ aa ?_;rotate_left
      ·(intro W ab;obtain⟨e1,e2,e3,e4,e5,e6,e7,e8,e9,av,aw⟩:=ab;go_simp;first|done|with_reducible rfl)
      (try simp only[aH,ZA,ZB,ZC]);refine tk 5 ⟨some 59,.move (.tmp 16),3, "second.go:431",#[],none⟩ ?_ rfl ?_ aa ?_;rotate_left
      ·(intro W ab;obtain⟨e1,e2,e3,e4,e5,e6,e7,e8,e9,av,aw⟩:=ab;go_simp;first|done|with_reducible rfl)
      (try simp only[aH,ZA,ZB,ZC]);refine tk 6 ⟨some 60,.indexAddr 25 (.tmp 58) (.tmp 59),0, "second.go:431",#[⟨4,.data⟩,⟨5,.data⟩],none⟩ ?_ rfl ?_ aa ?_;rotate_left
      ·(intro W ab;obtain⟨e1,e2,e3,e4,e5,e6,e7,e8,e9,av,aw⟩:=ab;go_simp;first|done|with_reducible rfl)
      (try simp only[aH,ZA,ZB,ZC]);refine tk 7 ⟨some 61,.load 3 (.tmp 60),3, "second.go:431",#[⟨6,.data⟩],none⟩ ?_ rfl ?_ aa ?_;rotate_left
      ·(intro W ab;obtain⟨e1,e2,e3,e4,e5,e6,e7,e8,e9,av,aw⟩:=ab;go_simp;first|done|with_reducible rfl)
      (try simp only[aH,ZA,ZB,ZC]);refine bJ (rs:=[8,11]) (by kernel_rfl) (by simp) ?_;refine AllReadyH.cons (o:=⟨some 62,.call { callee:=Callee.value (.func 13),args:=#[.tmp 57,.tmp 61],argTypes:=#[25,3] },3, "second.go:431",#[⟨3,.data⟩,⟨7,.data⟩],none⟩) rfl (λKQ hK=>?_) (AllReadyH.cons (o:=⟨some 17,.alloc 68,0, "second.go:431",#[],none⟩) rfl (λKQ hK=>?_) AllReadyH.nil);refine Yr (by kernel_rfl) 13 #[F a n c,E J y] (by kernel_rfl) (CI _ (Zh _)) ?_;rintro e v6 ⟨rfl,rfl⟩;refine⟨_,rfl,?_⟩;refine hK.out _ _ (KS _ (Zh _)) (λal=>?_);clear hK KQ aa;have aa:=al;clear al;(try simp only[aH,ZA,ZB,ZC]);refine tk 9 ⟨some 63,.indexAddr 26 (.tmp 55) (.tmp 62),0, "second.go:431",#[⟨1,.data⟩,⟨8,.data⟩],none⟩ (dZ (some ⟨nt,oq+i*5,none⟩)) rfl ?_ aa ?_
      ·(intro W ab;obtain⟨e1,e2,e3,e4,e5,e6,e7,e8,e9,av,aw⟩:=ab;go_simp;first|done|with_reducible rfl)
      (try simp only[aH,ZA,ZB,ZC]);refine tk 10 ⟨some 64,.load 68 (.tmp 63),68, "second.go:431",#[⟨9,.data⟩],none⟩ (.agg #[E J bp,E J bh,E J np,E J nr,F ta tn tc]) rfl ?_ aa ?_
      ·(intro W ab;obtain⟨e1,e2,e3,e4,e5,e6,e7,e8,e9,av,aw⟩:=ab;go_simp;first|done|with_reducible rfl)
      (try simp only[aH,ZA,ZB,ZC]);refine bJ (rs:=[11]) (by kernel_rfl) (by simp) ?_;refine AllReadyH.cons (o:=⟨some 17,.alloc 68,0, "second.go:431",#[],none⟩) rfl (λKQ hK=>?_) AllReadyH.nil;go_simp;obtain⟨WA,be⟩:=ZG (wr.drew.alloc (dW #[E J 0,E J 0,E J 0,E J 0,F none 0 0] 68))
      (first|rw[<-be]|(rw[show (wr.alloc (dW #[E J 0,E J 0,E J 0,E J 0,F none 0 0] 68)).drew=WA from be.symm]))
      obtain⟨bj,cl⟩:∃ g,g=wr.heap.size:=⟨_,rfl⟩;rw[<-cl];have h10:WA.heap[bj]? = some (dW #[E J 0,E J 0,E J 0,E J 0,F none 0 0] 68 (0,0)):=(by rw[be,cl];exact aK wr.drew _);have ci:ZD wr WA:=(by rw[be];exact Ze (Zh wr) (Zg _ _));clear be;refine hK.out _ _ (KS _ ci) (λal=>?_);clear hK KQ aa;have aa:=al;clear al;(try simp only[aH,ZA,ZB,ZC]);rotate_left;go_simp;obtain⟨WA,be⟩:=ZG (wr.drew.alloc (dW #[E J 0,E J 0,E J 0,E J 0,F none 0 0] 68))
      (first|rw[<-be]|(rw[show (wr.alloc (dW #[E J 0,E J 0,E J 0,E J 0,F none 0 0] 68)).drew=WA from be.symm]))
      obtain⟨bj,cl⟩:∃ g,g=wr.heap.size:=⟨_,rfl⟩;rw[<-cl];have h10:WA.heap[bj]? = some (dW #[E J 0,E J 0,E J 0,E J 0,F none 0 0] 68 (0,0)):=(by rw[be,cl];exact aK wr.drew _);have ci:ZD wr WA:=(by rw[be];exact Ze (Zh wr) (Zg _ _));clear be;refine hK.out _ _ (KS _ ci) (λal=>?_);clear hK KQ aa;have aa:=al;clear al;(try simp only[aH,ZA,ZB,ZC]);refine bJ (rs:=[8]) (by kernel_rfl) (by simp) ?_;refine AllReadyH.cons (o:=⟨some 62,.call { callee:=Callee.value (.func 13),args:=#[.tmp 57,.tmp 61],argTypes:=#[25,3] },3, "second.go:431",#[⟨3,.data⟩,⟨7,.data⟩],none⟩) rfl (λKQ hK=>?_) AllReadyH.nil;refine Yr (by kernel_rfl) 13 #[F a n c,E J y] (by kernel_rfl) (CI _ ci) ?_;rintro e v6 ⟨rfl,rfl⟩;refine⟨_,rfl,?_⟩;refine hK.out _ _ (KS _ ci) (λal=>?_);clear hK KQ aa;have aa:=al;clear al;(try simp only[aH,ZA,ZB,ZC]);refine tk 9 ⟨some 63,.indexAddr 26 (.tmp 55) (.tmp 62),0, "second.go:431",#[⟨1,.data⟩,⟨8,.data⟩],none⟩ (dZ (some ⟨nt,oq+i*5,none⟩)) rfl ?_ aa ?_
      ·(intro W ab;obtain⟨e1,e2,e3,e4,e5,e6,e7,e8,e9,av,aw⟩:=ab;go_simp;first|done|with_reducible rfl)
      (try simp only[aH,ZA,ZB,ZC]);refine tk 10 ⟨some 64,.load 68 (.tmp 63),68, "second.go:431",#[⟨9,.data⟩],none⟩ (.agg #[E J bp,E J bh,E J np,E J nr,F ta tn tc]) rfl ?_ aa ?_
      ·(intro W ab;obtain⟨e1,e2,e3,e4,e5,e6,e7,e8,e9,av,aw⟩:=ab;go_simp;first|done|with_reducible rfl)
      (try simp only[aH,ZA,ZB,ZC]);rotate_left
      all_goals
       have ft:ZD wr (WA.setRow bj #[E J bp,E J bh,E J np,E J nr,F ta tn tc]):=below_setRow ci (Nat.le_of_eq cl.symm) _;have iu:(WA.setRow bj #[E J bp,E J bh,E J np,E J nr,F ta tn tc]).heap[bj]? = some (dW [E J bp,E J bh,E J np,E J nr,F ta tn tc].toArray 68 (0,0)):=setRow_heap _ _ _ _ _ _ h10;refine bJ (rs:=[12]) (by kernel_rfl) (by simp) ?_;refine AllReadyH.cons (o:=⟨none,.store 68 (.tmp 17) (.tmp 64),0, "second.go:431",#[⟨11,.data⟩,⟨10,.data⟩,⟨8,.chain⟩,⟨0,.phase⟩,⟨1,.phase⟩,⟨2,.phase⟩,⟨3,.phase⟩,⟨4,.phase⟩,⟨5,.phase⟩,⟨6,.phase⟩,⟨7,.phase⟩,⟨8,.phase⟩,⟨9,.phase⟩,⟨10,.phase⟩,⟨11,.phase⟩],none⟩) rfl (λKQ hK=>?_) AllReadyH.nil;refine Vy (by kernel_rfl) 68 _ _ rfl bj (by rfl) _ #[E J bp,E J bh,E J np,E J nr,F ta tn tc] (by rfl) 68 h10 (by kernel_rfl) rfl (by simp[Value.oneCell']) ?_;obtain⟨V1,iv⟩:=ZG (WA.setRow bj #[E J bp,E J bh,E J np,E J nr,F ta tn tc]);rw[<-iv] at ft iu ⊢;clear iv h10 ci cl;refine hK.out _ _ (KS _ ft) (λal=>?_);clear hK KQ aa;have aa:=al;clear al;(try simp only[aH]);refine wpAnyH_done (by kernel_rfl) ?_ _;clear aa;go_wp2_with fail;go_meet
       case rel=>exact⟨bj,rfl,iu,ft⟩
     case rest=>
      obtain⟨bj,rfl,Y1,fl⟩:=hcut;have X1:=Zb (ZE fl fe);have dd:=Zb (Ze ec fl);have jr:=Zb (Zhn nu nv nx K a (some ⟨nt,oq,none⟩) n c d N T bp x4 C4 wc (HE.later dd) (HK.later dd) eg HR (HN.later dd) (HT.later dd) hn ie kq H4);have t0:=Zd X1 0 _ rfl;have t1:=Zd X1 1 _ rfl;have tl:=aA X1;have q0:=Zd Y1 0 _ rfl;have ql:=aA Y1;go_wp2_with fail;refine jr.mono ?_;rintro e V2 ⟨oa,gi,oc,rfl,iw,jj,br⟩;have Y2:=Zb (ZE br Y1);have eh:=Zb (Ze dd br);have ij:=Zb (Ze fl br);have gz:=Zb (And.intro iw jj);clear t0 t1 tl q0 ql iw jj br Y1;by_cases eu:x4=0;rotate_left
      ·have HF:Hid (((x4:Int),([]:List Zf))=(x,C')):=B8 HX (by have q:=Za bs;rw[if_pos eu] at q;exact q.symm) eu;have gx:(x4 != 0)=true:=(by simp[eu]);have ar:=eh;go_wp2;(try simp only[aO,Exit.then]);refine aR (v:=dY #[F none 0 0,E J x4]) ?_ rfl (Vo HF ar);simp[results,Tryz.f18,go_sem]
      subst eu;have ke:=Zb (Mt _ _ _ ((Z6 _).1 rfl) H4);have jt:=Zb (Mz nu nv nx K oa gi oc C4 bp bh np nr ta tn tc L x5 C5 S5 V2 (HE.later eh) (HK.later eh) eg HR gz.1 gz.2 ke (il.later ij) kj H5);have q0:=Zd Y2 0 _ rfl;have q1:=Zd Y2 1 _ rfl;have q2:=Zd Y2 2 _ rfl;have q3:=Zd Y2 3 _ rfl;have q4:=Zd Y2 4 _ rfl;have ql:=aA Y2;go_wp2_with fail;refine jt.mono ?_;rintro e V3 ⟨ra,rn,rc,ua,un,uc,rfl,-,-,eo,gs,cg,-⟩;have Y3:=Zb (ZE cg Y2);have im:=Zb (Ze eh cg);have ik:=Zb (Ze ij cg);have kn:=Zb eo;clear q0 q1 q2 q3 q4 ql eo gs cg;by_cases ev:x5=0;rotate_left
      ·have HF:Hid (((x5:Int),([]:List Zf))=(x,C')):=B8 HX (by have q:=Za bs;rw[if_neg (λr=>r rfl),if_pos ev] at q;exact q.symm) ev;have gx:(x5 != 0)=true:=(by simp[ev]);have ar:=im;go_wp2;(try simp only[aO,Exit.then]);refine aR (v:=dY #[F none 0 0,E J x5]) ?_ rfl (Vo HF ar);simp[results,Tryz.f18,go_sem]
      subst ev;obtain⟨ns,hz⟩:=ZF (Zo C);have fd:=Zb (Qq z O cc C ns V3 (HC.1.later ik) hz);have HZ:=Zb hz;clear hz;go_wp2_with fail;refine fd.mono ?_;rintro e V4 ⟨rfl,bk⟩;have Y4:=Zb (ZE bk Y3);have ei:=Zb (Ze im bk);have fi:=Zb (Ze ik bk);have ko:=Zb (kn.later bk);clear bk;by_cases ew:ns=0;rotate_left
      ·have HF:Hid (((ns:Int),([]:List Zf))=(x,C')):=B8 HX (by have q:=Za bs;rw[if_neg (λr=>r rfl),if_neg (λr=>r rfl),Za HZ,if_pos ew] at q;exact q.symm) ew;have gx:(ns != 0)=true:=(by simp[ew]);have ar:=ei;go_wp2;(try simp only[aO,Exit.then]);refine aR (v:=dY #[F none 0 0,E J ns]) ?_ rfl (Vo HF ar);simp[results,Tryz.f18,go_sem]
      subst ew;have ju:=Zb (Zkv nu nv nx K z O cc C bp bh np nr ta tn tc L ua un uc S5 x6 C6 V4 (HE.later ei) (HK.later ei) eg HR (HC.1.later fi) HC.2 ((Z6 _).1 HZ) (il.later fi) ko H6);have q0:=Zd Y4 0 _ rfl;have q1:=Zd Y4 1 _ rfl;have q2:=Zd Y4 2 _ rfl;have q3:=Zd Y4 3 _ rfl;have q4:=Zd Y4 4 _ rfl;have ql:=aA Y4;go_wp2_with fail;refine ju.mono ?_;rintro e V5 ⟨li,lp,lm,rfl,ix,jk,fs⟩;have kr:=Zb (Ze ei fs);have fj:=Zb (Ze HG (Ze fi fs));have ka:=Zb (And.intro ix jk);clear q0 q1 q2 q3 q4 ql ix jk fs;by_cases ey:x6=0;rotate_left
      ·have HF:Hid (((x6:Int),([]:List Zf))=(x,C')):=B8 HX (by have q:=Za bs;rw[if_neg (λr=>r rfl),if_neg (λr=>r rfl),Za HZ,if_neg (λr=>r rfl),if_pos ey] at q;exact q.symm) ey;have gx:(x6 != 0)=true:=(by simp[ey]);have ar:=kr;go_wp2;(try simp only[aO,Exit.then]);refine aR (v:=dY #[F none 0 0,E J x6]) ?_ rfl (Vo HF ar);simp[results,Tryz.f18,go_sem]
      subst ey;have kd:Hid (dsR K N T Q (P.take j).reverse C6=dsR K N T Q P.reverse C0):=(by have q:=Za bs;rw[if_neg (λr=>r rfl),if_neg (λr=>r rfl),Za HZ,if_neg (λr=>r rfl),if_neg (λr=>r rfl)] at q;exact q);go_wp2;go_roundw
      case rel=>exact⟨j,li,lp,lm,C6,by omega,rfl,rfl,ka,kd,fj⟩
      case measure=>simp[intOf]
 case rest=>
  obtain⟨z,O,cc,C,rfl,HC,HD,HG⟩:=hcut;have HU:Hid (upR K N T P Q C=(x,C')):=by have q:=Za HX;unfold mvR at q;rw[Za HD,if_neg (λr=>r rfl)] at q;exact q
  have ec:=Zb (Ze da HG);go_wp2_with fail
  go_loopw [2,105] (λcv i W=>∃ (k:Nat) (z:Option Addr) (O cc:Nat) (C:List Zf),k<=qn/\i = E J k/\cv = F z O cc/\Hid (CoinsAt W z O C/\SlOk z O cc)/\Hid (upR K N T P (Q.drop k) C=(x,C'))/\Hid (ZD w2 W)) (λ_ i _=>qn - (intOf i).toNat)
  case atStart=>exact⟨0,z,O,cc,C,aP _,rfl,rfl,HC,by show _=_;rw[List.drop_zero];exact Za HU,HG⟩
  case round=>
   obtain⟨k,z,O,cc,C,hk,rfl,rfl,HC,HQ,HG⟩:=hrel;by_cases lg:k<qn
   ·have fw:k<Q.length:=(by rw[Za ii];exact lg);have hq:=(Zpw fw C).symm.trans HQ;obtain⟨pb,po,rfl,dn,dp⟩:=id.2 (by omega);have f1:=Zc HG (dp k fw);have nw:=aI dn HG.size;have cm:=kl Q[k] (bK fw);obtain⟨y,hy⟩:=ZF (Q[k]);rw[hy] at hq f1 cm;have le:(k:Int)<(qn:Int):=(by omega);have CC:=Zb (λo (ho:decide (y∈P)=o)=>Tr.containsInt_is _ pn pc P y o wr kh.len (ic.later HG) ho);have ec:=Zb (Ze da HG);clear dp dn hy;by_cases am:y∈P
    ·have E1:=Zb (CC true (decide_eq_true am));have fh:Hid (upR K N T P (Q.drop (k+1)) C=(x,C')):=(by have q:=hq;rw[if_pos am] at q;exact q);clear hq am;go_wp2_with fail;refine E1.mono ?_;rintro e w3 ⟨rfl,rfl⟩;clear f1 nw;go_wp2;go_roundw
     case rel=>exact⟨k+1,z,O,cc,C,by omega,by go_num,rfl,HC,fh,HG⟩
     case measure=>simp[intOf];omega
    ·have E1:=Zb (CC false (decide_eq_false am));rw[if_neg am] at hq;obtain⟨ns,hz⟩:=ZF (Zo C);rw[hz] at hq;have fd:=Zb (Qq z O cc C ns wr HC.1 hz);have HZ:=Zb hz;have bs:=Zb hq;clear hq am hz;go_wp2_with fail;refine E1.mono ?_;rintro e w3 ⟨rfl,rfl⟩;clear f1 nw;go_wp2_with fail;refine fd.mono ?_;rintro e V ⟨rfl,bk⟩;have cq:=Zb (Ze ec bk);have ib:=Zb (Ze HG bk);have ia:=Zb (And.intro (HC.1.later bk) HC.2);clear bk;by_cases gc:ns=0;rotate_left
     ·have HF:Hid (((ns:Int),([]:List Zf))=(x,C')):=(by have q:=Za bs;rw[if_pos gc] at q;exact q);have gx:(ns != 0)=true:=(by simp[gc]);have ar:=cq;go_wp2;(try simp only[aO,Exit.then]);refine aR (v:=dY #[F none 0 0,E J ns]) ?_ rfl (Vo HF ar);simp[results,Tryz.f18,go_sem]
     subst gc;have ce:=HN.later cq;have bq:=HT.later cq
     rcases Tr.idxI_fnd y N T 0 (by rw[ce.1,bq.1]) with ⟨_,q,_⟩|⟨i,hi,k1,_,k3⟩
     ·exact absurd cm q
     rw[Nat.zero_add] at k1;have am:i<n:=(by rw[<-bq.1];exact hi);obtain⟨nt,oq,rfl,lc,dl⟩:=bq.2 (by omega);have cf:=dl i hi;rw[<-k3] at cf;obtain⟨⟨bp,bh,np,nr,L⟩,cj⟩:=ZF (fnd y N T);have hq:=Za bs;rw[if_neg (λr=>r rfl),cj] at hq;rw[cj] at cf;obtain⟨g0,g1,g2,g3,ta,tn,tc,g4,ht,sT⟩:=cf;simp only at g0 g1 g2 g3 ht;obtain⟨⟨x3,C3,S3⟩,fu⟩:=ZF (Ym K C (bp,bh,np,nr,L));rw[fu] at hq;simp only at hq;have bn:=ZE ib io;have t0:=Zd bn 0 _ rfl;have t1:=Zd bn 1 _ rfl;have tl:=aA bn;have CI:=Zb (λW (hw:ZD V W)=>Tr.indexInt_is a n c N y (i:Nat) W hn (ce.later hw) k1);have CN:=Zb (λW (hw:ZD V W)=>Mz nu nv nx K z O cc C bp bh np nr ta tn tc L x3 C3 S3 W (HE.later (Ze cq hw)) (HK.later (Ze cq hw)) eg HR (ia.1.later hw) ia.2 ((Z6 _).1 HZ) (ht.later hw) sT fu);have oe:¬(i:Int)<0:=(by omega);have la:(i:Int)<(n:Int):=(by omega);have ih:=Zb hq;clear hq fu ce bq cm k1 k3 dl cj ht sT bn;go_wp2_with fail
     go_region_with (first
      | (go_at_call 13;refine (CI _ (Zh _)).mono ?_;rintro e w3 ⟨rfl,rfl⟩)
      | (go_at_call 41;refine (CN _ (Zh _)).mono ?_;rintro e w4 ⟨oa,gi,oc,ua,un,uc,rfl,iq,jh,eo,gs,cg,ld⟩;have eb:=Zb (Ze (Zh _) cg);have jz:=Zb iq;have kg:=Zb jh;clear iq jh eo gs cg ld))
     all_goals
      by_cases gb:x3=0
      ·subst gb;have fh:Hid (upR K N T P (Q.drop (k+1)) C3=(x,C')):=(by have q:=Za ih;rw[if_neg (λq=>q rfl)] at q;exact q);have ff:=Zb (Ze ib eb);clear eb;go_wp2;go_roundw
       case rel=>exact⟨k+1,oa,gi,oc,C3,by omega,by go_num,rfl,⟨Za jz,Za kg⟩,fh,ff⟩
       case measure=>simp[intOf];omega
      ·have HF:Hid ((x3,([]:List Zf))=(x,C')):=(by have q:=Za ih;rw[if_pos gb] at q;exact q);have gx:(x3 != 0)=true:=(by simp[gb]);have ar:=Zb (Ze cq eb);clear eb;go_wp2;(try simp only[aO,Exit.then]);refine aR (v:=dY #[F none 0 0,E J x3]) ?_ rfl (Vo HF ar);simp[results,Tryz.f18,go_sem]
   ·have lf:k=qn:=(by omega);have fj:Hid (((0:Int),C)=(x,C')):=(by have q:=Za HQ;rw[cB (by rw[Za ii];omega)] at q;exact q);have ff:=Zb (Ze da HG)
    have kb:Hid (CnR w wr x C' (dX (dY #[F z O cc,E J 0]))):=by
     obtain⟨e1,e2⟩:=Prod.mk.inj fj;subst e1 e2;exact⟨z,O,cc,rfl,HC.1,HC.2,Za ff⟩
    subst lf;go_wp2;(try simp only[aO,Exit.then]);refine aR (v:=dY #[F z O cc,E J 0]) ?_ rfl kb;simp[results,Tryz.f18,go_sem]
