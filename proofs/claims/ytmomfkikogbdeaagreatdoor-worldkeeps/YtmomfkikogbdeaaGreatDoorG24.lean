import Derived.Test.YtmomfkikogbdeaaGreatDoorH
import Derived.Test.YtmomfkikogbdeaaGreatDoorG23
open Go.Proofs.Tryz
open Go renaming bodyPost_ret->aW,maxLen->cH
open Go.Ending renaming returned->cS
open Go.IntKind renaming wrap_i64->bI,i64->J
open Go.Obj renaming cells->cR
open Go.Value renaming int->cE,int->E,slice->F
open Go.World renaming frozen?_of_block->aO
open Nat renaming le_refl->aF,le_of_eq->cG,zero_le->aM,le_trans->aT,lt_of_lt_of_le->aC
set_option maxHeartbeats 12800000
set_option maxRecDepth 10000
namespace Go.Proofs.YtmomfkikogbdeaaGreatDoor.Tr
open Go.RowKit
def TxSmall(t:TxD):Prop:=t.2.1.length<=3518437208883/\t.2.2.length<=4398046511104/\(∀ x∈t.2.1,x.2.2.length<=8796093022208)/\∀ x∈t.2.2,x.2.length<=8796093022208
theorem Zje{G B w0s:Nat}{w0 wr w5:World}{g cap n k:Nat}{K:List (List Value)}{T:List TxD}{x u0 u1 u2}(h:Cl txR 59 B G w0 wr (F (some ⟨g,0,none⟩) n cap) n K T k)(hk:k<T.length)(ac:k<K.length)(hx:T[k]=x)(Q:ZD wr w5)(hf:Fresh w0s w5 (λw2=>txR.C w2 [u0,u1,u2] x))(z:G<=w0s) :
  Cl txR 59 B G w0 (((w5.setCell ⟨g,k*3,none⟩ u0).setCell ⟨g,k*3+1,none⟩ u1).setCell ⟨g,k*3+2,none⟩ u2) (F (some ⟨g,0,none⟩) n cap) n (K.set k [u0,u1,u2]) T (k+1):=by
 have h5:=h.keep Q;refine h5.step hk ?_ ((((Gr.refl w5 (λq=>q=g)).one g (k*3) (.inl rfl) _).one g (k*3+1) (.inl rfl) _).one g (k*3+2) (.inl rfl) _) ?_
 ·rw[hx];exact hf.less z
 ·have h1:=(((h5.own.stored (k*3) u0).1.stored (k*3+1) u1).1.stored (k*3+2) u2).1;rw[put3 h5.wid k ac] at h1;exact h1
theorem clTxs_is(aj m c T)(w:World)(hT:TxsAt w aj m T)(sT:SlOk aj m c)(hm:m<=2513169434916)(hs:∀ t∈T,TxSmall t) :
  Calls Tryz.prog 142 #[F aj m c] w λe w'=>∃ a' c',e = cS (F a' m c')/\Fresh w.heap.size w' (λw2=>TxsAt w2 a' m T/\SlOk a' m c')/\ZD w w':=by
 have cb:=Zd hs;have bi:=Zd hT.1;have C1:=Zd (A0 aj m c T w w hm hT ⟨rfl,rfl,rfl,aF _,λ_ _=>rfl⟩ sT);clear hT sT hs;go_enter func142,ntmps142;go_wp2_with fail;refine C1.mono ?_;rintro e w3 ⟨v,K1,rfl,hA,ho,bd⟩;obtain⟨a1,c1,rfl,_,_⟩:=Z0 ho;obtain⟨G,hG⟩:=ZF (w3.heap.size);have cl:w.heap.size<=G:=by rw[<-hG];exact bd.size
 have bk:Hid (Cl txR 59 w.heap.size G w w3 (F a1 m c1) m K1 T 0):=Cl.start ho hA bi (cG hG);have HB:=Zd bd;have bh:Hid (G<=w3.heap.size):=cG hG.symm;clear hA ho bd hG C1;go_wp2
 go_loopw [9] (λi wr=>∃ (k:Nat) (K:List (List Value)),k<=m/\i = E J k/\Hid (Cl txR 59 w.heap.size G w wr (F a1 m c1) m K T k)/\Hid (ZD w wr)/\Hid (G<=wr.heap.size)) (λi _=>m - (intOf i).toNat)
 case atStart=>exact⟨0,K1,aM _,rfl,bk,HB,bh⟩
 case round=>
  obtain⟨k,K,hk,rfl,z,af,bz⟩:=hrel;clear bk HB bh;by_cases cm:k<m
  ·have au:k<T.length:=(by rw[Za bi];exact cm);have ae:k<K.length:=(by rw[(Za z).len];exact au);obtain⟨g,cap,ev,cy,cz,ar⟩:=z.form (by omega);cases ev;obtain⟨ai,ni,ci,ao,no,co,eK,hI,sI,hO,sO⟩:=z.old k au ae (aF _);have ab:=cb _ (List.getElem_mem au);obtain⟨x,hx⟩:=ZF (T[k]);rw[hx] at eK hI hO ab;have r0:=z.cell k ae 0 (by decide);have r1:=z.cell k ae 1 (by decide);have r2:=z.cell k ae 2 (by decide);rw[eK] at r0 r1 r2;have r0:wr.cell? ⟨g,k*3,none⟩=some (E J x.1):=r0;have r1:wr.cell? ⟨g,k*3+1,none⟩=some (F ai ni ci):=r1;have r2:wr.cell? ⟨g,k*3+2,none⟩=some (F ao no co):=r2;obtain⟨X1,an⟩:=ZG (wr.alloc (cR #[E J x.1,F ai ni ci,F ao no co] 59));have ap:ZD wr X1:=(by rw[an];exact Zh _ _);have ad:X1.heap[wr.heap.size]? = some (cR [E J x.1,F ai ni ci,F ao no co].toArray 59 (0,0)):=(by rw[an];exact Zv _ _ _ _ _);have b0:=Zb ad 0 _ rfl;have b1:=Zb ad 1 _ rfl;have b2:=Zb ad 2 _ rfl;have bl:=lt_of_block ad;have bx:=Zd ap;have be:=Zf af ap;have CO:=Zd (clTx_is x.1 ai ao ni ci no co x.2.1 x.2.2 X1 (hI.later be) (hO.later be) sI sO (by rw[<-hI.1];exact ab.1) (by rw[<-hO.1];exact ab.2.1) ab.2.2.1 ab.2.2.2)
   have NX:Hid (∀ w5 u0 u1 u2,ZD wr w5->Fresh X1.heap.size w5 (λw2=>txR.C w2 [u0,u1,u2] x) ->
     Hid (Cl txR 59 w.heap.size G w (((w5.setCell ⟨g,k*3,none⟩ u0).setCell ⟨g,k*3+1,none⟩ u1).setCell ⟨g,k*3+2,none⟩ u2) (F (some ⟨g,0,none⟩) m c1) m (K.set k [u0,u1,u2]) T (k+1))/\Hid (ZD w (((w5.setCell ⟨g,k*3,none⟩ u0).setCell ⟨g,k*3+1,none⟩ u1).setCell ⟨g,k*3+2,none⟩ u2))/\Hid (G<=(((w5.setCell ⟨g,k*3,none⟩ u0).setCell ⟨g,k*3+1,none⟩ u1).setCell ⟨g,k*3+2,none⟩ u2).heap.size)):=by
    intro w5 u0 u1 u2 aa aq;have bq:=Za bz;have br:=(((Gr.refl w5 (λq=>q=g)).one g (k*3) (.inl rfl) u0).one g (k*3+1) (.inl rfl) u1).one g (k*3+2) (.inl rfl) u2;have cp:=aa.size;refine⟨Zje z au ae hx aa aq (aT bq ap.size),?_,?_⟩
    ·exact br.below (Zf af aa) (by have:=af.size;omega) (λq e=>by omega)
    ·exact aT bq (aT cp br.size)
   have FR:=Zd (λj=>z.free j);have db:(k:Int)<(m:Int):=(by omega);clear hI hO sI sO ab hx eK ap ad be;go_wp2_with fail;rw[<-an];clear an;(try go_wp2_with fail);refine CO.mono ?_;rintro e w5 ⟨a5,c5,a6,c6,rfl,aq,aa⟩;have Q:=Zf bx aa;have HN:=Zd (NX w5 _ _ _ Q aq);have s0:=Ze Q r0;have s1:=Ze Q r1;have s2:=Ze Q r2;have q3:w5.frozen? ⟨g,k*3,none⟩=false:=(aO (a:=⟨g,k*3,none⟩) (Q.block g ar)).trans (FR _);have dd:w5.frozen? ⟨g,k*3+1,none⟩=false:=(aO (a:=⟨g,k*3+1,none⟩) (Q.block g ar)).trans (FR _);have de:w5.frozen? ⟨g,k*3+2,none⟩=false:=(aO (a:=⟨g,k*3+2,none⟩) (Q.block g ar)).trans (FR _);have q4:=aC ar Q.size;clear aq aa Q;go_wp2;go_roundw
   case rel=>
    obtain⟨f1,f5,f6⟩:=Za HN;exact⟨k+1,_,by omega,by go_num,f1,f5,f6⟩
   case measure=>simp[intOf];omega
  ·have e:k=m:=(by omega);subst e
   have R:Hid (Fresh w.heap.size wr (λw2=>TxsAt w2 a1 k T/\SlOk a1 k c1)):=by
    obtain⟨a',c',e1,h1⟩:=z.rows cl;cases e1;exact h1
   clear z;go_wp2;go_ret;exact⟨a1,c1,rfl,Za R,Za af⟩
theorem clBlock_is(p h z o:Int)(Q m c T)(w:World)(hT:TxsAt w Q m T)(sT:SlOk Q m c)(hm:m<=2513169434916)(hs:∀ t∈T,TxSmall t) :
  Calls Tryz.prog 71 #[.agg #[E J p,E J h,E J z,E J o,F Q m c]] w λe w'=>∃ a' c',e = cS (.agg #[E J p,E J h,E J z,E J o,F a' m c'])/\Fresh w.heap.size w' (λw2=>blkR.C w2 [E J p,E J h,E J z,E J o,F a' m c'] (p,h,z,o,T))/\ZD w w':=by
 obtain⟨X,hX⟩:=ZG ((w.alloc (cR #[E J p,E J h,E J z,E J o,F Q m c] 39)).alloc (cR #[E J 0,E J 0,E J 0,E J 0,F none 0 0] 39));have ae:ZD w X:=by rw[hX];exact Zf (Zh _ _) (Zh _ _)
 have ac:X.heap[w.heap.size]? = some (cR [E J p,E J h,E J z,E J o,F Q m c].toArray 39 (0,0)):=by
  rw[hX,Below.heap_alloc _ _ _ (by simp)];exact Zx _ _ _ _ _ _ _
 have ap:X.heap.size=w.heap.size+2:=by rw[hX];simp
 have an:X.heap[w.heap.size+1]? = some (cR [E J 0,E J 0,E J 0,E J 0,F none 0 0].toArray 39 (0,0)):=by
  rw[hX];have:=Zx (w.alloc (cR #[E J p,E J h,E J z,E J o,F Q m c] 39)) (E J 0) (E J 0) (E J 0) (E J 0) (F none 0 0) 39;rw[show (w.alloc (cR #[E J p,E J h,E J z,E J o,F Q m c] 39)).heap.size=w.heap.size+1 by simp] at this;exact this
 have af:=Zd ae;have ag:=Zd ac;have ah:=Zd an;have aj:=Zd ap;have C1:=Zd (clTxs_is Q m c T X (hT.later ae) sT hm hs);have x4:=Zb ac 4 _ rfl;have xl:=lt_of_block ac;clear ae ac an hT sT hs ap;go_enter func71,ntmps71;go_wp2_with fail;rw[<-hX];clear hX;(try go_wp2_with fail);refine C1.mono ?_;rintro e w3 ⟨a1,c1,rfl,aq,ad⟩;have h30:=ZE ad ag;have h31:=ZE ad ah;have d4:=Zb h30 4 _ rfl;have z9:=Zg h30 4;have dl:=lt_of_block h30;have s0:=Zb h30 0 _ rfl;have s1:=Zb h30 1 _ rfl;have s2:=Zb h30 2 _ rfl;have s3:=Zb h30 3 _ rfl;have y0:=Zb h31 0 _ rfl;have y1:=Zb h31 1 _ rfl;have y2:=Zb h31 2 _ rfl;have y3:=Zb h31 3 _ rfl;have y4:=Zb h31 4 _ rfl;have z0:=Zg h31 0;have z1:=Zg h31 1;have z2:=Zg h31 2;have z3:=Zg h31 3;have z4:=Zg h31 4;have yl:=lt_of_block h31;have au:=Zd (Zf af ad);have HF:=Zd aq;clear aq ad h30 h31 C1 ag ah af x4 xl;go_wp2;(try simp only[Exit.inBlock,Exit.then]);have hG:=((((((Gr.refl w3 (λq=>q=w.heap.size\/q=w.heap.size+1)).one w.heap.size 4 (.inl (.inl rfl)) (F a1 m c1)).one (w.heap.size+1) 0 (.inl (.inr rfl)) (E J p)).one (w.heap.size+1) 1 (.inl (.inr rfl)) (E J h)).one (w.heap.size+1) 2 (.inl (.inr rfl)) (E J z)).one (w.heap.size+1) 3 (.inl (.inr rfl)) (E J o)).one (w.heap.size+1) 4 (.inl (.inr rfl)) (F a1 m c1);refine aW (v:=.agg #[E J p,E J h,E J z,E J o,F a1 m c1]) ?_ rfl ⟨a1,c1,rfl,?_,?_⟩
 ·rw[Ye rfl];go_simp
 ·refine ((Fresh.imp HF λw2 h=>⟨_,_,_,rfl,h.1,h.2⟩).on (hG.mono λq _ e=>by have:=Za aj;omega)).less (by have:=Za aj;omega)
 ·exact hG.below au (by omega) (λq e=>by omega)
theorem Zij{G B w0s:Nat}{w0 wr w5:World}{g cap n k:Nat}{K:List (List Value)}{T:List Zl}{x:Zl}{u0 u1 u2 u3 u4}(h:Cl blkR 39 B G w0 wr (F (some ⟨g,0,none⟩) n cap) n K T k)(hk:k<T.length)(ac:k<K.length)(hx:T[k]=x)(Q:ZD wr w5)(hf:Fresh w0s w5 (λw2=>blkR.C w2 [u0,u1,u2,u3,u4] x))(z:G<=w0s) :
  Cl blkR 39 B G w0 (((((w5.setCell ⟨g,k*5,none⟩ u0).setCell ⟨g,k*5+1,none⟩ u1).setCell ⟨g,k*5+2,none⟩ u2).setCell ⟨g,k*5+3,none⟩ u3).setCell ⟨g,k*5+4,none⟩ u4) (F (some ⟨g,0,none⟩) n cap) n (K.set k [u0,u1,u2,u3,u4]) T (k+1):=by
 have h5:=h.keep Q;refine h5.step hk ?_ ((((((Gr.refl w5 (λq=>q=g)).one g (k*5) (.inl rfl) _).one g (k*5+1) (.inl rfl) _).one g (k*5+2) (.inl rfl) _).one g (k*5+3) (.inl rfl) _).one g (k*5+4) (.inl rfl) _) ?_
 ·rw[hx];exact hf.less z
 ·have h1:=(((((h5.own.stored (k*5) u0).1.stored (k*5+1) u1).1.stored (k*5+2) u2).1.stored (k*5+3) u3).1.stored (k*5+4) u4).1;rw[put5 h5.wid k ac] at h1;exact h1
def Zbf(w:World)(N:List Int)(T:List Zl)(n:Nat)(v1 v2:Value)(wx:World):Prop:=
 ∃ K,AllC blkR w K T/\wx.ownsRow (w.heap.size+2) 3 1 v1 n (N.map (cE .i64))/\wx.ownsRow (w.heap.size+2) 39 5 v2 n K.flatten /\
  wx.heap[w.heap.size]? = some (cR [v1,v2].toArray 28 (0,0))/\wx.heap[w.heap.size+1]? = some (cR [F none 0 0,F none 0 0].toArray 28 (0,0))/\ZD w wx
theorem Ks{w W wx:World}{N:List Int}{T}{n:Nat}{v1 v2}{K:List (List Value)}(h1:AllC blkR w K T)(o1:W.ownsRow (w.heap.size+2) 3 1 v1 n (N.map (cE .i64)))(o2:W.ownsRow (w.heap.size+2) 39 5 v2 n K.flatten)(hb:ZD w W)
  (hz:W.heap[w.heap.size+1]? = some (cR [F none 0 0,F none 0 0].toArray 28 (0,0))) (z:Gr W wx (λq=>q=w.heap.size)) (hx:wx.heap[w.heap.size]? = some (cR [v1,v2].toArray 28 (0,0))):Zbf w N T n v1 v2 wx:=
 ⟨K,h1,z.own o1 (λk Q=>by have:=(o1.lt k Q).1;omega),z.own o2 (λk Q=>by have:=(o2.lt k Q).1;omega),hx,z.heap hz (by omega),z.below hb (by have:=lt_of_block hz;omega) (λk Q=>by omega)⟩
def BlkSmall(b:Zl):Prop:=b.2.2.2.2.length<=2513169434916/\∀ t∈b.2.2.2.2,TxSmall t
def TreeOwn(B:Nat)(w:World)(v1 v2:Value)(n:Nat)(N:List Int)(T:List Zl):Prop:=
 ∃ K G,w.ownsRow B 3 1 v1 n (N.map (cE .i64))/\w.ownsRow B 39 5 v2 n K.flatten/\(∀ q,v1.ownBlock=some q->q<G)/\(∀ q,v2.ownBlock=some q->q<G)/\B<=G/\T.length=n/\Fresh G w (λw2=>AllC blkR w2 K T)
theorem TreeOwn.gr{B:Nat}{w w' v1 v2}{n:Nat}{N T}(h:TreeOwn B w v1 v2 n N T)(g:Gr w w' (λq=>q<B)):TreeOwn B w' v1 v2 n N T:=by
 obtain⟨K,G,h1,h2,h3,h4,h5,h6,h7⟩:=h;exact⟨K,G,g.own h1 (λq hq=>by have:=(h1.lt q hq).1;omega),g.own h2 (λq hq=>by have:=(h2.lt q hq).1;omega),h3,h4,h5,h6,h7.on (g.mono λq _ hq=>by omega)⟩
theorem TreeOwn.less{B z:Nat}{w v1 v2}{n:Nat}{N T}(h:TreeOwn z w v1 v2 n N T)(Q:B<=z):TreeOwn B w v1 v2 n N T:=by
 obtain⟨K,G,h1,h2,h3,h4,h5,h6,h7⟩:=h;exact⟨K,G,Yo h1 Q,Yo h2 Q,h3,h4,by omega,h6,h7⟩
theorem TreeOwn.read{B:Nat}{w v1 v2}{n:Nat}{N T}(h:TreeOwn B w v1 v2 n N T):∃ z c1 Q c2,v1 = F z n c1/\v2 = F Q n c2/\IntsAt w z n N/\SlOk z n c1/\BlksAt w Q n T/\SlOk Q n c2:=by
 obtain⟨K,G,h1,h2,h3,h4,h5,h6,h7⟩:=h;obtain⟨z,c1,rfl,s1,i1⟩:=Ur h1;obtain⟨Q,c2,rfl,r2,s2⟩:=rows_of_own blkR h2 h7.now h6;exact⟨z,c1,Q,c2,rfl,rfl,i1,s1,r2,s2⟩
theorem clTree_is(a b n c d N T)(w:World)(hN:IntsAt w a n N)(hT:BlksAt w b n T)(sN:SlOk a n c)(sT:SlOk b n d)(hn:n<=4096)(hs:∀ t∈T,BlkSmall t) :
  Calls Tryz.prog 135 #[.agg #[F a n c,F b n d]] w λe w'=>∃ v1 v2,e = cS (.agg #[v1,v2])/\TreeOwn (w.heap.size+2) w' v1 v2 n N T/\ZD w w':=by
 obtain⟨X,hX⟩:=ZG ((w.alloc (cR #[F a n c,F b n d] 28)).alloc (cR #[F none 0 0,F none 0 0] 28));have ce:ZD w X:=by rw[hX];exact Zf (Zh _ _) (Zh _ _)
 have ax:X.heap[w.heap.size]? = some (cR [F a n c,F b n d].toArray 28 (0,0)):=by
  rw[hX,Below.heap_alloc _ _ _ (by simp)];exact Yu _ _ _ _
 have dg:X.heap.size=w.heap.size+2:=by rw[hX];simp
 have ag:X.heap[w.heap.size+1]? = some (cR [F none 0 0,F none 0 0].toArray 28 (0,0)):=by
  rw[hX];have:=Yu (w.alloc (cR #[F a n c,F b n d] 28)) (F none 0 0) (F none 0 0) 28;rw[show (w.alloc (cR #[F a n c,F b n d] 28)).heap.size=w.heap.size+1 by simp] at this;exact this
 have cw:=Zd ce;have cc:=Zd ax;have da:=Zd ag;have db:=Zd dg;have ds:=Zd hs;have ep:=Zd hN.1;have cd:=Zd hT.1;have C1:=Zd (N5 a n c N X.drew hn (hN.later (Zf ce (Zi X))) sN);have C2:=Zd (λW (hb:ZD w W)=>N7 b n d T w W (aT hn (by decide)) hT hb sT);have x0:=Zb ax 0 _ rfl;have x1:=Zb ax 1 _ rfl;have xl:=lt_of_block ax;clear ce ax ag hN hT sN sT hs dg;go_enter func135,ntmps135
 go_upto_region 1 with fail
 rw[<-hX];clear hX
 go_cut [7,10] from 5 to 12 (λs7 ei wx=>Hid (Zbf w N T n s7 ei wx))
 case first=>
  go_region_with (first
   | (go_at_call 47;refine C1.mono ?_;rintro e w3 ⟨v1,rfl,ak,bh⟩;have h30:=ZE bh cc;have d0:=Zb h30 0 _ rfl;have d1:=Zb h30 1 _ rfl;have dl:=lt_of_block h30;have cy:Hid (w3.ownsRow (w.heap.size+2) 3 1 v1 n (N.map (cE .i64))):=Yo ak (cG db.symm);have cq:=Zd (Zf (Zf cw (Zi _)) bh);have ct:=Zd (Zf (Zi X) bh);clear ak bh h30)
   | (go_at_call 196;refine (C2 _ cq).mono ?_;rintro e w4 ⟨v2,K2,rfl,hA2,au,bi⟩;have cf:=Zf ct bi;have h40:=ZE cf cc;have h41:=ZE cf da;have e0:=Zb h40 0 _ rfl;have e1:=Zb h40 1 _ rfl;have z0:=Zg h40 0;have z1:=Zg h40 1;have el:=lt_of_block h40;have cn:=Zd hA2;have cb:Hid (w4.ownsRow (w.heap.size+2) 39 5 v2 n K2.flatten):=Yo au (by have:=ct.size;have:=Za db;omega);have cz:=Zd ((Gr.of (S:=λ_=>False) bi).own cy (λ_ _ q=>q));have cu:=Zd (Zf cq bi);have cl:=Zd h40;have cm:=Zd h41;obtain⟨a2,c2,rfl,_,_⟩:=Z0 cb;obtain⟨a1,c1,rfl,_,_⟩:=Z0 cy;clear hA2 au bi cf h40 h41))
  all_goals
   go_wp2_with fail;go_meet
   case rel=>
    first
    | exact Ks (W:=w4) cn cz cb cu cm (((Gr.refl w4 (λq=>q=w.heap.size)).one w.heap.size 0 (.inl rfl) _).one w.heap.size 1 (.inl rfl) _) (set_cells (set_cells cl 0 _) 1 _)
    | exact Ks (W:=w4) cn cz cb cu cm (((Gr.refl w4 (λq=>q=w.heap.size)).one w.heap.size 1 (.inl rfl) _).one w.heap.size 0 (.inl rfl) _) (set_cells (set_cells cl 1 _) 0 _)
 case rest=>
  obtain⟨K1,hA1,ak,au,h0,h1,hb⟩:=Za hcut;obtain⟨a1,c1,rfl,_,_⟩:=Z0 ak;obtain⟨a2,c2,rfl,_,_⟩:=Z0 au;obtain⟨G,hG⟩:=ZF (wc.heap.size);have ee:w.heap.size+2<=G:=by rw[<-hG];exact lt_of_block h1
  have dd:Hid (wc.ownsRow (w.heap.size+2) 3 1 (F a1 n c1) n (N.map (cE .i64))):=ak;have dp:Hid (∀ q,(Value.slice a1 n c1).ownBlock=some q->q<G):=λq hq=>by have:=(ak.lt q hq).2;omega
  have de:Hid (Cl blkR 39 (w.heap.size+2) G w wc (F a2 n c2) n K1 T 0):=Cl.start au hA1 cd (cG hG);have H0:=Zd h0;have H1:=Zd h1;have HB:=Zd hb;have cx:Hid (G<=wc.heap.size):=cG hG.symm;have dv:=Zb h0 1 _ rfl;have dw:=lt_of_block h0;clear hcut hA1 ak au h0 h1 hb C1 C2 cc da cw x0 x1 xl hG;go_wp2
  go_loopw [16] (λi wr=>∃ (k:Nat) (K:List (List Value)),k<=n/\i = E J k/\Hid (wr.ownsRow (w.heap.size+2) 3 1 (F a1 n c1) n (N.map (cE .i64)))/\Hid (Cl blkR 39 (w.heap.size+2) G w wr (F a2 n c2) n K T k)/\Hid (wr.heap[w.heap.size]? = some (cR [F a1 n c1,F a2 n c2].toArray 28 (0,0)))/\Hid (wr.heap[w.heap.size+1]? = some (cR [F none 0 0,F none 0 0].toArray 28 (0,0)))/\Hid (ZD w wr)/\Hid (G<=wr.heap.size)) (λi _=>n - (intOf i).toNat)
  case atStart=>exact⟨0,K1,aM _,rfl,dd,de,H0,H1,HB,cx⟩
  case round=>
   obtain⟨k,K,hk,rfl,bd,z,ad,an,ca,dq⟩:=hrel;clear dd de H0 H1 HB cx dv dw;by_cases ef:k<n
   ·have bk:k<T.length:=(by rw[Za cd];exact ef);have aj:k<K.length:=(by rw[(Za z).len];exact bk);obtain⟨g,cap,ev,fc,fd,ar⟩:=z.form (by omega);cases ev;obtain⟨ta,tn,tc,eK,hI,sI⟩:=z.old k bk aj (aF _);have bo:=ds _ (List.getElem_mem bk);obtain⟨x,hx⟩:=ZF (T[k]);rw[hx] at eK hI bo;obtain⟨x0,x1,x2,x3,x4⟩:=x;simp only at eK hI;have r0:=z.cell k aj 0 (by decide);have r1:=z.cell k aj 1 (by decide);have r2:=z.cell k aj 2 (by decide);have r3:=z.cell k aj 3 (by decide);have r4:=z.cell k aj 4 (by decide);rw[eK] at r0 r1 r2 r3 r4;have r0:wr.cell? ⟨g,k*5,none⟩=some (E J x0):=r0;have r1:wr.cell? ⟨g,k*5+1,none⟩=some (E J x1):=r1;have r2:wr.cell? ⟨g,k*5+2,none⟩=some (E J x2):=r2;have r3:wr.cell? ⟨g,k*5+3,none⟩=some (E J x3):=r3;have r4:wr.cell? ⟨g,k*5+4,none⟩=some (F ta tn tc):=r4;obtain⟨X1,ag⟩:=ZG (wr.alloc (cR #[E J x0,E J x1,E J x2,E J x3,F ta tn tc] 39));have aq:ZD wr X1:=(by rw[ag];exact Zh _ _);have ah:X1.heap[wr.heap.size]? = some (cR [E J x0,E J x1,E J x2,E J x3,F ta tn tc].toArray 39 (0,0)):=(by rw[ag];exact Zx _ _ _ _ _ _ _);have b0:=Zb ah 0 _ rfl;have b1:=Zb ah 1 _ rfl;have b2:=Zb ah 2 _ rfl;have b3:=Zb ah 3 _ rfl;have b4:=Zb ah 4 _ rfl;have bl:=lt_of_block ah;have t1:=Ze aq (Zb ad 1 _ rfl);have tl:=aC (lt_of_block ad) aq.size;have dn:=Zd aq;have dh:=Zf (Zf ca aq) (Zi _)
    have CO:=Zd (clBlock_is x0 x1 x2 x3 ta tn tc x4 X1.drew (hI.later dh) sI (by rw[<-hI.1];exact bo.1) bo.2)
    have NX:Hid (∀ w5 u0 u1 u2 u3 u4,ZD wr w5->Fresh X1.drew.heap.size w5 (λw2=>blkR.C w2 [u0,u1,u2,u3,u4] (x0,x1,x2,x3,x4)) ->
      Hid ((((((w5.setCell ⟨g,k*5,none⟩ u0).setCell ⟨g,k*5+1,none⟩ u1).setCell ⟨g,k*5+2,none⟩ u2).setCell ⟨g,k*5+3,none⟩ u3).setCell ⟨g,k*5+4,none⟩ u4).ownsRow (w.heap.size+2) 3 1 (F a1 n c1) n (N.map (cE .i64)))/\Hid (Cl blkR 39 (w.heap.size+2) G w (((((w5.setCell ⟨g,k*5,none⟩ u0).setCell ⟨g,k*5+1,none⟩ u1).setCell ⟨g,k*5+2,none⟩ u2).setCell ⟨g,k*5+3,none⟩ u3).setCell ⟨g,k*5+4,none⟩ u4) (F (some ⟨g,0,none⟩) n c2) n (K.set k [u0,u1,u2,u3,u4]) T (k+1))/\Hid ((((((w5.setCell ⟨g,k*5,none⟩ u0).setCell ⟨g,k*5+1,none⟩ u1).setCell ⟨g,k*5+2,none⟩ u2).setCell ⟨g,k*5+3,none⟩ u3).setCell ⟨g,k*5+4,none⟩ u4).heap[w.heap.size]? = some (cR [F a1 n c1,F (some ⟨g,0,none⟩) n c2].toArray 28 (0,0)))/\Hid ((((((w5.setCell ⟨g,k*5,none⟩ u0).setCell ⟨g,k*5+1,none⟩ u1).setCell ⟨g,k*5+2,none⟩ u2).setCell ⟨g,k*5+3,none⟩ u3).setCell ⟨g,k*5+4,none⟩ u4).heap[w.heap.size+1]? = some (cR [F none 0 0,F none 0 0].toArray 28 (0,0)))/\Hid (ZD w (((((w5.setCell ⟨g,k*5,none⟩ u0).setCell ⟨g,k*5+1,none⟩ u1).setCell ⟨g,k*5+2,none⟩ u2).setCell ⟨g,k*5+3,none⟩ u3).setCell ⟨g,k*5+4,none⟩ u4))/\Hid (G<=(((((w5.setCell ⟨g,k*5,none⟩ u0).setCell ⟨g,k*5+1,none⟩ u1).setCell ⟨g,k*5+2,none⟩ u2).setCell ⟨g,k*5+3,none⟩ u3).setCell ⟨g,k*5+4,none⟩ u4).heap.size)):=by
     intro w5 u0 u1 u2 u3 u4 ab bj;have df:=Za dq;have ay:=(((((Gr.refl w5 (λq=>q=g)).one g (k*5) (.inl rfl) u0).one g (k*5+1) (.inl rfl) u1).one g (k*5+2) (.inl rfl) u2).one g (k*5+3) (.inl rfl) u3).one g (k*5+4) (.inl rfl) u4;have eg:=ab.size;refine⟨?_,Zij z bk aj hx ab bj (aT df aq.size),?_,?_,?_,?_⟩
     ·exact ay.own ((Gr.of (S:=λ_=>False) ab).own bd (λ_ _ q=>q)) (λq hq e=>own_apart z.own bd (by decide) q (by rw[e];rfl) hq)
     ·exact ay.heap (ZE ab ad) (by omega)
     ·exact ay.heap (ZE ab an) (by omega)
     ·exact ay.below (Zf ca ab) (by have:=lt_of_block ad;omega) (λq e=>by omega)
     ·exact aT df (aT eg ay.size)
    have FR:=Zd (λj=>z.free j);have ff:(k:Int)<(n:Int):=(by omega);clear hI sI bo hx eK aq ah dh;go_wp2_with fail;rw[<-ag];clear ag
    go_region_with (go_at_call 71;refine CO.mono ?_;rintro e w5 ⟨a5,c5,rfl,bj,ab⟩;have Q:=Zf (Zf dn (Zi _)) ab;have HN:=Zd (NX w5 _ _ _ _ _ Q bj);have q1:=Ze ab (Ze (Zi _) t1);have s0:=Ze Q r0;have s1:=Ze Q r1;have s2:=Ze Q r2;have s3:=Ze Q r3;have s4:=Ze Q r4;have q3:w5.frozen? ⟨g,k*5,none⟩=false:=(aO (a:=⟨g,k*5,none⟩) (Q.block g ar)).trans (FR _);have fi:w5.frozen? ⟨g,k*5+1,none⟩=false:=(aO (a:=⟨g,k*5+1,none⟩) (Q.block g ar)).trans (FR _);have fj:w5.frozen? ⟨g,k*5+2,none⟩=false:=(aO (a:=⟨g,k*5+2,none⟩) (Q.block g ar)).trans (FR _);have fk:w5.frozen? ⟨g,k*5+3,none⟩=false:=(aO (a:=⟨g,k*5+3,none⟩) (Q.block g ar)).trans (FR _);have fl:w5.frozen? ⟨g,k*5+4,none⟩=false:=(aO (a:=⟨g,k*5+4,none⟩) (Q.block g ar)).trans (FR _);have q4:=aC ar Q.size;have q5:=aC (lt_of_block ad) Q.size;clear bj ab Q)
    all_goals
     go_wp2;go_roundw
     case rel=>
      obtain⟨f1,f2,f3,f4,f5,f6⟩:=Za HN;exact⟨k+1,_,by omega,by go_num,f1,f2,f3,f4,f5,f6⟩
     case measure=>simp[intOf];omega
   ·have e:k=n:=(by omega);subst e;have s0:=Zb ad 0 _ rfl;have s1:=Zb ad 1 _ rfl;have sl:=lt_of_block ad;have y0:=Zb an 0 _ rfl;have y1:=Zb an 1 _ rfl;have z0:=Zg an 0;have z1:=Zg an 1;have yl:=lt_of_block an
    have R:Hid (TreeOwn (w.heap.size+2) wr (F a1 k c1) (F a2 k c2) k N T):=
     ⟨K,G,Za bd,z.own,Za dp,z.gt,ee,Za cd,z.done⟩
    clear z bd;go_wp2;(try simp only[Exit.inBlock,Exit.then]);have hG:=((Gr.refl wr (λq=>q=w.heap.size+1)).one (w.heap.size+1) 0 (.inl rfl) (F a1 k c1)).one (w.heap.size+1) 1 (.inl rfl) (F a2 k c2);refine aW (v:=.agg #[F a1 k c1,F a2 k c2]) ?_ rfl ⟨_,_,rfl,R.gr (hG.mono λq _ e=>by omega),?_⟩
    ·rw[Ye rfl];go_simp
    ·exact hG.below ca (by omega) (λq e=>by omega)
structure Up(B g H:Nat)(N:List Int)(T:List Zl)(s:Int)(wr:World)(k:Nat)(y:Int):Prop where
 ex:∃ xs:List Value,wr.ownsRow B 3 1 (F (some ⟨g,0,none⟩) H H) H xs/\(upD N T H s).map (cE .i64)=(upD N T (H - k) y).map (cE .i64)++xs.drop (H - k)
theorem Up.old{B g H:Nat}{N T}{s:Int}{wr:World}{k:Nat}{y:Int}(h:Up B g H N T s wr k y){r:Nat}(hr:r<H):(∃ v,wr.cell? ⟨g,r,none⟩=some v)/\wr.frozen? ⟨g,r,none⟩=false/\B<=g/\g<wr.heap.size:=by
 obtain⟨xs,z,_⟩:=h.ex;have Q:xs.length=H:=by simpa using z.1
 exact⟨⟨xs[r]'(by omega),by rw[z.cellAt r (by omega)];simp[Q,hr]⟩,z.frozenAt r,(z.lt g rfl).1,(z.lt g rfl).2⟩
theorem Up.step{B g H:Nat}{N T}{s:Int}{wr:World}{k:Nat}{y:Int}(h:Up B g H N T s wr k y)(Q:k<H){r:Nat}(hr:r=H - 1 - k):Up B g H N T s (wr.setCell ⟨g,r,none⟩ (E J y)) (k+1) (fnd y N T).1:=by
 obtain⟨xs,z,hx⟩:=h.ex;have hl:xs.length=H:=by simpa using z.1
 refine⟨xs.set r (E J y),(z.stored r _).1,?_⟩;rw[hx,show H - k=(H - (k+1))+1 by omega,upD,List.map_append,List.append_assoc]
 congr 1
 have e:r=H - (k+1):=by omega
 rw[<-e];rw[List.drop_eq_getElem_cons (l:=xs.set r (E J y)) (i:=r) (by rw[List.length_set];omega),List.drop_set_of_lt (by omega)];simp
theorem Up.keep{B g H:Nat}{N T}{s:Int}{wr w':World}{k:Nat}{y:Int}(h:Up B g H N T s wr k y)(z:ZD wr w'):Up B g H N T s w' k y:=by
 obtain⟨xs,Q,hx⟩:=h.ex;exact⟨xs,(Gr.of (S:=λ_=>False) z).own Q (λ_ _ q=>q),hx⟩
theorem Zce(a b)(n c d:Nat)(N T)(s:Int)(w:World)(hn:n<=cH)(hN:IntsAt w a n N)(hT:BlksAt w b n T)(hH:Y9 T) :
  Calls Tryz.prog 131 #[.agg #[F a n c,F b n d],E J s] w λe w'=>∃ v,e = cS v/\w'.ownsRow w.heap.size 3 1 v (Wv N T s).length ((Wv N T s).map (cE .i64))/\ZD w w':=by
 obtain⟨i0,hi,bx,bz,ca⟩:=info_parts Tryz.infoInt;obtain⟨X,hX⟩:=ZG (w.alloc (cR #[F a n c,F b n d] 28));have ad:ZD w X:=by rw[hX];exact Zh _ _
 have aj:X.heap[w.heap.size]? = some (cR [F a n c,F b n d].toArray 28 (0,0)):=by rw[hX];exact Yu _ _ _ _
 obtain⟨H,hh⟩:∃ H:Nat,(fnd s N T).2.1=(H:Int):=⟨_,(Int.toNat_of_nonneg (Jo hH s N).1).symm⟩;have cj:H<=1000:=by have:=(Jo hH s N).2.1;omega
 have HP:Hid (Wv N T s=upD N T H s):=by show _=_;unfold Wv;rw[hh];rfl
 have C:=Zd (Pi a b n c d N T s H X hn (hN.later ad) (hT.later ad) hh);have HB:=Zd ad;have bk:=Zd aj;have HN:=Zd hN;have HT:=Zd hT;have CF:=Zd (λy W (hb:ZD w W)=>T3 a b n c d N T y _ W hn (hN.later hb) (hT.later hb) rfl);have bs:w.heap.size+1<=X.heap.size:=lt_of_block aj;clear ad aj hN hT hH hh;go_enter func131,ntmps131;go_wp2_with fail;rw[<-hX];clear hX;refine C.mono ?_;rintro e w1 ⟨rfl,ab⟩;have be:w.heap.size+1<=w1.heap.size:=aT bs ab.size;have au:=Zd (Zf HB ab);have C1:=Zd (ZE ab bk);clear ab
 go_wp2_with (at_make;refine wpList_make_full _ rfl _ _ 25 rfl (w.heap.size+1) 3 i0 (E J 0) 1 underlying25 hi bx bz .i64 .i64 _ _ H rfl rfl rfl rfl (by rw[ca];omega) (by unfold cH;omega) be ?_;intro w3 am az)
 have ak:ZD w1 w3:=(Below.refl _ _).grown az (aF _) (λk h=>by cases h)
 have HU:Hid (Up (w.heap.size+1) w1.heap.size H N T s w3 0 s):=⟨_,am,by
  rw[Nat.sub_zero,List.drop_of_length_le (by rw[am.1];omega),List.append_nil]⟩
 have C3:=Zd (ZE ak C1);have aq:=Zd (Zf au ak);obtain⟨g,hg⟩:=ZF (w1.heap.size);rw[hg] at HU ⊢;clear ak am az C1 au hg be
 go_loopw [1,14] (λnm i wr=>∃ (k:Nat) (y:Int),k<=H/\nm = E J y/\i = E J k/\Hid (Up (w.heap.size+1) g H N T s wr k y)/\Hid (ZD w wr)/\Hid (wr.heap[w.heap.size]? = some (cR [F a n c,F b n d].toArray 28 (0,0)))) (λ_ i _=>H - (intOf i).toNat)
 case atStart=>exact⟨0,s,aM _,rfl,rfl,HU,aq,C3⟩
 case round=>
  obtain⟨k,y,hk,rfl,rfl,Q,av,bi⟩:=hrel;clear HU aq C3;by_cases bt:k<H
  ·obtain⟨r,hr⟩:=ZG (H - 1 - k);have bv:r<H:=(by omega);obtain⟨⟨v0,cw⟩,cm,cn,cp⟩:=Q.old bv;have cx:IntKind.i64.wrap ((H:Int) - 1)=(H:Int) - 1:=(by rw[bI];omega);have cy:IntKind.i64.wrap ((H:Int) - 1 - (k:Int))=(r:Int):=(by rw[bI];omega);have cu:(r:Int)<(H:Int):=(by omega);have ST:=Zd (Q.step bt hr);have hG:Gr wr (wr.setCell ⟨g,r,none⟩ (E J y)) (λq=>q=g):=(Gr.refl wr (λq=>q=g)).one g r (.inl rfl) _;have ar:=Zd (hG.below av (by omega) (λq hq=>by omega));have z:=hG.heap bi (by omega);have bh:=Zd z;have CC:=Zd (CF y _ ar);have t0:=Zb z 0 _ rfl;have t1:=Zb z 1 _ rfl;have tl:=lt_of_block z;have ct:(k:Int)<(H:Int):=(by omega);clear hG hr z;go_wp2_with fail;refine CC.mono ?_;rintro e w5 ⟨ta,tn,tc,rfl,_,_,ac⟩;unfold Jw;have hf:=(Sy (E J (fnd y N T).1) (E J (fnd y N T).2.1) (E J (fnd y N T).2.2.1) (E J (fnd y N T).2.2.2.1) (F ta tn tc) w5).1;have R1:=Zd (ST.keep ac);have R2:=Zd (Zf ar ac);have R3:=Zd (ZE ac bh);clear ac CC ST;go_wp2;go_roundw
   case rel=>exact⟨k+1,_,by omega,rfl,by go_num,R1,R2,R3⟩
   case measure=>simp[intOf];omega
  ·have e:k=H:=(by omega);subst e
   have R:Hid (wr.ownsRow w.heap.size 3 1 (F (some ⟨g,0,none⟩) k k) (Wv N T s).length ((Wv N T s).map (cE .i64))):=by
    show World.ownsRow _ _ _ _ _ _ _;rw[Za HP];obtain⟨xs,ho,hx⟩:=Q.ex;rw[Nat.sub_self,List.drop_zero,upD,List.map_nil,List.nil_append] at hx;rw[hx,M5];exact Yo ho (by omega)
   clear Q;go_wp2;go_ret;exact⟨_,rfl,Za R,Za av⟩
theorem Dj{N T}(z:Y9 T):∀ (P:List Int) (s:Int),s<=Xw N T s P/\Xw N T s P<=s+1000*P.length
 | [],s=>by simp[Xw]
 | x :: P,s=>by
  have h1:=(Jo z x N).2.2;have h2:=Dj z P (s+(fnd x N T).2.2.1) (N:=N);simp only[Xw,List.length_cons];omega
theorem L3(a b pa)(n c d pn pc:Nat)(N T P)(x:Int)(w:World)(hn:n<=cH)(hN:IntsAt w a n N)(hT:BlksAt w b n T)(hP:IntsAt w pa pn P)(hp:pn<=1000)(hH:Y9 T)(hx:Xw N T 0 P=x) :
  ZH 102 #[.agg #[F a n c,F b n d],F pa pn pc] w (E J x):=by
 obtain⟨X,hX⟩:=ZG (w.alloc (cR #[F a n c,F b n d] 28));have Q:ZD w X:=by rw[hX];exact Zh _ _
 have ak:X.heap[w.heap.size]? = some (cR [F a n c,F b n d].toArray 28 (0,0)):=by rw[hX];exact Yu _ _ _ _
 have HB:=Zd Q;have bb:=Zd ak;have ay:=Zd (hP.later Q);have HZ:=Zd hP.1;have HO:=Zd hH;have CF:=Zd (λy W (hb:ZD X W)=>T3 a b n c d N T y _ W hn (hN.later (Zf Q hb)) (hT.later (Zf Q hb)) rfl);have HX:Hid (Xw N T 0 (P.drop 0)=x):=hx;clear Q ak hN hT hP hH hx;go_enter func102,ntmps102;go_wp2_with fail;rw[<-hX];clear hX;go_wp2
 go_loopw [5,10] (λsv i wr=>∃ (k:Nat) (s:Int),k<=pn/\sv = E J s/\i = E J k/\Hid (Xw N T s (P.drop k)=x)/\Hid (0<=s/\s<=1000*k)/\Hid (ZD X wr)) (λ_ i _=>pn - (intOf i).toNat)
 case atStart=>exact⟨0,0,aM _,rfl,rfl,HX,(⟨by omega,by omega⟩:(0:Int)<=0/\(0:Int)<=1000*(0:Nat)),(Below.refl _ _:ZD X X)⟩
 case round=>
  obtain⟨k,s,hk,rfl,rfl,A,BD,z⟩:=hrel;clear HX;by_cases bg:k<pn
  ·have h1:k<P.length:=(by rw[Za HZ];exact bg);obtain⟨b1,bu,rfl,ap,an⟩:=ay.2 (by omega);have f1:=Ze z (an k h1);have AT:=Zd (Zjb N T s P k h1);obtain⟨y,hy⟩:=ZF (P[k]);rw[hy] at f1 AT;have ll:=aC ap z.size;have ac:=ZE z bb;have t0:=Zb ac 0 _ rfl;have t1:=Zb ac 1 _ rfl;have tl:=lt_of_block ac;have CC:=Zd (CF y _ z);have hq:=(Jo HO y N).2.2;have bf:=Za BD;obtain⟨v,hv⟩:=ZF ((fnd y N T).2.2.1);rw[hv] at hq AT;have HV:=Zd hv;have bt:IntKind.i64.wrap (s+v)=s+v:=(by rw[bI];omega);have R:Hid (Xw N T (s+v) (P.drop (k+1))=x):=by show _=_;rw[<-Za A,Za AT]
   have ar:Hid (0<=s+v/\s+v<=1000*((k+1:Nat):Int)):=by
    show _/\_;omega
   have bs:(k:Int)<(pn:Int):=(by omega);clear an hy A AT ac hq bf BD hv ap;go_wp2_with fail;refine CC.mono ?_;rintro e w5 ⟨ta,tn,tc,rfl,_,_,am⟩;unfold Jw;rw[Za HV];have hf:=(Sy (E J (fnd y N T).1) (E J (fnd y N T).2.1) (E J v) (E J (fnd y N T).2.2.2.1) (F ta tn tc) w5).2.2;have R2:=Zd (Zf z am);clear am CC;go_wp2;go_roundw
   case rel=>exact⟨k+1,s+v,by omega,rfl,by go_num,R,ar,R2⟩
   case measure=>simp[intOf];omega
  ·have R:Hid (s=x):=(by show _=_;rw[<-Za A,Zex N T s P k (by rw[Za HZ];omega)]);have aw:=Zd (Zf HB z);clear A BD;go_wp2;go_ret;exact⟨by rw[<-Za R];rfl,Za aw⟩
theorem Zho(a b)(n c d k:Nat)(w:World)(hk:k<=n)(z:SlOk a n c)(Q:SlOk b n d) :
  ZH 140 #[.agg #[F a n c,F b n d],E J k] w (.agg #[F a k c,F b k d]):=by
 have hc:=aT hk z.1;have hd:=aT hk Q.1;have hm:=z.2.1;have ac:=Q.2.1;unfold cH at hm ac;have ae:(k:Int)<=(c:Int):=by omega
 have ag:(k:Int)<=(d:Int):=by omega
 clear z Q;go_enter func140,ntmps140;go_wp2_with fail
 go_region
 all_goals
  go_wp2
 all_goals (try simp only[Exit.inBlock,Exit.then])
 all_goals
  refine aW (v:=.agg #[F a k c,F b k d]) ?_ rfl ⟨rfl,?_⟩
  ·rw[Ye rfl];go_simp
  ·exact Zf (Zf (Zh _ _) (Zh _ _)) (Zi _)
theorem Zaq(a b)(n c d:Nat)(N T)(s:Int)(p h k m:Int)(ta tn tc L)(x:Int)(w:World)(hn:n<=cH)(hN:IntsAt w a n N)(hT:BlksAt w b n T)(hL:TxsAt w ta tn L)(hH:Y9 T)(hx:nextD N T s (p,h,k,m,L)=x) :
  ZH 134 #[.agg #[F a n c,F b n d],E J s,.agg #[E J p,E J h,E J k,E J m,F ta tn tc]] w (E J x):=by
 obtain⟨X,hX⟩:=ZG ((w.alloc (cR #[F a n c,F b n d] 28)).alloc (cR #[E J p,E J h,E J k,E J m,F ta tn tc] 39));have ag:ZD w X:=by rw[hX];exact Zf (Zh _ _) (Zh _ _)
 have cg:X.heap[w.heap.size]? = some (cR [F a n c,F b n d].toArray 28 (0,0)):=by
  rw[hX,Below.heap_alloc _ _ _ (by simp)];exact Yu _ _ _ _
 have cj:X.heap[w.heap.size+1]? = some (cR [E J p,E J h,E J k,E J m,F ta tn tc].toArray 39 (0,0)):=by
  rw[hX];have:=Zx (w.alloc (cR #[F a n c,F b n d] 28)) (E J p) (E J h) (E J k) (E J m) (F ta tn tc) 39;rw[show (w.alloc (cR #[F a n c,F b n d] 28)).heap.size=w.heap.size+1 by simp] at this;exact this
 obtain⟨o1,bz⟩:∃ o,(decide (1<=s) && decide (s<=120))=o:=⟨_,rfl⟩;obtain⟨x2,cc⟩:∃ x,Ym (p,h,k,m,L)=x:=⟨_,rfl⟩;obtain⟨o3,ca⟩:∃ o,decide (s∈N)=o:=⟨_,rfl⟩;obtain⟨o4,cb⟩:∃ o,decide (p∈N)=o:=⟨_,rfl⟩;obtain⟨de,hz⟩:=ZF ((fnd p N T).2.1);have cw:=(Jo hH p N).1;have cx:=(Jo hH p N).2.1;rw[hz] at cw cx;have cz:IntKind.i64.wrap (de+1)=de+1:=by rw[bI];omega
 unfold nextD at hx;simp only at hx;rw[bz,cc,ca,cb,hz] at hx;have HB:=Zd ag;have ce:=Zd cg;have af:=Zd cj;have C1:=Zd (λW=>Ys s 1 120 o1 W bz.symm);have C2:=Zd (Wt p h k m ta tn tc L x2 X (hL.later ag) cc);have C3:=Zd (λW (hb:ZD X W)=>Kc a b n c n d N s o3 W hn (hN.later (Zf ag hb)) ca);have C4:=Zd (λW (hb:ZD X W)=>Kc a b n c n d N p o4 W hn (hN.later (Zf ag hb)) cb);have C5:=Zd (λW (hb:ZD X W)=>Pi a b n c d N T p de W hn (hN.later (Zf ag hb)) (hT.later (Zf ag hb)) hz);clear ag cg cj hN hT hL hH bz cc ca cb hz;have bf:=Zd hx;clear hx;go_enter func134,ntmps134;go_wp2_with fail;rw[<-hX];clear hX;refine (C1 _).mono ?_;rintro e w1 ⟨rfl,rfl⟩;cases o1 with
 | false=>
  have R:Hid (x=3):=by show _=_;rw[<-Za bf,if_pos rfl]
  clear bf;go_wp2;go_ret;exact⟨by rw[Za R];rfl,Za HB⟩
 | true=>
  have c0:=Zb af 0 _ rfl;have c1:=Zb af 1 _ rfl;have c2:=Zb af 2 _ rfl;have c3:=Zb af 3 _ rfl;have c4:=Zb af 4 _ rfl;have df:=lt_of_block af
  have bd:Hid ((if x2≠0 then x2 else if o3=true then 6 else if p≠0/\o4=false then 5 else if h≠de+1 then 4 else 0)=x):=by
   have q:=Za bf;rw[if_neg (by decide)] at q;exact q
  clear bf;go_wp2_with fail;refine C2.mono ?_;rintro e w2 ⟨rfl,bv⟩;have bj:=Zd bv;have h20:=ZE bv ce;clear bv c0 c1 c2 c3 c4 df;by_cases q2:x2=0
  ·subst q2
   have be:Hid ((if o3=true then 6 else if p≠0/\o4=false then 5 else if h≠de+1 then 4 else 0)=x):=by
    have q:=Za bd;rw[if_neg (by decide)] at q;exact q
   have c0:=Zb h20 0 _ rfl;have c1:=Zb h20 1 _ rfl;have df:=lt_of_block h20;clear bd h20;go_wp2_with fail;refine (C3 _ bj).mono ?_;rintro e w3 ⟨rfl,cl⟩;have ad:=Zd (Zf bj cl);have h30:=ZE ad ce;have h31:=ZE ad af;have HF:=Zd (Zf HB ad);clear cl c0 c1 df;cases o3 with
   | true=>
    have R:Hid (x=6):=(by show _=_;rw[<-Za be,if_pos rfl]);clear be h30 h31;go_wp2;go_ret;exact⟨by rw[Za R];rfl,Za HF⟩
   | false=>
    have ah:Hid ((if p≠0/\o4=false then 5 else if h≠de+1 then 4 else 0)=x):=by
     have q:=Za be;rw[if_neg (by decide)] at q;exact q
    have c0:=Zb h30 0 _ rfl;have c1:=Zb h30 1 _ rfl;have df:=lt_of_block h30;have d0:=Zb h31 0 _ rfl;have d1:=Zb h31 1 _ rfl;have dl:=lt_of_block h31;clear be h30 h31;by_cases q4:p=0
    ·subst q4
     have ab:Hid ((if h≠de+1 then (4:Int) else 0)=x):=by
      have q:=Za ah;rw[if_neg (by simp)] at q;exact q
     clear ah C4;by_cases q5:h=de+1
     ·have R:Hid (x=0):=(by show _=_;rw[<-Za ab,if_neg (by simp[q5])]);have g5:(h != de+1)=false:=(by simp[q5]);clear ab q5;go_wp2_with fail
      go_region_with (go_at_call 194;refine (C5 _ (Zf ad (Zi _))).mono ?_;rintro e w5 ⟨rfl,z⟩;have e0:=Ze z (Ze (Zi _) d0);have e1:=Ze z (Ze (Zi _) d1);have el:=aC dl z.size;have ae:=Zd (Zf HF (Zf (Zi _) z));clear z)
      all_goals
       go_wp2;go_ret;exact⟨by rw[Za R];rfl,Za ae⟩
     ·have R:Hid (x=4):=(by show _=_;rw[<-Za ab,if_pos q5]);have g5:(h != de+1)=true:=(by simp[q5]);clear ab q5;go_wp2_with fail
      go_region_with (go_at_call 194;refine (C5 _ (Zf ad (Zi _))).mono ?_;rintro e w5 ⟨rfl,z⟩;have e0:=Ze z (Ze (Zi _) d0);have e1:=Ze z (Ze (Zi _) d1);have el:=aC dl z.size;have ae:=Zd (Zf HF (Zf (Zi _) z));clear z)
      all_goals
       go_wp2;go_ret;exact⟨by rw[Za R];rfl,Za ae⟩
    ·have g4:(p != 0)=true:=(by simp[q4]);go_wp2_with fail;refine (C4 _ ad).mono ?_;rintro e w4 ⟨rfl,ac⟩;have bk:=Zd (Zf ad ac);have bo:=Zd (Zf HB bk);have k0:=Ze ac c0;have k1:=Ze ac c1;have kl:=aC df ac.size;have d0:=Ze ac d0;have d1:=Ze ac d1;have dl:=aC dl ac.size;clear ac c0 c1 df;cases o4 with
     | false=>
      have R:Hid (x=5):=(by show _=_;rw[<-Za ah,if_pos ⟨q4,rfl⟩]);clear ah q4;go_wp2;go_ret;exact⟨by rw[Za R];rfl,Za bo⟩
     | true=>
      have ab:Hid ((if h≠de+1 then (4:Int) else 0)=x):=by
       have q:=Za ah;rw[if_neg (by simp)] at q;exact q
      clear ah q4;by_cases q5:h=de+1
      ·have R:Hid (x=0):=(by show _=_;rw[<-Za ab,if_neg (by simp[q5])]);have g5:(h != de+1)=false:=(by simp[q5]);clear ab q5;go_wp2_with fail
       go_region_with (go_at_call 194;refine (C5 _ (Zf bk (Zi _))).mono ?_;rintro e w5 ⟨rfl,z⟩;have e0:=Ze z (Ze (Zi _) d0);have e1:=Ze z (Ze (Zi _) d1);have el:=aC dl z.size;have ae:=Zd (Zf bo (Zf (Zi _) z));clear z)
       all_goals
        go_wp2;go_ret;exact⟨by rw[Za R];rfl,Za ae⟩
      ·have R:Hid (x=4):=(by show _=_;rw[<-Za ab,if_pos q5]);have g5:(h != de+1)=true:=(by simp[q5]);clear ab q5;go_wp2_with fail
       go_region_with (go_at_call 194;refine (C5 _ (Zf bk (Zi _))).mono ?_;rintro e w5 ⟨rfl,z⟩;have e0:=Ze z (Ze (Zi _) d0);have e1:=Ze z (Ze (Zi _) d1);have el:=aC dl z.size;have ae:=Zd (Zf bo (Zf (Zi _) z));clear z)
       all_goals
        go_wp2;go_ret;exact⟨by rw[Za R];rfl,Za ae⟩
  ·have R:Hid (x=x2):=(by show _=_;rw[<-Za bd,if_pos q2]);have g2:(x2 != 0)=true:=(by simp[q2]);have HF:=Zd (Zf HB bj);clear bd q2 h20;go_wp2;go_ret;exact⟨by rw[Za R];rfl,Za HF⟩
theorem Jl{N T}{x:Int}{b:Zl}(h:nextD N T x b=0):Ym b=0:=by
 unfold nextD at h;split at h
 ·cases h
 ·split at h
  ·next q=>exact absurd h q
  ·next q=>exact Classical.not_not.1 q
theorem Ed{T:List Zl}{j:Nat}(Q:j<T.length)(h:Y9 (T.take j))(z:Ym T[j]=0):Y9 (T.take (j+1)):=by
 rw[List.take_succ_eq_append_getElem Q];intro b hm
 rcases List.mem_append.1 hm with q|q
 ·exact h b q
 ·rw[List.mem_singleton.1 q];exact chkB_head z
theorem Ve(a b n c m d N T)(x:Int)(w:World)(hN:IntsAt w a n N)(hT:BlksAt w b m T)(sN:SlOk a n c)(sT:SlOk b m d)(hx:chkTr N T=x) :
  ZH 69 #[.agg #[F a n c,F b m d]] w (E J x):=by
 subst hx;obtain⟨X,hX⟩:=ZG (w.alloc (cR #[F a n c,F b m d] 28));have af:ZD w X:=by rw[hX];exact Zh _ _
 have ae:X.heap[w.heap.size]? = some (cR [F a n c,F b m d].toArray 28 (0,0)):=by rw[hX];exact Yu _ _ _ _
 have HB:=Zd af;have cm:=Zd ae;have x0:=Zb ae 0 _ rfl;have x1:=Zb ae 1 _ rfl;have xl:=lt_of_block ae;have HN:=Zd (hN.later af);have HT:=Zd (hT.later af);have bg:=Zd hN.1;have cd:=Zd hT.1;have hm:=sN.2.1;have cl:=sT.2.1;have cp:=sN.1;unfold cH at hm cl;by_cases e:n=m
 ·subst e;by_cases h24:24<n
  ·have R:Hid (chkTr N T=2):=(by show _=_;unfold chkTr;rw[hN.1,hT.1,if_neg (by simp),if_pos h24]);have g0:((n:Int) != (n:Int))=false:=(by simp);have g1:(24:Int)<(n:Int):=(by omega);clear hN hT sN sT ae af;go_enter func69,ntmps69;go_wp2_with fail;rw[<-hX];clear hX;go_wp2;go_ret;exact⟨by rw[Za R];rfl,Za HB⟩
  ·have R:Hid (chkTr N T=Xc (N.take 0) (T.take 0) (N.drop 0) (T.drop 0)):=(by show _=_;unfold chkTr;rw[hN.1,hT.1,if_neg (by simp),if_neg h24];rfl);have g0:((n:Int) != (n:Int))=false:=(by simp);have g1:¬(24:Int)<(n:Int):=(by omega);have SN:=Zd sN;have ST:=Zd sT;clear hN hT sN sT ae af;go_enter func69,ntmps69;go_wp2_with fail;rw[<-hX];clear hX;go_wp2
   go_loopw [19] (λi wr=>∃ j:Nat,j<=n/\i = E J j/\Hid (chkTr N T=Xc (N.take j) (T.take j) (N.drop j) (T.drop j))/\Hid (Y9 (T.take j))/\Hid (ZD X wr)) (λi _=>n - (intOf i).toNat)
   case atStart=>exact⟨0,aM _,rfl,R,(λb hb=>(by simp at hb):Y9 (T.take 0)),(Below.refl _ _:ZD X X)⟩
   case round=>
    obtain⟨j,hj,rfl,A,HH,ab⟩:=hrel;clear R;by_cases bs:j<n
    ·have h1:j<N.length:=(by rw[Za bg];exact bs);have h2:j<T.length:=(by rw[Za cd];exact bs);obtain⟨b1,ag,rfl,bq,bj⟩:=HN.2 (by omega);obtain⟨Q,aa,rfl,br,bk⟩:=HT.2 (by omega);have f1:=Ze ab (bj j h1);have bo:=BlkAt.kept _ _ _ _ _ ab (bk j h2);have AT:=Zd (Zig N T j h1 h2);have HM:=Zd (Ed h2 HH);obtain⟨s,hs⟩:=ZF (N[j]);obtain⟨t,ht⟩:=ZF (T[j]);rw[hs] at f1 AT;rw[ht] at bo AT HM;obtain⟨p,h,k,o,L⟩:=t;obtain⟨aq,ar,g2,g3,ta,tn,tc,g4,hL,_⟩:=bo;simp only at aq ar g2 g3 hL;obtain⟨y,hy⟩:=ZF (nextD (N.take j) (T.take j) s (p,h,k,o,L));have w0:=Ze ab x0;have w1:=Ze ab x1;have wl:=aC xl ab.size;have cq:=aC bq ab.size;have ct:=aC br ab.size;have C1:=Zd (λW=>Zho (some ⟨b1,ag,none⟩) (some ⟨Q,aa,none⟩) n c d j W hj SN ST);have cg:j<=cH:=(by unfold cH;omega);have C2:=Zd (λW (hb:ZD wr W)=>Zaq (some ⟨b1,ag,none⟩) (some ⟨Q,aa,none⟩) j c d (N.take j) (T.take j) s p h k o ta tn tc L y W cg ((HN.later (Zf ab hb)).take j hj) (RowsAt.take (HT.later (Zf ab hb)) j hj) (hL.later hb) HH hy);rw[hy] at AT;have HY:Hid (y=0->Ym (p,h,k,o,L)=0):=λq=>Jl (hy.trans q);clear bj bk hL hs ht hy x0 x1 xl bq br;by_cases q:y=0
     ·subst q;have R:Hid (chkTr N T=Xc (N.take (j+1)) (T.take (j+1)) (N.drop (j+1)) (T.drop (j+1))):=(by show _=_;rw[Za A,Za AT,if_neg (by simp)]);have cc:=Zd (HM (HY rfl));clear A AT HM HY;go_wp2_with fail
      go_region_held3 (λW'=>ZD wr W'/\W'.cell? ⟨w.heap.size,0,none⟩=some (F (some ⟨b1,ag,none⟩) n c)/\W'.cell? ⟨w.heap.size,1,none⟩=some (F (some ⟨Q,aa,none⟩) n d)/\W'.cell? ⟨b1,ag+j,none⟩=some (E J s)/\W'.cell? ⟨Q,aa+j*5,none⟩=some (E J p)/\W'.cell? ⟨Q,aa+j*5+1,none⟩=some (E J h)/\W'.cell? ⟨Q,aa+j*5+2,none⟩=some (E J k)/\W'.cell? ⟨Q,aa+j*5+3,none⟩=some (E J o)/\W'.cell? ⟨Q,aa+j*5+4,none⟩=some (F ta tn tc))
       (first
       | exact⟨Zi _,w0,w1,f1,aq,ar,g2,g3,g4⟩
       | (go_split_ands;refine⟨Zf (by assumption) z,Ze z (by assumption),Ze z (by assumption),Ze z (by assumption),Ze z (by assumption),Ze z (by assumption),Ze z (by assumption),Ze z (by assumption),Ze z (by assumption)⟩))
       (first|(go_at_call 140;refine (C1 _).mono ?_;rintro e w' ⟨rfl,z⟩)|(go_at_call 134;go_split_ands;refine (C2 _ (by assumption)).mono ?_;rintro e w' ⟨rfl,z⟩))
      rename_i hq;have am:=Zd (Zf ab hq.1);clear hq;go_wp2;go_roundw
      case rel=>exact⟨j+1,by omega,by go_num,R,cc,am⟩
      case measure=>simp[intOf];omega
     ·have R:Hid (chkTr N T=y):=(by show _=_;rw[Za A,Za AT,if_pos q]);have gy:(y != 0)=true:=(by simp[q]);clear A AT HM HY q;go_wp2_with fail
      go_region_held3 (λW'=>ZD wr W'/\W'.cell? ⟨w.heap.size,0,none⟩=some (F (some ⟨b1,ag,none⟩) n c)/\W'.cell? ⟨w.heap.size,1,none⟩=some (F (some ⟨Q,aa,none⟩) n d)/\W'.cell? ⟨b1,ag+j,none⟩=some (E J s)/\W'.cell? ⟨Q,aa+j*5,none⟩=some (E J p)/\W'.cell? ⟨Q,aa+j*5+1,none⟩=some (E J h)/\W'.cell? ⟨Q,aa+j*5+2,none⟩=some (E J k)/\W'.cell? ⟨Q,aa+j*5+3,none⟩=some (E J o)/\W'.cell? ⟨Q,aa+j*5+4,none⟩=some (F ta tn tc))
       (first
       | exact⟨Zi _,w0,w1,f1,aq,ar,g2,g3,g4⟩
       | (go_split_ands;refine⟨Zf (by assumption) z,Ze z (by assumption),Ze z (by assumption),Ze z (by assumption),Ze z (by assumption),Ze z (by assumption),Ze z (by assumption),Ze z (by assumption),Ze z (by assumption)⟩))
       (first|(go_at_call 140;refine (C1 _).mono ?_;rintro e w' ⟨rfl,z⟩)|(go_at_call 134;go_split_ands;refine (C2 _ (by assumption)).mono ?_;rintro e w' ⟨rfl,z⟩))
      rename_i hq;have am:=Zd (Zf HB (Zf ab hq.1));clear hq;go_wp2;go_ret;exact⟨by rw[Za R];rfl,Za am⟩
    ·have R:Hid (chkTr N T=0):=(by show _=_;rw[Za A,Zem N T j (by rw[Za bg];omega)]);have cb:=Zd (Zf HB ab);clear A;go_wp2;go_ret;exact⟨by rw[Za R];rfl,Za cb⟩
 ·have R:Hid (chkTr N T=4):=by show _=_;unfold chkTr;rw[hN.1,hT.1,if_pos e]
  have g0:((n:Int) != (m:Int))=true:=by simp;omega
  clear hN hT sN sT ae af;go_enter func69,ntmps69;go_wp2_with fail;rw[<-hX];clear hX;go_wp2;go_ret;exact⟨by rw[Za R];rfl,Za HB⟩
