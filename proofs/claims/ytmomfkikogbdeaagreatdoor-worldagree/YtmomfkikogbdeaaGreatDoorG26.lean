import Derived.Test.YtmomfkikogbdeaaGreatDoorH
import Derived.Test.YtmomfkikogbdeaaGreatDoorG25
open Go.Proofs.Tryz
open Classical renaming not_not->cC
open Go renaming lt_of_block->aA,bodyPost_ret->bB,maxLen->cK
open Go.Ending renaming returned->dF
open Go.IntKind renaming wrap_i64->bR,i64->J
open Go.Obj renaming cells->dE
open Go.Value renaming int->bM,int->E,slice->F,tuple->dG
open Go.World renaming frozen?_of_block->aM
open Nat renaming le_trans->aN,le_of_eq->cO,zero_le->aI,le_refl->aF,lt_of_lt_of_le->aD
open Prod renaming fst->cZ
set_option maxHeartbeats 12800000
set_option maxRecDepth 10000
namespace Go.Proofs.YtmomfkikogbdeaaGreatDoor.Tr
open Go.RowKit
theorem Zlq{G B w0s:Nat}{w0 wr w5:World}{g cap n k:Nat}{K:List (List Value)}{T:List Zk}{x:Zk}{u0 u1 u2 u3 u4}(h:Cl blkR 39 B G w0 wr (F (some ⟨g,0,none⟩) n cap) n K T k)(hk:k<T.length)(ae:k<K.length)(hx:T[k]=x)(hb:ZD wr w5)(hf:Fresh w0s w5 (λw2=>blkR.C w2 [u0,u1,u2,u3,u4] x))(hG:G<=w0s) :
  Cl blkR 39 B G w0 (((((w5.setCell ⟨g,k*5,none⟩ u0).setCell ⟨g,k*5+1,none⟩ u1).setCell ⟨g,k*5+2,none⟩ u2).setCell ⟨g,k*5+3,none⟩ u3).setCell ⟨g,k*5+4,none⟩ u4) (F (some ⟨g,0,none⟩) n cap) n (K.set k [u0,u1,u2,u3,u4]) T (k+1):=by
 have h5:=h.keep hb;refine h5.step hk ?_ ((((((Gr.refl w5 (λq=>q=g)).one g (k*5) (.inl rfl) _).one g (k*5+1) (.inl rfl) _).one g (k*5+2) (.inl rfl) _).one g (k*5+3) (.inl rfl) _).one g (k*5+4) (.inl rfl) _) ?_
 ·rw[hx];exact hf.less hG
 ·have h1:=(((((h5.own.stored (k*5) u0).1.stored (k*5+1) u1).1.stored (k*5+2) u2).1.stored (k*5+3) u3).1.stored (k*5+4) u4).1;rw[put5 h5.wid k ae] at h1;exact h1
def Zen(w:World)(N:List Int)(T:List Zk)(n:Nat)(v1 v2:Value)(wx:World):Prop:=
 ∃ K,AllC blkR w K T/\wx.ownsRow (w.heap.size+2) 3 1 v1 n (N.map (bM .i64))/\wx.ownsRow (w.heap.size+2) 39 5 v2 n K.flatten /\
  wx.heap[w.heap.size]? = some (dE [v1,v2].toArray 28 (0,0))/\wx.heap[w.heap.size+1]? = some (dE [F none 0 0,F none 0 0].toArray 28 (0,0))/\ZD w wx
theorem Lq{w W wx:World}{N:List Int}{T}{n:Nat}{v1 v2}{K:List (List Value)}(h1:AllC blkR w K T)(o1:W.ownsRow (w.heap.size+2) 3 1 v1 n (N.map (bM .i64)))(o2:W.ownsRow (w.heap.size+2) 39 5 v2 n K.flatten)(hb:ZD w W)
  (hz:W.heap[w.heap.size+1]? = some (dE [F none 0 0,F none 0 0].toArray 28 (0,0))) (hg:Gr W wx (λq=>q=w.heap.size)) (hx:wx.heap[w.heap.size]? = some (dE [v1,v2].toArray 28 (0,0))):Zen w N T n v1 v2 wx:=
 ⟨K,h1,hg.own o1 (λk hk=>by have:=(o1.lt k hk).1;omega),hg.own o2 (λk hk=>by have:=(o2.lt k hk).1;omega),hx,hg.heap hz (by omega),hg.below hb (by have:=aA hz;omega) (λk hk=>by omega)⟩
def BlkSmall(b:Zk):Prop:=b.2.2.2.2.length<=2513169434916/\∀ t∈b.2.2.2.2,TxSmall t
def TreeOwn(B:Nat)(w:World)(v1 v2:Value)(n:Nat)(N:List Int)(T:List Zk):Prop:=
 ∃ K G,w.ownsRow B 3 1 v1 n (N.map (bM .i64))/\w.ownsRow B 39 5 v2 n K.flatten/\(∀ q,v1.ownBlock=some q->q<G)/\(∀ q,v2.ownBlock=some q->q<G)/\B<=G/\T.length=n/\Fresh G w (λw2=>AllC blkR w2 K T)
theorem TreeOwn.gr{B:Nat}{w w' v1 v2}{n:Nat}{N T}(h:TreeOwn B w v1 v2 n N T)(g:Gr w w' (λq=>q<B)):TreeOwn B w' v1 v2 n N T:=by
 obtain⟨K,G,h1,h2,h3,h4,h5,h6,h7⟩:=h;exact⟨K,G,g.own h1 (λq hq=>by have:=(h1.lt q hq).1;omega),g.own h2 (λq hq=>by have:=(h2.lt q hq).1;omega),h3,h4,h5,h6,h7.on (g.mono λq _ hq=>by omega)⟩
theorem TreeOwn.less{B B':Nat}{w v1 v2}{n:Nat}{N T}(h:TreeOwn B' w v1 v2 n N T)(hb:B<=B'):TreeOwn B w v1 v2 n N T:=by
 obtain⟨K,G,h1,h2,h3,h4,h5,h6,h7⟩:=h;exact⟨K,G,Yo h1 hb,Yo h2 hb,h3,h4,by omega,h6,h7⟩
theorem TreeOwn.read{B:Nat}{w v1 v2}{n:Nat}{N T}(h:TreeOwn B w v1 v2 n N T):∃ a1 c1 a2 c2,v1 = F a1 n c1/\v2 = F a2 n c2/\IntsAt w a1 n N/\SlOk a1 n c1/\BlksAt w a2 n T/\SlOk a2 n c2:=by
 obtain⟨K,G,h1,h2,h3,h4,h5,h6,h7⟩:=h;obtain⟨a1,c1,rfl,s1,i1⟩:=ints_of_own h1;obtain⟨a2,c2,rfl,r2,s2⟩:=rows_of_own blkR h2 h7.now h6;exact⟨a1,c1,a2,c2,rfl,rfl,i1,s1,r2,s2⟩
theorem clTree_is(a b n c d N T)(w:World)(hN:IntsAt w a n N)(hT:BlksAt w b n T)(sN:SlOk a n c)(sT:SlOk b n d)(hn:n<=4096)(hs:∀ t∈T,BlkSmall t) :
  Calls Tryz.prog 135 #[.agg #[F a n c,F b n d]] w λe w'=>∃ v1 v2,e = dF (.agg #[v1,v2])/\TreeOwn (w.heap.size+2) w' v1 v2 n N T/\ZD w w':=by
 obtain⟨X,hX⟩:=ZG ((w.alloc (dE #[F a n c,F b n d] 28)).alloc (dE #[F none 0 0,F none 0 0] 28));have cb:ZD w X:=by rw[hX];exact Zf (Zh _ _) (Zh _ _)
 have ca:X.heap[w.heap.size]? = some (dE [F a n c,F b n d].toArray 28 (0,0)):=by
  rw[hX,Below.heap_alloc _ _ _ (by simp)];exact Yu _ _ _ _
 have dj:X.heap.size=w.heap.size+2:=by rw[hX];simp
 have ax:X.heap[w.heap.size+1]? = some (dE [F none 0 0,F none 0 0].toArray 28 (0,0)):=by
  rw[hX];have:=Yu (w.alloc (dE #[F a n c,F b n d] 28)) (F none 0 0) (F none 0 0) 28;rw[show (w.alloc (dE #[F a n c,F b n d] 28)).heap.size=w.heap.size+1 by simp] at this;exact this
 obtain⟨cx,bx,db,dc,dv,et,bz,C1⟩:=kh8 cb ca ax dj hs hN.1 hT.1 (cloneInt_any a n c N X.drew hn (hN.later (Zf cb (Zi X))) sN);have C2:=Zd (λW (hb:ZD w W)=>F7 b n d T w W (aN hn (by decide)) hT hb sT);obtain⟨x0,x1,xl⟩:=kc2 ca;clear cb ca ax hN hT sN sT hs dj;go_enter func135,ntmps135
 go_upto_region 1 with fail
 rw[<-hX];clear hX
 go_cut [7,10] from 5 to 12 (λs7 el wx=>Hid (Zen w N T n s7 el wx))
 case first=>
  go_region_with (first
   | (go_at_call 47;refine C1.mono ?_;rintro e w3 ⟨v1,rfl,aj,be⟩;have h30:=ZE be bx;have d0:=Zb h30 0 _ rfl;have d1:=Zb h30 1 _ rfl;have dl:=aA h30;have cz:Hid (w3.ownsRow (w.heap.size+2) 3 1 v1 n (N.map (bM .i64))):=Yo aj (cO dc.symm);have ct:=Zd (Zf (Zf cx (Zi _)) be);have cu:=Zd (Zf (Zi X) be);clear aj be h30)
   | (go_at_call 196;refine (C2 _ ct).mono ?_;rintro e w4 ⟨v2,K2,rfl,hA2,aq,bf⟩;have cc:=Zf cu bf;have h40:=ZE cc bx;have h41:=ZE cc db;have e0:=Zb h40 0 _ rfl;have e1:=Zb h40 1 _ rfl;have z0:=Zg h40 0;have z1:=Zg h40 1;have ga:=aA h40;have cn:=Zd hA2;have bv:Hid (w4.ownsRow (w.heap.size+2) 39 5 v2 n K2.flatten):=Yo aq (by have:=cu.size;have:=Za dc;omega);have da:=Zd ((Gr.of (S:=λ_=>False) bf).own cz (λ_ _ q=>q));have cw:=Zd (Zf ct bf);have cl:=Zd h40;have cm:=Zd h41;obtain⟨a2,c2,rfl,_,_⟩:=Zz bv;obtain⟨a1,c1,rfl,_,_⟩:=Zz cz;clear hA2 aq bf cc h40 h41))
  all_goals
   go_wp2_with fail;go_meet
   case rel=>
    first
    | exact Lq (W:=w4) cn da bv cw cm (((Gr.refl w4 (λq=>q=w.heap.size)).one w.heap.size 0 (.inl rfl) _).one w.heap.size 1 (.inl rfl) _) (set_cells (set_cells cl 0 _) 1 _)
    | exact Lq (W:=w4) cn da bv cw cm (((Gr.refl w4 (λq=>q=w.heap.size)).one w.heap.size 1 (.inl rfl) _).one w.heap.size 0 (.inl rfl) _) (set_cells (set_cells cl 1 _) 0 _)
 case rest=>
  obtain⟨K1,hA1,aj,aq,h0,h1,hb⟩:=Za hcut;obtain⟨a1,c1,rfl,_,_⟩:=Zz aj;obtain⟨a2,c2,rfl,_,_⟩:=Zz aq;obtain⟨G,hG⟩:=ZF (wc.heap.size);have eh:w.heap.size+2<=G:=by rw[<-hG];exact aA h1
  have de:Hid (wc.ownsRow (w.heap.size+2) 3 1 (F a1 n c1) n (N.map (bM .i64))):=aj;have ds:Hid (∀ q,(Value.slice a1 n c1).ownBlock=some q->q<G):=λq hq=>by have:=(aj.lt q hq).2;omega
  have df:Hid (Cl blkR 39 (w.heap.size+2) G w wc (F a2 n c2) n K1 T 0):=Cl.start aq hA1 bz (cO hG);obtain⟨H0,H1,HB⟩:=kh3 h0 h1 hb;have cy:Hid (G<=wc.heap.size):=cO hG.symm;obtain⟨-,dy,dz⟩:=kc2 h0;clear hcut hA1 aj aq h0 h1 hb C1 C2 bx db cx x0 x1 xl hG;go_wp2
  go_loopw [16] (λi wr=>∃ (k:Nat) (K:List (List Value)),k<=n/\i = E J k/\Hid (wr.ownsRow (w.heap.size+2) 3 1 (F a1 n c1) n (N.map (bM .i64)))/\Hid (Cl blkR 39 (w.heap.size+2) G w wr (F a2 n c2) n K T k)/\Hid (wr.heap[w.heap.size]? = some (dE [F a1 n c1,F a2 n c2].toArray 28 (0,0)))/\Hid (wr.heap[w.heap.size+1]? = some (dE [F none 0 0,F none 0 0].toArray 28 (0,0)))/\Hid (ZD w wr)/\Hid (G<=wr.heap.size)) (λi _=>n - (intOf i).toNat)
  case atStart=>exact⟨0,K1,aI _,rfl,de,df,H0,H1,HB,cy⟩
  case round=>
   obtain⟨k,K,hk,rfl,az,aa,ak,cq,bu,dt⟩:=hrel;clear de df H0 H1 HB cy dy dz;by_cases ei:k<n
   ·have bh:k<T.length:=(by rw[Za bz];exact ei);have ah:k<K.length:=(by rw[(Za aa).len];exact bh);obtain⟨g,cap,ev,fe,ff,ap⟩:=aa.form (by omega);cases ev;obtain⟨ta,tn,tc,eK,hI,sI⟩:=aa.old k bh ah (aF _);have bi:=dv _ (List.getElem_mem bh);obtain⟨x,hx⟩:=ZF (T[k]);rw[hx] at eK hI bi;obtain⟨x0,x1,x2,x3,x4⟩:=x;simp only at eK hI;have r0:=aa.cell k ah 0 (by decide);have r1:=aa.cell k ah 1 (by decide);have r2:=aa.cell k ah 2 (by decide);have r3:=aa.cell k ah 3 (by decide);have r4:=aa.cell k ah 4 (by decide);rw[eK] at r0 r1 r2 r3 r4;have r0:wr.cell? ⟨g,k*5,none⟩=some (E J x0):=r0;have r1:wr.cell? ⟨g,k*5+1,none⟩=some (E J x1):=r1;have r2:wr.cell? ⟨g,k*5+2,none⟩=some (E J x2):=r2;have r3:wr.cell? ⟨g,k*5+3,none⟩=some (E J x3):=r3;have r4:wr.cell? ⟨g,k*5+4,none⟩=some (F ta tn tc):=r4;obtain⟨X1,ax,an,di⟩:=ka00 wr [E J x0,E J x1,E J x2,E J x3,F ta tn tc] 39;obtain⟨b0,b1,b2,b3,b4,bl⟩:=kc5 di;have t1:=Ze an (Zb ak 1 _ rfl);have tl:=aD (aA ak) an.size;have dr:=Zd an;have dk:=Zf (Zf bu an) (Zi _);have CO:=Zd (clBlock_is x0 x1 x2 x3 ta tn tc x4 X1.drew (hI.later dk) sI (by rw[<-hI.1];exact bi.1) bi.2)
    have NX:Hid (∀ w5 u0 u1 u2 u3 u4,ZD wr w5->Fresh X1.drew.heap.size w5 (λw2=>blkR.C w2 [u0,u1,u2,u3,u4] (x0,x1,x2,x3,x4)) ->
      Hid ((((((w5.setCell ⟨g,k*5,none⟩ u0).setCell ⟨g,k*5+1,none⟩ u1).setCell ⟨g,k*5+2,none⟩ u2).setCell ⟨g,k*5+3,none⟩ u3).setCell ⟨g,k*5+4,none⟩ u4).ownsRow (w.heap.size+2) 3 1 (F a1 n c1) n (N.map (bM .i64)))/\Hid (Cl blkR 39 (w.heap.size+2) G w (((((w5.setCell ⟨g,k*5,none⟩ u0).setCell ⟨g,k*5+1,none⟩ u1).setCell ⟨g,k*5+2,none⟩ u2).setCell ⟨g,k*5+3,none⟩ u3).setCell ⟨g,k*5+4,none⟩ u4) (F (some ⟨g,0,none⟩) n c2) n (K.set k [u0,u1,u2,u3,u4]) T (k+1))/\Hid ((((((w5.setCell ⟨g,k*5,none⟩ u0).setCell ⟨g,k*5+1,none⟩ u1).setCell ⟨g,k*5+2,none⟩ u2).setCell ⟨g,k*5+3,none⟩ u3).setCell ⟨g,k*5+4,none⟩ u4).heap[w.heap.size]? = some (dE [F a1 n c1,F (some ⟨g,0,none⟩) n c2].toArray 28 (0,0)))/\Hid ((((((w5.setCell ⟨g,k*5,none⟩ u0).setCell ⟨g,k*5+1,none⟩ u1).setCell ⟨g,k*5+2,none⟩ u2).setCell ⟨g,k*5+3,none⟩ u3).setCell ⟨g,k*5+4,none⟩ u4).heap[w.heap.size+1]? = some (dE [F none 0 0,F none 0 0].toArray 28 (0,0)))/\Hid (ZD w (((((w5.setCell ⟨g,k*5,none⟩ u0).setCell ⟨g,k*5+1,none⟩ u1).setCell ⟨g,k*5+2,none⟩ u2).setCell ⟨g,k*5+3,none⟩ u3).setCell ⟨g,k*5+4,none⟩ u4))/\Hid (G<=(((((w5.setCell ⟨g,k*5,none⟩ u0).setCell ⟨g,k*5+1,none⟩ u1).setCell ⟨g,k*5+2,none⟩ u2).setCell ⟨g,k*5+3,none⟩ u3).setCell ⟨g,k*5+4,none⟩ u4).heap.size)):=by
     intro w5 u0 u1 u2 u3 u4 ad bg;have dh:=Za dt;have ay:=(((((Gr.refl w5 (λq=>q=g)).one g (k*5) (.inl rfl) u0).one g (k*5+1) (.inl rfl) u1).one g (k*5+2) (.inl rfl) u2).one g (k*5+3) (.inl rfl) u3).one g (k*5+4) (.inl rfl) u4;have ej:=ad.size;refine⟨?_,Zlq aa bh ah hx ad bg (aN dh an.size),?_,?_,?_,?_⟩
     ·exact ay.own ((Gr.of (S:=λ_=>False) ad).own az (λ_ _ q=>q)) (λq hq e=>own_apart aa.own az (by decide) q (by rw[e];rfl) hq)
     ·exact ay.heap (ZE ad ak) (by omega)
     ·exact ay.heap (ZE ad cq) (by omega)
     ·exact ay.below (Zf bu ad) (by have:=aA ak;omega) (λq e=>by omega)
     ·exact aN dh (aN ej ay.size)
    have FR:=Zd (λj=>aa.free j);have fh:(k:Int)<(n:Int):=(by omega);clear hI sI bi hx eK an di dk;go_wp2_with fail;rw[<-ax];clear ax
    go_region_with (go_at_call 71;refine CO.mono ?_;rintro e w5 ⟨a5,c5,rfl,bg,ad⟩;have ab:=Zf (Zf dr (Zi _)) ad;have HN:=Zd (NX w5 _ _ _ _ _ ab bg);have q1:=Ze ad (Ze (Zi _) t1);have s0:=Ze ab r0;have s1:=Ze ab r1;have s2:=Ze ab r2;have s3:=Ze ab r3;have s4:=Ze ab r4;have q3:w5.frozen? ⟨g,k*5,none⟩=false:=(aM (a:=⟨g,k*5,none⟩) (ab.block g ap)).trans (FR _);have fk:w5.frozen? ⟨g,k*5+1,none⟩=false:=(aM (a:=⟨g,k*5+1,none⟩) (ab.block g ap)).trans (FR _);have fl:w5.frozen? ⟨g,k*5+2,none⟩=false:=(aM (a:=⟨g,k*5+2,none⟩) (ab.block g ap)).trans (FR _);have fm:w5.frozen? ⟨g,k*5+3,none⟩=false:=(aM (a:=⟨g,k*5+3,none⟩) (ab.block g ap)).trans (FR _);have fo:w5.frozen? ⟨g,k*5+4,none⟩=false:=(aM (a:=⟨g,k*5+4,none⟩) (ab.block g ap)).trans (FR _);have q4:=aD ap ab.size;have q5:=aD (aA ak) ab.size;clear bg ad ab)
    all_goals
     go_wp2;go_roundw
     case rel=>
      obtain⟨f1,f2,f3,f4,f5,f6⟩:=Za HN;exact⟨k+1,_,by omega,by go_num,f1,f2,f3,f4,f5,f6⟩
     case measure=>simp[intOf];omega
   ·have e:k=n:=(by omega);subst e;obtain⟨s0,s1,sl⟩:=kc2 ak;obtain⟨y0,y1,z0,z1,yl⟩:=kf2 cq
    have R:Hid (TreeOwn (w.heap.size+2) wr (F a1 k c1) (F a2 k c2) k N T):=
     ⟨K,G,Za az,aa.own,Za ds,aa.gt,eh,Za bz,aa.done⟩
    clear aa az;go_wp2;(try simp only[Exit.inBlock,Exit.then]);have hG:=((Gr.refl wr (λq=>q=w.heap.size+1)).one (w.heap.size+1) 0 (.inl rfl) (F a1 k c1)).one (w.heap.size+1) 1 (.inl rfl) (F a2 k c2);refine bB (v:=.agg #[F a1 k c1,F a2 k c2]) ?_ rfl ⟨_,_,rfl,R.gr (hG.mono λq _ e=>by omega),?_⟩
    ·rw[Yf rfl];go_simp
    ·exact hG.below bu (by omega) (λq e=>by omega)
structure Up(B g H:Nat)(N:List Int)(T:List Zk)(s:Int)(wr:World)(k:Nat)(y:Int):Prop where
 ex:∃ xs:List Value,wr.ownsRow B 3 1 (F (some ⟨g,0,none⟩) H H) H xs/\(upD N T H s).map (bM .i64)=(upD N T (H - k) y).map (bM .i64)++xs.drop (H - k)
theorem Up.old{B g H:Nat}{N T}{s:Int}{wr:World}{k:Nat}{y:Int}(h:Up B g H N T s wr k y){r:Nat}(hr:r<H):(∃ v,wr.cell? ⟨g,r,none⟩=some v)/\wr.frozen? ⟨g,r,none⟩=false/\B<=g/\g<wr.heap.size:=by
 obtain⟨xs,ho,_⟩:=h.ex;have hl:xs.length=H:=by simpa using ho.1
 exact⟨⟨xs[r]'(by omega),by rw[ho.cellAt r (by omega)];simp[hl,hr]⟩,ho.frozenAt r,(ho.lt g rfl).1,(ho.lt g rfl).2⟩
theorem Up.step{B g H:Nat}{N T}{s:Int}{wr:World}{k:Nat}{y:Int}(h:Up B g H N T s wr k y)(hk:k<H){r:Nat}(hr:r=H - 1 - k):Up B g H N T s (wr.setCell ⟨g,r,none⟩ (E J y)) (k+1) (fnd y N T).1:=by
 obtain⟨xs,ho,hx⟩:=h.ex;have hl:xs.length=H:=by simpa using ho.1
 refine⟨xs.set r (E J y),(ho.stored r _).1,?_⟩;rw[hx,show H - k=(H - (k+1))+1 by omega,upD,List.map_append,List.append_assoc]
 congr 1
 have e:r=H - (k+1):=by omega
 rw[<-e];rw[List.drop_eq_getElem_cons (l:=xs.set r (E J y)) (i:=r) (by rw[List.length_set];omega),List.drop_set_of_lt (by omega)];simp
theorem Up.keep{B g H:Nat}{N T}{s:Int}{wr w':World}{k:Nat}{y:Int}(h:Up B g H N T s wr k y)(hb:ZD wr w'):Up B g H N T s w' k y:=by
 obtain⟨xs,ho,hx⟩:=h.ex;exact⟨xs,(Gr.of (S:=λ_=>False) hb).own ho (λ_ _ q=>q),hx⟩
theorem Zfr(a b)(n c d:Nat)(N T)(s:Int)(w:World)(hn:n<=cK)(hN:IntsAt w a n N)(hT:BlksAt w b n T)(hH:Xb T) :
  Calls Tryz.prog 131 #[.agg #[F a n c,F b n d],E J s] w λe w'=>∃ v,e = dF v/\w'.ownsRow w.heap.size 3 1 v (Vv N T s).length ((Vv N T s).map (bM .i64))/\ZD w w':=by
 obtain⟨i0,hi,cb,cc,cd⟩:=info_parts Tryz.infoInt;obtain⟨X,hX,ad,aj⟩:=ka00 w [F a n c,F b n d] 28;obtain⟨H,hh⟩:∃ H:Nat,(fnd s N T).2.1=(H:Int):=⟨_,(Int.toNat_of_nonneg (Ti hH s N).1).symm⟩;have cn:H<=1000:=by have:=(Ti hH s N).2.1;omega
 have HP:Hid (Vv N T s=upD N T H s):=by show _=_;unfold Vv;rw[hh];rfl
 obtain⟨C,HB,br,HN,HT⟩:=kh5 (Gf a b n c d N T s H X hn (hN.later ad) (hT.later ad) hh) ad aj hN hT;have CF:=Zd (λy W (hb:ZD w W)=>Ha a b n c d N T y _ W hn (hN.later hb) (hT.later hb) rfl);have bv:w.heap.size+1<=X.heap.size:=aA aj;clear ad aj hN hT hH hh;go_enter func131,ntmps131;go_wp2_with fail;rw[<-hX];clear hX;refine C.mono ?_;rintro e w1 ⟨rfl,ab⟩;have bh:w.heap.size+1<=w1.heap.size:=aN bv ab.size;obtain⟨aw,C1⟩:=kh2 (Zf HB ab) (ZE ab br);clear ab
 go_wp2_with (at_make;refine wpList_make_full _ rfl _ _ 25 rfl (w.heap.size+1) 3 i0 (E J 0) 1 underlying25 hi cb cc .i64 .i64 _ _ H rfl rfl rfl rfl (by rw[cd];omega) (by unfold cK;omega) bh ?_;intro w3 ap be)
 have ak:ZD w1 w3:=(Below.refl _ _).grown be (aF _) (λk h=>by cases h)
 have HU:Hid (Up (w.heap.size+1) w1.heap.size H N T s w3 0 s):=⟨_,ap,by
  rw[Nat.sub_zero,List.drop_of_length_le (by rw[ap.1];omega),List.append_nil]⟩
 obtain⟨C3,au⟩:=kh2 (ZE ak C1) (Zf aw ak);obtain⟨g,hg⟩:=ZF (w1.heap.size);rw[hg] at HU ⊢;clear ak ap be C1 aw hg bh
 go_loopw [1,14] (λnm i wr=>∃ (k:Nat) (y:Int),k<=H/\nm = E J y/\i = E J k/\Hid (Up (w.heap.size+1) g H N T s wr k y)/\Hid (ZD w wr)/\Hid (wr.heap[w.heap.size]? = some (dE [F a n c,F b n d].toArray 28 (0,0)))) (λ_ i _=>H - (intOf i).toNat)
 case atStart=>exact⟨0,s,aI _,rfl,rfl,HU,au,C3⟩
 case round=>
  obtain⟨k,y,hk,rfl,rfl,aa,ax,bo⟩:=hrel;clear HU au C3;by_cases bx:k<H
  ·obtain⟨r,hr⟩:=ZG (H - 1 - k);have ca:r<H:=(by omega);obtain⟨⟨v0,cz⟩,cq,ct,cu⟩:=aa.old ca;have da:IntKind.i64.wrap ((H:Int) - 1)=(H:Int) - 1:=(by rw[bR];omega);have db:IntKind.i64.wrap ((H:Int) - 1 - (k:Int))=(r:Int):=(by rw[bR];omega);have cy:(r:Int)<(H:Int):=(by omega);have ST:=Zd (aa.step bx hr);have hG:Gr wr (wr.setCell ⟨g,r,none⟩ (E J y)) (λq=>q=g):=(Gr.refl wr (λq=>q=g)).one g r (.inl rfl) _;have av:=Zd (hG.below ax (by omega) (λq hq=>by omega));have am:=hG.heap bo (by omega);obtain⟨bk,CC⟩:=kh2 am (CF y _ av);obtain⟨t0,t1,tl⟩:=kc2 am;have cx:(k:Int)<(H:Int):=(by omega);clear hG hr am;go_wp2_with fail;refine CC.mono ?_;rintro e w5 ⟨ta,tn,tc,rfl,_,_,ac⟩;unfold Rn;have hf:=(Pp (E J (fnd y N T).1) (E J (fnd y N T).2.1) (E J (fnd y N T).2.2.1) (E J (fnd y N T).2.2.2.1) (F ta tn tc) w5).1;obtain⟨R1,R2,R3⟩:=kh3 (ST.keep ac) (Zf av ac) (ZE ac bk);clear ac CC ST;go_wp2;go_roundw
   case rel=>exact⟨k+1,_,by omega,rfl,by go_num,R1,R2,R3⟩
   case measure=>simp[intOf];omega
  ·have e:k=H:=(by omega);subst e
   have R:Hid (wr.ownsRow w.heap.size 3 1 (F (some ⟨g,0,none⟩) k k) (Vv N T s).length ((Vv N T s).map (bM .i64))):=by
    show World.ownsRow _ _ _ _ _ _ _;rw[Za HP];obtain⟨xs,ho,hx⟩:=aa.ex;rw[Nat.sub_self,List.drop_zero,upD,List.map_nil,List.nil_append] at hx;rw[hx,Dt];exact Yo ho (by omega)
   clear aa;go_wp2;go_ret;exact⟨_,rfl,Za R,Za ax⟩
theorem Hi{N T}(hH:Xb T):∀ (P:List Int) (s:Int),s<=W4 N T s P/\W4 N T s P<=s+1000*P.length
 | [],s=>by simp[W4]
 | x :: P,s=>by
  have h1:=(Ti hH x N).2.2;have h2:=Hi hH P (s+(fnd x N T).2.2.1) (N:=N);simp only[W4,List.length_cons];omega
theorem M7(a b pa)(n c d pn pc:Nat)(N T P)(x:Int)(w:World)(hn:n<=cK)(hN:IntsAt w a n N)(hT:BlksAt w b n T)(hP:IntsAt w pa pn P)(hp:pn<=1000)(hH:Xb T)(hx:W4 N T 0 P=x) :
  ZH 102 #[.agg #[F a n c,F b n d],F pa pn pc] w (E J x):=by
 obtain⟨X,hX,ab,am⟩:=ka00 w [F a n c,F b n d] 28;obtain⟨HB,bf,bd,HZ,HO⟩:=kh5 ab am (hP.later ab) hP.1 hH;have CF:=Zd (λy W (hb:ZD X W)=>Ha a b n c d N T y _ W hn (hN.later (Zf ab hb)) (hT.later (Zf ab hb)) rfl);have HX:Hid (W4 N T 0 (P.drop 0)=x):=hx;clear ab am hN hT hP hH hx;go_enter func102,ntmps102;go_wp2_with fail;rw[<-hX];clear hX;go_wp2
 go_loopw [5,10] (λsv i wr=>∃ (k:Nat) (s:Int),k<=pn/\sv = E J s/\i = E J k/\Hid (W4 N T s (P.drop k)=x)/\Hid (0<=s/\s<=1000*k)/\Hid (ZD X wr)) (λ_ i _=>pn - (intOf i).toNat)
 case atStart=>exact⟨0,0,aI _,rfl,rfl,HX,(⟨by omega,by omega⟩:(0:Int)<=0/\(0:Int)<=1000*(0:Nat)),(Below.refl _ _:ZD X X)⟩
 case round=>
  obtain⟨k,s,hk,rfl,rfl,A,BD,aa⟩:=hrel;clear HX;by_cases bj:k<pn
  ·have h1:k<P.length:=(by rw[Za HZ];exact bj);obtain⟨b1,bz,rfl,au,aq⟩:=bd.2 (by omega);have f1:=Ze aa (aq k h1);have AT:=Zd (Zmf N T s P k h1);obtain⟨y,hy⟩:=ZF (P[k]);rw[hy] at f1 AT;have ll:=aD au aa.size;have ar:=ZE aa bf;obtain⟨t0,t1,tl⟩:=kc2 ar;have CC:=Zd (CF y _ aa);have hq:=(Ti HO y N).2.2;have bi:=Za BD;obtain⟨v,hv⟩:=ZF ((fnd y N T).2.2.1);rw[hv] at hq AT;have HV:=Zd hv;have bx:IntKind.i64.wrap (s+v)=s+v:=(by rw[bR];omega);have R:Hid (W4 N T (s+v) (P.drop (k+1))=x):=by show _=_;rw[<-Za A,Za AT]
   have aw:Hid (0<=s+v/\s+v<=1000*((k+1:Nat):Int)):=by
    show _/\_;omega
   have bv:(k:Int)<(pn:Int):=(by omega);clear aq hy A AT ar hq bi BD hv au;go_wp2_with fail;refine CC.mono ?_;rintro e w5 ⟨ta,tn,tc,rfl,_,_,ap⟩;unfold Rn;rw[Za HV];have hf:=(Pp (E J (fnd y N T).1) (E J (fnd y N T).2.1) (E J v) (E J (fnd y N T).2.2.2.1) (F ta tn tc) w5).2.2;have R2:=Zd (Zf aa ap);clear ap CC;go_wp2;go_roundw
   case rel=>exact⟨k+1,s+v,by omega,rfl,by go_num,R,aw,R2⟩
   case measure=>simp[intOf];omega
  ·have R:Hid (s=x):=(by show _=_;rw[<-Za A,Zia N T s P k (by rw[Za HZ];omega)]);have az:=Zd (Zf HB aa);clear A BD;go_wp2;go_ret;exact⟨by rw[<-Za R];rfl,Za az⟩
theorem Zkw(a b)(n c d k:Nat)(w:World)(hk:k<=n)(ha:SlOk a n c)(hb:SlOk b n d) :
  ZH 140 #[.agg #[F a n c,F b n d],E J k] w (.agg #[F a k c,F b k d]):=by
 have hc:=aN hk ha.1;have hd:=aN hk hb.1;have hm:=ha.2.1;have ae:=hb.2.1;unfold cK at hm ae;have ag:(k:Int)<=(c:Int):=by omega
 have aj:(k:Int)<=(d:Int):=by omega
 clear ha hb;go_enter func140,ntmps140;go_wp2_with fail
 go_region
 all_goals
  go_wp2
 all_goals (try simp only[Exit.inBlock,Exit.then])
 all_goals
  refine bB (v:=.agg #[F a k c,F b k d]) ?_ rfl ⟨rfl,?_⟩
  ·rw[Yf rfl];go_simp
  ·exact Zf (Zf (Zh _ _) (Zh _ _)) (Zi _)
theorem Zdv(a b)(n c d:Nat)(N T)(s:Int)(p h k m:Int)(ta tn tc L)(x:Int)(w:World)(hn:n<=cK)(hN:IntsAt w a n N)(hT:BlksAt w b n T)(hL:TxsAt w ta tn L)(hH:Xb T)(hx:nextD N T s (p,h,k,m,L)=x) :
  ZH 134 #[.agg #[F a n c,F b n d],E J s,.agg #[E J p,E J h,E J k,E J m,F ta tn tc]] w (E J x):=by
 obtain⟨X,hX⟩:=ZG ((w.alloc (dE #[F a n c,F b n d] 28)).alloc (dE #[E J p,E J h,E J k,E J m,F ta tn tc] 39));have ag:ZD w X:=by rw[hX];exact Zf (Zh _ _) (Zh _ _)
 have cl:X.heap[w.heap.size]? = some (dE [F a n c,F b n d].toArray 28 (0,0)):=by
  rw[hX,Below.heap_alloc _ _ _ (by simp)];exact Yu _ _ _ _
 have cm:X.heap[w.heap.size+1]? = some (dE [E J p,E J h,E J k,E J m,F ta tn tc].toArray 39 (0,0)):=by
  rw[hX];have:=Zx (w.alloc (dE #[F a n c,F b n d] 28)) (E J p) (E J h) (E J k) (E J m) (F ta tn tc) 39;rw[show (w.alloc (dE #[F a n c,F b n d] 28)).heap.size=w.heap.size+1 by simp] at this;exact this
 obtain⟨o1,ca⟩:∃ o,(decide (1<=s) && decide (s<=120))=o:=⟨_,rfl⟩;obtain⟨x2,cd⟩:∃ x,Yq (p,h,k,m,L)=x:=⟨_,rfl⟩;obtain⟨o3,cb⟩:∃ o,decide (s∈N)=o:=⟨_,rfl⟩;obtain⟨o4,cc⟩:∃ o,decide (p∈N)=o:=⟨_,rfl⟩;obtain⟨z,hz⟩:=ZF ((fnd p N T).2.1);have cy:=(Ti hH p N).1;have cz:=(Ti hH p N).2.1;rw[hz] at cy cz;have db:IntKind.i64.wrap (z+1)=z+1:=by rw[bR];omega
 unfold nextD at hx;simp only at hx;rw[ca,cd,cb,cc,hz] at hx;obtain⟨HB,cf,cg⟩:=kh3 ag cl cm;have C1:=Zd (λW=>Yr s 1 120 o1 W ca.symm);have C2:=Zd (W3 p h k m ta tn tc L x2 X (hL.later ag) cd);have C3:=Zd (λW (hb:ZD X W)=>Fq a b n c n d N s o3 W hn (hN.later (Zf ag hb)) cb);have C4:=Zd (λW (hb:ZD X W)=>Fq a b n c n d N p o4 W hn (hN.later (Zf ag hb)) cc);have C5:=Zd (λW (hb:ZD X W)=>Gf a b n c d N T p z W hn (hN.later (Zf ag hb)) (hT.later (Zf ag hb)) hz);clear ag cl cm hN hT hL hH ca cd cb cc hz;have bg:=Zd hx;clear hx;go_enter func134,ntmps134;go_wp2_with fail;rw[<-hX];clear hX;refine (C1 _).mono ?_;rintro e w1 ⟨rfl,rfl⟩;cases o1 with
 | false=>
  have R:Hid (x=3):=by show _=_;rw[<-Za bg,if_pos rfl]
  clear bg;go_wp2;go_ret;exact⟨by rw[Za R];rfl,Za HB⟩
 | true=>
  obtain⟨c0,c1,c2,c3,c4,de⟩:=kc5 cg
  have be:Hid ((if x2≠0 then x2 else if o3=true then 6 else if p≠0/\o4=false then 5 else if h≠z+1 then 4 else 0)=x):=by
   have q:=Za bg;rw[if_neg (by decide)] at q;exact q
  clear bg;go_wp2_with fail;refine C2.mono ?_;rintro e w2 ⟨rfl,bx⟩;have bk:=Zd bx;have h20:=ZE bx cf;clear bx c0 c1 c2 c3 c4 de;by_cases q2:x2=0
  ·subst q2
   have bf:Hid ((if o3=true then 6 else if p≠0/\o4=false then 5 else if h≠z+1 then 4 else 0)=x):=by
    have q:=Za be;rw[if_neg (by decide)] at q;exact q
   obtain⟨c0,c1,de⟩:=kc2 h20;clear be h20;go_wp2_with fail;refine (C3 _ bk).mono ?_;rintro e w3 ⟨rfl,cn⟩;have ae:=Zd (Zf bk cn);have h30:=ZE ae cf;have h31:=ZE ae cg;have HF:=Zd (Zf HB ae);clear cn c0 c1 de;cases o3 with
   | true=>
    have R:Hid (x=6):=(by show _=_;rw[<-Za bf,if_pos rfl]);clear bf h30 h31;go_wp2;go_ret;exact⟨by rw[Za R];rfl,Za HF⟩
   | false=>
    have ah:Hid ((if p≠0/\o4=false then 5 else if h≠z+1 then 4 else 0)=x):=by
     have q:=Za bf;rw[if_neg (by decide)] at q;exact q
    obtain⟨c0,c1,de⟩:=kc2 h30;obtain⟨d0,d1,dl⟩:=kc2 h31;clear bf h30 h31;by_cases q4:p=0
    ·subst q4
     have ac:Hid ((if h≠z+1 then (4:Int) else 0)=x):=by
      have q:=Za ah;rw[if_neg (by simp)] at q;exact q
     clear ah C4;by_cases q5:h=z+1
     ·have R:Hid (x=0):=(by show _=_;rw[<-Za ac,if_neg (by simp[q5])]);have g5:(h != z+1)=false:=(by simp[q5]);clear ac q5;go_wp2_with fail
      go_region_with (go_at_call 194;refine (C5 _ (Zf ae (Zi _))).mono ?_;rintro e w5 ⟨rfl,aa⟩;have e0:=Ze aa (Ze (Zi _) d0);have e1:=Ze aa (Ze (Zi _) d1);have el:=aD dl aa.size;have af:=Zd (Zf HF (Zf (Zi _) aa));clear aa)
      all_goals
       go_wp2;go_ret;exact⟨by rw[Za R];rfl,Za af⟩
     ·have R:Hid (x=4):=(by show _=_;rw[<-Za ac,if_pos q5]);have g5:(h != z+1)=true:=(by simp[q5]);clear ac q5;go_wp2_with fail
      go_region_with (go_at_call 194;refine (C5 _ (Zf ae (Zi _))).mono ?_;rintro e w5 ⟨rfl,aa⟩;have e0:=Ze aa (Ze (Zi _) d0);have e1:=Ze aa (Ze (Zi _) d1);have el:=aD dl aa.size;have af:=Zd (Zf HF (Zf (Zi _) aa));clear aa)
      all_goals
       go_wp2;go_ret;exact⟨by rw[Za R];rfl,Za af⟩
    ·have g4:(p != 0)=true:=(by simp[q4]);go_wp2_with fail;refine (C4 _ ae).mono ?_;rintro e w4 ⟨rfl,ad⟩;have bo:=Zd (Zf ae ad);have bq:=Zd (Zf HB bo);have k0:=Ze ad c0;have k1:=Ze ad c1;have kl:=aD de ad.size;have d0:=Ze ad d0;have d1:=Ze ad d1;have dl:=aD dl ad.size;clear ad c0 c1 de;cases o4 with
     | false=>
      have R:Hid (x=5):=(by show _=_;rw[<-Za ah,if_pos ⟨q4,rfl⟩]);clear ah q4;go_wp2;go_ret;exact⟨by rw[Za R];rfl,Za bq⟩
     | true=>
      have ac:Hid ((if h≠z+1 then (4:Int) else 0)=x):=by
       have q:=Za ah;rw[if_neg (by simp)] at q;exact q
      clear ah q4;by_cases q5:h=z+1
      ·have R:Hid (x=0):=(by show _=_;rw[<-Za ac,if_neg (by simp[q5])]);have g5:(h != z+1)=false:=(by simp[q5]);clear ac q5;go_wp2_with fail
       go_region_with (go_at_call 194;refine (C5 _ (Zf bo (Zi _))).mono ?_;rintro e w5 ⟨rfl,aa⟩;have e0:=Ze aa (Ze (Zi _) d0);have e1:=Ze aa (Ze (Zi _) d1);have el:=aD dl aa.size;have af:=Zd (Zf bq (Zf (Zi _) aa));clear aa)
       all_goals
        go_wp2;go_ret;exact⟨by rw[Za R];rfl,Za af⟩
      ·have R:Hid (x=4):=(by show _=_;rw[<-Za ac,if_pos q5]);have g5:(h != z+1)=true:=(by simp[q5]);clear ac q5;go_wp2_with fail
       go_region_with (go_at_call 194;refine (C5 _ (Zf bo (Zi _))).mono ?_;rintro e w5 ⟨rfl,aa⟩;have e0:=Ze aa (Ze (Zi _) d0);have e1:=Ze aa (Ze (Zi _) d1);have el:=aD dl aa.size;have af:=Zd (Zf bq (Zf (Zi _) aa));clear aa)
       all_goals
        go_wp2;go_ret;exact⟨by rw[Za R];rfl,Za af⟩
  ·have R:Hid (x=x2):=(by show _=_;rw[<-Za be,if_pos q2]);have g2:(x2 != 0)=true:=(by simp[q2]);have HF:=Zd (Zf HB bk);clear be q2 h20;go_wp2;go_ret;exact⟨by rw[Za R];rfl,Za HF⟩
theorem Jr{N T}{x:Int}{b:Zk}(h:nextD N T x b=0):Yq b=0:=by
 unfold nextD at h;split at h
 ·cases h
 ·split at h
  ·next q=>exact absurd h q
  ·next q=>exact cC.1 q
theorem Zbw{T:List Zk}{j:Nat}(hj:j<T.length)(h:Xb (T.take j))(hb:Yq T[j]=0):Xb (T.take (j+1)):=by
 rw[List.take_succ_eq_append_getElem hj];intro b hm
 rcases List.mem_append.1 hm with q|q
 ·exact h b q
 ·rw[List.mem_singleton.1 q];exact Pt hb
theorem Us(a b n c m d N T)(x:Int)(w:World)(hN:IntsAt w a n N)(hT:BlksAt w b m T)(sN:SlOk a n c)(sT:SlOk b m d)(hx:chkTr N T=x) :
  ZH 69 #[.agg #[F a n c,F b m d]] w (E J x):=by
 subst hx;obtain⟨X,hX,af,ah⟩:=ka00 w [F a n c,F b m d] 28;obtain⟨HB,cp⟩:=kh2 af ah;obtain⟨x0,x1,xl⟩:=kc2 ah;obtain⟨HN,HT,bi,cf⟩:=kh4 (hN.later af) (hT.later af) hN.1 hT.1;have hm:=sN.2.1;have cn:=sT.2.1;have ct:=sN.1;unfold cK at hm cn;by_cases e:n=m
 ·subst e;by_cases h24:24<n
  ·have R:Hid (chkTr N T=2):=(by show _=_;unfold chkTr;rw[hN.1,hT.1,if_neg (by simp),if_pos h24]);have g0:((n:Int) != (n:Int))=false:=(by simp);have g1:(24:Int)<(n:Int):=(by omega);clear hN hT sN sT ah af;go_enter func69,ntmps69;go_wp2_with fail;rw[<-hX];clear hX;go_wp2;go_ret;exact⟨by rw[Za R];rfl,Za HB⟩
  ·have R:Hid (chkTr N T=Xg (N.take 0) (T.take 0) (N.drop 0) (T.drop 0)):=(by show _=_;unfold chkTr;rw[hN.1,hT.1,if_neg (by simp),if_neg h24];rfl);have g0:((n:Int) != (n:Int))=false:=(by simp);have g1:¬(24:Int)<(n:Int):=(by omega);obtain⟨SN,ST⟩:=kh2 sN sT;clear hN hT sN sT ah af;go_enter func69,ntmps69;go_wp2_with fail;rw[<-hX];clear hX;go_wp2
   go_loopw [19] (λi wr=>∃ j:Nat,j<=n/\i = E J j/\Hid (chkTr N T=Xg (N.take j) (T.take j) (N.drop j) (T.drop j))/\Hid (Xb (T.take j))/\Hid (ZD X wr)) (λi _=>n - (intOf i).toNat)
   case atStart=>exact⟨0,aI _,rfl,R,(λb hb=>(by simp at hb):Xb (T.take 0)),(Below.refl _ _:ZD X X)⟩
   case round=>
    obtain⟨j,hj,rfl,A,HH,ac⟩:=hrel;clear R;by_cases bu:j<n
    ·have h1:j<N.length:=(by rw[Za bi];exact bu);have h2:j<T.length:=(by rw[Za cf];exact bu);obtain⟨b1,ag,rfl,bs,bo⟩:=HN.2 (by omega);obtain⟨b2,ab,rfl,bt,bq⟩:=HT.2 (by omega);have f1:=Ze ac (bo j h1);have br:=BlkAt.kept _ _ _ _ _ ac (bq j h2);obtain⟨AT,HM⟩:=kh2 (Zln N T j h1 h2) (Zbw h2 HH);obtain⟨s,hs⟩:=ZF (N[j]);obtain⟨t,ht⟩:=ZF (T[j]);rw[hs] at f1 AT;rw[ht] at br AT HM;obtain⟨p,h,k,o,L⟩:=t;obtain⟨au,av,g2,g3,ta,tn,tc,g4,hL,_⟩:=br;simp only at au av g2 g3 hL;obtain⟨y,hy⟩:=ZF (nextD (N.take j) (T.take j) s (p,h,k,o,L));have w0:=Ze ac x0;have w1:=Ze ac x1;have wl:=aD xl ac.size;have cu:=aD bs ac.size;have cw:=aD bt ac.size;have C1:=Zd (λW=>Zkw (some ⟨b1,ag,none⟩) (some ⟨b2,ab,none⟩) n c d j W hj SN ST);have cl:j<=cK:=(by unfold cK;omega);have C2:=Zd (λW (hb:ZD wr W)=>Zdv (some ⟨b1,ag,none⟩) (some ⟨b2,ab,none⟩) j c d (N.take j) (T.take j) s p h k o ta tn tc L y W cl ((HN.later (Zf ac hb)).take j hj) (RowsAt.take (HT.later (Zf ac hb)) j hj) (hL.later hb) HH hy);rw[hy] at AT;have HY:Hid (y=0->Yq (p,h,k,o,L)=0):=λq=>Jr (hy.trans q);clear bo bq hL hs ht hy x0 x1 xl bs bt;by_cases q:y=0
     ·subst q;have R:Hid (chkTr N T=Xg (N.take (j+1)) (T.take (j+1)) (N.drop (j+1)) (T.drop (j+1))):=(by show _=_;rw[Za A,Za AT,if_neg (by simp)]);have ce:=Zd (HM (HY rfl));clear A AT HM HY;go_wp2_with fail
      go_region_held3 (λW'=>ZD wr W'/\W'.cell? ⟨w.heap.size,0,none⟩=some (F (some ⟨b1,ag,none⟩) n c)/\W'.cell? ⟨w.heap.size,1,none⟩=some (F (some ⟨b2,ab,none⟩) n d)/\W'.cell? ⟨b1,ag+j,none⟩=some (E J s)/\W'.cell? ⟨b2,ab+j*5,none⟩=some (E J p)/\W'.cell? ⟨b2,ab+j*5+1,none⟩=some (E J h)/\W'.cell? ⟨b2,ab+j*5+2,none⟩=some (E J k)/\W'.cell? ⟨b2,ab+j*5+3,none⟩=some (E J o)/\W'.cell? ⟨b2,ab+j*5+4,none⟩=some (F ta tn tc))
       (first
       | exact⟨Zi _,w0,w1,f1,au,av,g2,g3,g4⟩
       | (go_split_ands;refine⟨Zf (by assumption) aa,Ze aa (by assumption),Ze aa (by assumption),Ze aa (by assumption),Ze aa (by assumption),Ze aa (by assumption),Ze aa (by assumption),Ze aa (by assumption),Ze aa (by assumption)⟩))
       (first|(go_at_call 140;refine (C1 _).mono ?_;rintro e w' ⟨rfl,aa⟩)|(go_at_call 134;go_split_ands;refine (C2 _ (by assumption)).mono ?_;rintro e w' ⟨rfl,aa⟩))
      rename_i hq;have ap:=Zd (Zf ac hq.1);clear hq;go_wp2;go_roundw
      case rel=>exact⟨j+1,by omega,by go_num,R,ce,ap⟩
      case measure=>simp[intOf];omega
     ·have R:Hid (chkTr N T=y):=(by show _=_;rw[Za A,Za AT,if_pos q]);have gy:(y != 0)=true:=(by simp[q]);clear A AT HM HY q;go_wp2_with fail
      go_region_held3 (λW'=>ZD wr W'/\W'.cell? ⟨w.heap.size,0,none⟩=some (F (some ⟨b1,ag,none⟩) n c)/\W'.cell? ⟨w.heap.size,1,none⟩=some (F (some ⟨b2,ab,none⟩) n d)/\W'.cell? ⟨b1,ag+j,none⟩=some (E J s)/\W'.cell? ⟨b2,ab+j*5,none⟩=some (E J p)/\W'.cell? ⟨b2,ab+j*5+1,none⟩=some (E J h)/\W'.cell? ⟨b2,ab+j*5+2,none⟩=some (E J k)/\W'.cell? ⟨b2,ab+j*5+3,none⟩=some (E J o)/\W'.cell? ⟨b2,ab+j*5+4,none⟩=some (F ta tn tc))
       (first
       | exact⟨Zi _,w0,w1,f1,au,av,g2,g3,g4⟩
       | (go_split_ands;refine⟨Zf (by assumption) aa,Ze aa (by assumption),Ze aa (by assumption),Ze aa (by assumption),Ze aa (by assumption),Ze aa (by assumption),Ze aa (by assumption),Ze aa (by assumption),Ze aa (by assumption)⟩))
       (first|(go_at_call 140;refine (C1 _).mono ?_;rintro e w' ⟨rfl,aa⟩)|(go_at_call 134;go_split_ands;refine (C2 _ (by assumption)).mono ?_;rintro e w' ⟨rfl,aa⟩))
      rename_i hq;have ap:=Zd (Zf HB (Zf ac hq.1));clear hq;go_wp2;go_ret;exact⟨by rw[Za R];rfl,Za ap⟩
    ·have R:Hid (chkTr N T=0):=(by show _=_;rw[Za A,Zhn N T j (by rw[Za bi];omega)]);have cd:=Zd (Zf HB ac);clear A;go_wp2;go_ret;exact⟨by rw[Za R];rfl,Za cd⟩
 ·have R:Hid (chkTr N T=4):=by show _=_;unfold chkTr;rw[hN.1,hT.1,if_pos e]
  have g0:((n:Int) != (m:Int))=true:=by simp;omega
  clear hN hT sN sT ah af;go_enter func69,ntmps69;go_wp2_with fail;rw[<-hX];clear hX;go_wp2;go_ret;exact⟨by rw[Za R];rfl,Za HB⟩
theorem Gm:∀ (M:List Int) (U:List Zk) (N:List Int) (T:List Zk),M.length=U.length->Xg N T M U=0->Xb U
 | [],[],_,_,_,_=>λb hb=>by cases hb
 | [],_ :: _,_,_,h,_=>by cases h
 | _ :: _,[],_,_,h,_=>by cases h
 | x :: M,b :: U,N,T,h,hc=>by
  rw[Xg] at hc;split at hc
  ·next q=>exact absurd hc q
  ·next q=>
   have h1:=Pt (Jr (cC.1 q));have h2:=Gm M U _ _ (by simpa using h) hc;intro y hy
   rcases List.mem_cons.1 hy with rfl|hy
   ·exact h1
   ·exact h2 y hy
theorem Wz{N:List Int}{T:List Zk}(h:chkTr N T=0):N.length=T.length/\N.length<=24/\Xb T/\Xg [] [] N T=0:=by
 unfold chkTr at h;split at h
 ·cases h
 ·next q=>
  split at h
  ·cases h
  ·next q2=>exact⟨cC.1 q,by omega,Gm N T [] [] (cC.1 q) h,h⟩
theorem Fa{N T}(h:Xb T)(s:Int):(Vv N T s).length<=1000:=by
 unfold Vv;rw[Dt];have:=(Ti h s N);omega
theorem Nn(a b)(n c d:Nat)(N T)(s:Int)(P:List Int)(pn:Nat)(w:World)(hn:n<=cK)(hN:IntsAt w a n N)(hT:BlksAt w b n T)(hH:Xb T)(hP:Vv N T s=P)(ac:P.length=pn) :
  Calls Tryz.prog 131 #[.agg #[F a n c,F b n d],E J s] w λe w'=>∃ v,e = dF v/\w'.ownsRow w.heap.size 3 1 v pn (P.map (bM .i64))/\ZD w w':=by
 subst hP ac;exact Zfr a b n c d N T s w hn hN hT hH
theorem Znh(a b n c m d N T)(s:Int)(P:List Int)(pn:Nat)(x:Int)(w:World)(hN:IntsAt w a n N)(hT:BlksAt w b m T)(sN:SlOk a n c)(sT:SlOk b m d)(hx:Jo N T s=(P,x))(av:P.length=pn) :
  Calls Tryz.prog 56 #[.agg #[F a n c,F b m d],E J s] w λe w'=>∃ v,e = dF (dG #[v,E J x])/\w'.ownsRow w.heap.size 3 1 v pn (P.map (bM .i64))/\ZD w w':=by
 obtain⟨X,hX,ad,ar⟩:=ka00 w [F a n c,F b m d] 28;obtain⟨HB,bf⟩:=kh2 ad ar;obtain⟨y,hy⟩:=ZF (chkTr N T);have C1:=Zd (Us a b n c m d N T y X (hN.later ad) (hT.later ad) sN sT hy);obtain⟨x0,x1,xl⟩:=kc2 ar;unfold Jo at hx;rw[hy] at hx;by_cases q:y=0
 ·subst q;rw[if_neg (by simp)] at hx;obtain⟨hl,h24,hH,_⟩:=Wz hy;obtain rfl:n=m:=by rw[<-hN.1,<-hT.1,hl]
  have bh:n<=cK:=sN.len;obtain⟨o,ho⟩:=ZF (decide (s∈N));rw[ho] at hx;have C2:=Zd (λW (hb:ZD X W)=>Fq a b n c n d N s o W bh (hN.later (Zf ad hb)) ho);have C3:=Zd (λW (hb:ZD X W) (hP:Vv N T s=P)=>Nn a b n c d N T s P pn W bh (hN.later (Zf ad hb)) (hT.later (Zf ad hb)) hH hP av);obtain⟨aj,bu⟩:=kh2 hx av;clear ad ar hN hT sN sT hy hx hl h24 hH ho av bh;by_cases q1:s=0
  ·subst q1
   have R:Hid (Vv N T 0=P/\0=x):=by
    have h:=Za aj;rw[if_neg (by simp)] at h;exact⟨congrArg cZ h,congrArg Prod.snd h⟩
   clear aj C2;obtain rfl:0=x:=R.2;go_enter func56,ntmps56;go_wp2_with fail;rw[<-hX];clear hX;refine C1.mono ?_;rintro e w1 ⟨rfl,aa⟩;have CC:=Zd (C3 _ aa R.1);have hc:=ZE aa bf;obtain⟨t0,t1,tl⟩:=kc2 hc;have ag:=Zd (Zf HB aa);clear aa x0 x1 xl hc C1 C3;go_wp2_with fail;refine CC.mono ?_;rintro e w2 ⟨v,rfl,br,ab⟩;obtain⟨R2,ah⟩:=kh2 (Yo br ag.size) (Zf ag ab);clear br ab;go_wp2;go_ret2;exact⟨v,rfl,Za R2,Za ah⟩
  ·have g1:(s != 0)=true:=(by simp[q1]);cases o with
   | false=>
    have R:Hid (([]:List Int)=P/\5=x):=by
     have h:=Za aj;rw[if_pos ⟨q1,rfl⟩] at h;exact⟨congrArg cZ h,congrArg Prod.snd h⟩
    clear aj C3;obtain⟨rfl,rfl⟩:=Za R;obtain rfl:0=pn:=Za bu;clear q1;go_enter func56,ntmps56;go_wp2_with fail;rw[<-hX];clear hX;refine C1.mono ?_;rintro e w1 ⟨rfl,aa⟩;have CC:=Zd (C2 _ aa);have hc:=ZE aa bf;obtain⟨t0,t1,tl⟩:=kc2 hc;have ag:=Zd (Zf HB aa);clear aa x0 x1 xl hc C1 C2;go_wp2_with fail;refine CC.mono ?_;rintro e w2 ⟨rfl,ab⟩;have ah:=Zd (Zf ag ab);clear ab;go_wp2;go_ret2;exact⟨_,rfl,World.ownsRow_nil _ _ _ _,Za ah⟩
   | true=>
    have R:Hid (Vv N T s=P/\0=x):=by
     have h:=Za aj;rw[if_neg (by simp)] at h;exact⟨congrArg cZ h,congrArg Prod.snd h⟩
    clear aj;obtain rfl:0=x:=R.2;clear q1;go_enter func56,ntmps56;go_wp2_with fail;rw[<-hX];clear hX;refine C1.mono ?_;rintro e w1 ⟨rfl,aa⟩;obtain⟨CC,be⟩:=kh2 (C2 _ aa) aa;have hc:=ZE aa bf;obtain⟨t0,t1,tl⟩:=kc2 hc;clear aa x0 x1 xl hc C1 C2;go_wp2_with fail;refine CC.mono ?_;rintro e w2 ⟨rfl,ab⟩;obtain⟨ah,CC⟩:=kh2 (Zf HB (Zf be ab)) (C3 _ (Zf be ab) R.1);have k0:=Ze ab t0;have k1:=Ze ab t1;have kl:=aD tl ab.size;clear ab t0 t1 tl be C3;go_wp2_with fail;refine CC.mono ?_;rintro e w3 ⟨v,rfl,bs,bo⟩;obtain⟨R2,bt⟩:=kh2 (Yo bs ah.size) (Zf ah bo);clear bs bo;go_wp2;go_ret2;exact⟨v,rfl,Za R2,Za bt⟩
 ·rw[if_pos q] at hx;obtain⟨rfl,rfl⟩:([]:List Int)=P/\y=x:=⟨congrArg cZ hx,congrArg Prod.snd hx⟩;obtain rfl:0=pn:=av;have g:(y != 0)=true:=by simp[q]
  clear ad ar hN hT sN sT hy hx q;go_enter func56,ntmps56;go_wp2_with fail;rw[<-hX];clear hX;refine C1.mono ?_;rintro e w1 ⟨rfl,aa⟩;have ag:=Zd (Zf HB aa);clear aa x0 x1 xl;go_wp2;go_ret2;exact⟨_,rfl,World.ownsRow_nil _ _ _ _,Za ag⟩
theorem Zjj{N T}{s:Int}(h:(Jo N T s).2=0):chkTr N T=0/\(s=0\/s∈N)/\(Jo N T s).1=Vv N T s:=by
 unfold Jo at h ⊢;by_cases q:chkTr N T=0
 ·rw[if_neg (by simp[q])] at h ⊢;by_cases q1:s≠0/\decide (s∈N)=false
  ·rw[if_pos q1] at h;cases h
  ·rw[if_neg q1];refine⟨q,?_,rfl⟩;by_cases e:s=0
   ·exact .inl e
   ·right
    by_cases e2:s∈N
    ·exact e2
    ·exact absurd ⟨e,by simp[e2]⟩ q1
 ·rw[if_pos q] at h;exact absurd h q
theorem work_is(a b n c m d N T)(s z x:Int)(w:World)(hN:IntsAt w a n N)(hT:BlksAt w b m T)(sN:SlOk a n c)(sT:SlOk b m d)(hx:workE N T s=(z,x)) :
  ZH 34 #[.agg #[F a n c,F b m d],E J s] w (dG #[E J z,E J x]):=by
 obtain⟨X,hX,ab,ad⟩:=ka00 w [F a n c,F b m d] 28;obtain⟨HB,bf⟩:=kh2 ab ad;obtain⟨P,y,hP⟩:∃ P y,Jo N T s=(P,y):=⟨_,_,rfl⟩;obtain⟨pn,af⟩:=ZF (P.length);have C1:=Zd (Znh a b n c m d N T s P pn y X (hN.later ab) (hT.later ab) sN sT hP af);obtain⟨x0,x1,xl⟩:=kc2 ad;unfold workE at hx;have ae:=Zjj (N:=N) (T:=T) (s:=s);rw[hP] at hx ae;by_cases q:y=0
 ·subst q;rw[if_neg (by simp)] at hx;obtain⟨aq,_,hp⟩:=ae rfl;obtain⟨hl,h24,hH,_⟩:=Wz aq;obtain rfl:n=m:=by rw[<-hN.1,<-hT.1,hl]
  have au:n<=cK:=sN.len;have bh:pn<=1000:=by rw[<-af];simp only at hp;rw[hp];exact Fa hH s
  obtain⟨hz,rfl⟩:W4 N T 0 P=z/\0=x:=⟨congrArg cZ hx,congrArg Prod.snd hx⟩;have C2:=Zd (λpa pc W (hb:ZD X W) (bg:IntsAt W pa pn P)=>M7 a b pa n c d pn pc N T P z W au (hN.later (Zf ab hb)) (hT.later (Zf ab hb)) bg bh hH hz);clear ab ad hN hT sN sT hP hx hl h24 hH af au ae hp aq hz;go_enter func34,ntmps34;go_wp2_with fail;rw[<-hX];clear hX;refine C1.mono ?_;rintro e w1 ⟨v,rfl,av,aa⟩;obtain⟨pa,pc,rfl,_,aw⟩:=ints_of_own av;have CC:=Zd (C2 pa pc _ aa aw);have hc:=ZE aa bf;obtain⟨t0,t1,tl⟩:=kc2 hc;have ag:=Zd (Zf HB aa);clear aa x0 x1 xl hc C1 C2 av aw;go_wp2_with fail;refine CC.mono ?_;rintro e w2 ⟨rfl,an⟩;have be:=Zd (Zf ag an);clear an;go_wp2;go_ret2;exact⟨rfl,Za be⟩
 ·rw[if_pos q] at hx;obtain⟨rfl,rfl⟩:0=z/\y=x:=⟨congrArg cZ hx,congrArg Prod.snd hx⟩;have g:(y != 0)=true:=by simp[q]
  clear ab ad hN hT sN sT hP hx q af ae;go_enter func34,ntmps34;go_wp2_with fail;rw[<-hX];clear hX;refine C1.mono ?_;rintro e w1 ⟨v,rfl,_,aa⟩;have ag:=Zd (Zf HB aa);clear aa x0 x1 xl;go_wp2;go_ret2;exact⟨rfl,Za ag⟩
