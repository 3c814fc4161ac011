import Derived.Test.YtmomfkikogbdeaaGreatDoorH
import Derived.Test.YtmomfkikogbdeaaGreatDoorG26
open Go.Proofs.Tryz
open Classical renaming not_not->cC
open Go renaming maxLen->cK,bodyPost_ret->bB,heap_alloc_new->aG,lt_of_block->aA
open Go.Ending renaming returned->dF
open Go.Exit renaming inBlock->aV
open Go.IntKind renaming i64->J
open Go.Obj renaming cells->dE
open Go.Proofs.Tryz renaming prog->aB
open Go.RowKit.Below renaming heap_alloc->bX
open Go.Value renaming int->bM,slice->bO,int->E,slice->F,tuple->dG,pointer->dH
open List renaming mem_cons->aO,length_append->cJ,drop_eq_getElem_cons->aJ
open List.cons renaming injEq->bC
open Nat renaming le_refl->aF,zero_le->aI,le_trans->aN,lt_of_lt_of_le->aD
set_option maxHeartbeats 12800000
set_option maxRecDepth 10000
namespace Go.Proofs.YtmomfkikogbdeaaGreatDoor.Tr
open Go.RowKit
def addE(N:List Int)(T:List Zk)(x:Int)(b:Zk):List Int×List Zk×Int:=
 if chkTr N T≠0 then ([],[],chkTr N T) else if nextD N T x b≠0 then ([],[],nextD N T x b) else if N.length=24 then ([],[],12) else (N++[x],T++[b],0)
theorem N8:∀ (l pre:List InD),Yj pre l=0->∀ x∈l,x.2.2.length<=16
 | [],_,_,x,hx=>by cases hx
 | y :: r,pre,h,x,hx=>by
  rw[Yj] at h;split at h
  ·next q=>
   rcases aO.1 hx with rfl|hx
   ·unfold Wl at q;split at q
    ·cases q
    ·split at q
     ·next q1=>exact absurd q q1
     ·next q1=>exact Sp (cC.1 q1)
   ·exact N8 r _ h x hx
  ·next q=>exact absurd h q
theorem Kp:∀ (l:List Z3),Yk l=0->∀ x∈l,x.2.length<=16
 | [],_,x,hx=>by cases hx
 | y :: r,h,x,hx=>by
  rw[Yk] at h;split at h
  ·next q=>
   rcases aO.1 hx with rfl|hx
   ·unfold Xa at q;split at q
    ·cases q
    ·exact Sp q
   ·exact Kp r h x hx
  ·next q=>exact absurd h q
theorem tx_small{t}(h:Zq t=0):TxSmall t:=by
 unfold Zq at h;split at h
 ·cases h
 ·next q0=>
  split at h
  ·cases h
  ·split at h
   ·cases h
   ·split at h
    ·next q=>exact absurd h q
    ·next q=>
     have h1:=N8 _ _ (cC.1 q);unfold Ym at h;split at h
     ·next q2=>
      have h2:=Kp _ q2;exact⟨by omega,by omega,λx hx=>by have:=h1 x hx;omega,λx hx=>by have:=h2 x hx;omega⟩
     ·next q2=>exact absurd h q2
theorem Qj(h:Int):∀ (T:List TxD) (i:Nat),Wc h i T=0->∀ t∈T,Zq t=0
 | [],_,_,t,ht=>by cases ht
 | u :: r,i,q,t,ht=>by
  rw[Wc] at q;split at q
  ·next q1=>exact absurd q q1
  ·next q1=>
   split at q
   ·cases q
   ·rcases aO.1 ht with rfl|ht
    ·exact cC.1 q1
    ·exact Qj h r _ q t ht
theorem blk_small{b:Zk}(h:Yq b=0):BlkSmall b:=by
 unfold Yq at h;split at h
 ·cases h
 ·split at h
  ·cases h
  ·next q=>
   split at h
   ·cases h
   ·exact⟨by omega,λt ht=>tx_small (Qj _ _ _ h t ht)⟩
theorem Tn:∀ (M:List Int) (U:List Zk) (N:List Int) (T:List Zk),M.length=U.length->Xg N T M U=0->∀ b∈U,Yq b=0
 | [],[],_,_,_,_=>λb hb=>by cases hb
 | [],_ :: _,_,_,h,_=>by cases h
 | _ :: _,[],_,_,h,_=>by cases h
 | x :: M,b :: U,N,T,h,hc=>by
  rw[Xg] at hc;split at hc
  ·next q=>exact absurd hc q
  ·next q=>
   have h1:=Jr (cC.1 q);have h2:=Tn M U _ _ (by simpa using h) hc;intro y hy
   rcases aO.1 hy with rfl|hy
   ·exact h1
   ·exact h2 y hy
def AddR(w w':World)(N:List Int)(T:List Zk)(n:Nat)(x:Int)(e:Ending):Prop:=
 ∃ a1 c1 a2 c2,e = dF (dG #[.agg #[F a1 n c1,F a2 n c2],E J x])/\Fresh w.heap.size w' (λw2=>IntsAt w2 a1 n N/\BlksAt w2 a2 n T)/\SlOk a1 n c1/\SlOk a2 n c2/\ZD w w'
theorem Mg{w w':World}{x:Int}(hb:ZD w w'):AddR w w' [] [] 0 x (dF (dG #[.agg #[F none 0 0,F none 0 0],E J x])):=
 ⟨none,0,none,0,rfl,λ_ _=>⟨IntsAt.nil _ _,RowsAt.nil _ _⟩,⟨aF _,aI _,λ_=>⟨rfl,rfl⟩⟩,⟨aF _,aI _,λ_=>⟨rfl,rfl⟩⟩,hb⟩
theorem To{w W:World}{t:Nat}(hb:ZD w W)(ht:w.heap.size<=t)(hs:w.heap.size<=W.heap.size)(u v):ZD w ((W.setCell ⟨t,0,none⟩ u).setCell ⟨t,1,none⟩ v):=
 (((Gr.refl W (λq=>q=t)).one t 0 (.inl rfl) u).one t 1 (.inl rfl) v).below hb hs (λk e=>by omega)
theorem Zpc{B B5 G O t6 n:Nat}{w5 w9 aq ar wF:World}{v1 v2:Value}{g cap g2 aj:Nat}{N}{T:List Zk}{s:Int}{b:Zk}{K:List (List Value)}{cs}
  (hB:B<=B5) (cb:t6<B5) (bx:B5<=G) (bf:T.length=n) (hF:Fresh G w5 (λw2=>AllC blkR w2 K T)) (hf:Fresh w9.heap.size aq (λw2=>blkR.C w2 cs b))
  (h1:∀ q,v1.ownBlock=some q->q<G) (h2:∀ q,v2.ownBlock=some q->q<G) (bb:∀ q,v2.ownBlock=some q->B5<=q/\q<w5.heap.size) (hO:O=w5.heap.size) (ca:O<w9.heap.size) (bv:B<=w9.heap.size) (cc:t6<w9.heap.size)
  (g9:Gr w5 w9 (λq=>v1.ownBlock=some q)) (gF:Gr w9 wF (λq=>v2.ownBlock=some q\/q=O\/q=t6)) (ax:Gr aq wF (λq=>v2.ownBlock=some q\/q=O\/q=t6)) (ay:Gr ar wF (λq=>q=O\/q=t6))
  (ap:w9.ownsRow B5 3 1 (F (some ⟨g,0,none⟩) (n+1) cap) (n+1) ((N++[s]).map (bM .i64))) (hg:g≠O) (bk:v2.ownBlock≠some g)
  (am:ar.ownsRow B5 39 5 (F (some ⟨g2,0,none⟩) (n+1) aj) (n+1) (K.flatten++cs)) (bo:g2≠O) :
  Fresh B wF (λw2=>IntsAt w2 (some ⟨g,0,none⟩) (n+1) (N++[s])/\BlksAt w2 (some ⟨g2,0,none⟩) (n+1) (T++[b]))/\SlOk (some ⟨g,0,none⟩) (n+1) cap/\SlOk (some ⟨g2,0,none⟩) (n+1) aj:=by
 have gb:=(ap.lt g rfl).1;have bu:=(am.lt g2 rfl).1
 have af:=gF.own ap (λq hq e=>by
  cases hq
  rcases e with e|e|e
  ·exact bk e
  ·exact hg e
  ·simp only at e;omega)
 have ae:=ay.own am (λq hq e=>by
  cases hq
  rcases e with e|e
  ·exact bo e
  ·simp only at e;omega)
 have be:Fresh G wF (λw2=>AllC blkR w2 K T):=hF.on (((g9.mono (T:=λq=>v1.ownBlock=some q\/v2.ownBlock=some q\/q=O\/q=t6) λq _ e=>.inl e).trans (gF.mono λq _ e=>.inr e)).mono λq hq e=>by
  rcases e with e|e|e|e
  ·exact h1 q e
  ·exact h2 q e
  ·omega
  ·omega)
 have bh:Fresh w9.heap.size wF (λw2=>blkR.C w2 cs b):=hf.on (ax.mono λq _ e=>by
  rcases e with e|e|e
  ·have:=(bb q e).2;omega
  ·omega
  ·omega)
 have s1:=Zz af;have s2:=Zz ae;obtain⟨a1,c1,e1,s1,_⟩:=s1;obtain⟨a2,c2,e2,s2,_⟩:=s2;cases e1;cases e2;refine⟨λw2 g2=>?_,s1,s2⟩;have br:=g2.own af (λq hq=>by have:=(af.lt q hq).1;omega);have an:=g2.own ae (λq hq=>by have:=(ae.lt q hq).1;omega);obtain⟨a1,c1,e1,_,i1⟩:=ints_of_own br;cases e1;have hA:=(be w2 (g2.mono λq _ e=>by omega)).snoc (bh w2 (g2.mono λq _ e=>by omega));have bi:K.flatten++cs=(K++[cs]).flatten:=by simp
 rw[bi] at an;obtain⟨a2,c2,e2,r2,_⟩:=rows_of_own blkR an hA (by rw[cJ,bf];rfl);cases e2;exact⟨i1,r2⟩
theorem add_is(a b n c m d N T)(s p h k o:Int)(ta tn tc L)(N':List Int)(T')(n':Nat)(x:Int)(w)(hN:IntsAt w a n N)(hT:BlksAt w b m T)(sN:SlOk a n c)(sT:SlOk b m d)(hL:TxsAt w ta tn L)(sL:SlOk ta tn tc)(hx:addE N T s (p,h,k,o,L)=(N',T',x))(cy:N'.length=n') :
  Calls aB 63 #[.agg #[F a n c,F b m d],E J s,.agg #[E J p,E J h,E J k,E J o,F ta tn tc]] w λe w'=>AddR w w' N' T' n' x e:=by
 obtain⟨i0,hi,gq,gs,gu⟩:=info_parts Tryz.infoInt;obtain⟨j0,ji,gy,gz,ia⟩:=info_parts Tryz.infoBlkC;obtain⟨X,hX⟩:=ZG (((w.alloc (dE #[F a n c,F b m d] 28)).alloc (dE #[E J p,E J h,E J k,E J o,F ta tn tc] 39)).alloc (dE #[F none 0 0,F none 0 0] 28));have ag:ZD w X:=by rw[hX];exact Zf (Zf (Zh _ _) (Zh _ _)) (Zh _ _)
 have bv:X.heap[w.heap.size]? = some (dE [F a n c,F b m d].toArray 28 (0,0)):=by
  rw[hX,bX _ _ _ (by simp;omega),bX _ _ _ (by simp)];exact Yu _ _ _ _
 have cn:X.heap[w.heap.size+1]? = some (dE [E J p,E J h,E J k,E J o,F ta tn tc].toArray 39 (0,0)):=by
  rw[hX,bX _ _ _ (by simp)];have:=Zx (w.alloc (dE #[F a n c,F b m d] 28)) (E J p) (E J h) (E J k) (E J o) (F ta tn tc) 39;rw[show (w.alloc (dE #[F a n c,F b m d] 28)).heap.size=w.heap.size+1 by simp] at this;exact this
 have cp:X.heap[w.heap.size+2]? = some (dE [F none 0 0,F none 0 0].toArray 28 (0,0)):=by
  rw[hX];have:=Yu ((w.alloc (dE #[F a n c,F b m d] 28)).alloc (dE #[E J p,E J h,E J k,E J o,F ta tn tc] 39)) (F none 0 0) (F none 0 0) 28;rw[show ((w.alloc (dE #[F a n c,F b m d] 28)).alloc (dE #[E J p,E J h,E J k,E J o,F ta tn tc] 39)).heap.size=w.heap.size+2 by simp] at this;exact this
 have hm:=sN.2.1;unfold cK at hm;have iv:=sN.1;obtain⟨HB,dm,dn,dp⟩:=kh4 ag bv cn cp;obtain⟨y,hy⟩:=ZF (chkTr N T);obtain⟨z,hz⟩:=ZF (nextD N T s (p,h,k,o,L));have C1:=Zd (Us a b n c m d N T y X (hN.later ag) (hT.later ag) sN sT hy);obtain⟨x0,x1,xl⟩:=kc2 bv;unfold addE at hx;rw[hy,hz] at hx;by_cases q:y=0
 ·subst q;rw[if_neg (by simp)] at hx;obtain⟨hl,h24,hH,ed⟩:=Wz hy;obtain rfl:n=m:=by rw[<-hN.1,<-hT.1,hl]
  have ee:n<=cK:=sN.len;have iu:n<=24:=by rw[<-hN.1];exact h24
  have HS:=Zd (λt ht=>blk_small (Tn N T [] [] hl ed t ht));have C2:=Zd (λW (hb:ZD X W)=>Zdv a b n c d N T s p h k o ta tn tc L z W ee (hN.later (Zf ag hb)) (hT.later (Zf ag hb)) (hL.later (Zf ag hb)) hH hz);rw[hN.1] at hx;obtain⟨ap,cf⟩:=kh2 hx cy;have CT:=Zd (λW (hb:ZD X W)=>clTree_is a b n c d N T W (hN.later (Zf ag hb)) (hT.later (Zf ag hb)) sN sT (by omega) HS);have CB:=Zd (λW (hb:ZD w W) (q:z=0)=>clBlock_is p h k o ta tn tc L W (hL.later hb) sL (by rw[<-hL.1];exact (blk_small (Jr (hz.trans q))).1) (blk_small (Jr (hz.trans q))).2);have fw:=Zd hN.1;clear ag bv cn cp hN hT sN sT hL sL hy hz hl h24 hH ed ee hx cy HS;go_enter func63,ntmps63;go_wp2_with fail;rw[<-hX];clear hX;refine C1.mono ?_;rintro e w1 ⟨rfl,am⟩;have an:=Zd am;have h0:=ZE am dm;have h1:=ZE am dn;obtain⟨a0,a1,al⟩:=kc2 h0;obtain⟨b0,b1,b2,b3,b4,bl⟩:=kc5 h1;clear am h0 h1 x0 x1 xl C1;go_wp2_with fail;refine (C2 _ an).mono ?_;rintro e w2 ⟨rfl,dz⟩;have az:=Zd (Zf an dz);clear dz a0 a1 al b0 b1 b2 b3 b4 bl C2 an;have h0:=ZE az dm;have h1:=ZE az dn;have h2:=ZE az dp;obtain⟨c0,c1,f0,f1,cl⟩:=kf2 h2;have bb:=Zd (Zf HB az);by_cases q2:z=0
  ·subst q2;obtain⟨a0,a1,al⟩:=kc2 h0;by_cases q3:n=24
   ·subst q3
    obtain⟨rfl,rfl,rfl⟩:([]:List Int)=N'/\([]:List Zk)=T'/\12=x:=by
     have q:=Za ap;rw[if_neg (by simp),if_pos rfl] at q;exact⟨congrArg (·.1) q,congrArg (·.2.1) q,congrArg (·.2.2) q⟩
    obtain rfl:0=n':=Za cf;clear ap h0 h1 h2;go_wp2;(try simp only[aV,Exit.then]);refine bB (v:=dG #[.agg #[F none 0 0,F none 0 0],E J 12]) ?_ rfl (Mg ?_)
    ·rw[Zo rfl];go_simp
    ·exact To bb (by omega) bb.size _ _
   ·have R:Hid (N++[s]=N'/\T++[(p,h,k,o,L)]=T'/\0=x):=by
     have q:=Za ap;rw[if_neg (by simp),if_neg q3] at q;exact⟨congrArg (·.1) q,congrArg (·.2.1) q,congrArg (·.2.2) q⟩
    obtain rfl:0=x:=R.2.2;have g3:((n:Int) == 24)=false:=(by simp;omega);obtain⟨H0,H1,H2⟩:=kh3 h0 h1 h2;obtain rfl:n+1=n':=(by rw[<-Za cf,<-(Za R).1,cJ,Za fw];rfl);clear ap q3 h0 h1 h2 c0 c1 f0 f1;go_wp2_with fail;refine (CT _ az).mono ?_;rintro e w5 ⟨v1,v2,rfl,gj,cq⟩;obtain⟨K,G,o1,o2,g1,g2,dv,dx,hF⟩:=gj;obtain⟨ac,ae,rfl,s1,r1⟩:=Zz o1;obtain⟨aa,ab,rfl,s2,r2⟩:=Zz o2;obtain⟨t6,ix⟩:=ZG (w.heap.size+2);have iq:w.heap.size+3<=w2.heap.size+2:=(by omega);have iw:w2.heap.size<=w5.heap.size:=cq.size;have dy:∀ q,(bO ac n ae).ownBlock=some q->w2.heap.size+2<=q/\q<w5.heap.size:=λq hq=>o1.lt q hq;have ea:∀ q,(bO aa n ab).ownBlock=some q->w2.heap.size+2<=q/\q<w5.heap.size:=λq hq=>o2.lt q hq;have cg:Hid (((w5.alloc (dE #[F ac n ae,F aa n ab] 28)).alloc (dE #[E J s] 3)).ownsRow (w2.heap.size+2) 3 1 (F ac n ae) n (N.map (bM .i64))):=(o1.alloc _).alloc _
    have fx:Hid (∀ j u,([E J s]:List Value)[j]? = some u->((w5.alloc (dE #[F ac n ae,F aa n ab] 28)).alloc (dE #[E J s] 3)).cell? ((⟨w5.heap.size+1,0,none⟩:Addr).add j)=some u):=by
     have:=aG (w5.alloc (dE #[F ac n ae,F aa n ab] 28)) (dE #[E J s] 3);rw[show (w5.alloc (dE #[F ac n ae,F aa n ab] 28)).heap.size=w5.heap.size+1 by simp] at this;exact World.news_of_block (cs:=#[E J s]) (t:=3) (fr:=(0,0)) this
    have BX:Hid (((w5.alloc (dE #[F ac n ae,F aa n ab] 28)).alloc (dE #[E J s] 3)).heap[w5.heap.size]? = some (dE [F ac n ae,F aa n ab].toArray 28 (0,0))):=by
     show _=_;rw[bX _ _ _ (by simp)];exact Yu _ _ _ _
    obtain⟨br,HF,fi,fj,bd,be,ce,ft⟩:=kh8 o2 hF g1 g2 dy ea cq dx;obtain⟨fb,io⟩:=kh2 dv s2;clear o1 o2 hF g1 g2 dy ea cq a0 a1 al r1 r2 CT dx dv s1 s2
    go_wp2_with (at_builtin;refine wpList_append_lies _ rfl _ _ 25 rfl (w2.heap.size+2) 3 i0 (E J 0) 1 8 underlying25 hi gq gs gu rfl (by decide) _ _ _ rfl cg ⟨w5.heap.size+1,0,none⟩ 1 1 [E J s] rfl rfl fx (λu hu=>by simp at hu;subst hu;rfl) (by decide) (by unfold cK;omega) (by omega) (by simp;omega) (w5.heap.size+2) (by simp) ?_;intro g cap w8 ei cw eg it;have ar:=(cw.block w5.heap.size (by simp;omega) (λe=>by have:=(bd _ e.symm).2;omega)).trans BX;have d0:=Zb ar 0 _ rfl;have d1:=Zb ar 1 _ rfl;have df:=Zg ar 0;have je:=aA ar;have dl:=Zd ei;have fl:=Zd cw;have fs:=Zd eg;have fv:=Zd ar;clear ei cw eg ar)
    obtain⟨w9,bo⟩:=ZG (w8.setCell ⟨w5.heap.size,0,none⟩ (F (some ⟨g,0,none⟩) (n+1) cap));rw[<-bo];have cm:Gr w5 w8 (λq=>(bO ac n ae).ownBlock=some q):=(((Gr.refl w5 (λq=>(bO ac n ae).ownBlock=some q)).new _).new _).grown fl (λk hk=>.inl hk);have au:Gr w5 w9 (λq=>(bO ac n ae).ownBlock=some q):=(by rw[bo];exact cm.one w5.heap.size 0 (.inr (aF _)) _);have bs:w9.heap[w5.heap.size]? = some (dE [F (some ⟨g,0,none⟩) (n+1) cap,F aa n ab].toArray 28 (0,0)):=(by rw[bo];exact set_cells fv 0 _);have ct:ZD w w9:=au.below (Zf bb ce) (by omega) (λq hq=>by have:=(bd q hq).1;omega);have h91:=au.heap (ZE ce H1) (λhq=>by have:=(bd _ hq).1;have:=aA H1;omega);have h92:=au.heap (ZE ce H2) (λhq=>by have:=(bd _ hq).1;omega)
    have ec:g≠w5.heap.size/\w2.heap.size+2<=g:=by
     rcases Za fs with e|e
     ·have:=bd g e;omega
     ·omega
    have gm:(bO aa n ab).ownBlock≠some g:=by
     have ii:w8.ownsRow (w2.heap.size+2) 39 5 (F aa n ab) n K.flatten:=cm.own br (λq hq e=>own_apart (((cg.kept (w':=(w5.alloc (dE #[F ac n ae,F aa n ab] 28)).alloc (dE #[E J s] 3)) (row:=none) (World.grownBy.refl _ _) (by cases ac <;> simp[Value.ownBlock])))) ((br.alloc _).alloc _) (by decide) q e hq);exact own_apart dl ii (by decide) g rfl
    have en:w9.ownsRow (w2.heap.size+2) 3 1 (F (some ⟨g,0,none⟩) (n+1) cap) (n+1) ((N++[s]).map (bM .i64)):=by
     rw[bo];have:=((Gr.refl w8 (λq=>q=w5.heap.size)).one w5.heap.size 0 (.inl rfl) (F (some ⟨g,0,none⟩) (n+1) cap)).own dl (λq hq e=>by cases hq;exact ec.1 e);simpa using this
    have el:w9.ownsRow (w2.heap.size+2) 39 5 (F aa n ab) n K.flatten:=au.own br (λq hq e=>own_apart cg ((br.alloc _).alloc _) (by decide) q e hq);have l9:w5.heap.size<w9.heap.size:=aA bs;have CC:=Zd (CB w9.drew (Zf ct (Zi _)) (by trivial));obtain⟨e0,e1,-⟩:=kc2 bs;obtain⟨k0,k1,k2,k3,k4,kl⟩:=kc5 h91;obtain⟨fe,fk,dg,fp,fo,ez⟩:=kh6 bs au h92 en el ct;clear bo cm au bs ct h91 h92 en el d0 d1 df je CB
    go_region_law (first
     | (refine Y9 (by rfl) 71 #[.agg #[E J p,E J h,E J k,E J o,F ta tn tc]] (by kernel_rfl) CC ?_;rintro e ax ⟨a5,c5,rfl,eb,bx⟩;refine⟨_,rfl,?_⟩;have bf:=ZE bx fe;have m0:=Zb bf 0 _ rfl;have m1:=Zb bf 1 _ rfl;have ml:=aA bf;have fg:=Zd eb;have di:=Zd bx;have fc:=Zd bf;have fm:=Zd ((Gr.of (S:=λ_=>False) bx).own fo.drew (λ_ _ q=>q));clear eb bx bf)
     | (refine step_append_lies _ (by rfl) _ _ _ (by rfl) (w2.heap.size+2) 39 j0 _ 5 56 underlying26 ji gy gz ia rfl (by decide) (F aa n ab) n K.flatten (by rfl) (fm.alloc _) ⟨ax.heap.size,0,none⟩ 1 1 [E J p,E J h,E J k,E J o,F a5 tn c5] (by rfl) (by rfl) (World.news_of_block (cs:=#[E J p,E J h,E J k,E J o,F a5 tn c5]) (t:=39) (fr:=(0,0)) (aG ax _)) (by simp[Value.oneCell']) (by decide) (by unfold cK;omega) (by omega) (by simp;omega) (ax.heap.size+1) (by simp) ?_;intro g2 bg ay eh cu ef ir;have aq:=(cu.block w5.heap.size (by simp;omega) (λe=>by have:=(be _ e.symm).2;omega)).trans ((bX _ _ _ ml).trans fc);have n0:=Zb aq 0 _ rfl;have n1:=Zb aq 1 _ rfl;have nf:=Zg aq 1;have nl:=aA aq;have fu:=Zd eh;have dj:=Zd cu;have fq:=Zd ef;have fd:=Zd aq;clear eh cu ef aq))
    all_goals
     have bu:Gr w9 ay (λq=>(bO aa n ab).ownBlock=some q):=((Gr.of (Zf (Zi w9) di)).new _).grown dj (λk hk=>.inl hk);have du:Gr ax ay (λq=>(bO aa n ab).ownBlock=some q):=((Gr.refl ax _).new _).grown dj (λk hk=>.inl hk);have ep:=bu.heap dg (λe=>by have:=(be _ e).1;omega);obtain⟨cc,bk⟩:=ZG (ay.setCell ⟨w5.heap.size,1,none⟩ (F (some ⟨g2,0,none⟩) (n+1) bg));have dr:cc.heap[w5.heap.size]? = some (dE [F (some ⟨g,0,none⟩) (n+1) cap,F (some ⟨g2,0,none⟩) (n+1) bg].toArray 28 (0,0)):=(by rw[bk];exact set_cells fd 1 _);have er:cc.heap[w.heap.size+2]? = some (dE [F none 0 0,F none 0 0].toArray 28 (0,0)):=by rw[bk];exact ((Gr.refl ay (λq=>q=w5.heap.size)).one w5.heap.size 1 (.inl rfl) _).heap ep (by omega)
     have gf:∀ {W:World} {S:Nat->Prop},Gr W ay S->Gr W ((cc.setCell ⟨w.heap.size+2,0,none⟩ (F (some ⟨g,0,none⟩) (n+1) cap)).setCell ⟨w.heap.size+2,1,none⟩ (F (some ⟨g2,0,none⟩) (n+1) bg)) (λq=>S q\/q=w5.heap.size\/q=w.heap.size+2):=by
      intro W S hW;rw[bk];exact (((hW.mono (λq _ e=>.inl e)).one w5.heap.size 1 (.inl (.inr (.inl rfl))) _).one (w.heap.size+2) 0 (.inl (.inr (.inr rfl))) _).one (w.heap.size+2) 1 (.inl (.inr (.inr rfl))) _
     have go:=di.size
     have de:=Zpc (w9:=w9) (B:=w.heap.size) (t6:=w.heap.size+2) (by omega) (by omega) fb ft HF fg fi fj be rfl l9 (by omega) (by have:=aA dg;omega) fk (gf bu) (gf du) ((gf (Gr.refl ay (λ_=>False))).mono λq _ e=>by rcases e with e|e;exact e.elim;exact e) fp ec.1 gm fu (by
      rcases Za fq with e|e
      ·have:=be g2 e;omega
      ·have:w9.heap.size<=ax.heap.size:=go;omega)
     have fh:=Zd de
     have fa:Hid (ZD w ((cc.setCell ⟨w.heap.size+2,0,none⟩ (F (some ⟨g,0,none⟩) (n+1) cap)).setCell ⟨w.heap.size+2,1,none⟩ (F (some ⟨g2,0,none⟩) (n+1) bg))):=(gf bu).below ez (by omega) (λq e=>by
      rcases e with e|e|e
      ·have:=(be _ e).1;omega
      ·omega
      ·omega)
     obtain⟨y0,y1,yl⟩:=kc2 dr;obtain⟨u0,u1,iy,iz,ul⟩:=kf2 er;rw[<-bk];clear bk gf de bu du ep dr er n0 n1 nf nl m0 m1 ml e0 e1 k0 k1 k2 k3 k4 kl;go_wp2;(try simp only[aV,Exit.then]);refine bB (v:=dG #[.agg #[F (some ⟨g,0,none⟩) (n+1) cap,F (some ⟨g2,0,none⟩) (n+1) bg],E J 0]) ?_ rfl ?_
     ·rw[Zo rfl];go_simp
     ·obtain⟨f1,f2,f3⟩:=Za fh;rw[<-(Za R).1,<-(Za R).2.1];exact⟨_,_,_,_,rfl,f1,f2,f3,Za fa⟩
  ·obtain⟨rfl,rfl,rfl⟩:([]:List Int)=N'/\([]:List Zk)=T'/\z=x:=by
    have q:=Za ap;rw[if_pos q2] at q;exact⟨congrArg (·.1) q,congrArg (·.2.1) q,congrArg (·.2.2) q⟩
   obtain rfl:0=n':=Za cf;have g2:(z != 0)=true:=(by simp[q2]);clear ap h0 h1 h2 q2;go_wp2;(try simp only[aV,Exit.then]);refine bB (v:=dG #[.agg #[F none 0 0,F none 0 0],E J z]) ?_ rfl (Mg ?_)
   ·rw[Zo rfl];go_simp
   ·exact To bb (by omega) bb.size _ _
 ·rw[if_pos q] at hx;obtain⟨rfl,rfl,rfl⟩:([]:List Int)=N'/\([]:List Zk)=T'/\y=x:=⟨congrArg (·.1) hx,congrArg (·.2.1) hx,congrArg (·.2.2) hx⟩;obtain rfl:0=n':=cy;have g:(y != 0)=true:=by simp[q]
  clear ag bv cn cp hN hT sN sT hL sL hy hz hx q;go_enter func63,ntmps63;go_wp2_with fail;rw[<-hX];clear hX;refine C1.mono ?_;rintro e w1 ⟨rfl,am⟩;have h2:=ZE am dp;obtain⟨c0,c1,f0,f1,cl⟩:=kf2 h2;have an:=Zd (Zf HB am);clear am h2 x0 x1 xl C1;go_wp2;(try simp only[aV,Exit.then]);refine bB (v:=dG #[.agg #[F none 0 0,F none 0 0],E J y]) ?_ rfl (Mg ?_)
  ·rw[Zo rfl];go_simp
  ·exact To an (by omega) an.size _ _
end Tr
open Go.RowKit
structure Zro(f:Nat)(caps:Array Value)(w0:World)(C0:List Zj)(D0:Nat->Prop)(I:Nat->(Nat->Prop)->World->List (TxD×List Zj)->Prop):Prop where
 enters:∀ args w,(callFunc f args).run aB w = .ok (.enter f args) w
 start:∀ p w,ZD w0 w->w0.heap.size<=p->p<w.heap.size->I p D0 w []
 dirty:∀ p D w X,I p D w X->∀ q,D q->q≠p/\q<w.heap.size/\(D0 q\/w0.heap.size<=q)
 on:∀ p D w w' X,I p D w X->Gr w w' (λq=>q=p)->I p D w' X
 call:∀ p D wA w X t C' u0 u1 u2,I p D wA X->ZD wA w->Fresh wA.heap.size w (λw2=>Tr.txR.C w2 [u0,u1,u2] t)->Yd (Y6 C0 X)->Yd C'->Zp C'<=Zp (Y6 C0 X)->X.length<8 ->
  Calls aB f (#[.agg #[u0,u1,u2],E J (Zp (Y6 C0 X) - Zp C')]++caps) w λe w'=>e = dF (dG #[])/\Gr w w' D/\∃ D',I p D' w' (X++[(t,C')])
def SwR(w w':World)(x:Int)(D0:Nat->Prop)(K:List ByteArray)(C:List Zj)(h:Int)(I:Nat->(Nat->Prop)->World->List (TxD×List Zj)->Prop)(X:List (TxD×List Zj))(e:Ending):Prop:=
 (x≠0/\e = dF (dG #[dH none,E J x])/\ZD w w') \/
 (x=0/\∃ p D,e = dF (dG #[dH (some ⟨p,0,none⟩),E J 0])/\w.heap.size<=p/\Gr w w' D0/\DoT w' w.heap.size p K C h/\I p D w' X)
structure SwS(w0 wr:World)(h:Int)(D0:Nat->Prop)(I:Nat->(Nat->Prop)->World->List (TxD×List Zj)->Prop)(s0:List ByteArray×List Zj)(L:List TxD)(p k:Nat):Prop where
 gr:Gr w0 wr D0
 all:∃ B D K C X,w0.heap.size<=B/\DoT wr B p K C h/\I p D wr X/\Bk.Right K/\Yd C/\Y6 s0.2 X=C/\X.length<=k/\swT h L s0=X++swT h (L.drop k) (K,C)/\(Z5 h L s0).2=(Z5 h (L.drop k) (K,C)).2
theorem Gr.far{w w1 w2:World}{S T:Nat->Prop}(h:Gr w w1 S)(k:Gr w1 w2 T)(hT:∀ q,T q->w.heap.size<=q\/S q):Gr w w2 S:=
 ⟨k.os.trans h.os,k.tape.trans h.tape,k.output.trans h.output,aN h.size k.size,λi hi hn=>(k.block i (aD hi h.size) (λq=>by
  rcases hT i q with q|q
  ·omega
  ·exact hn q)).trans (h.block i hi hn)⟩
theorem Zqb{h:Int}{L:List TxD}{k:Nat}(hk:k<L.length)(s:List ByteArray×List Zj):swT h (L.drop k) s=if (doD h s L[k]).1=0 then (L[k],(doD h s L[k]).2.2) :: swT h (L.drop (k+1)) (doD h s L[k]).2 else swT h (L.drop (k+1)) s:=by
 rw[aJ hk,swT]
theorem Zmr{h:Int}{L:List TxD}{k:Nat}(hk:k<L.length)(s:List ByteArray×List Zj):(Z5 h (L.drop k) s).2=if (doD h s L[k]).1=0 then (Z5 h (L.drop (k+1)) (doD h s L[k]).2).2 else (Z5 h (L.drop (k+1)) s).2:=by
 rw[aJ hk,Z5];split <;> rfl
theorem Nl(f:Nat)(caps)(D0:Nat->Prop)(I:Nat->(Nat->Prop)->World->List (TxD×List Zj)->Prop)(ka kn kc K la ln lc C a m c L)(h x:Int)(w)
  (hk:Zro f caps w C D0 I) (bd:World) (cz:∀ V,Gr w V D0->ZD bd V) (hE:Env bd) (hK:Bk.TextsAt bd ka kn K) (hC:CoinsAt bd la ln C) (sC:SlOk la ln lc) (hL:TxsAt bd a m L) (hx:swE K C L h=x) :
  Calls aB 78 #[.agg #[F ka kn kc],F la ln lc,F a m c,E J h,.func (.func f) #[] caps] w λe w'=>SwR w w' x D0 (Z5 h L (K,C)).2.1 (Z5 h L (K,C)).2.2 h I (swT h L (K,C)) e:=by
 obtain⟨X,hX,cp,eh⟩:=ka00 w [F ka kn kc] 24;obtain⟨x1,bo⟩:=ZF (Rs K C h);have cl:L.length=m:=hL.1;have da:=cz X (Gr.of cp);have C1:=Zd (Zjl ka kn kc K la ln lc C h x1 X (hK.later da) (hC.later da) sC bo);unfold swE at hx;rw[bo,cl] at hx;obtain⟨HK,HE,HL,dp,HX,dx,ds,dj⟩:=kh8 hk hE hL cz hx bo cl cp;obtain⟨t0,tl⟩:=kc1 eh;clear hk hE hK hC sC hL hx bo cl cp eh cz da;go_enter func78,ntmps78;go_wp2_with fail;rw[<-hX];clear hX;(try go_wp2_with fail);refine C1.mono ?_;rintro e w1 ⟨hr,cn⟩;have be:=Zd (Zf dj cn);have dy:=Zd dj.size
 rcases hr with ⟨h0,rfl⟩|⟨h0,p,rfl,ep,fs,hd⟩
 ·have gx:(x1 != 0)=true:=by simp[h0]
  have au:Hid (x=x1):=by have:=Za HX;rw[if_pos h0] at this;exact this.symm
  clear HX cn C1;go_wp2;go_ret2;rw[Za au];exact .inl ⟨h0,rfl,Za be⟩
 ·subst h0;obtain⟨dk,bz⟩:=kh2 (hd.less dy) (aN dy ep);have ff:=Zd (show p<w1.heap.size by omega);clear hd cn C1 ep fs;by_cases e8:8<m
  ·have g8:(8:Int)<(m:Int):=(by omega);have au:Hid (x=2):=(by have:=Za HX;rw[if_neg (λq=>q rfl),if_pos e8] at this;exact this.symm);clear HX e8;go_wp2;go_ret2;rw[Za au];exact .inl ⟨by decide,rfl,Za be⟩
  ·have g8:¬(8:Int)<(m:Int):=(by omega);have gi:m<=8:=(by omega);have au:Hid (x=0):=(by have:=Za HX;rw[if_neg (λq=>q rfl),if_neg e8] at this;exact this.symm);obtain⟨hR,am,_,_⟩:=Tg dx;have ST:Hid (SwS w w1 h D0 I (K,C) L p 0):=⟨Gr.of be,w.heap.size,D0,K,C,[],aF _,Za dk,HK.start p w1 be bz ff,hR,am,rfl,aF _,rfl,rfl⟩;clear HX hR am e8 dx dk;go_wp2
   go_loopw [33] (λi wr=>∃ k:Nat,k<=m/\i = E J k/\Hid (SwS w wr h D0 I (K,C) L p k)) (λi _=>m - (intOf i).toNat)
   case atStart=>exact⟨0,aI _,rfl,ST⟩
   case round=>
    obtain⟨k,hk,rfl,HS⟩:=hrel;by_cases fq:k<m
    ·obtain⟨hg,B,D,Kk,Ck,Xs,hB,hd,hI,hR,am,ag,ei,aa,ab⟩:=Za HS;have ae:=dp wr hg;have dc:k<L.length:=(by rw[Za ds];exact fq);obtain⟨b,off,rfl,el,es⟩:=HL.2 (by omega);obtain⟨c0,⟨ai,ni,ci,c1,ax,de⟩,ao,no,co,c2,ay,ev⟩:=es k dc;have c0:=Ze ae c0;have c1:=Ze ae c1;have c2:=Ze ae c2;have el:b<wr.heap.size:=aD el ae.size;rw[Zqb dc] at aa;rw[Zmr dc] at ab;obtain⟨t,ht⟩:=ZF (L[k]);rw[ht] at aa ab c0 ax ay;obtain⟨th,tI,tO⟩:=t;simp only at c0 ax ay;obtain⟨⟨y,K',C'⟩,hy⟩:=ZF (doD h (Kk,Ck) (th,tI,tO));rw[hy] at aa ab;simp only at aa ab;obtain⟨Y,hY,an,cm⟩:=ka00 wr [E J th,F ai ni ci,F ao no co] 59;have CD:=Zd (Zqh p Kk Ck h th ai ao ni ci no co tI tO y K' C' Y (HE.later (Zf ae an)) (hd.later an).till am (ax.later (Zf ae an)) (ay.later (Zf ae an)) de hy);obtain⟨y0,y1,y2,yl⟩:=kc3 cm;obtain⟨HG,HB,dm,HI,dv,du,dr,ca⟩:=kh8 hg hB hd hI hR am ag ei;obtain⟨dw,dn,bu,dz,dq,dt,fg,fh⟩:=kh8 aa ab an cm ax ay de ev;have HY:=Zd hy;clear hg hB hd hI hR am ag ei aa ab an cm ax ay de ev hy es ht HS ae;go_wp2_with fail;rw[<-hY];clear hY c0 c1 c2;(try go_wp2_with fail);refine CD.mono ?_;rintro e w2 fp
     rcases fp with ⟨n0,rfl,ek⟩|⟨n0,rfl,cu,en⟩
     ·have gy:(y == 0)=false:=(by simp[n0]);have gh:¬y=0:=n0;have bj:=Zf bu ek
      have cb:Hid (SwS w w2 h D0 I (K,C) L p (k+1)):=by
       refine⟨HG.on bj,B,D,Kk,Ck,Xs,Za HB,dm.later bj,HK.on p D wr w2 Xs HI (Gr.of bj),Za dv,Za du,Za dr,Nat.le_succ_of_le ca,?_,?_⟩
       ·have:=Za dw;rw[if_neg n0] at this;exact this
       ·have:=Za dn;rw[if_neg n0] at this;exact this
      clear bj ek CD n0;go_wp2;go_roundw
      case rel=>exact⟨k+1,by omega,by go_num,cb⟩
      case measure=>simp[intOf];omega
     ·subst n0;have fo:=Lm dv HY;obtain⟨f1,_,f3,f4,f5⟩:=fo;have sm:=Tr.tx_small f5;obtain⟨fb,fc,gc⟩:=kh3 f1 f3 f4;have cw:Gr wr w2 (λq=>q=p):=(Gr.of bu).trans cu;have eo:=HK.dirty p D wr Xs HI;have cg:=HK.on p D wr w2 Xs HI cw;have gj:p<wr.heap.size:=(by obtain⟨_,_,_,_,_,_,hh,_⟩:=Za dm;exact aA hh);have cx:Gr w w2 D0:=HG.far cw (λq e=>.inl (by rw[e];exact Za bz));have cq:=dp w2 cx;have CT:=Zd (Tr.clTx_is th ai ao ni ci no co tI tO w2 (dq.later cq) (dt.later cq) fg fh (by rw[<-(Za dq).1];exact sm.1) (by rw[<-(Za dt).1];exact sm.2.1) sm.2.2.1 sm.2.2.2);have h20:=(cu.block _ (aA dz) (by intro q;have q:wr.heap.size=p:=q;omega)).trans dz;obtain⟨z0,z1,z2,zl⟩:=kc3 h20;obtain⟨fd,ez,gd,dl⟩:=kh4 cx eo cg en;have ea:=Zd bu.size;have ag:Y6 C Xs=Ck:=Za dr;have bs:=Zd (λw3 (bb:ZD w2 w3) a1 c1 a2 c2 (bi:Fresh w2.heap.size w3 (λW=>Tr.txR.C W [E J th,F a1 ni c1,F a2 no c2] (th,tI,tO)))=>HK.call p D w2 w3 Xs (th,tI,tO) C' _ _ _ cg bb bi (by rw[ag];exact Za du) f3 (by rw[ag];exact f4) (by have:=Za ca;omega));rw[ag] at bs;clear f1 f3 f4 f5 sm cw eo cg cx cq h20 en cu ag CD y0 y1 y2 yl;go_wp2_with fail;refine CT.mono ?_;rintro e w3 ⟨a1,c1,a2,c2,rfl,bi,bb⟩;obtain⟨CL,bf⟩:=kh2 (bs w3 bb a1 c1 a2 c2 bi) bb;clear bi bb CT bs z0 z1 z2 zl;have eg:=HK.enters;go_wp2_with fail;refine CL.mono ?_;rintro e w4 ⟨rfl,bk,D',ef⟩
      have cb:Hid (SwS w w4 h D0 I (K,C) L p (k+1)):=by
       have ct:=Za ez;refine⟨(fd.on bf).far bk (λq e=>(ct q e).2.2.symm),Y.heap.size,D',K',C',Xs++[((th,tI,tO),C')],?_,?_,ef,Za fb,Za fc,Wj _ _ _ _,?_,?_,?_⟩
       ·exact aN HG.size ea
       ·refine dl.on ((Gr.of bf).trans (bk.mono (λq _ e=>aD (ct q e).2.1 ea))) ?_;have er:p<w2.heap.size:=(by obtain⟨_,_,_,_,_,_,hh,_⟩:=Za dl;exact aA hh);exact (bk.block p (aD er bf.size) (λe=>(ct p e).1 rfl)).trans (bf.block p er)
       ·rw[cJ];exact Nat.succ_le_succ ca
       ·have:=Za dw;(first|rw[if_pos rfl] at this|rw[if_pos trivial] at this);rw[this,List.append_assoc];rfl
       ·have:=Za dn;(first|rw[if_pos rfl] at this|rw[if_pos trivial] at this);exact this
      clear bk ef CL eg;go_wp2;go_roundw
      case rel=>exact⟨k+1,by omega,by go_num,cb⟩
      case measure=>simp[intOf];omega
    ·have gn:k=m:=(by omega);subst gn;obtain⟨hg,B,D,Kk,Ck,Xs,hB,hd,hI,_,_,_,_,aa,ab⟩:=Za HS;rw[List.drop_of_length_le (by rw[Za ds];exact aF _)] at aa ab;rw[swT,List.append_nil] at aa;have e1:(Z5 h L (K,C)).2=(Kk,Ck):=ab
     have ew:Hid (SwR w wr x D0 (Z5 h L (K,C)).2.1 (Z5 h L (K,C)).2.2 h I (swT h L (K,C)) (dF (dG #[dH (some ⟨p,0,none⟩),E J 0]))):=by
      rw[e1,aa];exact .inr ⟨Za au,p,D,rfl,Za bz,hg,hd.less hB,hI⟩
     clear hg hB hd hI aa ab e1 HS;go_wp2;go_ret2;exact Za ew
structure St(b p:Nat)(w:World)(v:Value)(K:List (List Value))(L:List TxD):Prop where
 box:w.heap[b]? = some (dE #[v] 37 (0,0))
 own:w.ownsRow (p+1) 59 3 v L.length K.flatten
 kept:∀ w2,Gr w w2 (λq=>q<=p\/v.ownBlock=some q)->Tr.AllC Tr.txR w2 K L
 bp:b<p
 pl:p<w.heap.size
theorem St.start{b p:Nat}{w:World}(h:w.heap[b]? = some (dE #[F none 0 0] 37 (0,0)))(bp:b<p)(pl:p<w.heap.size):St b p w (F none 0 0) [] []:=
 ⟨h,⟨rfl,.inl ⟨rfl,rfl⟩⟩,λ_ _=>⟨rfl,λi h1 _=>absurd h1 (by simp)⟩,bp,pl⟩
theorem St.on{b p:Nat}{w w' v K L}{S:Nat->Prop}(h:St b p w v K L)(g:Gr w w' S)(hS:∀ q,S q->q<=p/\q≠b):St b p w' v K L:=
 ⟨g.heap h.box (λe=>(hS b e).2 rfl),g.own h.own (λk hk e=>by have:=(h.own.lt k hk).1;have:=(hS k e).1;omega),
  λw2 g2=>h.kept w2 ((g.mono (λq _ e=>.inl (hS q e).1)).trans g2),h.bp,aD h.pl g.size⟩
theorem St.push{b p:Nat}{wA w Y w':World}{v v':Value}{K:List (List Value)}{L:List TxD}{u0 u1 u2 t}(h:St b p wA v K L)(hb:ZD wA w)(hF:Fresh wA.heap.size w (λw2=>Tr.txR.C w2 [u0,u1,u2] t))(ac:ZD w Y)
  (ab:Y.grownBy w' v.ownBlock) (aj:w'.ownsRow (p+1) 59 3 v' (L.length+1) (K.flatten++[u0,u1,u2])) (hv:v.ownBlock=v'.ownBlock\/∃ g,v'.ownBlock=some g/\Y.heap.size<=g) :
  St b p (w'.setCell ⟨b,0,none⟩ v') v' (K++[[u0,u1,u2]]) (L++[t])/\Gr w (w'.setCell ⟨b,0,none⟩ v') (λq=>q=b\/v.ownBlock=some q):=by
 have ag:ZD wA Y:=Zf hb ac;have an:=h.bp;have au:=h.pl;have av:=hb.size;have aw:=ac.size;have ax:=ab.size;have aq:v.ownBlock≠some b:=λe=>by have:=(h.own.lt b e).1;omega
 have bx:w'.heap[b]? = some (dE #[v] 37 (0,0)):=((ab.block b (by omega) (λe=>aq e.symm)).trans (ag.block b (by omega))).trans h.box;have g1:Gr wA w' (λq=>q<=p\/v.ownBlock=some q):=(Gr.of ag).grown ab (λk e=>.inl (.inr e));have g2:Gr w w' (λq=>q=b\/v.ownBlock=some q):=(Gr.of ac).grown ab (λk e=>.inl (.inr e));have g3:Gr w (w'.setCell ⟨b,0,none⟩ v') (λq=>q=b\/v.ownBlock=some q):=g2.one b 0 (.inl (.inl rfl)) v';have g4:Gr wA (w'.setCell ⟨b,0,none⟩ v') (λq=>q<=p\/v.ownBlock=some q):=g1.one b 0 (.inl (.inl (by omega))) v';refine⟨⟨Vk bx,?_,λw2 gw=>?_,an,by have:=g4.size;omega⟩,g3⟩
 ·rw[cJ,List.flatten_append];exact (((Gr.refl w' (λq=>q=b)).one b 0 (.inl rfl) v').own aj (λk hk e=>by have:=(aj.lt k hk).1;omega))
 ·refine Tr.AllC.snoc (h.kept w2 (g4.far gw (λq e=>?_))) (hF w2 ?_)
  ·rcases e with e|e
   ·exact .inr (.inl e)
   ·rcases hv with q1|⟨g,q1,q2⟩
    ·exact .inr (.inr (q1.trans e))
    ·rw[q1] at e;injection e with e;exact .inl (by omega)
  ·refine (g3.mono (T:=λq=>q<wA.heap.size) (λq _ e=>?_)).far gw (λq e=>?_)
   ·rcases e with e|e
    ·omega
    ·exact (h.own.lt q e).2
   ·rcases e with e|e
    ·exact .inr (by omega)
    ·rcases hv with q1|⟨g,q1,q2⟩
     ·exact .inr (h.own.lt q (q1.trans e)).2
     ·rw[q1] at e;injection e with e;exact .inl (by omega)
theorem St.txs{b p:Nat}{w v K}{L:List TxD}(h:St b p w v K L):∃ a c,v = F a L.length c/\TxsAt w a L.length L/\SlOk a L.length c:=
 Tr.rows_of_own Tr.txR h.own (h.kept w (Gr.refl _ _)) rfl
theorem Tryz.infoTx9:(Tryz.prog.info? 59).map (λi=>(i.zero,i.size,i.bytes))=some (some (.agg #[E J 0,F none 0 0,F none 0 0]),3,56):=by kernel_rfl
def FeI(w:World)(b:Nat)(aa:Int):Prop:=w.heap[b]? = some (dE #[E J aa] 3 (0,0))
theorem Zex(b b2 p:Nat)(va vc K)(L:List TxD)(ab:Int)(u0 u1 u2 t)(wA w:World)(h:St b p wA (F va L.length vc) K L)(aa:Int)(h2:FeI wA b2 aa)(bo:b≠b2)(de:b2<p)(f1:0<=aa)(f2:aa<=1000000000)(f3:0<=ab)(f4:ab<=1000000000)(hb:ZD wA w)(hF:Fresh wA.heap.size w (λw2=>Tr.txR.C w2 [u0,u1,u2] t))(hl:L.length<8) :
  Calls aB 79 (#[.agg #[u0,u1,u2],E J ab]++#[dH (some ⟨b,0,none⟩),dH (some ⟨b2,0,none⟩)]) w λe w'=>e = dF (dG #[])/\(∃ v',∃ K',St b p w' v' K' (L++[t])/\FeI w' b2 (aa+ab))/\Gr w w' (λq=>(q=b\/q=b2)\/(bO va L.length vc).ownBlock=some q):=by
 obtain⟨i0,hi,cm,cn,cp⟩:=info_parts Tryz.infoTx9;obtain⟨ai,ni,ci,ao,no,co,e,_⟩:=hF w (Gr.refl _ _);simp only[bC,and_true] at e;obtain⟨rfl,rfl,rfl⟩:=e;obtain⟨U,hU⟩:=ZG ((w.alloc (dE #[E J t.1,F ai ni ci,F ao no co] 59)).alloc (dE #[E J t.1,F ai ni ci,F ao no co] 59));have az:ZD w U:=by rw[hU];exact Zf (Zh _ _) (Zh _ _)
 have bj:U.heap[w.heap.size+1]? = some (dE #[E J t.1,F ai ni ci,F ao no co] 59 (0,0)):=by
  rw[hU];have:=Zw (w.alloc (dE #[E J t.1,F ai ni ci,F ao no co] 59)) (E J t.1) (F ai ni ci) (F ao no co) 59;rw[show (w.alloc (dE #[E J t.1,F ai ni ci,F ao no co] 59)).heap.size=w.heap.size+1 by simp] at this;exact this
 have dd:U.heap.size=w.heap.size+2:=by rw[hU];simp
 have df:=h.bp;have cj:=h.pl;have cl:=hb.size;have ap:=Zf hb az;have bg:U.ownsRow (p+1) 59 3 (F va L.length vc) L.length K.flatten:=(Gr.of (S:=λ_=>False) ap).own h.own (λ_ _ q=>q);have ax:=(hb.block b (by omega)).trans h.box;have bh:=(ap.block b (by omega)).trans h.box;have b0:=Zb ax 0 _ rfl;have bl:b<w.heap.size:=aA ax;have bi:=(ap.block b2 (by omega)).trans h2;have cc:Hid (∀ j u,[bM .i64 t.1,F ai ni ci,F ao no co][j]? = some u->World.cell? ((w.alloc (dE #[E J t.1,F ai ni ci,F ao no co] 59)).alloc (dE #[E J t.1,F ai ni ci,F ao no co] 59)) ((⟨w.heap.size+1,0,none⟩:Addr).add j)=some u):=by rw[<-hU];exact World.news_of_block bj
 have bf:Hid (World.ownsRow ((w.alloc (dE #[E J t.1,F ai ni ci,F ao no co] 59)).alloc (dE #[E J t.1,F ai ni ci,F ao no co] 59)) (p+1) 59 3 (F va L.length vc) L.length K.flatten):=by rw[<-hU];exact bg
 have cg:p+1<=((w.alloc (dE #[E J t.1,F ai ni ci,F ao no co] 59)).alloc (dE #[E J t.1,F ai ni ci,F ao no co] 59)).heap.size:=by rw[<-hU];omega
 have av:Hid (∀ q,q<=p->(bO va L.length vc).ownBlock≠some q):=λq hq e=>by have:=(h.own.lt q e).1;omega
 obtain⟨HH,bt,bv,bs,ar,au⟩:=kh6 h hb hF az bh hl;obtain⟨n,hn⟩:=ZF (L.length);have bd:=Zd bi;have fw:w.cell? ⟨b2,0,none⟩=some (E J aa):=Zb ((hb.block b2 (by omega)).trans h2) 0 _ rfl;have HN:=Zd hn;rw[hn] at bf au b0 av ar HH bh;simp only[hn];clear h hb hF az bj bg ax ap cj cl hn hl h2 bi;go_enter func79,ntmps79
 go_wp2_with (at_builtin;refine wpList_append_lies _ rfl _ _ 37 rfl (p+1) 59 i0 (.agg #[E J 0,F none 0 0,F none 0 0]) 3 56 underlying37 hi cm cn cp rfl (by decide) _ _ _ rfl bf ⟨w.heap.size+1,0,none⟩ 1 1 [E J t.1,F ai ni ci,F ao no co] rfl rfl cc (λu hu=>by simp at hu;rcases hu with rfl|rfl|rfl <;> rfl) (by decide) (by have:=Za au;unfold cK;omega) (by have:=Za au;omega) cg _ rfl ?_;intro g7 ah w7 bq ak bb _;rw[<-hU] at ak bb;have am:=(ak.block b (aA ar) (λe=>av b (by omega) e.symm)).trans ar;have ct:=Zd am;have ca:=Zd bq;have bx:=Zd ak;have cb:=Zd bb;have dg:=Zb am 0 _ rfl;have di:=aA am;have dh:=Zg am 0;have aj:=(ak.block b2 (aA bd) (λe=>av b2 (by omega) e.symm)).trans bd;have bu:=Zd aj;have cz:=Zb aj 0 _ rfl;have db:=aA aj;have da:=Zg aj 0;clear aj;clear am bq ak bb)
 have PU:=St.push (v':=F (some ⟨g7,0,none⟩) (n+1) ah) HH bt bv bs bx (by rw[Za HN];exact Za ca) (by
  rcases Za cb with q|q
  ·exact .inl q
  ·exact .inr ⟨g7,rfl,by omega⟩)
 have g9:Gr (w7.setCell ⟨b,0,none⟩ (F (some ⟨g7,0,none⟩) (n+1) ah)) ((w7.setCell ⟨b,0,none⟩ (F (some ⟨g7,0,none⟩) (n+1) ah)).setCell ⟨b2,0,none⟩ (E J (aa+ab))) (λq=>q=b2):=(Gr.refl _ (λq=>q=b2)).one b2 0 (.inl rfl) _;have R1:=Zd (PU.1.on g9 (λq e=>by subst e;exact⟨by omega,λq=>bo q.symm⟩));have R2:Hid (FeI ((w7.setCell ⟨b,0,none⟩ (F (some ⟨g7,0,none⟩) (n+1) ah)).setCell ⟨b2,0,none⟩ (E J (aa+ab))) b2 (aa+ab)):=Vk ((heap_setCell_other w7 ⟨b,0,none⟩ b2 _ (λe=>bo e.symm)).trans bu);have R3:Hid (Gr w ((w7.setCell ⟨b,0,none⟩ (F (some ⟨g7,0,none⟩) (n+1) ah)).setCell ⟨b2,0,none⟩ (E J (aa+ab))) (λq=>(q=b\/q=b2)\/(bO va n vc).ownBlock=some q)):=(PU.2.mono (λq _ e=>e.elim (λe=>.inl (.inl e)) .inr)).trans (g9.mono (λq _ e=>.inl (.inr e)));clear PU g9;(try go_wp2)
 ((try simp only[aV,Exit.then]);first|refine bodyPost_end (results_none rfl _ _ _) rfl ?_|refine bB (results_none rfl _ _ _) rfl ?_)
 exact⟨rfl,⟨_,_,Za R1,Za R2⟩,Za R3⟩
theorem Zkl(b b2 p:Nat)(va vc K)(L:List TxD)(ab:Int)(u0 u1 u2 t)(wA w:World)(h:St b p wA (F va L.length vc) K L)(aa:Int)(h2:FeI wA b2 aa)(bo:b≠b2)(df:b2<p)(f1:0<=aa)(f2:aa<=1000000000)(f3:0<=ab)(f4:ab<=1000000000)(hb:ZD wA w)(hF:Fresh wA.heap.size w (λw2=>Tr.txR.C w2 [u0,u1,u2] t))(hl:L.length<3) :
  Calls aB 82 (#[.agg #[u0,u1,u2],E J ab]++#[dH (some ⟨b,0,none⟩),dH (some ⟨b2,0,none⟩)]) w λe w'=>e = dF (dG #[])/\(∃ v',∃ K',St b p w' v' K' (L++[t])/\FeI w' b2 (aa+ab))/\Gr w w' (λq=>(q=b\/q=b2)\/(bO va L.length vc).ownBlock=some q):=by
 obtain⟨i0,hi,cm,cn,cp⟩:=info_parts Tryz.infoTx9;obtain⟨ai,ni,ci,ao,no,co,e,_⟩:=hF w (Gr.refl _ _);simp only[bC,and_true] at e;obtain⟨rfl,rfl,rfl⟩:=e;obtain⟨U,hU⟩:=ZG ((w.alloc (dE #[E J t.1,F ai ni ci,F ao no co] 59)).alloc (dE #[E J t.1,F ai ni ci,F ao no co] 59));have az:ZD w U:=by rw[hU];exact Zf (Zh _ _) (Zh _ _)
 have bj:U.heap[w.heap.size+1]? = some (dE #[E J t.1,F ai ni ci,F ao no co] 59 (0,0)):=by
  rw[hU];have:=Zw (w.alloc (dE #[E J t.1,F ai ni ci,F ao no co] 59)) (E J t.1) (F ai ni ci) (F ao no co) 59;rw[show (w.alloc (dE #[E J t.1,F ai ni ci,F ao no co] 59)).heap.size=w.heap.size+1 by simp] at this;exact this
 have de:U.heap.size=w.heap.size+2:=by rw[hU];simp
 have dg:=h.bp;have cj:=h.pl;have cl:=hb.size;have aq:=Zf hb az;have bg:U.ownsRow (p+1) 59 3 (F va L.length vc) L.length K.flatten:=(Gr.of (S:=λ_=>False) aq).own h.own (λ_ _ q=>q);have ax:=(hb.block b (by omega)).trans h.box;have bh:=(aq.block b (by omega)).trans h.box;have b0:=Zb ax 0 _ rfl;have bl:b<w.heap.size:=aA ax;have bi:=(aq.block b2 (by omega)).trans h2;have cc:Hid (∀ j u,[bM .i64 t.1,F ai ni ci,F ao no co][j]? = some u->World.cell? ((w.alloc (dE #[E J t.1,F ai ni ci,F ao no co] 59)).alloc (dE #[E J t.1,F ai ni ci,F ao no co] 59)) ((⟨w.heap.size+1,0,none⟩:Addr).add j)=some u):=by rw[<-hU];exact World.news_of_block bj
 have bf:Hid (World.ownsRow ((w.alloc (dE #[E J t.1,F ai ni ci,F ao no co] 59)).alloc (dE #[E J t.1,F ai ni ci,F ao no co] 59)) (p+1) 59 3 (F va L.length vc) L.length K.flatten):=by rw[<-hU];exact bg
 have cg:p+1<=((w.alloc (dE #[E J t.1,F ai ni ci,F ao no co] 59)).alloc (dE #[E J t.1,F ai ni ci,F ao no co] 59)).heap.size:=by rw[<-hU];omega
 have av:Hid (∀ q,q<=p->(bO va L.length vc).ownBlock≠some q):=λq hq e=>by have:=(h.own.lt q e).1;omega
 obtain⟨HH,bt,bv,bs,au,ap⟩:=kh6 h hb hF az bh hl;obtain⟨n,hn⟩:=ZF (L.length);have bd:=Zd bi;have fw:w.cell? ⟨b2,0,none⟩=some (E J aa):=Zb ((hb.block b2 (by omega)).trans h2) 0 _ rfl;have HN:=Zd hn;rw[hn] at bf ap b0 av au HH bh;simp only[hn];clear h hb hF az bj bg ax aq cj cl hn hl h2 bi;go_enter func82,ntmps82;have gl:(n:Int)<3:=by have:=Za ap;omega
 go_wp2_with (at_builtin;refine wpList_append_lies _ rfl _ _ 37 rfl (p+1) 59 i0 (.agg #[E J 0,F none 0 0,F none 0 0]) 3 56 underlying37 hi cm cn cp rfl (by decide) _ _ _ rfl bf ⟨w.heap.size+1,0,none⟩ 1 1 [E J t.1,F ai ni ci,F ao no co] rfl rfl cc (λu hu=>by simp at hu;rcases hu with rfl|rfl|rfl <;> rfl) (by decide) (by have:=Za ap;unfold cK;omega) (by have:=Za ap;omega) cg _ rfl ?_;intro g7 ah w7 bq ak bb _;rw[<-hU] at ak bb;have am:=(ak.block b (aA au) (λe=>av b (by omega) e.symm)).trans au;have ct:=Zd am;have ca:=Zd bq;have bx:=Zd ak;have cb:=Zd bb;have dh:=Zb am 0 _ rfl;have dj:=aA am;have di:=Zg am 0;have aj:=(ak.block b2 (aA bd) (λe=>av b2 (by omega) e.symm)).trans bd;have bu:=Zd aj;have cz:=Zb aj 0 _ rfl;have db:=aA aj;have da:=Zg aj 0;clear aj;clear am bq ak bb)
 have PU:=St.push (v':=F (some ⟨g7,0,none⟩) (n+1) ah) HH bt bv bs bx (by rw[Za HN];exact Za ca) (by
  rcases Za cb with q|q
  ·exact .inl q
  ·exact .inr ⟨g7,rfl,by omega⟩)
 have g9:Gr (w7.setCell ⟨b,0,none⟩ (F (some ⟨g7,0,none⟩) (n+1) ah)) ((w7.setCell ⟨b,0,none⟩ (F (some ⟨g7,0,none⟩) (n+1) ah)).setCell ⟨b2,0,none⟩ (E J (aa+ab))) (λq=>q=b2):=(Gr.refl _ (λq=>q=b2)).one b2 0 (.inl rfl) _;have R1:=Zd (PU.1.on g9 (λq e=>by subst e;exact⟨by omega,λq=>bo q.symm⟩));have R2:Hid (FeI ((w7.setCell ⟨b,0,none⟩ (F (some ⟨g7,0,none⟩) (n+1) ah)).setCell ⟨b2,0,none⟩ (E J (aa+ab))) b2 (aa+ab)):=Vk ((heap_setCell_other w7 ⟨b,0,none⟩ b2 _ (λe=>bo e.symm)).trans bu);have R3:Hid (Gr w ((w7.setCell ⟨b,0,none⟩ (F (some ⟨g7,0,none⟩) (n+1) ah)).setCell ⟨b2,0,none⟩ (E J (aa+ab))) (λq=>(q=b\/q=b2)\/(bO va n vc).ownBlock=some q)):=(PU.2.mono (λq _ e=>e.elim (λe=>.inl (.inl e)) .inr)).trans (g9.mono (λq _ e=>.inl (.inr e)));clear PU g9;(try go_wp2)
 ((try simp only[aV,Exit.then]);first|refine bodyPost_end (results_none rfl _ _ _) rfl ?_|refine bB (results_none rfl _ _ _) rfl ?_)
 exact⟨rfl,⟨_,_,Za R1,Za R2⟩,Za R3⟩
theorem Zbm(b b2 p:Nat)(va vc K)(L:List TxD)(ae:Int)(u0 u1 u2 t)(wA w:World)(h:St b p wA (F va L.length vc) K L)(hb:ZD wA w)(hF:Fresh wA.heap.size w (λw2=>Tr.txR.C w2 [u0,u1,u2] t))(hl:3<=L.length) :
  Calls aB 82 (#[.agg #[u0,u1,u2],E J ae]++#[dH (some ⟨b,0,none⟩),dH (some ⟨b2,0,none⟩)]) w λe w'=>e = dF (dG #[])/\ZD w w':=by
 obtain⟨ai,ni,ci,ao,no,co,e,_⟩:=hF w (Gr.refl _ _);simp only[bC,and_true] at e;obtain⟨rfl,rfl,rfl⟩:=e;have HB:=Zd (Zh w (dE #[E J t.1,F ai ni ci,F ao no co] 59));have ag:=h.bp;have aj:=h.pl;have aa:=(hb.block b (by omega)).trans h.box;have b0:=Zb aa 0 _ rfl;have bl:b<w.heap.size:=aA aa;have gl:¬((L.length:Int)<3):=by omega
 obtain⟨n,hn⟩:=ZF (L.length);rw[hn] at b0 gl;clear h hb hF ag aj aa hl hn;go_enter func82,ntmps82;go_wp2
 ((try simp only[aV,Exit.then]);first|refine bodyPost_end (results_none rfl _ _ _) rfl ?_|refine bB (results_none rfl _ _ _) rfl ?_)
 exact⟨rfl,Za HB⟩
