import Derived.Test.YtmomfkikogbdeaaGreatDoorH
import Derived.Test.YtmomfkikogbdeaaGreatDoorG24
open Go.Proofs.Tryz
open Classical renaming not_not->bY
open Go renaming maxLen->bP,lt_of_block->aA,bodyPost_ret->bA,heap_alloc_new->aR
open Go.Ending renaming returned->cY
open Go.Exit renaming inBlock->aV
open Go.IntKind renaming i64->J
open Go.Obj renaming cells->cW
open Go.Proofs.Tryz renaming prog->aB
open Go.RowKit renaming Below->aD
open Go.RowKit.Below renaming heap_alloc->bM
open Go.Value renaming int->cD,slice->bH,int->E,slice->F,tuple->cZ,pointer->dA
open List renaming mem_cons->bC,length_append->cF,drop_eq_getElem_cons->aN
open List.cons renaming injEq->bJ
open Nat renaming le_refl->aH,zero_le->aQ,le_trans->aS,lt_of_lt_of_le->aE
set_option maxHeartbeats 12800000
set_option maxRecDepth 10000
namespace Go.Proofs.YtmomfkikogbdeaaGreatDoor.Tr
open Go.RowKit
def addE(N:List Int)(T:List Zl)(x:Int)(b:Zl):List Int×List Zl×Int:=
 if chkTr N T≠0 then ([],[],chkTr N T) else if nextD N T x b≠0 then ([],[],nextD N T x b) else if N.length=24 then ([],[],12) else (N++[x],T++[b],0)
theorem La:∀ (l pre:List InD),Yd pre l=0->∀ x∈l,x.2.2.length<=16
 | [],_,_,x,hx=>by cases hx
 | y :: r,pre,h,x,hx=>by
  rw[Yd] at h;split at h
  ·next q=>
   rcases bC.1 hx with rfl|hx
   ·unfold Xq at q;split at q
    ·cases q
    ·split at q
     ·next q1=>exact absurd q q1
     ·next q1=>exact R9 (bY.1 q1)
   ·exact La r _ h x hx
  ·next q=>exact absurd h q
theorem P9:∀ (l:List Z5),Yf l=0->∀ x∈l,x.2.length<=16
 | [],_,x,hx=>by cases hx
 | y :: r,h,x,hx=>by
  rw[Yf] at h;split at h
  ·next q=>
   rcases bC.1 hx with rfl|hx
   ·unfold Y1 at q;split at q
    ·cases q
    ·exact R9 q
   ·exact P9 r h x hx
  ·next q=>exact absurd h q
theorem tx_small{t:TxD}(h:Zv t=0):TxSmall t:=by
 unfold Zv at h;split at h
 ·cases h
 ·next q0=>
  split at h
  ·cases h
  ·split at h
   ·cases h
   ·split at h
    ·next q=>exact absurd h q
    ·next q=>
     have h1:=La _ _ (bY.1 q);unfold Yi at h;split at h
     ·next q2=>
      have h2:=P9 _ q2;exact⟨by omega,by omega,λx hx=>by have:=h1 x hx;omega,λx hx=>by have:=h2 x hx;omega⟩
     ·next q2=>exact absurd h q2
theorem Uo(h:Int):∀ (T:List TxD) (i:Nat),Xh h i T=0->∀ t∈T,Zv t=0
 | [],_,_,t,z=>by cases z
 | u :: r,i,q,t,z=>by
  rw[Xh] at q;split at q
  ·next q1=>exact absurd q q1
  ·next q1=>
   split at q
   ·cases q
   ·rcases bC.1 z with rfl|z
    ·exact bY.1 q1
    ·exact Uo h r _ q t z
theorem blk_small{b:Zl}(h:Yn b=0):BlkSmall b:=by
 unfold Yn at h;split at h
 ·cases h
 ·split at h
  ·cases h
  ·next q=>
   split at h
   ·cases h
   ·exact⟨by omega,λt z=>tx_small (Uo _ _ _ h t z)⟩
theorem J9:∀ (M:List Int) (U:List Zl) (N:List Int) (T:List Zl),M.length=U.length->Y5 N T M U=0->∀ b∈U,Yn b=0
 | [],[],_,_,_,_=>λb Q=>by cases Q
 | [],_ :: _,_,_,h,_=>by cases h
 | _ :: _,[],_,_,h,_=>by cases h
 | x :: M,b :: U,N,T,h,hc=>by
  rw[Y5] at hc;split at hc
  ·next q=>exact absurd hc q
  ·next q=>
   have h1:=Qm (bY.1 q);have h2:=J9 M U _ _ (by simpa using h) hc;intro y z
   rcases bC.1 z with rfl|z
   ·exact h1
   ·exact h2 y z
def AddR(w w':World)(N:List Int)(T:List Zl)(n:Nat)(x:Int)(e:Ending):Prop:=
 ∃ z c1 Q c2,e = cY (cZ #[.agg #[F z n c1,F Q n c2],E J x])/\Fresh w.heap.size w' (λw2=>IntsAt w2 z n N/\BlksAt w2 Q n T)/\SlOk z n c1/\SlOk Q n c2/\aD w.heap.size w w'
theorem Hn{w w':World}{x:Int}(z:aD w.heap.size w w'):AddR w w' [] [] 0 x (cY (cZ #[.agg #[F none 0 0,F none 0 0],E J x])):=
 ⟨none,0,none,0,rfl,λ_ _=>⟨IntsAt.nil _ _,RowsAt.nil _ _⟩,⟨aH _,aQ _,λ_=>⟨rfl,rfl⟩⟩,⟨aH _,aQ _,λ_=>⟨rfl,rfl⟩⟩,z⟩
theorem Ra{w W:World}{t:Nat}(z:aD w.heap.size w W)(ht:w.heap.size<=t)(Q:w.heap.size<=W.heap.size)(u v:Value):aD w.heap.size w ((W.setCell ⟨t,0,none⟩ u).setCell ⟨t,1,none⟩ v):=
 (((Gr.refl W (λq=>q=t)).one t 0 (.inl rfl) u).one t 1 (.inl rfl) v).below z Q (λk e=>by omega)
theorem Zia{B z G O t6 n:Nat}{w5 w9 am an Q:World}{v1 v2:Value}{g cap g2 ag:Nat}{N:List Int}{T:List Zl}{s:Int}{b:Zl}{K:List (List Value)}{cs:List Value}
  (hB:B<=z) (bx:t6<z) (bt:z<=G) (bb:T.length=n) (hF:Fresh G w5 (λw2=>AllC blkR w2 K T)) (hf:Fresh w9.heap.size am (λw2=>blkR.C w2 cs b))
  (h1:∀ q,v1.ownBlock=some q->q<G) (h2:∀ q,v2.ownBlock=some q->q<G) (ax:∀ q,v2.ownBlock=some q->z<=q/\q<w5.heap.size) (hO:O=w5.heap.size) (bv:O<w9.heap.size) (bs:B<=w9.heap.size) (bz:t6<w9.heap.size)
  (g9:Gr w5 w9 (λq=>v1.ownBlock=some q)) (gF:Gr w9 Q (λq=>v2.ownBlock=some q\/q=O\/q=t6)) (au:Gr am Q (λq=>v2.ownBlock=some q\/q=O\/q=t6)) (av:Gr an Q (λq=>q=O\/q=t6))
  (al:w9.ownsRow z 3 1 (F (some ⟨g,0,none⟩) (n+1) cap) (n+1) ((N++[s]).map (cD .i64))) (hg:g≠O) (bh:v2.ownBlock≠some g)
  (aj:an.ownsRow z 39 5 (F (some ⟨g2,0,none⟩) (n+1) ag) (n+1) (K.flatten++cs)) (bi:g2≠O) :
  Fresh B Q (λw2=>IntsAt w2 (some ⟨g,0,none⟩) (n+1) (N++[s])/\BlksAt w2 (some ⟨g2,0,none⟩) (n+1) (T++[b]))/\SlOk (some ⟨g,0,none⟩) (n+1) cap/\SlOk (some ⟨g2,0,none⟩) (n+1) ag:=by
 have gb:=(al.lt g rfl).1;have br:=(aj.lt g2 rfl).1
 have ad:=gF.own al (λq hq e=>by
  cases hq
  rcases e with e|e|e
  ·exact bh e
  ·exact hg e
  ·simp only at e;omega)
 have ac:=av.own aj (λq hq e=>by
  cases hq
  rcases e with e|e
  ·exact bi e
  ·simp only at e;omega)
 have az:Fresh G Q (λw2=>AllC blkR w2 K T):=hF.on (((g9.mono (T:=λq=>v1.ownBlock=some q\/v2.ownBlock=some q\/q=O\/q=t6) λq _ e=>.inl e).trans (gF.mono λq _ e=>.inr e)).mono λq hq e=>by
  rcases e with e|e|e|e
  ·exact h1 q e
  ·exact h2 q e
  ·omega
  ·omega)
 have be:Fresh w9.heap.size Q (λw2=>blkR.C w2 cs b):=hf.on (au.mono λq _ e=>by
  rcases e with e|e|e
  ·have:=(ax q e).2;omega
  ·omega
  ·omega)
 have s1:=Zx ad;have s2:=Zx ac;obtain⟨a1,c1,e1,s1,_⟩:=s1;obtain⟨a2,c2,e2,s2,_⟩:=s2;cases e1;cases e2;refine⟨λw2 g2=>?_,s1,s2⟩;have bk:=g2.own ad (λq hq=>by have:=(ad.lt q hq).1;omega);have ak:=g2.own ac (λq hq=>by have:=(ac.lt q hq).1;omega);obtain⟨a1,c1,e1,_,i1⟩:=Qp bk;cases e1;have hA:=(az w2 (g2.mono λq _ e=>by omega)).snoc (be w2 (g2.mono λq _ e=>by omega));have bf:K.flatten++cs=(K++[cs]).flatten:=by simp
 rw[bf] at ak;obtain⟨a2,c2,e2,r2,_⟩:=rows_of_own blkR ak hA (by rw[cF,bb];rfl);cases e2;exact⟨i1,r2⟩
theorem add_is(a b:Option Addr)(n c m d:Nat)(N:List Int)(T:List Zl)(s p h k o:Int)(ta:Option Addr)(tn tc:Nat)(L:List TxD)(N':List Int)(T':List Zl)(n':Nat)(x:Int)(w:World)(hN:IntsAt w a n N)(hT:BlksAt w b m T)(sN:SlOk a n c)(sT:SlOk b m d)(hL:TxsAt w ta tn L)(sL:SlOk ta tn tc)(hx:addE N T s (p,h,k,o,L)=(N',T',x))(cz:N'.length=n') :
  Calls aB 63 #[.agg #[F a n c,F b m d],E J s,.agg #[E J p,E J h,E J k,E J o,F ta tn tc]] w λe w'=>AddR w w' N' T' n' x e:=by
 obtain⟨i0,hi,gs,gu,gv⟩:=info_parts Tryz.infoInt;obtain⟨j0,ji,gz,ia,ib⟩:=info_parts Tryz.infoBlkC;obtain⟨X,hX⟩:=ZG (((w.alloc (cW #[F a n c,F b m d] 28)).alloc (cW #[E J p,E J h,E J k,E J o,F ta tn tc] 39)).alloc (cW #[F none 0 0,F none 0 0] 28));have ae:aD w.heap.size w X:=by rw[hX];exact Zf (Zf (Zh _ _) (Zh _ _)) (Zh _ _)
 have aq:X.heap[w.heap.size]? = some (cW [F a n c,F b m d].toArray 28 (0,0)):=by
  rw[hX,bM _ _ _ (by simp;omega),bM _ _ _ (by simp)];exact Yt _ _ _ _
 have cp:X.heap[w.heap.size+1]? = some (cW [E J p,E J h,E J k,E J o,F ta tn tc].toArray 39 (0,0)):=by
  rw[hX,bM _ _ _ (by simp)];have:=Zu (w.alloc (cW #[F a n c,F b m d] 28)) (E J p) (E J h) (E J k) (E J o) (F ta tn tc) 39;rw[show (w.alloc (cW #[F a n c,F b m d] 28)).heap.size=w.heap.size+1 by simp] at this;exact this
 have cq:X.heap[w.heap.size+2]? = some (cW [F none 0 0,F none 0 0].toArray 28 (0,0)):=by
  rw[hX];have:=Yt ((w.alloc (cW #[F a n c,F b m d] 28)).alloc (cW #[E J p,E J h,E J k,E J o,F ta tn tc] 39)) (F none 0 0) (F none 0 0) 28;rw[show ((w.alloc (cW #[F a n c,F b m d] 28)).alloc (cW #[E J p,E J h,E J k,E J o,F ta tn tc] 39)).heap.size=w.heap.size+2 by simp] at this;exact this
 have hm:=sN.2.1;unfold bP at hm;have iy:=sN.1;have HB:=Zd ae;have dn:=Zd aq;have dp:=Zd cp;have dq:=Zd cq;obtain⟨y,hy⟩:=ZF (chkTr N T);obtain⟨jh,hz⟩:=ZF (nextD N T s (p,h,k,o,L));have C1:=Zd (Qf a b n c m d N T y X (hN.later ae) (hT.later ae) sN sT hy);have x0:=Zb aq 0 _ rfl;have x1:=Zb aq 1 _ rfl;have xl:=aA aq;unfold addE at hx;rw[hy,hz] at hx;by_cases q:y=0
 ·subst q;rw[if_neg (by simp)] at hx;obtain⟨hl,h24,hH,ed⟩:=Vt hy;obtain rfl:n=m:=by rw[<-hN.1,<-hT.1,hl]
  have ee:n<=bP:=sN.len;have ix:n<=24:=by rw[<-hN.1];exact h24
  have HS:=Zd (λt ht=>blk_small (J9 N T [] [] hl ed t ht));have C2:=Zd (λW (hb:aD X.heap.size X W)=>Cx a b n c d N T s p h k o ta tn tc L jh W ee (hN.later (Zf ae hb)) (hT.later (Zf ae hb)) (hL.later (Zf ae hb)) hH hz);rw[hN.1] at hx;have al:=Zd hx;have cf:=Zd cz;have CT:=Zd (λW (hb:aD X.heap.size X W)=>clTree_is a b n c d N T W (hN.later (Zf ae hb)) (hT.later (Zf ae hb)) sN sT (by omega) HS);have CB:=Zd (λW (hb:aD w.heap.size w W) (q:jh=0)=>clBlock_is p h k o ta tn tc L W (hL.later hb) sL (by rw[<-hL.1];exact (blk_small (Qm (hz.trans q))).1) (blk_small (Qm (hz.trans q))).2);have fu:=Zd hN.1;clear ae aq cp cq hN hT sN sT hL sL hy hz hl h24 hH ed ee hx cz HS;go_enter func63,ntmps63;go_wp2_with fail;rw[<-hX];clear hX;refine C1.mono ?_;rintro e w1 ⟨rfl,aj⟩;have ak:=Zd aj;have h0:=ZE aj dn;have h1:=ZE aj dp;have a0:=Zb h0 0 _ rfl;have a1:=Zb h0 1 _ rfl;have jj:=aA h0;have b0:=Zb h1 0 _ rfl;have b1:=Zb h1 1 _ rfl;have b2:=Zb h1 2 _ rfl;have b3:=Zb h1 3 _ rfl;have b4:=Zb h1 4 _ rfl;have bl:=aA h1;clear aj h0 h1 x0 x1 xl C1;go_wp2_with fail;refine (C2 _ ak).mono ?_;rintro e w2 ⟨rfl,dz⟩;have az:=Zd (Zf ak dz);clear dz a0 a1 jj b0 b1 b2 b3 b4 bl C2 ak;have h0:=ZE az dn;have h1:=ZE az dp;have h2:=ZE az dq;have c0:=Zb h2 0 _ rfl;have c1:=Zb h2 1 _ rfl;have f0:=Zg h2 0;have f1:=Zg h2 1;have cl:=aA h2;have bb:=Zd (Zf HB az);by_cases q2:jh=0
  ·subst q2;have a0:=Zb h0 0 _ rfl;have a1:=Zb h0 1 _ rfl;have jj:=aA h0;by_cases q3:n=24
   ·subst q3
    obtain⟨rfl,rfl,rfl⟩:([]:List Int)=N'/\([]:List Zl)=T'/\12=x:=by
     have q:=Za al;rw[if_neg (by simp),if_pos rfl] at q;exact⟨congrArg (·.1) q,congrArg (·.2.1) q,congrArg (·.2.2) q⟩
    obtain rfl:0=n':=Za cf;clear al h0 h1 h2;go_wp2;(try simp only[aV,Exit.then]);refine bA (v:=cZ #[.agg #[F none 0 0,F none 0 0],E J 12]) ?_ rfl (Hn ?_)
    ·rw[Zo rfl];go_simp
    ·exact Ra bb (by omega) bb.size _ _
   ·have R:Hid (N++[s]=N'/\T++[(p,h,k,o,L)]=T'/\0=x):=by
     have q:=Za al;rw[if_neg (by simp),if_neg q3] at q;exact⟨congrArg (·.1) q,congrArg (·.2.1) q,congrArg (·.2.2) q⟩
    obtain rfl:0=x:=R.2.2;have g3:((n:Int) == 24)=false:=(by simp;omega);have H0:=Zd h0;have H1:=Zd h1;have H2:=Zd h2;obtain rfl:n+1=n':=(by rw[<-Za cf,<-(Za R).1,cF,Za fu];rfl);clear al q3 h0 h1 h2 c0 c1 f0 f1;go_wp2_with fail;refine (CT _ az).mono ?_;rintro e w5 ⟨v1,v2,rfl,gj,ct⟩;obtain⟨K,G,o1,o2,g1,g2,dv,dx,hF⟩:=gj;obtain⟨aa,ac,rfl,s1,r1⟩:=Zx o1;obtain⟨z,Q,rfl,s2,r2⟩:=Zx o2;obtain⟨t6,ja⟩:=ZG (w.heap.size+2);have iu:w.heap.size+3<=w2.heap.size+2:=(by omega);have iz:w2.heap.size<=w5.heap.size:=ct.size;have dy:∀ q,(bH aa n ac).ownBlock=some q->w2.heap.size+2<=q/\q<w5.heap.size:=λq hq=>o1.lt q hq;have ea:∀ q,(bH z n Q).ownBlock=some q->w2.heap.size+2<=q/\q<w5.heap.size:=λq hq=>o2.lt q hq;have cg:Hid (((w5.alloc (cW #[F aa n ac,F z n Q] 28)).alloc (cW #[E J s] 3)).ownsRow (w2.heap.size+2) 3 1 (F aa n ac) n (N.map (cD .i64))):=(o1.alloc _).alloc _
    have fv:Hid (∀ j u,([E J s]:List Value)[j]? = some u->((w5.alloc (cW #[F aa n ac,F z n Q] 28)).alloc (cW #[E J s] 3)).cell? ((⟨w5.heap.size+1,0,none⟩:Addr).add j)=some u):=by
     have:=aR (w5.alloc (cW #[F aa n ac,F z n Q] 28)) (cW #[E J s] 3);rw[show (w5.alloc (cW #[F aa n ac,F z n Q] 28)).heap.size=w5.heap.size+1 by simp] at this;exact World.news_of_block (cs:=#[E J s]) (t:=3) (fr:=(0,0)) this
    have BX:Hid (((w5.alloc (cW #[F aa n ac,F z n Q] 28)).alloc (cW #[E J s] 3)).heap[w5.heap.size]? = some (cW [F aa n ac,F z n Q].toArray 28 (0,0))):=by
     show _=_;rw[bM _ _ _ (by simp)];exact Yt _ _ _ _
    have bs:=Zd o2;have HF:=Zd hF;have fg:=Zd g1;have fh:=Zd g2;have bd:=Zd dy;have be:=Zd ea;have ce:=Zd ct;have fq:=Zd dx;have ez:=Zd dv;have ir:=Zd s2;clear o1 o2 hF g1 g2 dy ea ct a0 a1 jj r1 r2 CT dx dv s1 s2
    go_wp2_with (at_builtin;refine wpList_append_lies _ rfl _ _ 25 rfl (w2.heap.size+2) 3 i0 (E J 0) 1 8 underlying25 hi gs gu gv rfl (by decide) _ _ _ rfl cg ⟨w5.heap.size+1,0,none⟩ 1 1 [E J s] rfl rfl fv (λu hu=>by simp at hu;subst hu;rfl) (by decide) (by unfold bP;omega) (by omega) (by simp;omega) (w5.heap.size+2) (by simp) ?_;intro g cap w8 ei cx eg iw;have an:=(cx.block w5.heap.size (by simp;omega) (λe=>by have:=(bd _ e.symm).2;omega)).trans BX;have d0:=Zb an 0 _ rfl;have d1:=Zb an 1 _ rfl;have jk:=Zg an 0;have dl:=aA an;have dm:=Zd ei;have fj:=Zd cx;have fp:=Zd eg;have ft:=Zd an;clear ei cx eg an)
    obtain⟨w9,bq⟩:=ZG (w8.setCell ⟨w5.heap.size,0,none⟩ (F (some ⟨g,0,none⟩) (n+1) cap));rw[<-bq];have cn:Gr w5 w8 (λq=>(bH aa n ac).ownBlock=some q):=(((Gr.refl w5 (λq=>(bH aa n ac).ownBlock=some q)).new _).new _).grown fj (λk hk=>.inl hk);have ap:Gr w5 w9 (λq=>(bH aa n ac).ownBlock=some q):=(by rw[bq];exact cn.one w5.heap.size 0 (.inr (aH _)) _);have bg:w9.heap[w5.heap.size]? = some (cW [F (some ⟨g,0,none⟩) (n+1) cap,F z n Q].toArray 28 (0,0)):=(by rw[bq];exact set_cells ft 0 _);have cu:aD w.heap.size w w9:=ap.below (Zf bb ce) (by omega) (λq hq=>by have:=(bd q hq).1;omega);have h91:=ap.heap (ZE ce H1) (λhq=>by have:=(bd _ hq).1;have:=aA H1;omega);have h92:=ap.heap (ZE ce H2) (λhq=>by have:=(bd _ hq).1;omega)
    have ec:g≠w5.heap.size/\w2.heap.size+2<=g:=by
     rcases Za fp with e|e
     ·have:=bd g e;omega
     ·omega
    have gm:(bH z n Q).ownBlock≠some g:=by
     have il:w8.ownsRow (w2.heap.size+2) 39 5 (F z n Q) n K.flatten:=cn.own bs (λq hq e=>own_apart (((cg.kept (w':=(w5.alloc (cW #[F aa n ac,F z n Q] 28)).alloc (cW #[E J s] 3)) (row:=none) (World.grownBy.refl _ _) (by cases aa <;> simp[Value.ownBlock])))) ((bs.alloc _).alloc _) (by decide) q e hq);exact own_apart dm il (by decide) g rfl
    have en:w9.ownsRow (w2.heap.size+2) 3 1 (F (some ⟨g,0,none⟩) (n+1) cap) (n+1) ((N++[s]).map (cD .i64)):=by
     rw[bq];have:=((Gr.refl w8 (λq=>q=w5.heap.size)).one w5.heap.size 0 (.inl rfl) (F (some ⟨g,0,none⟩) (n+1) cap)).own dm (λq hq e=>by cases hq;exact ec.1 e);simpa using this
    have el:w9.ownsRow (w2.heap.size+2) 39 5 (F z n Q) n K.flatten:=ap.own bs (λq hq e=>own_apart cg ((bs.alloc _).alloc _) (by decide) q e hq);have l9:w5.heap.size<w9.heap.size:=aA bg;have CC:=Zd (CB w9.drew (Zf cu (Zi _)) (by trivial));have e0:=Zb bg 0 _ rfl;have e1:=Zb bg 1 _ rfl;have k0:=Zb h91 0 _ rfl;have k1:=Zb h91 1 _ rfl;have k2:=Zb h91 2 _ rfl;have k3:=Zb h91 3 _ rfl;have k4:=Zb h91 4 _ rfl;have kl:=aA h91;have fc:=Zd bg;have fi:=Zd ap;have dh:=Zd h92;have fm:=Zd en;have fl:=Zd el;have ew:=Zd cu;clear bq cn ap bg cu h91 h92 en el d0 d1 jk dl CB
    go_region_law (first
     | (refine Zy (by rfl) 71 #[.agg #[E J p,E J h,E J k,E J o,F ta tn tc]] (by kernel_rfl) CC ?_;rintro e aw ⟨a5,c5,rfl,eb,bx⟩;refine⟨_,rfl,?_⟩;have bf:=ZE bx fc;have m0:=Zb bf 0 _ rfl;have m1:=Zb bf 1 _ rfl;have ml:=aA bf;have fe:=Zd eb;have dj:=Zd bx;have fa:=Zd bf;have fk:=Zd ((Gr.of (S:=λ_=>False) bx).own fl.drew (λ_ _ q=>q));clear eb bx bf)
     | (refine step_append_lies _ (by rfl) _ _ _ (by rfl) (w2.heap.size+2) 39 j0 _ 5 56 underlying26 ji gz ia ib rfl (by decide) (F z n Q) n K.flatten (by rfl) (fk.alloc _) ⟨aw.heap.size,0,none⟩ 1 1 [E J p,E J h,E J k,E J o,F a5 tn c5] (by rfl) (by rfl) (World.news_of_block (cs:=#[E J p,E J h,E J k,E J o,F a5 tn c5]) (t:=39) (fr:=(0,0)) (aR aw _)) (by simp[Value.oneCell']) (by decide) (by unfold bP;omega) (by omega) (by simp;omega) (aw.heap.size+1) (by simp) ?_;intro g2 bh ax eh cw ef iv;have am:=(cw.block w5.heap.size (by simp;omega) (λe=>by have:=(be _ e.symm).2;omega)).trans ((bM _ _ _ ml).trans fa);have n0:=Zb am 0 _ rfl;have n1:=Zb am 1 _ rfl;have nf:=Zg am 1;have nl:=aA am;have fs:=Zd eh;have dk:=Zd cw;have fo:=Zd ef;have fb:=Zd am;clear eh cw ef am))
    all_goals
     have bv:Gr w9 ax (λq=>(bH z n Q).ownBlock=some q):=((Gr.of (Zf (Zi w9) dj)).new _).grown dk (λk hk=>.inl hk);have du:Gr aw ax (λq=>(bH z n Q).ownBlock=some q):=((Gr.refl aw _).new _).grown dk (λk hk=>.inl hk);have ep:=bv.heap dh (λe=>by have:=(be _ e).1;omega);obtain⟨cc,bo⟩:=ZG (ax.setCell ⟨w5.heap.size,1,none⟩ (F (some ⟨g2,0,none⟩) (n+1) bh));have bt:cc.heap[w5.heap.size]? = some (cW [F (some ⟨g,0,none⟩) (n+1) cap,F (some ⟨g2,0,none⟩) (n+1) bh].toArray 28 (0,0)):=(by rw[bo];exact set_cells fb 1 _);have av:cc.heap[w.heap.size+2]? = some (cW [F none 0 0,F none 0 0].toArray 28 (0,0)):=by rw[bo];exact ((Gr.refl ax (λq=>q=w5.heap.size)).one w5.heap.size 1 (.inl rfl) _).heap ep (by omega)
     have gf:∀ {W:World} {S:Nat->Prop},Gr W ax S->Gr W ((cc.setCell ⟨w.heap.size+2,0,none⟩ (F (some ⟨g,0,none⟩) (n+1) cap)).setCell ⟨w.heap.size+2,1,none⟩ (F (some ⟨g2,0,none⟩) (n+1) bh)) (λq=>S q\/q=w5.heap.size\/q=w.heap.size+2):=by
      intro W S hW;rw[bo];exact (((hW.mono (λq _ e=>.inl e)).one w5.heap.size 1 (.inl (.inr (.inl rfl))) _).one (w.heap.size+2) 0 (.inl (.inr (.inr rfl))) _).one (w.heap.size+2) 1 (.inl (.inr (.inr rfl))) _
     have gp:=dj.size
     have df:=Zia (w9:=w9) (B:=w.heap.size) (t6:=w.heap.size+2) (by omega) (by omega) ez fq HF fe fg fh be rfl l9 (by omega) (by have:=aA dh;omega) fi (gf bv) (gf du) ((gf (Gr.refl ax (λ_=>False))).mono λq _ e=>by rcases e with e|e;exact e.elim;exact e) fm ec.1 gm fs (by
      rcases Za fo with e|e
      ·have:=be g2 e;omega
      ·have:w9.heap.size<=aw.heap.size:=gp;omega)
     have ff:=Zd df
     have ey:Hid (aD w.heap.size w ((cc.setCell ⟨w.heap.size+2,0,none⟩ (F (some ⟨g,0,none⟩) (n+1) cap)).setCell ⟨w.heap.size+2,1,none⟩ (F (some ⟨g2,0,none⟩) (n+1) bh))):=(gf bv).below ew (by omega) (λq e=>by
      rcases e with e|e|e
      ·have:=(be _ e).1;omega
      ·omega
      ·omega)
     have y0:=Zb bt 0 _ rfl;have y1:=Zb bt 1 _ rfl;have yl:=aA bt;have u0:=Zb av 0 _ rfl;have u1:=Zb av 1 _ rfl;have jb:=Zg av 0;have jc:=Zg av 1;have ul:=aA av;rw[<-bo];clear bo gf df bv du ep bt av n0 n1 nf nl m0 m1 ml e0 e1 k0 k1 k2 k3 k4 kl;go_wp2;(try simp only[aV,Exit.then]);refine bA (v:=cZ #[.agg #[F (some ⟨g,0,none⟩) (n+1) cap,F (some ⟨g2,0,none⟩) (n+1) bh],E J 0]) ?_ rfl ?_
     ·rw[Zo rfl];go_simp
     ·obtain⟨f1,f2,f3⟩:=Za ff;rw[<-(Za R).1,<-(Za R).2.1];exact⟨_,_,_,_,rfl,f1,f2,f3,Za ey⟩
  ·obtain⟨rfl,rfl,rfl⟩:([]:List Int)=N'/\([]:List Zl)=T'/\jh=x:=by
    have q:=Za al;rw[if_pos q2] at q;exact⟨congrArg (·.1) q,congrArg (·.2.1) q,congrArg (·.2.2) q⟩
   obtain rfl:0=n':=Za cf;have g2:(jh != 0)=true:=(by simp[q2]);clear al h0 h1 h2 q2;go_wp2;(try simp only[aV,Exit.then]);refine bA (v:=cZ #[.agg #[F none 0 0,F none 0 0],E J jh]) ?_ rfl (Hn ?_)
   ·rw[Zo rfl];go_simp
   ·exact Ra bb (by omega) bb.size _ _
 ·rw[if_pos q] at hx;obtain⟨rfl,rfl,rfl⟩:([]:List Int)=N'/\([]:List Zl)=T'/\y=x:=⟨congrArg (·.1) hx,congrArg (·.2.1) hx,congrArg (·.2.2) hx⟩;obtain rfl:0=n':=cz;have g:(y != 0)=true:=by simp[q]
  clear ae aq cp cq hN hT sN sT hL sL hy hz hx q;go_enter func63,ntmps63;go_wp2_with fail;rw[<-hX];clear hX;refine C1.mono ?_;rintro e w1 ⟨rfl,aj⟩;have h2:=ZE aj dq;have c0:=Zb h2 0 _ rfl;have c1:=Zb h2 1 _ rfl;have f0:=Zg h2 0;have f1:=Zg h2 1;have cl:=aA h2;have ak:=Zd (Zf HB aj);clear aj h2 x0 x1 xl C1;go_wp2;(try simp only[aV,Exit.then]);refine bA (v:=cZ #[.agg #[F none 0 0,F none 0 0],E J y]) ?_ rfl (Hn ?_)
  ·rw[Zo rfl];go_simp
  ·exact Ra ak (by omega) ak.size _ _
end Tr
open Go.RowKit
structure Zki(f:Nat)(caps:Array Value)(w0:World)(C0:List Zj)(D0:Nat->Prop)(I:Nat->(Nat->Prop)->World->List (TxD×List Zj)->Prop):Prop where
 enters:∀ args w,(callFunc f args).run aB w = .ok (.enter f args) w
 start:∀ p w,aD w0.heap.size w0 w->w0.heap.size<=p->p<w.heap.size->I p D0 w []
 dirty:∀ p D w X,I p D w X->∀ q,D q->q≠p/\q<w.heap.size/\(D0 q\/w0.heap.size<=q)
 on:∀ p D w w' X,I p D w X->Gr w w' (λq=>q=p)->I p D w' X
 call:∀ p D wA w X t C' u0 u1 u2,I p D wA X->aD wA.heap.size wA w->Fresh wA.heap.size w (λw2=>Tr.txR.C w2 [u0,u1,u2] t)->Y2 (Yw C0 X)->Y2 C'->Zp C'<=Zp (Yw C0 X)->X.length<8 ->
  Calls aB f (#[.agg #[u0,u1,u2],E J (Zp (Yw C0 X) - Zp C')]++caps) w λe w'=>e = cY (cZ #[])/\Gr w w' D/\∃ D',I p D' w' (X++[(t,C')])
def SwR(w w':World)(x:Int)(D0:Nat->Prop)(K:List ByteArray)(C:List Zj)(h:Int)(I:Nat->(Nat->Prop)->World->List (TxD×List Zj)->Prop)(X:List (TxD×List Zj))(e:Ending):Prop:=
 (x≠0/\e = cY (cZ #[dA none,E J x])/\aD w.heap.size w w') \/
 (x=0/\∃ p D,e = cY (cZ #[dA (some ⟨p,0,none⟩),E J 0])/\w.heap.size<=p/\Gr w w' D0/\DoT w' w.heap.size p K C h/\I p D w' X)
structure SwS(w0 wr:World)(h:Int)(D0:Nat->Prop)(I:Nat->(Nat->Prop)->World->List (TxD×List Zj)->Prop)(s0:List ByteArray×List Zj)(L:List TxD)(p k:Nat):Prop where
 gr:Gr w0 wr D0
 all:∃ B D K C X,w0.heap.size<=B/\DoT wr B p K C h/\I p D wr X/\Bk.Right K/\Y2 C/\Yw s0.2 X=C/\X.length<=k/\swT h L s0=X++swT h (L.drop k) (K,C)/\(Z0 h L s0).2=(Z0 h (L.drop k) (K,C)).2
theorem Gr.far{w Q w2:World}{S T:Nat->Prop}(h:Gr w Q S)(k:Gr Q w2 T)(hT:∀ q,T q->w.heap.size<=q\/S q):Gr w w2 S:=
 ⟨k.os.trans h.os,k.tape.trans h.tape,k.output.trans h.output,aS h.size k.size,λi hi z=>(k.block i (aE hi h.size) (λq=>by
  rcases hT i q with q|q
  ·omega
  ·exact z q)).trans (h.block i hi z)⟩
theorem Ziu{h:Int}{L:List TxD}{k:Nat}(z:k<L.length)(s:List ByteArray×List Zj):swT h (L.drop k) s=if (doD h s L[k]).1=0 then (L[k],(doD h s L[k]).2.2) :: swT h (L.drop (k+1)) (doD h s L[k]).2 else swT h (L.drop (k+1)) s:=by
 rw[aN z,swT]
theorem Zgf{h:Int}{L:List TxD}{k:Nat}(z:k<L.length)(s:List ByteArray×List Zj):(Z0 h (L.drop k) s).2=if (doD h s L[k]).1=0 then (Z0 h (L.drop (k+1)) (doD h s L[k]).2).2 else (Z0 h (L.drop (k+1)) s).2:=by
 rw[aN z,Z0];split <;> rfl
theorem Kw(f:Nat)(caps:Array Value)(D0:Nat->Prop)(I:Nat->(Nat->Prop)->World->List (TxD×List Zj)->Prop)(ka:Option Addr)(kn kc:Nat)(K:List ByteArray)(la:Option Addr)(ln lc:Nat)(C:List Zj)(a:Option Addr)(m c:Nat)(L:List TxD)(h x:Int)(w:World)
  (hk:Zki f caps w C D0 I) (aq:World) (cz:∀ V,Gr w V D0->aD aq.heap.size aq V) (hE:Env aq) (hK:Bk.TextsAt aq ka kn K) (hC:CoinsAt aq la ln C) (sC:SlOk la ln lc) (hL:TxsAt aq a m L) (hx:swE K C L h=x) :
  Calls aB 78 #[.agg #[F ka kn kc],F la ln lc,F a m c,E J h,.func (.func f) #[] caps] w λe w'=>SwR w w' x D0 (Z0 h L (K,C)).2.1 (Z0 h L (K,C)).2.2 h I (swT h L (K,C)) e:=by
 obtain⟨X,hX⟩:=ZG (w.alloc (cW #[F ka kn kc] 24));have cp:aD w.heap.size w X:=by rw[hX];exact Zh _ _
 have cm:X.heap[w.heap.size]? = some (cW [F ka kn kc].toArray 24 (0,0)):=by rw[hX];exact Yl _ _ _
 obtain⟨x1,bo⟩:=ZF (Jn K C h);have cl:L.length=m:=hL.1;have da:=cz X (Gr.of cp);have C1:=Zd (Zdf ka kn kc K la ln lc C h x1 X (hK.later da) (hC.later da) sC bo);unfold swE at hx;rw[bo,cl] at hx;have HK:=Zd hk;have HE:=Zd hE;have HL:=Zd hL;have dp:=Zd cz;have HX:=Zd hx;have dx:=Zd bo;have ds:=Zd cl;have dj:=Zd cp;have t0:=Zb cm 0 _ rfl;have tl:=aA cm;clear hk hE hK hC sC hL hx bo cl cp cm cz da;go_enter func78,ntmps78;go_wp2_with fail;rw[<-hX];clear hX;(try go_wp2_with fail);refine C1.mono ?_;rintro e w1 ⟨hr,cn⟩;have bb:=Zd (Zf dj cn);have dy:=Zd dj.size
 rcases hr with ⟨h0,rfl⟩|⟨h0,p,rfl,el,fm,hd⟩
 ·have gx:(x1 != 0)=true:=by simp[h0]
  have ar:Hid (x=x1):=by have:=Za HX;rw[if_pos h0] at this;exact this.symm
  clear HX cn C1;go_wp2;go_ret2;rw[Za ar];exact .inl ⟨h0,rfl,Za bb⟩
 ·subst h0;have dk:=Zd (hd.less dy);have bz:=Zd (aS dy el);have fb:=Zd (show p<w1.heap.size by omega);clear hd cn C1 el fm;by_cases e8:8<m
  ·have g8:(8:Int)<(m:Int):=(by omega);have ar:Hid (x=2):=(by have:=Za HX;rw[if_neg (λq=>q rfl),if_pos e8] at this;exact this.symm);clear HX e8;go_wp2;go_ret2;rw[Za ar];exact .inl ⟨by decide,rfl,Za bb⟩
  ·have g8:¬(8:Int)<(m:Int):=(by omega);have gd:m<=8:=(by omega);have ar:Hid (x=0):=(by have:=Za HX;rw[if_neg (λq=>q rfl),if_neg e8] at this;exact this.symm);obtain⟨hR,aj,_,_⟩:=Uu dx;have ST:Hid (SwS w w1 h D0 I (K,C) L p 0):=⟨Gr.of bb,w.heap.size,D0,K,C,[],aH _,Za dk,HK.start p w1 bb bz fb,hR,aj,rfl,aH _,rfl,rfl⟩;clear HX hR aj e8 dx dk;go_wp2
   go_loopw [33] (λi wr=>∃ k:Nat,k<=m/\i = E J k/\Hid (SwS w wr h D0 I (K,C) L p k)) (λi _=>m - (intOf i).toNat)
   case atStart=>exact⟨0,aQ _,rfl,ST⟩
   case round=>
    obtain⟨k,hk,rfl,HS⟩:=hrel;by_cases fl:k<m
    ·obtain⟨hg,B,D,Kk,Ck,Xs,hB,hd,hI,hR,aj,ae,eg,z,Q⟩:=Za HS;have ac:=dp wr hg;have dc:k<L.length:=(by rw[Za ds];exact fl);obtain⟨b,off,rfl,ei,eo⟩:=HL.2 (by omega);obtain⟨c0,⟨ai,ni,ci,c1,aw,de⟩,ao,no,co,c2,ax,er⟩:=eo k dc;have c0:=Ze ac c0;have c1:=Ze ac c1;have c2:=Ze ac c2;have ei:b<wr.heap.size:=aE ei ac.size;rw[Ziu dc] at z;rw[Zgf dc] at Q;obtain⟨t,ht⟩:=ZF (L[k]);rw[ht] at z Q c0 aw ax;obtain⟨th,tI,tO⟩:=t;simp only at c0 aw ax;obtain⟨⟨y,K',C'⟩,hy⟩:=ZF (doD h (Kk,Ck) (th,tI,tO));rw[hy] at z Q;simp only at z Q;obtain⟨Y,hY⟩:=ZG (wr.alloc (cW #[E J th,F ai ni ci,F ao no co] 59));have al:aD wr.heap.size wr Y:=(by rw[hY];exact Zh _ _);have ak:Y.heap[wr.heap.size]? = some (cW [E J th,F ai ni ci,F ao no co].toArray 59 (0,0)):=(by rw[hY];exact Zw _ _ _ _ _);have CD:=Zd (Ziy p Kk Ck h th ai ao ni ci no co tI tO y K' C' Y (HE.later (Zf ac al)) (hd.later al).till aj (aw.later (Zf ac al)) (ax.later (Zf ac al)) de hy);have y0:=Zb ak 0 _ rfl;have y1:=Zb ak 1 _ rfl;have y2:=Zb ak 2 _ rfl;have yl:=aA ak;have HG:=Zd hg;have HB:=Zd hB;have dm:=Zd hd;have HI:=Zd hI;have dv:=Zd hR;have du:=Zd aj;have dr:=Zd ae;have ca:=Zd eg;have dw:=Zd z;have dn:=Zd Q;have bu:=Zd al;have dz:=Zd ak;have dq:=Zd aw;have dt:=Zd ax;have fc:=Zd de;have fd:=Zd er;have HY:=Zd hy;clear hg hB hd hI hR aj ae eg z Q al ak aw ax de er hy eo ht HS ac;go_wp2_with fail;rw[<-hY];clear hY c0 c1 c2;(try go_wp2_with fail);refine CD.mono ?_;rintro e w2 fk
     rcases fk with ⟨n0,rfl,eh⟩|⟨n0,rfl,cu,ej⟩
     ·have gy:(y == 0)=false:=(by simp[n0]);have gc:¬y=0:=n0;have bj:=Zf bu eh
      have cb:Hid (SwS w w2 h D0 I (K,C) L p (k+1)):=by
       refine⟨HG.on bj,B,D,Kk,Ck,Xs,Za HB,dm.later bj,HK.on p D wr w2 Xs HI (Gr.of bj),Za dv,Za du,Za dr,Nat.le_succ_of_le ca,?_,?_⟩
       ·have:=Za dw;rw[if_neg n0] at this;exact this
       ·have:=Za dn;rw[if_neg n0] at this;exact this
      clear bj eh CD n0;go_wp2;go_roundw
      case rel=>exact⟨k+1,by omega,by go_num,cb⟩
      case measure=>simp[intOf];omega
     ·subst n0;have fj:=Gv dv HY;obtain⟨f1,_,f3,f4,f5⟩:=fj;have sm:=Tr.tx_small f5;have ew:=Zd f1;have ey:=Zd f3;have fy:=Zd f4;have cw:Gr wr w2 (λq=>q=p):=(Gr.of bu).trans cu;have ek:=HK.dirty p D wr Xs HI;have cg:=HK.on p D wr w2 Xs HI cw;have gf:p<wr.heap.size:=(by obtain⟨_,_,_,_,_,_,hh,_⟩:=Za dm;exact aA hh);have cx:Gr w w2 D0:=HG.far cw (λq e=>.inl (by rw[e];exact Za bz));have cq:=dp w2 cx;have CT:=Zd (Tr.clTx_is th ai ao ni ci no co tI tO w2 (dq.later cq) (dt.later cq) fc fd (by rw[<-(Za dq).1];exact sm.1) (by rw[<-(Za dt).1];exact sm.2.1) sm.2.2.1 sm.2.2.2);have h20:=(cu.block _ (aA dz) (by intro q;have q:wr.heap.size=p:=q;omega)).trans dz;have z0:=Zb h20 0 _ rfl;have z1:=Zb h20 1 _ rfl;have z2:=Zb h20 2 _ rfl;have zl:=aA h20;have ez:=Zd cx;have eu:=Zd ek;have fz:=Zd cg;have dl:=Zd ej;have ea:=Zd bu.size;have ae:Yw C Xs=Ck:=Za dr;have bs:=Zd (λw3 (az:aD w2.heap.size w2 w3) a1 c1 a2 c2 (bg:Fresh w2.heap.size w3 (λW=>Tr.txR.C W [E J th,F a1 ni c1,F a2 no c2] (th,tI,tO)))=>HK.call p D w2 w3 Xs (th,tI,tO) C' _ _ _ cg az bg (by rw[ae];exact Za du) f3 (by rw[ae];exact f4) (by have:=Za ca;omega));rw[ae] at bs;clear f1 f3 f4 f5 sm cw ek cg cx cq h20 ej cu ae CD y0 y1 y2 yl;go_wp2_with fail;refine CT.mono ?_;rintro e w3 ⟨a1,c1,a2,c2,rfl,bg,az⟩;have CL:=Zd (bs w3 az a1 c1 a2 c2 bg);have bd:=Zd az;clear bg az CT bs z0 z1 z2 zl;have gi:=HK.enters;go_wp2_with fail;refine CL.mono ?_;rintro e w4 ⟨rfl,bk,D',ef⟩
      have cb:Hid (SwS w w4 h D0 I (K,C) L p (k+1)):=by
       have ct:=Za eu;refine⟨(ez.on bd).far bk (λq e=>(ct q e).2.2.symm),Y.heap.size,D',K',C',Xs++[((th,tI,tO),C')],?_,?_,ef,Za ew,Za ey,Xp _ _ _ _,?_,?_,?_⟩
       ·exact aS HG.size ea
       ·refine dl.on ((Gr.of bd).trans (bk.mono (λq _ e=>aE (ct q e).2.1 ea))) ?_;have en:p<w2.heap.size:=(by obtain⟨_,_,_,_,_,_,hh,_⟩:=Za dl;exact aA hh);exact (bk.block p (aE en bd.size) (λe=>(ct p e).1 rfl)).trans (bd.block p en)
       ·rw[cF];exact Nat.succ_le_succ ca
       ·have:=Za dw;(first|rw[if_pos rfl] at this|rw[if_pos trivial] at this);rw[this,List.append_assoc];rfl
       ·have:=Za dn;(first|rw[if_pos rfl] at this|rw[if_pos trivial] at this);exact this
      clear bk ef CL gi;go_wp2;go_roundw
      case rel=>exact⟨k+1,by omega,by go_num,cb⟩
      case measure=>simp[intOf];omega
    ·have gj:k=m:=(by omega);subst gj;obtain⟨hg,B,D,Kk,Ck,Xs,hB,hd,hI,_,_,_,_,z,Q⟩:=Za HS;rw[List.drop_of_length_le (by rw[Za ds];exact aH _)] at z Q;rw[swT,List.append_nil] at z;have e1:(Z0 h L (K,C)).2=(Kk,Ck):=Q
     have es:Hid (SwR w wr x D0 (Z0 h L (K,C)).2.1 (Z0 h L (K,C)).2.2 h I (swT h L (K,C)) (cY (cZ #[dA (some ⟨p,0,none⟩),E J 0]))):=by
      rw[e1,z];exact .inr ⟨Za ar,p,D,rfl,Za bz,hg,hd.less hB,hI⟩
     clear hg hB hd hI z Q e1 HS;go_wp2;go_ret2;exact Za es
structure St(b p:Nat)(w:World)(v:Value)(K:List (List Value))(L:List TxD):Prop where
 box:w.heap[b]? = some (cW #[v] 37 (0,0))
 own:w.ownsRow (p+1) 59 3 v L.length K.flatten
 kept:∀ w2,Gr w w2 (λq=>q<=p\/v.ownBlock=some q)->Tr.AllC Tr.txR w2 K L
 bp:b<p
 pl:p<w.heap.size
theorem St.start{b p:Nat}{w:World}(h:w.heap[b]? = some (cW #[F none 0 0] 37 (0,0)))(bp:b<p)(pl:p<w.heap.size):St b p w (F none 0 0) [] []:=
 ⟨h,⟨rfl,.inl ⟨rfl,rfl⟩⟩,λ_ _=>⟨rfl,λi h1 _=>absurd h1 (by simp)⟩,bp,pl⟩
theorem St.on{b p:Nat}{w w':World}{v:Value}{K:List (List Value)}{L:List TxD}{S:Nat->Prop}(h:St b p w v K L)(g:Gr w w' S)(z:∀ q,S q->q<=p/\q≠b):St b p w' v K L:=
 ⟨g.heap h.box (λe=>(z b e).2 rfl),g.own h.own (λk Q e=>by have:=(h.own.lt k Q).1;have:=(z k e).1;omega),
  λw2 g2=>h.kept w2 ((g.mono (λq _ e=>.inl (z q e).1)).trans g2),h.bp,aE h.pl g.size⟩
theorem St.push{b p:Nat}{wA w Y w':World}{v v':Value}{K:List (List Value)}{L:List TxD}{u0 u1 u2:Value}{t:TxD}(h:St b p wA v K L)(hb:aD wA.heap.size wA w)(hF:Fresh wA.heap.size w (λw2=>Tr.txR.C w2 [u0,u1,u2] t))(aa:aD w.heap.size w Y)
  (Q:Y.grownBy w' v.ownBlock) (ag:w'.ownsRow (p+1) 59 3 v' (L.length+1) (K.flatten++[u0,u1,u2])) (hv:v.ownBlock=v'.ownBlock\/∃ g,v'.ownBlock=some g/\Y.heap.size<=g) :
  St b p (w'.setCell ⟨b,0,none⟩ v') v' (K++[[u0,u1,u2]]) (L++[t])/\Gr w (w'.setCell ⟨b,0,none⟩ v') (λq=>q=b\/v.ownBlock=some q):=by
 have ae:aD wA.heap.size wA Y:=Zf hb aa;have ak:=h.bp;have ap:=h.pl;have aq:=hb.size;have ar:=aa.size;have au:=Q.size;have am:v.ownBlock≠some b:=λe=>by have:=(h.own.lt b e).1;omega
 have bx:w'.heap[b]? = some (cW #[v] 37 (0,0)):=((Q.block b (by omega) (λe=>am e.symm)).trans (ae.block b (by omega))).trans h.box;have g1:Gr wA w' (λq=>q<=p\/v.ownBlock=some q):=(Gr.of ae).grown Q (λk e=>.inl (.inr e));have g2:Gr w w' (λq=>q=b\/v.ownBlock=some q):=(Gr.of aa).grown Q (λk e=>.inl (.inr e));have g3:Gr w (w'.setCell ⟨b,0,none⟩ v') (λq=>q=b\/v.ownBlock=some q):=g2.one b 0 (.inl (.inl rfl)) v';have g4:Gr wA (w'.setCell ⟨b,0,none⟩ v') (λq=>q<=p\/v.ownBlock=some q):=g1.one b 0 (.inl (.inl (by omega))) v';refine⟨⟨Wo bx,?_,λw2 gw=>?_,ak,by have:=g4.size;omega⟩,g3⟩
 ·rw[cF,List.flatten_append];exact (((Gr.refl w' (λq=>q=b)).one b 0 (.inl rfl) v').own ag (λk hk e=>by have:=(ag.lt k hk).1;omega))
 ·refine Tr.AllC.snoc (h.kept w2 (g4.far gw (λq e=>?_))) (hF w2 ?_)
  ·rcases e with e|e
   ·exact .inr (.inl e)
   ·rcases hv with z|⟨g,z,q2⟩
    ·exact .inr (.inr (z.trans e))
    ·rw[z] at e;injection e with e;exact .inl (by omega)
  ·refine (g3.mono (T:=λq=>q<wA.heap.size) (λq _ e=>?_)).far gw (λq e=>?_)
   ·rcases e with e|e
    ·omega
    ·exact (h.own.lt q e).2
   ·rcases e with e|e
    ·exact .inr (by omega)
    ·rcases hv with z|⟨g,z,q2⟩
     ·exact .inr (h.own.lt q (z.trans e)).2
     ·rw[z] at e;injection e with e;exact .inl (by omega)
theorem St.txs{b p:Nat}{w:World}{v:Value}{K:List (List Value)}{L:List TxD}(h:St b p w v K L):∃ a c,v = F a L.length c/\TxsAt w a L.length L/\SlOk a L.length c:=
 Tr.rows_of_own Tr.txR h.own (h.kept w (Gr.refl _ _)) rfl
theorem Tryz.infoTx9:(Tryz.prog.info? 59).map (λi=>(i.zero,i.size,i.bytes))=some (some (.agg #[E J 0,F none 0 0,F none 0 0]),3,56):=by kernel_rfl
def FeI(w:World)(b:Nat)(z:Int):Prop:=w.heap[b]? = some (cW #[E J z] 3 (0,0))
theorem Et(b z p:Nat)(va:Option Addr)(vc:Nat)(K:List (List Value))(L:List TxD)(aa:Int)(u0 u1 u2:Value)(t:TxD)(wA w:World)(h:St b p wA (F va L.length vc) K L)(Q:Int)(h2:FeI wA z Q)(bj:b≠z)(dc:z<p)(f1:0<=Q)(f2:Q<=1000000000)(f3:0<=aa)(f4:aa<=1000000000)(hb:aD wA.heap.size wA w)(hF:Fresh wA.heap.size w (λw2=>Tr.txR.C w2 [u0,u1,u2] t))(hl:L.length<8) :
  Calls aB 79 (#[.agg #[u0,u1,u2],E J aa]++#[dA (some ⟨b,0,none⟩),dA (some ⟨z,0,none⟩)]) w λe w'=>e = cY (cZ #[])/\(∃ v',∃ K',St b p w' v' K' (L++[t])/\FeI w' z (Q+aa))/\Gr w w' (λq=>(q=b\/q=z)\/(bH va L.length vc).ownBlock=some q):=by
 obtain⟨i0,hi,cj,cl,cm⟩:=info_parts Tryz.infoTx9;obtain⟨ai,ni,ci,ao,no,co,e,_⟩:=hF w (Gr.refl _ _);simp only[bJ,and_true] at e;obtain⟨rfl,rfl,rfl⟩:=e;obtain⟨U,hU⟩:=ZG ((w.alloc (cW #[E J t.1,F ai ni ci,F ao no co] 59)).alloc (cW #[E J t.1,F ai ni ci,F ao no co] 59));have ax:aD w.heap.size w U:=by rw[hU];exact Zf (Zh _ _) (Zh _ _)
 have bh:U.heap[w.heap.size+1]? = some (cW #[E J t.1,F ai ni ci,F ao no co] 59 (0,0)):=by
  rw[hU];have:=Zw (w.alloc (cW #[E J t.1,F ai ni ci,F ao no co] 59)) (E J t.1) (F ai ni ci) (F ao no co) 59;rw[show (w.alloc (cW #[E J t.1,F ai ni ci,F ao no co] 59)).heap.size=w.heap.size+1 by simp] at this;exact this
 have db:U.heap.size=w.heap.size+2:=by rw[hU];simp
 have dd:=h.bp;have cf:=h.pl;have cg:=hb.size;have am:=Zf hb ax;have be:U.ownsRow (p+1) 59 3 (F va L.length vc) L.length K.flatten:=(Gr.of (S:=λ_=>False) am).own h.own (λ_ _ q=>q);have av:=(hb.block b (by omega)).trans h.box;have bf:=(am.block b (by omega)).trans h.box;have b0:=Zb av 0 _ rfl;have bl:b<w.heap.size:=aA av;have bg:=(am.block z (by omega)).trans h2;have ca:Hid (∀ j u,[cD .i64 t.1,F ai ni ci,F ao no co][j]? = some u->World.cell? ((w.alloc (cW #[E J t.1,F ai ni ci,F ao no co] 59)).alloc (cW #[E J t.1,F ai ni ci,F ao no co] 59)) ((⟨w.heap.size+1,0,none⟩:Addr).add j)=some u):=by rw[<-hU];exact World.news_of_block bh
 have bd:Hid (World.ownsRow ((w.alloc (cW #[E J t.1,F ai ni ci,F ao no co] 59)).alloc (cW #[E J t.1,F ai ni ci,F ao no co] 59)) (p+1) 59 3 (F va L.length vc) L.length K.flatten):=by rw[<-hU];exact be
 have ce:p+1<=((w.alloc (cW #[E J t.1,F ai ni ci,F ao no co] 59)).alloc (cW #[E J t.1,F ai ni ci,F ao no co] 59)).heap.size:=by rw[<-hU];omega
 have ar:Hid (∀ q,q<=p->(bH va L.length vc).ownBlock≠some q):=λq hq e=>by have:=(h.own.lt q e).1;omega
 have HH:=Zd h;have br:=Zd hb;have bt:=Zd hF;have bq:=Zd ax;have ap:=Zd bf;have aq:=Zd hl;obtain⟨n,hn⟩:=ZF (L.length);have az:=Zd bg;have fw:w.cell? ⟨z,0,none⟩=some (E J Q):=Zb ((hb.block z (by omega)).trans h2) 0 _ rfl;have HN:=Zd hn;rw[hn] at bd aq b0 ar ap HH bf;simp only[hn];clear h hb hF ax bh be av am cf cg hn hl h2 bg;go_enter func79,ntmps79
 go_wp2_with (at_builtin;refine wpList_append_lies _ rfl _ _ 37 rfl (p+1) 59 i0 (.agg #[E J 0,F none 0 0,F none 0 0]) 3 56 underlying37 hi cj cl cm rfl (by decide) _ _ _ rfl bd ⟨w.heap.size+1,0,none⟩ 1 1 [E J t.1,F ai ni ci,F ao no co] rfl rfl ca (λu hu=>by simp at hu;rcases hu with rfl|rfl|rfl <;> rfl) (by decide) (by have:=Za aq;unfold bP;omega) (by have:=Za aq;omega) ce _ rfl ?_;intro g7 ag w7 bk aj ay _;rw[<-hU] at aj ay;have ak:=(aj.block b (aA ap) (λe=>ar b (by omega) e.symm)).trans ap;have cp:=Zd ak;have bx:=Zd bk;have bu:=Zd aj;have bz:=Zd ay;have de:=Zb ak 0 _ rfl;have dg:=aA ak;have df:=Zg ak 0;have ah:=(aj.block z (aA az) (λe=>ar z (by omega) e.symm)).trans az;have bs:=Zd ah;have cx:=Zb ah 0 _ rfl;have cz:=aA ah;have cy:=Zg ah 0;clear ah;clear ak bk aj ay)
 have PU:=St.push (v':=F (some ⟨g7,0,none⟩) (n+1) ag) HH br bt bq bu (by rw[Za HN];exact Za bx) (by
  rcases Za bz with q|q
  ·exact .inl q
  ·exact .inr ⟨g7,rfl,by omega⟩)
 have g9:Gr (w7.setCell ⟨b,0,none⟩ (F (some ⟨g7,0,none⟩) (n+1) ag)) ((w7.setCell ⟨b,0,none⟩ (F (some ⟨g7,0,none⟩) (n+1) ag)).setCell ⟨z,0,none⟩ (E J (Q+aa))) (λq=>q=z):=(Gr.refl _ (λq=>q=z)).one z 0 (.inl rfl) _;have R1:=Zd (PU.1.on g9 (λq e=>by subst e;exact⟨by omega,λq=>bj q.symm⟩));have R2:Hid (FeI ((w7.setCell ⟨b,0,none⟩ (F (some ⟨g7,0,none⟩) (n+1) ag)).setCell ⟨z,0,none⟩ (E J (Q+aa))) z (Q+aa)):=Wo ((heap_setCell_other w7 ⟨b,0,none⟩ z _ (λe=>bj e.symm)).trans bs);have R3:Hid (Gr w ((w7.setCell ⟨b,0,none⟩ (F (some ⟨g7,0,none⟩) (n+1) ag)).setCell ⟨z,0,none⟩ (E J (Q+aa))) (λq=>(q=b\/q=z)\/(bH va n vc).ownBlock=some q)):=(PU.2.mono (λq _ e=>e.elim (λe=>.inl (.inl e)) .inr)).trans (g9.mono (λq _ e=>.inl (.inr e)));clear PU g9;(try go_wp2)
 ((try simp only[aV,Exit.then]);first|refine bodyPost_end (results_none rfl _ _ _) rfl ?_|refine bA (results_none rfl _ _ _) rfl ?_)
 exact⟨rfl,⟨_,_,Za R1,Za R2⟩,Za R3⟩
theorem Zed(b z p:Nat)(va:Option Addr)(vc:Nat)(K:List (List Value))(L:List TxD)(aa:Int)(u0 u1 u2:Value)(t:TxD)(wA w:World)(h:St b p wA (F va L.length vc) K L)(Q:Int)(h2:FeI wA z Q)(bj:b≠z)(dd:z<p)(f1:0<=Q)(f2:Q<=1000000000)(f3:0<=aa)(f4:aa<=1000000000)(hb:aD wA.heap.size wA w)(hF:Fresh wA.heap.size w (λw2=>Tr.txR.C w2 [u0,u1,u2] t))(hl:L.length<3) :
  Calls aB 82 (#[.agg #[u0,u1,u2],E J aa]++#[dA (some ⟨b,0,none⟩),dA (some ⟨z,0,none⟩)]) w λe w'=>e = cY (cZ #[])/\(∃ v',∃ K',St b p w' v' K' (L++[t])/\FeI w' z (Q+aa))/\Gr w w' (λq=>(q=b\/q=z)\/(bH va L.length vc).ownBlock=some q):=by
 obtain⟨i0,hi,cj,cl,cm⟩:=info_parts Tryz.infoTx9;obtain⟨ai,ni,ci,ao,no,co,e,_⟩:=hF w (Gr.refl _ _);simp only[bJ,and_true] at e;obtain⟨rfl,rfl,rfl⟩:=e;obtain⟨U,hU⟩:=ZG ((w.alloc (cW #[E J t.1,F ai ni ci,F ao no co] 59)).alloc (cW #[E J t.1,F ai ni ci,F ao no co] 59));have ax:aD w.heap.size w U:=by rw[hU];exact Zf (Zh _ _) (Zh _ _)
 have bh:U.heap[w.heap.size+1]? = some (cW #[E J t.1,F ai ni ci,F ao no co] 59 (0,0)):=by
  rw[hU];have:=Zw (w.alloc (cW #[E J t.1,F ai ni ci,F ao no co] 59)) (E J t.1) (F ai ni ci) (F ao no co) 59;rw[show (w.alloc (cW #[E J t.1,F ai ni ci,F ao no co] 59)).heap.size=w.heap.size+1 by simp] at this;exact this
 have dc:U.heap.size=w.heap.size+2:=by rw[hU];simp
 have de:=h.bp;have cf:=h.pl;have cg:=hb.size;have an:=Zf hb ax;have be:U.ownsRow (p+1) 59 3 (F va L.length vc) L.length K.flatten:=(Gr.of (S:=λ_=>False) an).own h.own (λ_ _ q=>q);have av:=(hb.block b (by omega)).trans h.box;have bf:=(an.block b (by omega)).trans h.box;have b0:=Zb av 0 _ rfl;have bl:b<w.heap.size:=aA av;have bg:=(an.block z (by omega)).trans h2;have ca:Hid (∀ j u,[cD .i64 t.1,F ai ni ci,F ao no co][j]? = some u->World.cell? ((w.alloc (cW #[E J t.1,F ai ni ci,F ao no co] 59)).alloc (cW #[E J t.1,F ai ni ci,F ao no co] 59)) ((⟨w.heap.size+1,0,none⟩:Addr).add j)=some u):=by rw[<-hU];exact World.news_of_block bh
 have bd:Hid (World.ownsRow ((w.alloc (cW #[E J t.1,F ai ni ci,F ao no co] 59)).alloc (cW #[E J t.1,F ai ni ci,F ao no co] 59)) (p+1) 59 3 (F va L.length vc) L.length K.flatten):=by rw[<-hU];exact be
 have ce:p+1<=((w.alloc (cW #[E J t.1,F ai ni ci,F ao no co] 59)).alloc (cW #[E J t.1,F ai ni ci,F ao no co] 59)).heap.size:=by rw[<-hU];omega
 have ar:Hid (∀ q,q<=p->(bH va L.length vc).ownBlock≠some q):=λq hq e=>by have:=(h.own.lt q e).1;omega
 have HH:=Zd h;have br:=Zd hb;have bt:=Zd hF;have bq:=Zd ax;have aq:=Zd bf;have am:=Zd hl;obtain⟨n,hn⟩:=ZF (L.length);have az:=Zd bg;have fw:w.cell? ⟨z,0,none⟩=some (E J Q):=Zb ((hb.block z (by omega)).trans h2) 0 _ rfl;have HN:=Zd hn;rw[hn] at bd am b0 ar aq HH bf;simp only[hn];clear h hb hF ax bh be av an cf cg hn hl h2 bg;go_enter func82,ntmps82;have gl:(n:Int)<3:=by have:=Za am;omega
 go_wp2_with (at_builtin;refine wpList_append_lies _ rfl _ _ 37 rfl (p+1) 59 i0 (.agg #[E J 0,F none 0 0,F none 0 0]) 3 56 underlying37 hi cj cl cm rfl (by decide) _ _ _ rfl bd ⟨w.heap.size+1,0,none⟩ 1 1 [E J t.1,F ai ni ci,F ao no co] rfl rfl ca (λu hu=>by simp at hu;rcases hu with rfl|rfl|rfl <;> rfl) (by decide) (by have:=Za am;unfold bP;omega) (by have:=Za am;omega) ce _ rfl ?_;intro g7 ag w7 bk aj ay _;rw[<-hU] at aj ay;have ak:=(aj.block b (aA aq) (λe=>ar b (by omega) e.symm)).trans aq;have cp:=Zd ak;have bx:=Zd bk;have bu:=Zd aj;have bz:=Zd ay;have df:=Zb ak 0 _ rfl;have dh:=aA ak;have dg:=Zg ak 0;have ah:=(aj.block z (aA az) (λe=>ar z (by omega) e.symm)).trans az;have bs:=Zd ah;have cx:=Zb ah 0 _ rfl;have cz:=aA ah;have cy:=Zg ah 0;clear ah;clear ak bk aj ay)
 have PU:=St.push (v':=F (some ⟨g7,0,none⟩) (n+1) ag) HH br bt bq bu (by rw[Za HN];exact Za bx) (by
  rcases Za bz with q|q
  ·exact .inl q
  ·exact .inr ⟨g7,rfl,by omega⟩)
 have g9:Gr (w7.setCell ⟨b,0,none⟩ (F (some ⟨g7,0,none⟩) (n+1) ag)) ((w7.setCell ⟨b,0,none⟩ (F (some ⟨g7,0,none⟩) (n+1) ag)).setCell ⟨z,0,none⟩ (E J (Q+aa))) (λq=>q=z):=(Gr.refl _ (λq=>q=z)).one z 0 (.inl rfl) _;have R1:=Zd (PU.1.on g9 (λq e=>by subst e;exact⟨by omega,λq=>bj q.symm⟩));have R2:Hid (FeI ((w7.setCell ⟨b,0,none⟩ (F (some ⟨g7,0,none⟩) (n+1) ag)).setCell ⟨z,0,none⟩ (E J (Q+aa))) z (Q+aa)):=Wo ((heap_setCell_other w7 ⟨b,0,none⟩ z _ (λe=>bj e.symm)).trans bs);have R3:Hid (Gr w ((w7.setCell ⟨b,0,none⟩ (F (some ⟨g7,0,none⟩) (n+1) ag)).setCell ⟨z,0,none⟩ (E J (Q+aa))) (λq=>(q=b\/q=z)\/(bH va n vc).ownBlock=some q)):=(PU.2.mono (λq _ e=>e.elim (λe=>.inl (.inl e)) .inr)).trans (g9.mono (λq _ e=>.inl (.inr e)));clear PU g9;(try go_wp2)
 ((try simp only[aV,Exit.then]);first|refine bodyPost_end (results_none rfl _ _ _) rfl ?_|refine bA (results_none rfl _ _ _) rfl ?_)
 exact⟨rfl,⟨_,_,Za R1,Za R2⟩,Za R3⟩
theorem A6(b b2 p:Nat)(va:Option Addr)(vc:Nat)(K:List (List Value))(L:List TxD)(ad:Int)(u0 u1 u2:Value)(t:TxD)(wA w:World)(h:St b p wA (F va L.length vc) K L)(Q:aD wA.heap.size wA w)(hF:Fresh wA.heap.size w (λw2=>Tr.txR.C w2 [u0,u1,u2] t))(hl:3<=L.length) :
  Calls aB 82 (#[.agg #[u0,u1,u2],E J ad]++#[dA (some ⟨b,0,none⟩),dA (some ⟨b2,0,none⟩)]) w λe w'=>e = cY (cZ #[])/\aD w.heap.size w w':=by
 obtain⟨ai,ni,ci,ao,no,co,e,_⟩:=hF w (Gr.refl _ _);simp only[bJ,and_true] at e;obtain⟨rfl,rfl,rfl⟩:=e;have HB:=Zd (Zh w (cW #[E J t.1,F ai ni ci,F ao no co] 59));have af:=h.bp;have ah:=h.pl;have z:=(Q.block b (by omega)).trans h.box;have b0:=Zb z 0 _ rfl;have bl:b<w.heap.size:=aA z;have gl:¬((L.length:Int)<3):=by omega
 obtain⟨n,hn⟩:=ZF (L.length);rw[hn] at b0 gl;clear h Q hF af ah z hl hn;go_enter func82,ntmps82;go_wp2
 ((try simp only[aV,Exit.then]);first|refine bodyPost_end (results_none rfl _ _ _) rfl ?_|refine bA (results_none rfl _ _ _) rfl ?_)
 exact⟨rfl,Za HB⟩
