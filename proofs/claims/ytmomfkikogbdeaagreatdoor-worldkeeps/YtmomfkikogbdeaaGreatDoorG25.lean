import Derived.Test.YtmomfkikogbdeaaGreatDoorH
import Derived.Test.YtmomfkikogbdeaaGreatDoorG24
open Go.Proofs.Tryz
open Classical renaming not_not->bV
open Go renaming maxLen->cH,bodyPost_ret->aW,heap_alloc_new->aJ
open Go.Ending renaming returned->cS
open Go.Exit renaming inBlock->aR
open Go.IntKind renaming i64->J
open Go.Obj renaming cells->cR
open Go.Proofs.Tryz renaming prog->aA
open Go.RowKit.Below renaming heap_alloc->bR
open Go.Value renaming int->cE,slice->aY,int->E,slice->F,tuple->cT,pointer->cU
open List renaming mem_cons->bB,length_append->bH,drop_eq_getElem_cons->aL
open Nat renaming lt_of_lt_of_le->aC,le_refl->aF,zero_le->aM,le_trans->aT
open Prod renaming fst->bK
set_option maxHeartbeats 12800000
set_option maxRecDepth 10000
namespace Go.Proofs.YtmomfkikogbdeaaGreatDoor.Tr
open Go.RowKit
theorem Pr:∀ (M:List Int) (U:List Zl) (N:List Int) (T:List Zl),M.length=U.length->Xc N T M U=0->Y9 U
 | [],[],_,_,_,_=>λb Q=>by cases Q
 | [],_ :: _,_,_,h,_=>by cases h
 | _ :: _,[],_,_,h,_=>by cases h
 | x :: M,b :: U,N,T,h,hc=>by
  rw[Xc] at hc;split at hc
  ·next q=>exact absurd hc q
  ·next q=>
   have h1:=chkB_head (Jl (bV.1 q));have h2:=Pr M U _ _ (by simpa using h) hc;intro y z
   rcases bB.1 z with rfl|z
   ·exact h1
   ·exact h2 y z
theorem Xy{N:List Int}{T:List Zl}(h:chkTr N T=0):N.length=T.length/\N.length<=24/\Y9 T/\Xc [] [] N T=0:=by
 unfold chkTr at h;split at h
 ·cases h
 ·next q=>
  split at h
  ·cases h
  ·next q2=>exact⟨bV.1 q,by omega,Pr N T [] [] (bV.1 q) h,h⟩
theorem Gg{N T}(h:Y9 T)(s:Int):(Wv N T s).length<=1000:=by
 unfold Wv;rw[M5];have:=(Jo h s N);omega
theorem Mg(a b)(n c d:Nat)(N T)(s:Int)(P:List Int)(pn:Nat)(w:World)(Q:n<=cH)(hN:IntsAt w a n N)(hT:BlksAt w b n T)(z:Y9 T)(hP:Wv N T s=P)(aa:P.length=pn) :
  Calls aA 131 #[.agg #[F a n c,F b n d],E J s] w λe w'=>∃ v,e = cS v/\w'.ownsRow w.heap.size 3 1 v pn (P.map (cE .i64))/\ZD w w':=by
 subst hP aa;exact Zce a b n c d N T s w Q hN hT z
theorem Zjv(a b n c m d N T)(s:Int)(P:List Int)(pn:Nat)(x:Int)(w:World)(hN:IntsAt w a n N)(hT:BlksAt w b m T)(sN:SlOk a n c)(sT:SlOk b m d)(hx:Qb N T s=(P,x))(aq:P.length=pn) :
  Calls aA 56 #[.agg #[F a n c,F b m d],E J s] w λe w'=>∃ v,e = cS (cT #[v,E J x])/\w'.ownsRow w.heap.size 3 1 v pn (P.map (cE .i64))/\ZD w w':=by
 obtain⟨X,hX⟩:=ZG (w.alloc (cR #[F a n c,F b m d] 28));have ac:ZD w X:=by rw[hX];exact Zh _ _
 have ah:X.heap[w.heap.size]? = some (cR [F a n c,F b m d].toArray 28 (0,0)):=by rw[hX];exact Yu _ _ _ _
 have HB:=Zd ac;have bb:=Zd ah;obtain⟨y,hy⟩:=ZF (chkTr N T);have C1:=Zd (Ve a b n c m d N T y X (hN.later ac) (hT.later ac) sN sT hy);have x0:=Zb ah 0 _ rfl;have x1:=Zb ah 1 _ rfl;have xl:=lt_of_block ah;unfold Qb at hx;rw[hy] at hx;by_cases q:y=0
 ·subst q;rw[if_neg (by simp)] at hx;obtain⟨hl,h24,hH,_⟩:=Xy hy;obtain rfl:n=m:=by rw[<-hN.1,<-hT.1,hl]
  have be:n<=cH:=sN.len;obtain⟨o,ho⟩:=ZF (decide (s∈N));rw[ho] at hx;have C2:=Zd (λW (hb:ZD X W)=>Kc a b n c n d N s o W be (hN.later (Zf ac hb)) ho);have C3:=Zd (λW (hb:ZD X W) (hP:Wv N T s=P)=>Mg a b n c d N T s P pn W be (hN.later (Zf ac hb)) (hT.later (Zf ac hb)) hH hP aq);have ag:=Zd hx;have br:=Zd aq;clear ac ah hN hT sN sT hy hx hl h24 hH ho aq be;by_cases q1:s=0
  ·subst q1
   have R:Hid (Wv N T 0=P/\0=x):=by
    have h:=Za ag;rw[if_neg (by simp)] at h;exact⟨congrArg bK h,congrArg Prod.snd h⟩
   clear ag C2;obtain rfl:0=x:=R.2;go_enter func56,ntmps56;go_wp2_with fail;rw[<-hX];clear hX;refine C1.mono ?_;rintro e w1 ⟨rfl,z⟩;have CC:=Zd (C3 _ z R.1);have Q:=ZE z bb;have t0:=Zb Q 0 _ rfl;have t1:=Zb Q 1 _ rfl;have tl:=lt_of_block Q;have ae:=Zd (Zf HB z);clear z x0 x1 xl Q C1 C3;go_wp2_with fail;refine CC.mono ?_;rintro e w2 ⟨v,rfl,bk,aa⟩;have R2:=Zd (Yo bk ae.size);have af:=Zd (Zf ae aa);clear bk aa;go_wp2;go_ret2;exact⟨v,rfl,Za R2,Za af⟩
  ·have g1:(s != 0)=true:=(by simp[q1]);cases o with
   | false=>
    have R:Hid (([]:List Int)=P/\5=x):=by
     have h:=Za ag;rw[if_pos ⟨q1,rfl⟩] at h;exact⟨congrArg bK h,congrArg Prod.snd h⟩
    clear ag C3;obtain⟨rfl,rfl⟩:=Za R;obtain rfl:0=pn:=Za br;clear q1;go_enter func56,ntmps56;go_wp2_with fail;rw[<-hX];clear hX;refine C1.mono ?_;rintro e w1 ⟨rfl,z⟩;have CC:=Zd (C2 _ z);have Q:=ZE z bb;have t0:=Zb Q 0 _ rfl;have t1:=Zb Q 1 _ rfl;have tl:=lt_of_block Q;have ae:=Zd (Zf HB z);clear z x0 x1 xl Q C1 C2;go_wp2_with fail;refine CC.mono ?_;rintro e w2 ⟨rfl,aa⟩;have af:=Zd (Zf ae aa);clear aa;go_wp2;go_ret2;exact⟨_,rfl,World.ownsRow_nil _ _ _ _,Za af⟩
   | true=>
    have R:Hid (Wv N T s=P/\0=x):=by
     have h:=Za ag;rw[if_neg (by simp)] at h;exact⟨congrArg bK h,congrArg Prod.snd h⟩
    clear ag;obtain rfl:0=x:=R.2;clear q1;go_enter func56,ntmps56;go_wp2_with fail;rw[<-hX];clear hX;refine C1.mono ?_;rintro e w1 ⟨rfl,z⟩;have CC:=Zd (C2 _ z);have az:=Zd z;have Q:=ZE z bb;have t0:=Zb Q 0 _ rfl;have t1:=Zb Q 1 _ rfl;have tl:=lt_of_block Q;clear z x0 x1 xl Q C1 C2;go_wp2_with fail;refine CC.mono ?_;rintro e w2 ⟨rfl,aa⟩;have af:=Zd (Zf HB (Zf az aa));have CC:=Zd (C3 _ (Zf az aa) R.1);have k0:=Ze aa t0;have k1:=Ze aa t1;have kl:=aC tl aa.size;clear aa t0 t1 tl az C3;go_wp2_with fail;refine CC.mono ?_;rintro e w3 ⟨v,rfl,bo,bi⟩;have R2:=Zd (Yo bo af.size);have bq:=Zd (Zf af bi);clear bo bi;go_wp2;go_ret2;exact⟨v,rfl,Za R2,Za bq⟩
 ·rw[if_pos q] at hx;obtain⟨rfl,rfl⟩:([]:List Int)=P/\y=x:=⟨congrArg bK hx,congrArg Prod.snd hx⟩;obtain rfl:0=pn:=aq;have g:(y != 0)=true:=by simp[q]
  clear ac ah hN hT sN sT hy hx q;go_enter func56,ntmps56;go_wp2_with fail;rw[<-hX];clear hX;refine C1.mono ?_;rintro e w1 ⟨rfl,z⟩;have ae:=Zd (Zf HB z);clear z x0 x1 xl;go_wp2;go_ret2;exact⟨_,rfl,World.ownsRow_nil _ _ _ _,Za ae⟩
theorem Zfz{N T}{s:Int}(h:(Qb N T s).2=0):chkTr N T=0/\(s=0\/s∈N)/\(Qb N T s).1=Wv N T s:=by
 unfold Qb at h ⊢;by_cases q:chkTr N T=0
 ·rw[if_neg (by simp[q])] at h ⊢;by_cases z:s≠0/\decide (s∈N)=false
  ·rw[if_pos z] at h;cases h
  ·rw[if_neg z];refine⟨q,?_,rfl⟩;by_cases e:s=0
   ·exact .inl e
   ·right
    by_cases Q:s∈N
    ·exact Q
    ·exact absurd ⟨e,by simp[Q]⟩ z
 ·rw[if_pos q] at h;exact absurd h q
theorem work_is(a b n c m d N T)(s bk x:Int)(w:World)(hN:IntsAt w a n N)(hT:BlksAt w b m T)(sN:SlOk a n c)(sT:SlOk b m d)(hx:workE N T s=(bk,x)) :
  ZH 34 #[.agg #[F a n c,F b m d],E J s] w (cT #[E J bk,E J x]):=by
 obtain⟨X,hX⟩:=ZG (w.alloc (cR #[F a n c,F b m d] 28));have Q:ZD w X:=by rw[hX];exact Zh _ _
 have ab:X.heap[w.heap.size]? = some (cR [F a n c,F b m d].toArray 28 (0,0)):=by rw[hX];exact Yu _ _ _ _
 have HB:=Zd Q;have bd:=Zd ab;obtain⟨P,y,hP⟩:∃ P y,Qb N T s=(P,y):=⟨_,_,rfl⟩;obtain⟨pn,af⟩:=ZF (P.length);have C1:=Zd (Zjv a b n c m d N T s P pn y X (hN.later Q) (hT.later Q) sN sT hP af);have x0:=Zb ab 0 _ rfl;have x1:=Zb ab 1 _ rfl;have xl:=lt_of_block ab;unfold workE at hx;have ae:=Zfz (N:=N) (T:=T) (s:=s);rw[hP] at hx ae;by_cases q:y=0
 ·subst q;rw[if_neg (by simp)] at hx;obtain⟨an,_,hp⟩:=ae rfl;obtain⟨hl,h24,hH,_⟩:=Xy an;obtain rfl:n=m:=by rw[<-hN.1,<-hT.1,hl]
  have aq:n<=cH:=sN.len;have bf:pn<=1000:=by rw[<-af];simp only at hp;rw[hp];exact Gg hH s
  obtain⟨hz,rfl⟩:Xw N T 0 P=bk/\0=x:=⟨congrArg bK hx,congrArg Prod.snd hx⟩;have C2:=Zd (λpa pc W (hb:ZD X W) (be:IntsAt W pa pn P)=>L3 a b pa n c d pn pc N T P bk W aq (hN.later (Zf Q hb)) (hT.later (Zf Q hb)) be bf hH hz);clear Q ab hN hT sN sT hP hx hl h24 hH af aq ae hp an hz;go_enter func34,ntmps34;go_wp2_with fail;rw[<-hX];clear hX;refine C1.mono ?_;rintro e w1 ⟨v,rfl,ar,z⟩;obtain⟨pa,pc,rfl,_,au⟩:=Ur ar;have CC:=Zd (C2 pa pc _ z au);have hc:=ZE z bd;have t0:=Zb hc 0 _ rfl;have t1:=Zb hc 1 _ rfl;have tl:=lt_of_block hc;have ag:=Zd (Zf HB z);clear z x0 x1 xl hc C1 C2 ar au;go_wp2_with fail;refine CC.mono ?_;rintro e w2 ⟨rfl,am⟩;have bb:=Zd (Zf ag am);clear am;go_wp2;go_ret2;exact⟨rfl,Za bb⟩
 ·rw[if_pos q] at hx;obtain⟨rfl,rfl⟩:0=bk/\y=x:=⟨congrArg bK hx,congrArg Prod.snd hx⟩;have g:(y != 0)=true:=by simp[q]
  clear Q ab hN hT sN sT hP hx q af ae;go_enter func34,ntmps34;go_wp2_with fail;rw[<-hX];clear hX;refine C1.mono ?_;rintro e w1 ⟨v,rfl,_,z⟩;have ag:=Zd (Zf HB z);clear z x0 x1 xl;go_wp2;go_ret2;exact⟨rfl,Za ag⟩
def addE(N:List Int)(T:List Zl)(x:Int)(b:Zl):List Int×List Zl×Int:=
 if chkTr N T≠0 then ([],[],chkTr N T) else if nextD N T x b≠0 then ([],[],nextD N T x b) else if N.length=24 then ([],[],12) else (N++[x],T++[b],0)
theorem Mo:∀ (l pre:List InD),Yb pre l=0->∀ x∈l,x.2.2.length<=16
 | [],_,_,x,hx=>by cases hx
 | y :: r,pre,h,x,hx=>by
  rw[Yb] at h;split at h
  ·next q=>
   rcases bB.1 hx with rfl|hx
   ·unfold Xv at q;split at q
    ·cases q
    ·split at q
     ·next q1=>exact absurd q q1
     ·next q1=>exact Sb (bV.1 q1)
   ·exact Mo r _ h x hx
  ·next q=>exact absurd h q
theorem Hm:∀ (l:List Zz),Z8 l=0->∀ x∈l,x.2.length<=16
 | [],_,x,hx=>by cases hx
 | y :: r,h,x,hx=>by
  rw[Z8] at h;split at h
  ·next q=>
   rcases bB.1 hx with rfl|hx
   ·unfold Yz at q;split at q
    ·cases q
    ·exact Sb q
   ·exact Hm r h x hx
  ·next q=>exact absurd h q
theorem tx_small{t}(h:Zw t=0):TxSmall t:=by
 unfold Zw at h;split at h
 ·cases h
 ·next q0=>
  split at h
  ·cases h
  ·split at h
   ·cases h
   ·split at h
    ·next q=>exact absurd h q
    ·next q=>
     have h1:=Mo _ _ (bV.1 q);unfold Yj at h;split at h
     ·next q2=>
      have h2:=Hm _ q2;exact⟨by omega,by omega,λx hx=>by have:=h1 x hx;omega,λx hx=>by have:=h2 x hx;omega⟩
     ·next q2=>exact absurd h q2
theorem Qg(h:Int):∀ (T:List TxD) (i:Nat),Xx h i T=0->∀ t∈T,Zw t=0
 | [],_,_,t,z=>by cases z
 | u :: r,i,q,t,z=>by
  rw[Xx] at q;split at q
  ·next q1=>exact absurd q q1
  ·next q1=>
   split at q
   ·cases q
   ·rcases bB.1 z with rfl|z
    ·exact bV.1 q1
    ·exact Qg h r _ q t z
theorem blk_small{b:Zl}(h:Ym b=0):BlkSmall b:=by
 unfold Ym at h;split at h
 ·cases h
 ·split at h
  ·cases h
  ·next q=>
   split at h
   ·cases h
   ·exact⟨by omega,λt z=>tx_small (Qg _ _ _ h t z)⟩
theorem chkGo_blks:∀ (M:List Int) (U:List Zl) (N:List Int) (T:List Zl),M.length=U.length->Xc N T M U=0->∀ b∈U,Ym b=0
 | [],[],_,_,_,_=>λb Q=>by cases Q
 | [],_ :: _,_,_,h,_=>by cases h
 | _ :: _,[],_,_,h,_=>by cases h
 | x :: M,b :: U,N,T,h,hc=>by
  rw[Xc] at hc;split at hc
  ·next q=>exact absurd hc q
  ·next q=>
   have h1:=Jl (bV.1 q);have h2:=chkGo_blks M U _ _ (by simpa using h) hc;intro y z
   rcases bB.1 z with rfl|z
   ·exact h1
   ·exact h2 y z
def AddR(w w':World)(N:List Int)(T:List Zl)(n:Nat)(x:Int)(e:Ending):Prop:=
 ∃ z c1 Q c2,e = cS (cT #[.agg #[F z n c1,F Q n c2],E J x])/\Fresh w.heap.size w' (λw2=>IntsAt w2 z n N/\BlksAt w2 Q n T)/\SlOk z n c1/\SlOk Q n c2/\ZD w w'
theorem Li{w w':World}{x:Int}(z:ZD w w'):AddR w w' [] [] 0 x (cS (cT #[.agg #[F none 0 0,F none 0 0],E J x])):=
 ⟨none,0,none,0,rfl,λ_ _=>⟨IntsAt.nil _ _,RowsAt.nil _ _⟩,⟨aF _,aM _,λ_=>⟨rfl,rfl⟩⟩,⟨aF _,aM _,λ_=>⟨rfl,rfl⟩⟩,z⟩
theorem Ta{w W:World}{t:Nat}(z:ZD w W)(ht:w.heap.size<=t)(Q:w.heap.size<=W.heap.size)(u v):ZD w ((W.setCell ⟨t,0,none⟩ u).setCell ⟨t,1,none⟩ v):=
 (((Gr.refl W (λq=>q=t)).one t 0 (.inl rfl) u).one t 1 (.inl rfl) v).below z Q (λk e=>by omega)
theorem Zlf{B z G O t6 n:Nat}{w5 w9 am an Q:World}{v1 v2:Value}{g cap g2 ag:Nat}{N}{T:List Zl}{s:Int}{b:Zl}{K:List (List Value)}{cs}
  (hB:B<=z) (bx:t6<z) (bt:z<=G) (bb:T.length=n) (hF:Fresh G w5 (λw2=>AllC blkR w2 K T)) (hf:Fresh w9.heap.size am (λw2=>blkR.C w2 cs b))
  (h1:∀ q,v1.ownBlock=some q->q<G) (h2:∀ q,v2.ownBlock=some q->q<G) (ax:∀ q,v2.ownBlock=some q->z<=q/\q<w5.heap.size) (hO:O=w5.heap.size) (bv:O<w9.heap.size) (bs:B<=w9.heap.size) (bz:t6<w9.heap.size)
  (g9:Gr w5 w9 (λq=>v1.ownBlock=some q)) (gF:Gr w9 Q (λq=>v2.ownBlock=some q\/q=O\/q=t6)) (au:Gr am Q (λq=>v2.ownBlock=some q\/q=O\/q=t6)) (av:Gr an Q (λq=>q=O\/q=t6))
  (al:w9.ownsRow z 3 1 (F (some ⟨g,0,none⟩) (n+1) cap) (n+1) ((N++[s]).map (cE .i64))) (hg:g≠O) (bh:v2.ownBlock≠some g)
  (aj:an.ownsRow z 39 5 (F (some ⟨g2,0,none⟩) (n+1) ag) (n+1) (K.flatten++cs)) (bi:g2≠O) :
  Fresh B Q (λw2=>IntsAt w2 (some ⟨g,0,none⟩) (n+1) (N++[s])/\BlksAt w2 (some ⟨g2,0,none⟩) (n+1) (T++[b]))/\SlOk (some ⟨g,0,none⟩) (n+1) cap/\SlOk (some ⟨g2,0,none⟩) (n+1) ag:=by
 have gb:=(al.lt g rfl).1;have br:=(aj.lt g2 rfl).1
 have ad:=gF.own al (λq hq e=>by
  cases hq
  rcases e with e|e|e
  ·exact bh e
  ·exact hg e
  ·simp only at e;omega)
 have ac:=av.own aj (λq hq e=>by
  cases hq
  rcases e with e|e
  ·exact bi e
  ·simp only at e;omega)
 have az:Fresh G Q (λw2=>AllC blkR w2 K T):=hF.on (((g9.mono (T:=λq=>v1.ownBlock=some q\/v2.ownBlock=some q\/q=O\/q=t6) λq _ e=>.inl e).trans (gF.mono λq _ e=>.inr e)).mono λq hq e=>by
  rcases e with e|e|e|e
  ·exact h1 q e
  ·exact h2 q e
  ·omega
  ·omega)
 have be:Fresh w9.heap.size Q (λw2=>blkR.C w2 cs b):=hf.on (au.mono λq _ e=>by
  rcases e with e|e|e
  ·have:=(ax q e).2;omega
  ·omega
  ·omega)
 have s1:=Z0 ad;have s2:=Z0 ac;obtain⟨a1,c1,e1,s1,_⟩:=s1;obtain⟨a2,c2,e2,s2,_⟩:=s2;cases e1;cases e2;refine⟨λw2 g2=>?_,s1,s2⟩;have bk:=g2.own ad (λq hq=>by have:=(ad.lt q hq).1;omega);have ak:=g2.own ac (λq hq=>by have:=(ac.lt q hq).1;omega);obtain⟨a1,c1,e1,_,i1⟩:=Ur bk;cases e1;have hA:=(az w2 (g2.mono λq _ e=>by omega)).snoc (be w2 (g2.mono λq _ e=>by omega));have bf:K.flatten++cs=(K++[cs]).flatten:=by simp
 rw[bf] at ak;obtain⟨a2,c2,e2,r2,_⟩:=rows_of_own blkR ak hA (by rw[bH,bb];rfl);cases e2;exact⟨i1,r2⟩
theorem add_is(a b n c m d N T)(s p h k o:Int)(ta tn tc L)(N':List Int)(T')(n':Nat)(x:Int)(w)(hN:IntsAt w a n N)(hT:BlksAt w b m T)(sN:SlOk a n c)(sT:SlOk b m d)(hL:TxsAt w ta tn L)(sL:SlOk ta tn tc)(hx:addE N T s (p,h,k,o,L)=(N',T',x))(cz:N'.length=n') :
  Calls aA 63 #[.agg #[F a n c,F b m d],E J s,.agg #[E J p,E J h,E J k,E J o,F ta tn tc]] w λe w'=>AddR w w' N' T' n' x e:=by
 obtain⟨i0,hi,gs,gu,gv⟩:=info_parts Tryz.infoInt;obtain⟨j0,ji,gz,ia,ib⟩:=info_parts Tryz.infoBlkC;obtain⟨X,hX⟩:=ZG (((w.alloc (cR #[F a n c,F b m d] 28)).alloc (cR #[E J p,E J h,E J k,E J o,F ta tn tc] 39)).alloc (cR #[F none 0 0,F none 0 0] 28));have ae:ZD w X:=by rw[hX];exact Zf (Zf (Zh _ _) (Zh _ _)) (Zh _ _)
 have aq:X.heap[w.heap.size]? = some (cR [F a n c,F b m d].toArray 28 (0,0)):=by
  rw[hX,bR _ _ _ (by simp;omega),bR _ _ _ (by simp)];exact Yu _ _ _ _
 have cp:X.heap[w.heap.size+1]? = some (cR [E J p,E J h,E J k,E J o,F ta tn tc].toArray 39 (0,0)):=by
  rw[hX,bR _ _ _ (by simp)];have:=Zx (w.alloc (cR #[F a n c,F b m d] 28)) (E J p) (E J h) (E J k) (E J o) (F ta tn tc) 39;rw[show (w.alloc (cR #[F a n c,F b m d] 28)).heap.size=w.heap.size+1 by simp] at this;exact this
 have cq:X.heap[w.heap.size+2]? = some (cR [F none 0 0,F none 0 0].toArray 28 (0,0)):=by
  rw[hX];have:=Yu ((w.alloc (cR #[F a n c,F b m d] 28)).alloc (cR #[E J p,E J h,E J k,E J o,F ta tn tc] 39)) (F none 0 0) (F none 0 0) 28;rw[show ((w.alloc (cR #[F a n c,F b m d] 28)).alloc (cR #[E J p,E J h,E J k,E J o,F ta tn tc] 39)).heap.size=w.heap.size+2 by simp] at this;exact this
 have hm:=sN.2.1;unfold cH at hm;have iy:=sN.1;have HB:=Zd ae;have dn:=Zd aq;have dp:=Zd cp;have dq:=Zd cq;obtain⟨y,hy⟩:=ZF (chkTr N T);obtain⟨jh,hz⟩:=ZF (nextD N T s (p,h,k,o,L));have C1:=Zd (Ve a b n c m d N T y X (hN.later ae) (hT.later ae) sN sT hy);have x0:=Zb aq 0 _ rfl;have x1:=Zb aq 1 _ rfl;have xl:=lt_of_block aq;unfold addE at hx;rw[hy,hz] at hx;by_cases q:y=0
 ·subst q;rw[if_neg (by simp)] at hx;obtain⟨hl,h24,hH,ed⟩:=Xy hy;obtain rfl:n=m:=by rw[<-hN.1,<-hT.1,hl]
  have ee:n<=cH:=sN.len;have ix:n<=24:=by rw[<-hN.1];exact h24
  have HS:=Zd (λt ht=>blk_small (chkGo_blks N T [] [] hl ed t ht));have C2:=Zd (λW (hb:ZD X W)=>Zaq a b n c d N T s p h k o ta tn tc L jh W ee (hN.later (Zf ae hb)) (hT.later (Zf ae hb)) (hL.later (Zf ae hb)) hH hz);rw[hN.1] at hx;have al:=Zd hx;have cf:=Zd cz;have CT:=Zd (λW (hb:ZD X W)=>clTree_is a b n c d N T W (hN.later (Zf ae hb)) (hT.later (Zf ae hb)) sN sT (by omega) HS);have CB:=Zd (λW (hb:ZD w W) (q:jh=0)=>clBlock_is p h k o ta tn tc L W (hL.later hb) sL (by rw[<-hL.1];exact (blk_small (Jl (hz.trans q))).1) (blk_small (Jl (hz.trans q))).2);have fu:=Zd hN.1;clear ae aq cp cq hN hT sN sT hL sL hy hz hl h24 hH ed ee hx cz HS;go_enter func63,ntmps63;go_wp2_with fail;rw[<-hX];clear hX;refine C1.mono ?_;rintro e w1 ⟨rfl,aj⟩;have ak:=Zd aj;have h0:=ZE aj dn;have h1:=ZE aj dp;have a0:=Zb h0 0 _ rfl;have a1:=Zb h0 1 _ rfl;have jj:=lt_of_block h0;have b0:=Zb h1 0 _ rfl;have b1:=Zb h1 1 _ rfl;have b2:=Zb h1 2 _ rfl;have b3:=Zb h1 3 _ rfl;have b4:=Zb h1 4 _ rfl;have bl:=lt_of_block h1;clear aj h0 h1 x0 x1 xl C1;go_wp2_with fail;refine (C2 _ ak).mono ?_;rintro e w2 ⟨rfl,dz⟩;have az:=Zd (Zf ak dz);clear dz a0 a1 jj b0 b1 b2 b3 b4 bl C2 ak;have h0:=ZE az dn;have h1:=ZE az dp;have h2:=ZE az dq;have c0:=Zb h2 0 _ rfl;have c1:=Zb h2 1 _ rfl;have f0:=Zg h2 0;have f1:=Zg h2 1;have cl:=lt_of_block h2;have bb:=Zd (Zf HB az);by_cases q2:jh=0
  ·subst q2;have a0:=Zb h0 0 _ rfl;have a1:=Zb h0 1 _ rfl;have jj:=lt_of_block h0;by_cases q3:n=24
   ·subst q3
    obtain⟨rfl,rfl,rfl⟩:([]:List Int)=N'/\([]:List Zl)=T'/\12=x:=by
     have q:=Za al;rw[if_neg (by simp),if_pos rfl] at q;exact⟨congrArg (·.1) q,congrArg (·.2.1) q,congrArg (·.2.2) q⟩
    obtain rfl:0=n':=Za cf;clear al h0 h1 h2;go_wp2;(try simp only[aR,Exit.then]);refine aW (v:=cT #[.agg #[F none 0 0,F none 0 0],E J 12]) ?_ rfl (Li ?_)
    ·rw[Zo rfl];go_simp
    ·exact Ta bb (by omega) bb.size _ _
   ·have R:Hid (N++[s]=N'/\T++[(p,h,k,o,L)]=T'/\0=x):=by
     have q:=Za al;rw[if_neg (by simp),if_neg q3] at q;exact⟨congrArg (·.1) q,congrArg (·.2.1) q,congrArg (·.2.2) q⟩
    obtain rfl:0=x:=R.2.2;have g3:((n:Int) == 24)=false:=(by simp;omega);have H0:=Zd h0;have H1:=Zd h1;have H2:=Zd h2;obtain rfl:n+1=n':=(by rw[<-Za cf,<-(Za R).1,bH,Za fu];rfl);clear al q3 h0 h1 h2 c0 c1 f0 f1;go_wp2_with fail;refine (CT _ az).mono ?_;rintro e w5 ⟨v1,v2,rfl,gj,ct⟩;obtain⟨K,G,o1,o2,g1,g2,dv,dx,hF⟩:=gj;obtain⟨aa,ac,rfl,s1,r1⟩:=Z0 o1;obtain⟨z,Q,rfl,s2,r2⟩:=Z0 o2;obtain⟨t6,ja⟩:=ZG (w.heap.size+2);have iu:w.heap.size+3<=w2.heap.size+2:=(by omega);have iz:w2.heap.size<=w5.heap.size:=ct.size;have dy:∀ q,(aY aa n ac).ownBlock=some q->w2.heap.size+2<=q/\q<w5.heap.size:=λq hq=>o1.lt q hq;have ea:∀ q,(aY z n Q).ownBlock=some q->w2.heap.size+2<=q/\q<w5.heap.size:=λq hq=>o2.lt q hq;have cg:Hid (((w5.alloc (cR #[F aa n ac,F z n Q] 28)).alloc (cR #[E J s] 3)).ownsRow (w2.heap.size+2) 3 1 (F aa n ac) n (N.map (cE .i64))):=(o1.alloc _).alloc _
    have fv:Hid (∀ j u,([E J s]:List Value)[j]? = some u->((w5.alloc (cR #[F aa n ac,F z n Q] 28)).alloc (cR #[E J s] 3)).cell? ((⟨w5.heap.size+1,0,none⟩:Addr).add j)=some u):=by
     have:=aJ (w5.alloc (cR #[F aa n ac,F z n Q] 28)) (cR #[E J s] 3);rw[show (w5.alloc (cR #[F aa n ac,F z n Q] 28)).heap.size=w5.heap.size+1 by simp] at this;exact World.news_of_block (cs:=#[E J s]) (t:=3) (fr:=(0,0)) this
    have BX:Hid (((w5.alloc (cR #[F aa n ac,F z n Q] 28)).alloc (cR #[E J s] 3)).heap[w5.heap.size]? = some (cR [F aa n ac,F z n Q].toArray 28 (0,0))):=by
     show _=_;rw[bR _ _ _ (by simp)];exact Yu _ _ _ _
    have bs:=Zd o2;have HF:=Zd hF;have fg:=Zd g1;have fh:=Zd g2;have bd:=Zd dy;have be:=Zd ea;have ce:=Zd ct;have fq:=Zd dx;have ez:=Zd dv;have ir:=Zd s2;clear o1 o2 hF g1 g2 dy ea ct a0 a1 jj r1 r2 CT dx dv s1 s2
    go_wp2_with (at_builtin;refine wpList_append_lies _ rfl _ _ 25 rfl (w2.heap.size+2) 3 i0 (E J 0) 1 8 underlying25 hi gs gu gv rfl (by decide) _ _ _ rfl cg ⟨w5.heap.size+1,0,none⟩ 1 1 [E J s] rfl rfl fv (λu hu=>by simp at hu;subst hu;rfl) (by decide) (by unfold cH;omega) (by omega) (by simp;omega) (w5.heap.size+2) (by simp) ?_;intro g cap w8 ei cx eg iw;have an:=(cx.block w5.heap.size (by simp;omega) (λe=>by have:=(bd _ e.symm).2;omega)).trans BX;have d0:=Zb an 0 _ rfl;have d1:=Zb an 1 _ rfl;have jk:=Zg an 0;have dl:=lt_of_block an;have dm:=Zd ei;have fj:=Zd cx;have fp:=Zd eg;have ft:=Zd an;clear ei cx eg an)
    obtain⟨w9,bq⟩:=ZG (w8.setCell ⟨w5.heap.size,0,none⟩ (F (some ⟨g,0,none⟩) (n+1) cap));rw[<-bq];have cn:Gr w5 w8 (λq=>(aY aa n ac).ownBlock=some q):=(((Gr.refl w5 (λq=>(aY aa n ac).ownBlock=some q)).new _).new _).grown fj (λk hk=>.inl hk);have ap:Gr w5 w9 (λq=>(aY aa n ac).ownBlock=some q):=(by rw[bq];exact cn.one w5.heap.size 0 (.inr (aF _)) _);have bg:w9.heap[w5.heap.size]? = some (cR [F (some ⟨g,0,none⟩) (n+1) cap,F z n Q].toArray 28 (0,0)):=(by rw[bq];exact set_cells ft 0 _);have cu:ZD w w9:=ap.below (Zf bb ce) (by omega) (λq hq=>by have:=(bd q hq).1;omega);have h91:=ap.heap (ZE ce H1) (λhq=>by have:=(bd _ hq).1;have:=lt_of_block H1;omega);have h92:=ap.heap (ZE ce H2) (λhq=>by have:=(bd _ hq).1;omega)
    have ec:g≠w5.heap.size/\w2.heap.size+2<=g:=by
     rcases Za fp with e|e
     ·have:=bd g e;omega
     ·omega
    have gm:(aY z n Q).ownBlock≠some g:=by
     have il:w8.ownsRow (w2.heap.size+2) 39 5 (F z n Q) n K.flatten:=cn.own bs (λq hq e=>own_apart (((cg.kept (w':=(w5.alloc (cR #[F aa n ac,F z n Q] 28)).alloc (cR #[E J s] 3)) (row:=none) (World.grownBy.refl _ _) (by cases aa <;> simp[Value.ownBlock])))) ((bs.alloc _).alloc _) (by decide) q e hq);exact own_apart dm il (by decide) g rfl
    have en:w9.ownsRow (w2.heap.size+2) 3 1 (F (some ⟨g,0,none⟩) (n+1) cap) (n+1) ((N++[s]).map (cE .i64)):=by
     rw[bq];have:=((Gr.refl w8 (λq=>q=w5.heap.size)).one w5.heap.size 0 (.inl rfl) (F (some ⟨g,0,none⟩) (n+1) cap)).own dm (λq hq e=>by cases hq;exact ec.1 e);simpa using this
    have el:w9.ownsRow (w2.heap.size+2) 39 5 (F z n Q) n K.flatten:=ap.own bs (λq hq e=>own_apart cg ((bs.alloc _).alloc _) (by decide) q e hq);have l9:w5.heap.size<w9.heap.size:=lt_of_block bg;have CC:=Zd (CB w9.drew (Zf cu (Zi _)) (by trivial));have e0:=Zb bg 0 _ rfl;have e1:=Zb bg 1 _ rfl;have k0:=Zb h91 0 _ rfl;have k1:=Zb h91 1 _ rfl;have k2:=Zb h91 2 _ rfl;have k3:=Zb h91 3 _ rfl;have k4:=Zb h91 4 _ rfl;have kl:=lt_of_block h91;have fc:=Zd bg;have fi:=Zd ap;have dh:=Zd h92;have fm:=Zd en;have fl:=Zd el;have ew:=Zd cu;clear bq cn ap bg cu h91 h92 en el d0 d1 jk dl CB
    go_region_law (first
     | (refine Yg (by rfl) 71 #[.agg #[E J p,E J h,E J k,E J o,F ta tn tc]] (by kernel_rfl) CC ?_;rintro e aw ⟨a5,c5,rfl,eb,bx⟩;refine⟨_,rfl,?_⟩;have bf:=ZE bx fc;have m0:=Zb bf 0 _ rfl;have m1:=Zb bf 1 _ rfl;have ml:=lt_of_block bf;have fe:=Zd eb;have dj:=Zd bx;have fa:=Zd bf;have fk:=Zd ((Gr.of (S:=λ_=>False) bx).own fl.drew (λ_ _ q=>q));clear eb bx bf)
     | (refine step_append_lies _ (by rfl) _ _ _ (by rfl) (w2.heap.size+2) 39 j0 _ 5 56 underlying26 ji gz ia ib rfl (by decide) (F z n Q) n K.flatten (by rfl) (fk.alloc _) ⟨aw.heap.size,0,none⟩ 1 1 [E J p,E J h,E J k,E J o,F a5 tn c5] (by rfl) (by rfl) (World.news_of_block (cs:=#[E J p,E J h,E J k,E J o,F a5 tn c5]) (t:=39) (fr:=(0,0)) (aJ aw _)) (by simp[Value.oneCell']) (by decide) (by unfold cH;omega) (by omega) (by simp;omega) (aw.heap.size+1) (by simp) ?_;intro g2 bh ax eh cw ef iv;have am:=(cw.block w5.heap.size (by simp;omega) (λe=>by have:=(be _ e.symm).2;omega)).trans ((bR _ _ _ ml).trans fa);have n0:=Zb am 0 _ rfl;have n1:=Zb am 1 _ rfl;have nf:=Zg am 1;have nl:=lt_of_block am;have fs:=Zd eh;have dk:=Zd cw;have fo:=Zd ef;have fb:=Zd am;clear eh cw ef am))
    all_goals
     have bv:Gr w9 ax (λq=>(aY z n Q).ownBlock=some q):=((Gr.of (Zf (Zi w9) dj)).new _).grown dk (λk hk=>.inl hk);have du:Gr aw ax (λq=>(aY z n Q).ownBlock=some q):=((Gr.refl aw _).new _).grown dk (λk hk=>.inl hk);have ep:=bv.heap dh (λe=>by have:=(be _ e).1;omega);obtain⟨cc,bo⟩:=ZG (ax.setCell ⟨w5.heap.size,1,none⟩ (F (some ⟨g2,0,none⟩) (n+1) bh));have bt:cc.heap[w5.heap.size]? = some (cR [F (some ⟨g,0,none⟩) (n+1) cap,F (some ⟨g2,0,none⟩) (n+1) bh].toArray 28 (0,0)):=(by rw[bo];exact set_cells fb 1 _);have av:cc.heap[w.heap.size+2]? = some (cR [F none 0 0,F none 0 0].toArray 28 (0,0)):=by rw[bo];exact ((Gr.refl ax (λq=>q=w5.heap.size)).one w5.heap.size 1 (.inl rfl) _).heap ep (by omega)
     have gf:∀ {W:World} {S:Nat->Prop},Gr W ax S->Gr W ((cc.setCell ⟨w.heap.size+2,0,none⟩ (F (some ⟨g,0,none⟩) (n+1) cap)).setCell ⟨w.heap.size+2,1,none⟩ (F (some ⟨g2,0,none⟩) (n+1) bh)) (λq=>S q\/q=w5.heap.size\/q=w.heap.size+2):=by
      intro W S hW;rw[bo];exact (((hW.mono (λq _ e=>.inl e)).one w5.heap.size 1 (.inl (.inr (.inl rfl))) _).one (w.heap.size+2) 0 (.inl (.inr (.inr rfl))) _).one (w.heap.size+2) 1 (.inl (.inr (.inr rfl))) _
     have gp:=dj.size
     have df:=Zlf (w9:=w9) (B:=w.heap.size) (t6:=w.heap.size+2) (by omega) (by omega) ez fq HF fe fg fh be rfl l9 (by omega) (by have:=lt_of_block dh;omega) fi (gf bv) (gf du) ((gf (Gr.refl ax (λ_=>False))).mono λq _ e=>by rcases e with e|e;exact e.elim;exact e) fm ec.1 gm fs (by
      rcases Za fo with e|e
      ·have:=be g2 e;omega
      ·have:w9.heap.size<=aw.heap.size:=gp;omega)
     have ff:=Zd df
     have ey:Hid (ZD w ((cc.setCell ⟨w.heap.size+2,0,none⟩ (F (some ⟨g,0,none⟩) (n+1) cap)).setCell ⟨w.heap.size+2,1,none⟩ (F (some ⟨g2,0,none⟩) (n+1) bh))):=(gf bv).below ew (by omega) (λq e=>by
      rcases e with e|e|e
      ·have:=(be _ e).1;omega
      ·omega
      ·omega)
     have y0:=Zb bt 0 _ rfl;have y1:=Zb bt 1 _ rfl;have yl:=lt_of_block bt;have u0:=Zb av 0 _ rfl;have u1:=Zb av 1 _ rfl;have jb:=Zg av 0;have jc:=Zg av 1;have ul:=lt_of_block av;rw[<-bo];clear bo gf df bv du ep bt av n0 n1 nf nl m0 m1 ml e0 e1 k0 k1 k2 k3 k4 kl;go_wp2;(try simp only[aR,Exit.then]);refine aW (v:=cT #[.agg #[F (some ⟨g,0,none⟩) (n+1) cap,F (some ⟨g2,0,none⟩) (n+1) bh],E J 0]) ?_ rfl ?_
     ·rw[Zo rfl];go_simp
     ·obtain⟨f1,f2,f3⟩:=Za ff;rw[<-(Za R).1,<-(Za R).2.1];exact⟨_,_,_,_,rfl,f1,f2,f3,Za ey⟩
  ·obtain⟨rfl,rfl,rfl⟩:([]:List Int)=N'/\([]:List Zl)=T'/\jh=x:=by
    have q:=Za al;rw[if_pos q2] at q;exact⟨congrArg (·.1) q,congrArg (·.2.1) q,congrArg (·.2.2) q⟩
   obtain rfl:0=n':=Za cf;have g2:(jh != 0)=true:=(by simp[q2]);clear al h0 h1 h2 q2;go_wp2;(try simp only[aR,Exit.then]);refine aW (v:=cT #[.agg #[F none 0 0,F none 0 0],E J jh]) ?_ rfl (Li ?_)
   ·rw[Zo rfl];go_simp
   ·exact Ta bb (by omega) bb.size _ _
 ·rw[if_pos q] at hx;obtain⟨rfl,rfl,rfl⟩:([]:List Int)=N'/\([]:List Zl)=T'/\y=x:=⟨congrArg (·.1) hx,congrArg (·.2.1) hx,congrArg (·.2.2) hx⟩;obtain rfl:0=n':=cz;have g:(y != 0)=true:=by simp[q]
  clear ae aq cp cq hN hT sN sT hL sL hy hz hx q;go_enter func63,ntmps63;go_wp2_with fail;rw[<-hX];clear hX;refine C1.mono ?_;rintro e w1 ⟨rfl,aj⟩;have h2:=ZE aj dq;have c0:=Zb h2 0 _ rfl;have c1:=Zb h2 1 _ rfl;have f0:=Zg h2 0;have f1:=Zg h2 1;have cl:=lt_of_block h2;have ak:=Zd (Zf HB aj);clear aj h2 x0 x1 xl C1;go_wp2;(try simp only[aR,Exit.then]);refine aW (v:=cT #[.agg #[F none 0 0,F none 0 0],E J y]) ?_ rfl (Li ?_)
  ·rw[Zo rfl];go_simp
  ·exact Ta ak (by omega) ak.size _ _
end Tr
open Go.RowKit
structure Zlj(f:Nat)(caps:Array Value)(w0:World)(C0:List Zj)(D0:Nat->Prop)(I:Nat->(Nat->Prop)->World->List (TxD×List Zj)->Prop):Prop where
 enters:∀ args w,(callFunc f args).run aA w = .ok (.enter f args) w
 start:∀ p w,ZD w0 w->w0.heap.size<=p->p<w.heap.size->I p D0 w []
 dirty:∀ p D w X,I p D w X->∀ q,D q->q≠p/\q<w.heap.size/\(D0 q\/w0.heap.size<=q)
 on:∀ p D w w' X,I p D w X->Gr w w' (λq=>q=p)->I p D w' X
 call:∀ p D wA w X t C' u0 u1 u2,I p D wA X->ZD wA w->Fresh wA.heap.size w (λw2=>Tr.txR.C w2 [u0,u1,u2] t)->Y8 (Y4 C0 X)->Y8 C'->Zr C'<=Zr (Y4 C0 X)->X.length<8 ->
  Calls aA f (#[.agg #[u0,u1,u2],E J (Zr (Y4 C0 X) - Zr C')]++caps) w λe w'=>e = cS (cT #[])/\Gr w w' D/\∃ D',I p D' w' (X++[(t,C')])
def SwR(w w':World)(x:Int)(D0:Nat->Prop)(K:List ByteArray)(C:List Zj)(h:Int)(I:Nat->(Nat->Prop)->World->List (TxD×List Zj)->Prop)(X:List (TxD×List Zj))(e:Ending):Prop:=
 (x≠0/\e = cS (cT #[cU none,E J x])/\ZD w w') \/
 (x=0/\∃ p D,e = cS (cT #[cU (some ⟨p,0,none⟩),E J 0])/\w.heap.size<=p/\Gr w w' D0/\DoT w' w.heap.size p K C h/\I p D w' X)
structure SwS(w0 wr:World)(h:Int)(D0:Nat->Prop)(I:Nat->(Nat->Prop)->World->List (TxD×List Zj)->Prop)(s0:List ByteArray×List Zj)(L:List TxD)(p k:Nat):Prop where
 gr:Gr w0 wr D0
 all:∃ B D K C X,w0.heap.size<=B/\DoT wr B p K C h/\I p D wr X/\Bk.Right K/\Y8 C/\Y4 s0.2 X=C/\X.length<=k/\swT h L s0=X++swT h (L.drop k) (K,C)/\(Zu h L s0).2=(Zu h (L.drop k) (K,C)).2
theorem Gr.far{w Q w2:World}{S T:Nat->Prop}(h:Gr w Q S)(k:Gr Q w2 T)(hT:∀ q,T q->w.heap.size<=q\/S q):Gr w w2 S:=
 ⟨k.os.trans h.os,k.tape.trans h.tape,k.output.trans h.output,aT h.size k.size,λi hi z=>(k.block i (aC hi h.size) (λq=>by
  rcases hT i q with q|q
  ·omega
  ·exact z q)).trans (h.block i hi z)⟩
theorem Zmf{h:Int}{L:List TxD}{k:Nat}(z:k<L.length)(s:List ByteArray×List Zj):swT h (L.drop k) s=if (doD h s L[k]).1=0 then (L[k],(doD h s L[k]).2.2) :: swT h (L.drop (k+1)) (doD h s L[k]).2 else swT h (L.drop (k+1)) s:=by
 rw[aL z,swT]
theorem Zjk{h:Int}{L:List TxD}{k:Nat}(z:k<L.length)(s:List ByteArray×List Zj):(Zu h (L.drop k) s).2=if (doD h s L[k]).1=0 then (Zu h (L.drop (k+1)) (doD h s L[k]).2).2 else (Zu h (L.drop (k+1)) s).2:=by
 rw[aL z,Zu];split <;> rfl
theorem Sm(f:Nat)(caps)(D0:Nat->Prop)(I:Nat->(Nat->Prop)->World->List (TxD×List Zj)->Prop)(ka kn kc K la ln lc C a m c L)(h x:Int)(w)
  (hk:Zlj f caps w C D0 I) (az:World) (cz:∀ V,Gr w V D0->ZD az V) (hE:Env az) (hK:Bk.TextsAt az ka kn K) (hC:CoinsAt az la ln C) (sC:SlOk la ln lc) (hL:TxsAt az a m L) (hx:swE K C L h=x) :
  Calls aA 78 #[.agg #[F ka kn kc],F la ln lc,F a m c,E J h,.func (.func f) #[] caps] w λe w'=>SwR w w' x D0 (Zu h L (K,C)).2.1 (Zu h L (K,C)).2.2 h I (swT h L (K,C)) e:=by
 obtain⟨X,hX⟩:=ZG (w.alloc (cR #[F ka kn kc] 24));have cp:ZD w X:=by rw[hX];exact Zh _ _
 have cm:X.heap[w.heap.size]? = some (cR [F ka kn kc].toArray 24 (0,0)):=by rw[hX];exact Yq _ _ _
 obtain⟨x1,bo⟩:=ZF (Jk K C h);have cl:L.length=m:=hL.1;have da:=cz X (Gr.of cp);have C1:=Zd (Zga ka kn kc K la ln lc C h x1 X (hK.later da) (hC.later da) sC bo);unfold swE at hx;rw[bo,cl] at hx;have HK:=Zd hk;have HE:=Zd hE;have HL:=Zd hL;have dp:=Zd cz;have HX:=Zd hx;have dx:=Zd bo;have ds:=Zd cl;have dj:=Zd cp;have t0:=Zb cm 0 _ rfl;have tl:=lt_of_block cm;clear hk hE hK hC sC hL hx bo cl cp cm cz da;go_enter func78,ntmps78;go_wp2_with fail;rw[<-hX];clear hX;(try go_wp2_with fail);refine C1.mono ?_;rintro e w1 ⟨hr,cn⟩;have bb:=Zd (Zf dj cn);have dy:=Zd dj.size
 rcases hr with ⟨h0,rfl⟩|⟨h0,p,rfl,el,fm,hd⟩
 ·have gx:(x1 != 0)=true:=by simp[h0]
  have aq:Hid (x=x1):=by have:=Za HX;rw[if_pos h0] at this;exact this.symm
  clear HX cn C1;go_wp2;go_ret2;rw[Za aq];exact .inl ⟨h0,rfl,Za bb⟩
 ·subst h0;have dk:=Zd (hd.less dy);have bz:=Zd (aT dy el);have fb:=Zd (show p<w1.heap.size by omega);clear hd cn C1 el fm;by_cases e8:8<m
  ·have g8:(8:Int)<(m:Int):=(by omega);have aq:Hid (x=2):=(by have:=Za HX;rw[if_neg (λq=>q rfl),if_pos e8] at this;exact this.symm);clear HX e8;go_wp2;go_ret2;rw[Za aq];exact .inl ⟨by decide,rfl,Za bb⟩
  ·have g8:¬(8:Int)<(m:Int):=(by omega);have gd:m<=8:=(by omega);have aq:Hid (x=0):=(by have:=Za HX;rw[if_neg (λq=>q rfl),if_neg e8] at this;exact this.symm);obtain⟨hR,aj,_,_⟩:=W7 dx;have ST:Hid (SwS w w1 h D0 I (K,C) L p 0):=⟨Gr.of bb,w.heap.size,D0,K,C,[],aF _,Za dk,HK.start p w1 bb bz fb,hR,aj,rfl,aF _,rfl,rfl⟩;clear HX hR aj e8 dx dk;go_wp2
   go_loopw [33] (λi wr=>∃ k:Nat,k<=m/\i = E J k/\Hid (SwS w wr h D0 I (K,C) L p k)) (λi _=>m - (intOf i).toNat)
   case atStart=>exact⟨0,aM _,rfl,ST⟩
   case round=>
    obtain⟨k,hk,rfl,HS⟩:=hrel;by_cases fl:k<m
    ·obtain⟨hg,B,D,Kk,Ck,Xs,hB,hd,hI,hR,aj,ae,eg,z,Q⟩:=Za HS;have ac:=dp wr hg;have dc:k<L.length:=(by rw[Za ds];exact fl);obtain⟨b,off,rfl,ei,eo⟩:=HL.2 (by omega);obtain⟨c0,⟨ai,ni,ci,c1,av,de⟩,ao,no,co,c2,aw,er⟩:=eo k dc;have c0:=Ze ac c0;have c1:=Ze ac c1;have c2:=Ze ac c2;have ei:b<wr.heap.size:=aC ei ac.size;rw[Zmf dc] at z;rw[Zjk dc] at Q;obtain⟨t,ht⟩:=ZF (L[k]);rw[ht] at z Q c0 av aw;obtain⟨th,tI,tO⟩:=t;simp only at c0 av aw;obtain⟨⟨y,K',C'⟩,hy⟩:=ZF (doD h (Kk,Ck) (th,tI,tO));rw[hy] at z Q;simp only at z Q;obtain⟨Y,hY⟩:=ZG (wr.alloc (cR #[E J th,F ai ni ci,F ao no co] 59));have al:ZD wr Y:=(by rw[hY];exact Zh _ _);have ak:Y.heap[wr.heap.size]? = some (cR [E J th,F ai ni ci,F ao no co].toArray 59 (0,0)):=(by rw[hY];exact Zv _ _ _ _ _);have CD:=Zd (Zgc p Kk Ck h th ai ao ni ci no co tI tO y K' C' Y (HE.later (Zf ac al)) (hd.later al).till aj (av.later (Zf ac al)) (aw.later (Zf ac al)) de hy);have y0:=Zb ak 0 _ rfl;have y1:=Zb ak 1 _ rfl;have y2:=Zb ak 2 _ rfl;have yl:=lt_of_block ak;have HG:=Zd hg;have HB:=Zd hB;have dm:=Zd hd;have HI:=Zd hI;have dv:=Zd hR;have du:=Zd aj;have dr:=Zd ae;have ca:=Zd eg;have dw:=Zd z;have dn:=Zd Q;have bu:=Zd al;have dz:=Zd ak;have dq:=Zd av;have dt:=Zd aw;have fc:=Zd de;have fd:=Zd er;have HY:=Zd hy;clear hg hB hd hI hR aj ae eg z Q al ak av aw de er hy eo ht HS ac;go_wp2_with fail;rw[<-hY];clear hY c0 c1 c2;(try go_wp2_with fail);refine CD.mono ?_;rintro e w2 fk
     rcases fk with ⟨n0,rfl,eh⟩|⟨n0,rfl,cu,ej⟩
     ·have gy:(y == 0)=false:=(by simp[n0]);have gc:¬y=0:=n0;have bj:=Zf bu eh
      have cb:Hid (SwS w w2 h D0 I (K,C) L p (k+1)):=by
       refine⟨HG.on bj,B,D,Kk,Ck,Xs,Za HB,dm.later bj,HK.on p D wr w2 Xs HI (Gr.of bj),Za dv,Za du,Za dr,Nat.le_succ_of_le ca,?_,?_⟩
       ·have:=Za dw;rw[if_neg n0] at this;exact this
       ·have:=Za dn;rw[if_neg n0] at this;exact this
      clear bj eh CD n0;go_wp2;go_roundw
      case rel=>exact⟨k+1,by omega,by go_num,cb⟩
      case measure=>simp[intOf];omega
     ·subst n0;have fj:=T7 dv HY;obtain⟨f1,_,f3,f4,f5⟩:=fj;have sm:=Tr.tx_small f5;have ew:=Zd f1;have ey:=Zd f3;have fy:=Zd f4;have cw:Gr wr w2 (λq=>q=p):=(Gr.of bu).trans cu;have ek:=HK.dirty p D wr Xs HI;have cg:=HK.on p D wr w2 Xs HI cw;have gf:p<wr.heap.size:=(by obtain⟨_,_,_,_,_,_,hh,_⟩:=Za dm;exact lt_of_block hh);have cx:Gr w w2 D0:=HG.far cw (λq e=>.inl (by rw[e];exact Za bz));have cq:=dp w2 cx;have CT:=Zd (Tr.clTx_is th ai ao ni ci no co tI tO w2 (dq.later cq) (dt.later cq) fc fd (by rw[<-(Za dq).1];exact sm.1) (by rw[<-(Za dt).1];exact sm.2.1) sm.2.2.1 sm.2.2.2);have h20:=(cu.block _ (lt_of_block dz) (by intro q;have q:wr.heap.size=p:=q;omega)).trans dz;have z0:=Zb h20 0 _ rfl;have z1:=Zb h20 1 _ rfl;have z2:=Zb h20 2 _ rfl;have zl:=lt_of_block h20;have ez:=Zd cx;have eu:=Zd ek;have fz:=Zd cg;have dl:=Zd ej;have ea:=Zd bu.size;have ae:Y4 C Xs=Ck:=Za dr;have bs:=Zd (λw3 (ay:ZD w2 w3) a1 c1 a2 c2 (bg:Fresh w2.heap.size w3 (λW=>Tr.txR.C W [E J th,F a1 ni c1,F a2 no c2] (th,tI,tO)))=>HK.call p D w2 w3 Xs (th,tI,tO) C' _ _ _ cg ay bg (by rw[ae];exact Za du) f3 (by rw[ae];exact f4) (by have:=Za ca;omega));rw[ae] at bs;clear f1 f3 f4 f5 sm cw ek cg cx cq h20 ej cu ae CD y0 y1 y2 yl;go_wp2_with fail;refine CT.mono ?_;rintro e w3 ⟨a1,c1,a2,c2,rfl,bg,ay⟩;have CL:=Zd (bs w3 ay a1 c1 a2 c2 bg);have bd:=Zd ay;clear bg ay CT bs z0 z1 z2 zl;have gi:=HK.enters;go_wp2_with fail;refine CL.mono ?_;rintro e w4 ⟨rfl,bk,D',ef⟩
      have cb:Hid (SwS w w4 h D0 I (K,C) L p (k+1)):=by
       have ct:=Za eu;refine⟨(ez.on bd).far bk (λq e=>(ct q e).2.2.symm),Y.heap.size,D',K',C',Xs++[((th,tI,tO),C')],?_,?_,ef,Za ew,Za ey,Wh _ _ _ _,?_,?_,?_⟩
       ·exact aT HG.size ea
       ·refine dl.on ((Gr.of bd).trans (bk.mono (λq _ e=>aC (ct q e).2.1 ea))) ?_;have en:p<w2.heap.size:=(by obtain⟨_,_,_,_,_,_,hh,_⟩:=Za dl;exact lt_of_block hh);exact (bk.block p (aC en bd.size) (λe=>(ct p e).1 rfl)).trans (bd.block p en)
       ·rw[bH];exact Nat.succ_le_succ ca
       ·have:=Za dw;(first|rw[if_pos rfl] at this|rw[if_pos trivial] at this);rw[this,List.append_assoc];rfl
       ·have:=Za dn;(first|rw[if_pos rfl] at this|rw[if_pos trivial] at this);exact this
      clear bk ef CL gi;go_wp2;go_roundw
      case rel=>exact⟨k+1,by omega,by go_num,cb⟩
      case measure=>simp[intOf];omega
    ·have gj:k=m:=(by omega);subst gj;obtain⟨hg,B,D,Kk,Ck,Xs,hB,hd,hI,_,_,_,_,z,Q⟩:=Za HS;rw[List.drop_of_length_le (by rw[Za ds];exact aF _)] at z Q;rw[swT,List.append_nil] at z;have e1:(Zu h L (K,C)).2=(Kk,Ck):=Q
     have es:Hid (SwR w wr x D0 (Zu h L (K,C)).2.1 (Zu h L (K,C)).2.2 h I (swT h L (K,C)) (cS (cT #[cU (some ⟨p,0,none⟩),E J 0]))):=by
      rw[e1,z];exact .inr ⟨Za aq,p,D,rfl,Za bz,hg,hd.less hB,hI⟩
     clear hg hB hd hI z Q e1 HS;go_wp2;go_ret2;exact Za es
structure St(b p:Nat)(w:World)(v:Value)(K:List (List Value))(L:List TxD):Prop where
 box:w.heap[b]? = some (cR #[v] 37 (0,0))
 own:w.ownsRow (p+1) 59 3 v L.length K.flatten
 kept:∀ w2,Gr w w2 (λq=>q<=p\/v.ownBlock=some q)->Tr.AllC Tr.txR w2 K L
 bp:b<p
 pl:p<w.heap.size
theorem St.start{b p:Nat}{w:World}(h:w.heap[b]? = some (cR #[F none 0 0] 37 (0,0)))(bp:b<p)(pl:p<w.heap.size):St b p w (F none 0 0) [] []:=
 ⟨h,⟨rfl,.inl ⟨rfl,rfl⟩⟩,λ_ _=>⟨rfl,λi h1 _=>absurd h1 (by simp)⟩,bp,pl⟩
theorem St.on{b p:Nat}{w w' v K L}{S:Nat->Prop}(h:St b p w v K L)(g:Gr w w' S)(z:∀ q,S q->q<=p/\q≠b):St b p w' v K L:=
 ⟨g.heap h.box (λe=>(z b e).2 rfl),g.own h.own (λk Q e=>by have:=(h.own.lt k Q).1;have:=(z k e).1;omega),
  λw2 g2=>h.kept w2 ((g.mono (λq _ e=>.inl (z q e).1)).trans g2),h.bp,aC h.pl g.size⟩
theorem St.push{b p:Nat}{wA w Y w':World}{v v':Value}{K:List (List Value)}{L:List TxD}{u0 u1 u2 t}(h:St b p wA v K L)(hb:ZD wA w)(hF:Fresh wA.heap.size w (λw2=>Tr.txR.C w2 [u0,u1,u2] t))(aa:ZD w Y)
  (Q:Y.grownBy w' v.ownBlock) (ag:w'.ownsRow (p+1) 59 3 v' (L.length+1) (K.flatten++[u0,u1,u2])) (hv:v.ownBlock=v'.ownBlock\/∃ g,v'.ownBlock=some g/\Y.heap.size<=g) :
  St b p (w'.setCell ⟨b,0,none⟩ v') v' (K++[[u0,u1,u2]]) (L++[t])/\Gr w (w'.setCell ⟨b,0,none⟩ v') (λq=>q=b\/v.ownBlock=some q):=by
 have ae:ZD wA Y:=Zf hb aa;have ak:=h.bp;have ap:=h.pl;have aq:=hb.size;have ar:=aa.size;have au:=Q.size;have am:v.ownBlock≠some b:=λe=>by have:=(h.own.lt b e).1;omega
 have bx:w'.heap[b]? = some (cR #[v] 37 (0,0)):=((Q.block b (by omega) (λe=>am e.symm)).trans (ae.block b (by omega))).trans h.box;have g1:Gr wA w' (λq=>q<=p\/v.ownBlock=some q):=(Gr.of ae).grown Q (λk e=>.inl (.inr e));have g2:Gr w w' (λq=>q=b\/v.ownBlock=some q):=(Gr.of aa).grown Q (λk e=>.inl (.inr e));have g3:Gr w (w'.setCell ⟨b,0,none⟩ v') (λq=>q=b\/v.ownBlock=some q):=g2.one b 0 (.inl (.inl rfl)) v';have g4:Gr wA (w'.setCell ⟨b,0,none⟩ v') (λq=>q<=p\/v.ownBlock=some q):=g1.one b 0 (.inl (.inl (by omega))) v';refine⟨⟨Va bx,?_,λw2 gw=>?_,ak,by have:=g4.size;omega⟩,g3⟩
 ·rw[bH,List.flatten_append];exact (((Gr.refl w' (λq=>q=b)).one b 0 (.inl rfl) v').own ag (λk hk e=>by have:=(ag.lt k hk).1;omega))
 ·refine Tr.AllC.snoc (h.kept w2 (g4.far gw (λq e=>?_))) (hF w2 ?_)
  ·rcases e with e|e
   ·exact .inr (.inl e)
   ·rcases hv with z|⟨g,z,q2⟩
    ·exact .inr (.inr (z.trans e))
    ·rw[z] at e;injection e with e;exact .inl (by omega)
  ·refine (g3.mono (T:=λq=>q<wA.heap.size) (λq _ e=>?_)).far gw (λq e=>?_)
   ·rcases e with e|e
    ·omega
    ·exact (h.own.lt q e).2
   ·rcases e with e|e
    ·exact .inr (by omega)
    ·rcases hv with z|⟨g,z,q2⟩
     ·exact .inr (h.own.lt q (z.trans e)).2
     ·rw[z] at e;injection e with e;exact .inl (by omega)
theorem St.txs{b p:Nat}{w v K}{L:List TxD}(h:St b p w v K L):∃ a c,v = F a L.length c/\TxsAt w a L.length L/\SlOk a L.length c:=
 Tr.rows_of_own Tr.txR h.own (h.kept w (Gr.refl _ _)) rfl
theorem Tryz.infoTx9:(Tryz.prog.info? 59).map (λi=>(i.zero,i.size,i.bytes))=some (some (.agg #[E J 0,F none 0 0,F none 0 0]),3,56):=by kernel_rfl
