import Derived.Test.YtmomfkikogbdeaaGreatDoorH
import Derived.Test.YtmomfkikogbdeaaGreatDoorG27
open Go renaming lt_of_block->aA,wpAnyH_ready->aG
open Go.Act renaming put->aC
open Go.IntKind renaming i64->J
open Go.Obj renaming cells->cW
open Go.RowKit renaming Below->aD
open Go.Value renaming int->E,slice->F
open Go.World renaming cell?_of_block->bV,block_lt_of_cell?->aF
open List renaming replicate->bR,getElem?_eq_getElem->bI,length_set->bZ
open Nat renaming le_refl->aH
namespace Go.Proofs.YtmomfkikogbdeaaGreatDoor
open Go.RowKit
theorem Zdt{K:List ByteArray}{C:List Zj}{b:Zl}{N:List Int}(h:nfD K C b=(N,0)):Yn b=0/\N.length=b.2.2.2.2.length:=by
 unfold nfD at h;split at h
 ·next q=>simp at h;exact absurd h.2 q
 ·injection h with h1 h2;unfold Xv at h1 h2;split at h2
  ·next q=>exact absurd h2 q
  ·next q=>
   rw[if_neg q] at h1;split at h2
   ·next q=>exact absurd h2 q
   ·next q2=>
    rw[if_neg q2] at h1;obtain⟨M,N',x,e⟩:∃ M N' x,Bk.allR K (Yk b)=(M,N',x):=⟨_,_,_,rfl⟩;rw[e] at q2 h1;obtain rfl:x=0:=Decidable.not_not.1 q2;have:=Hm e;simp only at h1;refine⟨Decidable.not_not.1 q,?_⟩;rw[<-h1,List.length_take,this];simp[Yk]
theorem Tryz.infoUndo:(Tryz.prog.info? 153).map (λi=>(i.zero,i.size,i.bytes))=some (some (.agg #[F none 0 0]),1,24):=by kernel_rfl
theorem Zap(m:Nat):(madeCells (Value.agg #[F none 0 0]).cells (m*1)).toList=bR m (F none 0 0):=by
 rw[Nat.mul_one];exact toList_madeCells_one _ _
theorem Bd{p h k n:Int}{L:List TxD}(e:Yn (p,h,k,n,L)=0):rwD h=((rwD h).1,0):=by
 unfold Yn at e;split at e
 ·cases e
 ·next q=>
  unfold rwD;simp[Wk] at q;rw[if_pos (by simp;omega)]
set_option maxRecDepth 10000 in
set_option maxHeartbeats 12800000 in
theorem Bw(ka:Option Addr)(kn kc:Nat)(K:List ByteArray)(la:Option Addr)(ln lc:Nat)(C0:List Zj)(p h k0 n:Int)(a:Option Addr)(m c:Nat)(L:List TxD)(x:Int)(C':List Zj)(S':List (List Zj))(w:World)(hE:Env w)(hK:Bk.TextsAt w ka kn K)(hC:CoinsAt w la ln C0)(sC:SlOk la ln lc)(hL:TxsAt w a m L)(hx:Um K C0 (p,h,k0,n,L)=(x,C',S')) :
  Calls Tryz.prog 21 #[.agg #[F ka kn kc],F la ln lc,.agg #[E J p,E J h,E J k0,E J n,F a m c]] w λe w'=>Zkk w w' x C' S' e:=by
 obtain⟨X,hX⟩:=ZG ((w.alloc (cW #[F ka kn kc] 24)).alloc (cW #[E J p,E J h,E J k0,E J n,F a m c] 39));have bo:aD w.heap.size w X:=by rw[hX];exact Zf (Zh _ _) (Zh _ _)
 have dz:X.heap[w.heap.size]? = some (cW [F ka kn kc].toArray 24 (0,0)):=by
  rw[hX,Below.heap_alloc _ _ _ (by simp)];exact Yl _ _ _
 have aw:X.heap[w.heap.size+1]? = some (cW [E J p,E J h,E J k0,E J n,F a m c].toArray 39 (0,0)):=by
  rw[hX];have:=Zu (w.alloc (cW #[F ka kn kc] 24)) (E J p) (E J h) (E J k0) (E J n) (F a m c) 39;rw[show (w.alloc (cW #[F ka kn kc] 24)).heap.size=w.heap.size+1 by simp] at this;exact this
 obtain⟨N,y1,dd⟩:∃ N y1,nfD K C0 (p,h,k0,n,L)=(N,y1):=⟨_,_,rfl⟩;have C1:=Zd (Dm ka kn kc K la ln lc C0 p h k0 n a m c L N y1 X (hE.later bo) (hK.later bo) (hC.later bo) (hL.later bo) dd);unfold Um at hx;rw[dd] at hx;simp only at hx;have iz:=Zb dz 0 _ rfl;have ey:=Zb aw 0 _ rfl;have ez:=Zb aw 1 _ rfl;have fa:=Zb aw 2 _ rfl;have fb:=Zb aw 3 _ rfl;have fc:=Zb aw 4 _ rfl;have ja:=aA dz;have fd:=aA aw;have eg:=Zd bo;have ib:=Zd aw;by_cases e1:y1=0
 ·subst e1;rw[if_neg (by simp)] at hx;obtain⟨fi,dy⟩:=Zdt dd;have hz:L.length=m:=hL.1;obtain⟨f1,f2,f3,_,f5⟩:=Vg fi;simp only at f1 f2 f3 f5 dy hz;rw[hz] at dy hx;have fk:0<m:=by omega
  have gq:m<=4:=by omega
  obtain⟨tb,ac,rfl,it,gl⟩:=hL.2 fk;obtain⟨r,hr⟩:=ZF ((rwD h).1);have fp:=Bd fi;rw[hr] at hx fp;have ga:Hid (∀ W,aD w.heap.size w W->∀ i (hi:i<L.length),TxAt W tb (ac+i*3) L[i]):=λW hb i hi=>TxAt.kept _ _ _ _ _ hb (gl i hi);have ia:Hid (∀ t∈L,t.2.2.length<=6/\∀ x∈t.2.2,0<=x.1/\x.1<=1000000000):=λt ht=>⟨(Vs (f5 t ht)).2.1,Cv (f5 t ht)⟩;have HC:=Zd hC;have fz:=Zd sC;have HZ:=Zd hz;have gy:=Zd dy;have gz:=Zd fp;have HX:Hid (R6 h r L N m 0 C0 (bR m [])=(x,C',S')):=hx;clear hE hK hC sC hL hx dz aw bo dd fi dy hz f1 f2 f3 f5 gl hr fp it;obtain⟨i0,ke,iw,ix,iy⟩:=info_parts Tryz.infoUndo;go_enter Tryz.func21,Tryz.ntmps21;go_wp2_with fail;rw[<-hX];clear hX;refine C1.mono ?_;rintro e Q ⟨na,nn,nc,rfl,hN,eb,bz⟩;have HN:=Zd hN;have jl:=Zd eb;have h21:=ZE bz ib;have er:=Zd h21;have ig:=Zb h21 4 _ rfl;have ih:=aA h21;have ae:=Zd (Zf eg bz);have js:w.heap.size+2<=Q.heap.size:=by have:=aA h21;omega
  clear hN eb bz h21 C1 iz ey ez fa fb fc ja fd eg;go_wp2_with fail;have es:Hid (∀ W,aD Q.heap.size Q W->aD Q.heap.size Q W/\W.cell? ⟨w.heap.size+1,4,none⟩=some (F (some ⟨tb,ac,none⟩) m c)):=λW hb=>⟨hb,Zb (ZE hb er) 4 _ rfl⟩;refine wp_region_held_drew (S:=λW=>aD Q.heap.size Q W/\W.cell? ⟨w.heap.size+1,4,none⟩=some (F (some ⟨tb,ac,none⟩) m c)) (by kernel_rfl) (es _ (Zi _)) (λz=>?_);refine Zt 0 ⟨some 22,.move (.tmp 1),29, "connect.go:17",#[],none⟩ ?_ rfl ?_ z ?_;rotate_left
  ·(intro W aa;go_simp;first|done|with_reducible rfl)
  (try simp only[aC,ZA,ZB,ZC]);refine Zt 1 ⟨some 23,.fieldAddr 39 (.tmp 5) 4,0, "connect.go:17",#[],none⟩ ?_ rfl ?_ z ?_;rotate_left
  ·(intro W aa;go_simp;first|done|with_reducible rfl)
  (try simp only[aC,ZA,ZB,ZC]);refine Zt 2 ⟨some 24,.load 37 (.tmp 23),37, "connect.go:17",#[⟨1,.data⟩],none⟩ ?_ rfl ?_ z ?_;rotate_left
  ·(intro W aa;go_simp;first|done|with_reducible rfl)
  (try simp only[aC,ZA,ZB,ZC]);refine Zt 3 ⟨some 25,.call { callee:=Callee.builtin Builtin.len,args:=#[.tmp 24],argTypes:=#[37] },3, "connect.go:17",#[⟨2,.data⟩],none⟩ ?_ rfl ?_ z ?_;rotate_left
  ·(intro W aa;go_simp;first|done|with_reducible rfl)
  (try simp only[aC,ZA,ZB,ZC]);refine Zt 5 ⟨some 6,.assign (.tmp 22),29, "connect.go:17",#[⟨0,.data⟩,⟨0,.phase⟩,⟨1,.textOnly .lateStores⟩,⟨2,.textOnly .lateStores⟩,⟨3,.textOnly .lateStoresUnsure⟩,⟨4,.textOnly .lateStoresUnsure⟩],none⟩ ?_ rfl ?_ z ?_;rotate_left
  ·(intro W aa;go_simp;first|done|with_reducible rfl)
  (try simp only[aC,ZA,ZB,ZC]);refine aG (rs:=[4]) (by kernel_rfl) (by simp) ?_;refine AllReadyH.cons (o:=⟨some 26,.makeSlice 42 (.tmp 25) (.tmp 25),42, "connect.go:17",#[⟨3,.data⟩,⟨3,.data⟩],none⟩) rfl (λK hK=>?_) AllReadyH.nil;refine Ev (by kernel_rfl) _ _ _ (by rfl) Q.heap.size 153 i0 (.agg #[F none 0 0]) 1 Tryz.underlying42 ke iw ix .i64 .i64 _ _ m (by rfl) (by rfl) (by rfl) (by rfl) (by rw[iy];omega) (by unfold maxLen;omega) (aH _) Q.heap.size (by rfl) ?_;intro w2 gu gm;have ea:aD Q.heap.size Q w2:=Zf (Zi Q) ((Below.refl _ _).grown gm (aH _) (λk h=>by cases h));refine hK.out _ _ (es _ ea) (λaj=>?_);clear hK K z;have z:=aj;clear aj;(try simp only[aC,ZA,ZB,ZC]);refine Zt 6 ⟨some 7,.assign (.tmp 26),42, "connect.go:17",#[⟨4,.data⟩,⟨5,.chain⟩,⟨0,.phase⟩,⟨1,.phase⟩,⟨2,.phase⟩,⟨3,.phase⟩,⟨4,.phase⟩,⟨5,.phase⟩],none⟩ ?_ rfl ?_ z ?_;rotate_left
  ·(intro W aa;go_simp;first|done|with_reducible rfl)
  (try simp only[aC,ZA,ZB,ZC]);refine wpAnyH_done (by kernel_rfl) ?_ _;have gi:UsAt 153 Q.heap.size (bR m []) w2:=Zio (base:=Q.heap.size) (by rw[<-Zap];exact gu);have ep:=Zd gi;have gx:=Zd ea;have h22:=ZE ea er;have gd:=Zd h22;have ik:=Zb h22 4 _ rfl;have il:=aA h22;have C2:=Zd (Zcj m w2 fk gq);clear gi ea h22 gu gm ig ih er z es;go_wp2_with fail;refine C2.mono ?_;rintro e w3 ⟨rfl,fj⟩;have HF:=Zd fj;have ca:=fj.bel;have jk:=Zd ca;have gb:=Zd (ep.later ca);have jn:=ep.ok.lt;have GB:Hid (∀ W,Gr w3 W (λq=>q=Q.heap.size)->aD Q.heap.size Q W):=λW g=>g.below (Zf gx ca) (by have:=ca.size;omega) (λq e=>by rw[e];exact aH _);have ic:=Zd (ZE ca gd);clear fj ca C2 ep ik il gd;go_wp2
  go_loopw [6,7,8,32] (λov uv jz i wr=>∃ (k:Nat) (oa:Option Addr) (ah oc:Nat) (C:List Zj) (S:List (List Zj)),k<=m/\ov = F oa ah oc/\uv = F (some ⟨Q.heap.size,0,none⟩) m m/\jz = E J 0/\i = E J k/\Hid (CoinsAt wr oa ah C/\SlOk oa ah oc)/\Hid (UsAt 153 Q.heap.size S wr)/\Hid (S.length=m)/\Hid (∀ s∈S,s.length<=6/\∀ x∈s,0<=cv x/\cv x<=1000000000)/\Hid (R6 h r L N (m - k) k C S=(x,C',S'))/\Hid (Gr w3 wr (λq=>q=Q.heap.size))) (λ_ _ _ i _=>m - (intOf i).toNat)
  case atStart=>exact⟨0,la,ln,lc,C0,bR m [],Nat.zero_le _,rfl,rfl,rfl,rfl,(⟨HC.later (ae.trans ((Za GB w3 (Gr.refl _ _)).mono ae.size)),Za fz⟩:CoinsAt w3 la ln C0/\SlOk la ln lc),gb,(List.length_replicate:(bR m ([]:List Zj)).length=m),(λs hs=>by rw[(List.mem_replicate.1 hs).2];exact⟨by simp,λx hx=>by cases hx⟩:∀ s∈bR m ([]:List Zj),s.length<=6/\∀ x∈s,0<=cv x/\cv x<=1000000000),HX,(Gr.refl _ _:Gr w3 w3 (λq=>q=Q.heap.size))⟩
  case round=>
    obtain⟨k,oa,ah,oc,C,S,hk,rfl,rfl,rfl,rfl,HO,HU,bu,eo,HQ,HG⟩:=hrel;clear HX gb HC fz;have cb:=GB wr HG;have br:=ae.trans (cb.mono ae.size);by_cases iq:k<m
    ·have cz:(k+1) % m<m:=Nat.mod_lt _ fk;have gw:=(bV (a:=⟨w2.heap.size,k,none⟩) (HG.block w2.heap.size HF.lt (by omega))).trans (HF.cells (aH _) k iq);have ju:w2.heap.size<wr.heap.size:=Nat.lt_of_lt_of_le HF.lt HG.size;unfold Nc at gw;obtain⟨i,hi⟩:=ZF ((k+1) % m);rw[hi] at cz gw;have fl:m - k=(m - (k+1))+1:=(by omega);have gn:i<L.length:=(by rw[Za HZ];exact cz);obtain⟨t1,I,O,ht⟩:∃ t1 I O,L[i]=(t1,I,O):=⟨_,_,_,rfl⟩;obtain⟨nm,fo⟩:=ZF (N.getD i 0);obtain⟨y,M,s,fg⟩:∃ y M s,apD C (t1,I,O) nm h=(y,M,s):=⟨_,_,_,rfl⟩;have ak:=Za HQ;rw[fl,Zeu (i:=i) (by rw[Za HZ];exact hi) (t:=(t1,I,O)) (by rw[List.getD_eq_getElem?_getD,bI gn];exact ht) fo fg,Za HZ] at ak;have ak:=Zd ak;have gp:i<N.length:=(by rw[Za gy];exact cz);have gs:N[i]=nm:=(by rw[<-fo,List.getD_eq_getElem?_getD,bI gp];rfl);obtain⟨nb,no,rfl,gj⟩:=HN.2 (by have:=HN.1;omega);have dr:=Zd fg;have jr:(k:Int)<(m:Int):=(by omega);have jo:(i:Int)<(m:Int):=(by omega);have jt:N.length=nn:=HN.1;have jp:(i:Int)<(nn:Int):=(by omega);have du:Hid (∀ W,aD Q.heap.size Q W->W.cell? ⟨nb,no+i,none⟩=some (E J nm)):=λW hb=>by rw[<-gs];exact Ze hb (gj i gp)
     have bx:Hid (∀ W,aD w.heap.size w W->TxAt W tb (ac+i*3) (t1,I,O)):=λW hb=>by rw[<-ht];exact ga W hb i gn
     have dq:Hid (∀ W,aD Q.heap.size Q W->W.heap[w.heap.size+1]? = Q.heap[w.heap.size+1]?):=λW hb=>hb.block _ (by omega);have ed:Hid (Q.heap[w.heap.size+1]? = some (cW [E J p,E J h,E J k0,E J n,F (some ⟨tb,ac,none⟩) m c].toArray 39 (0,0))):=(dq w3 (GB w3 (Gr.refl _ _))).symm.trans ic;clear gj fo gs ht fg HQ;by_cases cy:i=0
     ·have kb:((i:Int) == 0)=true:=(by simp[cy]);obtain⟨o,ho⟩:=ZF (decide (0<=Ul r L S m));have CV:=Zd (Bv p h k0 n tb ac m c L Q.heap.size 0 m m S r o wr HZ gq (ga wr br) bu rfl (λi hi=>HU.undo i hi) ia eo gz ho);have al:=(dq wr cb).trans ed;have ey:=Zb al 0 _ rfl;have ez:=Zb al 1 _ rfl;have fa:=Zb al 2 _ rfl;have fb:=Zb al 3 _ rfl;have fc:=Zb al 4 _ rfl;have fd:=aA al;clear al;cases o with
      | false=>
       have R:Hid (((9:Int),([]:List Zj),([]:List (List Zj)))=(x,C',S')):=(by have e:=Za ak;rw[if_pos ⟨cy,by have:=of_decide_eq_false ho;omega⟩] at e;exact e);have ei:=Zd br;clear ak br cb ho cy;go_wp2_with fail;refine CV.mono ?_;rintro e w4 ⟨rfl,bk⟩;have eh:=Zd (Zf ei bk);clear bk CV;go_wp2
       go_ret3
       exact Pa R eh
      | true=>
       have da:¬(i=0/\Ul r L S m<0):=λq=>by have:=of_decide_eq_true ho;omega
       have cl:=Zd da;clear ho da br cb cy;go_wp2_with fail;refine CV.mono ?_;rintro e w4 ⟨rfl,bk⟩;have cm:=Zd (⟨HO.1.later bk,HO.2⟩:CoinsAt w4 oa ah C/\SlOk oa ah oc);have au:=Zd (HU.later bk);have cj:=Zd (Gr.on HG bk);clear bk CV ey ez fa fb fc fd HO HU HG;have GW:Hid (∀ V,Gr w4 V (λq=>q=Q.heap.size)->aD Q.heap.size Q V):=λV g=>GB V (cj.trans g)
       have AP:=Zd (λV (g:Gr w4 V (λq=>q=Q.heap.size))=>(by
         obtain⟨_,⟨ai,ni,ci,g1,hI,sI⟩,ao,ad,co,g2,hO,sO⟩:=bx V (ae.trans ((GW V g).mono ae.size));exact⟨ai,ni,ci,ao,ad,co,g1,g2,F3 oa ah oc C t1 ai ao ni ci ad co I O nm h y M s V (Un cm.1 au.ok g) cm.2 hI hO sI dr⟩ :
         ∃ ai ni ci ao ad co,V.cell? ⟨tb,ac+i*3+1,none⟩=some (F ai ni ci)/\V.cell? ⟨tb,ac+i*3+2,none⟩=some (F ao ad co)/\Calls Tryz.prog 76 #[F oa ah oc,.agg #[E J t1,F ai ni ci,F ao ad co],E J nm,E J h] V λe w'=>ApR V w' y M s e))
       obtain⟨ai,ni,ci,ao,ad,co,dm,dn,_⟩:=AP w4 (Gr.refl _ _)
       have ec:=Zd (λV (g:Gr w4 V (λq=>q=Q.heap.size)) (g1:V.cell? ⟨tb,ac+i*3+1,none⟩=some (F ai ni ci)) (g2:V.cell? ⟨tb,ac+i*3+2,none⟩=some (F ao ad co))=>(by
         obtain⟨id,jb,ii,ie,jd,ij,q1,q2,q⟩:=AP V g;rw[g1] at q1;rw[g2] at q2;cases q1;cases q2;exact q :
         Calls Tryz.prog 76 #[F oa ah oc,.agg #[E J t1,F ai ni ci,F ao ad co],E J nm,E J h] V λe w'=>ApR V w' y M s e))
       have KS:Hid (∀ V,Gr w4 V (λq=>q=Q.heap.size)->UsOk 153 Q.heap.size m V->Gr w4 V (λq=>q=Q.heap.size)/\V.cell? ⟨w.heap.size+1,1,none⟩=some (E J h)/\V.cell? ⟨w.heap.size+1,4,none⟩=some (F (some ⟨tb,ac,none⟩) m c)/\V.cell? ⟨tb,ac+i*3,none⟩=some (E J t1)/\V.cell? ⟨tb,ac+i*3+1,none⟩=some (F ai ni ci)/\V.cell? ⟨tb,ac+i*3+2,none⟩=some (F ao ad co)/\V.cell? ⟨nb,no+i,none⟩=some (E J nm)/\UsOk 153 Q.heap.size m V):=λV g o=>by
        have bq:=GW V g;have al:=(dq V bq).trans ed;have fq:=bx V (ae.trans (bq.mono ae.size));have fh:=GW w4 (Gr.refl _ _);have dc:=bx w4 (ae.trans (fh.mono ae.size));have fm:=au.ok.other dc.1;have kq:=λ(j:Nat)=>bV (a:=⟨tb,j,none⟩) (g.block tb (aF _ _ dc.1) fm);exact⟨g,Zb al 1 _ rfl,Zb al 4 _ rfl,fq.1,(kq _).trans dm,(kq _).trans dn,du V bq,o⟩
       have U0:Hid (UsOk 153 Q.heap.size m w4):=(by have:=au.ok;rw[Za bu] at this;exact this);have jc:nb<w4.heap.size:=aF _ _ (du w4 (GW w4 (Gr.refl _ _)));clear dm dn AP;go_wp2_with fail;refine wp_region_held_drew (S:=λV=>Gr w4 V (λq=>q=Q.heap.size)/\V.cell? ⟨w.heap.size+1,1,none⟩=some (E J h)/\V.cell? ⟨w.heap.size+1,4,none⟩=some (F (some ⟨tb,ac,none⟩) m c)/\V.cell? ⟨tb,ac+i*3,none⟩=some (E J t1)/\V.cell? ⟨tb,ac+i*3+1,none⟩=some (F ai ni ci)/\V.cell? ⟨tb,ac+i*3+2,none⟩=some (F ao ad co)/\V.cell? ⟨nb,no+i,none⟩=some (E J nm)/\UsOk 153 Q.heap.size m V) (by kernel_rfl) (KS _ (Gr.refl _ _).draw (U0.later (Zi _))) (λz=>?_);refine Zt 0 ⟨some 45,.move (.tmp 7),42, "connect.go:22",#[⟨19,.gcOnly .lateStores⟩],none⟩ ?_ rfl ?_ z ?_;rotate_left
       ·(intro W aa;go_simp;first|done|with_reducible rfl)
       (try simp only[aC,ZA,ZB,ZC]);refine Zt 1 ⟨some 46,.move (.tmp 11),3, "connect.go:22",#[⟨19,.gcOnly .lateStores⟩],none⟩ ?_ rfl ?_ z ?_;rotate_left
       ·(intro W aa;go_simp;first|done|with_reducible rfl)
       (try simp only[aC,ZA,ZB,ZC]);refine Zt 2 ⟨some 47,.move (.tmp 6),29, "connect.go:22",#[],none⟩ ?_ rfl ?_ z ?_;rotate_left
       ·(intro W aa;go_simp;first|done|with_reducible rfl)
       (try simp only[aC,ZA,ZB,ZC]);refine Zt 3 ⟨some 48,.fieldAddr 39 (.tmp 5) 4,0, "connect.go:22",#[],none⟩ ?_ rfl ?_ z ?_;rotate_left
       ·(intro W aa;go_simp;first|done|with_reducible rfl)
       (try simp only[aC,ZA,ZB,ZC]);refine Zt 4 ⟨some 49,.load 37 (.tmp 48),37, "connect.go:22",#[⟨3,.data⟩],none⟩ ?_ rfl ?_ z ?_;rotate_left
       ·(intro W aa;go_simp;first|done|with_reducible rfl)
       (try simp only[aC,ZA,ZB,ZC]);refine Zt 5 ⟨some 50,.move (.tmp 11),3, "connect.go:22",#[],none⟩ ?_ rfl ?_ z ?_;rotate_left
       ·(intro W aa;go_simp;first|done|with_reducible rfl)
       (try simp only[aC,ZA,ZB,ZC]);refine Zt 6 ⟨some 51,.indexAddr 37 (.tmp 49) (.tmp 50),0, "connect.go:22",#[⟨4,.data⟩,⟨5,.data⟩],none⟩ ?_ rfl ?_ z ?_;rotate_left
       ·(intro W aa;go_simp;first|done|with_reducible rfl)
       (try simp only[aC,ZA,ZB,ZC]);refine Zt 7 ⟨some 52,.load 59 (.tmp 51),59, "connect.go:22",#[⟨6,.data⟩],none⟩ ?_ rfl ?_ z ?_;rotate_left
       ·(intro W aa;go_simp;first|done|with_reducible rfl)
       (try simp only[aC,ZA,ZB,ZC]);refine Zt 8 ⟨some 53,.move (.tmp 9),25, "connect.go:22",#[],none⟩ ?_ rfl ?_ z ?_;rotate_left
       ·(intro W aa;go_simp;first|done|with_reducible rfl)
       (try simp only[aC,ZA,ZB,ZC]);refine Zt 9 ⟨some 54,.move (.tmp 11),3, "connect.go:22",#[],none⟩ ?_ rfl ?_ z ?_;rotate_left
       ·(intro W aa;go_simp;first|done|with_reducible rfl)
       (try simp only[aC,ZA,ZB,ZC]);refine Zt 10 ⟨some 55,.indexAddr 25 (.tmp 53) (.tmp 54),0, "connect.go:22",#[⟨8,.data⟩,⟨9,.data⟩],none⟩ ?_ rfl ?_ z ?_;rotate_left
       ·(intro W aa;go_simp;first|done|with_reducible rfl)
       (try simp only[aC,ZA,ZB,ZC]);refine Zt 11 ⟨some 56,.load 3 (.tmp 55),3, "connect.go:22",#[⟨10,.data⟩],none⟩ ?_ rfl ?_ z ?_;rotate_left
       ·(intro W aa;go_simp;first|done|with_reducible rfl)
       (try simp only[aC,ZA,ZB,ZC]);refine Zt 12 ⟨some 57,.fieldAddr 39 (.tmp 5) 1,0, "connect.go:22",#[],none⟩ ?_ rfl ?_ z ?_;rotate_left
       ·(intro W aa;go_simp;first|done|with_reducible rfl)
       (try simp only[aC,ZA,ZB,ZC]);refine Zt 13 ⟨some 58,.load 3 (.tmp 57),3, "connect.go:22",#[⟨12,.data⟩],none⟩ ?_ rfl ?_ z ?_;rotate_left
       ·(intro W aa;go_simp;first|done|with_reducible rfl)
       (try simp only[aC,ZA,ZB,ZC]);refine aG (rs:=[14]) (by kernel_rfl) (by simp) ?_;refine AllReadyH.cons (o:=⟨some 59,.call { callee:=Callee.value (.func 76),args:=#[.tmp 47,.tmp 52,.tmp 56,.tmp 58],argTypes:=#[29,59,3,3] },154, "connect.go:22",#[⟨2,.data⟩,⟨7,.data⟩,⟨11,.data⟩,⟨13,.data⟩],none⟩) rfl (λK hK=>?_) AllReadyH.nil;refine Xk (by kernel_rfl) 76 #[F oa ah oc,.agg #[E J t1,F ai ni ci,F ao ad co],E J nm,E J h] (by kernel_rfl) (ec _ z.1 z.2.2.2.2.1 z.2.2.2.2.2.1) ?_;rintro e w6 ⟨am,bt,jx,sa,ns,cs,rfl,cu,dj,cx,dk,ax⟩;refine⟨_,rfl,?_⟩;have ek:=Zd cu;have eu:=Zd dj;have en:=Zd cx;have ev:=Zd dk;have eq:=Zd (au.later (Zf (Zi w4) ax));have cf:=Zd (Gr.on z.1 ax);have ap:=Zd (UsOk.later z.2.2.2.2.2.2.2 ax);obtain⟨zz,z6⟩:=ap.cell cz;have fw:=ap.free i;clear cu dj cx dk ax;refine hK.out _ _ (KS _ cf ap) (λaj=>?_);clear hK K z;have z:=aj;clear aj;(try simp only[aC,ZA,ZB,ZC]);refine Zt 15 ⟨some 44,.move (.tmp 59),154, "connect.go:22",#[⟨14,.data⟩],none⟩ ?_ rfl ?_ z ?_;rotate_left
       ·(intro W aa;go_simp;first|done|with_reducible rfl)
       (try simp only[aC,ZA,ZB,ZC]);refine Zt 16 ⟨some 60,.extract (.tmp 44) 0,29, "connect.go:22",#[⟨15,.data⟩],none⟩ ?_ rfl ?_ z ?_;rotate_left
       ·(intro W aa;go_simp;first|done|with_reducible rfl)
       (try simp only[aC,ZA,ZB,ZC]);refine Zt 17 ⟨some 61,.extract (.tmp 44) 1,153, "connect.go:22",#[⟨15,.data⟩,⟨19,.gcOnly .lateStores⟩],none⟩ ?_ rfl ?_ z ?_;rotate_left
       ·(intro W aa;go_simp;first|done|with_reducible rfl)
       (try simp only[aC,ZA,ZB,ZC]);refine Zt 18 ⟨some 62,.extract (.tmp 44) 2,30, "connect.go:22",#[⟨15,.data⟩,⟨21,.gcOnly .lateStores⟩],none⟩ ?_ rfl ?_ z ?_;rotate_left
       ·(intro W aa;go_simp;first|done|with_reducible rfl)
       (try simp only[aC,ZA,ZB,ZC]);refine Zt 19 ⟨some 6,.assign (.tmp 60),29, "connect.go:22",#[⟨16,.data⟩,⟨14,.chain⟩,⟨0,.textOnly .lateStores⟩,⟨1,.textOnly .lateStores⟩,⟨2,.phase⟩,⟨3,.phase⟩,⟨4,.phase⟩,⟨5,.phase⟩,⟨6,.phase⟩,⟨7,.phase⟩,⟨8,.phase⟩,⟨9,.phase⟩,⟨10,.phase⟩,⟨11,.phase⟩,⟨12,.phase⟩,⟨13,.phase⟩,⟨14,.phase⟩,⟨15,.phase⟩,⟨16,.phase⟩,⟨17,.textOnly .lateStores⟩,⟨18,.textOnly .lateStores⟩],none⟩ ?_ rfl ?_ z ?_;rotate_left
       ·(intro W aa;go_simp;first|done|with_reducible rfl)
       (try simp only[aC,ZA,ZB,ZC]);refine Zt 20 ⟨some 63,.indexAddr 42 (.tmp 45) (.tmp 46),0, "connect.go:22",#[⟨0,.data⟩,⟨1,.data⟩,⟨0,.phase⟩,⟨1,.phase⟩,⟨2,.phase⟩,⟨3,.phase⟩,⟨4,.phase⟩,⟨5,.phase⟩,⟨6,.phase⟩,⟨7,.phase⟩,⟨8,.phase⟩,⟨9,.phase⟩,⟨10,.phase⟩,⟨11,.phase⟩,⟨12,.phase⟩,⟨13,.phase⟩,⟨14,.phase⟩,⟨15,.phase⟩,⟨16,.phase⟩,⟨17,.phase⟩,⟨18,.textOnly .lateStores⟩,⟨19,.phase⟩],none⟩ ?_ rfl ?_ z ?_;rotate_left
       ·(intro W aa;go_simp;first|done|with_reducible rfl)
       (try simp only[aC,ZA,ZB,ZC]);refine aG (rs:=[21]) (by kernel_rfl) (by simp) ?_;refine AllReadyH.cons (o:=⟨none,.store 153 (.tmp 63) (.tmp 61),0, "connect.go:22",#[⟨20,.data⟩,⟨17,.data⟩,⟨19,.chain⟩,⟨0,.phase⟩,⟨1,.phase⟩,⟨2,.phase⟩,⟨3,.phase⟩,⟨4,.phase⟩,⟨5,.phase⟩,⟨6,.phase⟩,⟨7,.phase⟩,⟨8,.phase⟩,⟨9,.phase⟩,⟨10,.phase⟩,⟨11,.phase⟩,⟨12,.phase⟩,⟨13,.phase⟩,⟨14,.phase⟩,⟨15,.phase⟩,⟨16,.phase⟩,⟨17,.phase⟩,⟨18,.textOnly .lateStores⟩,⟨19,.phase⟩],none⟩) rfl (λK hK=>?_) AllReadyH.nil;go_simp;refine hK.out _ _ (KS _ (cf.one Q.heap.size i (.inl rfl) _) (UsOk.put ap i _ _ _)) (λaj=>?_);clear hK K z;have z:=aj;clear aj;(try simp only[aC,ZA,ZB,ZC]);refine Zt 22 ⟨some 8,.assign (.tmp 62),30, "connect.go:22",#[⟨18,.data⟩,⟨21,.chain⟩,⟨0,.phase⟩,⟨1,.phase⟩,⟨2,.phase⟩,⟨3,.phase⟩,⟨4,.phase⟩,⟨5,.phase⟩,⟨6,.phase⟩,⟨7,.phase⟩,⟨8,.phase⟩,⟨9,.phase⟩,⟨10,.phase⟩,⟨11,.phase⟩,⟨12,.phase⟩,⟨13,.phase⟩,⟨14,.phase⟩,⟨15,.phase⟩,⟨16,.phase⟩,⟨17,.phase⟩,⟨18,.phase⟩,⟨19,.phase⟩,⟨20,.phase⟩,⟨21,.phase⟩],none⟩ ?_ rfl ?_ z ?_;rotate_left
       ·(intro W aa;go_simp;first|done|with_reducible rfl)
       (try simp only[aC,ZA,ZB,ZC]);refine wpAnyH_done (by kernel_rfl) ?_ _
       all_goals
        have bi:=z.1;clear z;have cn:=Zd (Un ek ap ((Gr.refl w6 (λq=>q=Q.heap.size)).one Q.heap.size i (.inl rfl) (F sa ns cs)));have cg:=Zd (cj.trans bi);have ce:=Zd (ae.trans ((GW _ bi).mono ae.size));have cp:=Zd (eq.put i en ev);obtain⟨jy,hQ⟩:=ZG (w6.setCell ⟨Q.heap.size,i,none⟩ (F sa ns cs));rw[<-hQ] at cn cg ce cp ⊢;clear hQ bi z6 fw;by_cases jv:y=0
        ·subst jv;have R:Hid (R6 h r L N (m - (k+1)) (k+1) M (S.set i s)=(x,C',S')):=by have e:=Za ak;rw[if_neg cl,if_neg (by simp)] at e;exact e
         have FB:Hid (∀ jw∈S.set i s,jw.length<=6/\∀ x∈jw,0<=cv x/\cv x<=1000000000):=λjw hz=>by
          rcases List.mem_or_eq_of_mem_set hz with q|rfl
          ·exact eo jw q
          ·exact Ee dr
         have FL:Hid ((S.set i s).length=m):=(by show _=_;rw[bZ];exact Za bu);clear ak;go_wp2;go_roundw
         case rel=>exact⟨k+1,am,bt,jx,M,S.set i s,by omega,rfl,rfl,rfl,by go_num,(⟨Za cn,Za eu⟩:CoinsAt jy am bt M/\SlOk am bt jx),cp,FL,FB,R,cg⟩
         case measure=>simp[intOf];omega
        ·have kd:(y != 0)=true:=(by simp[jv]);have R:Hid (((y:Int),([]:List Zj),([]:List (List Zj)))=(x,C',S')):=(by have e:=Za ak;rw[if_neg cl,if_pos jv] at e;exact e);clear ak jv;go_wp2
         go_ret3
         exact Pa R ce
     ·have da:¬(i=0/\Ul r L S m<0):=λq=>cy q.1;have cl:=Zd da;have kb:((i:Int) == 0)=false:=(by simp;omega);have cm:=HO;have au:=HU;have cj:=HG;clear da br cb HO HU HG;have GW:Hid (∀ V,Gr wr V (λq=>q=Q.heap.size)->aD Q.heap.size Q V):=λV g=>GB V (cj.trans g)
      have AP:=Zd (λV (g:Gr wr V (λq=>q=Q.heap.size))=>(by
        obtain⟨_,⟨ai,ni,ci,g1,hI,sI⟩,ao,ad,co,g2,hO,sO⟩:=bx V (ae.trans ((GW V g).mono ae.size));exact⟨ai,ni,ci,ao,ad,co,g1,g2,F3 oa ah oc C t1 ai ao ni ci ad co I O nm h y M s V (Un cm.1 au.ok g) cm.2 hI hO sI dr⟩ :
        ∃ ai ni ci ao ad co,V.cell? ⟨tb,ac+i*3+1,none⟩=some (F ai ni ci)/\V.cell? ⟨tb,ac+i*3+2,none⟩=some (F ao ad co)/\Calls Tryz.prog 76 #[F oa ah oc,.agg #[E J t1,F ai ni ci,F ao ad co],E J nm,E J h] V λe w'=>ApR V w' y M s e))
      obtain⟨ai,ni,ci,ao,ad,co,dm,dn,_⟩:=AP wr (Gr.refl _ _)
      have ec:=Zd (λV (g:Gr wr V (λq=>q=Q.heap.size)) (g1:V.cell? ⟨tb,ac+i*3+1,none⟩=some (F ai ni ci)) (g2:V.cell? ⟨tb,ac+i*3+2,none⟩=some (F ao ad co))=>(by
        obtain⟨id,jb,ii,ie,jd,ij,q1,q2,q⟩:=AP V g;rw[g1] at q1;rw[g2] at q2;cases q1;cases q2;exact q :
        Calls Tryz.prog 76 #[F oa ah oc,.agg #[E J t1,F ai ni ci,F ao ad co],E J nm,E J h] V λe w'=>ApR V w' y M s e))
      have KS:Hid (∀ V,Gr wr V (λq=>q=Q.heap.size)->UsOk 153 Q.heap.size m V->Gr wr V (λq=>q=Q.heap.size)/\V.cell? ⟨w.heap.size+1,1,none⟩=some (E J h)/\V.cell? ⟨w.heap.size+1,4,none⟩=some (F (some ⟨tb,ac,none⟩) m c)/\V.cell? ⟨tb,ac+i*3,none⟩=some (E J t1)/\V.cell? ⟨tb,ac+i*3+1,none⟩=some (F ai ni ci)/\V.cell? ⟨tb,ac+i*3+2,none⟩=some (F ao ad co)/\V.cell? ⟨nb,no+i,none⟩=some (E J nm)/\UsOk 153 Q.heap.size m V):=λV g o=>by
       have bq:=GW V g;have al:=(dq V bq).trans ed;have fq:=bx V (ae.trans (bq.mono ae.size));have fh:=GW wr (Gr.refl _ _);have dc:=bx wr (ae.trans (fh.mono ae.size));have fm:=au.ok.other dc.1;have kq:=λ(j:Nat)=>bV (a:=⟨tb,j,none⟩) (g.block tb (aF _ _ dc.1) fm);exact⟨g,Zb al 1 _ rfl,Zb al 4 _ rfl,fq.1,(kq _).trans dm,(kq _).trans dn,du V bq,o⟩
      have U0:Hid (UsOk 153 Q.heap.size m wr):=(by have:=au.ok;rw[Za bu] at this;exact this);have jc:nb<wr.heap.size:=aF _ _ (du wr (GW wr (Gr.refl _ _)));clear dm dn AP;go_wp2_with fail;refine wp_region_held_drew (S:=λV=>Gr wr V (λq=>q=Q.heap.size)/\V.cell? ⟨w.heap.size+1,1,none⟩=some (E J h)/\V.cell? ⟨w.heap.size+1,4,none⟩=some (F (some ⟨tb,ac,none⟩) m c)/\V.cell? ⟨tb,ac+i*3,none⟩=some (E J t1)/\V.cell? ⟨tb,ac+i*3+1,none⟩=some (F ai ni ci)/\V.cell? ⟨tb,ac+i*3+2,none⟩=some (F ao ad co)/\V.cell? ⟨nb,no+i,none⟩=some (E J nm)/\UsOk 153 Q.heap.size m V) (by kernel_rfl) (KS _ (Gr.refl _ _).draw (U0.later (Zi _))) (λz=>?_);refine Zt 0 ⟨some 45,.move (.tmp 7),42, "connect.go:22",#[⟨19,.gcOnly .lateStores⟩],none⟩ ?_ rfl ?_ z ?_;rotate_left
      ·(intro W aa;go_simp;first|done|with_reducible rfl)
      (try simp only[aC,ZA,ZB,ZC]);refine Zt 1 ⟨some 46,.move (.tmp 11),3, "connect.go:22",#[⟨19,.gcOnly .lateStores⟩],none⟩ ?_ rfl ?_ z ?_;rotate_left
      ·(intro W aa;go_simp;first|done|with_reducible rfl)
      (try simp only[aC,ZA,ZB,ZC]);refine Zt 2 ⟨some 47,.move (.tmp 6),29, "connect.go:22",#[],none⟩ ?_ rfl ?_ z ?_;rotate_left
      ·(intro W aa;go_simp;first|done|with_reducible rfl)
      (try simp only[aC,ZA,ZB,ZC]);refine Zt 3 ⟨some 48,.fieldAddr 39 (.tmp 5) 4,0, "connect.go:22",#[],none⟩ ?_ rfl ?_ z ?_;rotate_left
      ·(intro W aa;go_simp;first|done|with_reducible rfl)
      (try simp only[aC,ZA,ZB,ZC]);refine Zt 4 ⟨some 49,.load 37 (.tmp 48),37, "connect.go:22",#[⟨3,.data⟩],none⟩ ?_ rfl ?_ z ?_;rotate_left
      ·(intro W aa;go_simp;first|done|with_reducible rfl)
      (try simp only[aC,ZA,ZB,ZC]);refine Zt 5 ⟨some 50,.move (.tmp 11),3, "connect.go:22",#[],none⟩ ?_ rfl ?_ z ?_;rotate_left
      ·(intro W aa;go_simp;first|done|with_reducible rfl)
      (try simp only[aC,ZA,ZB,ZC]);refine Zt 6 ⟨some 51,.indexAddr 37 (.tmp 49) (.tmp 50),0, "connect.go:22",#[⟨4,.data⟩,⟨5,.data⟩],none⟩ ?_ rfl ?_ z ?_;rotate_left
      ·(intro W aa;go_simp;first|done|with_reducible rfl)
      (try simp only[aC,ZA,ZB,ZC]);refine Zt 7 ⟨some 52,.load 59 (.tmp 51),59, "connect.go:22",#[⟨6,.data⟩],none⟩ ?_ rfl ?_ z ?_;rotate_left
      ·(intro W aa;go_simp;first|done|with_reducible rfl)
      (try simp only[aC,ZA,ZB,ZC]);refine Zt 8 ⟨some 53,.move (.tmp 9),25, "connect.go:22",#[],none⟩ ?_ rfl ?_ z ?_;rotate_left
      ·(intro W aa;go_simp;first|done|with_reducible rfl)
      (try simp only[aC,ZA,ZB,ZC]);refine Zt 9 ⟨some 54,.move (.tmp 11),3, "connect.go:22",#[],none⟩ ?_ rfl ?_ z ?_;rotate_left
      ·(intro W aa;go_simp;first|done|with_reducible rfl)
      (try simp only[aC,ZA,ZB,ZC]);refine Zt 10 ⟨some 55,.indexAddr 25 (.tmp 53) (.tmp 54),0, "connect.go:22",#[⟨8,.data⟩,⟨9,.data⟩],none⟩ ?_ rfl ?_ z ?_;rotate_left
      ·(intro W aa;go_simp;first|done|with_reducible rfl)
      (try simp only[aC,ZA,ZB,ZC]);refine Zt 11 ⟨some 56,.load 3 (.tmp 55),3, "connect.go:22",#[⟨10,.data⟩],none⟩ ?_ rfl ?_ z ?_;rotate_left
      ·(intro W aa;go_simp;first|done|with_reducible rfl)
      (try simp only[aC,ZA,ZB,ZC]);refine Zt 12 ⟨some 57,.fieldAddr 39 (.tmp 5) 1,0, "connect.go:22",#[],none⟩ ?_ rfl ?_ z ?_;rotate_left
      ·(intro W aa;go_simp;first|done|with_reducible rfl)
      (try simp only[aC,ZA,ZB,ZC]);refine Zt 13 ⟨some 58,.load 3 (.tmp 57),3, "connect.go:22",#[⟨12,.data⟩],none⟩ ?_ rfl ?_ z ?_;rotate_left
      ·(intro W aa;go_simp;first|done|with_reducible rfl)
      (try simp only[aC,ZA,ZB,ZC]);refine aG (rs:=[14]) (by kernel_rfl) (by simp) ?_;refine AllReadyH.cons (o:=⟨some 59,.call { callee:=Callee.value (.func 76),args:=#[.tmp 47,.tmp 52,.tmp 56,.tmp 58],argTypes:=#[29,59,3,3] },154, "connect.go:22",#[⟨2,.data⟩,⟨7,.data⟩,⟨11,.data⟩,⟨13,.data⟩],none⟩) rfl (λK hK=>?_) AllReadyH.nil;refine Xk (by kernel_rfl) 76 #[F oa ah oc,.agg #[E J t1,F ai ni ci,F ao ad co],E J nm,E J h] (by kernel_rfl) (ec _ z.1 z.2.2.2.2.1 z.2.2.2.2.2.1) ?_;rintro e w6 ⟨am,bt,jx,sa,ns,cs,rfl,cu,dj,cx,dk,ax⟩;refine⟨_,rfl,?_⟩;have ek:=Zd cu;have eu:=Zd dj;have en:=Zd cx;have ev:=Zd dk;have eq:=Zd (au.later (Zf (Zi wr) ax));have cf:=Zd (Gr.on z.1 ax);have ap:=Zd (UsOk.later z.2.2.2.2.2.2.2 ax);obtain⟨zz,z6⟩:=ap.cell cz;have fw:=ap.free i;clear cu dj cx dk ax;refine hK.out _ _ (KS _ cf ap) (λaj=>?_);clear hK K z;have z:=aj;clear aj;(try simp only[aC,ZA,ZB,ZC]);refine Zt 15 ⟨some 44,.move (.tmp 59),154, "connect.go:22",#[⟨14,.data⟩],none⟩ ?_ rfl ?_ z ?_;rotate_left
      ·(intro W aa;go_simp;first|done|with_reducible rfl)
      (try simp only[aC,ZA,ZB,ZC]);refine Zt 16 ⟨some 60,.extract (.tmp 44) 0,29, "connect.go:22",#[⟨15,.data⟩],none⟩ ?_ rfl ?_ z ?_;rotate_left
      ·(intro W aa;go_simp;first|done|with_reducible rfl)
      (try simp only[aC,ZA,ZB,ZC]);refine Zt 17 ⟨some 61,.extract (.tmp 44) 1,153, "connect.go:22",#[⟨15,.data⟩,⟨19,.gcOnly .lateStores⟩],none⟩ ?_ rfl ?_ z ?_;rotate_left
      ·(intro W aa;go_simp;first|done|with_reducible rfl)
      (try simp only[aC,ZA,ZB,ZC]);refine Zt 18 ⟨some 62,.extract (.tmp 44) 2,30, "connect.go:22",#[⟨15,.data⟩,⟨21,.gcOnly .lateStores⟩],none⟩ ?_ rfl ?_ z ?_;rotate_left
      ·(intro W aa;go_simp;first|done|with_reducible rfl)
      (try simp only[aC,ZA,ZB,ZC]);refine Zt 19 ⟨some 6,.assign (.tmp 60),29, "connect.go:22",#[⟨16,.data⟩,⟨14,.chain⟩,⟨0,.textOnly .lateStores⟩,⟨1,.textOnly .lateStores⟩,⟨2,.phase⟩,⟨3,.phase⟩,⟨4,.phase⟩,⟨5,.phase⟩,⟨6,.phase⟩,⟨7,.phase⟩,⟨8,.phase⟩,⟨9,.phase⟩,⟨10,.phase⟩,⟨11,.phase⟩,⟨12,.phase⟩,⟨13,.phase⟩,⟨14,.phase⟩,⟨15,.phase⟩,⟨16,.phase⟩,⟨17,.textOnly .lateStores⟩,⟨18,.textOnly .lateStores⟩],none⟩ ?_ rfl ?_ z ?_;rotate_left
      ·(intro W aa;go_simp;first|done|with_reducible rfl)
      (try simp only[aC,ZA,ZB,ZC]);refine Zt 20 ⟨some 63,.indexAddr 42 (.tmp 45) (.tmp 46),0, "connect.go:22",#[⟨0,.data⟩,⟨1,.data⟩,⟨0,.phase⟩,⟨1,.phase⟩,⟨2,.phase⟩,⟨3,.phase⟩,⟨4,.phase⟩,⟨5,.phase⟩,⟨6,.phase⟩,⟨7,.phase⟩,⟨8,.phase⟩,⟨9,.phase⟩,⟨10,.phase⟩,⟨11,.phase⟩,⟨12,.phase⟩,⟨13,.phase⟩,⟨14,.phase⟩,⟨15,.phase⟩,⟨16,.phase⟩,⟨17,.phase⟩,⟨18,.textOnly .lateStores⟩,⟨19,.phase⟩],none⟩ ?_ rfl ?_ z ?_;rotate_left
      ·(intro W aa;go_simp;first|done|with_reducible rfl)
      (try simp only[aC,ZA,ZB,ZC]);refine aG (rs:=[21]) (by kernel_rfl) (by simp) ?_;refine AllReadyH.cons (o:=⟨none,.store 153 (.tmp 63) (.tmp 61),0, "connect.go:22",#[⟨20,.data⟩,⟨17,.data⟩,⟨19,.chain⟩,⟨0,.phase⟩,⟨1,.phase⟩,⟨2,.phase⟩,⟨3,.phase⟩,⟨4,.phase⟩,⟨5,.phase⟩,⟨6,.phase⟩,⟨7,.phase⟩,⟨8,.phase⟩,⟨9,.phase⟩,⟨10,.phase⟩,⟨11,.phase⟩,⟨12,.phase⟩,⟨13,.phase⟩,⟨14,.phase⟩,⟨15,.phase⟩,⟨16,.phase⟩,⟨17,.phase⟩,⟨18,.textOnly .lateStores⟩,⟨19,.phase⟩],none⟩) rfl (λK hK=>?_) AllReadyH.nil;go_simp;refine hK.out _ _ (KS _ (cf.one Q.heap.size i (.inl rfl) _) (UsOk.put ap i _ _ _)) (λaj=>?_);clear hK K z;have z:=aj;clear aj;(try simp only[aC,ZA,ZB,ZC]);refine Zt 22 ⟨some 8,.assign (.tmp 62),30, "connect.go:22",#[⟨18,.data⟩,⟨21,.chain⟩,⟨0,.phase⟩,⟨1,.phase⟩,⟨2,.phase⟩,⟨3,.phase⟩,⟨4,.phase⟩,⟨5,.phase⟩,⟨6,.phase⟩,⟨7,.phase⟩,⟨8,.phase⟩,⟨9,.phase⟩,⟨10,.phase⟩,⟨11,.phase⟩,⟨12,.phase⟩,⟨13,.phase⟩,⟨14,.phase⟩,⟨15,.phase⟩,⟨16,.phase⟩,⟨17,.phase⟩,⟨18,.phase⟩,⟨19,.phase⟩,⟨20,.phase⟩,⟨21,.phase⟩],none⟩ ?_ rfl ?_ z ?_;rotate_left
      ·(intro W aa;go_simp;first|done|with_reducible rfl)
      (try simp only[aC,ZA,ZB,ZC]);refine wpAnyH_done (by kernel_rfl) ?_ _
      all_goals
       have bi:=z.1;clear z;have cn:=Zd (Un ek ap ((Gr.refl w6 (λq=>q=Q.heap.size)).one Q.heap.size i (.inl rfl) (F sa ns cs)));have cg:=Zd (cj.trans bi);have ce:=Zd (ae.trans ((GW _ bi).mono ae.size));have cp:=Zd (eq.put i en ev);obtain⟨jy,hQ⟩:=ZG (w6.setCell ⟨Q.heap.size,i,none⟩ (F sa ns cs));rw[<-hQ] at cn cg ce cp ⊢;clear hQ bi z6 fw;by_cases jv:y=0
       ·subst jv;have R:Hid (R6 h r L N (m - (k+1)) (k+1) M (S.set i s)=(x,C',S')):=by have e:=Za ak;rw[if_neg cl,if_neg (by simp)] at e;exact e
        have FB:Hid (∀ jw∈S.set i s,jw.length<=6/\∀ x∈jw,0<=cv x/\cv x<=1000000000):=λjw hz=>by
         rcases List.mem_or_eq_of_mem_set hz with q|rfl
         ·exact eo jw q
         ·exact Ee dr
        have FL:Hid ((S.set i s).length=m):=(by show _=_;rw[bZ];exact Za bu);clear ak;go_wp2;go_roundw
        case rel=>exact⟨k+1,am,bt,jx,M,S.set i s,by omega,rfl,rfl,rfl,by go_num,(⟨Za cn,Za eu⟩:CoinsAt jy am bt M/\SlOk am bt jx),cp,FL,FB,R,cg⟩
        case measure=>simp[intOf];omega
       ·have kd:(y != 0)=true:=(by simp[jv]);have R:Hid (((y:Int),([]:List Zj),([]:List (List Zj)))=(x,C',S')):=(by have e:=Za ak;rw[if_neg cl,if_pos jv] at e;exact e);clear ak jv;go_wp2
        go_ret3
        exact Pa R ce
    ·have fl:m - k=0:=(by omega);have R:Hid (((0:Int),C,S)=(x,C',S')):=(by have e:=Za HQ;rw[fl] at e;exact e);have ei:=Zd br;clear HQ br cb;go_wp2
     go_ret3
     obtain⟨r1,r2⟩:=Prod.mk.inj R;obtain⟨r2,r3⟩:=Prod.mk.inj r2;subst r1 r2 r3;exact⟨oa,ah,oc,some ⟨Q.heap.size,0,none⟩,m,m,rfl,HO.1,HO.2,by have:=HU.undos;rw[Za bu] at this;exact this,⟨aH _,by unfold maxLen;omega,λe=>by cases e⟩,Za ei,λkf e=>by cases e;exact ae.size⟩
 ·rw[if_pos e1] at hx;have g1:(y1 != 0)=true:=by simp[e1]
  have R:=Zd hx;clear hE hK hC sC hL hx dz aw bo dd e1;go_enter Tryz.func21,Tryz.ntmps21;go_wp2_with fail;rw[<-hX];clear hX;refine C1.mono ?_;rintro e Q ⟨na,nn,nc,rfl,hN,eb,bz⟩;have eh:=Zd (Zf eg bz);clear hN eb bz C1;go_wp2
  go_ret3
  exact Pa R eh
