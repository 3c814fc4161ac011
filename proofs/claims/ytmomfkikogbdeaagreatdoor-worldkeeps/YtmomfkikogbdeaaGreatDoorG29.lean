import Derived.Test.YtmomfkikogbdeaaGreatDoorH
import Derived.Test.YtmomfkikogbdeaaGreatDoorG28
open Go.Act renaming put->aE
open Go.IntKind renaming i64->J
open Go.Obj renaming cells->cR
open Go.Value renaming int->E,slice->F
open Go.World renaming cell?_of_block->bQ,block_lt_of_cell?->aD
open List renaming replicate->bN,getElem?_eq_getElem->cM,length_set->bY
open Nat renaming le_refl->aF
namespace Go.Proofs.YtmomfkikogbdeaaGreatDoor
open Go.RowKit
theorem Zgq{K C}{b:Zl}{N:List Int}(h:nfD K C b=(N,0)):Ym b=0/\N.length=b.2.2.2.2.length:=by
 unfold nfD at h;split at h
 ·next q=>simp at h;exact absurd h.2 q
 ·injection h with h1 h2;unfold Xu at h1 h2;split at h2
  ·next q=>exact absurd h2 q
  ·next q=>
   rw[if_neg q] at h1;split at h2
   ·next q=>exact absurd h2 q
   ·next q2=>
    rw[if_neg q2] at h1;obtain⟨M,N',x,e⟩:∃ M N' x,Bk.allR K (Yk b)=(M,N',x):=⟨_,_,_,rfl⟩;rw[e] at q2 h1;obtain rfl:x=0:=Decidable.not_not.1 q2;have:=Lh e;simp only at h1;refine⟨Decidable.not_not.1 q,?_⟩;rw[<-h1,List.length_take,this];simp[Yk]
theorem Tryz.infoUndo:(Tryz.prog.info? 153).map (λi=>(i.zero,i.size,i.bytes))=some (some (.agg #[F none 0 0]),1,24):=by kernel_rfl
theorem Zcu(m:Nat):(madeCells (Value.agg #[F none 0 0]).cells (m*1)).toList=bN m (F none 0 0):=by
 rw[Nat.mul_one];exact toList_madeCells_one _ _
theorem Ee{p h k n:Int}{L}(e:Ym (p,h,k,n,L)=0):rwD h=((rwD h).1,0):=by
 unfold Ym at e;split at e
 ·cases e
 ·next q=>
  unfold rwD;simp[Wp] at q;rw[if_pos (by simp;omega)]
set_option maxRecDepth 10000 in
set_option maxHeartbeats 12800000 in
theorem Ev(ka kn kc K la ln lc C0)(p h k0 n:Int)(a m c L)(x:Int)(C' S' w)(hE:Env w)(hK:Bk.TextsAt w ka kn K)(hC:CoinsAt w la ln C0)(sC:SlOk la ln lc)(hL:TxsAt w a m L)(hx:Ul K C0 (p,h,k0,n,L)=(x,C',S')) :
  Calls Tryz.prog 21 #[.agg #[F ka kn kc],F la ln lc,.agg #[E J p,E J h,E J k0,E J n,F a m c]] w λe w'=>Znm w w' x C' S' e:=by
 obtain⟨X,hX⟩:=ZG ((w.alloc (cR #[F ka kn kc] 24)).alloc (cR #[E J p,E J h,E J k0,E J n,F a m c] 39));have bk:ZD w X:=by rw[hX];exact Zf (Zh _ _) (Zh _ _)
 have dy:X.heap[w.heap.size]? = some (cR [F ka kn kc].toArray 24 (0,0)):=by
  rw[hX,Below.heap_alloc _ _ _ (by simp)];exact Yq _ _ _
 have av:X.heap[w.heap.size+1]? = some (cR [E J p,E J h,E J k0,E J n,F a m c].toArray 39 (0,0)):=by
  rw[hX];have:=Zx (w.alloc (cR #[F ka kn kc] 24)) (E J p) (E J h) (E J k0) (E J n) (F a m c) 39;rw[show (w.alloc (cR #[F ka kn kc] 24)).heap.size=w.heap.size+1 by simp] at this;exact this
 obtain⟨N,y1,dc⟩:∃ N y1,nfD K C0 (p,h,k0,n,L)=(N,y1):=⟨_,_,rfl⟩;have C1:=Zd (Fz ka kn kc K la ln lc C0 p h k0 n a m c L N y1 X (hE.later bk) (hK.later bk) (hC.later bk) (hL.later bk) dc);unfold Ul at hx;rw[dc] at hx;simp only at hx;have iy:=Zb dy 0 _ rfl;have ew:=Zb av 0 _ rfl;have ey:=Zb av 1 _ rfl;have ez:=Zb av 2 _ rfl;have fa:=Zb av 3 _ rfl;have fb:=Zb av 4 _ rfl;have iz:=lt_of_block dy;have fc:=lt_of_block av;have ef:=Zd bk;have ia:=Zd av;by_cases e1:y1=0
 ·subst e1;rw[if_neg (by simp)] at hx;obtain⟨fh,dx⟩:=Zgq dc;have hz:L.length=m:=hL.1;obtain⟨f1,f2,f3,_,f5⟩:=V6 fh;simp only at f1 f2 f3 f5 dx hz;rw[hz] at dx hx;have fj:0<m:=by omega
  have gp:m<=4:=by omega
  obtain⟨tb,ac,rfl,ir,gj⟩:=hL.2 fj;obtain⟨r,hr⟩:=ZF ((rwD h).1);have fo:=Ee fh;rw[hr] at hx fo;have fz:Hid (∀ W,ZD w W->∀ i (hi:i<L.length),TxAt W tb (ac+i*3) L[i]):=λW hb i hi=>TxAt.kept _ _ _ _ _ hb (gj i hi);have gz:Hid (∀ t∈L,t.2.2.length<=6/\∀ x∈t.2.2,0<=x.1/\x.1<=1000000000):=λt ht=>⟨(Uk (f5 t ht)).2.1,Zao (f5 t ht)⟩;have HC:=Zd hC;have fy:=Zd sC;have HZ:=Zd hz;have gx:=Zd dx;have gy:=Zd fo;have HX:Hid (Ja h r L N m 0 C0 (bN m [])=(x,C',S')):=hx;clear hE hK hC sC hL hx dy av bk dc fh dx hz f1 f2 f3 f5 gj hr fo ir;obtain⟨i0,kb,iv,iw,ix⟩:=info_parts Tryz.infoUndo;go_enter Tryz.func21,Tryz.ntmps21;go_wp2_with fail;rw[<-hX];clear hX;refine C1.mono ?_;rintro e Q ⟨na,nn,nc,rfl,hN,ea,bx⟩;have HN:=Zd hN;have jk:=Zd ea;have h21:=ZE bx ia;have eq:=Zd h21;have ie:=Zb h21 4 _ rfl;have ig:=lt_of_block h21;have ae:=Zd (Zf ef bx);have jr:w.heap.size+2<=Q.heap.size:=by have:=lt_of_block h21;omega
  clear hN ea bx h21 C1 iy ew ey ez fa fb iz fc ef;go_wp2_with fail;have er:Hid (∀ W,ZD Q W->ZD Q W/\W.cell? ⟨w.heap.size+1,4,none⟩=some (F (some ⟨tb,ac,none⟩) m c)):=λW hb=>⟨hb,Zb (ZE hb eq) 4 _ rfl⟩;refine wp_region_held_drew (S:=λW=>ZD Q W/\W.cell? ⟨w.heap.size+1,4,none⟩=some (F (some ⟨tb,ac,none⟩) m c)) (by kernel_rfl) (er _ (Zi _)) (λz=>?_);refine Zt 0 ⟨some 22,.move (.tmp 1),29, "connect.go:17",#[],none⟩ ?_ rfl ?_ z ?_;rotate_left
  ·(intro W aa;go_simp;first|done|with_reducible rfl)
  (try simp only[aE,ZA,ZB,ZC]);refine Zt 1 ⟨some 23,.fieldAddr 39 (.tmp 5) 4,0, "connect.go:17",#[],none⟩ ?_ rfl ?_ z ?_;rotate_left
  ·(intro W aa;go_simp;first|done|with_reducible rfl)
  (try simp only[aE,ZA,ZB,ZC]);refine Zt 2 ⟨some 24,.load 37 (.tmp 23),37, "connect.go:17",#[⟨1,.data⟩],none⟩ ?_ rfl ?_ z ?_;rotate_left
  ·(intro W aa;go_simp;first|done|with_reducible rfl)
  (try simp only[aE,ZA,ZB,ZC]);refine Zt 3 ⟨some 25,.call { callee:=Callee.builtin Builtin.len,args:=#[.tmp 24],argTypes:=#[37] },3, "connect.go:17",#[⟨2,.data⟩],none⟩ ?_ rfl ?_ z ?_;rotate_left
  ·(intro W aa;go_simp;first|done|with_reducible rfl)
  (try simp only[aE,ZA,ZB,ZC]);refine Zt 5 ⟨some 6,.assign (.tmp 22),29, "connect.go:17",#[⟨0,.data⟩,⟨0,.phase⟩,⟨1,.textOnly .lateStores⟩,⟨2,.textOnly .lateStores⟩,⟨3,.textOnly .lateStoresUnsure⟩,⟨4,.textOnly .lateStoresUnsure⟩],none⟩ ?_ rfl ?_ z ?_;rotate_left
  ·(intro W aa;go_simp;first|done|with_reducible rfl)
  (try simp only[aE,ZA,ZB,ZC]);refine rdY 4 rfl (λK hK=>?_);refine Zbq (by kernel_rfl) _ _ _ (by rfl) Q.heap.size 153 i0 (.agg #[F none 0 0]) 1 Tryz.underlying42 kb iv iw .i64 .i64 _ _ m (by rfl) (by rfl) (by rfl) (by rfl) (by rw[ix];omega) (by unfold maxLen;omega) (aF _) Q.heap.size (by rfl) ?_;intro w2 gs gl;have dz:ZD Q w2:=Zf (Zi Q) ((Below.refl _ _).grown gl (aF _) (λk h=>by cases h));clear z;refine hK.out _ _ (er _ dz) (λz=>?_);clear hK K;(try simp only[aE,ZA,ZB,ZC]);refine Zt 6 ⟨some 7,.assign (.tmp 26),42, "connect.go:17",#[⟨4,.data⟩,⟨5,.chain⟩,⟨0,.phase⟩,⟨1,.phase⟩,⟨2,.phase⟩,⟨3,.phase⟩,⟨4,.phase⟩,⟨5,.phase⟩],none⟩ ?_ rfl ?_ z ?_;rotate_left
  ·(intro W aa;go_simp;first|done|with_reducible rfl)
  (try simp only[aE,ZA,ZB,ZC]);refine wpAnyH_done (by kernel_rfl) ?_ _;have gh:UsAt 153 Q.heap.size (bN m []) w2:=Zlz (base:=Q.heap.size) (by rw[<-Zcu];exact gs);have eo:=Zd gh;have gw:=Zd dz;have h22:=ZE dz eq;have gc:=Zd h22;have ij:=Zb h22 4 _ rfl;have ik:=lt_of_block h22;have C2:=Zd (Zfb m w2 fj gp);clear gh dz h22 gs gl ie ig eq z er;go_wp2_with fail;refine C2.mono ?_;rintro e w3 ⟨rfl,fi⟩;have HF:=Zd fi;have bz:=fi.bel;have jj:=Zd bz;have ga:=Zd (eo.later bz);have jm:=eo.ok.lt;have GB:Hid (∀ W,Gr w3 W (λq=>q=Q.heap.size)->ZD Q W):=λW g=>g.below (Zf gw bz) (by have:=bz.size;omega) (λq e=>by rw[e];exact aF _);have ib:=Zd (ZE bz gc);clear fi bz C2 eo ij ik gc;go_wp2
  go_loopw [6,7,8,32] (λov uv ev i wr=>∃ (k:Nat) (oa:Option Addr) (ah oc:Nat) (C:List Zj) (S:List (List Zj)),k<=m/\ov = F oa ah oc/\uv = F (some ⟨Q.heap.size,0,none⟩) m m/\ev = E J 0/\i = E J k/\Hid (CoinsAt wr oa ah C/\SlOk oa ah oc)/\Hid (UsAt 153 Q.heap.size S wr)/\Hid (S.length=m)/\Hid (∀ s∈S,s.length<=6/\∀ x∈s,0<=cv x/\cv x<=1000000000)/\Hid (Ja h r L N (m - k) k C S=(x,C',S'))/\Hid (Gr w3 wr (λq=>q=Q.heap.size))) (λ_ _ _ i _=>m - (intOf i).toNat)
  case atStart=>exact⟨0,la,ln,lc,C0,bN m [],Nat.zero_le _,rfl,rfl,rfl,rfl,(⟨HC.later (ae.trans ((Za GB w3 (Gr.refl _ _)).mono ae.size)),Za fy⟩:CoinsAt w3 la ln C0/\SlOk la ln lc),ga,(List.length_replicate:(bN m ([]:List Zj)).length=m),(λs hs=>by rw[(List.mem_replicate.1 hs).2];exact⟨by simp,λx hx=>by cases hx⟩:∀ s∈bN m ([]:List Zj),s.length<=6/\∀ x∈s,0<=cv x/\cv x<=1000000000),HX,(Gr.refl _ _:Gr w3 w3 (λq=>q=Q.heap.size))⟩
  case round=>
    obtain⟨k,oa,ah,oc,C,S,hk,rfl,rfl,rfl,rfl,HO,HU,bt,en,HQ,HG⟩:=hrel;clear HX ga HC fy;have ca:=GB wr HG;have bq:=ae.trans (ca.mono ae.size);by_cases ip:k<m
    ·have cy:(k+1) % m<m:=Nat.mod_lt _ fj;have gv:=(bQ (a:=⟨w2.heap.size,k,none⟩) (HG.block w2.heap.size HF.lt (by omega))).trans (HF.cells (aF _) k ip);have jt:w2.heap.size<wr.heap.size:=Nat.lt_of_lt_of_le HF.lt HG.size;unfold Dr at gv;obtain⟨i,hi⟩:=ZF ((k+1) % m);rw[hi] at cy gv;have fk:m - k=(m - (k+1))+1:=(by omega);have gm:i<L.length:=(by rw[Za HZ];exact cy);obtain⟨t1,I,O,ht⟩:∃ t1 I O,L[i]=(t1,I,O):=⟨_,_,_,rfl⟩;obtain⟨nm,fm⟩:=ZF (N.getD i 0);obtain⟨y,M,s,ff⟩:∃ y M s,apD C (t1,I,O) nm h=(y,M,s):=⟨_,_,_,rfl⟩;have aj:=Za HQ;rw[fk,Zhz (i:=i) (by rw[Za HZ];exact hi) (t:=(t1,I,O)) (by rw[List.getD_eq_getElem?_getD,cM gm];exact ht) fm ff,Za HZ] at aj;have aj:=Zd aj;have gn:i<N.length:=(by rw[Za gx];exact cy);have gq:N[i]=nm:=(by rw[<-fm,List.getD_eq_getElem?_getD,cM gn];rfl);obtain⟨nb,no,rfl,gi⟩:=HN.2 (by have:=HN.1;omega);have dq:=Zd ff;have jq:(k:Int)<(m:Int):=(by omega);have jn:(i:Int)<(m:Int):=(by omega);have js:N.length=nn:=HN.1;have jo:(i:Int)<(nn:Int):=(by omega);have dt:Hid (∀ W,ZD Q W->W.cell? ⟨nb,no+i,none⟩=some (E J nm)):=λW hb=>by rw[<-gq];exact Ze hb (gi i gn)
     have bv:Hid (∀ W,ZD w W->TxAt W tb (ac+i*3) (t1,I,O)):=λW hb=>by rw[<-ht];exact fz W hb i gm
     have dp:Hid (∀ W,ZD Q W->W.heap[w.heap.size+1]? = Q.heap[w.heap.size+1]?):=λW hb=>hb.block _ (by omega);have ec:Hid (Q.heap[w.heap.size+1]? = some (cR [E J p,E J h,E J k0,E J n,F (some ⟨tb,ac,none⟩) m c].toArray 39 (0,0))):=(dp w3 (GB w3 (Gr.refl _ _))).symm.trans ib;clear gi fm gq ht ff HQ;by_cases cx:i=0
     ·have jy:((i:Int) == 0)=true:=(by simp[cx]);obtain⟨o,ho⟩:=ZF (decide (0<=Qe r L S m));have CV:=Zd (Eu p h k0 n tb ac m c L Q.heap.size 0 m m S r o wr HZ gp (fz wr bq) bt rfl (λi hi=>HU.undo i hi) gz en gy ho);have ak:=(dp wr ca).trans ec;have ew:=Zb ak 0 _ rfl;have ey:=Zb ak 1 _ rfl;have ez:=Zb ak 2 _ rfl;have fa:=Zb ak 3 _ rfl;have fb:=Zb ak 4 _ rfl;have fc:=lt_of_block ak;clear ak;cases o with
      | false=>
       have R:Hid (((9:Int),([]:List Zj),([]:List (List Zj)))=(x,C',S')):=(by have e:=Za aj;rw[if_pos ⟨cx,by have:=of_decide_eq_false ho;omega⟩] at e;exact e);have eh:=Zd bq;clear aj bq ca ho cx;go_wp2_with fail;refine CV.mono ?_;rintro e w4 ⟨rfl,bj⟩;have eg:=Zd (Zf eh bj);clear bj CV;go_wp2
       go_ret3
       exact Gi R eg
      | true=>
       have cz:¬(i=0/\Qe r L S m<0):=λq=>by have:=of_decide_eq_true ho;omega
       have cj:=Zd cz;clear ho cz bq ca cx;go_wp2_with fail;refine CV.mono ?_;rintro e w4 ⟨rfl,bj⟩;have cl:=Zd (⟨HO.1.later bj,HO.2⟩:CoinsAt w4 oa ah C/\SlOk oa ah oc);have ar:=Zd (HU.later bj);have cg:=Zd (Gr.on HG bj);clear bj CV ew ey ez fa fb fc HO HU HG;have GW:Hid (∀ V,Gr w4 V (λq=>q=Q.heap.size)->ZD Q V):=λV g=>GB V (cg.trans g)
       have AP:=Zd (λV (g:Gr w4 V (λq=>q=Q.heap.size))=>(by
         obtain⟨_,⟨ai,ni,ci,g1,hI,sI⟩,ao,ad,co,g2,hO,sO⟩:=bv V (ae.trans ((GW V g).mono ae.size));exact⟨ai,ni,ci,ao,ad,co,g1,g2,Bh oa ah oc C t1 ai ao ni ci ad co I O nm h y M s V (Qf cl.1 ar.ok g) cl.2 hI hO sI dq⟩ :
         ∃ ai ni ci ao ad co,V.cell? ⟨tb,ac+i*3+1,none⟩=some (F ai ni ci)/\V.cell? ⟨tb,ac+i*3+2,none⟩=some (F ao ad co)/\Calls Tryz.prog 76 #[F oa ah oc,.agg #[E J t1,F ai ni ci,F ao ad co],E J nm,E J h] V λe w'=>ApR V w' y M s e))
       obtain⟨ai,ni,ci,ao,ad,co,dl,dm,_⟩:=AP w4 (Gr.refl _ _)
       have eb:=Zd (λV (g:Gr w4 V (λq=>q=Q.heap.size)) (g1:V.cell? ⟨tb,ac+i*3+1,none⟩=some (F ai ni ci)) (g2:V.cell? ⟨tb,ac+i*3+2,none⟩=some (F ao ad co))=>(by
         obtain⟨ic,ja,ih,id,jc,ii,q1,q2,q⟩:=AP V g;rw[g1] at q1;rw[g2] at q2;cases q1;cases q2;exact q :
         Calls Tryz.prog 76 #[F oa ah oc,.agg #[E J t1,F ai ni ci,F ao ad co],E J nm,E J h] V λe w'=>ApR V w' y M s e))
       have KS:Hid (∀ V,Gr w4 V (λq=>q=Q.heap.size)->UsOk 153 Q.heap.size m V->Gr w4 V (λq=>q=Q.heap.size)/\V.cell? ⟨w.heap.size+1,1,none⟩=some (E J h)/\V.cell? ⟨w.heap.size+1,4,none⟩=some (F (some ⟨tb,ac,none⟩) m c)/\V.cell? ⟨tb,ac+i*3,none⟩=some (E J t1)/\V.cell? ⟨tb,ac+i*3+1,none⟩=some (F ai ni ci)/\V.cell? ⟨tb,ac+i*3+2,none⟩=some (F ao ad co)/\V.cell? ⟨nb,no+i,none⟩=some (E J nm)/\UsOk 153 Q.heap.size m V):=λV g o=>by
        have bo:=GW V g;have ak:=(dp V bo).trans ec;have fp:=bv V (ae.trans (bo.mono ae.size));have fg:=GW w4 (Gr.refl _ _);have db:=bv w4 (ae.trans (fg.mono ae.size));have fl:=ar.ok.other db.1;have kq:=λ(j:Nat)=>bQ (a:=⟨tb,j,none⟩) (g.block tb (aD _ _ db.1) fl);exact⟨g,Zb ak 1 _ rfl,Zb ak 4 _ rfl,fp.1,(kq _).trans dl,(kq _).trans dm,dt V bo,o⟩
       have U0:Hid (UsOk 153 Q.heap.size m w4):=(by have:=ar.ok;rw[Za bt] at this;exact this);have jb:nb<w4.heap.size:=aD _ _ (dt w4 (GW w4 (Gr.refl _ _)));clear dl dm AP;go_wp2_with fail;refine wp_region_held_drew (S:=λV=>Gr w4 V (λq=>q=Q.heap.size)/\V.cell? ⟨w.heap.size+1,1,none⟩=some (E J h)/\V.cell? ⟨w.heap.size+1,4,none⟩=some (F (some ⟨tb,ac,none⟩) m c)/\V.cell? ⟨tb,ac+i*3,none⟩=some (E J t1)/\V.cell? ⟨tb,ac+i*3+1,none⟩=some (F ai ni ci)/\V.cell? ⟨tb,ac+i*3+2,none⟩=some (F ao ad co)/\V.cell? ⟨nb,no+i,none⟩=some (E J nm)/\UsOk 153 Q.heap.size m V) (by kernel_rfl) (KS _ (Gr.refl _ _).draw (U0.later (Zi _))) (λz=>?_);refine Zt 0 ⟨some 45,.move (.tmp 7),42, "connect.go:22",#[⟨19,.gcOnly .lateStores⟩],none⟩ ?_ rfl ?_ z ?_;rotate_left
       ·(intro W aa;go_simp;first|done|with_reducible rfl)
       (try simp only[aE,ZA,ZB,ZC]);refine Zt 1 ⟨some 46,.move (.tmp 11),3, "connect.go:22",#[⟨19,.gcOnly .lateStores⟩],none⟩ ?_ rfl ?_ z ?_;rotate_left
       ·(intro W aa;go_simp;first|done|with_reducible rfl)
       (try simp only[aE,ZA,ZB,ZC]);refine Zt 2 ⟨some 47,.move (.tmp 6),29, "connect.go:22",#[],none⟩ ?_ rfl ?_ z ?_;rotate_left
       ·(intro W aa;go_simp;first|done|with_reducible rfl)
       (try simp only[aE,ZA,ZB,ZC]);refine Zt 3 ⟨some 48,.fieldAddr 39 (.tmp 5) 4,0, "connect.go:22",#[],none⟩ ?_ rfl ?_ z ?_;rotate_left
       ·(intro W aa;go_simp;first|done|with_reducible rfl)
       (try simp only[aE,ZA,ZB,ZC]);refine Zt 4 ⟨some 49,.load 37 (.tmp 48),37, "connect.go:22",#[⟨3,.data⟩],none⟩ ?_ rfl ?_ z ?_;rotate_left
       ·(intro W aa;go_simp;first|done|with_reducible rfl)
       (try simp only[aE,ZA,ZB,ZC]);refine Zt 5 ⟨some 50,.move (.tmp 11),3, "connect.go:22",#[],none⟩ ?_ rfl ?_ z ?_;rotate_left
       ·(intro W aa;go_simp;first|done|with_reducible rfl)
       (try simp only[aE,ZA,ZB,ZC]);refine Zt 6 ⟨some 51,.indexAddr 37 (.tmp 49) (.tmp 50),0, "connect.go:22",#[⟨4,.data⟩,⟨5,.data⟩],none⟩ ?_ rfl ?_ z ?_;rotate_left
       ·(intro W aa;go_simp;first|done|with_reducible rfl)
       (try simp only[aE,ZA,ZB,ZC]);refine Zt 7 ⟨some 52,.load 59 (.tmp 51),59, "connect.go:22",#[⟨6,.data⟩],none⟩ ?_ rfl ?_ z ?_;rotate_left
       ·(intro W aa;go_simp;first|done|with_reducible rfl)
       (try simp only[aE,ZA,ZB,ZC]);refine Zt 8 ⟨some 53,.move (.tmp 9),25, "connect.go:22",#[],none⟩ ?_ rfl ?_ z ?_;rotate_left
       ·(intro W aa;go_simp;first|done|with_reducible rfl)
       (try simp only[aE,ZA,ZB,ZC]);refine Zt 9 ⟨some 54,.move (.tmp 11),3, "connect.go:22",#[],none⟩ ?_ rfl ?_ z ?_;rotate_left
       ·(intro W aa;go_simp;first|done|with_reducible rfl)
       (try simp only[aE,ZA,ZB,ZC]);refine Zt 10 ⟨some 55,.indexAddr 25 (.tmp 53) (.tmp 54),0, "connect.go:22",#[⟨8,.data⟩,⟨9,.data⟩],none⟩ ?_ rfl ?_ z ?_;rotate_left
       ·(intro W aa;go_simp;first|done|with_reducible rfl)
       (try simp only[aE,ZA,ZB,ZC]);refine Zt 11 ⟨some 56,.load 3 (.tmp 55),3, "connect.go:22",#[⟨10,.data⟩],none⟩ ?_ rfl ?_ z ?_;rotate_left
       ·(intro W aa;go_simp;first|done|with_reducible rfl)
       (try simp only[aE,ZA,ZB,ZC]);refine Zt 12 ⟨some 57,.fieldAddr 39 (.tmp 5) 1,0, "connect.go:22",#[],none⟩ ?_ rfl ?_ z ?_;rotate_left
       ·(intro W aa;go_simp;first|done|with_reducible rfl)
       (try simp only[aE,ZA,ZB,ZC]);refine Zt 13 ⟨some 58,.load 3 (.tmp 57),3, "connect.go:22",#[⟨12,.data⟩],none⟩ ?_ rfl ?_ z ?_;rotate_left
       ·(intro W aa;go_simp;first|done|with_reducible rfl)
       (try simp only[aE,ZA,ZB,ZC]);refine rdY 14 rfl (λK hK=>?_);refine Wc (by kernel_rfl) 76 #[F oa ah oc,.agg #[E J t1,F ai ni ci,F ao ad co],E J nm,E J h] (by kernel_rfl) (eb _ z.1 z.2.2.2.2.1 z.2.2.2.2.2.1) ?_;rintro e w6 ⟨am,bs,jw,sa,ns,cs,rfl,ct,di,cw,dj,aw⟩;refine⟨_,rfl,?_⟩;have ej:=Zd ct;have et:=Zd di;have el:=Zd cw;have eu:=Zd dj;have ep:=Zd (ar.later (Zf (Zi w4) aw));have ce:=Zd (Gr.on z.1 aw);have an:=Zd (UsOk.later z.2.2.2.2.2.2.2 aw);obtain⟨zz,z6⟩:=an.cell cy;have fv:=an.free i;clear ct di cw dj aw;clear z;refine hK.out _ _ (KS _ ce an) (λz=>?_);clear hK K;(try simp only[aE,ZA,ZB,ZC]);refine Zt 15 ⟨some 44,.move (.tmp 59),154, "connect.go:22",#[⟨14,.data⟩],none⟩ ?_ rfl ?_ z ?_;rotate_left
       ·(intro W aa;go_simp;first|done|with_reducible rfl)
       (try simp only[aE,ZA,ZB,ZC]);refine Zt 16 ⟨some 60,.extract (.tmp 44) 0,29, "connect.go:22",#[⟨15,.data⟩],none⟩ ?_ rfl ?_ z ?_;rotate_left
       ·(intro W aa;go_simp;first|done|with_reducible rfl)
       (try simp only[aE,ZA,ZB,ZC]);refine Zt 17 ⟨some 61,.extract (.tmp 44) 1,153, "connect.go:22",#[⟨15,.data⟩,⟨19,.gcOnly .lateStores⟩],none⟩ ?_ rfl ?_ z ?_;rotate_left
       ·(intro W aa;go_simp;first|done|with_reducible rfl)
       (try simp only[aE,ZA,ZB,ZC]);refine Zt 18 ⟨some 62,.extract (.tmp 44) 2,30, "connect.go:22",#[⟨15,.data⟩,⟨21,.gcOnly .lateStores⟩],none⟩ ?_ rfl ?_ z ?_;rotate_left
       ·(intro W aa;go_simp;first|done|with_reducible rfl)
       (try simp only[aE,ZA,ZB,ZC]);refine Zt 19 ⟨some 6,.assign (.tmp 60),29, "connect.go:22",#[⟨16,.data⟩,⟨14,.chain⟩,⟨0,.textOnly .lateStores⟩,⟨1,.textOnly .lateStores⟩,⟨2,.phase⟩,⟨3,.phase⟩,⟨4,.phase⟩,⟨5,.phase⟩,⟨6,.phase⟩,⟨7,.phase⟩,⟨8,.phase⟩,⟨9,.phase⟩,⟨10,.phase⟩,⟨11,.phase⟩,⟨12,.phase⟩,⟨13,.phase⟩,⟨14,.phase⟩,⟨15,.phase⟩,⟨16,.phase⟩,⟨17,.textOnly .lateStores⟩,⟨18,.textOnly .lateStores⟩],none⟩ ?_ rfl ?_ z ?_;rotate_left
       ·(intro W aa;go_simp;first|done|with_reducible rfl)
       (try simp only[aE,ZA,ZB,ZC]);refine Zt 20 ⟨some 63,.indexAddr 42 (.tmp 45) (.tmp 46),0, "connect.go:22",#[⟨0,.data⟩,⟨1,.data⟩,⟨0,.phase⟩,⟨1,.phase⟩,⟨2,.phase⟩,⟨3,.phase⟩,⟨4,.phase⟩,⟨5,.phase⟩,⟨6,.phase⟩,⟨7,.phase⟩,⟨8,.phase⟩,⟨9,.phase⟩,⟨10,.phase⟩,⟨11,.phase⟩,⟨12,.phase⟩,⟨13,.phase⟩,⟨14,.phase⟩,⟨15,.phase⟩,⟨16,.phase⟩,⟨17,.phase⟩,⟨18,.textOnly .lateStores⟩,⟨19,.phase⟩],none⟩ ?_ rfl ?_ z ?_;rotate_left
       ·(intro W aa;go_simp;first|done|with_reducible rfl)
       (try simp only[aE,ZA,ZB,ZC]);refine rdY 21 rfl (λK hK=>?_);go_simp;clear z;refine hK.out _ _ (KS _ (ce.one Q.heap.size i (.inl rfl) _) (UsOk.put an i _ _ _)) (λz=>?_);clear hK K;(try simp only[aE,ZA,ZB,ZC]);refine Zt 22 ⟨some 8,.assign (.tmp 62),30, "connect.go:22",#[⟨18,.data⟩,⟨21,.chain⟩,⟨0,.phase⟩,⟨1,.phase⟩,⟨2,.phase⟩,⟨3,.phase⟩,⟨4,.phase⟩,⟨5,.phase⟩,⟨6,.phase⟩,⟨7,.phase⟩,⟨8,.phase⟩,⟨9,.phase⟩,⟨10,.phase⟩,⟨11,.phase⟩,⟨12,.phase⟩,⟨13,.phase⟩,⟨14,.phase⟩,⟨15,.phase⟩,⟨16,.phase⟩,⟨17,.phase⟩,⟨18,.phase⟩,⟨19,.phase⟩,⟨20,.phase⟩,⟨21,.phase⟩],none⟩ ?_ rfl ?_ z ?_;rotate_left
       ·(intro W aa;go_simp;first|done|with_reducible rfl)
       (try simp only[aE,ZA,ZB,ZC]);refine wpAnyH_done (by kernel_rfl) ?_ _
       all_goals
        have bh:=z.1;clear z;have cm:=Zd (Qf ej an ((Gr.refl w6 (λq=>q=Q.heap.size)).one Q.heap.size i (.inl rfl) (F sa ns cs)));have cf:=Zd (cg.trans bh);have cd:=Zd (ae.trans ((GW _ bh).mono ae.size));have cn:=Zd (ep.put i el eu);obtain⟨jx,hQ⟩:=ZG (w6.setCell ⟨Q.heap.size,i,none⟩ (F sa ns cs));rw[<-hQ] at cm cf cd cn ⊢;clear hQ bh z6 fv;by_cases ju:y=0
        ·subst ju;have R:Hid (Ja h r L N (m - (k+1)) (k+1) M (S.set i s)=(x,C',S')):=by have e:=Za aj;rw[if_neg cj,if_neg (by simp)] at e;exact e
         have FB:Hid (∀ jv∈S.set i s,jv.length<=6/\∀ x∈jv,0<=cv x/\cv x<=1000000000):=λjv hz=>by
          rcases List.mem_or_eq_of_mem_set hz with q|rfl
          ·exact en jv q
          ·exact Zbb dq
         have FL:Hid ((S.set i s).length=m):=(by show _=_;rw[bY];exact Za bt);clear aj;go_wp2;go_roundw
         case rel=>exact⟨k+1,am,bs,jw,M,S.set i s,by omega,rfl,rfl,rfl,by go_num,(⟨Za cm,Za et⟩:CoinsAt jx am bs M/\SlOk am bs jw),cn,FL,FB,R,cf⟩
         case measure=>simp[intOf];omega
        ·have jz:(y != 0)=true:=(by simp[ju]);have R:Hid (((y:Int),([]:List Zj),([]:List (List Zj)))=(x,C',S')):=(by have e:=Za aj;rw[if_neg cj,if_pos ju] at e;exact e);clear aj ju;go_wp2
         go_ret3
         exact Gi R cd
     ·have cz:¬(i=0/\Qe r L S m<0):=λq=>cx q.1;have cj:=Zd cz;have jy:((i:Int) == 0)=false:=(by simp;omega);have cl:=HO;have ar:=HU;have cg:=HG;clear cz bq ca HO HU HG;have GW:Hid (∀ V,Gr wr V (λq=>q=Q.heap.size)->ZD Q V):=λV g=>GB V (cg.trans g)
      have AP:=Zd (λV (g:Gr wr V (λq=>q=Q.heap.size))=>(by
        obtain⟨_,⟨ai,ni,ci,g1,hI,sI⟩,ao,ad,co,g2,hO,sO⟩:=bv V (ae.trans ((GW V g).mono ae.size));exact⟨ai,ni,ci,ao,ad,co,g1,g2,Bh oa ah oc C t1 ai ao ni ci ad co I O nm h y M s V (Qf cl.1 ar.ok g) cl.2 hI hO sI dq⟩ :
        ∃ ai ni ci ao ad co,V.cell? ⟨tb,ac+i*3+1,none⟩=some (F ai ni ci)/\V.cell? ⟨tb,ac+i*3+2,none⟩=some (F ao ad co)/\Calls Tryz.prog 76 #[F oa ah oc,.agg #[E J t1,F ai ni ci,F ao ad co],E J nm,E J h] V λe w'=>ApR V w' y M s e))
      obtain⟨ai,ni,ci,ao,ad,co,dl,dm,_⟩:=AP wr (Gr.refl _ _)
      have eb:=Zd (λV (g:Gr wr V (λq=>q=Q.heap.size)) (g1:V.cell? ⟨tb,ac+i*3+1,none⟩=some (F ai ni ci)) (g2:V.cell? ⟨tb,ac+i*3+2,none⟩=some (F ao ad co))=>(by
        obtain⟨ic,ja,ih,id,jc,ii,q1,q2,q⟩:=AP V g;rw[g1] at q1;rw[g2] at q2;cases q1;cases q2;exact q :
        Calls Tryz.prog 76 #[F oa ah oc,.agg #[E J t1,F ai ni ci,F ao ad co],E J nm,E J h] V λe w'=>ApR V w' y M s e))
      have KS:Hid (∀ V,Gr wr V (λq=>q=Q.heap.size)->UsOk 153 Q.heap.size m V->Gr wr V (λq=>q=Q.heap.size)/\V.cell? ⟨w.heap.size+1,1,none⟩=some (E J h)/\V.cell? ⟨w.heap.size+1,4,none⟩=some (F (some ⟨tb,ac,none⟩) m c)/\V.cell? ⟨tb,ac+i*3,none⟩=some (E J t1)/\V.cell? ⟨tb,ac+i*3+1,none⟩=some (F ai ni ci)/\V.cell? ⟨tb,ac+i*3+2,none⟩=some (F ao ad co)/\V.cell? ⟨nb,no+i,none⟩=some (E J nm)/\UsOk 153 Q.heap.size m V):=λV g o=>by
       have bo:=GW V g;have ak:=(dp V bo).trans ec;have fp:=bv V (ae.trans (bo.mono ae.size));have fg:=GW wr (Gr.refl _ _);have db:=bv wr (ae.trans (fg.mono ae.size));have fl:=ar.ok.other db.1;have kq:=λ(j:Nat)=>bQ (a:=⟨tb,j,none⟩) (g.block tb (aD _ _ db.1) fl);exact⟨g,Zb ak 1 _ rfl,Zb ak 4 _ rfl,fp.1,(kq _).trans dl,(kq _).trans dm,dt V bo,o⟩
      have U0:Hid (UsOk 153 Q.heap.size m wr):=(by have:=ar.ok;rw[Za bt] at this;exact this);have jb:nb<wr.heap.size:=aD _ _ (dt wr (GW wr (Gr.refl _ _)));clear dl dm AP;go_wp2_with fail;refine wp_region_held_drew (S:=λV=>Gr wr V (λq=>q=Q.heap.size)/\V.cell? ⟨w.heap.size+1,1,none⟩=some (E J h)/\V.cell? ⟨w.heap.size+1,4,none⟩=some (F (some ⟨tb,ac,none⟩) m c)/\V.cell? ⟨tb,ac+i*3,none⟩=some (E J t1)/\V.cell? ⟨tb,ac+i*3+1,none⟩=some (F ai ni ci)/\V.cell? ⟨tb,ac+i*3+2,none⟩=some (F ao ad co)/\V.cell? ⟨nb,no+i,none⟩=some (E J nm)/\UsOk 153 Q.heap.size m V) (by kernel_rfl) (KS _ (Gr.refl _ _).draw (U0.later (Zi _))) (λz=>?_);refine Zt 0 ⟨some 45,.move (.tmp 7),42, "connect.go:22",#[⟨19,.gcOnly .lateStores⟩],none⟩ ?_ rfl ?_ z ?_;rotate_left
      ·(intro W aa;go_simp;first|done|with_reducible rfl)
      (try simp only[aE,ZA,ZB,ZC]);refine Zt 1 ⟨some 46,.move (.tmp 11),3, "connect.go:22",#[⟨19,.gcOnly .lateStores⟩],none⟩ ?_ rfl ?_ z ?_;rotate_left
      ·(intro W aa;go_simp;first|done|with_reducible rfl)
      (try simp only[aE,ZA,ZB,ZC]);refine Zt 2 ⟨some 47,.move (.tmp 6),29, "connect.go:22",#[],none⟩ ?_ rfl ?_ z ?_;rotate_left
      ·(intro W aa;go_simp;first|done|with_reducible rfl)
      (try simp only[aE,ZA,ZB,ZC]);refine Zt 3 ⟨some 48,.fieldAddr 39 (.tmp 5) 4,0, "connect.go:22",#[],none⟩ ?_ rfl ?_ z ?_;rotate_left
      ·(intro W aa;go_simp;first|done|with_reducible rfl)
      (try simp only[aE,ZA,ZB,ZC]);refine Zt 4 ⟨some 49,.load 37 (.tmp 48),37, "connect.go:22",#[⟨3,.data⟩],none⟩ ?_ rfl ?_ z ?_;rotate_left
      ·(intro W aa;go_simp;first|done|with_reducible rfl)
      (try simp only[aE,ZA,ZB,ZC]);refine Zt 5 ⟨some 50,.move (.tmp 11),3, "connect.go:22",#[],none⟩ ?_ rfl ?_ z ?_;rotate_left
      ·(intro W aa;go_simp;first|done|with_reducible rfl)
      (try simp only[aE,ZA,ZB,ZC]);refine Zt 6 ⟨some 51,.indexAddr 37 (.tmp 49) (.tmp 50),0, "connect.go:22",#[⟨4,.data⟩,⟨5,.data⟩],none⟩ ?_ rfl ?_ z ?_;rotate_left
      ·(intro W aa;go_simp;first|done|with_reducible rfl)
      (try simp only[aE,ZA,ZB,ZC]);refine Zt 7 ⟨some 52,.load 59 (.tmp 51),59, "connect.go:22",#[⟨6,.data⟩],none⟩ ?_ rfl ?_ z ?_;rotate_left
      ·(intro W aa;go_simp;first|done|with_reducible rfl)
      (try simp only[aE,ZA,ZB,ZC]);refine Zt 8 ⟨some 53,.move (.tmp 9),25, "connect.go:22",#[],none⟩ ?_ rfl ?_ z ?_;rotate_left
      ·(intro W aa;go_simp;first|done|with_reducible rfl)
      (try simp only[aE,ZA,ZB,ZC]);refine Zt 9 ⟨some 54,.move (.tmp 11),3, "connect.go:22",#[],none⟩ ?_ rfl ?_ z ?_;rotate_left
      ·(intro W aa;go_simp;first|done|with_reducible rfl)
      (try simp only[aE,ZA,ZB,ZC]);refine Zt 10 ⟨some 55,.indexAddr 25 (.tmp 53) (.tmp 54),0, "connect.go:22",#[⟨8,.data⟩,⟨9,.data⟩],none⟩ ?_ rfl ?_ z ?_;rotate_left
      ·(intro W aa;go_simp;first|done|with_reducible rfl)
      (try simp only[aE,ZA,ZB,ZC]);refine Zt 11 ⟨some 56,.load 3 (.tmp 55),3, "connect.go:22",#[⟨10,.data⟩],none⟩ ?_ rfl ?_ z ?_;rotate_left
      ·(intro W aa;go_simp;first|done|with_reducible rfl)
      (try simp only[aE,ZA,ZB,ZC]);refine Zt 12 ⟨some 57,.fieldAddr 39 (.tmp 5) 1,0, "connect.go:22",#[],none⟩ ?_ rfl ?_ z ?_;rotate_left
      ·(intro W aa;go_simp;first|done|with_reducible rfl)
      (try simp only[aE,ZA,ZB,ZC]);refine Zt 13 ⟨some 58,.load 3 (.tmp 57),3, "connect.go:22",#[⟨12,.data⟩],none⟩ ?_ rfl ?_ z ?_;rotate_left
      ·(intro W aa;go_simp;first|done|with_reducible rfl)
      (try simp only[aE,ZA,ZB,ZC]);refine rdY 14 rfl (λK hK=>?_);refine Wc (by kernel_rfl) 76 #[F oa ah oc,.agg #[E J t1,F ai ni ci,F ao ad co],E J nm,E J h] (by kernel_rfl) (eb _ z.1 z.2.2.2.2.1 z.2.2.2.2.2.1) ?_;rintro e w6 ⟨am,bs,jw,sa,ns,cs,rfl,ct,di,cw,dj,aw⟩;refine⟨_,rfl,?_⟩;have ej:=Zd ct;have et:=Zd di;have el:=Zd cw;have eu:=Zd dj;have ep:=Zd (ar.later (Zf (Zi wr) aw));have ce:=Zd (Gr.on z.1 aw);have an:=Zd (UsOk.later z.2.2.2.2.2.2.2 aw);obtain⟨zz,z6⟩:=an.cell cy;have fv:=an.free i;clear ct di cw dj aw;clear z;refine hK.out _ _ (KS _ ce an) (λz=>?_);clear hK K;(try simp only[aE,ZA,ZB,ZC]);refine Zt 15 ⟨some 44,.move (.tmp 59),154, "connect.go:22",#[⟨14,.data⟩],none⟩ ?_ rfl ?_ z ?_;rotate_left
      ·(intro W aa;go_simp;first|done|with_reducible rfl)
      (try simp only[aE,ZA,ZB,ZC]);refine Zt 16 ⟨some 60,.extract (.tmp 44) 0,29, "connect.go:22",#[⟨15,.data⟩],none⟩ ?_ rfl ?_ z ?_;rotate_left
      ·(intro W aa;go_simp;first|done|with_reducible rfl)
      (try simp only[aE,ZA,ZB,ZC]);refine Zt 17 ⟨some 61,.extract (.tmp 44) 1,153, "connect.go:22",#[⟨15,.data⟩,⟨19,.gcOnly .lateStores⟩],none⟩ ?_ rfl ?_ z ?_;rotate_left
      ·(intro W aa;go_simp;first|done|with_reducible rfl)
      (try simp only[aE,ZA,ZB,ZC]);refine Zt 18 ⟨some 62,.extract (.tmp 44) 2,30, "connect.go:22",#[⟨15,.data⟩,⟨21,.gcOnly .lateStores⟩],none⟩ ?_ rfl ?_ z ?_;rotate_left
      ·(intro W aa;go_simp;first|done|with_reducible rfl)
      (try simp only[aE,ZA,ZB,ZC]);refine Zt 19 ⟨some 6,.assign (.tmp 60),29, "connect.go:22",#[⟨16,.data⟩,⟨14,.chain⟩,⟨0,.textOnly .lateStores⟩,⟨1,.textOnly .lateStores⟩,⟨2,.phase⟩,⟨3,.phase⟩,⟨4,.phase⟩,⟨5,.phase⟩,⟨6,.phase⟩,⟨7,.phase⟩,⟨8,.phase⟩,⟨9,.phase⟩,⟨10,.phase⟩,⟨11,.phase⟩,⟨12,.phase⟩,⟨13,.phase⟩,⟨14,.phase⟩,⟨15,.phase⟩,⟨16,.phase⟩,⟨17,.textOnly .lateStores⟩,⟨18,.textOnly .lateStores⟩],none⟩ ?_ rfl ?_ z ?_;rotate_left
      ·(intro W aa;go_simp;first|done|with_reducible rfl)
      (try simp only[aE,ZA,ZB,ZC]);refine Zt 20 ⟨some 63,.indexAddr 42 (.tmp 45) (.tmp 46),0, "connect.go:22",#[⟨0,.data⟩,⟨1,.data⟩,⟨0,.phase⟩,⟨1,.phase⟩,⟨2,.phase⟩,⟨3,.phase⟩,⟨4,.phase⟩,⟨5,.phase⟩,⟨6,.phase⟩,⟨7,.phase⟩,⟨8,.phase⟩,⟨9,.phase⟩,⟨10,.phase⟩,⟨11,.phase⟩,⟨12,.phase⟩,⟨13,.phase⟩,⟨14,.phase⟩,⟨15,.phase⟩,⟨16,.phase⟩,⟨17,.phase⟩,⟨18,.textOnly .lateStores⟩,⟨19,.phase⟩],none⟩ ?_ rfl ?_ z ?_;rotate_left
      ·(intro W aa;go_simp;first|done|with_reducible rfl)
      (try simp only[aE,ZA,ZB,ZC]);refine rdY 21 rfl (λK hK=>?_);go_simp;clear z;refine hK.out _ _ (KS _ (ce.one Q.heap.size i (.inl rfl) _) (UsOk.put an i _ _ _)) (λz=>?_);clear hK K;(try simp only[aE,ZA,ZB,ZC]);refine Zt 22 ⟨some 8,.assign (.tmp 62),30, "connect.go:22",#[⟨18,.data⟩,⟨21,.chain⟩,⟨0,.phase⟩,⟨1,.phase⟩,⟨2,.phase⟩,⟨3,.phase⟩,⟨4,.phase⟩,⟨5,.phase⟩,⟨6,.phase⟩,⟨7,.phase⟩,⟨8,.phase⟩,⟨9,.phase⟩,⟨10,.phase⟩,⟨11,.phase⟩,⟨12,.phase⟩,⟨13,.phase⟩,⟨14,.phase⟩,⟨15,.phase⟩,⟨16,.phase⟩,⟨17,.phase⟩,⟨18,.phase⟩,⟨19,.phase⟩,⟨20,.phase⟩,⟨21,.phase⟩],none⟩ ?_ rfl ?_ z ?_;rotate_left
      ·(intro W aa;go_simp;first|done|with_reducible rfl)
      (try simp only[aE,ZA,ZB,ZC]);refine wpAnyH_done (by kernel_rfl) ?_ _
      all_goals
       have bh:=z.1;clear z;have cm:=Zd (Qf ej an ((Gr.refl w6 (λq=>q=Q.heap.size)).one Q.heap.size i (.inl rfl) (F sa ns cs)));have cf:=Zd (cg.trans bh);have cd:=Zd (ae.trans ((GW _ bh).mono ae.size));have cn:=Zd (ep.put i el eu);obtain⟨jx,hQ⟩:=ZG (w6.setCell ⟨Q.heap.size,i,none⟩ (F sa ns cs));rw[<-hQ] at cm cf cd cn ⊢;clear hQ bh z6 fv;by_cases ju:y=0
       ·subst ju;have R:Hid (Ja h r L N (m - (k+1)) (k+1) M (S.set i s)=(x,C',S')):=by have e:=Za aj;rw[if_neg cj,if_neg (by simp)] at e;exact e
        have FB:Hid (∀ jv∈S.set i s,jv.length<=6/\∀ x∈jv,0<=cv x/\cv x<=1000000000):=λjv hz=>by
         rcases List.mem_or_eq_of_mem_set hz with q|rfl
         ·exact en jv q
         ·exact Zbb dq
        have FL:Hid ((S.set i s).length=m):=(by show _=_;rw[bY];exact Za bt);clear aj;go_wp2;go_roundw
        case rel=>exact⟨k+1,am,bs,jw,M,S.set i s,by omega,rfl,rfl,rfl,by go_num,(⟨Za cm,Za et⟩:CoinsAt jx am bs M/\SlOk am bs jw),cn,FL,FB,R,cf⟩
        case measure=>simp[intOf];omega
       ·have jz:(y != 0)=true:=(by simp[ju]);have R:Hid (((y:Int),([]:List Zj),([]:List (List Zj)))=(x,C',S')):=(by have e:=Za aj;rw[if_neg cj,if_pos ju] at e;exact e);clear aj ju;go_wp2
        go_ret3
        exact Gi R cd
    ·have fk:m - k=0:=(by omega);have R:Hid (((0:Int),C,S)=(x,C',S')):=(by have e:=Za HQ;rw[fk] at e;exact e);have eh:=Zd bq;clear HQ bq ca;go_wp2
     go_ret3
     obtain⟨r1,r2⟩:=Prod.mk.inj R;obtain⟨r2,r3⟩:=Prod.mk.inj r2;subst r1 r2 r3;exact⟨oa,ah,oc,some ⟨Q.heap.size,0,none⟩,m,m,rfl,HO.1,HO.2,by have:=HU.undos;rw[Za bt] at this;exact this,⟨aF _,by unfold maxLen;omega,λe=>by cases e⟩,Za eh,λkd e=>by cases e;exact ae.size⟩
 ·rw[if_pos e1] at hx;have g1:(y1 != 0)=true:=by simp[e1]
  have R:=Zd hx;clear hE hK hC sC hL hx dy av bk dc e1;go_enter Tryz.func21,Tryz.ntmps21;go_wp2_with fail;rw[<-hX];clear hX;refine C1.mono ?_;rintro e Q ⟨na,nn,nc,rfl,hN,ea,bx⟩;have eg:=Zd (Zf ef bx);clear hN ea bx C1;go_wp2
  go_ret3
  exact Gi R eg
