import Derived.Test.YtpikejjiignchaaGreatDoorH
import Derived.Test.YtpikejjiignchaaGreatDoorG31
open Go renaming lt_of_block->aA,wpAnyH_ready->bJ
open Go.Act renaming put->aH
open Go.IntKind renaming i64->J
open Go.Obj renaming cells->dW
open Go.Value renaming int->E,slice->F
open Go.World renaming cell?_of_block->cR,block_lt_of_cell?->aC
open List renaming replicate->aF,getD_eq_getElem?_getD->aZ,getElem?_eq_getElem->aS
open Nat renaming le_refl->aE
namespace Go.Proofs.YtpikejjiignchaaGreatDoor
open Go.RowKit
theorem Zlp{K C}{b:Zj}{N:List Int}(h:nfD K C b=(N,0)):Xo b=0/\N.length=b.2.2.2.2.length:=by
 unfold nfD at h;split at h
 ·next q=>simp at h;exact absurd h.2 q
 ·injection h with h1 h2;unfold Q7 at h1 h2;split at h2
  ·next q=>exact absurd h2 q
  ·next q=>
   rw[if_neg q] at h1;split at h2
   ·next q=>exact absurd h2 q
   ·next q2=>
    rw[if_neg q2] at h1;obtain⟨M,z,x,e⟩:∃ M z x,Bk.allR K (Xz b)=(M,z,x):=⟨_,_,_,rfl⟩;rw[e] at q2 h1;obtain rfl:x=0:=Decidable.not_not.1 q2;have:=Zcq e;simp only at h1;refine⟨Decidable.not_not.1 q,?_⟩;rw[<-h1,List.length_take,this];simp[Xz]
theorem Tryz.infoUndo:(Tryz.prog.info? 130).map (λi=>(i.zero,i.size,i.bytes))=some (some (.agg #[F none 0 0]),1,24):=by kernel_rfl
theorem Ai(m:Nat):(madeCells (Value.agg #[F none 0 0]).cells (m*1)).toList=aF m (F none 0 0):=by
 rw[Nat.mul_one];exact toList_madeCells_one _ _
theorem Zdv{p h k n:Int}{L}(e:Xo (p,h,k,n,L)=0):rwD h=((rwD h).1,0):=by
 unfold Xo at e;split at e
 ·cases e
 ·next q=>
  unfold rwD;simp[Wj] at q;rw[if_pos (by simp;omega)]
set_option maxRecDepth 10000 in
set_option maxHeartbeats 12800000 in
theorem Zej(kl kn ko K la ln lc C0)(p h k0 n:Int)(a m c L)(x:Int)(C' S' w)(hE:Env w)(hK:Bk.TextsAt w kl kn K)(hC:CoinsAt w la ln C0)(sC:SlOk la ln lc)(hL:TxsAt w a m L)(hx:Ym K C0 (p,h,k0,n,L)=(x,C',S')) :
  Calls Tryz.prog 74 #[.agg #[F kl kn ko],F la ln lc,.agg #[E J p,E J h,E J k0,E J n,F a m c]] w λe w'=>Znn w w' x C' S' e:=by
 obtain⟨X,hX⟩:=ZG ((w.alloc (dW #[F kl kn ko] 24)).alloc (dW #[E J p,E J h,E J k0,E J n,F a m c] 68));have bb:ZD w X:=by rw[hX];exact Ze (Zg _ _) (Zg _ _)
 have cq:X.heap[w.heap.size]? = some (dW [F kl kn ko].toArray 24 (0,0)):=by
  rw[hX,Below.heap_alloc _ _ _ (by simp)];exact Qs _ _ _
 have au:X.heap[w.heap.size+1]? = some (dW [E J p,E J h,E J k0,E J n,F a m c].toArray 68 (0,0)):=by
  rw[hX];have:=Z8 (w.alloc (dW #[F kl kn ko] 24)) (E J p) (E J h) (E J k0) (E J n) (F a m c) 68;rw[show (w.alloc (dW #[F kl kn ko] 24)).heap.size=w.heap.size+1 by simp] at this;exact this
 obtain⟨N,y1,cb⟩:∃ N y1,nfD K C0 (p,h,k0,n,L)=(N,y1):=⟨_,_,rfl⟩;have C1:=Zb (Tj kl kn ko K la ln lc C0 p h k0 n a m c L N y1 X (hE.later bb) (hK.later bb) (hC.later bb) (hL.later bb) cb);unfold Ym at hx;rw[cb] at hx;simp only at hx;have jd:=Zd cq 0 _ rfl;have dn:=Zd au 0 _ rfl;have dp:=Zd au 1 _ rfl;have dq:=Zd au 2 _ rfl;have dr:=Zd au 3 _ rfl;have ds:=Zd au 4 _ rfl;have je:=aA cq;have dt:=aA au;have el:=Zb bb;have ia:=Zb au;by_cases e1:y1=0
 ·subst e1;rw[if_neg (by simp)] at hx;obtain⟨dy,cp⟩:=Zlp cb;have hz:L.length=m:=hL.1;obtain⟨f1,f2,f3,_,f5⟩:=Uo dy;simp only at f1 f2 f3 f5 cp hz;rw[hz] at cp hx;have ea:0<m:=by omega
  have fo:m<=4:=by omega
  obtain⟨tb,ac,rfl,iw,fj⟩:=hL.2 ea;obtain⟨r,hr⟩:=ZF ((rwD h).1);have ed:=Zdv dy;rw[hr] at hx ed;have et:Hid (∀ W,ZD w W->∀ i (hi:i<L.length),TxAt W tb (ac+i*3) L[i]):=λW hb i hi=>TxAt.kept _ _ _ _ _ hb (fj i hi);have gw:Hid (∀ t∈L,t.2.2.length<=6/\∀ x∈t.2.2,0<=x.1/\x.1<=1000000000):=λt ht=>⟨(Y9 (f5 t ht)).2.1,Rl (f5 t ht)⟩;have HC:=Zb hC;have gv:=Zb sC;have HZ:=Zb hz;have gq:=Zb cp;have gs:=Zb ed;have HX:Hid (W6 h r L N m 0 C0 (aF m [])=(x,C',S')):=hx;clear hE hK hC sC hL hx cq au bb cb dy cp hz f1 f2 f3 f5 fj hr ed iw;obtain⟨i0,kv,ja,jb,jc⟩:=info_parts Tryz.infoUndo;go_enter Tryz.func74,Tryz.ntmps74;go_wp2_with fail;rw[<-hX];clear hX;refine C1.mono ?_;rintro e O ⟨na,nn,nc,rfl,hN,cx,bi⟩;have HN:=Zb hN;have jp:=Zb cx;have h21:=ZE bi ia;have ew:=Zb h21;have ih:=Zd h21 4 _ rfl;have ii:=aA h21;have ae:=Zb (Ze el bi);have kb:w.heap.size+2<=O.heap.size:=by have:=aA h21;omega
  clear hN cx bi h21 jd dn dp dq dr ds je dt;go_wp2_with fail;have ey:Hid (∀ W,ZD O W->ZD O W/\W.cell? ⟨w.heap.size+1,4,none⟩=some (F (some ⟨tb,ac,none⟩) m c)):=λW hb=>⟨hb,Zd (ZE hb ew) 4 _ rfl⟩;refine wp_region_held_drew (S:=λW=>ZD O W/\W.cell? ⟨w.heap.size+1,4,none⟩=some (F (some ⟨tb,ac,none⟩) m c)) (by kernel_rfl) (ey _ (Zh _)) (λz=>?_);refine Zt 0 ⟨some 22,.move (.tmp 1),29, "connect.go:17",#[],none⟩ ?_ rfl ?_ z ?_;rotate_left
  ·(intro W aa;go_simp;first|done|with_reducible rfl)
  (try simp only[aH,ZA,ZB,ZC]);refine Zt 1 ⟨some 23,.fieldAddr 68 (.tmp 5) 4,0, "connect.go:17",#[],none⟩ ?_ rfl ?_ z ?_;rotate_left
  ·(intro W aa;go_simp;first|done|with_reducible rfl)
  (try simp only[aH,ZA,ZB,ZC]);refine Zt 2 ⟨some 24,.load 48 (.tmp 23),48, "connect.go:17",#[⟨1,.data⟩],none⟩ ?_ rfl ?_ z ?_;rotate_left
  ·(intro W aa;go_simp;first|done|with_reducible rfl)
  (try simp only[aH,ZA,ZB,ZC]);refine Zt 3 ⟨some 25,.call { callee:=Callee.builtin Builtin.len,args:=#[.tmp 24],argTypes:=#[48] },3, "connect.go:17",#[⟨2,.data⟩],none⟩ ?_ rfl ?_ z ?_;rotate_left
  ·(intro W aa;go_simp;first|done|with_reducible rfl)
  (try simp only[aH,ZA,ZB,ZC]);refine Zt 5 ⟨some 6,.assign (.tmp 22),29, "connect.go:17",#[⟨0,.data⟩,⟨0,.phase⟩,⟨1,.textOnly .lateStores⟩,⟨2,.textOnly .lateStores⟩,⟨3,.textOnly .lateStoresUnsure⟩,⟨4,.textOnly .lateStoresUnsure⟩],none⟩ ?_ rfl ?_ z ?_;rotate_left
  ·(intro W aa;go_simp;first|done|with_reducible rfl)
  (try simp only[aH,ZA,ZB,ZC]);refine bJ (rs:=[4]) (by kernel_rfl) (by simp) ?_;refine AllReadyH.cons (o:=⟨some 26,.makeSlice 79 (.tmp 25) (.tmp 25),79, "connect.go:17",#[⟨3,.data⟩,⟨3,.data⟩],none⟩) rfl (λK hK=>?_) AllReadyH.nil;refine Zgw (by kernel_rfl) _ _ _ (by rfl) O.heap.size 130 i0 (.agg #[F none 0 0]) 1 Tryz.underlying79 kv ja jb .i64 .i64 _ _ m (by rfl) (by rfl) (by rfl) (by rfl) (by rw[jc];omega) (by unfold maxLen;omega) (aE _) O.heap.size (by rfl) ?_;intro w2 fq fk;have ct:ZD O w2:=Ze (Zh O) ((Below.refl _ _).grown fk (aE _) (λk h=>by cases h));refine hK.out _ _ (ey _ ct) (λay=>?_);clear hK K z;have z:=ay;clear ay;(try simp only[aH,ZA,ZB,ZC]);refine Zt 6 ⟨some 7,.assign (.tmp 26),79, "connect.go:17",#[⟨4,.data⟩,⟨5,.chain⟩,⟨0,.phase⟩,⟨1,.phase⟩,⟨2,.phase⟩,⟨3,.phase⟩,⟨4,.phase⟩,⟨5,.phase⟩],none⟩ ?_ rfl ?_ z ?_;rotate_left
  ·(intro W aa;go_simp;first|done|with_reducible rfl)
  (try simp only[aH,ZA,ZB,ZC]);refine wpAnyH_done (by kernel_rfl) ?_ _;have fh:UsAt 130 O.heap.size (aF m []) w2:=Zjl (base:=O.heap.size) (by rw[<-Ai];exact fq);have eu:=Zb fh;have gm:=Zb ct;have h22:=ZE ct ew;have ib:=Zb h22;have ij:=Zd h22 4 _ rfl;have ik:=aA h22;have C2:=Zb (El m w2 ea fo);clear fh ct h22 fq fk ih ii z;go_wp2_with fail;refine C2.mono ?_;rintro e w3 ⟨rfl,dz⟩;have HF:=Zb dz;have bj:=dz.bel;have jo:=Zb bj;have gx:=Zb (eu.later bj);have jw:=eu.ok.lt;have GB:Hid (∀ W,Gr w3 W (λq=>q=O.heap.size)->ZD O W):=λW g=>g.below (Ze gm bj) (by have:=bj.size;omega) (λq e=>by rw[e];exact aE _);have ic:=Zb (ZE bj ib);clear dz bj ij ik;go_wp2
  go_loopw [6,7,8,32] (λov uv ku i wr=>∃ (k:Nat) (oa:Option Addr) (ao oc:Nat) (C:List Zf) (S:List (List Zf)),k<=m/\ov = F oa ao oc/\uv = F (some ⟨O.heap.size,0,none⟩) m m/\ku = E J 0/\i = E J k/\Hid (CoinsAt wr oa ao C/\SlOk oa ao oc)/\Hid (UsAt 130 O.heap.size S wr)/\Hid (S.length=m)/\Hid (∀ s∈S,s.length<=6/\∀ x∈s,0<=cv x/\cv x<=1000000000)/\Hid (W6 h r L N (m - k) k C S=(x,C',S'))/\Hid (Gr w3 wr (λq=>q=O.heap.size))) (λ_ _ _ i _=>m - (intOf i).toNat)
  case atStart=>exact⟨0,la,ln,lc,C0,aF m [],Nat.zero_le _,rfl,rfl,rfl,rfl,(⟨HC.later (ae.trans ((Za GB w3 (Gr.refl _ _)).mono ae.size)),Za gv⟩:CoinsAt w3 la ln C0/\SlOk la ln lc),gx,(List.length_replicate:(aF m ([]:List Zf)).length=m),(λs hs=>by rw[(List.mem_replicate.1 hs).2];exact⟨by simp,λx hx=>by cases hx⟩:∀ s∈aF m ([]:List Zf),s.length<=6/\∀ x∈s,0<=cv x/\cv x<=1000000000),HX,(Gr.refl _ _:Gr w3 w3 (λq=>q=O.heap.size))⟩
  case round=>
    obtain⟨k,oa,ao,oc,C,S,hk,rfl,rfl,rfl,rfl,HO,HU,cf,es,HQ,HG⟩:=hrel;have bk:=GB wr HG;have bc:=ae.trans (bk.mono ae.size);by_cases it:k<m
    ·have cw:(k+1) % m<m:=Nat.mod_lt _ ea;have gd:=(cR (a:=⟨w2.heap.size,k,none⟩) (HG.block w2.heap.size HF.lt (by omega))).trans (HF.cells (aE _) k it);have kh:w2.heap.size<wr.heap.size:=Nat.lt_of_lt_of_le HF.lt HG.size;unfold Em at gd;obtain⟨i,hi⟩:=ZF ((k+1) % m);rw[hi] at cw gd;have eb:m - k=(m - (k+1))+1:=(by omega);have fl:i<L.length:=(by rw[Za HZ];exact cw);obtain⟨t1,I,km,ht⟩:∃ t1 I km,L[i]=(t1,I,km):=⟨_,_,_,rfl⟩;obtain⟨nm,ec⟩:=ZF (N.getD i 0);obtain⟨y,M,s,dw⟩:∃ y M s,apD C (t1,I,km) nm h=(y,M,s):=⟨_,_,_,rfl⟩;have bg:=Za HQ;rw[eb,Dj (i:=i) (by rw[Za HZ];exact hi) (t:=(t1,I,km)) (by rw[aZ,aS fl];exact ht) ec dw,Za HZ] at bg;have bg:=Zb bg;have fm:i<N.length:=(by rw[Za gq];exact cw);have fp:N[i]=nm:=(by rw[<-ec,aZ,aS fm];rfl);obtain⟨nb,no,rfl,fi⟩:=HN.2 (by have:=HN.1;omega);have ek:=Zb dw;have ka:(k:Int)<(m:Int):=(by omega);have jx:(i:Int)<(m:Int):=(by omega);have kc:N.length=nn:=HN.1;have jy:(i:Int)<(nn:Int):=(by omega);have ez:Hid (∀ W,ZD O W->W.cell? ⟨nb,no+i,none⟩=some (E J nm)):=λW hb=>by rw[<-fp];exact Zc hb (fi i fm)
     have dl:Hid (∀ W,ZD w W->TxAt W tb (ac+i*3) (t1,I,km)):=λW hb=>by rw[<-ht];exact et W hb i fl
     have db:Hid (∀ W,ZD O W->W.heap[w.heap.size+1]? = O.heap[w.heap.size+1]?):=λW hb=>hb.block _ (by omega);have ei:Hid (O.heap[w.heap.size+1]? = some (dW [E J p,E J h,E J k0,E J n,F (some ⟨tb,ac,none⟩) m c].toArray 68 (0,0))):=(db w3 (GB w3 (Gr.refl _ _))).symm.trans ic;clear fi ec fp ht dw;by_cases bx:i=0
     focus
      have gi:((i:Int) == 0)=true:=(by simp[bx]);obtain⟨o,ho⟩:=ZF (decide (0<=Xk r L S m));have CV:=Zb (Zei p h k0 n tb ac m c L O.heap.size 0 m m S r o wr HZ fo (et wr bc) cf rfl (λi hi=>HU.undo i hi) gw es gs ho);have ar:=(db wr bk).trans ei;have dn:=Zd ar 0 _ rfl;have dp:=Zd ar 1 _ rfl;have dq:=Zd ar 2 _ rfl;have dr:=Zd ar 3 _ rfl;have ds:=Zd ar 4 _ rfl;have dt:=aA ar;clear ar;cases o
      case false=>
       have R:Hid (((9:Int),([]:List Zf),([]:List (List Zf)))=(x,C',S')):=(by have e:=Za bg;rw[if_pos ⟨bx,by have:=of_decide_eq_false ho;omega⟩] at e;exact e);have dd:=Zb bc;clear bc bk ho bx;go_wp2_with fail;refine CV.mono ?_;rintro e w4 ⟨rfl,ba⟩;have dc:=Zb (Ze dd ba);clear ba;go_wp2
       go_ret3
       exact Rx R dc
      have bz:¬(i=0/\Xk r L S m<0):=λq=>by have:=of_decide_eq_true ho;omega
      have dh:=Zb bz;clear ho bz bc bk bx;go_wp2_with fail;refine CV.mono ?_;rintro e V4 ⟨rfl,ba⟩;have di:=Zb (⟨HO.1.later ba,HO.2⟩:CoinsAt V4 oa ao C/\SlOk oa ao oc);have bv:=Zb (HU.later ba);have df:=Zb (Gr.on HG ba);clear ba dn dp dq dr ds dt
     rotate_left
     focus
      have bz:¬(i=0/\Xk r L S m<0):=λq=>bx q.1;obtain⟨V4,iq⟩:=ZG (wr);subst iq;have dh:=Zb bz;have gi:((i:Int) == 0)=false:=(by simp;omega);have di:=HO;have bv:=HU;have df:=HG;clear bz bc bk
     all_goals
      have GW:Hid (∀ V,Gr V4 V (λq=>q=O.heap.size)->ZD O V):=λV g=>GB V (df.trans g)
      have AP:=Zb (λV (g:Gr V4 V (λq=>q=O.heap.size))=>(by
        obtain⟨_,⟨ai,ni,ci,g1,hI,sI⟩,kk,am,co,g2,hO,sO⟩:=dl V (ae.trans ((GW V g).mono ae.size));exact⟨ai,ni,ci,kk,am,co,g1,g2,Zni oa ao oc C t1 ai kk ni ci am co I km nm h y M s V (W7 di.1 bv.ok g) di.2 hI hO sI ek⟩ :
        ∃ ai ni ci kk am co,V.cell? ⟨tb,ac+i*3+1,none⟩=some (F ai ni ci)/\V.cell? ⟨tb,ac+i*3+2,none⟩=some (F kk am co)/\Calls Tryz.prog 98 #[F oa ao oc,.agg #[E J t1,F ai ni ci,F kk am co],E J nm,E J h] V λe w'=>ApR V w' y M s e))
      obtain⟨ai,ni,ci,kk,am,co,gb,gc,_⟩:=AP V4 (Gr.refl _ _)
      have gh:=Zb (λV (g:Gr V4 V (λq=>q=O.heap.size)) (g1:V.cell? ⟨tb,ac+i*3+1,none⟩=some (F ai ni ci)) (g2:V.cell? ⟨tb,ac+i*3+2,none⟩=some (F kk am co))=>(by
        obtain⟨jr,kd,jt,js,kf,ju,q1,q2,q⟩:=AP V g;rw[g1] at q1;rw[g2] at q2;cases q1;cases q2;exact q :
        Calls Tryz.prog 98 #[F oa ao oc,.agg #[E J t1,F ai ni ci,F kk am co],E J nm,E J h] V λe w'=>ApR V w' y M s e))
      have KS:Hid (∀ V,Gr V4 V (λq=>q=O.heap.size)->UsOk 130 O.heap.size m V->Gr V4 V (λq=>q=O.heap.size)/\V.cell? ⟨w.heap.size+1,1,none⟩=some (E J h)/\V.cell? ⟨w.heap.size+1,4,none⟩=some (F (some ⟨tb,ac,none⟩) m c)/\V.cell? ⟨tb,ac+i*3,none⟩=some (E J t1)/\V.cell? ⟨tb,ac+i*3+1,none⟩=some (F ai ni ci)/\V.cell? ⟨tb,ac+i*3+2,none⟩=some (F kk am co)/\V.cell? ⟨nb,no+i,none⟩=some (E J nm)/\UsOk 130 O.heap.size m V):=λV g o=>by
       have dx:=GW V g;have ar:=(db V dx).trans ei;have ix:=dl V (ae.trans (dx.mono ae.size));have ir:=GW V4 (Gr.refl _ _);have ft:=dl V4 (ae.trans (ir.mono ae.size));have iu:=bv.ok.other ft.1;have kq:=λ(j:Nat)=>cR (a:=⟨tb,j,none⟩) (g.block tb (aC _ _ ft.1) iu);exact⟨g,Zd ar 1 _ rfl,Zd ar 4 _ rfl,ix.1,(kq _).trans gb,(kq _).trans gc,ez V dx,o⟩
      have U0:Hid (UsOk 130 O.heap.size m V4):=(by have:=bv.ok;rw[Za cf] at this;exact this);have ke:nb<V4.heap.size:=aC _ _ (ez V4 (GW V4 (Gr.refl _ _)));clear gb gc AP;go_wp2_with fail;refine wp_region_held_drew (S:=λV=>Gr V4 V (λq=>q=O.heap.size)/\V.cell? ⟨w.heap.size+1,1,none⟩=some (E J h)/\V.cell? ⟨w.heap.size+1,4,none⟩=some (F (some ⟨tb,ac,none⟩) m c)/\V.cell? ⟨tb,ac+i*3,none⟩=some (E J t1)/\V.cell? ⟨tb,ac+i*3+1,none⟩=some (F ai ni ci)/\V.cell? ⟨tb,ac+i*3+2,none⟩=some (F kk am co)/\V.cell? ⟨nb,no+i,none⟩=some (E J nm)/\UsOk 130 O.heap.size m V) (by kernel_rfl) (KS _ (Gr.refl _ _).draw (U0.later (Zh _))) (λz=>?_);refine Zt 0 ⟨some 45,.move (.tmp 7),79, "connect.go:22",#[⟨19,.gcOnly .lateStores⟩],none⟩ ?_ rfl ?_ z ?_;rotate_left
      ·(intro W aa;go_simp;first|done|with_reducible rfl)
      (try simp only[aH,ZA,ZB,ZC]);refine Zt 1 ⟨some 46,.move (.tmp 11),3, "connect.go:22",#[⟨19,.gcOnly .lateStores⟩],none⟩ ?_ rfl ?_ z ?_;rotate_left
      ·(intro W aa;go_simp;first|done|with_reducible rfl)
      (try simp only[aH,ZA,ZB,ZC]);refine Zt 2 ⟨some 47,.move (.tmp 6),29, "connect.go:22",#[],none⟩ ?_ rfl ?_ z ?_;rotate_left
      ·(intro W aa;go_simp;first|done|with_reducible rfl)
      (try simp only[aH,ZA,ZB,ZC]);refine Zt 3 ⟨some 48,.fieldAddr 68 (.tmp 5) 4,0, "connect.go:22",#[],none⟩ ?_ rfl ?_ z ?_;rotate_left
      ·(intro W aa;go_simp;first|done|with_reducible rfl)
      (try simp only[aH,ZA,ZB,ZC]);refine Zt 4 ⟨some 49,.load 48 (.tmp 48),48, "connect.go:22",#[⟨3,.data⟩],none⟩ ?_ rfl ?_ z ?_;rotate_left
      ·(intro W aa;go_simp;first|done|with_reducible rfl)
      (try simp only[aH,ZA,ZB,ZC]);refine Zt 5 ⟨some 50,.move (.tmp 11),3, "connect.go:22",#[],none⟩ ?_ rfl ?_ z ?_;rotate_left
      ·(intro W aa;go_simp;first|done|with_reducible rfl)
      (try simp only[aH,ZA,ZB,ZC]);refine Zt 6 ⟨some 51,.indexAddr 48 (.tmp 49) (.tmp 50),0, "connect.go:22",#[⟨4,.data⟩,⟨5,.data⟩],none⟩ ?_ rfl ?_ z ?_;rotate_left
      ·(intro W aa;go_simp;first|done|with_reducible rfl)
      (try simp only[aH,ZA,ZB,ZC]);refine Zt 7 ⟨some 52,.load 52 (.tmp 51),52, "connect.go:22",#[⟨6,.data⟩],none⟩ ?_ rfl ?_ z ?_;rotate_left
      ·(intro W aa;go_simp;first|done|with_reducible rfl)
      (try simp only[aH,ZA,ZB,ZC]);refine Zt 8 ⟨some 53,.move (.tmp 9),25, "connect.go:22",#[],none⟩ ?_ rfl ?_ z ?_;rotate_left
      ·(intro W aa;go_simp;first|done|with_reducible rfl)
      (try simp only[aH,ZA,ZB,ZC]);refine Zt 9 ⟨some 54,.move (.tmp 11),3, "connect.go:22",#[],none⟩ ?_ rfl ?_ z ?_;rotate_left
      ·(intro W aa;go_simp;first|done|with_reducible rfl)
      (try simp only[aH,ZA,ZB,ZC]);refine Zt 10 ⟨some 55,.indexAddr 25 (.tmp 53) (.tmp 54),0, "connect.go:22",#[⟨8,.data⟩,⟨9,.data⟩],none⟩ ?_ rfl ?_ z ?_;rotate_left
      ·(intro W aa;go_simp;first|done|with_reducible rfl)
      (try simp only[aH,ZA,ZB,ZC]);refine Zt 11 ⟨some 56,.load 3 (.tmp 55),3, "connect.go:22",#[⟨10,.data⟩],none⟩ ?_ rfl ?_ z ?_;rotate_left
      ·(intro W aa;go_simp;first|done|with_reducible rfl)
      (try simp only[aH,ZA,ZB,ZC]);refine Zt 12 ⟨some 57,.fieldAddr 68 (.tmp 5) 1,0, "connect.go:22",#[],none⟩ ?_ rfl ?_ z ?_;rotate_left
      ·(intro W aa;go_simp;first|done|with_reducible rfl)
      (try simp only[aH,ZA,ZB,ZC]);refine Zt 13 ⟨some 58,.load 3 (.tmp 57),3, "connect.go:22",#[⟨12,.data⟩],none⟩ ?_ rfl ?_ z ?_;rotate_left
      ·(intro W aa;go_simp;first|done|with_reducible rfl)
      (try simp only[aH,ZA,ZB,ZC]);refine bJ (rs:=[14]) (by kernel_rfl) (by simp) ?_;refine AllReadyH.cons (o:=⟨some 59,.call { callee:=Callee.value (.func 98),args:=#[.tmp 47,.tmp 52,.tmp 56,.tmp 58],argTypes:=#[29,52,3,3] },131, "connect.go:22",#[⟨2,.data⟩,⟨7,.data⟩,⟨11,.data⟩,⟨13,.data⟩],none⟩) rfl (λK hK=>?_) AllReadyH.nil;refine Vj (by kernel_rfl) 98 #[F oa ao oc,.agg #[E J t1,F ai ni ci,F kk am co],E J nm,E J h] (by kernel_rfl) (gh _ z.1 z.2.2.2.2.1 z.2.2.2.2.2.1) ?_;rintro e w6 ⟨kt,ee,cm,sa,ns,cs,rfl,fe,fy,fg,fz,cu⟩;refine⟨_,rfl,?_⟩;have gp:=Zb fe;have id:=Zb fy;have gu:=Zb fg;have ie:=Zb fz;have gy:=Zb (bv.later (Ze (Zh V4) cu));have eo:=Zb (Gr.on z.1 cu);have bu:=Zb (UsOk.later z.2.2.2.2.2.2.2 cu);obtain⟨zz,z6⟩:=bu.cell cw;have jn:=bu.free i;clear fe fy fg fz cu;refine hK.out _ _ (KS _ eo bu) (λay=>?_);clear hK K z;have z:=ay;clear ay;(try simp only[aH,ZA,ZB,ZC]);refine Zt 15 ⟨some 44,.move (.tmp 59),131, "connect.go:22",#[⟨14,.data⟩],none⟩ ?_ rfl ?_ z ?_;rotate_left
      ·(intro W aa;go_simp;first|done|with_reducible rfl)
      (try simp only[aH,ZA,ZB,ZC]);refine Zt 16 ⟨some 60,.extract (.tmp 44) 0,29, "connect.go:22",#[⟨15,.data⟩],none⟩ ?_ rfl ?_ z ?_;rotate_left
      ·(intro W aa;go_simp;first|done|with_reducible rfl)
      (try simp only[aH,ZA,ZB,ZC]);refine Zt 17 ⟨some 61,.extract (.tmp 44) 1,130, "connect.go:22",#[⟨15,.data⟩,⟨19,.gcOnly .lateStores⟩],none⟩ ?_ rfl ?_ z ?_;rotate_left
      ·(intro W aa;go_simp;first|done|with_reducible rfl)
      (try simp only[aH,ZA,ZB,ZC]);refine Zt 18 ⟨some 62,.extract (.tmp 44) 2,30, "connect.go:22",#[⟨15,.data⟩,⟨21,.gcOnly .lateStores⟩],none⟩ ?_ rfl ?_ z ?_;rotate_left
      ·(intro W aa;go_simp;first|done|with_reducible rfl)
      (try simp only[aH,ZA,ZB,ZC]);refine Zt 19 ⟨some 6,.assign (.tmp 60),29, "connect.go:22",#[⟨16,.data⟩,⟨14,.chain⟩,⟨0,.textOnly .lateStores⟩,⟨1,.textOnly .lateStores⟩,⟨2,.phase⟩,⟨3,.phase⟩,⟨4,.phase⟩,⟨5,.phase⟩,⟨6,.phase⟩,⟨7,.phase⟩,⟨8,.phase⟩,⟨9,.phase⟩,⟨10,.phase⟩,⟨11,.phase⟩,⟨12,.phase⟩,⟨13,.phase⟩,⟨14,.phase⟩,⟨15,.phase⟩,⟨16,.phase⟩,⟨17,.textOnly .lateStores⟩,⟨18,.textOnly .lateStores⟩],none⟩ ?_ rfl ?_ z ?_;rotate_left
      ·(intro W aa;go_simp;first|done|with_reducible rfl)
      (try simp only[aH,ZA,ZB,ZC]);refine Zt 20 ⟨some 63,.indexAddr 79 (.tmp 45) (.tmp 46),0, "connect.go:22",#[⟨0,.data⟩,⟨1,.data⟩,⟨0,.phase⟩,⟨1,.phase⟩,⟨2,.phase⟩,⟨3,.phase⟩,⟨4,.phase⟩,⟨5,.phase⟩,⟨6,.phase⟩,⟨7,.phase⟩,⟨8,.phase⟩,⟨9,.phase⟩,⟨10,.phase⟩,⟨11,.phase⟩,⟨12,.phase⟩,⟨13,.phase⟩,⟨14,.phase⟩,⟨15,.phase⟩,⟨16,.phase⟩,⟨17,.phase⟩,⟨18,.textOnly .lateStores⟩,⟨19,.phase⟩],none⟩ ?_ rfl ?_ z ?_;rotate_left
      ·(intro W aa;go_simp;first|done|with_reducible rfl)
      (try simp only[aH,ZA,ZB,ZC]);refine bJ (rs:=[21]) (by kernel_rfl) (by simp) ?_;refine AllReadyH.cons (o:=⟨none,.store 130 (.tmp 63) (.tmp 61),0, "connect.go:22",#[⟨20,.data⟩,⟨17,.data⟩,⟨19,.chain⟩,⟨0,.phase⟩,⟨1,.phase⟩,⟨2,.phase⟩,⟨3,.phase⟩,⟨4,.phase⟩,⟨5,.phase⟩,⟨6,.phase⟩,⟨7,.phase⟩,⟨8,.phase⟩,⟨9,.phase⟩,⟨10,.phase⟩,⟨11,.phase⟩,⟨12,.phase⟩,⟨13,.phase⟩,⟨14,.phase⟩,⟨15,.phase⟩,⟨16,.phase⟩,⟨17,.phase⟩,⟨18,.textOnly .lateStores⟩,⟨19,.phase⟩],none⟩) rfl (λK hK=>?_) AllReadyH.nil;go_simp;refine hK.out _ _ (KS _ (eo.one O.heap.size i (.inl rfl) _) (UsOk.put bu i _ _ _)) (λay=>?_);clear hK K z;have z:=ay;clear ay;(try simp only[aH,ZA,ZB,ZC]);refine Zt 22 ⟨some 8,.assign (.tmp 62),30, "connect.go:22",#[⟨18,.data⟩,⟨21,.chain⟩,⟨0,.phase⟩,⟨1,.phase⟩,⟨2,.phase⟩,⟨3,.phase⟩,⟨4,.phase⟩,⟨5,.phase⟩,⟨6,.phase⟩,⟨7,.phase⟩,⟨8,.phase⟩,⟨9,.phase⟩,⟨10,.phase⟩,⟨11,.phase⟩,⟨12,.phase⟩,⟨13,.phase⟩,⟨14,.phase⟩,⟨15,.phase⟩,⟨16,.phase⟩,⟨17,.phase⟩,⟨18,.phase⟩,⟨19,.phase⟩,⟨20,.phase⟩,⟨21,.phase⟩],none⟩ ?_ rfl ?_ z ?_;rotate_left
      ·(intro W aa;go_simp;first|done|with_reducible rfl)
      (try simp only[aH,ZA,ZB,ZC]);refine wpAnyH_done (by kernel_rfl) ?_ _
      all_goals
       have dv:=z.1;clear z;have er:=Zb (W7 gp bu ((Gr.refl w6 (λq=>q=O.heap.size)).one O.heap.size i (.inl rfl) (F sa ns cs)));have ep:=Zb (df.trans dv);have en:=Zb (ae.trans ((GW _ dv).mono ae.size));have ev:=Zb (gy.put i gu ie);obtain⟨Q,hQ⟩:=ZG (w6.setCell ⟨O.heap.size,i,none⟩ (F sa ns cs));rw[<-hQ] at er ep en ev ⊢;clear hQ dv z6 jn;by_cases kr:y=0
       ·subst kr;have R:Hid (W6 h r L N (m - (k+1)) (k+1) M (S.set i s)=(x,C',S')):=by have e:=Za bg;rw[if_neg (Za dh),if_neg (by simp)] at e;exact e
        have FB:Hid (∀ ks∈S.set i s,ks.length<=6/\∀ x∈ks,0<=cv x/\cv x<=1000000000):=λks hz=>by
         rcases List.mem_or_eq_of_mem_set hz with q|rfl
         ·exact es ks q
         ·exact Eb ek
        have FL:Hid ((S.set i s).length=m):=(by show _=_;rw[List.length_set];exact Za cf);go_wp2;go_roundw
        case rel=>exact⟨k+1,kt,ee,cm,M,S.set i s,by omega,rfl,rfl,rfl,by go_num,(⟨Za er,Za id⟩:CoinsAt Q kt ee M/\SlOk kt ee cm),ev,FL,FB,R,ep⟩
        case measure=>simp[intOf];omega
       ·have kw:(y != 0)=true:=(by simp[kr]);have R:Hid (((y:Int),([]:List Zf),([]:List (List Zf)))=(x,C',S')):=(by have e:=Za bg;rw[if_neg (Za dh),if_pos kr] at e;exact e);clear kr;go_wp2
        go_ret3
        exact Rx R en
    ·have eb:m - k=0:=(by omega);have R:Hid (((0:Int),C,S)=(x,C',S')):=(by have e:=Za HQ;rw[eb] at e;exact e);have dd:=Zb bc;clear bc bk;go_wp2
     go_ret3
     obtain⟨r1,r2⟩:=Prod.mk.inj R;obtain⟨r2,r3⟩:=Prod.mk.inj r2;subst r1 r2 r3;exact⟨oa,ao,oc,some ⟨O.heap.size,0,none⟩,m,m,rfl,HO.1,HO.2,by have:=HU.undos;rw[Za cf] at this;exact this,⟨aE _,by unfold maxLen;omega,λe=>by cases e⟩,Za dd,λad e=>by cases e;exact ae.size⟩
 ·rw[if_pos e1] at hx;have g1:(y1 != 0)=true:=by simp[e1]
  have R:=Zb hx;clear hE hK hC sC hL hx cq au bb cb e1;go_enter Tryz.func74,Tryz.ntmps74;go_wp2_with fail;rw[<-hX];clear hX;refine C1.mono ?_;rintro e O ⟨na,nn,nc,rfl,hN,cx,bi⟩;have dc:=Zb (Ze el bi);clear hN cx bi;go_wp2
  go_ret3
  exact Rx R dc
