import Derived.Test.YtbddijbmepdliaaGreatDoorH
import Derived.Test.YtbddijbmepdliaaGreatDoorG7
open Option renaming none->aD,some->dG
open Go.Proofs.Tryz
open Decidable renaming not_not->bD
open Go renaming lt_of_block->aA,wp_region_held_drew->bC,wpAnyH_done->bZ,bodyPost_ret->aL
open Go.Ending renaming returned->dB
open Go.IntKind renaming i64->J
open Go.Obj renaming cells->dA
open Go.Proofs.Tryz renaming prog->aB
open Go.Value renaming int->E,slice->F,tuple->dC,pointer->dE
open Go.World renaming cell?_of_block->bU,block_lt_of_cell?->aC
open List renaming length_take->aV,replicate->bP,getD_eq_getElem?_getD->cM,getElem?_eq_getElem->bR,take_of_length_le->aM,length_map->cO,length_eq_zero_iff->aJ,length_cons->cK,drop_eq_getElem_cons->aK,getElem_mem->aQ
open Nat renaming le_refl->aE,zero_le->aI,lt_of_lt_of_le->aF,le_trans->aO
open Prod.mk renaming inj->cA,injEq->aR
set_option maxHeartbeats 12800000
set_option maxRecDepth 10000
namespace Go.Proofs.YtbddijbmepdliaaGreatDoor
open Go.RowKit
theorem Zly{K C}{b:Zk}{N:List Int}(h:nfD K C b=(N,0)):Yu b=0/\N.length=b.2.2.2.2.length:=by
 unfold nfD at h;split at h
 ·next q=>simp at h;exact absurd h.2 q
 ·injection h with h1 h2;unfold Xk at h1 h2;split at h2
  ·next q=>exact absurd h2 q
  ·next q=>
   rw[if_neg q] at h1;split at h2
   ·next q=>exact absurd h2 q
   ·next q2=>
    rw[if_neg q2] at h1;obtain⟨M,N',x,e⟩:∃ M N' x,Bk.allR K (Yn b)=(M,N',x):=⟨_,_,_,rfl⟩;rw[e] at q2 h1;obtain rfl:x=0:=bD.1 q2;have:=Zbo e;simp only at h1;refine⟨bD.1 q,?_⟩;rw[<-h1,aV,this];simp[Yn]
theorem Tryz.infoUndo:(Tryz.prog.info? 123).map (λi=>(i.zero,i.size,i.bytes))=dG (dG (.agg #[F aD 0 0]),1,24):=by kernel_rfl
theorem Fa(m:Nat):(madeCells (Value.agg #[F aD 0 0]).cells (m*1)).toList=bP m (F aD 0 0):=by
 rw[Nat.mul_one];exact toList_madeCells_one _ _
theorem Zdg{p h k n:Int}{L}(e:Yu (p,h,k,n,L)=0):rwD h=((rwD h).1,0):=by
 unfold Yu at e;split at e
 ·cases e
 ·next q=>
  unfold rwD;simp[Xp] at q;rw[if_pos (by simp;omega)]
theorem Zdv(ka kn kc K la ln lc C0)(p h k0 n:Int)(a m c L)(x:Int)(C' S' w)(hE:Env w)(hK:Bk.TextsAt w ka kn K)(hC:CoinsAt w la ln C0)(sC:SlOk la ln lc)(hL:TxsAt w a m L)(hx:Xf K C0 (p,h,k0,n,L)=(x,C',S')) :
  Calls aB 84 #[.agg #[F ka kn kc],F la ln lc,.agg #[E J p,E J h,E J k0,E J n,F a m c]] w λe w'=>Zjb w w' x C' S' e:=by
 have⟨X,hX⟩:=ZG ((w.alloc (dA #[F ka kn kc] 24)).alloc (dA #[E J p,E J h,E J k0,E J n,F a m c] 33));have aw:ZD w X:=by rw[hX];exact Zf (Zh _ _) (Zh _ _)
 have cq:X.heap[w.heap.size]? = dG (dA [F ka kn kc].toArray 24 (0,0)):=by
  rw[hX,Below.heap_alloc _ _ _ (by simp)];exact Xj _ _ _
 have bu:X.heap[w.heap.size+1]? = dG (dA [E J p,E J h,E J k0,E J n,F a m c].toArray 33 (0,0)):=by
  rw[hX];have:=Zw (w.alloc (dA #[F ka kn kc] 24)) (E J p) (E J h) (E J k0) (E J n) (F a m c) 33;rw[show (w.alloc (dA #[F ka kn kc] 24)).heap.size=w.heap.size+1 by simp] at this;exact this
 obtain⟨N,y1,ca⟩:∃ N y1,nfD K C0 (p,h,k0,n,L)=(N,y1):=⟨_,_,rfl⟩;have C1:=Zb (Ew ka kn kc K la ln lc C0 p h k0 n a m c L N y1 X (hE.later aw) (hK.later aw) (hC.later aw) (hL.later aw) ca);unfold Xf at hx;rw[ca] at hx;simp only at hx;have iy:=Zd cq 0 _ rfl;obtain⟨dl,dm,dn,dp,dq,-⟩:=kc5 bu;have iz:=aA cq;have dr:=aA bu;have⟨ei,gv⟩:=kh2 aw bu;by_cases e1:y1=0
 ·subst e1;rw[if_neg (by simp)] at hx;have⟨dw,cp⟩:=Zly ca;have hz:L.length=m:=hL.1;have⟨f1,f2,f3,_,f5⟩:=Vi dw;simp only at f1 f2 f3 f5 cp hz;rw[hz] at cp hx;have dy:0<m:=by omega
  have fj:m<=4:=by omega
  obtain⟨tb,ad,rfl,iq,ff⟩:=hL.2 dy;have⟨r,hr⟩:=ZF ((rwD h).1);have eb:=Zdg dw;rw[hr] at hx eb;have eq:Hid (∀ W,ZD w W->∀ i (hi:i<L.length),TxAt W tb (ad+i*3) L[i]):=λW hb i hi=>TxAt.kept _ _ _ _ _ hb (ff i hi);have gp:Hid (∀ t∈L,t.2.2.length<=6/\∀ x∈t.2.2,0<=x.1/\x.1<=1000000000):=λt ht=>⟨(Xc (f5 t ht)).2.1,Jn (f5 t ht)⟩;have⟨HC,gn,HZ,gj,gl⟩:=kh5 hC sC hz cp eb;have HX:Hid (Ws h r L N m 0 C0 (bP m [])=(x,C',S')):=hx;clear hE hK hC sC hL hx cq bu aw ca dw cp hz f1 f2 f3 f5 ff hr eb iq;have⟨i0,ii,iv,iw,ix⟩:=info_parts Tryz.infoUndo;go_enter func84,ntmps84;go_wp2_with fail;rw[<-hX];clear hX;refine C1.mono ?_;rintro e w1 ⟨na,nn,nc,rfl,hN,cx,bd⟩;have⟨HN,ji⟩:=kh2 hN cx;have h21:=ZE bd gv;have et:=Zb h21;obtain⟨-,-,-,-,ib,ic⟩:=kc5 h21;have af:=Zb (Zf ei bd);have ju:w.heap.size+2<=w1.heap.size:=by have:=aA h21;omega
  clear hN cx bd h21 iy dl dm dn dp dq iz dr;go_wp2_with fail;have eu:Hid (∀ W,ZD w1 W->ZD w1 W/\W.cell? ⟨w.heap.size+1,4,aD⟩=dG (F (dG ⟨tb,ad,aD⟩) m c)):=λW hb=>⟨hb,Zd (ZE hb et) 4 _ rfl⟩;refine bC (S:=λW=>ZD w1 W/\W.cell? ⟨w.heap.size+1,4,aD⟩=dG (F (dG ⟨tb,ad,aD⟩) m c)) (by kernel_rfl) (eu _ (Zj _)) (λaa=>?_);refine tkL 0 rfl aa ?_;refine tkL 1 rfl aa ?_;refine tkL 2 rfl aa ?_;refine tkL 3 rfl aa ?_;refine tkL 5 rfl aa ?_;refine rdY 4 rfl (λK hK=>?_);refine Zgj (by kernel_rfl) _ _ _ (by rfl) w1.heap.size 123 i0 (.agg #[F aD 0 0]) 1 underlying111 ii iv iw .i64 .i64 _ _ m (by rfl) (by rfl) (by rfl) (by rfl) (by rw[ix];omega) (by unfold maxLen;omega) (aE _) w1.heap.size (by rfl) ?_;intro w2 fl fg;have ct:ZD w1 w2:=Zf (Zj w1) ((Below.refl _ _).grown fg (aE _) (λk h=>by cases h));clear aa;refine hK.out _ _ (eu _ ct) (λaa=>?_);clear hK K;refine tkL 6 rfl aa ?_;refine bZ (by kernel_rfl) ?_ _;have fd:UsAt 123 w1.heap.size (bP m []) w2:=Zji (base:=w1.heap.size) (by rw[<-Fa];exact fl);have⟨er,gg⟩:=kh2 fd ct;have h22:=ZE ct et;have gw:=Zb h22;obtain⟨-,-,-,-,id,ie⟩:=kc5 h22;have C2:=Zb (Zjn m w2 dy fj);clear fd ct h22 fl fg ib ic aa;go_wp2_with fail;refine C2.mono ?_;rintro e w3 ⟨rfl,dx⟩;have HF:=Zb dx;have be:=dx.bel;have⟨jh,gq⟩:=kh2 be (er.later be);have jp:=er.ok.lt
  have GB:Hid (∀ W,Gr w3 W (λq=>q=w1.heap.size)->ZD w1 W):=λW g=>g.below (Zf gg be) (by have:=be.size;omega) (λq e=>by rw[e];exact aE _);have gx:=Zb (ZE be gw);clear dx be id ie;go_wp2
  go_loopw [6,7,8,32] (λov uv kf i wr=>∃ (k:Nat) (oa:Option Addr) (al oc:Nat) (C:List Zi) (S:List (List Zi)),k<=m/\ov = F oa al oc/\uv = F (dG ⟨w1.heap.size,0,aD⟩) m m/\kf = E J 0/\i = E J k/\Hid (CoinsAt wr oa al C/\SlOk oa al oc)/\Hid (UsAt 123 w1.heap.size S wr)/\Hid (S.length=m)/\Hid (∀ s∈S,s.length<=6/\∀ x∈s,0<=cv x/\cv x<=1000000000)/\Hid (Ws h r L N (m - k) k C S=(x,C',S'))/\Hid (Gr w3 wr (λq=>q=w1.heap.size))) (λ_ _ _ i _=>m - (intOf i).toNat)
  case atStart=>exact⟨0,la,ln,lc,C0,bP m [],aI _,rfl,rfl,rfl,rfl,(⟨HC.later (af.trans ((Za GB w3 (Gr.refl _ _)).mono af.size)),Za gn⟩:CoinsAt w3 la ln C0/\SlOk la ln lc),gq,(List.length_replicate:(bP m ([]:List Zi)).length=m),(λs hs=>by rw[(List.mem_replicate.1 hs).2];exact⟨by simp,λx hx=>by cases hx⟩:∀ s∈bP m ([]:List Zi),s.length<=6/\∀ x∈s,0<=cv x/\cv x<=1000000000),HX,(Gr.refl _ _:Gr w3 w3 (λq=>q=w1.heap.size))⟩
  case round=>
    obtain⟨k,oa,al,oc,C,S,hk,rfl,rfl,rfl,rfl,HO,HU,ce,ep,HQ,HG⟩:=hrel;have bf:=GB wr HG;have ax:=af.trans (bf.mono af.size);by_cases im:k<m
    ·have cw:(k+1) % m<m:=Nat.mod_lt _ dy;have fz:=(bU (a:=⟨w2.heap.size,k,aD⟩) (HG.block w2.heap.size HF.lt (by omega))).trans (HF.cells (aE _) k im);have kb:w2.heap.size<wr.heap.size:=aF HF.lt HG.size;unfold Bs at fz;have⟨i,hi⟩:=ZF ((k+1) % m);rw[hi] at cw fz;have dz:m - k=(m - (k+1))+1:=(by omega);have fh:i<L.length:=(by rw[Za HZ];exact cw);obtain⟨t1,I,O,ht⟩:∃ t1 I O,L[i]=(t1,I,O):=⟨_,_,_,rfl⟩;have⟨nm,ea⟩:=ZF (N.getD i 0);obtain⟨y,M,s,du⟩:∃ y M s,apD C (t1,I,O) nm h=(y,M,s):=⟨_,_,_,rfl⟩;have az:=Za HQ;rw[dz,M5 (i:=i) (by rw[Za HZ];exact hi) (t:=(t1,I,O)) (by rw[cM,bR fh];exact ht) ea du,Za HZ] at az;have az:=Zb az;have fi:i<N.length:=(by rw[Za gj];exact cw);have fk:N[i]=nm:=(by rw[<-ea,cM,bR fi];rfl);obtain⟨nb,no,rfl,fe⟩:=HN.2 (by have:=HN.1;omega);have eh:=Zb du;have jt:(k:Int)<(m:Int):=(by omega);have jq:(i:Int)<(m:Int):=(by omega);have jv:N.length=nn:=HN.1;have jr:(i:Int)<(nn:Int):=(by omega);have ev:Hid (∀ W,ZD w1 W->W.cell? ⟨nb,no+i,aD⟩=dG (E J nm)):=λW hb=>by rw[<-fk];exact Ze hb (fe i fi)
     have di:Hid (∀ W,ZD w W->TxAt W tb (ad+i*3) (t1,I,O)):=λW hb=>by rw[<-ht];exact eq W hb i fh
     have da:Hid (∀ W,ZD w1 W->W.heap[w.heap.size+1]? = w1.heap[w.heap.size+1]?):=λW hb=>hb.block _ (by omega);have ef:Hid (w1.heap[w.heap.size+1]? = dG (dA [E J p,E J h,E J k0,E J n,F (dG ⟨tb,ad,aD⟩) m c].toArray 33 (0,0))):=(da w3 (GB w3 (Gr.refl _ _))).symm.trans gx;clear fe ea fk ht du;by_cases bw:i=0
     focus
      have kg:((i:Int) == 0)=true:=(by simp[bw]);have⟨o,ho⟩:=ZF (decide (0<=Y8 r L S m));have CV:=Zb (Zdu p h k0 n tb ad m c L w1.heap.size 0 m m S r o wr HZ fj (eq wr ax) ce rfl (λi hi=>HU.undo i hi) gp ep gl ho);have bv:=(da wr bf).trans ef;have⟨dl,dm,dn,dp,dq,dr⟩:=kc5 bv;clear bv;cases o
      case false=>
       have R:Hid (((9:Int),([]:List Zi),([]:List (List Zi)))=(x,C',S')):=(by have e:=Za az;rw[if_pos ⟨bw,by have:=of_decide_eq_false ho;omega⟩] at e;exact e);have dc:=Zb ax;clear ax bf ho bw;go_wp2_with fail;refine CV.mono ?_;rintro e w4 ⟨rfl,av⟩;have db:=Zb (Zf dc av);clear av;go_wp2
       go_ret3
       exact Ry R db
      have bx:¬(i=0/\Y8 r L S m<0):=λq=>by have:=of_decide_eq_true ho;omega
      have dg:=Zb bx;clear ho bx ax bf bw;go_wp2_with fail;refine CV.mono ?_;rintro e V4 ⟨rfl,av⟩;have dh:=Zb (⟨HO.1.later av,HO.2⟩:CoinsAt V4 oa al C/\SlOk oa al oc);have⟨br,de⟩:=kh2 (HU.later av) (Gr.on HG av);clear av dl dm dn dp dq dr
     rotate_left
     focus
      have bx:¬(i=0/\Y8 r L S m<0):=λq=>bw q.1;have⟨V4,ik⟩:=ZG (wr);subst ik;have dg:=Zb bx;have kg:((i:Int) == 0)=false:=(by simp;omega);have dh:=HO;have br:=HU;have de:=HG;clear bx ax bf
     all_goals
      have GW:Hid (∀ V,Gr V4 V (λq=>q=w1.heap.size)->ZD w1 V):=λV g=>GB V (de.trans g)
      have AP:=Zb (λV (g:Gr V4 V (λq=>q=w1.heap.size))=>(by
        have⟨_,⟨ai,ni,ci,g1,hI,sI⟩,ao,aj,co,g2,hO,sO⟩:=di V (af.trans ((GW V g).mono af.size));exact⟨ai,ni,ci,ao,aj,co,g1,g2,Zob oa al oc C t1 ai ao ni ci aj co I O nm h y M s V (Uo dh.1 br.ok g) dh.2 hI hO sI eh⟩ :
        ∃ ai ni ci ao aj co,V.cell? ⟨tb,ad+i*3+1,aD⟩=dG (F ai ni ci)/\V.cell? ⟨tb,ad+i*3+2,aD⟩=dG (F ao aj co)/\Calls aB 123 #[F oa al oc,.agg #[E J t1,F ai ni ci,F ao aj co],E J nm,E J h] V λe w'=>ApR V w' y M s e))
      have⟨ai,ni,ci,ao,aj,co,fx,fy,_⟩:=AP V4 (Gr.refl _ _)
      have gb:=Zb (λV (g:Gr V4 V (λq=>q=w1.heap.size)) (g1:V.cell? ⟨tb,ad+i*3+1,aD⟩=dG (F ai ni ci)) (g2:V.cell? ⟨tb,ad+i*3+2,aD⟩=dG (F ao aj co))=>(by
        have⟨jk,jw,jm,jl,jy,jn,q1,q2,q⟩:=AP V g;rw[g1] at q1;rw[g2] at q2;cases q1;cases q2;exact q :
        Calls aB 123 #[F oa al oc,.agg #[E J t1,F ai ni ci,F ao aj co],E J nm,E J h] V λe w'=>ApR V w' y M s e))
      have KS:Hid (∀ V,Gr V4 V (λq=>q=w1.heap.size)->UsOk 123 w1.heap.size m V->Gr V4 V (λq=>q=w1.heap.size)/\V.cell? ⟨w.heap.size+1,1,aD⟩=dG (E J h)/\V.cell? ⟨w.heap.size+1,4,aD⟩=dG (F (dG ⟨tb,ad,aD⟩) m c)/\V.cell? ⟨tb,ad+i*3,aD⟩=dG (E J t1)/\V.cell? ⟨tb,ad+i*3+1,aD⟩=dG (F ai ni ci)/\V.cell? ⟨tb,ad+i*3+2,aD⟩=dG (F ao aj co)/\V.cell? ⟨nb,no+i,aD⟩=dG (E J nm)/\UsOk 123 w1.heap.size m V):=λV g o=>by
       have dv:=GW V g;have bv:=(da V dv).trans ef;have ir:=di V (af.trans (dv.mono af.size));have il:=GW V4 (Gr.refl _ _);have fo:=di V4 (af.trans (il.mono af.size));have io:=br.ok.other fo.1;have kq:=λ(j:Nat)=>bU (a:=⟨tb,j,aD⟩) (g.block tb (aC _ _ fo.1) io);exact⟨g,Zd bv 1 _ rfl,Zd bv 4 _ rfl,ir.1,(kq _).trans fx,(kq _).trans fy,ev V dv,o⟩
      have U0:Hid (UsOk 123 w1.heap.size m V4):=(by have:=br.ok;rw[Za ce] at this;exact this);have jx:nb<V4.heap.size:=aC _ _ (ev V4 (GW V4 (Gr.refl _ _)));clear fx fy AP;go_wp2_with fail;refine bC (S:=λV=>Gr V4 V (λq=>q=w1.heap.size)/\V.cell? ⟨w.heap.size+1,1,aD⟩=dG (E J h)/\V.cell? ⟨w.heap.size+1,4,aD⟩=dG (F (dG ⟨tb,ad,aD⟩) m c)/\V.cell? ⟨tb,ad+i*3,aD⟩=dG (E J t1)/\V.cell? ⟨tb,ad+i*3+1,aD⟩=dG (F ai ni ci)/\V.cell? ⟨tb,ad+i*3+2,aD⟩=dG (F ao aj co)/\V.cell? ⟨nb,no+i,aD⟩=dG (E J nm)/\UsOk 123 w1.heap.size m V) (by kernel_rfl) (KS _ (Gr.refl _ _).draw (U0.later (Zj _))) (λaa=>?_);refine tkL 0 rfl aa ?_;refine tkL 1 rfl aa ?_;refine tkL 2 rfl aa ?_;refine tkL 3 rfl aa ?_;refine tkL 4 rfl aa ?_;refine tkL 5 rfl aa ?_;refine tkL 6 rfl aa ?_;refine tkL 7 rfl aa ?_;refine tkL 8 rfl aa ?_;refine tkL 9 rfl aa ?_;refine tkL 10 rfl aa ?_;refine tkL 11 rfl aa ?_;refine tkL 12 rfl aa ?_;refine tkL 13 rfl aa ?_;refine rdY 14 rfl (λK hK=>?_);refine Jg (by kernel_rfl) 123 #[F oa al oc,.agg #[E J t1,F ai ni ci,F ao aj co],E J nm,E J h] (by kernel_rfl) (gb _ aa.1 aa.2.2.2.2.1 aa.2.2.2.2.2.1) ?_;rintro e w6 ⟨am,ec,cm,sa,ns,cs,rfl,fa,fu,fc,fv,cu⟩;refine⟨_,rfl,?_⟩;have⟨gi,gy,gm,gz,gs,ek,bq⟩:=kh7 fa fu fc fv (br.later (Zf (Zj V4) cu)) (Gr.on aa.1 cu) (UsOk.later aa.2.2.2.2.2.2.2 cu);have⟨zz,z6⟩:=bq.cell cw;have jg:=bq.free i;clear fa fu fc fv cu
      clear aa;refine hK.out _ _ (KS _ ek bq) (λaa=>?_);clear hK K;refine tkL 15 rfl aa ?_;refine tkL 16 rfl aa ?_;refine tkL 17 rfl aa ?_;refine tkL 18 rfl aa ?_;refine tkL 19 rfl aa ?_;refine tkL 20 rfl aa ?_;refine rdY 21 rfl (λK hK=>?_);go_simp;clear aa;refine hK.out _ _ (KS _ (ek.one w1.heap.size i (.inl rfl) _) (UsOk.put bq i _ _ _)) (λaa=>?_);clear hK K;refine tkL 22 rfl aa ?_;refine bZ (by kernel_rfl) ?_ _
      all_goals
       have dt:=aa.1;clear aa;have⟨eo,el,ej,es⟩:=kh4 (Uo gi bq ((Gr.refl w6 (λq=>q=w1.heap.size)).one w1.heap.size i (.inl rfl) (F sa ns cs))) (de.trans dt) (af.trans ((GW _ dt).mono af.size)) (gs.put i gm gz);have⟨Q,hQ⟩:=ZG (w6.setCell ⟨w1.heap.size,i,aD⟩ (F sa ns cs));rw[<-hQ] at eo el ej es ⊢;clear hQ dt z6 jg;by_cases ey:y=0
       ·subst ey;have R:Hid (Ws h r L N (m - (k+1)) (k+1) M (S.set i s)=(x,C',S')):=by have e:=Za az;rw[if_neg dg,if_neg (by simp)] at e;exact e
        have FB:Hid (∀ z∈S.set i s,z.length<=6/\∀ x∈z,0<=cv x/\cv x<=1000000000):=λz hz=>by
         rcases List.mem_or_eq_of_mem_set hz with q|rfl
         ·exact ep z q
         ·exact Bj eh
        have FL:Hid ((S.set i s).length=m):=(by show _=_;rw[List.length_set];exact Za ce);go_wp2;go_roundw
        case rel=>exact⟨k+1,am,ec,cm,M,S.set i s,by omega,rfl,rfl,rfl,by go_num,(⟨Za eo,Za gy⟩:CoinsAt Q am ec M/\SlOk am ec cm),es,FL,FB,R,el⟩
        case measure=>simp[intOf];omega
       ·have ki:(y != 0)=true:=(by simp[ey]);have R:Hid (((y:Int),([]:List Zi),([]:List (List Zi)))=(x,C',S')):=(by have e:=Za az;rw[if_neg dg,if_pos ey] at e;exact e);clear ey;go_wp2
        go_ret3
        exact Ry R ej
    ·have dz:m - k=0:=(by omega);have R:Hid (((0:Int),C,S)=(x,C',S')):=(by have e:=Za HQ;rw[dz] at e;exact e);have dc:=Zb ax;clear ax bf;go_wp2
     go_ret3
     have⟨r1,r2⟩:=cA R;have⟨r2,r3⟩:=cA r2;subst r1 r2 r3;exact⟨oa,al,oc,dG ⟨w1.heap.size,0,aD⟩,m,m,rfl,HO.1,HO.2,by have:=HU.undos;rw[Za ce] at this;exact this,⟨aE _,by unfold maxLen;omega,λe=>by cases e⟩,Za dc,λkh e=>by cases e;exact af.size⟩
 ·rw[if_pos e1] at hx;have g1:(y1 != 0)=true:=by simp[e1]
  have R:=Zb hx;clear hE hK hC sC hL hx cq bu aw ca e1;go_enter func84,ntmps84;go_wp2_with fail;rw[<-hX];clear hX;refine C1.mono ?_;rintro e w1 ⟨na,nn,nc,rfl,hN,cx,bd⟩;have db:=Zb (Zf ei bd);clear hN cx bd;go_wp2
  go_ret3
  exact Ry R db
def AccR(w w':World)(x:Int)(K:List ByteArray)(L:List TxD)(e:Ending):Prop:=
 ∃ ka kn kc sa sn sc,e = dB (dC #[.agg #[F ka kn kc],F sa sn sc,E J x])/\Fresh w.heap.size w' (λw2=>Bk.TextsAt w2 ka kn K/\TxsAt w2 sa sn L)/\SlOk ka kn kc/\SlOk sa sn sc/\ZD w w'
theorem AccR.err{w w':World}{x y:Int}{K L}{b:Nat}{v}(h:(x,K,L)=(y,[],[]))(hb:ZD w w')(hB:w.heap.size<=b):AccR w (w'.setCell ⟨b,0,aD⟩ v) x K L (dB (dC #[.agg #[F aD 0 0],F aD 0 0,E J y])):=by
 simp only[aR] at h;obtain⟨rfl,rfl,rfl⟩:=h;exact⟨_,_,_,_,_,_,rfl,λ_ _=>⟨Bk.TextsAt.nil _ _,RowsAt.nil _ _⟩,Z5,Z5,hb.setCell (p:=⟨b,0,aD⟩) hB _⟩
theorem A8(a)(n c:Nat)(l)(w:World)(hn:n<=8796093022208)(h:OpsAt w a n l)(hs:SlOk a n c) :
  Calls aB 186 #[F a n c] w λe w'=>∃ a' c',e = dB (F a' n c')/\Fresh w.heap.size w' (λw2=>OpsAt w2 a' n l)/\SlOk a' n c'/\ZD w w':=
 (Tr.cloneOp_any a n c l w hn h hs).mono λ_ _ ⟨a',c',e,f,b⟩=>⟨a',c',e,λw2 g=>(f w2 g).1,(f _ (Gr.refl _ _)).2,b⟩
theorem Zpp(h v:Int)(a)(n c:Nat)(l)(w:World)(hn:n<=8796093022208)(hl:OpsAt w a n l)(hs:SlOk a n c) :
  Calls aB 141 #[E J h,E J v,F a n c] w λe w'=>∃ ao,e = dB (.agg #[E J h,F aD 0 0,F ao 1 1])/\Fresh w.heap.size w' (λw2=>Tr.txR.C w2 [E J h,F aD 0 0,F ao 1 1] (Ly h v l))/\ZD w w':=by
 have⟨X,hX,ag,ap⟩:=ka00 w [E J 0,F aD 0 0,F aD 0 0] 50;have aq:X.heap.size=w.heap.size+1:=by rw[hX];simp
 have⟨C1,ak,al,ad⟩:=kh4 (A8 a n c l X hn (hl.later ag) hs) ag ap aq;go_enter func141,ntmps141;go_wp2_with fail;rw[<-hX];(try go_wp2_with fail);refine C1.mono ?_;rintro e w1 ⟨a1,c1,rfl,hF,av,af⟩;have h1:=ZE af al;have⟨t0,t1,t2,f0,f1,f2,tl⟩:=kf3 h1;have ab:=Zb (Zf ak af)
 have aj:Hid (∀ W,Gr w1 W (λq=>q=w.heap.size)->W.heap[w1.heap.size]? = dG (dA [E J v,F a1 n c1].toArray 92 (0,0))->Fresh w.heap.size W (λw2=>Tr.txR.C w2 [E J h,F aD 0 0,F (dG ⟨w1.heap.size,0,aD⟩) 1 1] (Ly h v l))/\ZD w W):=λW g h2=>by
  refine⟨λw2 g2=>?_,g.below ab ab.size (λq e=>by rw[e];exact aE _)⟩;have gg:Gr w1 w2 (λq=>q<X.heap.size):=(g.mono (λq _ e=>by have:=Za ad;rw[e];omega)).trans (g2.mono (λq _ e=>by have:=Za ad;omega));have h3:=g2.heap h2 (by have:=ab.size;omega);refine⟨aD,0,0,dG ⟨w1.heap.size,0,aD⟩,1,1,rfl,RowsAt.nil _ _,Z5,⟨rfl,λ_=>⟨w1.heap.size,0,rfl,aA h3,λi hi=>?_⟩⟩,⟨aE _,by decide,λe=>by cases e⟩⟩;have ei:i=0:=by simp[Ly] at hi;omega
  subst ei;exact⟨Zd h3 0 _ rfl,a1,n,c1,Zd h3 1 _ rfl,hF w2 gg,av⟩
 go_wp2;refine aL (v:=.agg #[E J h,F aD 0 0,F (dG ⟨w1.heap.size,0,aD⟩) 1 1]) ?_ rfl ?_
 ·rw[Yb rfl];go_simp
 ·refine⟨_,rfl,aj _ ?_ ?_⟩
  ·exact ((((Gr.refl w1 (λq=>q=w.heap.size)).one w.heap.size 0 (.inl rfl) _).one w.heap.size 1 (.inl rfl) _).one w.heap.size 2 (.inl rfl) _).new _
  ·have:=heap_alloc_new (((w1.setCell ⟨w.heap.size,0,aD⟩ (E J h)).setCell ⟨w.heap.size,1,aD⟩ (F aD 0 0)).setCell ⟨w.heap.size,2,aD⟩ (F (dG ⟨w1.heap.size,0,aD⟩) 1 1)) (dA #[E J v,F a1 n c1] 92);simpa[World.setCell] using this
theorem P5{P:Program}{w:World}{ops}{o:Oper}{a:Act}{K:Act->World->Prop}{Q:Exit->Act->World->Prop}{aa:Prop}(ab:o.guard=aD)(s x:Operand)(t:TypeId)
  (ho:o.op = .call { callee:=.builtin .append,args:=#[s,x],argTypes:=#[t,t] })
  (base:Nat) (e:TypeId) (i:TypeInfo) (size:Nat) (ht:P.underlying t=dG (.slice e)) (hi:P.info? e=dG i)
  (v) (n:Nat) (xs) (hs:a.eval s=v) (ad:w.ownsRow base e size v n xs) (hx:a.eval x = F aD 0 0)
  (h:K (a.put o.dst v) w):if Region.wanted o (yielded ops a.tmps)=true then Oper.wp P o a w K Q else aa:=by
 rw[if_pos (by simp[Region.wanted,ab])];have ae:=run_append_owned_none (P:=P) (w:=w) base t o.type e i size ht hi v n xs ad;unfold Oper.wp;simp[execOp,ho,resolve,invoke,builtin,hs,hx,ae,Result.andThen];exact h
theorem Gr.five{w w1:World}{S:Nat->Prop}(h:Gr w w1 S)(b:Nat)(hb:S b\/w.heap.size<=b)(a0 a1 a2 a3 a4):Gr w (((((w1.setCell ⟨b,0,aD⟩ a0).setCell ⟨b,1,aD⟩ a1).setCell ⟨b,2,aD⟩ a2).setCell ⟨b,3,aD⟩ a3).setCell ⟨b,4,aD⟩ a4) S:=
 ((((h.one b 0 hb a0).one b 1 hb a1).one b 2 hb a2).one b 3 hb a3).one b 4 hb a4
def MkI(b b2 lo hi N0:Nat)(C0:List Zi)(p:Nat)(D:Nat->Prop)(w:World)(X:List (TxD×List Zi)):Prop:=
 ∃ va vc K,PSt b p w (.slice va ((X.take 3).map (·.1)).length vc) K ((X.take 3).map (·.1))/\FeI w b2 (Zm C0 - Zm (Wc C0 (X.take 3)))/\N0<=p/\D=DV lo hi (.slice va ((X.take 3).map (·.1)).length vc)/\0<=Zm C0 - Zm (Wc C0 (X.take 3))/\((X=[]/\va=aD/\vc=0)\/(X≠[]/\Zm C0<=1000000000/\Zy (Wc C0 (X.take 3))))
theorem Zsu(b b2 lo hi:Nat)(w0:World)(C0)(hb:w0.heap[b]? = dG (dA #[F aD 0 0] 29 (0,0)))(av:FeI w0 b2 0)(h1:lo<=b/\b<hi)(h2:lo<=b2/\b2<hi)(az:b≠b2)(ay:hi<=w0.heap.size) :
  Ztk 139 #[dE (dG ⟨b,0,aD⟩),dE (dG ⟨b2,0,aD⟩)] w0 C0 (D0 lo hi) (MkI b b2 lo hi w0.heap.size C0) where
 enters:=enters_of (fn:=Tryz.f139) (by kernel_rfl) (by kernel_rfl) rfl
 start p w hw hp pl:=⟨aD,0,[],PSt.start ((hw.block b (by omega)).trans hb) (by omega) pl,by
  have:Zm C0 - Zm (Wc C0 (List.take 3 []))=0:=by rw[List.take_nil,Vy];omega
  unfold FeI;rw[this];exact (hw.block b2 (by omega)).trans av,hp,rfl,by rw[List.take_nil,Vy];omega,.inl ⟨rfl,rfl,rfl⟩⟩
 dirty p D w X:=by
  rintro ⟨va,vc,K,h,_,hp,rfl,_⟩ q hq;exact DV.dirty h ay hp q hq
 on p D w w' X:=by
  rintro ⟨va,vc,K,h,hf,hp,hD,r⟩ g;exact⟨va,vc,K,h.on g (λq e=>by subst e;exact⟨aE _,by omega⟩),(g.block b2 (aA hf) (λe=>by have e:b2=p:=e;omega)).trans hf,hp,hD,r⟩
 call p D wA w X t C' u0 u1 u2:=by
  rintro ⟨va,vc,K,h,hf,hp,rfl,h0,hr⟩ aj hF r1 r2 r3 hl;by_cases h3:X.length<3
  ·have et:X.take 3=X:=aM (by omega);have ab:(X++[(t,C')]).take 3=X++[(t,C')]:=aM (by rw[List.length_append];simp;omega);rw[et] at h hf h0 hr ⊢
   have hs:Zm C0<=1000000000:=by
    rcases hr with ⟨rfl,_⟩|hr
    ·rw[Vy] at r1;exact r1.sum
    ·exact hr.2.1
   have n1:=K9 r1;have n2:=K9 r2;have n3:=r1.sum;refine (Zme b b2 p va vc K (X.map (·.1)) _ u0 u1 u2 t wA w h _ hf az (by omega) h0 (by omega) (by omega) (by omega) aj hF (by rw[cO];exact h3)).mono ?_;rintro e w' ⟨rfl,⟨v',K',hS,aw⟩,hg⟩;obtain⟨a,c,rfl,_,_⟩:=hS.txs;have e1:(X++[(t,C')]).map (·.1)=X.map (·.1)++[t]:=(by simp);refine⟨rfl,hg.mono (λq _ e=>?_),DV lo hi (.slice a (((X++[(t,C')]).take 3).map (·.1)).length c),a,c,K',?_,?_,hp,rfl,?_,.inr ⟨by simp,hs,?_⟩⟩
   ·rcases e with (e|e)|e
    ·subst e;exact .inl h1
    ·subst e;exact .inl h2
    ·exact .inr e
   ·rw[ab,e1];exact hS
   ·rw[ab,Vc];have:Zm C0 - Zm (Wc C0 X)+(Zm (Wc C0 X) - Zm C')=Zm C0 - Zm C':=(by omega);rw[<-this];exact aw
   ·rw[ab,Vc];omega
   ·rw[ab,Vc];exact r2
  ·have ab:(X++[(t,C')]).take 3=X.take 3:=List.take_append_of_le_length (by omega);refine (Zcz b b2 p va vc K ((X.take 3).map (·.1)) _ u0 u1 u2 t wA w h aj hF (by rw[cO,aV];omega)).mono ?_;rintro e w' ⟨rfl,al⟩;have am:=Zf aj al;refine⟨rfl,Gr.of al,DV lo hi (.slice va ((X.take 3).map (·.1)).length vc),va,vc,K,?_,?_,hp,?_,?_,.inr ?_⟩
   ·rw[ab];exact h.on (Gr.of (S:=λ_=>False) am) (λ_ q=>q.elim)
   ·rw[ab];exact (am.block b2 (aA hf)).trans hf
   ·rw[ab]
   ·rw[ab];exact h0
   ·rw[ab]
    rcases hr with ⟨rfl,_⟩|hr
    ·exact absurd h3 (by simp)
    ·exact⟨by simp,hr.2⟩
def Rk(b:Zk)(a:Option Addr)(n c:Nat):Value:=.agg #[E J b.1,E J b.2.1,E J b.2.2.1,E J b.2.2.2.1,F a n c]
def MkR(w w':World)(x:Int)(b:Zk)(e:Ending):Prop:=
 ∃ a n c,e = dB (dC #[Rk b a n c,E J x])/\Fresh w.heap.size w' (λw2=>TxsAt w2 a n b.2.2.2.2)/\SlOk a n c/\ZD w w'
theorem MkR.err{w w1 w':World}{x y:Int}{b:Zk}{B:Nat}(h:(x,b)=(y,Y6))(hb:ZD w w1)(hg:Gr w1 w' (λq=>q=B))(hB:w.heap.size<=B):MkR w w' x b (dB (dC #[.agg #[E J 0,E J 0,E J 0,E J 0,F aD 0 0],E J y])):=by
 simp only[aR] at h;obtain⟨rfl,rfl⟩:=h;exact⟨aD,0,0,rfl,λ_ _=>RowsAt.nil _ _,Z5,hg.below hb hb.size (λq e=>by rw[e];exact hB)⟩
def Zrs(w1 wx:World)(B P:Nat)(p h wk nc:Int)(T:List TxD):Prop:=
 ∃ g n c,wx.heap[B]? = dG (dA [E J p,E J h,E J wk,E J nc,F g n c].toArray 33 (0,0))/\(∀ W2,Gr wx W2 (λq=>q<=P)->TxsAt W2 g n T)/\SlOk g n c/\Gr w1 wx (λq=>q=B)
theorem Zaq{w1 W6:World}{B P:Nat}{p h wk nc:Int}{T:List TxD}{g:Nat}{n c base:Nat}{K:List (List Value)}(hn:T.length=n)(aj:W6.heap[B]? = dG (dA [E J p,E J h,E J wk,E J nc,F aD 0 0].toArray 33 (0,0)))(ad:W6.ownsRow base 50 3 (F (dG ⟨g,0,aD⟩) n c) n K.flatten)(an:P<base)(hB:B<=P)
  (hk:∀ W2,Gr W6 W2 (λq=>q<=P)->Tr.AllC Tr.txR W2 K T) (hg:Gr w1 W6 (λq=>q=B)):Zrs w1 (W6.setCell ⟨B,4,aD⟩ (F (dG ⟨g,0,aD⟩) n c)) B P p h wk nc T:=by
 have g1:Gr W6 (W6.setCell ⟨B,4,aD⟩ (F (dG ⟨g,0,aD⟩) n c)) (λq=>q=B):=(Gr.refl W6 (λq=>q=B)).one B 4 (.inl rfl) _
 have rd:∀ W2,Gr W6 W2 (λq=>q<=P)->TxsAt W2 (dG ⟨g,0,aD⟩) n T/\SlOk (dG ⟨g,0,aD⟩) n c:=λW2 g2=>by
  have o:=g2.own ad (λk hk e=>by have:=(ad.lt k hk).1;omega);have⟨a',c',e,h1,h2⟩:=Tr.rows_of_own Tr.txR o (hk W2 g2) hn;injection e with e1 _ e3;subst e1 e3;exact⟨h1,h2⟩
 exact⟨dG ⟨g,0,aD⟩,n,c,Tr.set_cells aj 4 _,λW2 g2=>(rd W2 ((g1.mono (λq _ e=>by have e:q=B:=e;omega)).trans g2)).1,(rd W6 (Gr.refl _ _)).2,hg.trans g1⟩
theorem Zln(ka kn kc K la ln lc C a m c L)(pr ht wk nc:Int)(ta tn tc lk)(h x:Int)(bb:Zk)(w)
  (hE:Env w) (hK:Bk.TextsAt w ka kn K) (hC:CoinsAt w la ln C) (sC:SlOk la ln lc) (hL:TxsAt w a m L) (hT:OpsAt w ta tn lk) (sT:SlOk ta tn tc) (hn:tn<=8796093022208) (hh:IntKind.i64.wrap (ht+1)=h) (hx:mkE K C L pr h wk nc lk=(x,bb)) :
  Calls aB 103 #[.agg #[F ka kn kc],F la ln lc,F a m c,E J pr,E J ht,E J wk,E J nc,F ta tn tc] w λe w'=>MkR w w' x bb e:=by
 have⟨i0,hi,gq,gs,gu⟩:=info_parts Tryz.infoTx9;have⟨X,hX⟩:=ZG (Wd w [dA #[F ka kn kc] 24,dA #[E J 0,E J 0,E J 0,E J 0,F aD 0 0] 33,dA #[E J pr,E J h,E J wk,E J nc,F aD 0 0] 33,dA #[F aD 0 0] 29,dA #[E J 0] 3]);have cg:ZD w X:=by rw[hX];exact Yl _ _
 have fz:X.heap.size=w.heap.size+5:=by rw[hX];exact Xm _ _
 have x0:X.heap[w.heap.size]? = dG (dA #[F ka kn kc] 24 (0,0)):=by rw[hX];exact Zn _ w 0 _ rfl
 have x1:=kl hX 1 _ _ rfl;have x2:=kl hX 2 _ _ rfl;have x3:X.heap[w.heap.size+3]? = dG (dA #[F aD 0 0] 29 (0,0)):=by rw[hX];exact Zn _ w 3 _ rfl
 have x4:X.heap[w.heap.size+4]? = dG (dA #[E J 0] 3 (0,0)):=by rw[hX];exact Zn _ w 4 _ rfl
 have fy:X=((((w.alloc (dA #[F ka kn kc] 24)).alloc (dA #[E J 0,E J 0,E J 0,E J 0,F aD 0 0] 33)).alloc (dA #[E J pr,E J h,E J wk,E J nc,F aD 0 0] 33)).alloc (dA #[F aD 0 0] 29)).alloc (dA #[E J 0] 3):=hX;have fw:=Zsu (w.heap.size+3) (w.heap.size+4) (w.heap.size+3) (w.heap.size+5) X C x3 x4 (by omega) (by omega) (by omega) (by omega);have dt:∀ V,Gr X V (D0 (w.heap.size+3) (w.heap.size+5))->ZD w V:=λV g=>g.below cg cg.size (λq e=>by have:=e.ge;omega);have⟨bu,cu⟩:=ZF (swE K C L h);have C1:=Zb (Ds _ _ _ _ ka kn kc K la ln lc C a m c L h bu X fw w dt hE hK hC sC hL cu);have⟨S3,cc⟩:=ZF ((Y0 h L (K,C)).1.take 3);have e1:((swT h L (K,C)).take 3).map (·.1)=S3:=by rw[List.map_take,Kc,cc]
 have⟨ac,hF⟩:=ZF (Zmv h L K C);have⟨⟨r,r2⟩,hr⟩:=ZF (rwD h);have⟨n,dw⟩:=ZF (S3.length);have ji:n<=3:=by rw[<-dw,<-cc,aV];omega
 have⟨y,hy⟩:=ZF (Yu (pr,h,wk,nc,Ly h (r+ac) lk :: S3));unfold mkE at hx;simp only[cu,cc,hF,hr,hy] at hx;have⟨HX,bw,fj,ez,bz,df,fi,dd⟩:=kh8 hx cg fz dt x1 x2 cu e1;have⟨HF,HR,an,HY,HT,ff,fh⟩:=kh7 hF hr dw hy hT sT hn;have t0:=Zd (X:=[F ka kn kc]) x0 0 _ rfl;have tl:=aA x0;obtain⟨-,g1,gl⟩:=kc2 x2;go_enter func103,ntmps103;go_wp2_with fail;rw[<-fy];(try go_wp2_with fail);refine C1.mono ?_;rintro e w1 gn
 rcases gn with ⟨h0,rfl,bi⟩|⟨h0,p,D,rfl,hp,cm,hd,hI⟩
 ·have y:=ZE bi bz;have⟨y0,y1,y2,y3,y4,ij,ik,il,im,io,yl⟩:=kf5 y;have gx:(bu != 0)=true:=by simp[h0]
  have al:Hid ((x,bb)=(bu,Y6)):=by have:=Za HX;rw[if_pos h0] at this;exact this.symm
  have HB:=Zb (Zf bw bi);go_wp2;refine aL (v:=dC #[.agg #[E J 0,E J 0,E J 0,E J 0,F aD 0 0],E J bu]) ?_ rfl ?_
  ·rw[results_cell_tmp rfl];go_simp
  ·exact MkR.err (B:=w.heap.size+1) al HB ((Gr.refl w1 (λq=>q=w.heap.size+1)).five (w.heap.size+1) (.inl rfl) _ _ _ _ _) (by omega)
 ·subst h0;have⟨va,vc,Kl,hS,hf,_,_,gd,dr⟩:=hI;rw[Za dd,Za an] at hS;have cl:Zm C - Zm (Wc C ((swT h L (K,C)).take 3))=ac:=Za HF;rw[cl] at hf gd;have bi:=ez w1 cm;have z1:=(cm.block _ (aA bz) (λe=>by have:=e.ge;omega)).trans bz;have z2:=(cm.block _ (aA df) (λe=>by have:=e.ge;omega)).trans df;have dx:=Tw (K8 fi).1
  have gm:r2=0/\0<=r/\r<=64:=by
   have q:=Za HR;unfold rwD at q;rw[if_pos (by simp[dx.2.2.1,dx.2.2.2])] at q;injection q with q1 q2;have:=Tp ((h - 1).toNat / 8);exact⟨q2.symm,by omega,by omega⟩
  obtain⟨rfl,jm,jn⟩:=gm
  have jg:ac<=1000000000:=by
   rcases dr with q|q
   ·rw[<-cl,q.1,List.take_nil,Vy];omega
   ·rw[<-cl];have:=K9 q.2.2;omega
  have gi:n=0->va=aD/\vc=0:=λq0=>by
   rcases dr with q|q
   ·exact q.2
   ·have q1:=congrArg List.length dd;rw[cO,aV,Za an,q0] at q1;exact absurd (aJ.1 (by omega)) q.1
  have CR:=Zb (λV=>Dq h r 0 V HR);have⟨HS,et,ca,fl,HP,ey,fa⟩:=kh7 hS bi z1 z2 hp hf gi;obtain⟨-,b0,bl⟩:=kc2 z2;go_wp2_with fail;refine (CR _).mono ?_;rintro e w2 ⟨rfl,cd⟩;have⟨ax,ar⟩:=kh2 (Zf et cd) cd;have cj:=ZE cd ey;have f0:=Zd (X:=[_]) cj 0 _ rfl;have km:=aA cj;have iq:=Zb cj;by_cases e0:r+ac=0
  ·have y:=ZE ar ca;have⟨y0,y1,y2,y3,y4,ij,ik,il,im,io,yl⟩:=kf5 y;have al:Hid ((x,bb)=(9,Y6)):=(by have:=Za HX;rw[if_neg (λq=>q rfl),if_pos e0] at this;exact this.symm);have g0:(r+ac == 0)=true:=(by simp[e0]);go_wp2;refine aL (v:=dC #[.agg #[E J 0,E J 0,E J 0,E J 0,F aD 0 0],E J 9]) ?_ rfl ?_
   ·rw[results_cell_tmp rfl];go_simp
   ·exact MkR.err (B:=w.heap.size+1) al ax ((Gr.refl w2 (λq=>q=w.heap.size+1)).five (w.heap.size+1) (.inl rfl) _ _ _ _ _) (by omega)
  ·have g0:(r+ac == 0)=false:=(by simp[e0]);have eb:=Za HX;rw[if_neg (λq=>q rfl),if_neg e0] at eb;have dg:=Zb eb;have jk:w.heap.size+5<=p:=(by have:=Za fj;have:=Za HP;omega);have bh:=HS.on (Gr.of (S:=λ_=>False) ar) (λ_ q=>q.elim);have ay:=Zb bh;have dc:=ZE ar fl;have cb:=Zb dc;obtain⟨-,c1,ko⟩:=kc2 dc;have d0:=Zd (X:=[_]) bh.box 0 _ rfl;have dl:=aA bh.box;have CP:=Zb (λV (hv:ZD w V)=>Zpp h (r+ac) ta tn tc lk V fh (HT.later hv) ff);have jl:=bh.pl;have jo:IntKind.i64.wrap (r+ac)=r+ac:=(by rw[IntKind.wrap_i64];omega);have KS:Hid (∀ U:World,Gr w2 U (λq=>p<q)->((U.cell? ⟨w.heap.size+4,0,aD⟩=dG (E J ac)/\w.heap.size+4<U.heap.size)/\(U.cell? ⟨w.heap.size+2,1,aD⟩=dG (E J h)/\w.heap.size+2<U.heap.size)/\U.cell? ⟨w.heap.size+3,0,aD⟩=dG (F va n vc)/\w.heap.size+3<U.heap.size)):=λU hu=>⟨⟨hu.cell f0 (by simp;omega),aF km hu.size⟩,⟨hu.cell c1 (by simp;omega),aF ko hu.size⟩,hu.cell d0 (by simp;omega),aF dl hu.size⟩
   have di:Hid (∀ (U:World) (v:Value),Gr w2 U (λq=>p<q)->(λU:World=>(U.cell? ⟨w.heap.size+4,0,aD⟩=dG (E J ac)/\w.heap.size+4<U.heap.size)/\(U.cell? ⟨w.heap.size+2,1,aD⟩=dG (E J h)/\w.heap.size+2<U.heap.size)/\U.cell? ⟨w.heap.size+3,0,aD⟩=dG (F va n vc)/\w.heap.size+3<U.heap.size) (U.setCell ⟨w.heap.size+2,4,aD⟩ v)):=λU v hu=>by
    have hg:=(Gr.refl U (λq=>q=w.heap.size+2)).one (w.heap.size+2) 4 (.inl rfl) v;have hh:=(Gr.refl w2 (λq=>p<q)).trans hu;have hz:=Tr.set_cells (hu.heap dc (by omega)) 4 v;exact⟨⟨hg.cell (hu.cell f0 (by simp;omega)) (by simp),aF km (aO hu.size hg.size)⟩,⟨Zd hz 1 _ rfl,aA hz⟩,hg.cell (hu.cell d0 (by simp;omega)) (by simp),aF dl (aO hu.size hg.size)⟩
   go_upto_region 12 with fail
   go_cut [] from 60 to 70 (λwx=>Hid (Zrs w2 wx (w.heap.size+2) p pr h wk nc (Ly h (r+ac) lk :: S3)))
   case first=>
    refine bC (S:=λU=>(U.cell? ⟨w.heap.size+4,0,aD⟩=dG (E J ac)/\w.heap.size+4<U.heap.size)/\(U.cell? ⟨w.heap.size+2,1,aD⟩=dG (E J h)/\w.heap.size+2<U.heap.size)/\U.cell? ⟨w.heap.size+3,0,aD⟩=dG (F va n vc)/\w.heap.size+3<U.heap.size) (by kernel_rfl) (KS _ (Gr.of (Zj _))) (λaa=>?_);refine tkL 0 rfl aa ?_;refine tkL 1 rfl aa ?_;refine tkL 2 rfl aa ?_;refine tkL 3 rfl aa ?_;refine tkL 4 (v:=E J (r+ac)) rfl aa ?_;refine tkL 5 rfl aa ?_;refine tkL 8 rfl aa ?_;refine rdS 6 rfl (CP w2.drew (Zf ax (Zj _))) ?_;rintro e w4 ⟨po,rfl,ft,gb⟩;have ce:ZD w2 w4:=Zf (Zj w2) gb;refine⟨_,rfl,(KS _ (Gr.of ce)),λaa=>?_⟩;(try simp only[Act.put,ZA,ZB,ZC]);refine rdY 7 rfl (λKQ hK=>?_);go_simp;have⟨w5,bq⟩:=ZG (w4.alloc (dA #[E J h,F aD 0 0,F po 1 1] 50));rw[<-bq];have cf:ZD w4 w5:=(by rw[bq];exact Zh _ _);have h5:w5.heap[w4.heap.size]? = dG (dA #[E J h,F aD 0 0,F po 1 1] 50 (0,0)):=(by rw[bq];exact Zu _ _ _ _ _);have ah:=Zf ce cf;have cx:w5.ownsRow w4.heap.size 50 3 (F (dG ⟨w4.heap.size,0,aD⟩) 1 1) 1 [E J h,F aD 0 0,F po 1 1]:=⟨rfl,.inr ⟨w4.heap.size,1,_,rfl,aE _,h5,aE _,by decide,rfl,rfl⟩⟩;have z5:=ZE ah cb;clear bq;clear aa;refine hK.out _ _ (KS _ (Gr.of ah)) (λaa=>?_);clear hK KQ;have jv:=ce.size;have jw:=cf.size
    have dh:Hid (∀ W2,Gr w5 W2 (λq=>q<=p\/w4.heap.size<=q)->Tr.AllC Tr.txR W2 ([E J h,F aD 0 0,F po 1 1] :: Kl) (Ly h (r+ac) lk :: S3)):=λW2 g2=>by
     have k1:=ay.kept W2 ((Gr.of ah).far g2 (λq e=>by rcases e with e|e;exact .inr (.inl e);exact .inl (by omega)));have k2:=ft W2 ((Gr.of cf).far g2 (λq e=>by have:w2.drew.heap.size=w2.heap.size:=rfl;rcases e with e|e;exact .inr (by omega);exact .inl e));refine⟨by simp[k1.1],λi h1 h2=>?_⟩;cases i with
     | zero=>exact k2
     | succ i=>exact k1.2 i (by simpa using h1) (by simpa using h2)
    by_cases n0:n=0
    ·obtain⟨rfl,rfl⟩:=fa n0;subst n0
     have fv:Kl=[]:=by
      have k1:=(ay.kept w2 (Gr.refl _ _)).1;rw[Za an] at k1;exact aJ.1 k1
     refine rdY 9 rfl (λKQ hK=>?_);refine P5 rfl _ _ 29 rfl w4.heap.size 50 i0 3 underlying29 hi (F (dG ⟨w4.heap.size,0,aD⟩) 1 1) 1 _ rfl cx rfl ?_;clear aa;refine hK.out _ _ (KS _ (Gr.of ah)) (λaa=>?_);clear hK KQ;refine tkL 10 rfl aa ?_;obtain⟨-,-,-,-,y4,-,-,-,-,yf,yl⟩:=kf5 z5;refine rdY 11 rfl (λKQ hK=>?_);go_simp;clear aa;refine hK.out _ _ (di _ _ (Gr.of ah)) (λaa=>?_);refine bZ (by kernel_rfl) ?_ _;go_wp2_with fail;go_meet
     case rel=>exact Zaq (K:=[Value.int .i64 h,F aD 0 0,F po 1 1] :: Kl) (base:=w4.heap.size) (by rw[cK,Za an]) z5 (by rw[fv];exact cx) (by omega) (by omega) (λW2 g2=>dh W2 (g2.mono (λq _ e=>.inl e))) (Gr.of ah)
    ·have own2:=(Gr.of (S:=λ_=>False) ah).own ay.own (λ_ _ q=>q);rw[Za an] at own2
     obtain⟨vg,rfl⟩:∃ vg:Nat,va=dG ⟨vg,0,aD⟩:=by
      rcases own2.2 with ⟨q,q2⟩|⟨g,cap,iv,q,_⟩
      ·exact absurd q2 n0
      ·injection q with q _ _;exact⟨g,q⟩
     have dv:Kl.flatten.length=n*3:=own2.1
     have news:∀ j u,Kl.flatten[j]? = dG u->w5.cell? ((⟨vg,0,aD⟩:Addr).add j)=dG u:=λj u hj=>by
      have gh:j<n*3:=(by rw[<-dv];exact (List.getElem?_eq_some_iff.1 hj).1);rw[Addr.add_lit,Nat.zero_add,own2.cellAt j gh];exact hj
     have gw:∀ u∈Kl.flatten,u.oneCell'=true:=Tr.flat_one (ay.kept w2 (Gr.refl _ _));refine rdY 9 rfl (λKQ hK=>?_);refine step_append_lies _ rfl _ _ 29 rfl w4.heap.size 50 i0 (.agg #[E J 0,F aD 0 0,F aD 0 0]) 3 56 underlying29 hi gq gs gu rfl (by decide) (F (dG ⟨w4.heap.size,0,aD⟩) 1 1) 1 _ rfl cx ⟨vg,0,aD⟩ n vc Kl.flatten rfl dv news gw (by omega) (by unfold maxLen;omega) (by omega) (by omega) _ rfl ?_;intro g6 iu w6 gj gf jj _;have cp:Gr w5 w6 (λq=>q=w4.heap.size):=(Gr.refl w5 _).grown gf (λq e=>.inl (by injection e with e;exact e.symm));have cn:Gr w2 w6 (λq=>p<q):=(Gr.of ah).trans (cp.mono (λq _ e=>by have e:q=w4.heap.size:=e;omega));have z6:=(cn.block _ (aA cb) (by omega)).trans cb;refine hK.out _ _ (KS _ cn) (λaa=>?_);refine tkL 10 rfl aa ?_;obtain⟨-,-,-,-,y4,-,-,-,-,yf,yl⟩:=kf5 z6;refine rdY 11 rfl (λKQ hK=>?_);go_simp;refine hK.out _ _ (di _ _ cn) (λaa=>?_);refine bZ (by kernel_rfl) ?_ _;go_wp2_with fail;go_meet
     case rel=>exact Zaq (K:=[Value.int .i64 h,F aD 0 0,F po 1 1] :: Kl) (base:=w4.heap.size) (by rw[cK,Za an];omega) z6 gj (by omega) (by omega) (λW2 g2=>dh W2 ((cp.mono (λq _ e=>.inr (by have e:q=w4.heap.size:=e;omega))).trans (g2.mono (λq _ e=>.inl e)))) ((Gr.of ah).far cp (λq e=>.inl (by have e:q=w4.heap.size:=e;omega)))
   case rest=>
    have⟨ki,kk,kj,dq,dz,sg,cq⟩:=Za hcut;have⟨CK,fc,fe,bw,ir⟩:=kh5 (U4 pr h wk nc ki kk kj (Ly h (r+ac) lk :: S3) y wc (dz wc (Gr.refl _ _)) HY) dz sg dq cq;have⟨iw,ix,iy,iz,ja,el⟩:=kc5 dq;have gc:ZD w wc:=cq.below ax ax.size (λq e=>by have e:q=w.heap.size+2:=e;omega);have⟨ev,fm⟩:=kh2 gc ((cq.block _ (aA (ZE ar ca)) (λe=>by have e:w.heap.size+1=w.heap.size+2:=e;omega)).trans (ZE ar ca));go_wp2_with fail;refine CK.mono ?_;rintro e w7 ⟨rfl,bj⟩;have⟨eu,bv⟩:=kh2 bj (Zf ev bj);have ga:=ZE bj bw;have⟨jp,jq,jr,js,jt,ju⟩:=kc5 ga;have v:=ZE bj fm;have⟨v0,v1,v2,v3,v4,jz,kb,kd,ke,kf,vl⟩:=kf5 v;by_cases kh:y=0
    ·have al:Hid ((x,bb)=(0,(pr,h,wk,nc,Ly h (r+ac) lk :: S3))):=(by have:=Za dg;rw[if_neg (λq=>q kh)] at this;exact this.symm);subst kh
     have er:Hid (∀ W,Gr w7 W (λq=>q=w.heap.size+1)->MkR w W x bb (dB (dC #[.agg #[E J pr,E J h,E J wk,E J nc,F ki kk kj],E J 0]))):=λW g=>by
      have ec:=Za al;simp only[aR] at ec;obtain⟨rfl,rfl⟩:=ec;refine⟨ki,kk,kj,rfl,λW2 g2=>fc W2 ?_,Za fe,g.below bv bv.size (λq e=>by have e:q=w.heap.size+1:=e;omega)⟩;exact ((Gr.of eu).trans (g.mono (λq _ e=>by have e:q=w.heap.size+1:=e;omega))).trans (g2.mono (λq _ e=>by omega))
     go_wp2;refine aL (v:=dC #[.agg #[E J pr,E J h,E J wk,E J nc,F ki kk kj],E J 0]) ?_ rfl ?_
     ·rw[results_cell_tmp rfl];go_simp
     ·exact er _ ((Gr.refl w7 (λq=>q=w.heap.size+1)).five (w.heap.size+1) (.inl rfl) _ _ _ _ _)
    ·have al:Hid ((x,bb)=(y,Y6)):=(by have:=Za dg;rw[if_pos kh] at this;exact this.symm);have gy:(y != 0)=true:=(by simp[kh]);go_wp2;refine aL (v:=dC #[.agg #[E J 0,E J 0,E J 0,E J 0,F aD 0 0],E J y]) ?_ rfl ?_
     ·rw[results_cell_tmp rfl];go_simp
     ·exact MkR.err (B:=w.heap.size+1) al bv ((Gr.refl w7 (λq=>q=w.heap.size+1)).five (w.heap.size+1) (.inl rfl) _ _ _ _ _) (by omega)
def Wi(N:List Int)(T:List Zk)(tip:Int):Int:=(Tr.blockE N T tip).1.2.1
section
section
variable {Z : Nat -> Prop} {w : World} {d bm m : Nat} {ka na ba pa : Option Addr} {kn kc nn nc bn bc pn pc : Nat} {K : List ByteArray} {N : List Int} {T : List Zk} {P : List TxD} {tip : Int} {f : Int -> Value} {β : Int -> List Zi}
theorem Rx(h:DeskAt Z w d bm m ka kn kc K na nn nc N ba bn bc T pa pn pc P tip f β)(ht:(Lit.int .i64 tip).wf=true) :
  ZH 63 #[.pointer (dG ⟨d,0,aD⟩)] w (f tip):=by
 have hl:=h.mp.drew_look tip ht;obtain⟨-,-,-,-,c4,c5,dl⟩:=kc6 h.box;have HB:=Zb (Zj w);have⟨v,hv⟩:=ZF (f tip);rw[hv] at hl ⊢;go_enter func63,ntmps63;go_wp2
 go_region
 go_wp2;go_ret;exact⟨rfl,Za HB⟩
theorem T8(h:DeskAt Z w d bm m ka kn kc K na nn nc N ba bn bc T pa pn pc P tip f β)(z:Int)(hz:Wi N T tip=z) :
  ZH 44 #[dE (dG ⟨d,0,aD⟩)] w (E J z):=by
 have⟨⟨⟨bp,bu,bw,bv,bT⟩,y⟩,hx⟩:=ZF (Tr.blockE N T tip);have bd:z=bu:=by rw[<-hz];unfold Wi;rw[hx]
 subst bd;have CB:=Zb (λV (hv:ZD w V)=>Tr.block_is na ba nn nc bn bc N T tip (bp,z,bw,bv,bT) y V (h.later hv).now.n (h.later hv).now.b h.sn h.sb hx);obtain⟨-,c1,c2,-,c4,dl⟩:=kc5 h.box;have KS:Hid (∀ U:World,ZD w U->(U.cell? ⟨d,1,aD⟩=dG (F na nn nc)/\U.cell? ⟨d,2,aD⟩=dG (F ba bn bc)/\U.cell? ⟨d,4,aD⟩=dG (E J tip)/\d<U.heap.size)):=λU hu=>⟨Ze hu c1,Ze hu c2,Ze hu c4,aF dl hu.size⟩;go_enter func44,ntmps44;go_wp2_with fail
 go_cut [3,4] from 5 to 18 (λs3 s4 wx=>∃ u,s3 = dE (dG ⟨u,0,aD⟩)/\Hid (wx.cell? ⟨u,1,aD⟩=dG (E J z)/\u<wx.heap.size)/\Hid (ZD w wx))
 case first=>
  refine bC (S:=λU=>(U.cell? ⟨d,1,aD⟩=dG (F na nn nc)/\U.cell? ⟨d,2,aD⟩=dG (F ba bn bc)/\U.cell? ⟨d,4,aD⟩=dG (E J tip)/\d<U.heap.size)) (by kernel_rfl) (KS _ (Zj _)) (λaa=>?_);refine tkL 0 rfl aa ?_;refine tkL 1 rfl aa ?_;refine tkL 2 rfl aa ?_;refine tkL 3 rfl aa ?_;refine tkL 4 rfl aa ?_;refine tkL 5 rfl aa ?_;refine tkL 6 rfl aa ?_;refine tkL 7 rfl aa ?_;refine tkL 8 rfl aa ?_;refine tkL 9 rfl aa ?_;refine wpAnyH_ready (rs:=[10,14]) (by kernel_rfl) (by simp) ?_;refine rdC rfl (λKQ hK=>?_) (rdC rfl (λKQ hK=>?_) AllReadyH.nil)
  ·refine Zq (by kernel_rfl) 88 #[.agg #[F na nn nc,F ba bn bc],E J tip] (by kernel_rfl) (CB w.drew (Zj w)) ?_;rintro e w5 ⟨ta,tn,tc,rfl,-,-,aj⟩;refine⟨_,rfl,?_⟩;have hb:ZD w w5:=Zf (Zj w) aj;clear aa;refine hK.out _ _ (KS _ hb) (λaa=>?_);refine tkL 11 rfl aa ?_;refine tkL 12 rfl aa ?_;refine tkL 13 rfl aa ?_;refine rdY 14 rfl (λKQ hK=>?_);go_simp;obtain⟨w6,ag,-,hu⟩:=ka00 w5 [E J 0,E J 0,E J 0,E J 0,F aD 0 0] 33;rw[<-ag];have af:ZD w w6:=(by rw[ag];exact Zf hb (Zh _ _));clear ag;have bq:=hb.size;have⟨u50,u51,u52,u53,u54,bf,bg,bh,bi,bj,bo⟩:=kf5 hu;refine hK.out _ _ (KS _ af) (λaa=>?_);clear hK KQ;refine rdY 15 rfl (λKQ hK=>?_);go_simp;refine hK.out _ _ (KS _ (Gr.below (S:=λq=>q=w5.heap.size) ((Gr.refl _ (λq=>q=w5.heap.size)).five w5.heap.size (.inl rfl) _ _ _ _ _) af (af).size (λq e=>by have e:q=w5.heap.size:=e;omega))) (λaa=>?_);clear hK KQ;refine tkL 16 rfl aa ?_;refine bZ (by kernel_rfl) ?_ _;go_wp2_with fail;go_meet
   case rel=>exact⟨w5.heap.size,rfl,⟨Zd (Tr.set_cells (Tr.set_cells (Tr.set_cells (Tr.set_cells (Tr.set_cells hu 0 _) 1 _) 2 _) 3 _) 4 _) 1 _ rfl,aA (Tr.set_cells (Tr.set_cells (Tr.set_cells (Tr.set_cells (Tr.set_cells hu 0 _) 1 _) 2 _) 3 _) 4 _)⟩,Gr.below (S:=λq=>q=w5.heap.size) ((Gr.refl _ (λq=>q=w5.heap.size)).five w5.heap.size (.inl rfl) _ _ _ _ _) af (af).size (λq e=>by have e:q=w5.heap.size:=e;omega)⟩
  ·go_simp;have⟨w6,ag⟩:=ZG ((w.alloc (dA #[E J 0,E J 0,E J 0,E J 0,F aD 0 0] 33)).drew);rw[<-ag];have af:ZD w w6:=(by rw[ag];exact Zf (Zh _ _) (Zj _));have ay:w6.heap[w.heap.size]? = dG (dA [E J 0,E J 0,E J 0,E J 0,F aD 0 0].toArray 33 (0,0)):=(by rw[ag];exact Zw _ _ _ _ _ _ _);clear ag;refine hK.out _ _ (KS _ af) (λaa=>?_);clear hK KQ;refine rdY 10 rfl (λKQ hK=>?_);refine Zq (by kernel_rfl) 88 #[.agg #[F na nn nc,F ba bn bc],E J tip] (by kernel_rfl) (CB w6 af) ?_;rintro e w5 ⟨ta,tn,tc,rfl,-,-,aj⟩;refine⟨_,rfl,?_⟩;have hb:ZD w w5:=Zf af aj;have hu:=ZE aj ay;have⟨u50,u51,u52,u53,u54,bf,bg,bh,bi,bj,bo⟩:=kf5 hu;refine hK.out _ _ (KS _ hb) (λaa=>?_);clear hK KQ;refine tkL 11 rfl aa ?_;refine tkL 12 rfl aa ?_;refine tkL 13 rfl aa ?_;refine rdY 15 rfl (λKQ hK=>?_);go_simp;refine hK.out _ _ (KS _ (Gr.below (S:=λq=>q=w.heap.size) ((Gr.refl _ (λq=>q=w.heap.size)).five w.heap.size (.inl rfl) _ _ _ _ _) hb (hb).size (λq e=>by have e:q=w.heap.size:=e;omega))) (λaa=>?_);clear hK KQ;refine tkL 16 rfl aa ?_;refine bZ (by kernel_rfl) ?_ _;go_wp2_with fail;go_meet
   case rel=>exact⟨w.heap.size,rfl,⟨Zd (Tr.set_cells (Tr.set_cells (Tr.set_cells (Tr.set_cells (Tr.set_cells hu 0 _) 1 _) 2 _) 3 _) 4 _) 1 _ rfl,aA (Tr.set_cells (Tr.set_cells (Tr.set_cells (Tr.set_cells (Tr.set_cells hu 0 _) 1 _) 2 _) 3 _) 4 _)⟩,Gr.below (S:=λq=>q=w.heap.size) ((Gr.refl _ (λq=>q=w.heap.size)).five w.heap.size (.inl rfl) _ _ _ _ _) hb (hb).size (λq e=>by have e:q=w.heap.size:=e;omega)⟩
 case rest=>
  obtain⟨u,rfl,hu,hb⟩:=hcut;have⟨u1,ul⟩:=Za hu;clear hu;go_wp2;go_ret;exact⟨rfl,Za hb⟩
theorem Hk(h:DeskAt Z w d bm m ka kn kc K na nn nc N ba bn bc T pa pn pc P tip f β)(s p hh k o:Int)(a n c L)(x:Int)(C' U')(hE:Env w)(hL:TxsAt w a n L)(hm:m<1000000)(hs:(Lit.int .i64 s).wf=true)(hp:(Lit.int .i64 p).wf=true)(hx:Xf K (β p) (p,hh,k,o,L)=(x,C',U')) :
  Calls aB 41 #[.pointer (dG ⟨d,0,aD⟩),.int .i64 s,.agg #[.int .i64 p,.int .i64 hh,.int .i64 k,.int .i64 o,F a n c]] w λe w'=>e = dB (.int .i64 x)/\∃ f',DeskAt Z w' d bm (m+1) ka kn kc K na nn nc N ba bn bc T pa pn pc P tip f' (J3 β s C')/\Gr w w' (λq=>q=bm):=by
 have⟨X,hX,af,bx⟩:=ka00 w [.int .i64 p,.int .i64 hh,.int .i64 k,.int .i64 o,F a n c] 33;have⟨ca,cn,cc,ax,_,sC⟩:=h.c p;have ae:=h.later (Zf af (Zj X));have CC:=Zb (show Calls aB 84 #[.agg #[F ka kn kc],F ca cn cc,.agg #[.int .i64 p,.int .i64 hh,.int .i64 k,.int .i64 o,F a n c]] X.drew λe w'=>Zjb X.drew w' x C' U' e from Zdv ka kn kc K ca cn cc (β p) p hh k o a n c L x C' U' X.drew (hE.later (Zf af (Zj X))) ae.now.k (by have⟨a2,n2,c2,q1,q2,_⟩:=ae.c p;rw[ax] at q1;injection q1 with e1 e2 e3;subst e1 e2 e3;exact q2) sC (hL.later (Zf af (Zj X))) hx);have hl:=ae.mp.look p hp;rw[ax] at hl;have bh:=Zb (λW (hw:Below X.drew.heap.size X.drew W) v=>(h.later (Zf (Zf af (Zj X)) hw)).mp.put hm s hs v);have⟨HH,bf⟩:=kh2 h af;have cu:=h.ne;obtain⟨d0,-,-,-,-,d5,dl⟩:=kc6 ae.box;have cq:=ae.mp.lt;have⟨e0,e1,e2,e3,e4,el⟩:=kc5 bx;have ct:bm<w.heap.size:=h.mp.lt
 have KS:Hid (∀ U:World,Gr X.drew U (λq=>q=bm)->((U.cell? ⟨d,0,aD⟩=dG (F ka kn kc)/\U.cell? ⟨d,5,aD⟩=dG (.map (dG bm))/\d<U.heap.size)/\U.cell? ⟨w.heap.size,0,aD⟩=dG (.int .i64 p)/\U.cell? ⟨w.heap.size,1,aD⟩=dG (.int .i64 hh)/\U.cell? ⟨w.heap.size,2,aD⟩=dG (.int .i64 k)/\U.cell? ⟨w.heap.size,3,aD⟩=dG (.int .i64 o)/\U.cell? ⟨w.heap.size,4,aD⟩=dG (F a n c)/\w.heap.size<U.heap.size)):=λU hu=>⟨⟨hu.cell d0 (by simp;omega),hu.cell d5 (by simp;omega),aF dl hu.size⟩,hu.cell e0 (by simp;omega),hu.cell e1 (by simp;omega),hu.cell e2 (by simp;omega),hu.cell e3 (by simp;omega),hu.cell e4 (by simp;omega),aF el hu.size⟩;go_enter func41,ntmps41
 go_upto_region 1 with fail
 rw[<-hX];clear hX;refine bC (S:=λU=>(U.cell? ⟨d,0,aD⟩=dG (F ka kn kc)/\U.cell? ⟨d,5,aD⟩=dG (.map (dG bm))/\d<U.heap.size)/\U.cell? ⟨w.heap.size,0,aD⟩=dG (.int .i64 p)/\U.cell? ⟨w.heap.size,1,aD⟩=dG (.int .i64 hh)/\U.cell? ⟨w.heap.size,2,aD⟩=dG (.int .i64 k)/\U.cell? ⟨w.heap.size,3,aD⟩=dG (.int .i64 o)/\U.cell? ⟨w.heap.size,4,aD⟩=dG (F a n c)/\w.heap.size<U.heap.size) (by kernel_rfl) (KS _ (Gr.refl _ _)) (λaa=>?_);refine tkL 0 rfl aa ?_;refine tkL 1 rfl aa ?_;refine tkL 2 rfl aa ?_;refine tkL 3 rfl aa ?_;refine tkL 4 rfl aa ?_;refine tkL 5 rfl aa ?_;refine tkL 6 rfl aa ?_;refine tkL 7 rfl aa ?_;refine tkL 8 rfl aa ?_;refine tkL 9 rfl aa ?_;refine tkL 10 rfl aa ?_;refine tkL 11 rfl aa ?_;refine tkL 12 rfl aa ?_;refine tkL 13 rfl aa ?_;refine tkL 14 rfl aa ?_;refine tkL 16 rfl aa ?_;refine rdY 15 rfl (λKQ hK=>?_);go_simp;refine hK.out _ _ (KS _ (Gr.refl _ _)) (λaa=>?_);clear hK KQ;refine rdS 17 rfl CC ?_;rintro e w5 ⟨ra,rn,rc,ua,un,uc,rfl,bu,cm,-,-,ah,-⟩;refine⟨_,rfl,(KS _ (Gr.of ah)),λaa=>?_⟩;refine tkL 18 rfl aa ?_;refine tkL 19 rfl aa ?_;refine tkL 20 rfl aa ?_;refine tkL 21 rfl aa ?_;have⟨w6,cw,bs,an⟩:=bh w5 ah (F ra rn rc);have bz:Gr X.drew w6 (λq=>q=bm):=(Gr.of ah).grown an (λq e=>.inl (by injection e with e;exact e.symm));refine rdY 22 rfl (λKQ hK=>?_);go_simp;clear aa;refine hK.out _ _ (KS _ bz) (λaa=>?_);refine tkL 23 rfl aa ?_;refine bZ (by kernel_rfl) ?_ _;clear aa
 have ay:=Zf (Zf bf (Zj X)) ah;have be:Hid (∃ f',DeskAt Z w6 d bm (m+1) ka kn kc K na nn nc N ba bn bc T pa pn pc P tip f' (J3 β s C')/\Gr w w6 (λq=>q=bm)):=⟨_,HH.put ay bu cm bs an,(Gr.of ay).grown an (λq e=>.inl (by injection e with e;exact e.symm))⟩;go_wp2;go_ret;have⟨f',h1,h2⟩:=Za be;exact⟨rfl,f',h1,h2⟩
end
end
def Yq(K:List ByteArray):List Int->List Zk->(Int->List Zi)->Int×(Int->List Zi)
 | s :: N,b :: T,β=>if kbD K s b=false then (5,β) else if (Xf K (β b.1) b).1≠0 then ((Xf K (β b.1) b).1,β) else Yq K N T (J3 β s (Xf K (β b.1) b).2.1)
 | [],_,β=>(0,β)
 | _ :: _,[],β=>(0,β)
theorem Zno{K}{N:List Int}{T:List Zk}{β : Int->List Zi}{k:Nat}(h1:k<N.length)(h2:k<T.length):Yq K (N.drop k) (T.drop k) β = if kbD K N[k] T[k]=false then (5,β) else if (Xf K (β T[k].1) T[k]).1≠0 then ((Xf K (β T[k].1) T[k]).1,β) else Yq K (N.drop (k+1)) (T.drop (k+1)) (J3 β N[k] (Xf K (β T[k].1) T[k]).2.1):=by
 rw[aK h1,aK h2,Yq]
theorem Zee{K}{N:List Int}{T:List Zk}{β : Int->List Zi}{k:Nat}(h1:N.length<=k):Yq K (N.drop k) (T.drop k) β = (0,β):=by
 rw[List.drop_of_length_le h1];rfl
def poE(K:List ByteArray)(N:List Int)(T:List Zk)(P:List TxD)(tip:Int)(β : Int->List Zi):Int:=
 if P.length=0 then 0 else if P.all (knT K)=false then 5 else if swE K (β tip) P (Wi N T tip+1)≠0 then swE K (β tip) P (Wi N T tip+1) else
 if (Y0 (Wi N T tip+1) P (K,β tip)).1.length<P.length then 7 else 0
def noB:Int->List Zi:=λ_=>[]
def opE(K:List ByteArray)(N:List Int)(T:List Zk)(P:List TxD)(tip:Int):Int:=
 if Bk.bkChk K≠0 then Bk.bkChk K else if (Tr.bstD N T).2≠0 then (Tr.bstD N T).2 else if (Tr.bstD N T).1≠tip then 4 else
 if (Yq K N T noB).1≠0 then (Yq K N T noB).1 else poE K N T P tip (Yq K N T noB).2
section
section
variable {Z : Nat -> Prop} {w : World} {d bm : Nat} {ka na ba pa : Option Addr} {kn kc nn nc bn bc pn pc : Nat} {K : List ByteArray} {N : List Int} {T : List Zk} {P : List TxD} {tip : Int}
structure CbS(Z:Nat->Prop)(w wr:World)(d bm:Nat)(ka:Option Addr)(kn kc:Nat)(K:List ByteArray)(na:Option Addr)(nn nc:Nat)(N:List Int)(ba:Option Addr)(bn bc:Nat)(T:List Zk)(pa:Option Addr)(pn pc:Nat)(P:List TxD)(tip:Int)(β : Int->List Zi)(k:Nat):Prop where
 gr:Gr w wr (λq=>q=bm)
 all:∃ f γ,DeskAt Z wr d bm k ka kn kc K na nn nc N ba bn bc T pa pn pc P tip f γ/\Yq K N T β = Yq K (N.drop k) (T.drop k) γ
theorem Zdt{f:Int->Value}{β : Int->List Zi}(h:DeskAt Z w d bm 0 ka kn kc K na nn nc N ba bn bc T pa pn pc P tip f β)(ap:World)(dj:ZD ap w)(ed:ap.heap.size<=bm)(hE:Env ap)(hl:N.length=T.length)(h24:N.length<=24)(hN:∀ x∈N,(Lit.int .i64 x).wf=true)(hT:∀ b∈T,(Lit.int .i64 b.1).wf=true)(x:Int)(γ : Int->List Zi)(hx:Yq K N T β = (x,γ)) :
  Calls aB 67 #[.pointer (dG ⟨d,0,aD⟩)] w λe w'=>e = dB (.int .i64 x)/\Gr w w' (λq=>q=bm)/\(x=0->∃ f',DeskAt Z w' d bm N.length ka kn kc K na nn nc N ba bn bc T pa pn pc P tip f' γ):=by
 have dh:N.length=nn:=h.now.n.1;have db:T.length=bn:=h.now.b.1;have ST:Hid (CbS Z w w d bm ka kn kc K na nn nc N ba bn bc T pa pn pc P tip β 0):=⟨Gr.refl _ _,f,β,h,rfl⟩;have⟨HX,HE,bh,av,az,HL,HN,cj⟩:=kh8 hx hE dj dh db hl hN hT;obtain⟨-,d1,dl⟩:=kc2 h.box;have eg:=h.ne;have eh:nn<=24:=by omega
 go_enter func67,ntmps67;go_wp2
 go_loopw [14] (λi wr=>∃ k:Nat,k<=nn/\i = .int .i64 k/\Hid (CbS Z w wr d bm ka kn kc K na nn nc N ba bn bc T pa pn pc P tip β k)) (λi _=>nn - (intOf i).toNat)
 case atStart=>exact⟨0,aI _,rfl,ST⟩
 case round=>
  obtain⟨k,hk,rfl,HS⟩:=hrel;by_cases df:k<nn
  ·obtain⟨hg,g,δ,hD,hC⟩:=Za HS;have am:k<N.length:=(by rw[Za av];exact df);have an:k<T.length:=(by rw[<-Za HL];exact am);have ef:k<bn:=(by rw[<-Za az];exact an);have bu:ZD ap wr:=hg.below bh bh.size (λq e=>by have e:q=bm:=e;omega);obtain⟨nb,no,rfl,_,dg⟩:=hD.now.n.2 (by omega);obtain⟨bb,bo,rfl,ec,dc⟩:=hD.now.b.2 (by rw[<-Za az];omega);have n0:=dg k am;have⟨b0,b1,b2,b3,ta,tn,tc,b4,aj,dr⟩:=dc k an;have bw:=HN _ (aQ am);have ay:=cj _ (aQ an);rw[Zno am an] at hC;have⟨s,hs⟩:=ZF (N[k]);have⟨⟨bp,ei,ej,ae,bT⟩,hb⟩:=ZF (T[k]);rw[hs] at n0 bw hC;rw[hb] at b0 b1 b2 b3 aj ay hC;simp only at b0 b1 b2 b3 aj ay hC;have⟨y,hy⟩:=ZF (kbD K s (bp,ei,ej,ae,bT));have⟨⟨z,C',U'⟩,hz⟩:=ZF (Xf K (δ bp) (bp,ei,ej,ae,bT));rw[hy,hz] at hC;simp only at hC;have nl:=aC _ _ n0;obtain⟨-,-,dy,dz⟩:=kc3 hD.box;have⟨Y,hY,ak,br⟩:=ka00 wr [.int .i64 bp,.int .i64 ei,.int .i64 ej,.int .i64 ae,F ta tn tc] 33;have CK:=Zb (Zhy d K s bp ei ej ae ta tn tc bT y Y (HE.later (Zf bu ak)) (hD.later ak).book (aj.later ak) dr hy);have CC:=Zb (λV (hv:ZD wr V)=>Hk (hD.later hv) s bp ei ej ae ta tn tc bT z C' U' (HE.later (Zf bu hv)) (aj.later hv) (by omega) bw ay hz);have⟨y0,y1,y2,y3,y4,yl⟩:=kc5 br;have⟨HG,cc,cl,HC⟩:=kh4 hg ak br hC;go_wp2_with fail;rw[<-hY];(try go_wp2_with fail);refine CK.mono ?_;rintro e w2 ⟨rfl,bs⟩;have bv:=Zf cc bs;have D2:=Zb (CC w2 bv);have dq:=ZE bs cl;have⟨y0,y1,y2,y3,y4,yl⟩:=kc5 dq;have be:=Zb (HG.on bv);cases y
   ·have ab:Hid (x=5):=(by have q:=Za HC;rw[if_pos rfl,Za HX] at q;injection q with q _);go_wp2;go_ret;exact⟨by rw[Za ab];rfl,Za be,λq=>absurd (ab.symm.trans q) (by decide)⟩
   ·go_wp2_with fail;refine D2.mono ?_;rintro e w3 ⟨rfl,g',cx,dd⟩;have⟨bf,ce⟩:=kh2 (be.trans dd) cx;by_cases z0:z=0
    ·have cm:Hid (CbS Z w w3 d bm ka kn kc K (dG ⟨nb,no,aD⟩) nn nc N (dG ⟨bb,bo,aD⟩) bn bc T pa pn pc P tip β (k+1)):=by
      refine⟨Za bf,g',J3 δ s C',Za ce,?_⟩;have q:=Za HC;rw[if_neg (by decide),if_neg (λr=>r z0)] at q;exact q
     subst z0;go_wp2;go_roundw
     case rel=>exact⟨k+1,by omega,by go_num,cm⟩
     case measure=>simp[intOf];omega
    ·have gz:(z != 0)=true:=(by simp[z0]);have ab:Hid (x=z):=(by have q:=Za HC;rw[if_neg (by decide),if_pos z0,Za HX] at q;injection q with q _);go_wp2;go_ret;exact⟨by rw[Za ab];rfl,Za bf,λq=>absurd (ab.symm.trans q) z0⟩
  ·have ek:k=nn:=(by omega);subst ek;obtain⟨hg,g,δ,hD,hC⟩:=Za HS;rw[Zee (by rw[Za av];exact aE _),Za HX] at hC;have ab:Hid (x=0 /\ γ = δ):=(by injection hC with q1 q2;exact⟨q1,q2⟩);have⟨HG,HD⟩:=kh2 hg hD;go_wp2;go_ret;refine⟨by rw[(Za ab).1];rfl,Za HG,λ_=>⟨g,?_⟩⟩;rw[(Za ab).2,Za av];exact Za HD
end
end
section
section
variable {Z : Nat -> Prop} {w : World} {d bm m : Nat} {ka na ba pa : Option Addr} {kn kc nn nc bn bc pn pc : Nat} {K : List ByteArray} {N : List Int} {T : List Zk} {P : List TxD} {tip : Int} {f : Int -> Value} {β : Int -> List Zi}
theorem Zng(h:DeskAt Z w d bm m ka kn kc K na nn nc N ba bn bc T pa pn pc P tip f β)(hE:Env w)(ht:(Lit.int .i64 tip).wf=true)(h1:0<=Wi N T tip)(h2:Wi N T tip<=1000)(x:Int)(hx:poE K N T P tip β = x) :
  ZH 68 #[.pointer (dG ⟨d,0,aD⟩)] w (.int .i64 x):=by
 have dm:P.length=pn:=h.now.p.1;have⟨z,hz⟩:=ZF (Wi N T tip);have⟨g,hg⟩:=ZF (P.all (knT K));have⟨y,hy⟩:=ZF (swE K (β tip) P (z+1));have⟨⟨K1,S1,C1,F1⟩,hr⟩:=ZF (swF K (β tip) P (z+1) y);have⟨n1,cx⟩:=ZF (S1.length)
 have HX:Hid ((if pn=0 then 0 else if g=false then 5 else if y≠0 then y else if n1<pn then 7 else 0)=x):=by
  show _=_;rw[<-hx];unfold poE;rw[dm,hg,hz,hy];by_cases e:y=0
  ·subst e;unfold swF at hr;rw[if_pos rfl] at hr;simp only[aR] at hr;rw[hr.2.1,cx]
  ·rw[if_pos e];split
   ·rfl
   ·split
    ·rfl
    ·first|rfl|rw[if_pos e]
 have⟨ej,el,ek,cu,_,sC⟩:=h.c tip;rw[hz] at h1 h2;have CA:=Zb (λV (hv:ZD w V)=>Fd d K pa pn pc P g V (hE.later hv) (h.later hv).book (h.later hv).now.p h.sp.len hg);have CC:=Zb (λV (hv:ZD w V)=>Rx (h.later hv) ht);rw[cu] at CC;have CH:=Zb (λV (hv:ZD w V)=>T8 (h.later hv) z hz);have CS:=Zb (λV (hv:ZD w V)=>Dy ka kn kc K ej el ek (β tip) pa pn pc P (z+1) y K1 S1 C1 F1 V (hE.later hv) (h.later hv).now.k (by have⟨a2,n2,c2,q1,q2,_⟩:=(h.later hv).c tip;rw[cu] at q1;injection q1 with e1 e2 e3;subst e1 e2 e3;exact q2) sC (h.later hv).now.p hy hr);obtain⟨c0,-,-,c3,dl⟩:=kc4 h.box;have KS:Hid (∀ U:World,ZD w U->(U.cell? ⟨d,0,aD⟩=dG (F ka kn kc)/\U.cell? ⟨d,3,aD⟩=dG (F pa pn pc)/\d<U.heap.size)):=λU hu=>⟨Ze hu c0,Ze hu c3,aF dl hu.size⟩;have ed:IntKind.i64.wrap (z+1)=z+1:=by rw[IntKind.wrap_i64];omega
 have ec:pn<=9223372036854775807:=h.sp.len;have ay:=Zb cx;go_enter func68,ntmps68;by_cases e0:pn=0
 ·subst e0;have al:Hid (x=0):=by have q:=Za HX;rw[if_pos rfl] at q;exact q.symm
  go_wp2;go_ret;exact⟨by rw[Za al];rfl,Below.refl _ _⟩
 ·have g0:((pn:Int) == 0)=false:=by simp;omega
  have ea:¬((pn:Int)=0):=by omega
  have D1:=Zb (CA w (Below.refl _ _));go_wp2_with fail;refine D1.mono ?_;rintro e w1 ⟨rfl,ct⟩;have au:=Zb ct;clear ct c0 c3 dl;cases g
  ·have al:Hid (x=5):=(by have q:=Za HX;rw[if_neg e0,if_pos rfl] at q;exact q.symm);go_wp2;go_ret;exact⟨by rw[Za al];rfl,Za au⟩
  ·have bo:=Za HX;rw[if_neg e0,if_neg (by decide)] at bo;have bi:=Zb bo;clear bo;have d1:=KS w1 au;have dg:=d1.1;have cm:=d1.2.1;have cn:=d1.2.2;clear d1
   go_upto_region 5 with fail
   clear dg cm cn
   go_cut [3,4,5,6,7] from 23 to 43 (λs3 s4 s5 s6 s7 wx=>s7 = .int .i64 y/\(∃ a c,s4 = F a n1 c)/\Hid (ZD w wx))
   case first=>
    refine bC (S:=λU=>(U.cell? ⟨d,0,aD⟩=dG (F ka kn kc)/\U.cell? ⟨d,3,aD⟩=dG (F pa pn pc)/\d<U.heap.size)) (by kernel_rfl) (KS _ (Zf au (Zj _))) (λaa=>?_);refine tkL 0 rfl aa ?_;refine tkL 1 rfl aa ?_;refine tkL 2 rfl aa ?_;refine tkL 3 rfl aa ?_;refine tkL 4 rfl aa ?_;refine tkL 6 rfl aa ?_;refine tkL 7 rfl aa ?_;refine tkL 8 rfl aa ?_;refine tkL 9 rfl aa ?_;refine tkL 10 rfl aa ?_;refine tkL 11 rfl aa ?_;have hb:=Zf au (Zj w1);refine wpAnyH_ready (rs:=[5,21]) (by kernel_rfl) (by simp) ?_;refine rdC rfl (λKQ hK=>?_) (rdC rfl (λKQ hK=>?_) AllReadyH.nil);refine Zq (by kernel_rfl) 63 #[.pointer (dG ⟨d,0,aD⟩)] (by kernel_rfl) (CC w1.drew hb) ?_;rintro e v1 ⟨rfl,ad⟩;refine⟨_,rfl,?_⟩;have hb:=Zf hb ad;clear aa;refine hK.out _ _ (KS _ hb) (λaa=>?_);clear hK KQ;(try simp only[Act.put,ZA,ZB,ZC]);refine wpAnyH_ready (rs:=[12,21]) (by kernel_rfl) (by simp) ?_;refine rdC rfl (λKQ hK=>?_) (rdC rfl (λKQ hK=>?_) AllReadyH.nil);refine Zq (by kernel_rfl) 44 #[.pointer (dG ⟨d,0,aD⟩)] (by kernel_rfl) (CH v1 hb) ?_;rintro e v2 ⟨rfl,ad⟩;refine⟨_,rfl,?_⟩;have hb:=Zf hb ad;clear aa;refine hK.out _ _ (KS _ hb) (λaa=>?_);clear hK KQ;refine tkL 13 (v:=.int .i64 (z+1)) rfl aa ?_;refine wpAnyH_ready (rs:=[14,21]) (by kernel_rfl) (by simp) ?_;refine rdC rfl (λKQ hK=>?_) (rdC rfl (λKQ hK=>?_) AllReadyH.nil)
    refine Zq (by kernel_rfl) 87 #[.agg #[F ka kn kc],F ej el ek,F pa pn pc,.int .i64 (z+1)] (by kernel_rfl) (CS v2 hb) ?_;rintro e v3 ⟨k5,bu,bs,sa,sn,sc,oa,on,oc,rfl,an,-,-,-,ad⟩;refine⟨_,rfl,?_⟩;have hb:=Zf hb ad;have az:sn=n1:=((an v3 (Gr.refl _ _)).2.1.1).symm.trans ay;clear aa;refine hK.out _ _ (KS _ hb) (λaa=>?_);clear hK KQ;refine tkL 15 rfl aa ?_;refine tkL 16 rfl aa ?_;refine tkL 17 rfl aa ?_;refine tkL 18 rfl aa ?_;refine tkL 19 rfl aa ?_;refine tkL 20 rfl aa ?_;refine rdY 21 rfl (λKQ hK=>?_);go_simp;obtain⟨ca,af⟩:∃ w6,w6=v3.alloc (dA #[F aD 0 0] 24):=⟨_,rfl⟩;rw[<-af];have hu:ca.heap[v3.heap.size]? = dG (dA #[F aD 0 0] 24 (0,0)):=(by rw[af];exact Xj _ _ _);have am:w.heap.size<=v3.heap.size:=hb.size;have hb:ZD w ca:=(by rw[af];exact Zf hb (Zh _ _));clear af;have u0:=Zd (X:=[F aD 0 0]) hu 0 _ rfl;have uf:=Zg hu 0;have ul:=aA hu;clear aa;refine hK.out _ _ (KS _ hb) (λaa=>?_);clear hK KQ;generalize v3.heap.size=uz at hu am u0 uf ul ⊢;obtain⟨vz,ap⟩:∃ z,z=ca:=⟨_,rfl⟩;subst ap;rotate_left;go_simp;obtain⟨bz,af⟩:∃ w6,w6=v2.alloc (dA #[F aD 0 0] 24):=⟨_,rfl⟩;rw[<-af];have hu:bz.heap[v2.heap.size]? = dG (dA #[F aD 0 0] 24 (0,0)):=(by rw[af];exact Xj _ _ _);have am:w.heap.size<=v2.heap.size:=hb.size;have hb:ZD w bz:=(by rw[af];exact Zf hb (Zh _ _));clear af;have u0:=Zd (X:=[F aD 0 0]) hu 0 _ rfl;have uf:=Zg hu 0;have ul:=aA hu;clear aa;refine hK.out _ _ (KS _ hb) (λaa=>?_)
    clear hK KQ;refine rdS 14 rfl (CS bz hb) ?_;rintro e v4 ⟨k5,bu,bs,sa,sn,sc,oa,on,oc,rfl,an,-,-,-,ad⟩;have hu:=ZE ad hu;have u0:=Zd (X:=[F aD 0 0]) hu 0 _ rfl;have uf:=Zg hu 0;have ul:=aA hu;have hb:=Zf hb ad;have az:sn=n1:=((an v4 (Gr.refl _ _)).2.1.1).symm.trans ay;clear aa;refine⟨_,rfl,(KS _ hb),λaa=>?_⟩;refine tkL 15 rfl aa ?_;refine tkL 16 rfl aa ?_;refine tkL 17 rfl aa ?_;refine tkL 18 rfl aa ?_;refine tkL 19 rfl aa ?_;refine tkL 20 rfl aa ?_;generalize v2.heap.size=uz at hu am u0 uf ul ⊢;obtain⟨vz,ap⟩:∃ z,z=v4:=⟨_,rfl⟩;subst ap;rotate_left;go_simp;obtain⟨bx,af⟩:∃ w6,w6=v1.alloc (dA #[F aD 0 0] 24):=⟨_,rfl⟩;rw[<-af];have hu:bx.heap[v1.heap.size]? = dG (dA #[F aD 0 0] 24 (0,0)):=(by rw[af];exact Xj _ _ _);have am:w.heap.size<=v1.heap.size:=hb.size;have hb:ZD w bx:=(by rw[af];exact Zf hb (Zh _ _));clear af;have u0:=Zd (X:=[F aD 0 0]) hu 0 _ rfl;have uf:=Zg hu 0;have ul:=aA hu;clear aa;refine hK.out _ _ (KS _ hb) (λaa=>?_);clear hK KQ;refine rdS 12 rfl (CH bx hb) ?_;rintro e v5 ⟨rfl,ad⟩;have hu:=ZE ad hu;have u0:=Zd (X:=[F aD 0 0]) hu 0 _ rfl;have uf:=Zg hu 0;have ul:=aA hu;have hb:=Zf hb ad;clear aa;refine⟨_,rfl,(KS _ hb),λaa=>?_⟩;refine tkL 13 (v:=.int .i64 (z+1)) rfl aa ?_;refine rdS 14 rfl (CS v5 hb) ?_;rintro e v6 ⟨k5,bu,bs,sa,sn,sc,oa,on,oc,rfl,an,-,-,-,ad⟩;have hu:=ZE ad hu;have u0:=Zd (X:=[F aD 0 0]) hu 0 _ rfl;have uf:=Zg hu 0;have ul:=aA hu;have hb:=Zf hb ad
    have az:sn=n1:=((an v6 (Gr.refl _ _)).2.1.1).symm.trans ay;clear aa;refine⟨_,rfl,(KS _ hb),λaa=>?_⟩;refine tkL 15 rfl aa ?_;refine tkL 16 rfl aa ?_;refine tkL 17 rfl aa ?_;refine tkL 18 rfl aa ?_;refine tkL 19 rfl aa ?_;refine tkL 20 rfl aa ?_;generalize v1.heap.size=uz at hu am u0 uf ul ⊢;obtain⟨vz,ap⟩:∃ z,z=v6:=⟨_,rfl⟩;subst ap;rotate_left;go_simp;obtain⟨cc,af⟩:∃ w6,w6=(w1.alloc (dA #[F aD 0 0] 24)).drew:=⟨_,rfl⟩;rw[<-af];have hu:cc.heap[w1.heap.size]? = dG (dA #[F aD 0 0] 24 (0,0)):=(by rw[af];exact Xj _ _ _);have am:w.heap.size<=w1.heap.size:=au.size;have hb:ZD w cc:=(by rw[af];exact Zf (Zf au (Zh _ _)) (Zj _));clear af;have u0:=Zd (X:=[F aD 0 0]) hu 0 _ rfl;have uf:=Zg hu 0;have ul:=aA hu;clear aa;refine hK.out _ _ (KS _ hb) (λaa=>?_);clear hK KQ;refine rdS 5 rfl (CC cc hb) ?_;rintro e v7 ⟨rfl,ad⟩;have hu:=ZE ad hu;have u0:=Zd (X:=[F aD 0 0]) hu 0 _ rfl;have uf:=Zg hu 0;have ul:=aA hu;have hb:=Zf hb ad;clear aa;refine⟨_,rfl,(KS _ hb),λaa=>?_⟩;(try simp only[Act.put,ZA,ZB,ZC]);refine rdS 12 rfl (CH v7 hb) ?_;rintro e v8 ⟨rfl,ad⟩;have hu:=ZE ad hu;have u0:=Zd (X:=[F aD 0 0]) hu 0 _ rfl;have uf:=Zg hu 0;have ul:=aA hu;have hb:=Zf hb ad;clear aa;refine⟨_,rfl,(KS _ hb),λaa=>?_⟩;refine tkL 13 (v:=.int .i64 (z+1)) rfl aa ?_;refine rdS 14 rfl (CS v8 hb) ?_;rintro e v9 ⟨k5,bu,bs,sa,sn,sc,oa,on,oc,rfl,an,-,-,-,ad⟩;have hu:=ZE ad hu;have u0:=Zd (X:=[F aD 0 0]) hu 0 _ rfl;have uf:=Zg hu 0
    have ul:=aA hu;have hb:=Zf hb ad;have az:sn=n1:=((an v9 (Gr.refl _ _)).2.1.1).symm.trans ay;clear aa;refine⟨_,rfl,(KS _ hb),λaa=>?_⟩;refine tkL 15 rfl aa ?_;refine tkL 16 rfl aa ?_;refine tkL 17 rfl aa ?_;refine tkL 18 rfl aa ?_;refine tkL 19 rfl aa ?_;refine tkL 20 rfl aa ?_;generalize w1.heap.size=uz at hu am u0 uf ul ⊢;obtain⟨vz,ap⟩:∃ z,z=v9:=⟨_,rfl⟩;subst ap;rotate_left
    all_goals
     refine rdY 22 rfl (λKQ hK=>?_);go_simp;clear aa;refine hK.out _ _ (KS _ (hb.setCell (p:=⟨uz,0,aD⟩) am _)) (λaa=>?_);refine tkL 23 rfl aa ?_;refine tkL 24 rfl aa ?_;refine tkL 25 rfl aa ?_;refine tkL 26 rfl aa ?_;refine bZ (by kernel_rfl) ?_ _;go_wp2_with fail;go_meet
     case rel=>exact⟨rfl,⟨sa,sc,by first|rfl|rw[az]⟩,hb.setCell (p:=⟨uz,0,aD⟩) am _⟩
   case rest=>
    obtain⟨rfl,⟨ra,rc,rfl⟩,HB⟩:=hcut;have d1:=KS wc HB;have cm:=d1.2.1;have cn:=d1.2.2;by_cases y0:y=0
    ·subst y0;by_cases l0:n1<pn
     ·have gl:(n1:Int)<(pn:Int):=(by omega);have al:Hid (x=7):=(by have q:=Za bi;rw[if_neg (λr=>r rfl),if_pos l0] at q;exact q.symm);go_wp2;go_ret;exact⟨by rw[Za al];rfl,Za HB⟩
     ·have gl:¬(n1:Int)<(pn:Int):=(by omega);have al:Hid (x=0):=(by have q:=Za bi;rw[if_neg (λr=>r rfl),if_neg l0] at q;exact q.symm);go_wp2;go_ret;exact⟨by rw[Za al];rfl,Za HB⟩
    ·have gy:(y == 0)=false:=(by simp[y0]);have al:Hid (x=y):=(by have q:=Za bi;rw[if_pos y0] at q;exact q.symm);go_wp2;go_ret;exact⟨by rw[Za al];rfl,Za HB⟩
end
end
theorem Ag{fn:Func}{p:Tmp}{ty:TypeId}(h:fn.results=#[.cell p ty])(tmps:Array Value)(P:Program)(w) :
  (results fn tmps).run P w=((asAddr (tmps.getD p undef)).run P w).andThen λa w₁=>(loadVar ty a).run P w₁:=Yb h tmps P w
theorem Gr.four{w w1:World}{S:Nat->Prop}(h:Gr w w1 S)(b:Nat)(hb:S b\/w.heap.size<=b)(a0 a1 a2 a3):Gr w ((((w1.setCell ⟨b,0,aD⟩ a0).setCell ⟨b,1,aD⟩ a1).setCell ⟨b,2,aD⟩ a2).setCell ⟨b,3,aD⟩ a3) S:=
 (((h.one b 0 hb a0).one b 1 hb a1).one b 2 hb a2).one b 3 hb a3
def ClnR(w w':World)(N:List Int)(T:List Zk)(P:List TxD)(nn pn:Nat)(tip:Int)(e:Ending):Prop:=
 ∃ na nc ba bc pa pc,e = dB (.agg #[F na nn nc,F ba nn bc,F pa pn pc,E J tip])/\Fresh w.heap.size w' (λw2=>Tr.IntsAt w2 na nn N/\Tr.BlksAt w2 ba nn T/\TxsAt w2 pa pn P)/\SlOk na nn nc/\SlOk ba nn bc/\SlOk pa pn pc/\ZD w w'
theorem Zip(na ba pa nn nc bc pn pc N T P)(tip:Int)(w)(hN:Tr.IntsAt w na nn N)(hT:Tr.BlksAt w ba nn T)(hP:TxsAt w pa pn P)(sN:SlOk na nn nc)(sT:SlOk ba nn bc)(sP:SlOk pa pn pc)(hn:nn<=4096)(hs:∀ t∈T,Tr.BlkSmall t)(hp:pn<=2513169434916)(hq:∀ t∈P,Tr.TxSmall t) :
  Calls aB 66 #[.agg #[F na nn nc,F ba nn bc,F pa pn pc,E J tip]] w λe w'=>ClnR w w' N T P nn pn tip e:=by
 have⟨X,hX⟩:=ZG (Wd w [dA #[F na nn nc,F ba nn bc,F pa pn pc,E J tip] 31,dA #[F aD 0 0,F aD 0 0,F aD 0 0,E J 0] 31]);have bz:X=(w.alloc (dA #[F na nn nc,F ba nn bc,F pa pn pc,E J tip] 31)).alloc (dA #[F aD 0 0,F aD 0 0,F aD 0 0,E J 0] 31):=hX;have bd:ZD w X:=by rw[hX];exact Yl _ _
 have ca:X.heap.size=w.heap.size+2:=by rw[hX];exact Xm _ _
 have x0:=kl0 hX _ _ rfl;have x1:=kl hX 1 _ _ rfl;have C1:=Zb (Tr.clTree_is na ba nn nc bc N T X.drew (hN.later (Zf bd (Zj X))) (hT.later (Zf bd (Zj X))) sN sT hn hs);have C2:=Zb (λV (hv:ZD w V)=>Tr.clTxs_is pa pn pc P V (hP.later hv) sP hp hq);have⟨bf,bv,cn,bu⟩:=kh4 bd ca x0 x1;have⟨t0,t1,t2,tl⟩:=kc3 x0;have KS:Hid (∀ U:World,X.heap.size<=U.heap.size->w.heap.size<U.heap.size):=λU hu=>aF tl hu;have KC:Hid (∀ U:World,ZD X U->(U.cell? ⟨w.heap.size,0,aD⟩=dG (F na nn nc)/\U.cell? ⟨w.heap.size,1,aD⟩=dG (F ba nn bc)/\U.cell? ⟨w.heap.size,2,aD⟩=dG (F pa pn pc)/\w.heap.size<U.heap.size)):=λU hu=>⟨Ze hu t0,Ze hu t1,Ze hu t2,aF tl hu.size⟩;clear hN hT hP sN sT sP hn hs hp hq bd ca x0 x1 hX;go_enter func66,ntmps66
 go_upto_region 1 with fail
 rw[<-bz];clear bz
 go_cut [] from 3 to 10 (λwx=>Hid (∃ v1 v2 v3,wx.heap[w.heap.size]? = dG (dA [v1,v2,v3,E J tip].toArray 31 (0,0))/\∃ a1 c1 a2 c2 a3 c3,v1 = F a1 nn c1/\v2 = F a2 nn c2/\v3 = F a3 pn c3/\Fresh X.heap.size wx (λw2=>Tr.IntsAt w2 a1 nn N/\Tr.BlksAt w2 a2 nn T/\TxsAt w2 a3 pn P)/\SlOk a1 nn c1/\SlOk a2 nn c2/\SlOk a3 pn c3/\Gr X wx (λq=>q=w.heap.size)))
 case first=>
  refine bC (S:=λU=>w.heap.size<U.heap.size) (by kernel_rfl) (KS _ (aE _)) (λab=>?_);refine tkL 0 rfl ab ?_;refine tkL 3 rfl ab ?_;have hb:=Zj X;refine wpAnyH_ready (rs:=[1,4]) (by kernel_rfl) (by simp) ?_;refine rdC rfl (λKQ hK=>?_) (rdC rfl (λKQ hK=>?_) AllReadyH.nil)
  focus
   have⟨l0,l1,l2,ll⟩:=KC X.drew hb;go_simp;clear l0 l1 l2 ll;clear ab;refine hK.out _ _ (KS _ hb.size) (λab=>?_);clear hK KQ;(try simp only[Act.put,ZA,ZB,ZC]);refine wpAnyH_ready (rs:=[2,4]) (by kernel_rfl) (by simp) ?_;refine rdC rfl (λKQ hK=>?_) (rdC rfl (λKQ hK=>?_) AllReadyH.nil)
   focus
    refine Zq (by kernel_rfl) 82 #[.agg #[F na nn nc,F ba nn bc]] (by kernel_rfl) C1 ?_;rintro e w5 ⟨v1,v2,rfl,an,ax⟩;obtain⟨a1,c1,a2,c2,rfl,rfl,-,s1,-,s2⟩:=an.read;refine⟨_,rfl,?_⟩;have hb:=Zf (Zj X) ax;clear ab;refine hK.out _ _ (KS _ hb.size) (λab=>?_);clear hK KQ;(try simp only[Act.put,ZA,ZB,ZC]);refine rdY 4 rfl (λKQ hK=>?_);have⟨l0,l1,l2,ll⟩:=KC w5 hb;go_simp;clear l0 l1 l2 ll;clear ab;refine hK.out _ _ (KS _ hb.size) (λab=>?_);clear hK KQ
   rotate_left
   focus
    have⟨l0,l1,l2,ll⟩:=KC X.drew hb;go_simp;clear l0 l1 l2 ll;clear ab;refine hK.out _ _ (KS _ hb.size) (λab=>?_);clear hK KQ;(try simp only[Act.put,ZA,ZB,ZC]);refine rdY 2 rfl (λKQ hK=>?_);refine Zq (by kernel_rfl) 82 #[.agg #[F na nn nc,F ba nn bc]] (by kernel_rfl) C1 ?_;rintro e w5 ⟨v1,v2,rfl,an,ax⟩;obtain⟨a1,c1,a2,c2,rfl,rfl,-,s1,-,s2⟩:=an.read;refine⟨_,rfl,?_⟩;have hb:=Zf (Zj X) ax;clear ab;refine hK.out _ _ (KS _ hb.size) (λab=>?_);clear hK KQ
  rotate_left 2
  focus
   have⟨l0,l1,l2,ll⟩:=KC X.drew hb;go_simp;clear l0 l1 l2 ll;clear ab;refine hK.out _ _ (KS _ hb.size) (λab=>?_);clear hK KQ;(try simp only[Act.put,ZA,ZB,ZC]);refine rdY 1 rfl (λKQ hK=>?_);have⟨l0,l1,l2,ll⟩:=KC X.drew hb;go_simp;clear l0 l1 l2 ll;clear ab;refine hK.out _ _ (KS _ hb.size) (λab=>?_);clear hK KQ;(try simp only[Act.put,ZA,ZB,ZC]);refine rdY 2 rfl (λKQ hK=>?_);refine Zq (by kernel_rfl) 82 #[.agg #[F na nn nc,F ba nn bc]] (by kernel_rfl) C1 ?_;rintro e w5 ⟨v1,v2,rfl,an,ax⟩;obtain⟨a1,c1,a2,c2,rfl,rfl,-,s1,-,s2⟩:=an.read;refine⟨_,rfl,?_⟩;have hb:=Zf (Zj X) ax;clear ab;refine hK.out _ _ (KS _ hb.size) (λab=>?_);clear hK KQ
  all_goals
   refine tkL 6 rfl ab ?_;refine rdS 5 rfl (C2 w5 (Zf bf hb)) ?_;rintro e w6 ⟨a3,c3,rfl,bw,cb⟩;have ay:=Zf hb cb;clear ab;refine⟨_,rfl,(KS _ ay.size),λab=>?_⟩;(try simp only[Act.put,ZA,ZB,ZC]);have hz:=ZE ay cn;have⟨y0,y1,y2,g0,g1,g2,yl⟩:=kf3 hz;have dm:(w6.setCell ⟨w.heap.size,0,aD⟩ (F a1 nn c1)).heap.size=w6.heap.size:=(by simp[World.setCell]);refine rdY 7 rfl (λKQ hK=>?_);go_simp;clear ab;refine hK.out _ _ (KS _ (by simpa[World.setCell] using ay.size)) (λab=>?_);clear hK KQ;(try simp only[Act.put]);refine tkL 8 rfl ab ?_;refine rdY 9 rfl (λKQ hK=>?_);go_simp;clear ab;refine hK.out _ _ (KS _ (by simpa[World.setCell] using ay.size)) (λab=>?_);clear hK KQ;(try simp only[Act.put]);refine bZ (by kernel_rfl) ?_ _;clear ab;go_wp2_with fail;go_meet
   case rel=>
    have gg:Gr w6 (((w6.setCell ⟨w.heap.size,0,aD⟩ (F a1 nn c1)).setCell ⟨w.heap.size,1,aD⟩ (F a2 nn c2)).setCell ⟨w.heap.size,2,aD⟩ (F a3 pn c3)) (λq=>q=w.heap.size):=(((Gr.refl w6 (λq=>q=w.heap.size)).one w.heap.size 0 (.inl rfl) _).one w.heap.size 1 (.inl rfl) _).one w.heap.size 2 (.inl rfl) _;have cq:=Za bv;have dl:=hb.size;have dn:X.drew.heap.size=X.heap.size:=rfl;refine⟨_,_,_,Tr.set_cells (Tr.set_cells (Tr.set_cells hz 0 _) 1 _) 2 _,a1,c1,a2,c2,a3,c3,rfl,rfl,rfl,λW2 g2=>?_,s1,s2,(bw w6 (Gr.refl _ _)).2,(Gr.of ay).trans gg⟩;have k1:=(an.gr ((Gr.of cb).trans ((gg.mono (λq _ e=>by have e:q=w.heap.size:=e;omega)).trans (g2.mono (λq _ e=>by omega))))).read;obtain⟨b1,d1,b2,d2,q1,q2,i1,-,i2,-⟩:=k1;injection q1 with q1 _ _;injection q2 with q2 _ _;subst q1 q2;exact⟨i1,i2,(bw W2 ((gg.mono (λq _ e=>by have e:q=w.heap.size:=e;omega)).trans (g2.mono (λq _ e=>by omega)))).1⟩
 case rest=>
  obtain⟨v1,v2,v3,hb,a1,c1,a2,c2,a3,c3,rfl,rfl,rfl,hF,s1,s2,s3,hg⟩:=Za hcut;have⟨e0,e1,e2,e3,el⟩:=kc4 hb;have hz:=(hg.block _ (aA bu) (λe=>by have e:w.heap.size+1=w.heap.size:=e;omega)).trans bu;have⟨z0,z1,z2,z3,f0,f1,f2,f3,zl⟩:=kf4 hz;have bi:ZD w wc:=hg.below bf bf.size (λq e=>by have e:q=w.heap.size:=e;omega)
  have cm:Hid (∀ W,Gr wc W (λq=>q=w.heap.size+1)->ClnR w W N T P nn pn tip (dB (.agg #[F a1 nn c1,F a2 nn c2,F a3 pn c3,E J tip]))):=λW g=>by
   have cq:=Za bv;refine⟨a1,c1,a2,c2,a3,c3,rfl,λW2 g2=>hF W2 ((g.mono (λq _ e=>by have e:q=w.heap.size+1:=e;omega)).trans (g2.mono (λq _ e=>by omega))),s1,s2,s3,g.below bi bi.size (λq e=>by have e:q=w.heap.size+1:=e;omega)⟩
  clear hcut hb hF s1 s2 s3 hg hz bi;go_wp2;(try simp only[Exit.inBlock,Exit.then]);refine aL (v:=.agg #[F a1 nn c1,F a2 nn c2,F a3 pn c3,E J tip]) ?_ rfl ?_
  ·rw[Ag rfl];go_simp
  ·exact cm _ ((Gr.refl wc (λq=>q=w.heap.size+1)).four (w.heap.size+1) (.inl rfl) _ _ _ _)
theorem Wh{N:List Int}{T:List Zk}(hc:Tr.chkTr N T=0):N.length=T.length/\N.length<=24/\(∀ x∈N,(Lit.int .i64 x).wf=true)/\(∀ b∈T,(Lit.int .i64 b.1).wf=true)/\(∀ b∈T,Tr.BlkSmall b)/\∀ s,0<=Wi N T s/\Wi N T s<=1000:=by
 have ok:=Tr.TrOk.of hc
 have h24:N.length<=24:=by
  unfold Tr.chkTr at hc;split at hc
  ·cases hc
  split at hc
  ·cases hc
  omega
 refine⟨ok.len,h24,λx hx=>?_,λb hb=>?_,λb hb=>Tr.blk_small (ok.chk b hb),λs=>?_⟩
 ·have:=ok.nm x hx;exact Qb (by omega) (by omega)
 ·have h1:=ok.chk b hb;have⟨p,h,k,n,L⟩:=b;have h2:=(Vi h1).1;simp[Xp] at h2;exact Qb (by simp only;omega) (by simp only;omega)
 ·unfold Wi Tr.blockE;rw[if_neg (λq=>q hc)];split
  ·rename_i q;have:=Q9 (ok.chk _ (Tr.fnd_at ok.len (by simpa using q)));simp only;omega
  ·exact⟨Int.le_refl _,by decide⟩
theorem V9{N T}{z:Int}(h:Tr.bstD N T=(z,0)):Tr.chkTr N T=0/\(z=0\/z∈N):=by
 unfold Tr.bstD at h;split at h
 ·rename_i q;injection h with _ h;exact absurd h q
 ·rename_i q;injection h with h _;have hc:=bD.1 q;exact⟨hc,h ▸ (Tr.best_max (Tr.TrOk.of hc)).1⟩
theorem Zht(w:World):(Instr.makeMap 93 aD).run aB w = .ok (.map (dG w.heap.size)) (w.alloc (.map #[] 0)):=by kernel_rfl
def Zok(Z:Nat->Prop)(w:World)(d bm m:Nat)(K:List ByteArray)(N:List Int)(T:List Zk)(P:List TxD)(tip:Int)(β : Int->List Zi):Prop:=
 ∃ ka kn kc na nn nc ba bn bc pa pn pc f,DeskAt Z w d bm m ka kn kc K na nn nc N ba bn bc T pa pn pc P tip f β
theorem Zan{V w6 w7:World}{d bm B A:Nat}{ka na ba pa kn kc nn nc bn bc pn pc K N T P}{tip:Int}(hK:Fresh A V (λw2=>Bk.TextsAt w2 ka kn K))(sk:SlOk ka kn kc)(hb:ZD V w6)(hF:Fresh B w6 (λw2=>Tr.IntsAt w2 na nn N/\Tr.BlksAt w2 ba bn T/\TxsAt w2 pa pn P))(sn:SlOk na nn nc)(sb:SlOk ba bn bc)(sp:SlOk pa pn pc)
  (h67:ZD w6 w7) (box:w7.heap[d]? = dG (dA [F ka kn kc,F na nn nc,F ba bn bc,F pa pn pc,E J tip,.map (dG bm)].toArray 95 (0,0))) (hm:BMap bm 0 (λ_=>Es) w7) (h1:V.heap.size<=bm) (h2:w6.heap.size<=d) (h3:bm<B\/w6.heap.size<=bm) (h4:d≠bm) (hA:A<=B) (hA2:A<=V.heap.size) :
  DeskAt (λq=>q<A) w7 d bm 0 ka kn kc K na nn nc N ba bn bc T pa pn pc P tip (λ_=>Es) noB:=by
 have hs:=hb.size;have al:=h67.size;refine⟨box,λW g=>?_,λW _ x=>⟨aD,0,0,rfl,RowsAt.nil _ _,Z5⟩,sk,sn,sb,sp,hm,h4,λq e=>by have e:q<A:=e;omega⟩
 have gV:Gr V W (λq=>q<A):=((Gr.of (Zf hb h67)):Gr V w7 (λq=>q<A)).far g (λq e=>by
  rcases e with e|e|e
  ·exact .inl (by omega)
  ·exact .inl (by omega)
  ·exact .inr e)
 have g6:Gr w6 W (λq=>q<B):=((Gr.of h67):Gr w6 w7 (λq=>q<B)).far g (λq e=>by
  rcases e with e|e|e
  ·omega
  ·omega
  ·exact .inr (aF e hA))
 have ac:=hF W g6;exact⟨hK W gV,ac.1,ac.2.1,ac.2.2⟩
def OpnR(w w':World)(x:Int)(K:List ByteArray)(N:List Int)(T:List Zk)(P:List TxD)(tip:Int)(β : Int->List Zi)(e:Ending):Prop:=
 ZD w w'/\((x≠0/\e = dB (dC #[dE aD,E J x]))\/(x=0/\∃ d bm m,e = dB (dC #[dE (dG ⟨d,0,aD⟩),E J 0])/\Zok (λq=>q<w.heap.size) w' d bm m K N T P tip β/\w.heap.size<=d/\w.heap.size<=bm/\m<=24))
theorem Me(ka kn kc K na ba pa nn nc bn bc pn pc N T P)(tip x:Int)(w)(hE:Env w)(hK:Bk.TextsAt w ka kn K)(hN:Tr.IntsAt w na nn N)(hT:Tr.BlksAt w ba bn T)(hP:TxsAt w pa pn P)(sN:SlOk na nn nc)(sT:SlOk ba bn bc)(sP:SlOk pa pn pc)(hp:pn<=2513169434916)(hq:∀ t∈P,Tr.TxSmall t)(hx:opE K N T P tip=x) :
  Calls aB 32 #[.agg #[F ka kn kc],.agg #[F na nn nc,F ba bn bc,F pa pn pc,.int .i64 tip]] w λe w'=>OpnR w w' x K N T P tip (Yq K N T noB).2 e:=by
 have⟨X,hX⟩:=ZG (Wd w [dA #[F ka kn kc] 24,dA #[F na nn nc,F ba bn bc,F pa pn pc,.int .i64 tip] 31]);have dy:X=(w.alloc (dA #[F ka kn kc] 24)).alloc (dA #[F na nn nc,F ba bn bc,F pa pn pc,.int .i64 tip] 31):=hX;have cd:ZD w X:=by rw[hX];exact Yl _ _
 have dz:X.heap.size=w.heap.size+2:=by rw[hX];exact Xm _ _
 have x0:=kl0 hX _ _ rfl;have x1:=kl hX 1 _ _ rfl;have⟨⟨M,Z,z⟩,hz⟩:=ZF (Bk.allR K [])
 have cm:z=Bk.bkChk K/\(z=0->M=K):=by
  unfold Bk.allR at hz;split at hz
  ·rename_i q;rw[Bk.nmGo] at hz;simp only[aR] at hz;exact⟨by rw[<-hz.2.2,q],λ_=>hz.1.symm⟩
  ·rename_i q;simp only[aR] at hz;exact⟨hz.2.2.symm,λe=>absurd (hz.2.2.trans e) q⟩
 have C1:=Zb (Bk.all_isF ka aD kn kc 0 0 K [] M Z z X (hK.later cd) ⟨rfl,λh=>absurd h (by omega)⟩ (by omega) hz);have⟨⟨b,y⟩,hy⟩:=ZF (Tr.bstD N T);have C2:=Zb (λV (hv:ZD w V)=>Tr.best_is na ba nn nc bn bc N T b y V (hN.later hv) (hT.later hv) sN sT hy);obtain⟨⟨u,γ⟩,hu⟩:=ZF (Yq K N T noB);unfold opE at hx;rw[<-cm.1,hy,hu] at hx;simp only at hx;rw[hu];simp only;have⟨HX,fp,de,dn,fl,fm,HY,HU⟩:=kh8 hx cm cd dz x0 x1 hy hu;have⟨HE,HN,HT,HP,fd,ff,fe,fb⟩:=kh8 hE hN hT hP sN sT sP hp;have HQ:=Zb hq;have⟨t0,tl⟩:=kc1 x0;clear hE hK hN hT hP sN sT sP hp hq hx cd dz x0 x1 hX hz cm hy hu;go_enter func32,ntmps32;go_wp2_with fail;rw[<-dy];clear dy;(try go_wp2_with fail);refine C1.mono ?_;rintro e w1 ⟨⟨a',n',c',a2,n2,c2,rfl,dv,en,_,_,_⟩,au⟩;have h10:=ZE au fl;have h11:=ZE au fm;have⟨y0,yf,yl⟩:=kf1 h10;have⟨V,hV⟩:=ZG (w1.setCell ⟨w.heap.size,0,aD⟩ (F a' n' c'));have g1:Gr w1 V (λq=>q=w.heap.size):=by rw[hV];exact (Gr.refl w1 (λq=>q=w.heap.size)).one w.heap.size 0 (.inl rfl) _
 have v0:V.heap[w.heap.size]? = dG (dA #[F a' n' c'] 24 (0,0)):=by rw[hV];exact Uf h10
 have v1:=g1.heap h11 (by omega);have cc:ZD w V:=g1.below (Zf de au) (Zf de au).size (λq e=>by have e:q=w.heap.size:=e;omega);have di:Hid (Fresh w.heap.size V (λw2=>Bk.TextsAt w2 a' n' M)):=λW g=>dv W ((g1.mono (λq _ e=>by have e:q=w.heap.size:=e;have:=Za dn;omega)).trans (g.mono (λq _ e=>by have e:q<w.heap.size:=e;have:=Za dn;omega)));have⟨bg,fh,fi,dj⟩:=kh4 cc v0 v1 en;obtain⟨q0,q1,-,q3,ql⟩:=kc4 v1;have⟨p0,p1,pl⟩:=kc2 h11;have D2:=Zb (C2 V cc);clear au h10 h11 g1 v0 v1 cc dv en t0 tl;by_cases z0:z=0
 ·subst z0;obtain rfl:=fp.2 rfl;go_wp2_with fail;rw[<-hV];clear hV y0 yf yl p0 p1 pl;(try go_wp2_with fail);refine D2.mono ?_;rintro e w2 ⟨rfl,av⟩;have⟨af,bh⟩:=kh2 (Zf bg av) av;have h20:=ZE av fh;have h21:=ZE av fi;have⟨gj,gl⟩:=kh2 h20 h21;have r0:=Zd h20 0 _ rfl;obtain⟨s0,s1,s2,s3,-⟩:=kc4 h21;have rl:=aA h20;have sl:=aA h21;clear av h20 h21 q0 q1 q3 ql;by_cases bs:y=0
  ·subst bs;by_cases cu:b=tip
   ·subst cu;have cj:=Za HX;rw[if_neg (λq=>q rfl),if_neg (λq=>q rfl),if_neg (λq=>q rfl)] at cj;have dm:=Zb cj;clear cj;have⟨hc,eg⟩:=V9 HY;have⟨f1,f2,f3,f4,f5,f6⟩:=Wh hc;have fq:bn=nn:=(by have q1:=HN.1;have q2:=HT.1;omega);subst fq;have gw:bn<=24:=(by have q1:=HN.1;omega);have CN:=Zb (λU (hv:ZD w U)=>Zip na ba pa bn nc bc pn pc N T P b U (HN.later hv) (HT.later hv) (HP.later hv) fd ff fe (by omega) f5 fb HQ);have fk:Hid ((Lit.int .i64 b).wf=true):=(by rcases eg with q|q;exact Qb (by omega) (by omega);exact f3 b q);have⟨ew,dg,ey,ez,dh⟩:=kh5 f1 f2 f3 f4 (f6 b);have fs:=Zht;clear hc eg f1 f2 f3 f4 f5 f6;have KS:Hid (∀ U:World,ZD w2 U->((U.cell? ⟨w.heap.size,0,aD⟩=dG (F a' n' c')/\w.heap.size<U.heap.size)/\U.cell? ⟨w.heap.size+1,0,aD⟩=dG (F na bn nc)/\U.cell? ⟨w.heap.size+1,1,aD⟩=dG (F ba bn bc)/\U.cell? ⟨w.heap.size+1,2,aD⟩=dG (F pa pn pc)/\U.cell? ⟨w.heap.size+1,3,aD⟩=dG (.int .i64 b)/\w.heap.size+1<U.heap.size)):=λU hu=>⟨⟨Ze hu r0,aF rl hu.size⟩,Ze hu s0,Ze hu s1,Ze hu s2,Ze hu s3,aF sl hu.size⟩
    go_upto_region 9 with fail
    clear r0 s0 s1 s2 s3 rl sl
    go_cut [9] from 34 to 39 (λs9 wx=>∃ d bm:Nat,s9 = .pointer (dG ⟨d,0,aD⟩)/\Hid (∃ na' nc' ba' bc' pa' pc',DeskAt (λq=>q<w.heap.size) wx d bm 0 a' n' c' M na' bn nc' N ba' bn bc' T pa' pn pc' P b (λ_=>Es) noB)/\Hid (ZD w wx/\w.heap.size<=d/\w.heap.size<=bm))
    case first=>
     refine bC (S:=λU=>(U.cell? ⟨w.heap.size,0,aD⟩=dG (F a' n' c')/\w.heap.size<U.heap.size)/\U.cell? ⟨w.heap.size+1,0,aD⟩=dG (F na bn nc)/\U.cell? ⟨w.heap.size+1,1,aD⟩=dG (F ba bn bc)/\U.cell? ⟨w.heap.size+1,2,aD⟩=dG (F pa pn pc)/\U.cell? ⟨w.heap.size+1,3,aD⟩=dG (.int .i64 b)/\w.heap.size+1<U.heap.size) (by kernel_rfl) (KS _ (Zj _)) (λaa=>?_);refine tkL 0 rfl aa ?_;refine tkL 1 rfl aa ?_;refine wpAnyH_ready (rs:=[2,3]) (by kernel_rfl) (by simp) ?_;refine rdC rfl (λKQ hK=>?_) (rdC rfl (λKQ hK=>?_) AllReadyH.nil)
     ·have hb:=Zj w2;refine Zq (by kernel_rfl) 66 #[.agg #[F na bn nc,F ba bn bc,F pa pn pc,.int .i64 b]] (by kernel_rfl) (CN w2.drew (Zf af hb)) ?_;rintro e w5 ⟨na',nc',ba',bc',pa',pc',rfl,ca,cq,cp,ct,aw⟩;refine⟨_,rfl,?_⟩;have ad:=Zf hb aw;clear aa;refine hK.out _ _ (KS _ ad) (λaa=>?_);clear hK KQ;(try simp only[Act.put,ZA,ZB,ZC]);refine rdY 3 rfl (λKQ hK=>?_);go_simp;have⟨w6,ay⟩:=ZG (w5.alloc (.map #[] 0));rw[<-ay];have bo:ZD w5 w6:=(by rw[ay];exact Zh _ _);have cg:BMap w5.heap.size 0 (λ_=>Es) w6:=(by rw[ay];exact BMap.made w5);have ef:w6.heap.size=w5.heap.size+1:=(by rw[ay];simp);clear ay;clear aa;refine hK.out _ _ (KS _ (Zf ad bo)) (λaa=>?_);clear hK KQ;refine tkL 4 rfl aa ?_;refine rdY 5 rfl (λKQ hK=>?_);go_simp;have⟨w7,az,ah,bw⟩:=ka00 w6 [F a' n' c',F na' bn nc',F ba' bn bc',F pa' pn pc',.int .i64 b,.map (dG w5.heap.size)] 95;rw[<-az];clear az;clear aa;refine hK.out _ _ (KS _ (Zf (Zf ad bo) ah)) (λaa=>?_);clear hK KQ;refine tkL 6 rfl aa ?_;refine bZ (by kernel_rfl) ?_ _;clear aa;go_wp2_with fail;go_meet
      case rel=>
       have s2:=af.size;have s5:=ad.size;have sV:=bh.size;exact⟨w6.heap.size,w5.heap.size,(by first|rfl|rw[ef]),⟨na',nc',ba',bc',pa',pc',Zan (V:=V) (B:=w2.drew.heap.size) di dj (Zf bh ad) ca cq cp ct (Zf bo ah) bw (cg.keep ah) (by omega) (by omega) (.inr (aE _)) (by omega) (by have:=af.size;show w.heap.size<=w2.heap.size;omega) bg.size⟩,Zf (Zf af ad) (Zf bo ah),by omega,by omega⟩
     ·go_simp;have⟨v6,ax⟩:=ZG ((w2.alloc (.map #[] 0)).drew);rw[<-ax];have hb:ZD w2 v6:=(by rw[ax];exact Zf (Zh _ _) (Zj _));have cg:BMap w2.heap.size 0 (λ_=>Es) v6:=(by rw[ax];exact (BMap.made w2).heap rfl);have ef:v6.heap.size=w2.heap.size+1:=(by rw[ax];simp);clear ax;clear aa;refine hK.out _ _ (KS _ hb) (λaa=>?_);clear hK KQ;refine rdS 2 rfl (CN v6 (Zf af hb)) ?_;rintro e w5 ⟨na',nc',ba',bc',pa',pc',rfl,ca,cq,cp,ct,aw⟩;have ad:=Zf hb aw;clear aa;refine⟨_,rfl,(KS _ ad),λaa=>?_⟩;refine tkL 4 rfl aa ?_;refine rdY 5 rfl (λKQ hK=>?_);go_simp;have⟨w7,az,ah,bw⟩:=ka00 w5 [F a' n' c',F na' bn nc',F ba' bn bc',F pa' pn pc',.int .i64 b,.map (dG w2.heap.size)] 95;rw[<-az];clear az;clear aa;refine hK.out _ _ (KS _ (Zf ad ah)) (λaa=>?_);clear hK KQ;refine tkL 6 rfl aa ?_;refine bZ (by kernel_rfl) ?_ _;clear aa;go_wp2_with fail;go_meet
      case rel=>
       have s2:=af.size;have s5:=aw.size;have sV:=bh.size;exact⟨w5.heap.size,w2.heap.size,rfl,⟨na',nc',ba',bc',pa',pc',Zan (V:=V) (B:=v6.heap.size) di dj (Zf bh ad) ca cq cp ct ah bw ((cg.keep aw).keep ah) (by omega) (aE _) (.inl (by omega)) (by omega) (by have:=af.size;omega) bg.size⟩,Zf (Zf af ad) ah,by omega,by omega⟩
    case rest=>
     obtain⟨d,bm,rfl,hD,hL⟩:=hcut;have⟨na',nc',ba',bc',pa',pc',hD⟩:=Za hD;have⟨cf,hd,ce⟩:=Za hL;have⟨E1,dd,et,dc⟩:=kh4 (Zdt hD w cf ce HE ew dg ey ez u γ HU) cf hd ce;clear hD hL cf hd ce fs;go_wp2_with fail;refine E1.mono ?_;rintro e w8 ⟨rfl,ec,bx⟩;have bq:ZD w w8:=ec.below dd dd.size (λq e=>by have e:q=bm:=e;have:=Za dc;omega);have da:=Zb bq;clear ec E1;by_cases u0:u=0
     ·subst u0;have⟨f',bz⟩:=bx rfl;have cl:=Za dm;rw[if_neg (λq=>q rfl)] at cl;have⟨E2,ev⟩:=kh2 (Zng bz (HE.later bq) fk dh.1 dh.2 x cl) bz;clear bx bz bq cl;go_wp2_with fail;refine E2.mono ?_;rintro e w9 ⟨rfl,cb⟩;have⟨db,eu⟩:=kh2 (Zf da cb) (ev.later cb);clear cb E2;by_cases x0:x=0
      ·subst x0;go_wp2;go_ret2;exact⟨Za db,.inr ⟨rfl,d,bm,_,rfl,⟨_,_,_,_,_,_,_,_,_,_,_,_,_,Za eu⟩,Za et,Za dc,Za dg⟩⟩
      ·have gx:(x != 0)=true:=(by simp[x0]);go_wp2;go_ret2;exact⟨Za db,.inl ⟨x0,rfl⟩⟩
     ·have gu:(u != 0)=true:=(by simp[u0]);have ak:Hid (x=u):=(by have q:=Za dm;rw[if_pos u0] at q;exact q.symm);clear bx bq;go_wp2;go_ret2;rw[Za ak];exact⟨Za da,.inl ⟨u0,rfl⟩⟩
   ·have gt:(b != tip)=true:=(by simp[cu]);have ak:Hid (x=4):=(by have q:=Za HX;rw[if_neg (λq=>q rfl),if_neg (λq=>q rfl),if_pos cu] at q;exact q.symm);go_wp2;go_ret2;rw[Za ak];exact⟨Za af,.inl ⟨by decide,rfl⟩⟩
  ·have gy:(y != 0)=true:=(by simp[bs]);have ak:Hid (x=y):=(by have q:=Za HX;rw[if_neg (λq=>q rfl),if_pos bs] at q;exact q.symm);go_wp2;go_ret2;rw[Za ak];exact⟨Za af,.inl ⟨bs,rfl⟩⟩
 ·have gz:(z != 0)=true:=by simp[z0]
  have ak:Hid (x=z):=by have q:=Za HX;rw[if_pos z0] at q;exact q.symm
  have fj:=Zb hV;clear hV;go_wp2;rw[<-Za fj];go_ret2;rw[Za ak];exact⟨Za bg,.inl ⟨z0,rfl⟩⟩
section
section
variable {Z : Nat -> Prop} {w w' : World} {d bm m : Nat} {ka na ba pa ka' na' ba' pa' : Option Addr} {kn kc nn nc bn bc pn pc kn' kc' nn' nc' bn' bc' pn' pc' : Nat} {K K' : List ByteArray} {N N' : List Int} {T T' : List Zk} {P P' : List TxD} {tip tip' : Int} {f : Int -> Value} {β : Int -> List Zi}
theorem DeskAt.set(h:DeskAt Z w d bm m ka kn kc K na nn nc N ba bn bc T pa pn pc P tip f β)(g:Gr w w' (λq=>q=d))
  (box:w'.heap[d]? = dG (dA [F ka' kn' kc',F na' nn' nc',F ba' bn' bc',F pa' pn' pc',E J tip',.map (dG bm)].toArray 95 (0,0)))
  (D:∀ W,Gr w' W (λq=>q=d\/q=bm\/Z q)->Tl W ka kn K na nn N ba bn T pa pn P->Bk.TextsAt W ka' kn' K'/\Tr.IntsAt W na' nn' N'/\Tr.BlksAt W ba' bn' T'/\TxsAt W pa' pn' P')
  (s1:SlOk ka' kn' kc') (s2:SlOk na' nn' nc') (s3:SlOk ba' bn' bc') (s4:SlOk pa' pn' pc'):DeskAt Z w' d bm m ka' kn' kc' K' na' nn' nc' N' ba' bn' bc' T' pa' pn' pc' P' tip' f β:=by
 refine⟨box,λW gW=>?_,λW gW=>h.coi W ((g.mono (λq _ e=>.inl e)).trans gW),s1,s2,s3,s4,h.mp.gr g (λe=>h.ne (by have e:bm=d:=e;exact e.symm)),h.ne,λq e=>aF (h.zb q e) g.size⟩;have D0:=h.dat W ((g.mono (λq _ e=>.inl e)).trans gW);have⟨h1,h2,h3,h4⟩:=D W gW D0;exact⟨h1,h2,h3,h4⟩
theorem DeskAt.swept(h:DeskAt Z w d bm m ka kn kc K na nn nc N ba bn bc T pa pn pc P tip f β){V w1:World}(hv:ZD w V)(h1:ZD V w1)(hF:Fresh V.heap.size w1 (λw2=>Bk.TextsAt w2 ka' kn' K'/\TxsAt w2 pa' pn' P'))(s1:SlOk ka' kn' kc')(s4:SlOk pa' pn' pc')
  (g:Gr w1 w' (λq=>q=d)) (box:w'.heap[d]? = dG (dA [F ka' kn' kc',F na nn nc,F ba bn bc,F pa' pn' pc',E J tip,.map (dG bm)].toArray 95 (0,0))) :
  DeskAt Z w' d bm m ka' kn' kc' K' na nn nc N ba bn bc T pa' pn' pc' P' tip f β/\Gr w w' (λq=>q=d):=by
 have gw:Gr w w' (λq=>q=d):=(Gr.of (Zf hv h1)).trans g;have l1:=aA h.box;have l2:=h.mp.lt;have l3:=hv.size;refine⟨h.set gw box (λW gW D0=>?_) s1 h.sn h.sb s4,gw⟩;have ab:=hF W ((g.mono (λq _ e=>by have e:q=d:=e;omega)).trans (gW.mono (λq _ e=>e.elim (λe=>by omega) (λe=>e.elim (λe=>by omega) (λe=>aF (h.zb q e) l3)))));exact⟨ab.1,D0.n,D0.b,ab.2⟩
end
def Zgc(K:List ByteArray)(C:List Zi)(P:List TxD)(h:Int):List ByteArray×List TxD×Int:=
 if 1000<h then (K,P,0) else ((swF K C P h (swE K C P h)).1,(swF K C P h (swE K C P h)).2.1,swE K C P h)
def SwpR(Z:Nat->Prop)(w w':World)(d bm m:Nat)(K:List ByteArray)(na:Option Addr)(nn nc:Nat)(N:List Int)(ba:Option Addr)(bn bc:Nat)(T:List Zk)(P:List TxD)(tip:Int)(f:Int->Value)(β : Int->List Zi):Prop:=
 ∃ ka kn kc pa pn pc,DeskAt Z w' d bm m ka kn kc K na nn nc N ba bn bc T pa pn pc P tip f β/\Gr w w' (λq=>q=d)
end
section
section
variable {Z : Nat -> Prop} {w : World} {d bm m : Nat} {ka na ba pa : Option Addr} {kn kc nn nc bn bc pn pc : Nat} {K : List ByteArray} {N : List Int} {T : List Zk} {P : List TxD} {tip : Int} {f : Int -> Value} {β : Int -> List Zi}
theorem Zik(h:DeskAt Z w d bm m ka kn kc K na nn nc N ba bn bc T pa pn pc P tip f β)(hE:Env w)(ht:(Lit.int .i64 tip).wf=true)(z:Int)(K1 P1)(x:Int)(hx:Zgc K (β tip) P z=(K1,P1,x)) :
  Calls aB 43 #[.pointer (dG ⟨d,0,aD⟩),.int .i64 z] w λe w'=>e = dB (.int .i64 x)/\SwpR Z w w' d bm m K1 na nn nc N ba bn bc T P1 tip f β:=by
 unfold Zgc at hx;by_cases hz:1000<z
 ·rw[if_pos hz] at hx;simp only[aR] at hx;obtain⟨rfl,rfl,rfl⟩:=hx;have H:=Zb h;go_enter func43,ntmps43;go_wp2;go_ret;exact⟨rfl,ka,kn,kc,pa,pn,pc,Za H,Gr.refl _ _⟩
 ·rw[if_neg hz] at hx;have⟨y,hy⟩:=ZF (swE K (β tip) P z);rw[hy] at hx;have⟨⟨K2,P2,C2,F2⟩,hr⟩:=ZF (swF K (β tip) P z y);rw[hr] at hx;simp only[aR] at hx;obtain⟨rfl,rfl,rfl⟩:=hx;have⟨ca,cn,cc,bf,_,sC⟩:=h.c tip;have CC:=Zb (λV (hv:ZD w V)=>Rx (h.later hv) ht);rw[bf] at CC;have CS:=Zb (λV (hv:ZD w V)=>Dy ka kn kc K ca cn cc (β tip) pa pn pc P z y K2 P2 C2 F2 V (hE.later hv) (h.later hv).now.k (by have⟨a2,n2,c2,q1,q2,_⟩:=(h.later hv).c tip;rw[bf] at q1;injection q1 with e1 e2 e3;subst e1 e2 e3;exact q2) sC (h.later hv).now.p hy hr);obtain⟨c0,-,-,c3,dl⟩:=kc4 h.box;have KS:Hid (∀ U:World,w.heap.size<=U.heap.size->d<U.heap.size):=λU hu=>aF dl hu;have KC:Hid (∀ U:World,ZD w U->(U.cell? ⟨d,0,aD⟩=dG (F ka kn kc)/\U.cell? ⟨d,3,aD⟩=dG (F pa pn pc)/\d<U.heap.size)):=λU hu=>⟨Ze hu c0,Ze hu c3,aF dl hu.size⟩;have H:=Zb h;go_enter func43,ntmps43
  go_upto_region 3 with fail
  go_cut [4] from 7 to 32 (λs4 wx=>s4 = .int .i64 y/\Hid (SwpR Z w wx d bm m K2 na nn nc N ba bn bc T P2 tip f β))
  case first=>
   refine bC (S:=λU=>d<U.heap.size) (by kernel_rfl) (KS _ (aE _)) (λab=>?_);refine tkL 0 rfl ab ?_;refine tkL 1 rfl ab ?_;refine tkL 2 rfl ab ?_;refine tkL 3 rfl ab ?_;refine tkL 4 rfl ab ?_;refine tkL 6 rfl ab ?_;refine tkL 8 rfl ab ?_;refine tkL 9 rfl ab ?_;refine tkL 10 rfl ab ?_;refine tkL 11 rfl ab ?_;refine tkL 13 rfl ab ?_;have hb:=Zj w;refine wpAnyH_ready (rs:=[5,7,12]) (by kernel_rfl) (by simp) ?_;refine rdC rfl (λKQ hK=>?_) (rdC rfl (λKQ hK=>?_) (rdC rfl (λKQ hK=>?_) AllReadyH.nil));have⟨l0,l3,ll⟩:=KC w.drew hb;go_simp;refine hK.out _ _ (KS _ hb.size) (λab=>?_);refine wpAnyH_ready (rs:=[7,12]) (by kernel_rfl) (by simp) ?_;refine rdC rfl (λKQ hK=>?_) (rdC rfl (λKQ hK=>?_) AllReadyH.nil);refine Zq (by kernel_rfl) 63 #[.pointer (dG ⟨d,0,aD⟩)] (by kernel_rfl) (CC w.drew hb) ?_;rintro e v1 ⟨rfl,ae⟩;refine⟨_,rfl,?_⟩;have hb:=Zf hb ae;refine hK.out _ _ (KS _ hb.size) (λab=>?_);(try simp only[Act.put,ZA,ZB,ZC]);refine rdY 12 rfl (λKQ hK=>?_);have⟨l0,l3,ll⟩:=KC v1 hb;go_simp;refine hK.out _ _ (KS _ hb.size) (λab=>?_);obtain⟨vz,af⟩:∃ z,z=v1:=⟨_,rfl⟩;subst af;rotate_left;have⟨l0,l3,ll⟩:=KC w.drew hb;go_simp;refine hK.out _ _ (KS _ hb.size) (λab=>?_);refine rdS 7 rfl (CC w.drew hb) ?_;rintro e v2 ⟨rfl,ae⟩;have hb:=Zf hb ae;refine⟨_,rfl,(KS _ hb.size),λab=>?_⟩;(try simp only[Act.put,ZA,ZB,ZC]);obtain⟨vz,af⟩:∃ z,z=v2:=⟨_,rfl⟩;subst af;rotate_left
   refine Zq (by kernel_rfl) 63 #[.pointer (dG ⟨d,0,aD⟩)] (by kernel_rfl) (CC w.drew hb) ?_;rintro e v3 ⟨rfl,ae⟩;refine⟨_,rfl,?_⟩;have hb:=Zf hb ae;refine hK.out _ _ (KS _ hb.size) (λab=>?_);(try simp only[Act.put,ZA,ZB,ZC]);refine wpAnyH_ready (rs:=[5,12]) (by kernel_rfl) (by simp) ?_;refine rdC rfl (λKQ hK=>?_) (rdC rfl (λKQ hK=>?_) AllReadyH.nil);have⟨l0,l3,ll⟩:=KC v3 hb;go_simp;refine hK.out _ _ (KS _ hb.size) (λab=>?_);refine rdY 12 rfl (λKQ hK=>?_);have⟨l0,l3,ll⟩:=KC v3 hb;go_simp;refine hK.out _ _ (KS _ hb.size) (λab=>?_);obtain⟨vz,af⟩:∃ z,z=v3:=⟨_,rfl⟩;subst af;rotate_left;have⟨l0,l3,ll⟩:=KC v3 hb;go_simp;refine hK.out _ _ (KS _ hb.size) (λab=>?_);refine rdY 5 rfl (λKQ hK=>?_);have⟨l0,l3,ll⟩:=KC v3 hb;go_simp;refine hK.out _ _ (KS _ hb.size) (λab=>?_);obtain⟨vz,af⟩:∃ z,z=v3:=⟨_,rfl⟩;subst af;rotate_left;have⟨l0,l3,ll⟩:=KC w.drew hb;go_simp;refine hK.out _ _ (KS _ hb.size) (λab=>?_);refine wpAnyH_ready (rs:=[5,7]) (by kernel_rfl) (by simp) ?_;refine rdC rfl (λKQ hK=>?_) (rdC rfl (λKQ hK=>?_) AllReadyH.nil);have⟨l0,l3,ll⟩:=KC w.drew hb;go_simp;refine hK.out _ _ (KS _ hb.size) (λab=>?_);refine rdS 7 rfl (CC w.drew hb) ?_;rintro e v4 ⟨rfl,ae⟩;have hb:=Zf hb ae;refine⟨_,rfl,(KS _ hb.size),λab=>?_⟩;(try simp only[Act.put,ZA,ZB,ZC]);obtain⟨vz,af⟩:∃ z,z=v4:=⟨_,rfl⟩;subst af;rotate_left;refine Zq (by kernel_rfl) 63 #[.pointer (dG ⟨d,0,aD⟩)] (by kernel_rfl) (CC w.drew hb) ?_;rintro e v5 ⟨rfl,ae⟩;refine⟨_,rfl,?_⟩
   have hb:=Zf hb ae;refine hK.out _ _ (KS _ hb.size) (λab=>?_);(try simp only[Act.put,ZA,ZB,ZC]);refine rdY 5 rfl (λKQ hK=>?_);have⟨l0,l3,ll⟩:=KC v5 hb;go_simp;refine hK.out _ _ (KS _ hb.size) (λab=>?_);obtain⟨vz,af⟩:∃ z,z=v5:=⟨_,rfl⟩;subst af;rotate_left
   all_goals
    refine rdS 14 rfl (CS vz hb) ?_;rintro e vy ⟨k5,aw,bi,sa,sn,sc,oa,on,oc,rfl,bd,cp,cq,-,ae⟩;have aq:=Zf hb ae;refine⟨_,rfl,(KS _ aq.size),λab=>?_⟩;refine tkL 15 rfl ab ?_;refine tkL 16 rfl ab ?_;refine tkL 17 rfl ab ?_;refine tkL 18 rfl ab ?_;refine tkL 19 rfl ab ?_;refine tkL 20 rfl ab ?_;refine tkL 21 rfl ab ?_;refine tkL 22 rfl ab ?_;have be:=ZE aq H.box;obtain⟨y0,-,-,y3,g0,-,-,g3,yl⟩:=kf4 be;refine rdY 23 rfl (λKQ hK=>?_);go_simp;refine hK.out _ _ (KS _ (by simpa[World.setCell] using aq.size)) (λab=>?_);refine tkL 24 rfl ab ?_;refine tkL 25 rfl ab ?_;refine tkL 26 rfl ab ?_;refine rdY 27 rfl (λKQ hK=>?_);go_simp;refine hK.out _ _ (KS _ (by simpa[World.setCell] using aq.size)) (λab=>?_);refine tkL 28 rfl ab ?_;refine bZ (by kernel_rfl) ?_ _;go_wp2_with fail;go_meet
    case rel=>
     refine⟨rfl,k5,aw,bi,sa,sn,sc,?_⟩;have bv:Fresh vz.heap.size vy (λw2=>Bk.TextsAt w2 k5 aw K2/\TxsAt w2 sa sn P2):=λW g=>⟨(bd W g).1,(bd W g).2.1⟩;exact H.swept hb ae bv cp cq (((Gr.refl vy (λq=>q=d)).one d 0 (.inl rfl) (F k5 aw bi)).one d 3 (.inl rfl) (F sa sn sc)) (Tr.set_cells (Tr.set_cells be 0 _) 3 _)
  case rest=>
   obtain⟨rfl,HD⟩:=hcut;go_wp2;go_ret;exact⟨rfl,Za HD⟩
end
end
structure Dsk where
 k:List ByteArray
 n:List Int
 t:List Zk
 p:List TxD
 tip:Int
 β : Int->List Zi
def tkR(D:Dsk)(b:Zk):Int×Int×Dsk:=
 if (Xk D.k b).2.2.2≠0 then ((Xk D.k b).2.2.2,0,D) else
 if (Tr.addE D.n D.t (Xk D.k b).2.1 b).2.2≠0 then ((Tr.addE D.n D.t (Xk D.k b).2.1 b).2.2,0,D) else
 if (Xf (Xk D.k b).1 (D.β b.1) b).1≠0 then ((Xf (Xk D.k b).1 (D.β b.1) b).1,0,D) else
 if (Tr.bstD (Tr.addE D.n D.t (Xk D.k b).2.1 b).1 (Tr.addE D.n D.t (Xk D.k b).2.1 b).2.1).2≠0 then ((Tr.bstD (Tr.addE D.n D.t (Xk D.k b).2.1 b).1 (Tr.addE D.n D.t (Xk D.k b).2.1 b).2.1).2,0,D) else
 let N1:=(Tr.addE D.n D.t (Xk D.k b).2.1 b).1
 let T1:=(Tr.addE D.n D.t (Xk D.k b).2.1 b).2.1
 let t:=(Tr.bstD N1 T1).1
 let γ:=J3 D.β (Xk D.k b).2.1 (Xf (Xk D.k b).1 (D.β b.1) b).2.1
 let v:=Zgc (Xk D.k b).1 (γ t) D.p (Wi N1 T1 t+1)
 if v.2.2≠0 then (v.2.2,0,D) else (0,(Xk D.k b).2.1,⟨v.1,N1,T1,v.2.1,t,γ⟩)
def DeskOn(Z:Nat->Prop)(w:World)(d bm m:Nat)(D:Dsk):Prop:=Zok Z w d bm m D.k D.n D.t D.p D.tip D.β
def TakR(Z:Nat->Prop)(w w':World)(d bm m:Nat)(D:Dsk)(x nm:Int)(e:Ending):Prop:=
 e = dB (dC #[E J nm,E J x])/\Gr w w' (λq=>q=d\/q=bm)/\(x=0->DeskOn Z w' d bm (m+1) D)
section
section
variable {Z : Nat -> Prop} {w w' : World} {d bm m : Nat} {ka na ba pa : Option Addr} {kn kc nn nc bn bc pn pc : Nat} {K : List ByteArray} {N : List Int} {T : List Zk} {P : List TxD} {tip : Int} {f : Int -> Value} {β : Int -> List Zi}
theorem DeskAt.named(h:DeskAt Z w d bm m ka kn kc K na nn nc N ba bn bc T pa pn pc P tip f β){v w1:World}(hv:ZD w v)(h1:ZD v w1){ka' kn' kc' K'}(hK:Fresh v.heap.size w1 (λw2=>Bk.TextsAt w2 ka' kn' K'))(sk:SlOk ka' kn' kc') :
  DeskAt Z (w1.setCell ⟨d,0,aD⟩ (F ka' kn' kc')) d bm m ka' kn' kc' K' na nn nc N ba bn bc T pa pn pc P tip f β:=by
 have h2:=h.later (Zf hv h1);have g:Gr w1 (w1.setCell ⟨d,0,aD⟩ (F ka' kn' kc')) (λq=>q=d):=(Gr.refl w1 (λq=>q=d)).one d 0 (.inl rfl) _;have l1:=aA h.box;have l2:=h.mp.lt;have l3:=hv.size;refine h2.set g (Tr.set_cells h2.box 0 _) (λW gW D0=>⟨?_,D0.n,D0.b,D0.p⟩) sk h.sn h.sb h.sp
 exact hK W ((g.mono (λq _ e=>by have e:q=d:=e;omega)).trans (gW.mono (λq _ e=>by
  rcases e with e|e|e
  ·omega
  ·omega
  ·exact aF (h.zb q e) l3)))
theorem DeskAt.grown(h:DeskAt Z w d bm m ka kn kc K na nn nc N ba bn bc T pa pn pc P tip f β){v w1:World}(hv:ZD w v)(h1:ZD v w1){na' ba' n' nc' bc' N' T'}(hF:Fresh v.heap.size w1 (λw2=>Tr.IntsAt w2 na' n' N'/\Tr.BlksAt w2 ba' n' T'))(s1:SlOk na' n' nc')(s2:SlOk ba' n' bc') :
  DeskAt Z ((w1.setCell ⟨d,1,aD⟩ (F na' n' nc')).setCell ⟨d,2,aD⟩ (F ba' n' bc')) d bm m ka kn kc K na' n' nc' N' ba' n' bc' T' pa pn pc P tip f β:=by
 have h2:=h.later (Zf hv h1);have g:Gr w1 ((w1.setCell ⟨d,1,aD⟩ (F na' n' nc')).setCell ⟨d,2,aD⟩ (F ba' n' bc')) (λq=>q=d):=((Gr.refl w1 (λq=>q=d)).one d 1 (.inl rfl) _).one d 2 (.inl rfl) _;have l1:=aA h.box;have l2:=h.mp.lt;have l3:=hv.size;refine h2.set g (Tr.set_cells (Tr.set_cells h2.box 1 _) 2 _) (λW gW D0=>?_) h.sk s1 s2 h.sp;have ac:=hF W ((g.mono (λq _ e=>by have e:q=d:=e;omega)).trans (gW.mono (λq _ e=>e.elim (λe=>by omega) (λe=>e.elim (λe=>by omega) (λe=>aF (h.zb q e) l3)))));exact⟨D0.k,ac.1,ac.2,D0.p⟩
theorem DeskAt.tipped(h:DeskAt Z w d bm m ka kn kc K na nn nc N ba bn bc T pa pn pc P tip f β)(t:Int) :
  DeskAt Z (w.setCell ⟨d,4,aD⟩ (E J t)) d bm m ka kn kc K na nn nc N ba bn bc T pa pn pc P t f β:=by
 have g:Gr w (w.setCell ⟨d,4,aD⟩ (E J t)) (λq=>q=d):=(Gr.refl w (λq=>q=d)).one d 4 (.inl rfl) _;exact h.set g (Tr.set_cells h.box 4 _) (λW gW D0=>⟨D0.k,D0.n,D0.b,D0.p⟩) h.sk h.sn h.sb h.sp
end
theorem Kt{N T}{t:Int}(h:Tr.bstD N T=(t,0)):(Lit.int .i64 t).wf=true/\0<=Wi N T t/\Wi N T t<=1000:=by
 have⟨hc,ht⟩:=V9 h;have ab:=Wh hc;refine⟨?_,ab.2.2.2.2.2 t⟩
 rcases ht with rfl|ht
 ·decide
 ·exact ab.2.2.1 t ht
theorem Zoe{N T}{s:Int}{b:Zk}{N' T'}(h:Tr.addE N T s b=(N',T',0)):(Lit.int .i64 s).wf=true/\(Lit.int .i64 b.1).wf=true/\Tr.chkTr N' T'=0:=by
 obtain⟨h1,h2,h3,rfl,rfl⟩:=Tr.addE_ok h;have hc:=Tr.chkTr_snoc h1 h2 h3;have aa:=Wh hc;exact⟨aa.2.2.1 s (by simp),aa.2.2.2.1 b (by simp),hc⟩
end
