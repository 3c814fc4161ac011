import Derived.Test.YtmomfkikogbdeaaGreatDoorH
import Derived.Test.YtmomfkikogbdeaaGreatDoorG29
open Go renaming lt_of_block->aA,wp_region_held_drew->dD
open Go.IntKind renaming i64->J
open Go.Obj renaming cells->dE
open Go.Value renaming int->E,slice->F
open Go.World renaming cell?_of_block->cA,block_lt_of_cell?->aE
open List renaming replicate->aR,getElem?_eq_getElem->aZ,length_set->cR
open Nat renaming le_refl->aF
namespace Go.Proofs.YtmomfkikogbdeaaGreatDoor
open Go.RowKit
theorem Zka{K C}{b:Zk}{N:List Int}(h:nfD K C b=(N,0)):Yq b=0/\N.length=b.2.2.2.2.length:=by
 unfold nfD at h;split at h
 ·next q=>simp at h;exact absurd h.2 q
 ·injection h with h1 h2;unfold Xl at h1 h2;split at h2
  ·next q=>exact absurd h2 q
  ·next q=>
   rw[if_neg q] at h1;split at h2
   ·next q=>exact absurd h2 q
   ·next q2=>
    rw[if_neg q2] at h1;obtain⟨M,N',x,e⟩:∃ M N' x,Bk.allR K (Yb b)=(M,N',x):=⟨_,_,_,rfl⟩;rw[e] at q2 h1;obtain rfl:x=0:=Decidable.not_not.1 q2;have:=Mf e;simp only at h1;refine⟨Decidable.not_not.1 q,?_⟩;rw[<-h1,List.length_take,this];simp[Yb]
theorem Tryz.infoUndo:(Tryz.prog.info? 153).map (λi=>(i.zero,i.size,i.bytes))=some (some (.agg #[F none 0 0]),1,24):=by kernel_rfl
theorem Zgi(m:Nat):(madeCells (Value.agg #[F none 0 0]).cells (m*1)).toList=aR m (F none 0 0):=by
 rw[Nat.mul_one];exact toList_madeCells_one _ _
theorem Zbx{p h k n:Int}{L}(e:Yq (p,h,k,n,L)=0):rwD h=((rwD h).1,0):=by
 unfold Yq at e;split at e
 ·cases e
 ·next q=>
  unfold rwD;simp[Wk] at q;rw[if_pos (by simp;omega)]
set_option maxRecDepth 10000 in
set_option maxHeartbeats 12800000 in
theorem Zcj(ka kn kc K la ln lc C0)(p h k0 n:Int)(a m c L)(x:Int)(C' S' w)(hE:Env w)(hK:Bk.TextsAt w ka kn K)(hC:CoinsAt w la ln C0)(sC:SlOk la ln lc)(hL:TxsAt w a m L)(hx:Xw K C0 (p,h,k0,n,L)=(x,C',S')) :
  Calls Tryz.prog 21 #[.agg #[F ka kn kc],F la ln lc,.agg #[E J p,E J h,E J k0,E J n,F a m c]] w λe w'=>Zrp w w' x C' S' e:=by
 obtain⟨X,hX⟩:=ZG ((w.alloc (dE #[F ka kn kc] 24)).alloc (dE #[E J p,E J h,E J k0,E J n,F a m c] 39));have bk:ZD w X:=by rw[hX];exact Zf (Zh _ _) (Zh _ _)
 have dz:X.heap[w.heap.size]? = some (dE [F ka kn kc].toArray 24 (0,0)):=by
  rw[hX,Below.heap_alloc _ _ _ (by simp)];exact Yp _ _ _
 have cx:X.heap[w.heap.size+1]? = some (dE [E J p,E J h,E J k0,E J n,F a m c].toArray 39 (0,0)):=by
  rw[hX];have:=Zx (w.alloc (dE #[F ka kn kc] 24)) (E J p) (E J h) (E J k0) (E J n) (F a m c) 39;rw[show (w.alloc (dE #[F ka kn kc] 24)).heap.size=w.heap.size+1 by simp] at this;exact this
 obtain⟨N,y1,dd⟩:∃ N y1,nfD K C0 (p,h,k0,n,L)=(N,y1):=⟨_,_,rfl⟩;have C1:=Zd (Cg ka kn kc K la ln lc C0 p h k0 n a m c L N y1 X (hE.later bk) (hK.later bk) (hC.later bk) (hL.later bk) dd);unfold Xw at hx;rw[dd] at hx;simp only at hx;have iy:=Zb dz 0 _ rfl;obtain⟨ey,ez,fa,fb,fc,-⟩:=kc5 cx;have iz:=aA dz;have fd:=aA cx;obtain⟨eg,ia⟩:=kh2 bk cx;by_cases e1:y1=0
 ·subst e1;rw[if_neg (by simp)] at hx;obtain⟨fi,dy⟩:=Zka dd;have hz:L.length=m:=hL.1;obtain⟨f1,f2,f3,_,f5⟩:=Ww fi;simp only at f1 f2 f3 f5 dy hz;rw[hz] at dy hx;have fk:0<m:=by omega
  have gp:m<=4:=by omega
  obtain⟨tb,ad,rfl,ir,gl⟩:=hL.2 fk;obtain⟨r,hr⟩:=ZF ((rwD h).1);have fp:=Zbx fi;rw[hr] at hx fp;have ga:Hid (∀ W,ZD w W->∀ i (hi:i<L.length),TxAt W tb (ad+i*3) L[i]):=λW hb i hi=>TxAt.kept _ _ _ _ _ hb (gl i hi);have gz:Hid (∀ t∈L,t.2.2.length<=6/\∀ x∈t.2.2,0<=x.1/\x.1<=1000000000):=λt ht=>⟨(Un (f5 t ht)).2.1,Zdt (f5 t ht)⟩;obtain⟨HC,fz,HZ,gx,gy⟩:=kh5 hC sC hz dy fp;have HX:Hid (Wv h r L N m 0 C0 (aR m [])=(x,C',S')):=hx;clear hE hK hC sC hL hx dz cx bk dd fi dy hz f1 f2 f3 f5 gl hr fp ir;obtain⟨i0,jz,iv,iw,ix⟩:=info_parts Tryz.infoUndo;go_enter Tryz.func21,Tryz.ntmps21;go_wp2_with fail;rw[<-hX];clear hX;refine C1.mono ?_;rintro e w1 ⟨na,nn,nc,rfl,hN,eb,bx⟩;obtain⟨HN,jk⟩:=kh2 hN eb;have h21:=ZE bx ia;have es:=Zd h21;obtain⟨-,-,-,-,ie,ig⟩:=kc5 h21;have af:=Zd (Zf eg bx);have jr:w.heap.size+2<=w1.heap.size:=by have:=aA h21;omega
  clear hN eb bx h21 C1 iy ey ez fa fb fc iz fd eg;go_wp2_with fail;have et:Hid (∀ W,ZD w1 W->ZD w1 W/\W.cell? ⟨w.heap.size+1,4,none⟩=some (F (some ⟨tb,ad,none⟩) m c)):=λW hb=>⟨hb,Zb (ZE hb es) 4 _ rfl⟩;refine dD (S:=λW=>ZD w1 W/\W.cell? ⟨w.heap.size+1,4,none⟩=some (F (some ⟨tb,ad,none⟩) m c)) (by kernel_rfl) (et _ (Zi _)) (λaa=>?_);refine tkL 0 rfl aa ?_;refine tkL 1 rfl aa ?_;refine tkL 2 rfl aa ?_;refine tkL 3 rfl aa ?_;refine tkL 5 rfl aa ?_;refine rdY 4 rfl (λK hK=>?_);refine Zfa (by kernel_rfl) _ _ _ (by rfl) w1.heap.size 153 i0 (.agg #[F none 0 0]) 1 Tryz.underlying42 jz iv iw .i64 .i64 _ _ m (by rfl) (by rfl) (by rfl) (by rfl) (by rw[ix];omega) (by unfold maxLen;omega) (aF _) w1.heap.size (by rfl) ?_;intro w2 gs gm;have ea:ZD w1 w2:=Zf (Zi w1) ((Below.refl _ _).grown gm (aF _) (λk h=>by cases h));clear aa;refine hK.out _ _ (et _ ea) (λaa=>?_);clear hK K;refine tkL 6 rfl aa ?_;refine wpAnyH_done (by kernel_rfl) ?_ _;have gi:UsAt 153 w1.heap.size (aR m []) w2:=Zpu (base:=w1.heap.size) (by rw[<-Zgi];exact gs);obtain⟨ep,gw⟩:=kh2 gi ea;have h22:=ZE ea es;have gd:=Zd h22;obtain⟨-,-,-,-,ij,ik⟩:=kc5 h22;have C2:=Zd (Zid m w2 fk gp);clear gi ea h22 gs gm ie ig es aa et;go_wp2_with fail;refine C2.mono ?_;rintro e w3 ⟨rfl,fj⟩;have HF:=Zd fj;have bz:=fj.bel;obtain⟨jj,gb⟩:=kh2 bz (ep.later bz);have jm:=ep.ok.lt
  have GB:Hid (∀ W,Gr w3 W (λq=>q=w1.heap.size)->ZD w1 W):=λW g=>g.below (Zf gw bz) (by have:=bz.size;omega) (λq e=>by rw[e];exact aF _);have ib:=Zd (ZE bz gd);clear fj bz C2 ep ij ik gd;go_wp2
  go_loopw [6,7,8,32] (λov uv jw i wr=>∃ (k:Nat) (oa:Option Addr) (aj oc:Nat) (C:List Zj) (S:List (List Zj)),k<=m/\ov = F oa aj oc/\uv = F (some ⟨w1.heap.size,0,none⟩) m m/\jw = E J 0/\i = E J k/\Hid (CoinsAt wr oa aj C/\SlOk oa aj oc)/\Hid (UsAt 153 w1.heap.size S wr)/\Hid (S.length=m)/\Hid (∀ s∈S,s.length<=6/\∀ x∈s,0<=cv x/\cv x<=1000000000)/\Hid (Wv h r L N (m - k) k C S=(x,C',S'))/\Hid (Gr w3 wr (λq=>q=w1.heap.size))) (λ_ _ _ i _=>m - (intOf i).toNat)
  case atStart=>exact⟨0,la,ln,lc,C0,aR m [],Nat.zero_le _,rfl,rfl,rfl,rfl,(⟨HC.later (af.trans ((Za GB w3 (Gr.refl _ _)).mono af.size)),Za fz⟩:CoinsAt w3 la ln C0/\SlOk la ln lc),gb,(List.length_replicate:(aR m ([]:List Zj)).length=m),(λs hs=>by rw[(List.mem_replicate.1 hs).2];exact⟨by simp,λx hx=>by cases hx⟩:∀ s∈aR m ([]:List Zj),s.length<=6/\∀ x∈s,0<=cv x/\cv x<=1000000000),HX,(Gr.refl _ _:Gr w3 w3 (λq=>q=w1.heap.size))⟩
  case round=>
    obtain⟨k,oa,aj,oc,C,S,hk,rfl,rfl,rfl,rfl,HO,HU,bt,eo,HQ,HG⟩:=hrel;clear HX gb HC fz;have ca:=GB wr HG;have bq:=af.trans (ca.mono af.size);by_cases ip:k<m
    ·have cz:(k+1) % m<m:=Nat.mod_lt _ fk;have gv:=(cA (a:=⟨w2.heap.size,k,none⟩) (HG.block w2.heap.size HF.lt (by omega))).trans (HF.cells (aF _) k ip);have jt:w2.heap.size<wr.heap.size:=Nat.lt_of_lt_of_le HF.lt HG.size;unfold At at gv;obtain⟨i,hi⟩:=ZF ((k+1) % m);rw[hi] at cz gv;have fl:m - k=(m - (k+1))+1:=(by omega);have gn:i<L.length:=(by rw[Za HZ];exact cz);obtain⟨t1,I,O,ht⟩:∃ t1 I O,L[i]=(t1,I,O):=⟨_,_,_,rfl⟩;obtain⟨nm,fo⟩:=ZF (N.getD i 0);obtain⟨y,M,s,fg⟩:∃ y M s,apD C (t1,I,O) nm h=(y,M,s):=⟨_,_,_,rfl⟩;have ak:=Za HQ;rw[fl,Ek (i:=i) (by rw[Za HZ];exact hi) (t:=(t1,I,O)) (by rw[List.getD_eq_getElem?_getD,aZ gn];exact ht) fo fg,Za HZ] at ak;have ak:=Zd ak;have go:i<N.length:=(by rw[Za gx];exact cz);have gq:N[i]=nm:=(by rw[<-fo,List.getD_eq_getElem?_getD,aZ go];rfl);obtain⟨nb,no,rfl,gj⟩:=HN.2 (by have:=HN.1;omega);have dr:=Zd fg;have jq:(k:Int)<(m:Int):=(by omega);have jn:(i:Int)<(m:Int):=(by omega);have js:N.length=nn:=HN.1;have jo:(i:Int)<(nn:Int):=(by omega);have du:Hid (∀ W,ZD w1 W->W.cell? ⟨nb,no+i,none⟩=some (E J nm)):=λW hb=>by rw[<-gq];exact Ze hb (gj i go)
     have bv:Hid (∀ W,ZD w W->TxAt W tb (ad+i*3) (t1,I,O)):=λW hb=>by rw[<-ht];exact ga W hb i gn
     have dq:Hid (∀ W,ZD w1 W->W.heap[w.heap.size+1]? = w1.heap[w.heap.size+1]?):=λW hb=>hb.block _ (by omega);have ed:Hid (w1.heap[w.heap.size+1]? = some (dE [E J p,E J h,E J k0,E J n,F (some ⟨tb,ad,none⟩) m c].toArray 39 (0,0))):=(dq w3 (GB w3 (Gr.refl _ _))).symm.trans ib;clear gj fo gq ht fg HQ;by_cases cy:i=0
     ·have jx:((i:Int) == 0)=true:=(by simp[cy]);obtain⟨o,ho⟩:=ZF (decide (0<=Xy r L S m));have CV:=Zd (Zci p h k0 n tb ad m c L w1.heap.size 0 m m S r o wr HZ gp (ga wr bq) bt rfl (λi hi=>HU.undo i hi) gz eo gy ho);have ay:=(dq wr ca).trans ed;obtain⟨ey,ez,fa,fb,fc,fd⟩:=kc5 ay;clear ay;cases o with
      | false=>
       have R:Hid (((9:Int),([]:List Zj),([]:List (List Zj)))=(x,C',S')):=(by have e:=Za ak;rw[if_pos ⟨cy,by have:=of_decide_eq_false ho;omega⟩] at e;exact e);have ei:=Zd bq;clear ak bq ca ho cy;go_wp2_with fail;refine CV.mono ?_;rintro e w4 ⟨rfl,bj⟩;have eh:=Zd (Zf ei bj);clear bj CV;go_wp2
       go_ret3
       exact Hc R eh
      | true=>
       have da:¬(i=0/\Xy r L S m<0):=λq=>by have:=of_decide_eq_true ho;omega
       have cj:=Zd da;clear ho da bq ca cy;go_wp2_with fail;refine CV.mono ?_;rintro e w4 ⟨rfl,bj⟩;have cl:=Zd (⟨HO.1.later bj,HO.2⟩:CoinsAt w4 oa aj C/\SlOk oa aj oc);obtain⟨au,cg⟩:=kh2 (HU.later bj) (Gr.on HG bj);clear bj CV ey ez fa fb fc fd HO HU HG;have GW:Hid (∀ V,Gr w4 V (λq=>q=w1.heap.size)->ZD w1 V):=λV g=>GB V (cg.trans g)
       have AP:=Zd (λV (g:Gr w4 V (λq=>q=w1.heap.size))=>(by
         obtain⟨_,⟨ai,ni,ci,g1,hI,sI⟩,ao,ae,co,g2,hO,sO⟩:=bv V (af.trans ((GW V g).mono af.size));exact⟨ai,ni,ci,ao,ae,co,g1,g2,E9 oa aj oc C t1 ai ao ni ci ae co I O nm h y M s V (Qi cl.1 au.ok g) cl.2 hI hO sI dr⟩ :
         ∃ ai ni ci ao ae co,V.cell? ⟨tb,ad+i*3+1,none⟩=some (F ai ni ci)/\V.cell? ⟨tb,ad+i*3+2,none⟩=some (F ao ae co)/\Calls Tryz.prog 76 #[F oa aj oc,.agg #[E J t1,F ai ni ci,F ao ae co],E J nm,E J h] V λe w'=>ApR V w' y M s e))
       obtain⟨ai,ni,ci,ao,ae,co,dm,dn,_⟩:=AP w4 (Gr.refl _ _)
       have ec:=Zd (λV (g:Gr w4 V (λq=>q=w1.heap.size)) (g1:V.cell? ⟨tb,ad+i*3+1,none⟩=some (F ai ni ci)) (g2:V.cell? ⟨tb,ad+i*3+2,none⟩=some (F ao ae co))=>(by
         obtain⟨ic,ja,ih,id,jc,ii,q1,q2,q⟩:=AP V g;rw[g1] at q1;rw[g2] at q2;cases q1;cases q2;exact q :
         Calls Tryz.prog 76 #[F oa aj oc,.agg #[E J t1,F ai ni ci,F ao ae co],E J nm,E J h] V λe w'=>ApR V w' y M s e))
       have KS:Hid (∀ V,Gr w4 V (λq=>q=w1.heap.size)->UsOk 153 w1.heap.size m V->Gr w4 V (λq=>q=w1.heap.size)/\V.cell? ⟨w.heap.size+1,1,none⟩=some (E J h)/\V.cell? ⟨w.heap.size+1,4,none⟩=some (F (some ⟨tb,ad,none⟩) m c)/\V.cell? ⟨tb,ad+i*3,none⟩=some (E J t1)/\V.cell? ⟨tb,ad+i*3+1,none⟩=some (F ai ni ci)/\V.cell? ⟨tb,ad+i*3+2,none⟩=some (F ao ae co)/\V.cell? ⟨nb,no+i,none⟩=some (E J nm)/\UsOk 153 w1.heap.size m V):=λV g o=>by
        have bo:=GW V g;have ay:=(dq V bo).trans ed;have fq:=bv V (af.trans (bo.mono af.size));have fh:=GW w4 (Gr.refl _ _);have dc:=bv w4 (af.trans (fh.mono af.size));have fm:=au.ok.other dc.1;have kq:=λ(j:Nat)=>cA (a:=⟨tb,j,none⟩) (g.block tb (aE _ _ dc.1) fm);exact⟨g,Zb ay 1 _ rfl,Zb ay 4 _ rfl,fq.1,(kq _).trans dm,(kq _).trans dn,du V bo,o⟩
       have U0:Hid (UsOk 153 w1.heap.size m w4):=(by have:=au.ok;rw[Za bt] at this;exact this);have jb:nb<w4.heap.size:=aE _ _ (du w4 (GW w4 (Gr.refl _ _)));clear dm dn AP;go_wp2_with fail;refine dD (S:=λV=>Gr w4 V (λq=>q=w1.heap.size)/\V.cell? ⟨w.heap.size+1,1,none⟩=some (E J h)/\V.cell? ⟨w.heap.size+1,4,none⟩=some (F (some ⟨tb,ad,none⟩) m c)/\V.cell? ⟨tb,ad+i*3,none⟩=some (E J t1)/\V.cell? ⟨tb,ad+i*3+1,none⟩=some (F ai ni ci)/\V.cell? ⟨tb,ad+i*3+2,none⟩=some (F ao ae co)/\V.cell? ⟨nb,no+i,none⟩=some (E J nm)/\UsOk 153 w1.heap.size m V) (by kernel_rfl) (KS _ (Gr.refl _ _).draw (U0.later (Zi _))) (λaa=>?_);refine tkL 0 rfl aa ?_;refine tkL 1 rfl aa ?_;refine tkL 2 rfl aa ?_;refine tkL 3 rfl aa ?_;refine tkL 4 rfl aa ?_;refine tkL 5 rfl aa ?_;refine tkL 6 rfl aa ?_;refine tkL 7 rfl aa ?_;refine tkL 8 rfl aa ?_;refine tkL 9 rfl aa ?_;refine tkL 10 rfl aa ?_;refine tkL 11 rfl aa ?_;refine tkL 12 rfl aa ?_;refine tkL 13 rfl aa ?_;refine rdY 14 rfl (λK hK=>?_);refine Hw (by kernel_rfl) 76 #[F oa aj oc,.agg #[E J t1,F ai ni ci,F ao ae co],E J nm,E J h] (by kernel_rfl) (ec _ aa.1 aa.2.2.2.2.1 aa.2.2.2.2.2.1) ?_;rintro e w6 ⟨am,bs,jv,sa,ns,cs,rfl,ct,dj,cw,dk,aw⟩;refine⟨_,rfl,?_⟩;obtain⟨ek,eu,en,ev,er,ce,ap⟩:=kh7 ct dj cw dk (au.later (Zf (Zi w4) aw)) (Gr.on aa.1 aw) (UsOk.later aa.2.2.2.2.2.2.2 aw);obtain⟨zz,z6⟩:=ap.cell cz;have fw:=ap.free i;clear ct dj cw dk aw
       clear aa;refine hK.out _ _ (KS _ ce ap) (λaa=>?_);clear hK K;refine tkL 15 rfl aa ?_;refine tkL 16 rfl aa ?_;refine tkL 17 rfl aa ?_;refine tkL 18 rfl aa ?_;refine tkL 19 rfl aa ?_;refine tkL 20 rfl aa ?_;refine rdY 21 rfl (λK hK=>?_);go_simp;clear aa;refine hK.out _ _ (KS _ (ce.one w1.heap.size i (.inl rfl) _) (UsOk.put ap i _ _ _)) (λaa=>?_);clear hK K;refine tkL 22 rfl aa ?_;refine wpAnyH_done (by kernel_rfl) ?_ _
       all_goals
        have bh:=aa.1;clear aa;obtain⟨cm,cf,cd,cn⟩:=kh4 (Qi ek ap ((Gr.refl w6 (λq=>q=w1.heap.size)).one w1.heap.size i (.inl rfl) (F sa ns cs))) (cg.trans bh) (af.trans ((GW _ bh).mono af.size)) (er.put i en ev);obtain⟨Q,hQ⟩:=ZG (w6.setCell ⟨w1.heap.size,i,none⟩ (F sa ns cs));rw[<-hQ] at cm cf cd cn ⊢;clear hQ bh z6 fw;by_cases ju:y=0
        ·subst ju;have R:Hid (Wv h r L N (m - (k+1)) (k+1) M (S.set i s)=(x,C',S')):=by have e:=Za ak;rw[if_neg cj,if_neg (by simp)] at e;exact e
         have FB:Hid (∀ z∈S.set i s,z.length<=6/\∀ x∈z,0<=cv x/\cv x<=1000000000):=λz hz=>by
          rcases List.mem_or_eq_of_mem_set hz with q|rfl
          ·exact eo z q
          ·exact Zek dr
         have FL:Hid ((S.set i s).length=m):=(by show _=_;rw[cR];exact Za bt);clear ak;go_wp2;go_roundw
         case rel=>exact⟨k+1,am,bs,jv,M,S.set i s,by omega,rfl,rfl,rfl,by go_num,(⟨Za cm,Za eu⟩:CoinsAt Q am bs M/\SlOk am bs jv),cn,FL,FB,R,cf⟩
         case measure=>simp[intOf];omega
        ·have jy:(y != 0)=true:=(by simp[ju]);have R:Hid (((y:Int),([]:List Zj),([]:List (List Zj)))=(x,C',S')):=(by have e:=Za ak;rw[if_neg cj,if_pos ju] at e;exact e);clear ak ju;go_wp2
         go_ret3
         exact Hc R cd
     ·have da:¬(i=0/\Xy r L S m<0):=λq=>cy q.1;have cj:=Zd da;have jx:((i:Int) == 0)=false:=(by simp;omega);have cl:=HO;have au:=HU;have cg:=HG;clear da bq ca HO HU HG;have GW:Hid (∀ V,Gr wr V (λq=>q=w1.heap.size)->ZD w1 V):=λV g=>GB V (cg.trans g)
      have AP:=Zd (λV (g:Gr wr V (λq=>q=w1.heap.size))=>(by
        obtain⟨_,⟨ai,ni,ci,g1,hI,sI⟩,ao,ae,co,g2,hO,sO⟩:=bv V (af.trans ((GW V g).mono af.size));exact⟨ai,ni,ci,ao,ae,co,g1,g2,E9 oa aj oc C t1 ai ao ni ci ae co I O nm h y M s V (Qi cl.1 au.ok g) cl.2 hI hO sI dr⟩ :
        ∃ ai ni ci ao ae co,V.cell? ⟨tb,ad+i*3+1,none⟩=some (F ai ni ci)/\V.cell? ⟨tb,ad+i*3+2,none⟩=some (F ao ae co)/\Calls Tryz.prog 76 #[F oa aj oc,.agg #[E J t1,F ai ni ci,F ao ae co],E J nm,E J h] V λe w'=>ApR V w' y M s e))
      obtain⟨ai,ni,ci,ao,ae,co,dm,dn,_⟩:=AP wr (Gr.refl _ _)
      have ec:=Zd (λV (g:Gr wr V (λq=>q=w1.heap.size)) (g1:V.cell? ⟨tb,ad+i*3+1,none⟩=some (F ai ni ci)) (g2:V.cell? ⟨tb,ad+i*3+2,none⟩=some (F ao ae co))=>(by
        obtain⟨ic,ja,ih,id,jc,ii,q1,q2,q⟩:=AP V g;rw[g1] at q1;rw[g2] at q2;cases q1;cases q2;exact q :
        Calls Tryz.prog 76 #[F oa aj oc,.agg #[E J t1,F ai ni ci,F ao ae co],E J nm,E J h] V λe w'=>ApR V w' y M s e))
      have KS:Hid (∀ V,Gr wr V (λq=>q=w1.heap.size)->UsOk 153 w1.heap.size m V->Gr wr V (λq=>q=w1.heap.size)/\V.cell? ⟨w.heap.size+1,1,none⟩=some (E J h)/\V.cell? ⟨w.heap.size+1,4,none⟩=some (F (some ⟨tb,ad,none⟩) m c)/\V.cell? ⟨tb,ad+i*3,none⟩=some (E J t1)/\V.cell? ⟨tb,ad+i*3+1,none⟩=some (F ai ni ci)/\V.cell? ⟨tb,ad+i*3+2,none⟩=some (F ao ae co)/\V.cell? ⟨nb,no+i,none⟩=some (E J nm)/\UsOk 153 w1.heap.size m V):=λV g o=>by
       have bo:=GW V g;have ay:=(dq V bo).trans ed;have fq:=bv V (af.trans (bo.mono af.size));have fh:=GW wr (Gr.refl _ _);have dc:=bv wr (af.trans (fh.mono af.size));have fm:=au.ok.other dc.1;have kq:=λ(j:Nat)=>cA (a:=⟨tb,j,none⟩) (g.block tb (aE _ _ dc.1) fm);exact⟨g,Zb ay 1 _ rfl,Zb ay 4 _ rfl,fq.1,(kq _).trans dm,(kq _).trans dn,du V bo,o⟩
      have U0:Hid (UsOk 153 w1.heap.size m wr):=(by have:=au.ok;rw[Za bt] at this;exact this);have jb:nb<wr.heap.size:=aE _ _ (du wr (GW wr (Gr.refl _ _)));clear dm dn AP;go_wp2_with fail;refine dD (S:=λV=>Gr wr V (λq=>q=w1.heap.size)/\V.cell? ⟨w.heap.size+1,1,none⟩=some (E J h)/\V.cell? ⟨w.heap.size+1,4,none⟩=some (F (some ⟨tb,ad,none⟩) m c)/\V.cell? ⟨tb,ad+i*3,none⟩=some (E J t1)/\V.cell? ⟨tb,ad+i*3+1,none⟩=some (F ai ni ci)/\V.cell? ⟨tb,ad+i*3+2,none⟩=some (F ao ae co)/\V.cell? ⟨nb,no+i,none⟩=some (E J nm)/\UsOk 153 w1.heap.size m V) (by kernel_rfl) (KS _ (Gr.refl _ _).draw (U0.later (Zi _))) (λaa=>?_);refine tkL 0 rfl aa ?_;refine tkL 1 rfl aa ?_;refine tkL 2 rfl aa ?_;refine tkL 3 rfl aa ?_;refine tkL 4 rfl aa ?_;refine tkL 5 rfl aa ?_;refine tkL 6 rfl aa ?_;refine tkL 7 rfl aa ?_;refine tkL 8 rfl aa ?_;refine tkL 9 rfl aa ?_;refine tkL 10 rfl aa ?_;refine tkL 11 rfl aa ?_;refine tkL 12 rfl aa ?_;refine tkL 13 rfl aa ?_;refine rdY 14 rfl (λK hK=>?_);refine Hw (by kernel_rfl) 76 #[F oa aj oc,.agg #[E J t1,F ai ni ci,F ao ae co],E J nm,E J h] (by kernel_rfl) (ec _ aa.1 aa.2.2.2.2.1 aa.2.2.2.2.2.1) ?_;rintro e w6 ⟨am,bs,jv,sa,ns,cs,rfl,ct,dj,cw,dk,aw⟩;refine⟨_,rfl,?_⟩;obtain⟨ek,eu,en,ev,er,ce,ap⟩:=kh7 ct dj cw dk (au.later (Zf (Zi wr) aw)) (Gr.on aa.1 aw) (UsOk.later aa.2.2.2.2.2.2.2 aw);obtain⟨zz,z6⟩:=ap.cell cz;have fw:=ap.free i;clear ct dj cw dk aw
      clear aa;refine hK.out _ _ (KS _ ce ap) (λaa=>?_);clear hK K;refine tkL 15 rfl aa ?_;refine tkL 16 rfl aa ?_;refine tkL 17 rfl aa ?_;refine tkL 18 rfl aa ?_;refine tkL 19 rfl aa ?_;refine tkL 20 rfl aa ?_;refine rdY 21 rfl (λK hK=>?_);go_simp;clear aa;refine hK.out _ _ (KS _ (ce.one w1.heap.size i (.inl rfl) _) (UsOk.put ap i _ _ _)) (λaa=>?_);clear hK K;refine tkL 22 rfl aa ?_;refine wpAnyH_done (by kernel_rfl) ?_ _
      all_goals
       have bh:=aa.1;clear aa;obtain⟨cm,cf,cd,cn⟩:=kh4 (Qi ek ap ((Gr.refl w6 (λq=>q=w1.heap.size)).one w1.heap.size i (.inl rfl) (F sa ns cs))) (cg.trans bh) (af.trans ((GW _ bh).mono af.size)) (er.put i en ev);obtain⟨Q,hQ⟩:=ZG (w6.setCell ⟨w1.heap.size,i,none⟩ (F sa ns cs));rw[<-hQ] at cm cf cd cn ⊢;clear hQ bh z6 fw;by_cases ju:y=0
       ·subst ju;have R:Hid (Wv h r L N (m - (k+1)) (k+1) M (S.set i s)=(x,C',S')):=by have e:=Za ak;rw[if_neg cj,if_neg (by simp)] at e;exact e
        have FB:Hid (∀ z∈S.set i s,z.length<=6/\∀ x∈z,0<=cv x/\cv x<=1000000000):=λz hz=>by
         rcases List.mem_or_eq_of_mem_set hz with q|rfl
         ·exact eo z q
         ·exact Zek dr
        have FL:Hid ((S.set i s).length=m):=(by show _=_;rw[cR];exact Za bt);clear ak;go_wp2;go_roundw
        case rel=>exact⟨k+1,am,bs,jv,M,S.set i s,by omega,rfl,rfl,rfl,by go_num,(⟨Za cm,Za eu⟩:CoinsAt Q am bs M/\SlOk am bs jv),cn,FL,FB,R,cf⟩
        case measure=>simp[intOf];omega
       ·have jy:(y != 0)=true:=(by simp[ju]);have R:Hid (((y:Int),([]:List Zj),([]:List (List Zj)))=(x,C',S')):=(by have e:=Za ak;rw[if_neg cj,if_pos ju] at e;exact e);clear ak ju;go_wp2
        go_ret3
        exact Hc R cd
    ·have fl:m - k=0:=(by omega);have R:Hid (((0:Int),C,S)=(x,C',S')):=(by have e:=Za HQ;rw[fl] at e;exact e);have ei:=Zd bq;clear HQ bq ca;go_wp2
     go_ret3
     obtain⟨r1,r2⟩:=Prod.mk.inj R;obtain⟨r2,r3⟩:=Prod.mk.inj r2;subst r1 r2 r3;exact⟨oa,aj,oc,some ⟨w1.heap.size,0,none⟩,m,m,rfl,HO.1,HO.2,by have:=HU.undos;rw[Za bt] at this;exact this,⟨aF _,by unfold maxLen;omega,λe=>by cases e⟩,Za ei,λkb e=>by cases e;exact af.size⟩
 ·rw[if_pos e1] at hx;have g1:(y1 != 0)=true:=by simp[e1]
  have R:=Zd hx;clear hE hK hC sC hL hx dz cx bk dd e1;go_enter Tryz.func21,Tryz.ntmps21;go_wp2_with fail;rw[<-hX];clear hX;refine C1.mono ?_;rintro e w1 ⟨na,nn,nc,rfl,hN,eb,bx⟩;have eh:=Zd (Zf eg bx);clear hN eb bx C1;go_wp2
  go_ret3
  exact Hc R eh
