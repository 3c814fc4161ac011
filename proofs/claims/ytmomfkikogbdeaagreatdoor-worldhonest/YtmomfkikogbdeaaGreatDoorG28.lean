import Derived.Test.YtmomfkikogbdeaaGreatDoorH
import Derived.Test.YtmomfkikogbdeaaGreatDoorG27
open Go.IntKind renaming i64->J
open Go.Obj renaming cells->cZ
open Go.Value renaming int->E,slice->F
open Go.World renaming cell?_of_block->bU,block_lt_of_cell?->aE
open List renaming replicate->bB,getElem?_eq_getElem->cF,length_set->cD
open Nat renaming le_refl->aF
namespace Go.Proofs.YtmomfkikogbdeaaGreatDoor
open Go.RowKit
theorem Zkn{K C}{b:Zl}{N:List Int}(h:nfD K C b=(N,0)):Yk b=0/\N.length=b.2.2.2.2.length:=by
 unfold nfD at h;split at h
 ·next q=>simp at h;exact absurd h.2 q
 ·injection h with h1 h2;unfold Xl at h1 h2;split at h2
  ·next q=>exact absurd h2 q
  ·next q=>
   rw[if_neg q] at h1;split at h2
   ·next q=>exact absurd h2 q
   ·next q2=>
    rw[if_neg q2] at h1;obtain⟨M,N',x,e⟩:∃ M N' x,Bk.allR K (Yf b)=(M,N',x):=⟨_,_,_,rfl⟩;rw[e] at q2 h1;obtain rfl:x=0:=Decidable.not_not.1 q2;have:=Mp e;simp only at h1;refine⟨Decidable.not_not.1 q,?_⟩;rw[<-h1,List.length_take,this];simp[Yf]
theorem Tryz.infoUndo:(Tryz.prog.info? 153).map (λi=>(i.zero,i.size,i.bytes))=some (some (.agg #[F none 0 0]),1,24):=by kernel_rfl
theorem Zgr(m:Nat):(madeCells (Value.agg #[F none 0 0]).cells (m*1)).toList=bB m (F none 0 0):=by
 rw[Nat.mul_one];exact toList_madeCells_one _ _
theorem Zbs{p h k n:Int}{L}(e:Yk (p,h,k,n,L)=0):rwD h=((rwD h).1,0):=by
 unfold Yk at e;split at e
 ·cases e
 ·next q=>
  unfold rwD;simp[W9] at q;rw[if_pos (by simp;omega)]
set_option maxRecDepth 10000 in
set_option maxHeartbeats 12800000 in
theorem Zci(ka kn kc K la ln lc C0)(p h k0 n:Int)(a m c L)(x:Int)(C' S' w)(hE:Env w)(hK:Bk.TextsAt w ka kn K)(hC:CoinsAt w la ln C0)(sC:SlOk la ln lc)(hL:TxsAt w a m L)(hx:Vd K C0 (p,h,k0,n,L)=(x,C',S')) :
  Calls Tryz.prog 21 #[.agg #[F ka kn kc],F la ln lc,.agg #[E J p,E J h,E J k0,E J n,F a m c]] w λe w'=>Zsd w w' x C' S' e:=by
 obtain⟨X,hX⟩:=ZG ((w.alloc (cZ #[F ka kn kc] 24)).alloc (cZ #[E J p,E J h,E J k0,E J n,F a m c] 39));have bi:ZD w X:=by rw[hX];exact Zf (Zh _ _) (Zh _ _)
 have dx:X.heap[w.heap.size]? = some (cZ [F ka kn kc].toArray 24 (0,0)):=by
  rw[hX,Below.heap_alloc _ _ _ (by simp)];exact Yy _ _ _
 have cu:X.heap[w.heap.size+1]? = some (cZ [E J p,E J h,E J k0,E J n,F a m c].toArray 39 (0,0)):=by
  rw[hX];have:=Zz (w.alloc (cZ #[F ka kn kc] 24)) (E J p) (E J h) (E J k0) (E J n) (F a m c) 39;rw[show (w.alloc (cZ #[F ka kn kc] 24)).heap.size=w.heap.size+1 by simp] at this;exact this
 obtain⟨N,y1,db⟩:∃ N y1,nfD K C0 (p,h,k0,n,L)=(N,y1):=⟨_,_,rfl⟩;have C1:=Zd (Bx ka kn kc K la ln lc C0 p h k0 n a m c L N y1 X (hE.later bi) (hK.later bi) (hC.later bi) (hL.later bi) db);unfold Vd at hx;rw[db] at hx;simp only at hx;have iw:=Zb dx 0 _ rfl;obtain⟨ev,ew,ey,ez,fa,-⟩:=kc5 cu;have ix:=lt_of_block dx;have fb:=lt_of_block cu;obtain⟨ee,gy⟩:=kh2 bi cu;by_cases e1:y1=0
 ·subst e1;rw[if_neg (by simp)] at hx;obtain⟨fg,dw⟩:=Zkn db;have hz:L.length=m:=hL.1;obtain⟨f1,f2,f3,_,f5⟩:=Un fg;simp only at f1 f2 f3 f5 dw hz;rw[hz] at dw hx;have fi:0<m:=by omega
  have gn:m<=4:=by omega
  obtain⟨tb,ab,rfl,ip,gi⟩:=hL.2 fi;obtain⟨r,hr⟩:=ZF ((rwD h).1);have fm:=Zbs fg;rw[hr] at hx fm;have fy:Hid (∀ W,ZD w W->∀ i (hi:i<L.length),TxAt W tb (ab+i*3) L[i]):=λW hb i hi=>TxAt.kept _ _ _ _ _ hb (gi i hi);have gx:Hid (∀ t∈L,t.2.2.length<=6/\∀ x∈t.2.2,0<=x.1/\x.1<=1000000000):=λt ht=>⟨(U7 (f5 t ht)).2.1,Zdx (f5 t ht)⟩;obtain⟨HC,fx,HZ,gv,gw⟩:=kh5 hC sC hz dw fm;have HX:Hid (Xo h r L N m 0 C0 (bB m [])=(x,C',S')):=hx;clear hE hK hC sC hL hx dx cu bi db fg dw hz f1 f2 f3 f5 gi hr fm ip;obtain⟨i0,jy,it,iu,iv⟩:=info_parts Tryz.infoUndo;go_enter Tryz.func21,Tryz.ntmps21;go_wp2_with fail;rw[<-hX];clear hX;refine C1.mono ?_;rintro e Q ⟨na,nn,nc,rfl,hN,dz,bu⟩;obtain⟨HN,ji⟩:=kh2 hN dz;have h21:=ZE bu gy;have ep:=Zd h21;obtain⟨-,-,-,-,ic,id⟩:=kc5 h21;have ad:=Zd (Zf ee bu);have jp:w.heap.size+2<=Q.heap.size:=by have:=lt_of_block h21;omega
  clear hN dz bu h21 C1 iw ev ew ey ez fa ix fb ee;go_wp2_with fail;have eq:Hid (∀ W,ZD Q W->ZD Q W/\W.cell? ⟨w.heap.size+1,4,none⟩=some (F (some ⟨tb,ab,none⟩) m c)):=λW hb=>⟨hb,Zb (ZE hb ep) 4 _ rfl⟩;refine wp_region_held_drew (S:=λW=>ZD Q W/\W.cell? ⟨w.heap.size+1,4,none⟩=some (F (some ⟨tb,ab,none⟩) m c)) (by kernel_rfl) (eq _ (Zi _)) (λz=>?_);refine tkL 0 rfl z ?_;refine tkL 1 rfl z ?_;refine tkL 2 rfl z ?_;refine tkL 3 rfl z ?_;refine tkL 5 rfl z ?_;refine rdY 4 rfl (λK hK=>?_);refine Zfg (by kernel_rfl) _ _ _ (by rfl) Q.heap.size 153 i0 (.agg #[F none 0 0]) 1 Tryz.underlying42 jy it iu .i64 .i64 _ _ m (by rfl) (by rfl) (by rfl) (by rfl) (by rw[iv];omega) (by unfold maxLen;omega) (aF _) Q.heap.size (by rfl) ?_;intro w2 gp gj;have dy:ZD Q w2:=Zf (Zi Q) ((Below.refl _ _).grown gj (aF _) (λk h=>by cases h));clear z;refine hK.out _ _ (eq _ dy) (λz=>?_);clear hK K;refine tkL 6 rfl z ?_;refine wpAnyH_done (by kernel_rfl) ?_ _;have gg:UsAt 153 Q.heap.size (bB m []) w2:=Zqj (base:=Q.heap.size) (by rw[<-Zgr];exact gp);obtain⟨en,gu⟩:=kh2 gg dy;have h22:=ZE dy ep;have gb:=Zd h22;obtain⟨-,-,-,-,ih,ii⟩:=kc5 h22;have C2:=Zd (Ziv m w2 fi gn);clear gg dy h22 gp gj ic id ep z eq;go_wp2_with fail;refine C2.mono ?_;rintro e w3 ⟨rfl,fh⟩;have HF:=Zd fh;have bv:=fh.bel;obtain⟨jh,fz⟩:=kh2 bv (en.later bv);have jk:=en.ok.lt
  have GB:Hid (∀ W,Gr w3 W (λq=>q=Q.heap.size)->ZD Q W):=λW g=>g.below (Zf gu bv) (by have:=bv.size;omega) (λq e=>by rw[e];exact aF _);have gz:=Zd (ZE bv gb);clear fh bv C2 en ih ii gb;go_wp2
  go_loopw [6,7,8,32] (λov uv jv i wr=>∃ (k:Nat) (oa:Option Addr) (ag oc:Nat) (C:List Zj) (S:List (List Zj)),k<=m/\ov = F oa ag oc/\uv = F (some ⟨Q.heap.size,0,none⟩) m m/\jv = E J 0/\i = E J k/\Hid (CoinsAt wr oa ag C/\SlOk oa ag oc)/\Hid (UsAt 153 Q.heap.size S wr)/\Hid (S.length=m)/\Hid (∀ s∈S,s.length<=6/\∀ x∈s,0<=cv x/\cv x<=1000000000)/\Hid (Xo h r L N (m - k) k C S=(x,C',S'))/\Hid (Gr w3 wr (λq=>q=Q.heap.size))) (λ_ _ _ i _=>m - (intOf i).toNat)
  case atStart=>exact⟨0,la,ln,lc,C0,bB m [],Nat.zero_le _,rfl,rfl,rfl,rfl,(⟨HC.later (ad.trans ((Za GB w3 (Gr.refl _ _)).mono ad.size)),Za fx⟩:CoinsAt w3 la ln C0/\SlOk la ln lc),fz,(List.length_replicate:(bB m ([]:List Zj)).length=m),(λs hs=>by rw[(List.mem_replicate.1 hs).2];exact⟨by simp,λx hx=>by cases hx⟩:∀ s∈bB m ([]:List Zj),s.length<=6/\∀ x∈s,0<=cv x/\cv x<=1000000000),HX,(Gr.refl _ _:Gr w3 w3 (λq=>q=Q.heap.size))⟩
  case round=>
    obtain⟨k,oa,ag,oc,C,S,hk,rfl,rfl,rfl,rfl,HO,HU,br,el,HQ,HG⟩:=hrel;clear HX fz HC fx;have bx:=GB wr HG;have bk:=ad.trans (bx.mono ad.size);by_cases im:k<m
    ·have cx:(k+1) % m<m:=Nat.mod_lt _ fi;have gs:=(bU (a:=⟨w2.heap.size,k,none⟩) (HG.block w2.heap.size HF.lt (by omega))).trans (HF.cells (aF _) k im);have jr:w2.heap.size<wr.heap.size:=Nat.lt_of_lt_of_le HF.lt HG.size;unfold Am at gs;obtain⟨i,hi⟩:=ZF ((k+1) % m);rw[hi] at cx gs;have fj:m - k=(m - (k+1))+1:=(by omega);have gl:i<L.length:=(by rw[Za HZ];exact cx);obtain⟨t1,I,O,ht⟩:∃ t1 I O,L[i]=(t1,I,O):=⟨_,_,_,rfl⟩;obtain⟨nm,fl⟩:=ZF (N.getD i 0);obtain⟨y,M,s,fe⟩:∃ y M s,apD C (t1,I,O) nm h=(y,M,s):=⟨_,_,_,rfl⟩;have ah:=Za HQ;rw[fj,Eg (i:=i) (by rw[Za HZ];exact hi) (t:=(t1,I,O)) (by rw[List.getD_eq_getElem?_getD,cF gl];exact ht) fl fe,Za HZ] at ah;have ah:=Zd ah;have gm:i<N.length:=(by rw[Za gv];exact cx);have go:N[i]=nm:=(by rw[<-fl,List.getD_eq_getElem?_getD,cF gm];rfl);obtain⟨nb,no,rfl,gh⟩:=HN.2 (by have:=HN.1;omega);have dp:=Zd fe;have jo:(k:Int)<(m:Int):=(by omega);have jl:(i:Int)<(m:Int):=(by omega);have jq:N.length=nn:=HN.1;have jm:(i:Int)<(nn:Int):=(by omega);have ds:Hid (∀ W,ZD Q W->W.cell? ⟨nb,no+i,none⟩=some (E J nm)):=λW hb=>by rw[<-go];exact Ze hb (gh i gm)
     have bt:Hid (∀ W,ZD w W->TxAt W tb (ab+i*3) (t1,I,O)):=λW hb=>by rw[<-ht];exact fy W hb i gl
     have dn:Hid (∀ W,ZD Q W->W.heap[w.heap.size+1]? = Q.heap[w.heap.size+1]?):=λW hb=>hb.block _ (by omega);have eb:Hid (Q.heap[w.heap.size+1]? = some (cZ [E J p,E J h,E J k0,E J n,F (some ⟨tb,ab,none⟩) m c].toArray 39 (0,0))):=(dn w3 (GB w3 (Gr.refl _ _))).symm.trans gz;clear gh fl go ht fe HQ;by_cases cw:i=0
     ·have jw:((i:Int) == 0)=true:=(by simp[cw]);obtain⟨o,ho⟩:=ZF (decide (0<=Wl r L S m));have CV:=Zd (Zch p h k0 n tb ab m c L Q.heap.size 0 m m S r o wr HZ gn (fy wr bk) br rfl (λi hi=>HU.undo i hi) gx el gw ho);have aw:=(dn wr bx).trans eb;obtain⟨ev,ew,ey,ez,fa,fb⟩:=kc5 aw;clear aw;cases o with
      | false=>
       have R:Hid (((9:Int),([]:List Zj),([]:List (List Zj)))=(x,C',S')):=(by have e:=Za ah;rw[if_pos ⟨cw,by have:=of_decide_eq_false ho;omega⟩] at e;exact e);have eg:=Zd bk;clear ah bk bx ho cw;go_wp2_with fail;refine CV.mono ?_;rintro e w4 ⟨rfl,bh⟩;have ef:=Zd (Zf eg bh);clear bh CV;go_wp2
       go_ret3
       exact Ht R ef
      | true=>
       have cy:¬(i=0/\Wl r L S m<0):=λq=>by have:=of_decide_eq_true ho;omega
       have cf:=Zd cy;clear ho cy bk bx cw;go_wp2_with fail;refine CV.mono ?_;rintro e w4 ⟨rfl,bh⟩;have cg:=Zd (⟨HO.1.later bh,HO.2⟩:CoinsAt w4 oa ag C/\SlOk oa ag oc);obtain⟨ap,ce⟩:=kh2 (HU.later bh) (Gr.on HG bh);clear bh CV ev ew ey ez fa fb HO HU HG;have GW:Hid (∀ V,Gr w4 V (λq=>q=Q.heap.size)->ZD Q V):=λV g=>GB V (ce.trans g)
       have AP:=Zd (λV (g:Gr w4 V (λq=>q=Q.heap.size))=>(by
         obtain⟨_,⟨ai,ni,ci,g1,hI,sI⟩,ao,ac,co,g2,hO,sO⟩:=bt V (ad.trans ((GW V g).mono ad.size));exact⟨ai,ni,ci,ao,ac,co,g1,g2,Ez oa ag oc C t1 ai ao ni ci ac co I O nm h y M s V (Qt cg.1 ap.ok g) cg.2 hI hO sI dp⟩ :
         ∃ ai ni ci ao ac co,V.cell? ⟨tb,ab+i*3+1,none⟩=some (F ai ni ci)/\V.cell? ⟨tb,ab+i*3+2,none⟩=some (F ao ac co)/\Calls Tryz.prog 76 #[F oa ag oc,.agg #[E J t1,F ai ni ci,F ao ac co],E J nm,E J h] V λe w'=>ApR V w' y M s e))
       obtain⟨ai,ni,ci,ao,ac,co,dk,dl,_⟩:=AP w4 (Gr.refl _ _)
       have ea:=Zd (λV (g:Gr w4 V (λq=>q=Q.heap.size)) (g1:V.cell? ⟨tb,ab+i*3+1,none⟩=some (F ai ni ci)) (g2:V.cell? ⟨tb,ab+i*3+2,none⟩=some (F ao ac co))=>(by
         obtain⟨ia,iy,ie,ib,ja,ig,q1,q2,q⟩:=AP V g;rw[g1] at q1;rw[g2] at q2;cases q1;cases q2;exact q :
         Calls Tryz.prog 76 #[F oa ag oc,.agg #[E J t1,F ai ni ci,F ao ac co],E J nm,E J h] V λe w'=>ApR V w' y M s e))
       have KS:Hid (∀ V,Gr w4 V (λq=>q=Q.heap.size)->UsOk 153 Q.heap.size m V->Gr w4 V (λq=>q=Q.heap.size)/\V.cell? ⟨w.heap.size+1,1,none⟩=some (E J h)/\V.cell? ⟨w.heap.size+1,4,none⟩=some (F (some ⟨tb,ab,none⟩) m c)/\V.cell? ⟨tb,ab+i*3,none⟩=some (E J t1)/\V.cell? ⟨tb,ab+i*3+1,none⟩=some (F ai ni ci)/\V.cell? ⟨tb,ab+i*3+2,none⟩=some (F ao ac co)/\V.cell? ⟨nb,no+i,none⟩=some (E J nm)/\UsOk 153 Q.heap.size m V):=λV g o=>by
        have bj:=GW V g;have aw:=(dn V bj).trans eb;have fo:=bt V (ad.trans (bj.mono ad.size));have ff:=GW w4 (Gr.refl _ _);have da:=bt w4 (ad.trans (ff.mono ad.size));have fk:=ap.ok.other da.1;have kq:=λ(j:Nat)=>bU (a:=⟨tb,j,none⟩) (g.block tb (aE _ _ da.1) fk);exact⟨g,Zb aw 1 _ rfl,Zb aw 4 _ rfl,fo.1,(kq _).trans dk,(kq _).trans dl,ds V bj,o⟩
       have U0:Hid (UsOk 153 Q.heap.size m w4):=(by have:=ap.ok;rw[Za br] at this;exact this);have iz:nb<w4.heap.size:=aE _ _ (ds w4 (GW w4 (Gr.refl _ _)));clear dk dl AP;go_wp2_with fail;refine wp_region_held_drew (S:=λV=>Gr w4 V (λq=>q=Q.heap.size)/\V.cell? ⟨w.heap.size+1,1,none⟩=some (E J h)/\V.cell? ⟨w.heap.size+1,4,none⟩=some (F (some ⟨tb,ab,none⟩) m c)/\V.cell? ⟨tb,ab+i*3,none⟩=some (E J t1)/\V.cell? ⟨tb,ab+i*3+1,none⟩=some (F ai ni ci)/\V.cell? ⟨tb,ab+i*3+2,none⟩=some (F ao ac co)/\V.cell? ⟨nb,no+i,none⟩=some (E J nm)/\UsOk 153 Q.heap.size m V) (by kernel_rfl) (KS _ (Gr.refl _ _).draw (U0.later (Zi _))) (λz=>?_);refine tkL 0 rfl z ?_;refine tkL 1 rfl z ?_;refine tkL 2 rfl z ?_;refine tkL 3 rfl z ?_;refine tkL 4 rfl z ?_;refine tkL 5 rfl z ?_;refine tkL 6 rfl z ?_;refine tkL 7 rfl z ?_;refine tkL 8 rfl z ?_;refine tkL 9 rfl z ?_;refine tkL 10 rfl z ?_;refine tkL 11 rfl z ?_;refine tkL 12 rfl z ?_;refine tkL 13 rfl z ?_;refine rdY 14 rfl (λK hK=>?_);refine Ke (by kernel_rfl) 76 #[F oa ag oc,.agg #[E J t1,F ai ni ci,F ao ac co],E J nm,E J h] (by kernel_rfl) (ea _ z.1 z.2.2.2.2.1 z.2.2.2.2.2.1) ?_;rintro e w6 ⟨am,bq,cm,sa,ns,cs,rfl,cp,dh,ct,di,ar⟩;refine⟨_,rfl,?_⟩;obtain⟨ei,es,ek,et,eo,cc,al⟩:=kh7 cp dh ct di (ap.later (Zf (Zi w4) ar)) (Gr.on z.1 ar) (UsOk.later z.2.2.2.2.2.2.2 ar);obtain⟨zz,z6⟩:=al.cell cx;have fu:=al.free i;clear cp dh ct di ar;clear z
       refine hK.out _ _ (KS _ cc al) (λz=>?_);clear hK K;refine tkL 15 rfl z ?_;refine tkL 16 rfl z ?_;refine tkL 17 rfl z ?_;refine tkL 18 rfl z ?_;refine tkL 19 rfl z ?_;refine tkL 20 rfl z ?_;refine rdY 21 rfl (λK hK=>?_);go_simp;clear z;refine hK.out _ _ (KS _ (cc.one Q.heap.size i (.inl rfl) _) (UsOk.put al i _ _ _)) (λz=>?_);clear hK K;refine tkL 22 rfl z ?_;refine wpAnyH_done (by kernel_rfl) ?_ _
       all_goals
        have bf:=z.1;clear z;obtain⟨cj,cd,cb,cl⟩:=kh4 (Qt ei al ((Gr.refl w6 (λq=>q=Q.heap.size)).one Q.heap.size i (.inl rfl) (F sa ns cs))) (ce.trans bf) (ad.trans ((GW _ bf).mono ad.size)) (eo.put i ek et);obtain⟨ju,hQ⟩:=ZG (w6.setCell ⟨Q.heap.size,i,none⟩ (F sa ns cs));rw[<-hQ] at cj cd cb cl ⊢;clear hQ bf z6 fu;by_cases js:y=0
        ·subst js;have R:Hid (Xo h r L N (m - (k+1)) (k+1) M (S.set i s)=(x,C',S')):=by have e:=Za ah;rw[if_neg cf,if_neg (by simp)] at e;exact e
         have FB:Hid (∀ jt∈S.set i s,jt.length<=6/\∀ x∈jt,0<=cv x/\cv x<=1000000000):=λjt hz=>by
          rcases List.mem_or_eq_of_mem_set hz with q|rfl
          ·exact el jt q
          ·exact Zem dp
         have FL:Hid ((S.set i s).length=m):=(by show _=_;rw[cD];exact Za br);clear ah;go_wp2;go_roundw
         case rel=>exact⟨k+1,am,bq,cm,M,S.set i s,by omega,rfl,rfl,rfl,by go_num,(⟨Za cj,Za es⟩:CoinsAt ju am bq M/\SlOk am bq cm),cl,FL,FB,R,cd⟩
         case measure=>simp[intOf];omega
        ·have jx:(y != 0)=true:=(by simp[js]);have R:Hid (((y:Int),([]:List Zj),([]:List (List Zj)))=(x,C',S')):=(by have e:=Za ah;rw[if_neg cf,if_pos js] at e;exact e);clear ah js;go_wp2
         go_ret3
         exact Ht R cb
     ·have cy:¬(i=0/\Wl r L S m<0):=λq=>cw q.1;have cf:=Zd cy;have jw:((i:Int) == 0)=false:=(by simp;omega);have cg:=HO;have ap:=HU;have ce:=HG;clear cy bk bx HO HU HG;have GW:Hid (∀ V,Gr wr V (λq=>q=Q.heap.size)->ZD Q V):=λV g=>GB V (ce.trans g)
      have AP:=Zd (λV (g:Gr wr V (λq=>q=Q.heap.size))=>(by
        obtain⟨_,⟨ai,ni,ci,g1,hI,sI⟩,ao,ac,co,g2,hO,sO⟩:=bt V (ad.trans ((GW V g).mono ad.size));exact⟨ai,ni,ci,ao,ac,co,g1,g2,Ez oa ag oc C t1 ai ao ni ci ac co I O nm h y M s V (Qt cg.1 ap.ok g) cg.2 hI hO sI dp⟩ :
        ∃ ai ni ci ao ac co,V.cell? ⟨tb,ab+i*3+1,none⟩=some (F ai ni ci)/\V.cell? ⟨tb,ab+i*3+2,none⟩=some (F ao ac co)/\Calls Tryz.prog 76 #[F oa ag oc,.agg #[E J t1,F ai ni ci,F ao ac co],E J nm,E J h] V λe w'=>ApR V w' y M s e))
      obtain⟨ai,ni,ci,ao,ac,co,dk,dl,_⟩:=AP wr (Gr.refl _ _)
      have ea:=Zd (λV (g:Gr wr V (λq=>q=Q.heap.size)) (g1:V.cell? ⟨tb,ab+i*3+1,none⟩=some (F ai ni ci)) (g2:V.cell? ⟨tb,ab+i*3+2,none⟩=some (F ao ac co))=>(by
        obtain⟨ia,iy,ie,ib,ja,ig,q1,q2,q⟩:=AP V g;rw[g1] at q1;rw[g2] at q2;cases q1;cases q2;exact q :
        Calls Tryz.prog 76 #[F oa ag oc,.agg #[E J t1,F ai ni ci,F ao ac co],E J nm,E J h] V λe w'=>ApR V w' y M s e))
      have KS:Hid (∀ V,Gr wr V (λq=>q=Q.heap.size)->UsOk 153 Q.heap.size m V->Gr wr V (λq=>q=Q.heap.size)/\V.cell? ⟨w.heap.size+1,1,none⟩=some (E J h)/\V.cell? ⟨w.heap.size+1,4,none⟩=some (F (some ⟨tb,ab,none⟩) m c)/\V.cell? ⟨tb,ab+i*3,none⟩=some (E J t1)/\V.cell? ⟨tb,ab+i*3+1,none⟩=some (F ai ni ci)/\V.cell? ⟨tb,ab+i*3+2,none⟩=some (F ao ac co)/\V.cell? ⟨nb,no+i,none⟩=some (E J nm)/\UsOk 153 Q.heap.size m V):=λV g o=>by
       have bj:=GW V g;have aw:=(dn V bj).trans eb;have fo:=bt V (ad.trans (bj.mono ad.size));have ff:=GW wr (Gr.refl _ _);have da:=bt wr (ad.trans (ff.mono ad.size));have fk:=ap.ok.other da.1;have kq:=λ(j:Nat)=>bU (a:=⟨tb,j,none⟩) (g.block tb (aE _ _ da.1) fk);exact⟨g,Zb aw 1 _ rfl,Zb aw 4 _ rfl,fo.1,(kq _).trans dk,(kq _).trans dl,ds V bj,o⟩
      have U0:Hid (UsOk 153 Q.heap.size m wr):=(by have:=ap.ok;rw[Za br] at this;exact this);have iz:nb<wr.heap.size:=aE _ _ (ds wr (GW wr (Gr.refl _ _)));clear dk dl AP;go_wp2_with fail;refine wp_region_held_drew (S:=λV=>Gr wr V (λq=>q=Q.heap.size)/\V.cell? ⟨w.heap.size+1,1,none⟩=some (E J h)/\V.cell? ⟨w.heap.size+1,4,none⟩=some (F (some ⟨tb,ab,none⟩) m c)/\V.cell? ⟨tb,ab+i*3,none⟩=some (E J t1)/\V.cell? ⟨tb,ab+i*3+1,none⟩=some (F ai ni ci)/\V.cell? ⟨tb,ab+i*3+2,none⟩=some (F ao ac co)/\V.cell? ⟨nb,no+i,none⟩=some (E J nm)/\UsOk 153 Q.heap.size m V) (by kernel_rfl) (KS _ (Gr.refl _ _).draw (U0.later (Zi _))) (λz=>?_);refine tkL 0 rfl z ?_;refine tkL 1 rfl z ?_;refine tkL 2 rfl z ?_;refine tkL 3 rfl z ?_;refine tkL 4 rfl z ?_;refine tkL 5 rfl z ?_;refine tkL 6 rfl z ?_;refine tkL 7 rfl z ?_;refine tkL 8 rfl z ?_;refine tkL 9 rfl z ?_;refine tkL 10 rfl z ?_;refine tkL 11 rfl z ?_;refine tkL 12 rfl z ?_;refine tkL 13 rfl z ?_;refine rdY 14 rfl (λK hK=>?_);refine Ke (by kernel_rfl) 76 #[F oa ag oc,.agg #[E J t1,F ai ni ci,F ao ac co],E J nm,E J h] (by kernel_rfl) (ea _ z.1 z.2.2.2.2.1 z.2.2.2.2.2.1) ?_;rintro e w6 ⟨am,bq,cm,sa,ns,cs,rfl,cp,dh,ct,di,ar⟩;refine⟨_,rfl,?_⟩;obtain⟨ei,es,ek,et,eo,cc,al⟩:=kh7 cp dh ct di (ap.later (Zf (Zi wr) ar)) (Gr.on z.1 ar) (UsOk.later z.2.2.2.2.2.2.2 ar);obtain⟨zz,z6⟩:=al.cell cx;have fu:=al.free i;clear cp dh ct di ar;clear z
      refine hK.out _ _ (KS _ cc al) (λz=>?_);clear hK K;refine tkL 15 rfl z ?_;refine tkL 16 rfl z ?_;refine tkL 17 rfl z ?_;refine tkL 18 rfl z ?_;refine tkL 19 rfl z ?_;refine tkL 20 rfl z ?_;refine rdY 21 rfl (λK hK=>?_);go_simp;clear z;refine hK.out _ _ (KS _ (cc.one Q.heap.size i (.inl rfl) _) (UsOk.put al i _ _ _)) (λz=>?_);clear hK K;refine tkL 22 rfl z ?_;refine wpAnyH_done (by kernel_rfl) ?_ _
      all_goals
       have bf:=z.1;clear z;obtain⟨cj,cd,cb,cl⟩:=kh4 (Qt ei al ((Gr.refl w6 (λq=>q=Q.heap.size)).one Q.heap.size i (.inl rfl) (F sa ns cs))) (ce.trans bf) (ad.trans ((GW _ bf).mono ad.size)) (eo.put i ek et);obtain⟨ju,hQ⟩:=ZG (w6.setCell ⟨Q.heap.size,i,none⟩ (F sa ns cs));rw[<-hQ] at cj cd cb cl ⊢;clear hQ bf z6 fu;by_cases js:y=0
       ·subst js;have R:Hid (Xo h r L N (m - (k+1)) (k+1) M (S.set i s)=(x,C',S')):=by have e:=Za ah;rw[if_neg cf,if_neg (by simp)] at e;exact e
        have FB:Hid (∀ jt∈S.set i s,jt.length<=6/\∀ x∈jt,0<=cv x/\cv x<=1000000000):=λjt hz=>by
         rcases List.mem_or_eq_of_mem_set hz with q|rfl
         ·exact el jt q
         ·exact Zem dp
        have FL:Hid ((S.set i s).length=m):=(by show _=_;rw[cD];exact Za br);clear ah;go_wp2;go_roundw
        case rel=>exact⟨k+1,am,bq,cm,M,S.set i s,by omega,rfl,rfl,rfl,by go_num,(⟨Za cj,Za es⟩:CoinsAt ju am bq M/\SlOk am bq cm),cl,FL,FB,R,cd⟩
        case measure=>simp[intOf];omega
       ·have jx:(y != 0)=true:=(by simp[js]);have R:Hid (((y:Int),([]:List Zj),([]:List (List Zj)))=(x,C',S')):=(by have e:=Za ah;rw[if_neg cf,if_pos js] at e;exact e);clear ah js;go_wp2
        go_ret3
        exact Ht R cb
    ·have fj:m - k=0:=(by omega);have R:Hid (((0:Int),C,S)=(x,C',S')):=(by have e:=Za HQ;rw[fj] at e;exact e);have eg:=Zd bk;clear HQ bk bx;go_wp2
     go_ret3
     obtain⟨r1,r2⟩:=Prod.mk.inj R;obtain⟨r2,r3⟩:=Prod.mk.inj r2;subst r1 r2 r3;exact⟨oa,ag,oc,some ⟨Q.heap.size,0,none⟩,m,m,rfl,HO.1,HO.2,by have:=HU.undos;rw[Za br] at this;exact this,⟨aF _,by unfold maxLen;omega,λe=>by cases e⟩,Za eg,λjz e=>by cases e;exact ad.size⟩
 ·rw[if_pos e1] at hx;have g1:(y1 != 0)=true:=by simp[e1]
  have R:=Zd hx;clear hE hK hC sC hL hx dx cu bi db e1;go_enter Tryz.func21,Tryz.ntmps21;go_wp2_with fail;rw[<-hX];clear hX;refine C1.mono ?_;rintro e Q ⟨na,nn,nc,rfl,hN,dz,bu⟩;have ef:=Zd (Zf ee bu);clear hN dz bu C1;go_wp2
  go_ret3
  exact Ht R ef
