import Derived.Test.YtmomfkikogbdeaaGreatDoorH
import Derived.Test.YtmomfkikogbdeaaGreatDoorG27
open Go.Proofs.Tryz
open Go renaming lt_of_block->aA,bodyPost_ret->aW
open Go.Act renaming put->aM
open Go.Ending renaming returned->dA
open Go.Exit renaming inBlock->aR
open Go.IntKind renaming i64->J
open Go.Obj renaming cells->cZ
open Go.Proofs.Tryz renaming prog->aB
open Go.Value renaming int->E,slice->F,tuple->dB,pointer->dC
open List renaming length_append->bW,getElem?_eq_some_iff->cT,take_of_length_le->aV,length_take->bP,length_eq_zero_iff->aP,length_cons->cL
open Nat renaming le_refl->aF,lt_of_lt_of_le->aD,le_trans->aT
open Prod.mk renaming injEq->aN
set_option maxHeartbeats 12800000
set_option maxRecDepth 10000
namespace Go.Proofs.YtmomfkikogbdeaaGreatDoor
open Go.RowKit
def AcI(b lo hi N0:Nat)(p:Nat)(D:Nat->Prop)(w:World)(X:List (TxD×List Zj)):Prop:=
 ∃ z Q K,St b p w (.slice z (X.map (·.1)).length Q) K (X.map (·.1))/\N0<=p/\D=DV lo hi (.slice z (X.map (·.1)).length Q)
theorem Zru(b lo hi:Nat)(w0:World)(C0)(hb:w0.heap[b]? = some (cZ #[F none 0 0] 37 (0,0)))(h1:lo<=b/\b<hi)(ag:hi<=w0.heap.size) :
  Zps 88 #[dC (some ⟨b,0,none⟩)] w0 C0 (D0 lo hi) (AcI b lo hi w0.heap.size) where
 enters:=enters_of (fn:=Tryz.f88) (by kernel_rfl) (by kernel_rfl) rfl
 start p w hw hp pl:=⟨none,0,[],St.start ((hw.block b (by omega)).trans hb) (by omega) pl,hp,rfl⟩
 dirty p D w X:=by
  rintro ⟨z,Q,K,h,hp,rfl⟩ q hq;exact DV.dirty h ag hp q hq
 on p D w w' X:=by
  rintro ⟨z,Q,K,h,hp,hD⟩ g;exact⟨z,Q,K,h.on g (λq e=>by subst e;exact⟨aF _,by omega⟩),hp,hD⟩
 call p D wA w X t C' u0 u1 u2:=by
  rintro ⟨z,Q,K,h,hp,rfl⟩ ae hF r1 r2 r3 hl;refine (Zda b p z Q K (X.map (·.1)) _ u0 u1 u2 t wA w h ae hF (by rw[List.length_map];exact hl)).mono ?_;rintro e w' ⟨rfl,⟨v',K',hS⟩,hg⟩;obtain⟨a,c,rfl,_,_⟩:=hS.txs;have e1:(X++[(t,C')]).map (·.1)=X.map (·.1)++[t]:=by simp
  refine⟨rfl,hg.mono (λq _ e=>?_),DV lo hi (.slice a ((X++[(t,C')]).map (·.1)).length c),a,c,K',?_,hp,rfl⟩
  ·rcases e with e|e
   ·subst e;exact .inl h1
   ·exact .inr e
  ·rw[e1];exact hS
def AccR(w w':World)(x:Int)(K:List ByteArray)(L:List TxD)(e:Ending):Prop:=
 ∃ ka kn kc z sn Q,e = dA (dB #[.agg #[F ka kn kc],F z sn Q,E J x])/\Fresh w.heap.size w' (λw2=>Bk.TextsAt w2 ka kn K/\TxsAt w2 z sn L)/\SlOk ka kn kc/\SlOk z sn Q/\ZD w w'
theorem AccR.err{w w':World}{x y:Int}{K L}{b:Nat}{v}(h:(x,K,L)=(y,[],[]))(z:ZD w w')(hB:w.heap.size<=b):AccR w (w'.setCell ⟨b,0,none⟩ v) x K L (dA (dB #[.agg #[F none 0 0],F none 0 0,E J y])):=by
 simp only[aN] at h;obtain⟨rfl,rfl,rfl⟩:=h;exact⟨_,_,_,_,_,_,rfl,λ_ _=>⟨Bk.TextsAt.nil _ _,RowsAt.nil _ _⟩,Zq,Zq,z.setCell (p:=⟨b,0,none⟩) hB _⟩
theorem Gr.unset(w:World)(b i:Nat)(u):Gr (w.setCell ⟨b,i,none⟩ u) w (λq=>q=b):=
 ⟨rfl,rfl,rfl,by simp[World.setCell],λk _ z=>(Below.heap_setCell w ⟨b,i,none⟩ u k (λe=>z e)).symm⟩
theorem Zas(ka kn kc K la ln lc C a m c L)(th:Int)(ai ao ni ci no co I O)(h x:Int)(K' L' w)
  (hE:Env w) (hK:Bk.TextsAt w ka kn K) (hC:CoinsAt w la ln C) (sC:SlOk la ln lc) (hL:TxsAt w a m L) (hI:InsAt w ai ni I) (hO:OutsAt w ao no O) (sI:SlOk ai ni ci) (sO:SlOk ao no co) (hx:acE K C L (th,I,O) h=(x,K',L')) :
  Calls aB 28 #[.agg #[F ka kn kc],F la ln lc,F a m c,.agg #[E J th,F ai ni ci,F ao no co],E J h] w λe w'=>AccR w w' x K' L' e:=by
 obtain⟨i0,hi,gj,gl,gm⟩:=info_parts Tryz.infoTx9;obtain⟨X,hX⟩:=ZG (Yw w [cZ #[F ka kn kc] 24,cZ #[E J th,F ai ni ci,F ao no co] 59,cZ #[F none 0 0] 24,cZ #[F none 0 0] 37]);have bz:ZD w X:=by rw[hX];exact Zs _ _
 have eo:X.heap.size=w.heap.size+4:=by rw[hX];exact Z3 _ _
 have x0:X.heap[w.heap.size]? = some (cZ #[F ka kn kc] 24 (0,0)):=by rw[hX];exact Zk _ w 0 _ rfl
 have x1:=kl hX 1 _ _ rfl;have x2:X.heap[w.heap.size+2]? = some (cZ #[F none 0 0] 24 (0,0)):=by rw[hX];exact Zk _ w 2 _ rfl
 have x3:X.heap[w.heap.size+3]? = some (cZ #[F none 0 0] 37 (0,0)):=by rw[hX];exact Zk _ w 3 _ rfl
 have en:X=(((w.alloc (cZ #[F ka kn kc] 24)).alloc (cZ #[E J th,F ai ni ci,F ao no co] 59)).alloc (cZ #[F none 0 0] 24)).alloc (cZ #[F none 0 0] 37):=hX;have eh:=Zru (w.heap.size+3) (w.heap.size+3) (w.heap.size+4) X C x3 (by omega) (by omega);have dc:∀ V,Gr X V (D0 (w.heap.size+3) (w.heap.size+4))->ZD w V:=λV g=>g.below bz bz.size (λq e=>by have:=e.ge;omega);obtain⟨bb,ce⟩:=ZF (swE K C L h);have C1:=Zd (Pv _ _ _ _ ka kn kc K la ln lc C a m c L h bb X eh w dc hE hK hC sC hL ce);obtain⟨⟨S1,K1,Cc⟩,am⟩:=ZF (Zv h L (K,C));have e1:(swT h L (K,C)).map (·.1)=S1:=by rw[Qa,am]
 obtain⟨⟨y,K2,C2⟩,bg⟩:=ZF (doD h (K1,Cc) (th,I,O));obtain⟨o,ho⟩:=ZF ((S1.any λip=>Jp ip (th,I,O)));obtain⟨n,hn⟩:=ZF (S1.length);unfold acE at hx;simp only[ce,am,bg,ho,hn] at hx;obtain⟨HX,fl,fz,fq,du,cq,dv,fy⟩:=kh8 hx bz eo dc x1 x2 ce am;obtain⟨dr,dq,HO,HN,HE,HI,bq,dt⟩:=kh8 e1 bg ho hn hE hI hO sI;have fx:=Zd sO;have t0:=Zb (X:=[F ka kn kc]) x0 0 _ rfl;have tl:=aA x0;clear hE hK hC sC hL hx ce bz eo x0 x1 x2 x3 hX eh dc am e1 bg ho hn hI hO sI sO;go_enter func28,ntmps28;go_wp2_with fail;rw[<-en];clear en;(try go_wp2_with fail);refine C1.mono ?_;rintro e w1 gi
 rcases gi with ⟨h0,rfl,al⟩|⟨h0,p,D,rfl,hp,da,hd,hI⟩
 ·have z:=ZE al cq;have bi:=Zb (X:=[F none 0 0]) z 0 _ rfl;have bj:=Zg z 0;have bk:=aA z;have io:(bb == 0)=false:=by simp[h0]
  have gf:¬bb=0:=h0;have gg:(bb != 0)=true:=by simp[h0]
  have ad:Hid ((x,K',L')=(bb,[],[])):=by have:=Za HX;rw[if_pos h0] at this;exact this.symm
  have HB:=Zd (Zf fl al);clear al z C1 HX;go_wp2;(try simp only[aR,Exit.then]);refine aW (v:=dB #[.agg #[F none 0 0],F none 0 0,E J bb]) ?_ rfl ?_
  ·rw[Bk.results_cell_tmp2 rfl];go_simp
  ·exact AccR.err (b:=w.heap.size+2) ad HB (by omega)
 ·subst h0;obtain⟨va,vc,Kl,hS,_,_⟩:=hI;rw[Za dr,Za HN] at hS;have am:=Za fy;rw[am] at hd;simp only at hd;have al:=fq w1 da;have fk:=Zd al;have z1:=(da.block _ (aA du) (λe=>by have:=e.ge;omega)).trans du;have z2:=(da.block _ (aA cq) (λe=>by have:=e.ge;omega)).trans cq;have cb:=Vm (Ut dv).1;have cc:=Jx (h:=h) L K C cb.1 cb.2.1;have cd:=(W4 (h:=h) L K C cb.1).1;rw[am] at cc cd;simp only at cc cd;have gy:n<=8:=by have q1:=Rl h L (K,C);have q2:=(Ut dv).2;have q3:=congrArg List.length dr;rw[List.length_map] at q3;have q4:=Za HN;omega
  have ek:St (w.heap.size+3) p w1 (F va S1.length vc) Kl S1:=by rw[Za HN];exact hS
  obtain⟨dg,df⟩:=ek.reads (Gr.refl w1 (λ_=>False)) (λ_ q=>q.elim);rw[Za HN] at dg df;have TT:=Ac (w.heap.size+1) th ai ao ni ci no co I O w1 z1 (HI.later al) (bq.later al);obtain⟨dm,HS,HD,fv,gu,ga,dx,HP⟩:=kh8 (Td _ _ _ va n vc S1 o w1 TT dg df.len HO) hS hd cc.1 cd z1 z2 hp;have b0:=Zb (X:=[_]) hS.box 0 _ rfl;have bl:=aA hS.box;obtain⟨a1,il⟩:=kc1 z1;clear hS ek hd al z1 z2 cb cc cd dg df TT am C1;go_wp2_with fail;refine dm.mono ?_;rintro e w2 ⟨rfl,cw⟩;obtain⟨af,an⟩:=kh2 (Zf fk cw) cw;clear cw dm b0 bl a1 il;cases o
  ·have dk:=ZE an ga;have fg:=ZE an dx;have CD:=Zd (Zjx p K1 Cc h th ai ao ni ci no co I O y K2 C2 w2 (HE.later af) (HD.later an).till fv (HI.later af) (bq.later af) dt dq);obtain⟨a0,a1,a2,il⟩:=kc3 dk;obtain⟨dw,br⟩:=kh2 dk fg;clear dk fg;go_wp2_with fail;refine CD.mono ?_;rintro e w3 bg;clear a0 a1 a2 il CD
   rcases bg with ⟨n0,rfl,ae⟩|⟨n0,rfl,ax,ep⟩
   ·have z:=ZE ae br;have bi:=Zb (X:=[F none 0 0]) z 0 _ rfl;have bj:=Zg z 0;have bk:=aA z;have io:(y == 0)=false:=(by simp[n0]);have gf:¬y=0:=n0;have gg:(y != 0)=true:=(by simp[n0]);have ad:Hid ((x,K',L')=(y,[],[])):=(by have:=Za HX;rw[if_neg (λq=>q rfl),if_neg (by decide),if_pos n0] at this;exact this.symm);have HB:=Zd (Zf af ae);clear ae z HX;go_wp2;(try simp only[aR,Exit.then]);refine aW (v:=dB #[.agg #[F none 0 0],F none 0 0,E J y]) ?_ rfl ?_
    ·rw[Bk.results_cell_tmp2 rfl];go_simp
    ·exact AccR.err (b:=w.heap.size+2) ad HB (by omega)
   ·subst n0;have gz:w.heap.size+4<=p:=(by have:=Za fz;have:=Za HP;omega);have aw:=(HS.on (Gr.of (S:=λ_=>False) an) (λ_ q=>q.elim)).on ax (λq e=>by subst e;exact⟨aF _,by omega⟩);have cj:=(ax.block _ (aA dw) (λe=>by have e:w.heap.size+1=p:=e;omega)).trans dw;have cl:=(ax.block _ (aA br) (λe=>by have e:w.heap.size+2=p:=e;omega)).trans br;have ae:ZD w w3:=ax.below af af.size (λq e=>by have e:q=p:=e;omega);obtain⟨cn,gv⟩:=kh2 ae cj;have b0:=Zb (X:=[_]) aw.box 0 _ rfl;have bl:=aA aw.box;have z:=cl;have bi:=Zb (X:=[F none 0 0]) z 0 _ rfl;have bj:=Zg z 0;have bk:=aA z;by_cases e8:n=8
    ·subst e8;have ad:Hid ((x,K',L')=(12,[],[])):=(by have:=Za HX;rw[if_neg (λq=>q rfl),if_neg (by decide),if_neg (λq=>q rfl),if_pos rfl] at this;exact this.symm);clear HX aw cj cl z ae ax ep;go_wp2;(try simp only[aR,Exit.then]);refine aW (v:=dB #[.agg #[F none 0 0],F none 0 0,E J 12]) ?_ rfl ?_
     ·rw[Bk.results_cell_tmp2 rfl];go_simp
     ·exact AccR.err (b:=w.heap.size+2) ad cn (by omega)
    ·have g8:((n:Int) == 8)=false:=(by simp;omega);have gx:¬((n:Int)=8):=(by omega);have ad:Hid ((x,K',L')=(0,K2,S1++[(th,I,O)])):=(by have:=Za HX;rw[if_neg (λq=>q rfl),if_neg (by decide),if_neg (λq=>q rfl),if_neg e8] at this;exact this.symm);obtain⟨az,kn2,kc2,ia,ic,ib,es,ef,fb,gp⟩:=ep;have sm:=Tr.tx_small (Sz dq).1;have CT:=Zd (λV (hv:ZD w3 V)=>Tr.clTx_is th ai ao ni ci no co I O V (HI.later (Zf ae hv)) (bq.later (Zf ae hv)) dt fx (by rw[<-(Za HI).1];exact sm.1) (by rw[<-(Za bq).1];exact sm.2.1) sm.2.2.1 sm.2.2.2);obtain⟨p0,pl⟩:=kc1 es;obtain⟨a0,a1,a2,il⟩:=kc3 cj;have KS:Hid (∀ U:World,Gr w3 U (λq=>p<q\/q=w.heap.size+2)->((U.cell? ⟨p,0,none⟩=some (F az kn2 kc2)/\p<U.heap.size)/\(U.cell? ⟨w.heap.size+1,0,none⟩=some (E J th)/\U.cell? ⟨w.heap.size+1,1,none⟩=some (F ai ni ci)/\U.cell? ⟨w.heap.size+1,2,none⟩=some (F ao no co)/\w.heap.size+1<U.heap.size)/\U.cell? ⟨w.heap.size+3,0,none⟩=some (F va n vc)/\w.heap.size+3<U.heap.size)):=λU hu=>⟨⟨hu.cell p0 (by simp;omega),aD pl hu.size⟩,⟨hu.cell a0 (by simp;omega),hu.cell a1 (by simp;omega),hu.cell a2 (by simp;omega),aD il hu.size⟩,hu.cell b0 (by simp;omega),aD bl hu.size⟩;obtain⟨cp,fp,fw,dy⟩:=kh4 aw ef fb cl;have fs:=Zd (show ∀ q,(Value.slice va n vc).ownBlock=some q->p<q/\q<w2.heap.size from λq hq=>⟨by have:=(aw.own.lt q hq).1;omega,aD (HS.own.lt q hq).2 an.size⟩)
     clear HX aw cj cl z ae ax es ef fb gp sm a0 a1 a2 il p0 pl bi bj bk
     go_upto_region 11 with fail
     clear b0 bl;refine wp_region_held_drew (S:=λU=>(U.cell? ⟨p,0,none⟩=some (F az kn2 kc2)/\p<U.heap.size)/\(U.cell? ⟨w.heap.size+1,0,none⟩=some (E J th)/\U.cell? ⟨w.heap.size+1,1,none⟩=some (F ai ni ci)/\U.cell? ⟨w.heap.size+1,2,none⟩=some (F ao no co)/\w.heap.size+1<U.heap.size)/\U.cell? ⟨w.heap.size+3,0,none⟩=some (F va n vc)/\w.heap.size+3<U.heap.size) (by kernel_rfl) (KS _ (Gr.of (Zi _))) (λQ=>?_);refine tkL 0 rfl Q ?_;refine tkL 1 rfl Q ?_;refine tkL 2 rfl Q ?_;refine tkL 3 rfl Q ?_;refine tkL 4 rfl Q ?_;refine tkL 5 rfl Q ?_;refine rdS 6 rfl (CT w3.drew (Zi _)) ?_;rintro e w4 ⟨a1,c1,a2,c2,rfl,eg,cy⟩;have cx:ZD w3 w4:=Zf (Zi w3) cy;clear Q;refine⟨_,rfl,(KS _ (Gr.of cx)),λQ=>?_⟩;(try simp only[aM,ZA,ZB,ZC]);refine rdY 7 rfl (λKQ hK=>?_);go_simp;obtain⟨w5,dh⟩:=ZG (w4.alloc (cZ #[E J th,F a1 ni c1,F a2 no c2] 59));rw[<-dh];have cz:ZD w4 w5:=(by rw[dh];exact Zh _ _);have h5:w5.heap[w4.heap.size]? = some (cZ #[E J th,F a1 ni c1,F a2 no c2] 59 (0,0)):=(by rw[dh];exact Zx _ _ _ _ _);have bf:=Zf cx cz;have ev:w5.ownsRow (p+1) 59 3 (F va n vc) n Kl.flatten:=(by have:=(Gr.of (S:=λ_=>False) bf).own cp.own (λ_ _ q=>q);rw[Za HN] at this;exact this);have gh:p+1<=w5.heap.size:=(by have:=cp.pl;have:=bf.size;omega);clear Q;refine hK.out _ _ (KS _ (Gr.of bf)) (λQ=>?_);clear hK KQ;(try simp only[aM,ZA,ZB,ZC]);refine rdY 8 rfl (λKQ hK=>?_)
     refine step_append_lies _ rfl _ _ 37 rfl (p+1) 59 i0 (.agg #[E J 0,F none 0 0,F none 0 0]) 3 56 underlying37 hi gj gl gm rfl (by decide) (F va n vc) n Kl.flatten rfl ev ⟨w4.heap.size,0,none⟩ 1 1 [E J th,F a1 ni c1,F a2 no c2] rfl rfl (World.news_of_block h5) (λu hu=>by simp at hu;rcases hu with rfl|rfl|rfl <;> rfl) (by decide) (by unfold maxLen;omega) (by omega) gh _ rfl ?_;intro g6 bu w6 er db eq _;have ay:Gr w3 w6 (λq=>p<q/\q<w2.heap.size):=(Gr.of bf).grown db (λq e=>.inl (fs q e));have dl:=(ay.block _ (aA dy) (λe=>by omega)).trans dy;have bi:=Zb (X:=[F none 0 0]) dl 0 _ rfl;have bj:=Zg dl 0;have bk:=aA dl;clear Q;refine hK.out _ _ (KS _ (ay.mono (λq _ e=>.inl e.1))) (λQ=>?_);clear hK KQ;(try simp only[aM,ZA,ZB,ZC]);refine rdY 9 rfl (λKQ hK=>?_);go_simp;clear Q;refine hK.out _ _ (KS _ ((ay.mono (λq _ e=>.inl e.1)).one (w.heap.size+2) 0 (.inl (.inr rfl)) _)) (λQ=>?_);clear hK KQ;(try simp only[aM]);refine tkL 10 rfl Q ?_;refine tkL 11 rfl Q ?_;refine wpAnyH_done (by kernel_rfl) ?_ _;clear Q;have el:=cp.on (Gr.of (S:=λ_=>False) (Zi w3)) (λ_ q=>q.elim)
     have PU:=(St.push (v':=F (some ⟨g6,0,none⟩) (n+1) bu) (t:=(th,I,O)) el cy eg cz db (by rw[Za HN];exact er) (by
      rcases eq with q|q
      ·exact .inl q
      ·exact .inr ⟨g6,rfl,by omega⟩)).1
     have fj:Hid (AccR w (w6.setCell ⟨w.heap.size+2,0,none⟩ (F az kn2 kc2)) x K' L' (dA (dB #[.agg #[F az kn2 kc2],F (some ⟨g6,0,none⟩) (n+1) bu,E J 0]))):=by
      have eu:=Za ad;simp only[aN] at eu;obtain⟨rfl,rfl,rfl⟩:=eu;have im:(S1++[(th,I,O)]).length=n+1:=(by rw[bW,Za HN];rfl);rw[<-im] at PU ⊢;have ih:=an.size;have ii:=af.size;have gs:=aA br;refine⟨az,kn2,kc2,_,_,bu,rfl,λW2 g2=>⟨(fp W2 ?_).1,(PU.reads (S:=λq=>q<=p) ?_ (λ_ q=>q)).1⟩,Za fw,(PU.reads (Gr.refl _ (λ_=>False)) (λ_ q=>q.elim)).2,?_⟩
      ·exact ((ay.mono (T:=λq=>q<w2.heap.size) (λq _ e=>e.2)).one (w.heap.size+2) 0 (.inl gs) _).trans (g2.mono (λq _ e=>by omega))
      ·exact (((Gr.unset w6 (w.heap.size+3) 0 _).mono (λq _ e=>by have e:q=w.heap.size+3:=e;omega)).one (w.heap.size+2) 0 (.inl (by omega)) _).trans (g2.mono (λq _ e=>by omega))
      ·exact ((ay.mono (T:=λq=>p<q\/q=w.heap.size+2) (λq _ e=>.inl e.1)).one (w.heap.size+2) 0 (.inl (.inr rfl)) _).below cn cn.size (λq e=>by omega)
     clear PU el ay er db eq ev h5 bf cz cx cy eg;go_wp2_with fail;(try simp only[aR,Exit.then]);refine aW (v:=dB #[.agg #[F az kn2 kc2],F (some ⟨g6,0,none⟩) (n+1) bu,E J 0]) ?_ rfl ?_
     ·rw[Bk.results_cell_tmp2 rfl];go_simp
     ·exact Za fj
  ·have z:=ZE an dx;have bi:=Zb (X:=[F none 0 0]) z 0 _ rfl;have bj:=Zg z 0;have bk:=aA z;have ad:Hid ((x,K',L')=(6,[],[])):=(by have:=Za HX;rw[if_neg (λq=>q rfl),if_pos rfl] at this;exact this.symm);clear HX z;go_wp2;(try simp only[aR,Exit.then]);refine aW (v:=dB #[.agg #[F none 0 0],F none 0 0,E J 6]) ?_ rfl ?_
   ·rw[Bk.results_cell_tmp2 rfl];go_simp
   ·exact AccR.err (b:=w.heap.size+2) ad af (by omega)
theorem Mz(z:Addr)(n c:Nat)(l:List (Int×Int))(w:World)(hn:n<=8796093022208)(hz:l.length=n)(hc:∀ j u,(Xm l)[j]? = some u->w.cell? (z.add j)=some u) :
  Calls aB 150 #[F (some z) n c] w λe w'=>∃ v,e = dA v/\w'.ownsRow w.heap.size 164 2 v n (Xm l)/\ZD w w':=by
 obtain⟨i0,hi,am,an,ap⟩:=info_parts Tryz.infoOpC;have hb:=Zh w (cZ #[] 164);have HC:Hid (∀ j u,(Xm l)[j]? = some u->(w.alloc (cZ #[] 164)).cell? (z.add j)=some u):=λj u hj=>Ze hb (hc j u hj);obtain⟨Q,HZ,HO⟩:=kh3 hb hz (Wn w 164 2);have he:=λw=>Lib.run_eql_slice_nil (P:=aB) w 48 164 (some z) n c 0 0 underlying48;clear hc hb hz;go_enter func150,ntmps150
 go_wp2_with (at_builtin;refine wpList_append_own _ rfl _ _ 48 rfl w.heap.size 164 i0 (.agg #[E J 0,E J 0]) 2 16 underlying48 hi am an ap rfl (by decide) _ _ _ rfl HO z n c (Xm l) rfl (by rw[Xr,Za HZ]) HC (Rt l) (by unfold maxLen;omega) (by omega) Q.size ?_;intro v2 w3 ae ad _)
 have HW:Hid (w3.ownsRow w.heap.size 164 2 v2 n (Xm l)):=by show World.ownsRow _ _ _ _ _ _ _;simpa using ae
 have ag:=Zd (Q.grown ad Q.size (Wb HO));clear ae ad;go_wp2;go_ret;exact⟨v2,rfl,Za HW,Za ag⟩
theorem Fu(a)(n c:Nat)(l)(w:World)(hn:n<=8796093022208)(h:OpsAt w a n l)(hs:SlOk a n c) :
  Calls aB 150 #[F a n c] w λe w'=>∃ z Q,e = dA (F z n Q)/\Fresh w.heap.size w' (λw2=>OpsAt w2 z n l)/\SlOk z n Q/\ZD w w':=by
 obtain⟨hl,hc⟩:=h;cases a with
 | none=>
  obtain⟨rfl,rfl⟩:=hs.2.2 rfl;exact (Rd w).mono λe w' ⟨x,y⟩=>⟨none,0,x,λ_ _=>⟨hl,λh=>absurd h (by omega)⟩,hs,y ▸ Below.refl _ _⟩
 | some ad=>
  have ag:∀ j u,(Xm l)[j]? = some u->w.cell? (ad.add j)=some u:=λj u hj=>by
   have an:j<l.length*2:=(by rw[<-Xr];exact (cT.1 hj).1);obtain⟨b,off,e,ah⟩:=hc (by omega);cases e;rw[Addr.add_lit];exact Rb hl ah j u hj
  refine (Mz ad n c l w hn hl ag).mono ?_;rintro e w' ⟨v,rfl,x,y⟩;obtain⟨z,Q,rfl,h1,h2,h3⟩:=Ro x;refine⟨z,Q,rfl,λw2 g2=>?_,h2,y⟩;obtain⟨a2,c2,e2,h4,_,_⟩:=Ro (g2.own x (λk hk e=>by have:=(x.lt k hk).1;omega));injection e2 with e2 _ _;subst e2;exact h4
theorem Znw(h v:Int)(a)(n c:Nat)(l)(w:World)(hn:n<=8796093022208)(hl:OpsAt w a n l)(hs:SlOk a n c) :
  Calls aB 84 #[E J h,E J v,F a n c] w λe w'=>∃ ao,e = dA (.agg #[E J h,F none 0 0,F ao 1 1])/\Fresh w.heap.size w' (λw2=>Tr.txR.C w2 [E J h,F none 0 0,F ao 1 1] (K0 h v l))/\ZD w w':=by
 obtain⟨X,hX,ad,af⟩:=ka00 w [E J 0,F none 0 0,F none 0 0] 59;have ag:X.heap.size=w.heap.size+1:=by rw[hX];simp
 obtain⟨C1,an,ap,ae⟩:=kh4 (Fu a n c l X hn (hl.later ad) hs) ad af ag;clear hl hs ad af hn ag;go_enter func84,ntmps84;go_wp2_with fail;rw[<-hX];clear hX;(try go_wp2_with fail);refine C1.mono ?_;rintro e z ⟨a1,c1,rfl,hF,al,ac⟩;have h1:=ZE ac ap;obtain⟨t0,t1,t2,f0,f1,f2,tl⟩:=kf3 h1;have Q:=Zd (Zf an ac)
 have am:Hid (∀ W,Gr z W (λq=>q=w.heap.size)->W.heap[z.heap.size]? = some (cZ [E J v,F a1 n c1].toArray 122 (0,0))->Fresh w.heap.size W (λw2=>Tr.txR.C w2 [E J h,F none 0 0,F (some ⟨z.heap.size,0,none⟩) 1 1] (K0 h v l))/\ZD w W):=λW g h2=>by
  refine⟨λw2 g2=>?_,g.below Q Q.size (λq e=>by rw[e];exact aF _)⟩;have gg:Gr z w2 (λq=>q<X.heap.size):=(g.mono (λq _ e=>by have:=Za ae;rw[e];omega)).trans (g2.mono (λq _ e=>by have:=Za ae;omega));have h3:=g2.heap h2 (by have:=Q.size;omega);refine⟨none,0,0,some ⟨z.heap.size,0,none⟩,1,1,rfl,RowsAt.nil _ _,Zq,⟨rfl,λ_=>⟨z.heap.size,0,rfl,aA h3,λi hi=>?_⟩⟩,⟨aF _,by decide,λe=>by cases e⟩⟩;have ei:i=0:=by simp[K0] at hi;omega
  subst ei;exact⟨Zb h3 0 _ rfl,a1,n,c1,Zb h3 1 _ rfl,hF w2 gg,al⟩
 clear hF al ac h1 C1;go_wp2;(try simp only[aR,Exit.then]);refine aW (v:=.agg #[E J h,F none 0 0,F (some ⟨z.heap.size,0,none⟩) 1 1]) ?_ rfl ?_
 ·rw[Yn rfl];go_simp
 ·refine⟨_,rfl,am _ ?_ ?_⟩
  ·exact ((((Gr.refl z (λq=>q=w.heap.size)).one w.heap.size 0 (.inl rfl) _).one w.heap.size 1 (.inl rfl) _).one w.heap.size 2 (.inl rfl) _).new _
  ·have:=heap_alloc_new (((z.setCell ⟨w.heap.size,0,none⟩ (E J h)).setCell ⟨w.heap.size,1,none⟩ (F none 0 0)).setCell ⟨w.heap.size,2,none⟩ (F (some ⟨z.heap.size,0,none⟩) 1 1)) (cZ #[E J v,F a1 n c1] 122);simpa[World.setCell] using this
theorem Pm{P:Program}{w:World}{ag}{o:Oper}{a:Act}{K:Act->World->Prop}{Q:Exit->Act->World->Prop}{z:Prop}(aa:o.guard=none)(s x:Operand)(t:TypeId)
  (ho:o.op = .call { callee:=.builtin .append,args:=#[s,x],argTypes:=#[t,t] })
  (base:Nat) (e:TypeId) (i:TypeInfo) (size:Nat) (ht:P.underlying t=some (.slice e)) (hi:P.info? e=some i)
  (v) (n:Nat) (xs) (hs:a.eval s=v) (ac:w.ownsRow base e size v n xs) (hx:a.eval x = F none 0 0)
  (h:K (a.put o.dst v) w):if Region.wanted o (yielded ag a.tmps)=true then Oper.wp P o a w K Q else z:=by
 rw[if_pos (by simp[Region.wanted,aa])];have ad:=run_append_owned_none (P:=P) (w:=w) base t o.type e i size ht hi v n xs ac;unfold Oper.wp;simp[execOp,ho,resolve,invoke,builtin,hs,hx,ad,Result.andThen];exact h
theorem Gr.five{w w1:World}{S:Nat->Prop}(h:Gr w w1 S)(b:Nat)(z:S b\/w.heap.size<=b)(Q a1 a2 a3 a4):Gr w (((((w1.setCell ⟨b,0,none⟩ Q).setCell ⟨b,1,none⟩ a1).setCell ⟨b,2,none⟩ a2).setCell ⟨b,3,none⟩ a3).setCell ⟨b,4,none⟩ a4) S:=
 ((((h.one b 0 z Q).one b 1 z a1).one b 2 z a2).one b 3 z a3).one b 4 z a4
def MkI(b b2 lo hi N0:Nat)(C0:List Zj)(p:Nat)(D:Nat->Prop)(w:World)(X:List (TxD×List Zj)):Prop:=
 ∃ z Q K,St b p w (.slice z ((X.take 3).map (·.1)).length Q) K ((X.take 3).map (·.1))/\FeI w b2 (Zp C0 - Zp (Xf C0 (X.take 3)))/\N0<=p/\D=DV lo hi (.slice z ((X.take 3).map (·.1)).length Q)/\0<=Zp C0 - Zp (Xf C0 (X.take 3))/\((X=[]/\z=none/\Q=0)\/(X≠[]/\Zp C0<=1000000000/\Ys (Xf C0 (X.take 3))))
theorem Zrt(b z lo hi:Nat)(w0:World)(C0)(hb:w0.heap[b]? = some (cZ #[F none 0 0] 37 (0,0)))(aq:FeI w0 z 0)(h1:lo<=b/\b<hi)(h2:lo<=z/\z<hi)(aw:b≠z)(av:hi<=w0.heap.size) :
  Zps 82 #[dC (some ⟨b,0,none⟩),dC (some ⟨z,0,none⟩)] w0 C0 (D0 lo hi) (MkI b z lo hi w0.heap.size C0) where
 enters:=enters_of (fn:=Tryz.f82) (by kernel_rfl) (by kernel_rfl) rfl
 start p w hw hp pl:=⟨none,0,[],St.start ((hw.block b (by omega)).trans hb) (by omega) pl,by
  have:Zp C0 - Zp (Xf C0 (List.take 3 []))=0:=by rw[List.take_nil,Vn];omega
  unfold FeI;rw[this];exact (hw.block z (by omega)).trans aq,hp,rfl,by rw[List.take_nil,Vn];omega,.inl ⟨rfl,rfl,rfl⟩⟩
 dirty p D w X:=by
  rintro ⟨va,vc,K,h,_,hp,rfl,_⟩ q hq;exact DV.dirty h av hp q hq
 on p D w w' X:=by
  rintro ⟨va,vc,K,h,hf,hp,hD,r⟩ g;exact⟨va,vc,K,h.on g (λq e=>by subst e;exact⟨aF _,by omega⟩),(g.block z (aA hf) (λe=>by have e:z=p:=e;omega)).trans hf,hp,hD,r⟩
 call p D wA w X t C' u0 u1 u2:=by
  rintro ⟨va,vc,K,h,hf,hp,rfl,h0,hr⟩ af hF r1 r2 r3 hl;by_cases h3:X.length<3
  ·have et:X.take 3=X:=aV (by omega);have Q:(X++[(t,C')]).take 3=X++[(t,C')]:=aV (by rw[bW];simp;omega);rw[et] at h hf h0 hr ⊢
   have hs:Zp C0<=1000000000:=by
    rcases hr with ⟨rfl,_⟩|hr
    ·rw[Vn] at r1;exact r1.sum
    ·exact hr.2.1
   have n1:=Kc r1;have n2:=Kc r2;have n3:=r1.sum;refine (Zkw b z p va vc K (X.map (·.1)) _ u0 u1 u2 t wA w h _ hf aw (by omega) h0 (by omega) (by omega) (by omega) af hF (by rw[List.length_map];exact h3)).mono ?_;rintro e w' ⟨rfl,⟨v',K',hS,ar⟩,hg⟩;obtain⟨a,c,rfl,_,_⟩:=hS.txs;have e1:(X++[(t,C')]).map (·.1)=X.map (·.1)++[t]:=(by simp);refine⟨rfl,hg.mono (λq _ e=>?_),DV lo hi (.slice a (((X++[(t,C')]).take 3).map (·.1)).length c),a,c,K',?_,?_,hp,rfl,?_,.inr ⟨by simp,hs,?_⟩⟩
   ·rcases e with (e|e)|e
    ·subst e;exact .inl h1
    ·subst e;exact .inl h2
    ·exact .inr e
   ·rw[Q,e1];exact hS
   ·rw[Q,Wv];have:Zp C0 - Zp (Xf C0 X)+(Zp (Xf C0 X) - Zp C')=Zp C0 - Zp C':=(by omega);rw[<-this];exact ar
   ·rw[Q,Wv];omega
   ·rw[Q,Wv];exact r2
  ·have Q:(X++[(t,C')]).take 3=X.take 3:=List.take_append_of_le_length (by omega);refine (Zbh b z p va vc K ((X.take 3).map (·.1)) _ u0 u1 u2 t wA w h af hF (by rw[List.length_map,bP];omega)).mono ?_;rintro e w' ⟨rfl,ah⟩;have aj:=Zf af ah;refine⟨rfl,Gr.of ah,DV lo hi (.slice va ((X.take 3).map (·.1)).length vc),va,vc,K,?_,?_,hp,?_,?_,.inr ?_⟩
   ·rw[Q];exact h.on (Gr.of (S:=λ_=>False) aj) (λ_ q=>q.elim)
   ·rw[Q];exact (aj.block z (aA hf)).trans hf
   ·rw[Q]
   ·rw[Q];exact h0
   ·rw[Q]
    rcases hr with ⟨rfl,_⟩|hr
    ·exact absurd h3 (by simp)
    ·exact⟨by simp,hr.2⟩
def Jn(b:Zl)(a:Option Addr)(n c:Nat):Value:=.agg #[E J b.1,E J b.2.1,E J b.2.2.1,E J b.2.2.2.1,F a n c]
def MkR(w w':World)(x:Int)(b:Zl)(e:Ending):Prop:=
 ∃ a n c,e = dA (dB #[Jn b a n c,E J x])/\Fresh w.heap.size w' (λw2=>TxsAt w2 a n b.2.2.2.2)/\SlOk a n c/\ZD w w'
theorem MkR.err{w Q w':World}{x y:Int}{b:Zl}{B:Nat}(h:(x,b)=(y,Ym))(z:ZD w Q)(hg:Gr Q w' (λq=>q=B))(hB:w.heap.size<=B):MkR w w' x b (dA (dB #[.agg #[E J 0,E J 0,E J 0,E J 0,F none 0 0],E J y])):=by
 simp only[aN] at h;obtain⟨rfl,rfl⟩:=h;exact⟨none,0,0,rfl,λ_ _=>RowsAt.nil _ _,Zq,hg.below z z.size (λq e=>by rw[e];exact hB)⟩
def Zqe(Q wx:World)(B P:Nat)(p h wk nc:Int)(T:List TxD):Prop:=
 ∃ g n c,wx.heap[B]? = some (cZ [E J p,E J h,E J wk,E J nc,F g n c].toArray 39 (0,0))/\(∀ z,Gr wx z (λq=>q<=P)->TxsAt z g n T)/\SlOk g n c/\Gr Q wx (λq=>q=B)
theorem Eb{w1 z:World}{B P:Nat}{p h wk nc:Int}{T:List TxD}{g:Nat}{n c base:Nat}{K:List (List Value)}(hn:T.length=n)(ag:z.heap[B]? = some (cZ [E J p,E J h,E J wk,E J nc,F none 0 0].toArray 39 (0,0)))(ab:z.ownsRow base 59 3 (F (some ⟨g,0,none⟩) n c) n K.flatten)(am:P<base)(hB:B<=P)
  (hk:∀ Q,Gr z Q (λq=>q<=P)->Tr.AllC Tr.txR Q K T) (hg:Gr w1 z (λq=>q=B)):Zqe w1 (z.setCell ⟨B,4,none⟩ (F (some ⟨g,0,none⟩) n c)) B P p h wk nc T:=by
 have g1:Gr z (z.setCell ⟨B,4,none⟩ (F (some ⟨g,0,none⟩) n c)) (λq=>q=B):=(Gr.refl z (λq=>q=B)).one B 4 (.inl rfl) _
 have rd:∀ Q,Gr z Q (λq=>q<=P)->TxsAt Q (some ⟨g,0,none⟩) n T/\SlOk (some ⟨g,0,none⟩) n c:=λQ g2=>by
  have o:=g2.own ab (λk hk e=>by have:=(ab.lt k hk).1;omega);obtain⟨a',c',e,h1,h2⟩:=Tr.rows_of_own Tr.txR o (hk Q g2) hn;injection e with e1 _ e3;subst e1 e3;exact⟨h1,h2⟩
 exact⟨some ⟨g,0,none⟩,n,c,Tr.set_cells ag 4 _,λQ g2=>(rd Q ((g1.mono (λq _ e=>by have e:q=B:=e;omega)).trans g2)).1,(rd z (Gr.refl _ _)).2,hg.trans g1⟩
theorem Zjw(ka kn kc K la ln lc C a m c L)(pr ht wk nc:Int)(ta tn tc lk)(h x:Int)(ke:Zl)(w)
  (hE:Env w) (hK:Bk.TextsAt w ka kn K) (hC:CoinsAt w la ln C) (sC:SlOk la ln lc) (hL:TxsAt w a m L) (hT:OpsAt w ta tn lk) (sT:SlOk ta tn tc) (hn:tn<=8796093022208) (hh:IntKind.i64.wrap (ht+1)=h) (hx:mkE K C L pr h wk nc lk=(x,ke)) :
  Calls aB 26 #[.agg #[F ka kn kc],F la ln lc,F a m c,E J pr,E J ht,E J wk,E J nc,F ta tn tc] w λe w'=>MkR w w' x ke e:=by
 obtain⟨i0,hi,ib,ic,id⟩:=info_parts Tryz.infoTx9;obtain⟨X,hX⟩:=ZG (Yw w [cZ #[F ka kn kc] 24,cZ #[E J 0,E J 0,E J 0,E J 0,F none 0 0] 39,cZ #[E J pr,E J h,E J wk,E J nc,F none 0 0] 39,cZ #[F none 0 0] 37,cZ #[E J 0] 3]);have bq:ZD w X:=by rw[hX];exact Zs _ _
 have ej:X.heap.size=w.heap.size+5:=by rw[hX];exact Z3 _ _
 have x0:X.heap[w.heap.size]? = some (cZ #[F ka kn kc] 24 (0,0)):=by rw[hX];exact Zk _ w 0 _ rfl
 have x1:=kl hX 1 _ _ rfl;have x2:=kl hX 2 _ _ rfl;have x3:X.heap[w.heap.size+3]? = some (cZ #[F none 0 0] 37 (0,0)):=by rw[hX];exact Zk _ w 3 _ rfl
 have x4:X.heap[w.heap.size+4]? = some (cZ #[E J 0] 3 (0,0)):=by rw[hX];exact Zk _ w 4 _ rfl
 have ei:X=((((w.alloc (cZ #[F ka kn kc] 24)).alloc (cZ #[E J 0,E J 0,E J 0,E J 0,F none 0 0] 39)).alloc (cZ #[E J pr,E J h,E J wk,E J nc,F none 0 0] 39)).alloc (cZ #[F none 0 0] 37)).alloc (cZ #[E J 0] 3):=hX;have eg:=Zrt (w.heap.size+3) (w.heap.size+4) (w.heap.size+3) (w.heap.size+5) X C x3 x4 (by omega) (by omega) (by omega) (by omega);have de:∀ V,Gr X V (D0 (w.heap.size+3) (w.heap.size+5))->ZD w V:=λV g=>g.below bq bq.size (λq e=>by have:=e.ge;omega);obtain⟨cc,bx⟩:=ZF (swE K C L h);have C1:=Zd (Pv _ _ _ _ ka kn kc K la ln lc C a m c L h cc X eg w de hE hK hC sC hL bx);obtain⟨S3,bk⟩:=ZF ((Zv h L (K,C)).1.take 3);have e1:((swT h L (K,C)).take 3).map (·.1)=S3:=by rw[List.map_take,Qa,bk]
 obtain⟨Q,hF⟩:=ZF (Zlp h L K C);obtain⟨⟨r,r2⟩,hr⟩:=ZF (rwD h);obtain⟨n,df⟩:=ZF (S3.length);have jf:n<=3:=by rw[<-df,<-bk,bP];omega
 obtain⟨y,hy⟩:=ZF (Yk (pr,h,wk,nc,K0 h (r+Q) lk :: S3));unfold mkE at hx;simp only[bx,bk,hF,hr,hy] at hx;obtain⟨HX,cf,ga,fp,cg,eb,fz,dz⟩:=kh8 hx bq ej de x1 x2 bx e1;obtain⟨HF,HR,al,HY,HT,fw,fy⟩:=kh7 hF hr df hy hT sT hn;have t0:=Zb (X:=[F ka kn kc]) x0 0 _ rfl;have tl:=aA x0;obtain⟨-,g1,gl⟩:=kc2 x2;clear hE hK hC sC hL hx bx bq ej x0 x1 x2 x3 x4 hX eg de e1 hF hr df hy hT sT bk hn;go_enter func26,ntmps26;go_wp2_with fail;rw[<-ei];clear ei hh;(try go_wp2_with fail);refine C1.mono ?_;rintro e w1 gz
 rcases gz with ⟨h0,rfl,ap⟩|⟨h0,p,D,rfl,hp,db,hd,hI⟩
 ·have y:=ZE ap cg;obtain⟨y0,y1,y2,y3,y4,iq,ir,it,iu,iv,yl⟩:=kf5 y;clear y;have ko:(cc != 0)=true:=by simp[h0]
  have ag:Hid ((x,ke)=(cc,Ym)):=by have:=Za HX;rw[if_pos h0] at this;exact this.symm
  have HB:=Zd (Zf cf ap);clear ap C1 HX;go_wp2;(try simp only[aR,Exit.then]);refine aW (v:=dB #[.agg #[E J 0,E J 0,E J 0,E J 0,F none 0 0],E J cc]) ?_ rfl ?_
  ·rw[results_cell_tmp rfl];go_simp
  ·exact MkR.err (B:=w.heap.size+1) ag HB ((Gr.refl w1 (λq=>q=w.heap.size+1)).five (w.heap.size+1) (.inl rfl) _ _ _ _ _) (by omega)
 ·subst h0;obtain⟨va,vc,Kl,hS,hf,_,_,gu,cz⟩:=hI;rw[Za dz,Za al] at hS;have bs:Zp C - Zp (Xf C ((swT h L (K,C)).take 3))=Q:=Za HF;rw[bs] at hf gu;have ap:=fp w1 db;have z1:=(db.block _ (aA cg) (λe=>by have:=e.ge;omega)).trans cg;have z2:=(db.block _ (aA eb) (λe=>by have:=e.ge;omega)).trans eb;have dg:=Vm (Ut fz).1
  have gy:r2=0/\0<=r/\r<=64:=by
   have q:=Za HR;unfold rwD at q;rw[if_pos (by simp[dg.2.2.1,dg.2.2.2])] at q;injection q with q1 q2;have:=Pn ((h - 1).toNat / 8);exact⟨q2.symm,by omega,by omega⟩
  obtain⟨rfl,jj,jk⟩:=gy
  have je:Q<=1000000000:=by
   rcases cz with q|q
   ·rw[<-bs,q.1,List.take_nil,Vn];omega
   ·rw[<-bs];have:=Kc q.2.2;omega
  have er:n=0->va=none/\vc=0:=λq0=>by
   rcases cz with q|q
   ·exact q.2
   ·have q1:=congrArg List.length dz;rw[List.length_map,bP,Za al,q0] at q1;exact absurd (aP.1 (by omega)) q.1
  have CR:=Zd (λV=>Pp h r 0 V HR);obtain⟨HS,fj,cj,gc,HP,fo,fq⟩:=kh7 hS ap z1 z2 hp hf er;obtain⟨-,b0,bl⟩:=kc2 z2;clear ap z1 dg hS bs z2 C1 hd hf cz er;go_wp2_with fail;refine (CR _).mono ?_;rintro e w2 ⟨rfl,bo⟩;obtain⟨bb,ar⟩:=kh2 (Zf fj bo) bo;have br:=ZE bo fo;have f0:=Zb (X:=[_]) br 0 _ rfl;have kj:=aA br;have iw:=Zd br;clear bo CR b0 bl br;by_cases e0:r+Q=0
  ·have y:=ZE ar cj;obtain⟨y0,y1,y2,y3,y4,iq,ir,it,iu,iv,yl⟩:=kf5 y;clear y;have ag:Hid ((x,ke)=(9,Ym)):=(by have:=Za HX;rw[if_neg (λq=>q rfl),if_pos e0] at this;exact this.symm);have g0:(r+Q == 0)=true:=(by simp[e0]);clear HX;go_wp2;(try simp only[aR,Exit.then]);refine aW (v:=dB #[.agg #[E J 0,E J 0,E J 0,E J 0,F none 0 0],E J 9]) ?_ rfl ?_
   ·rw[results_cell_tmp rfl];go_simp
   ·exact MkR.err (B:=w.heap.size+1) ag bb ((Gr.refl w2 (λq=>q=w.heap.size+1)).five (w.heap.size+1) (.inl rfl) _ _ _ _ _) (by omega)
  ·have g0:(r+Q == 0)=false:=(by simp[e0]);have dj:=Za HX;rw[if_neg (λq=>q rfl),if_neg e0] at dj;have be:=Zd dj;clear dj HX;have jh:w.heap.size+5<=p:=(by have:=Za ga;have:=Za HP;omega);have au:=HS.on (Gr.of (S:=λ_=>False) ar) (λ_ q=>q.elim);have bd:=Zd au;have cd:=ZE ar gc;have cl:=Zd cd;obtain⟨-,c1,kk⟩:=kc2 cd;have d0:=Zb (X:=[_]) au.box 0 _ rfl;have dl:=aA au.box;have CP:=Zd (λV (hv:ZD w V)=>Znw h (r+Q) ta tn tc lk V fy (HT.later hv) fw);have ji:=au.pl;have jl:IntKind.i64.wrap (r+Q)=r+Q:=(by rw[IntKind.wrap_i64];omega);have KS:Hid (∀ U:World,Gr w2 U (λq=>p<q)->((U.cell? ⟨w.heap.size+4,0,none⟩=some (E J Q)/\w.heap.size+4<U.heap.size)/\(U.cell? ⟨w.heap.size+2,1,none⟩=some (E J h)/\w.heap.size+2<U.heap.size)/\U.cell? ⟨w.heap.size+3,0,none⟩=some (F va n vc)/\w.heap.size+3<U.heap.size)):=λU hu=>⟨⟨hu.cell f0 (by simp;omega),aD kj hu.size⟩,⟨hu.cell c1 (by simp;omega),aD kk hu.size⟩,hu.cell d0 (by simp;omega),aD dl hu.size⟩
   have cm:Hid (∀ (U:World) (v:Value),Gr w2 U (λq=>p<q)->(λU:World=>(U.cell? ⟨w.heap.size+4,0,none⟩=some (E J Q)/\w.heap.size+4<U.heap.size)/\(U.cell? ⟨w.heap.size+2,1,none⟩=some (E J h)/\w.heap.size+2<U.heap.size)/\U.cell? ⟨w.heap.size+3,0,none⟩=some (F va n vc)/\w.heap.size+3<U.heap.size) (U.setCell ⟨w.heap.size+2,4,none⟩ v)):=λU v hu=>by
    have hg:=(Gr.refl U (λq=>q=w.heap.size+2)).one (w.heap.size+2) 4 (.inl rfl) v;have hh:=(Gr.refl w2 (λq=>p<q)).trans hu;have hz:=Tr.set_cells (hu.heap cd (by omega)) 4 v;exact⟨⟨hg.cell (hu.cell f0 (by simp;omega)) (by simp),aD kj (aT hu.size hg.size)⟩,⟨Zb hz 1 _ rfl,aA hz⟩,hg.cell (hu.cell d0 (by simp;omega)) (by simp),aD dl (aT hu.size hg.size)⟩
   clear au cd
   go_upto_region 12 with fail
   clear f0 kj d0 dl
   go_cut [] from 60 to 70 (λwx=>Hid (Zqe w2 wx (w.heap.size+2) p pr h wk nc (K0 h (r+Q) lk :: S3)))
   case first=>
    refine wp_region_held_drew (S:=λU=>(U.cell? ⟨w.heap.size+4,0,none⟩=some (E J Q)/\w.heap.size+4<U.heap.size)/\(U.cell? ⟨w.heap.size+2,1,none⟩=some (E J h)/\w.heap.size+2<U.heap.size)/\U.cell? ⟨w.heap.size+3,0,none⟩=some (F va n vc)/\w.heap.size+3<U.heap.size) (by kernel_rfl) (KS _ (Gr.of (Zi _))) (λz=>?_);refine tkL 0 rfl z ?_;refine tkL 1 rfl z ?_;refine tkL 2 rfl z ?_;refine tkL 3 rfl z ?_;refine tkL 4 (v:=E J (r+Q)) rfl z ?_;refine tkL 5 rfl z ?_;refine tkL 8 rfl z ?_;refine rdS 6 rfl (CP w2.drew (Zf bb (Zi _))) ?_;rintro e w4 ⟨po,rfl,gn,gq⟩;have cw:ZD w2 w4:=Zf (Zi w2) gq;clear z;refine⟨_,rfl,(KS _ (Gr.of cw)),λz=>?_⟩;(try simp only[aM,ZA,ZB,ZC]);refine rdY 7 rfl (λKQ hK=>?_);go_simp;obtain⟨w5,bv⟩:=ZG (w4.alloc (cZ #[E J h,F none 0 0,F po 1 1] 59));rw[<-bv];have cx:ZD w4 w5:=(by rw[bv];exact Zh _ _);have h5:w5.heap[w4.heap.size]? = some (cZ #[E J h,F none 0 0,F po 1 1] 59 (0,0)):=(by rw[bv];exact Zx _ _ _ _ _);have af:=Zf cw cx;have dm:w5.ownsRow w4.heap.size 59 3 (F (some ⟨w4.heap.size,0,none⟩) 1 1) 1 [E J h,F none 0 0,F po 1 1]:=⟨rfl,.inr ⟨w4.heap.size,1,_,rfl,aF _,h5,aF _,by decide,rfl,rfl⟩⟩;have z5:=ZE af cl;clear bv;clear z;refine hK.out _ _ (KS _ (Gr.of af)) (λz=>?_);clear hK KQ;(try simp only[aM,ZA,ZB,ZC]);have js:=cw.size;have jt:=cx.size
    have ec:Hid (∀ W2,Gr w5 W2 (λq=>q<=p\/w4.heap.size<=q)->Tr.AllC Tr.txR W2 ([E J h,F none 0 0,F po 1 1] :: Kl) (K0 h (r+Q) lk :: S3)):=λW2 g2=>by
     have k1:=bd.kept W2 ((Gr.of af).far g2 (λq e=>by rcases e with e|e;exact .inr (.inl e);exact .inl (by omega)));have k2:=gn W2 ((Gr.of cx).far g2 (λq e=>by have:w2.drew.heap.size=w2.heap.size:=rfl;rcases e with e|e;exact .inr (by omega);exact .inl e));refine⟨by simp[k1.1],λi h1 h2=>?_⟩;cases i with
     | zero=>exact k2
     | succ i=>exact k1.2 i (by simpa using h1) (by simpa using h2)
    by_cases n0:n=0
    ·obtain⟨rfl,rfl⟩:=fq n0;subst n0
     have gp:Kl=[]:=by
      have k1:=(bd.kept w2 (Gr.refl _ _)).1;rw[Za al] at k1;exact aP.1 k1
     refine rdY 9 rfl (λKQ hK=>?_);refine Pm rfl _ _ 37 rfl w4.heap.size 59 i0 3 underlying37 hi (F (some ⟨w4.heap.size,0,none⟩) 1 1) 1 _ rfl dm rfl ?_;clear z;refine hK.out _ _ (KS _ (Gr.of af)) (λz=>?_);clear hK KQ;refine tkL 10 rfl z ?_;obtain⟨-,-,-,-,y4,-,-,-,-,yf,yl⟩:=kf5 z5;refine rdY 11 rfl (λKQ hK=>?_);go_simp;clear z;refine hK.out _ _ (cm _ _ (Gr.of af)) (λz=>?_);clear hK KQ;(try simp only[aM]);refine wpAnyH_done (by kernel_rfl) ?_ _;clear z;go_wp2_with fail;go_meet
     case rel=>exact Eb (K:=[Value.int .i64 h,F none 0 0,F po 1 1] :: Kl) (base:=w4.heap.size) (by rw[cL,Za al]) z5 (by rw[gp];exact dm) (by omega) (by omega) (λW2 g2=>ec W2 (g2.mono (λq _ e=>.inl e))) (Gr.of af)
    ·have own2:=(Gr.of (S:=λ_=>False) af).own bd.own (λ_ _ q=>q);rw[Za al] at own2
     obtain⟨vg,rfl⟩:∃ vg:Nat,va=some ⟨vg,0,none⟩:=by
      rcases own2.2 with ⟨q,q2⟩|⟨g,cap,iz,q,_⟩
      ·exact absurd q2 n0
      ·injection q with q _ _;exact⟨g,q⟩
     have ep:Kl.flatten.length=n*3:=own2.1
     have ig:∀ j u,Kl.flatten[j]? = some u->w5.cell? ((⟨vg,0,none⟩:Addr).add j)=some u:=λj u hj=>by
      have gw:j<n*3:=(by rw[<-ep];exact (cT.1 hj).1);rw[Addr.add_lit,Nat.zero_add,own2.cellAt j gw];exact hj
     have ih:∀ u∈Kl.flatten,u.oneCell'=true:=Tr.flat_one (bd.kept w2 (Gr.refl _ _));refine rdY 9 rfl (λKQ hK=>?_);refine step_append_lies _ rfl _ _ 37 rfl w4.heap.size 59 i0 (.agg #[E J 0,F none 0 0,F none 0 0]) 3 56 underlying37 hi ib ic id rfl (by decide) (F (some ⟨w4.heap.size,0,none⟩) 1 1) 1 _ rfl dm ⟨vg,0,none⟩ n vc Kl.flatten rfl ep ig ih (by omega) (by unfold maxLen;omega) (by omega) (by omega) _ rfl ?_;intro g6 iy w6 gx gv jg _;have dd:Gr w5 w6 (λq=>q=w4.heap.size):=(Gr.refl w5 _).grown gv (λq e=>.inl (by injection e with e;exact e.symm));have dc:Gr w2 w6 (λq=>p<q):=(Gr.of af).trans (dd.mono (λq _ e=>by have e:q=w4.heap.size:=e;omega));have z6:=(dc.block _ (aA cl) (by omega)).trans cl;clear z;refine hK.out _ _ (KS _ dc) (λz=>?_);clear hK KQ;refine tkL 10 rfl z ?_;obtain⟨-,-,-,-,y4,-,-,-,-,yf,yl⟩:=kf5 z6;refine rdY 11 rfl (λKQ hK=>?_);go_simp;clear z;refine hK.out _ _ (cm _ _ dc) (λz=>?_);clear hK KQ;(try simp only[aM]);refine wpAnyH_done (by kernel_rfl) ?_ _;clear z;go_wp2_with fail;go_meet
     case rel=>exact Eb (K:=[Value.int .i64 h,F none 0 0,F po 1 1] :: Kl) (base:=w4.heap.size) (by rw[cL,Za al];omega) z6 gx (by omega) (by omega) (λW2 g2=>ec W2 ((dd.mono (λq _ e=>.inr (by have e:q=w4.heap.size:=e;omega))).trans (g2.mono (λq _ e=>.inl e)))) ((Gr.of af).far dd (λq e=>.inl (by have e:q=w4.heap.size:=e;omega)))
   case rest=>
    obtain⟨kf,ki,kh,cy,di,sg,bu⟩:=Za hcut;obtain⟨CK,ft,fv,cf,ix⟩:=kh5 (Vc pr h wk nc kf ki kh (K0 h (r+Q) lk :: S3) y wc (di wc (Gr.refl _ _)) HY) di sg cy bu;obtain⟨gf,gg,gh,gi,gj,km⟩:=kc5 cy;have el:ZD w wc:=bu.below bb bb.size (λq e=>by have e:q=w.heap.size+2:=e;omega);obtain⟨fl,gd⟩:=kh2 el ((bu.block _ (aA (ZE ar cj)) (λe=>by have e:w.heap.size+1=w.heap.size+2:=e;omega)).trans (ZE ar cj));clear di sg cy bu el hcut KS cm CP c1 kk;go_wp2_with fail;refine CK.mono ?_;rintro e w7 ⟨rfl,av⟩;obtain⟨fk,ce⟩:=kh2 av (Zf fl av);have ek:=ZE av cf;obtain⟨jm,jn,jo,jp,jq,jr⟩:=kc5 ek;have v:=ZE av gd;obtain⟨v0,v1,v2,v3,v4,jw,jx,jy,jz,kb,vl⟩:=kf5 v;clear v;clear av ek CK gf gg gh gi gj km;by_cases ey:y=0
    ·have ag:Hid ((x,ke)=(0,(pr,h,wk,nc,K0 h (r+Q) lk :: S3))):=(by have:=Za be;rw[if_neg (λq=>q ey)] at this;exact this.symm);subst ey
     have fh:Hid (∀ W,Gr w7 W (λq=>q=w.heap.size+1)->MkR w W x ke (dA (dB #[.agg #[E J pr,E J h,E J wk,E J nc,F kf ki kh],E J 0]))):=λW g=>by
      have et:=Za ag;simp only[aN] at et;obtain⟨rfl,rfl⟩:=et;refine⟨kf,ki,kh,rfl,λW2 g2=>ft W2 ?_,Za fv,g.below ce ce.size (λq e=>by have e:q=w.heap.size+1:=e;omega)⟩;exact ((Gr.of fk).trans (g.mono (λq _ e=>by have e:q=w.heap.size+1:=e;omega))).trans (g2.mono (λq _ e=>by omega))
     clear ag be;go_wp2;(try simp only[aR,Exit.then]);refine aW (v:=dB #[.agg #[E J pr,E J h,E J wk,E J nc,F kf ki kh],E J 0]) ?_ rfl ?_
     ·rw[results_cell_tmp rfl];go_simp
     ·exact fh _ ((Gr.refl w7 (λq=>q=w.heap.size+1)).five (w.heap.size+1) (.inl rfl) _ _ _ _ _)
    ·have ag:Hid ((x,ke)=(y,Ym)):=(by have:=Za be;rw[if_pos ey] at this;exact this.symm);have kp:(y != 0)=true:=(by simp[ey]);clear be;go_wp2;(try simp only[aR,Exit.then]);refine aW (v:=dB #[.agg #[E J 0,E J 0,E J 0,E J 0,F none 0 0],E J y]) ?_ rfl ?_
     ·rw[results_cell_tmp rfl];go_simp
     ·exact MkR.err (B:=w.heap.size+1) ag ce ((Gr.refl w7 (λq=>q=w.heap.size+1)).five (w.heap.size+1) (.inl rfl) _ _ _ _ _) (by omega)
