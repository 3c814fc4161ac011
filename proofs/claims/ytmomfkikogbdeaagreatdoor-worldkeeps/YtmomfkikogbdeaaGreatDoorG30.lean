import Derived.Test.YtmomfkikogbdeaaGreatDoorH
import Derived.Test.YtmomfkikogbdeaaGreatDoorG27
open Go.Proofs.Tryz
open Go renaming bodyPost_ret->aW
open Go.Act renaming put->aE
open Go.Ending renaming returned->cS
open Go.Exit renaming inBlock->aR
open Go.IntKind renaming i64->J
open Go.Obj renaming cells->cR
open Go.Proofs.Tryz renaming prog->aA
open Go.Value renaming int->E,slice->F,tuple->cT,pointer->cU
open List renaming length_append->bH,getElem?_eq_some_iff->bZ,take_of_length_le->aN,length_take->bJ,length_eq_zero_iff->aG
open Nat renaming le_refl->aF,lt_of_lt_of_le->aC,le_trans->aT
open Prod.mk renaming injEq->aP
set_option maxHeartbeats 12800000
set_option maxRecDepth 10000
namespace Go.Proofs.YtmomfkikogbdeaaGreatDoor
open Go.RowKit
def AcI(b lo hi N0:Nat)(p:Nat)(D:Nat->Prop)(w:World)(X:List (TxD×List Zj)):Prop:=
 ∃ z Q K,St b p w (.slice z (X.map (·.1)).length Q) K (X.map (·.1))/\N0<=p/\D=DV lo hi (.slice z (X.map (·.1)).length Q)
theorem Zne(b lo hi:Nat)(w0:World)(C0)(hb:w0.heap[b]? = some (cR #[F none 0 0] 37 (0,0)))(h1:lo<=b/\b<hi)(ag:hi<=w0.heap.size) :
  Zlj 88 #[cU (some ⟨b,0,none⟩)] w0 C0 (D0 lo hi) (AcI b lo hi w0.heap.size) where
 enters:=enters_of (fn:=Tryz.f88) (by kernel_rfl) (by kernel_rfl) rfl
 start p w hw hp pl:=⟨none,0,[],St.start ((hw.block b (by omega)).trans hb) (by omega) pl,hp,rfl⟩
 dirty p D w X:=by
  rintro ⟨z,Q,K,h,hp,rfl⟩ q hq;exact DV.dirty h ag hp q hq
 on p D w w' X:=by
  rintro ⟨z,Q,K,h,hp,hD⟩ g;exact⟨z,Q,K,h.on g (λq e=>by subst e;exact⟨aF _,by omega⟩),hp,hD⟩
 call p D wA w X t C' u0 u1 u2:=by
  rintro ⟨z,Q,K,h,hp,rfl⟩ ae hF r1 r2 r3 hl;refine (Zad b p z Q K (X.map (·.1)) _ u0 u1 u2 t wA w h ae hF (by rw[List.length_map];exact hl)).mono ?_;rintro e w' ⟨rfl,⟨v',K',hS⟩,hg⟩;obtain⟨a,c,rfl,_,_⟩:=hS.txs;have e1:(X++[(t,C')]).map (·.1)=X.map (·.1)++[t]:=by simp
  refine⟨rfl,hg.mono (λq _ e=>?_),DV lo hi (.slice a ((X++[(t,C')]).map (·.1)).length c),a,c,K',?_,hp,rfl⟩
  ·rcases e with e|e
   ·subst e;exact .inl h1
   ·exact .inr e
  ·rw[e1];exact hS
def AccR(w w':World)(x:Int)(K:List ByteArray)(L:List TxD)(e:Ending):Prop:=
 ∃ ka kn kc z sn Q,e = cS (cT #[.agg #[F ka kn kc],F z sn Q,E J x])/\Fresh w.heap.size w' (λw2=>Bk.TextsAt w2 ka kn K/\TxsAt w2 z sn L)/\SlOk ka kn kc/\SlOk z sn Q/\ZD w w'
theorem AccR.err{w w':World}{x y:Int}{K L}{b:Nat}{v}(h:(x,K,L)=(y,[],[]))(z:ZD w w')(hB:w.heap.size<=b):AccR w (w'.setCell ⟨b,0,none⟩ v) x K L (cS (cT #[.agg #[F none 0 0],F none 0 0,E J y])):=by
 simp only[aP] at h;obtain⟨rfl,rfl,rfl⟩:=h;exact⟨_,_,_,_,_,_,rfl,λ_ _=>⟨Bk.TextsAt.nil _ _,RowsAt.nil _ _⟩,Zp,Zp,z.setCell (p:=⟨b,0,none⟩) hB _⟩
theorem Gr.unset(w:World)(b i:Nat)(u):Gr (w.setCell ⟨b,i,none⟩ u) w (λq=>q=b):=
 ⟨rfl,rfl,rfl,by simp[World.setCell],λk _ z=>(Below.heap_setCell w ⟨b,i,none⟩ u k (λe=>z e)).symm⟩
theorem Ci(ka kn kc K la ln lc C a m c L)(th:Int)(ai ao ni ci no co I O)(h x:Int)(K' L' w)
  (hE:Env w) (hK:Bk.TextsAt w ka kn K) (hC:CoinsAt w la ln C) (sC:SlOk la ln lc) (hL:TxsAt w a m L) (hI:InsAt w ai ni I) (hO:OutsAt w ao no O) (sI:SlOk ai ni ci) (sO:SlOk ao no co) (hx:acE K C L (th,I,O) h=(x,K',L')) :
  Calls aA 28 #[.agg #[F ka kn kc],F la ln lc,F a m c,.agg #[E J th,F ai ni ci,F ao no co],E J h] w λe w'=>AccR w w' x K' L' e:=by
 obtain⟨i0,hi,gm,gn,gp⟩:=info_parts Tryz.infoTx9;obtain⟨X,hX⟩:=ZG (Yr w [cR #[F ka kn kc] 24,cR #[E J th,F ai ni ci,F ao no co] 59,cR #[F none 0 0] 24,cR #[F none 0 0] 37]);have ce:ZD w X:=by rw[hX];exact Zs _ _
 have er:X.heap.size=w.heap.size+4:=by rw[hX];exact Zy _ _
 have x0:X.heap[w.heap.size]? = some (cR #[F ka kn kc] 24 (0,0)):=by rw[hX];exact Zk _ w 0 _ rfl
 have x1:X.heap[w.heap.size+1]? = some (cR [E J th,F ai ni ci,F ao no co].toArray 59 (0,0)):=by rw[hX];exact Zk _ w 1 _ rfl
 have x2:X.heap[w.heap.size+2]? = some (cR #[F none 0 0] 24 (0,0)):=by rw[hX];exact Zk _ w 2 _ rfl
 have x3:X.heap[w.heap.size+3]? = some (cR #[F none 0 0] 37 (0,0)):=by rw[hX];exact Zk _ w 3 _ rfl
 have eq:X=(((w.alloc (cR #[F ka kn kc] 24)).alloc (cR #[E J th,F ai ni ci,F ao no co] 59)).alloc (cR #[F none 0 0] 24)).alloc (cR #[F none 0 0] 37):=hX;have ek:=Zne (w.heap.size+3) (w.heap.size+3) (w.heap.size+4) X C x3 (by omega) (by omega);have df:∀ V,Gr X V (D0 (w.heap.size+3) (w.heap.size+4))->ZD w V:=λV g=>g.below ce ce.size (λq e=>by have:=e.ge;omega);obtain⟨bf,cm⟩:=ZF (swE K C L h);have C1:=Zd (Sm _ _ _ _ ka kn kc K la ln lc C a m c L h bf X ek w df hE hK hC sC hL cm);obtain⟨⟨S1,K1,Cc⟩,am⟩:=ZF (Zu h L (K,C));have e1:(swT h L (K,C)).map (·.1)=S1:=by rw[Un,am]
 obtain⟨⟨y,K2,C2⟩,bk⟩:=ZF (doD h (K1,Cc) (th,I,O));obtain⟨o,ho⟩:=ZF ((S1.any λir=>Vq ir (th,I,O)));obtain⟨n,hn⟩:=ZF (S1.length);unfold acE at hx;simp only[cm,am,bk,ho,hn] at hx;have HX:=Zd hx;have fo:=Zd ce;have gb:=Zd er;have ft:=Zd df;have dx:=Zd x1;have cw:=Zd x2;have dy:=Zd cm;have ga:=Zd am;have du:=Zd e1;have dt:=Zd bk;have HO:=Zd ho;have HN:=Zd hn;have HE:=Zd hE;have HI:=Zd hI;have bv:=Zd hO;have dw:=Zd sI;have fz:=Zd sO;have t0:=Zb (X:=[F ka kn kc]) x0 0 _ rfl;have tl:=lt_of_block x0;clear hE hK hC sC hL hx cm ce er x0 x1 x2 x3 hX ek df am e1 bk ho hn hI hO sI sO;go_enter func28,ntmps28;go_wp2_with fail;rw[<-eq];clear eq;(try go_wp2_with fail);refine C1.mono ?_;rintro e w1 gl
 rcases gl with ⟨h0,rfl,al⟩|⟨h0,p,D,rfl,hp,dd,hd,hI⟩
 ·have z:=ZE al cw;have bq:=Zb (X:=[F none 0 0]) z 0 _ rfl;have br:=Zg z 0;have bs:=lt_of_block z;have iq:(bf == 0)=false:=by simp[h0]
  have gh:¬bf=0:=h0;have gi:(bf != 0)=true:=by simp[h0]
  have ad:Hid ((x,K',L')=(bf,[],[])):=by have:=Za HX;rw[if_pos h0] at this;exact this.symm
  have HB:=Zd (Zf fo al);clear al z C1 HX;go_wp2;(try simp only[aR,Exit.then]);refine aW (v:=cT #[.agg #[F none 0 0],F none 0 0,E J bf]) ?_ rfl ?_
  ·rw[Bk.results_cell_tmp2 rfl];go_simp
  ·exact AccR.err (b:=w.heap.size+2) ad HB (by omega)
 ·subst h0;obtain⟨va,vc,Kl,hS,_,_⟩:=hI;rw[Za du,Za HN] at hS;have am:=Za ga;rw[am] at hd;simp only at hd;have al:=ft w1 dd;have fm:=Zd al;have z1:=(dd.block _ (lt_of_block dx) (λe=>by have:=e.ge;omega)).trans dx;have z2:=(dd.block _ (lt_of_block cw) (λe=>by have:=e.ge;omega)).trans cw;have cg:=W7 (Ua dy).1;have cj:=Jd (h:=h) L K C cg.1 cg.2.1;have cl:=(Wm (h:=h) L K C cg.1).1;rw[am] at cj cl;simp only at cj cl;have ib:n<=8:=by have q1:=J1 h L (K,C);have q2:=(Ua dy).2;have q3:=congrArg List.length du;rw[List.length_map] at q3;have q4:=Za HN;omega
  have eo:St (w.heap.size+3) p w1 (F va S1.length vc) Kl S1:=by rw[Za HN];exact hS
  obtain⟨dk,dj⟩:=eo.reads (Gr.refl w1 (λ_=>False)) (λ_ q=>q.elim);rw[Za HN] at dk dj;have TT:=Dg (w.heap.size+1) th ai ao ni ci no co I O w1 z1 (HI.later al) (bv.later al);have dq:=Zd (Ro _ _ _ va n vc S1 o w1 TT dk dj.len HO);have HS:=Zd hS;have HD:=Zd hd;have fx:=Zd cj.1;have gx:=Zd cl;have gc:=Zd z1;have ea:=Zd z2;have HP:=Zd hp;have b0:=Zb (X:=[_]) hS.box 0 _ rfl;have bl:=lt_of_block hS.box;have a1:=Zb z1 0 _ rfl;have ip:=lt_of_block z1;clear hS eo hd al z1 z2 cg cj cl dk dj TT am C1;go_wp2_with fail;refine dq.mono ?_;rintro e w2 ⟨rfl,cz⟩;have af:=Zd (Zf fm cz);have an:=Zd cz;clear cz dq b0 bl a1 ip;cases o
  ·have bg:=ZE an gc;have fi:=ZE an ea;have CD:=Zd (Zgc p K1 Cc h th ai ao ni ci no co I O y K2 C2 w2 (HE.later af) (HD.later an).till fx (HI.later af) (bv.later af) dw dt);have a0:=Zb bg 0 _ rfl;have a1:=Zb bg 1 _ rfl;have a2:=Zb bg 2 _ rfl;have ip:=lt_of_block bg;have dz:=Zd bg;have bx:=Zd fi;clear bg fi;go_wp2_with fail;refine CD.mono ?_;rintro e w3 bk;clear a0 a1 a2 ip CD
   rcases bk with ⟨n0,rfl,ae⟩|⟨n0,rfl,ay,es⟩
   ·have z:=ZE ae bx;have bq:=Zb (X:=[F none 0 0]) z 0 _ rfl;have br:=Zg z 0;have bs:=lt_of_block z;have iq:(y == 0)=false:=(by simp[n0]);have gh:¬y=0:=n0;have gi:(y != 0)=true:=(by simp[n0]);have ad:Hid ((x,K',L')=(y,[],[])):=(by have:=Za HX;rw[if_neg (λq=>q rfl),if_neg (by decide),if_pos n0] at this;exact this.symm);have HB:=Zd (Zf af ae);clear ae z HX;go_wp2;(try simp only[aR,Exit.then]);refine aW (v:=cT #[.agg #[F none 0 0],F none 0 0,E J y]) ?_ rfl ?_
    ·rw[Bk.results_cell_tmp2 rfl];go_simp
    ·exact AccR.err (b:=w.heap.size+2) ad HB (by omega)
   ·subst n0;have ic:w.heap.size+4<=p:=(by have:=Za gb;have:=Za HP;omega);have ax:=(HS.on (Gr.of (S:=λ_=>False) an) (λ_ q=>q.elim)).on ay (λq e=>by subst e;exact⟨aF _,by omega⟩);have au:=(ay.block _ (lt_of_block dz) (λe=>by have e:w.heap.size+1=p:=e;omega)).trans dz;have cp:=(ay.block _ (lt_of_block bx) (λe=>by have e:w.heap.size+2=p:=e;omega)).trans bx;have ae:ZD w w3:=ay.below af af.size (λq e=>by have e:q=p:=e;omega);have ct:=Zd ae;have gy:=Zd au;have b0:=Zb (X:=[_]) ax.box 0 _ rfl;have bl:=lt_of_block ax.box;have z:=cp;have bq:=Zb (X:=[F none 0 0]) z 0 _ rfl;have br:=Zg z 0;have bs:=lt_of_block z;by_cases e8:n=8
    ·subst e8;have ad:Hid ((x,K',L')=(12,[],[])):=(by have:=Za HX;rw[if_neg (λq=>q rfl),if_neg (by decide),if_neg (λq=>q rfl),if_pos rfl] at this;exact this.symm);clear HX ax au cp z ae ay es;go_wp2;(try simp only[aR,Exit.then]);refine aW (v:=cT #[.agg #[F none 0 0],F none 0 0,E J 12]) ?_ rfl ?_
     ·rw[Bk.results_cell_tmp2 rfl];go_simp
     ·exact AccR.err (b:=w.heap.size+2) ad ct (by omega)
    ·have g8:((n:Int) == 8)=false:=(by simp;omega);have ia:¬((n:Int)=8):=(by omega);have ad:Hid ((x,K',L')=(0,K2,S1++[(th,I,O)])):=(by have:=Za HX;rw[if_neg (λq=>q rfl),if_neg (by decide),if_neg (λq=>q rfl),if_neg e8] at this;exact this.symm);obtain⟨bb,be,bd,id,ig,ie,di,ei,fd,gu⟩:=es;have sm:=Tr.tx_small (T6 dt).1;have CT:=Zd (λV (hv:ZD w3 V)=>Tr.clTx_is th ai ao ni ci no co I O V (HI.later (Zf ae hv)) (bv.later (Zf ae hv)) dw fz (by rw[<-(Za HI).1];exact sm.1) (by rw[<-(Za bv).1];exact sm.2.1) sm.2.2.1 sm.2.2.2);have p0:=Zb di 0 _ rfl;have pl:=lt_of_block di;have a0:=Zb au 0 _ rfl;have a1:=Zb au 1 _ rfl;have a2:=Zb au 2 _ rfl;have ip:=lt_of_block au;have KS:Hid (∀ U:World,Gr w3 U (λq=>p<q\/q=w.heap.size+2)->((U.cell? ⟨p,0,none⟩=some (F bb be bd)/\p<U.heap.size)/\(U.cell? ⟨w.heap.size+1,0,none⟩=some (E J th)/\U.cell? ⟨w.heap.size+1,1,none⟩=some (F ai ni ci)/\U.cell? ⟨w.heap.size+1,2,none⟩=some (F ao no co)/\w.heap.size+1<U.heap.size)/\U.cell? ⟨w.heap.size+3,0,none⟩=some (F va n vc)/\w.heap.size+3<U.heap.size)):=λU hu=>⟨⟨hu.cell p0 (by simp;omega),aC pl hu.size⟩,⟨hu.cell a0 (by simp;omega),hu.cell a1 (by simp;omega),hu.cell a2 (by simp;omega),aC ip hu.size⟩,hu.cell b0 (by simp;omega),aC bl hu.size⟩;have cu:=Zd ax;have fs:=Zd ei;have fy:=Zd fd;have eb:=Zd cp
     have fu:=Zd (show ∀ q,(Value.slice va n vc).ownBlock=some q->p<q/\q<w2.heap.size from λq hq=>⟨by have:=(ax.own.lt q hq).1;omega,aC (HS.own.lt q hq).2 an.size⟩);clear HX ax au cp z ae ay di ei fd gu sm a0 a1 a2 ip p0 pl bq br bs
     go_upto_region 11 with fail
     clear b0 bl;refine wp_region_held_drew (S:=λU=>(U.cell? ⟨p,0,none⟩=some (F bb be bd)/\p<U.heap.size)/\(U.cell? ⟨w.heap.size+1,0,none⟩=some (E J th)/\U.cell? ⟨w.heap.size+1,1,none⟩=some (F ai ni ci)/\U.cell? ⟨w.heap.size+1,2,none⟩=some (F ao no co)/\w.heap.size+1<U.heap.size)/\U.cell? ⟨w.heap.size+3,0,none⟩=some (F va n vc)/\w.heap.size+3<U.heap.size) (by kernel_rfl) (KS _ (Gr.of (Zi _))) (λQ=>?_);refine tkL 0 rfl Q ?_;refine tkL 1 rfl Q ?_;refine tkL 2 rfl Q ?_;refine tkL 3 rfl Q ?_;refine tkL 4 rfl Q ?_;refine tkL 5 rfl Q ?_;refine rdS 6 rfl (CT w3.drew (Zi _)) ?_;rintro e w4 ⟨a1,c1,a2,c2,rfl,ej,db⟩;have da:ZD w3 w4:=Zf (Zi w3) db;clear Q;refine⟨_,rfl,(KS _ (Gr.of da)),λQ=>?_⟩;(try simp only[aE,ZA,ZB,ZC]);refine rdY 7 rfl (λKQ hK=>?_);go_simp;obtain⟨w5,dl⟩:=ZG (w4.alloc (cR #[E J th,F a1 ni c1,F a2 no c2] 59));rw[<-dl];have dc:ZD w4 w5:=(by rw[dl];exact Zh _ _);have h5:w5.heap[w4.heap.size]? = some (cR #[E J th,F a1 ni c1,F a2 no c2] 59 (0,0)):=(by rw[dl];exact Zv _ _ _ _ _);have bj:=Zf da dc;have ey:w5.ownsRow (p+1) 59 3 (F va n vc) n Kl.flatten:=(by have:=(Gr.of (S:=λ_=>False) bj).own cu.own (λ_ _ q=>q);rw[Za HN] at this;exact this);have gj:p+1<=w5.heap.size:=(by have:=cu.pl;have:=bj.size;omega);clear Q;refine hK.out _ _ (KS _ (Gr.of bj)) (λQ=>?_);clear hK KQ;(try simp only[aE,ZA,ZB,ZC]);refine rdY 8 rfl (λKQ hK=>?_)
     refine step_append_lies _ rfl _ _ 37 rfl (p+1) 59 i0 (.agg #[E J 0,F none 0 0,F none 0 0]) 3 56 underlying37 hi gm gn gp rfl (by decide) (F va n vc) n Kl.flatten rfl ey ⟨w4.heap.size,0,none⟩ 1 1 [E J th,F a1 ni c1,F a2 no c2] rfl rfl (World.news_of_block h5) (λu hu=>by simp at hu;rcases hu with rfl|rfl|rfl <;> rfl) (by decide) (by unfold maxLen;omega) (by omega) gj _ rfl ?_;intro g6 cb w6 eu de et _;have az:Gr w3 w6 (λq=>p<q/\q<w2.heap.size):=(Gr.of bj).grown de (λq e=>.inl (fu q e));have dp:=(az.block _ (lt_of_block eb) (λe=>by omega)).trans eb;have bq:=Zb (X:=[F none 0 0]) dp 0 _ rfl;have br:=Zg dp 0;have bs:=lt_of_block dp;clear Q;refine hK.out _ _ (KS _ (az.mono (λq _ e=>.inl e.1))) (λQ=>?_);clear hK KQ;(try simp only[aE,ZA,ZB,ZC]);refine rdY 9 rfl (λKQ hK=>?_);go_simp;clear Q;refine hK.out _ _ (KS _ ((az.mono (λq _ e=>.inl e.1)).one (w.heap.size+2) 0 (.inl (.inr rfl)) _)) (λQ=>?_);clear hK KQ;(try simp only[aE]);refine tkL 10 rfl Q ?_;refine tkL 11 rfl Q ?_;refine wpAnyH_done (by kernel_rfl) ?_ _;clear Q;have ep:=cu.on (Gr.of (S:=λ_=>False) (Zi w3)) (λ_ q=>q.elim)
     have PU:=(St.push (v':=F (some ⟨g6,0,none⟩) (n+1) cb) (t:=(th,I,O)) ep db ej dc de (by rw[Za HN];exact eu) (by
      rcases et with q|q
      ·exact .inl q
      ·exact .inr ⟨g6,rfl,by omega⟩)).1
     have fl:Hid (AccR w (w6.setCell ⟨w.heap.size+2,0,none⟩ (F bb be bd)) x K' L' (cS (cT #[.agg #[F bb be bd],F (some ⟨g6,0,none⟩) (n+1) cb,E J 0]))):=by
      have ew:=Za ad;simp only[aP] at ew;obtain⟨rfl,rfl,rfl⟩:=ew;have el:(S1++[(th,I,O)]).length=n+1:=(by rw[bH,Za HN];rfl);rw[<-el] at PU ⊢;have ik:=an.size;have il:=af.size;have gw:=lt_of_block bx;refine⟨bb,be,bd,_,_,cb,rfl,λW2 g2=>⟨(fs W2 ?_).1,(PU.reads (S:=λq=>q<=p) ?_ (λ_ q=>q)).1⟩,Za fy,(PU.reads (Gr.refl _ (λ_=>False)) (λ_ q=>q.elim)).2,?_⟩
      ·exact ((az.mono (T:=λq=>q<w2.heap.size) (λq _ e=>e.2)).one (w.heap.size+2) 0 (.inl gw) _).trans (g2.mono (λq _ e=>by omega))
      ·exact (((Gr.unset w6 (w.heap.size+3) 0 _).mono (λq _ e=>by have e:q=w.heap.size+3:=e;omega)).one (w.heap.size+2) 0 (.inl (by omega)) _).trans (g2.mono (λq _ e=>by omega))
      ·exact ((az.mono (T:=λq=>p<q\/q=w.heap.size+2) (λq _ e=>.inl e.1)).one (w.heap.size+2) 0 (.inl (.inr rfl)) _).below ct ct.size (λq e=>by omega)
     clear PU ep az eu de et ey h5 bj dc da db ej;go_wp2_with fail;(try simp only[aR,Exit.then]);refine aW (v:=cT #[.agg #[F bb be bd],F (some ⟨g6,0,none⟩) (n+1) cb,E J 0]) ?_ rfl ?_
     ·rw[Bk.results_cell_tmp2 rfl];go_simp
     ·exact Za fl
  ·have z:=ZE an ea;have bq:=Zb (X:=[F none 0 0]) z 0 _ rfl;have br:=Zg z 0;have bs:=lt_of_block z;have ad:Hid ((x,K',L')=(6,[],[])):=(by have:=Za HX;rw[if_neg (λq=>q rfl),if_pos rfl] at this;exact this.symm);clear HX z;go_wp2;(try simp only[aR,Exit.then]);refine aW (v:=cT #[.agg #[F none 0 0],F none 0 0,E J 6]) ?_ rfl ?_
   ·rw[Bk.results_cell_tmp2 rfl];go_simp
   ·exact AccR.err (b:=w.heap.size+2) ad af (by omega)
theorem Lr(z:Addr)(n c:Nat)(l:List (Int×Int))(w:World)(hn:n<=8796093022208)(hz:l.length=n)(hc:∀ j u,(Xa l)[j]? = some u->w.cell? (z.add j)=some u) :
  Calls aA 150 #[F (some z) n c] w λe w'=>∃ v,e = cS v/\w'.ownsRow w.heap.size 164 2 v n (Xa l)/\ZD w w':=by
 obtain⟨i0,hi,am,an,ap⟩:=info_parts Tryz.infoOpC;have hb:=Zh w (cR #[] 164);have HC:Hid (∀ j u,(Xa l)[j]? = some u->(w.alloc (cR #[] 164)).cell? (z.add j)=some u):=λj u hj=>Ze hb (hc j u hj);have Q:=Zd hb;have HZ:=Zd hz;have HO:=Zd (Wa w 164 2);have he:=λw=>Lib.run_eql_slice_nil (P:=aA) w 48 164 (some z) n c 0 0 underlying48;clear hc hb hz;go_enter func150,ntmps150
 go_wp2_with (at_builtin;refine wpList_append_own _ rfl _ _ 48 rfl w.heap.size 164 i0 (.agg #[E J 0,E J 0]) 2 16 underlying48 hi am an ap rfl (by decide) _ _ _ rfl HO z n c (Xa l) rfl (by rw[Xd,Za HZ]) HC (Ra l) (by unfold maxLen;omega) (by omega) Q.size ?_;intro v2 w3 ae ad _)
 have HW:Hid (w3.ownsRow w.heap.size 164 2 v2 n (Xa l)):=by show World.ownsRow _ _ _ _ _ _ _;simpa using ae
 have ag:=Zd (Q.grown ad Q.size (Xj HO));clear ae ad;go_wp2;go_ret;exact⟨v2,rfl,Za HW,Za ag⟩
theorem Nx(a)(n c:Nat)(l)(w:World)(hn:n<=8796093022208)(h:OpsAt w a n l)(hs:SlOk a n c) :
  Calls aA 150 #[F a n c] w λe w'=>∃ z Q,e = cS (F z n Q)/\Fresh w.heap.size w' (λw2=>OpsAt w2 z n l)/\SlOk z n Q/\ZD w w':=by
 obtain⟨hl,hc⟩:=h;cases a with
 | none=>
  obtain⟨rfl,rfl⟩:=hs.2.2 rfl;exact (Jr w).mono λe w' ⟨x,y⟩=>⟨none,0,x,λ_ _=>⟨hl,λh=>absurd h (by omega)⟩,hs,y ▸ Below.refl _ _⟩
 | some ad=>
  have ag:∀ j u,(Xa l)[j]? = some u->w.cell? (ad.add j)=some u:=λj u hj=>by
   have an:j<l.length*2:=(by rw[<-Xd];exact (bZ.1 hj).1);obtain⟨b,off,e,ah⟩:=hc (by omega);cases e;rw[Addr.add_lit];exact Jp hl ah j u hj
  refine (Lr ad n c l w hn hl ag).mono ?_;rintro e w' ⟨v,rfl,x,y⟩;obtain⟨z,Q,rfl,h1,h2,h3⟩:=J6 x;refine⟨z,Q,rfl,λw2 g2=>?_,h2,y⟩;obtain⟨a2,c2,e2,h4,_,_⟩:=J6 (g2.own x (λk hk e=>by have:=(x.lt k hk).1;omega));injection e2 with e2 _ _;subst e2;exact h4
theorem Zjw(h v:Int)(a)(n c:Nat)(l)(w:World)(hn:n<=8796093022208)(hl:OpsAt w a n l)(hs:SlOk a n c) :
  Calls aA 84 #[E J h,E J v,F a n c] w λe w'=>∃ ao,e = cS (.agg #[E J h,F none 0 0,F ao 1 1])/\Fresh w.heap.size w' (λw2=>Tr.txR.C w2 [E J h,F none 0 0,F ao 1 1] (Hk h v l))/\ZD w w':=by
 obtain⟨X,Q⟩:=ZG (w.alloc (cR #[E J 0,F none 0 0,F none 0 0] 59));have ad:ZD w X:=by rw[Q];exact Zh _ _
 have af:X.heap[w.heap.size]? = some (cR [E J 0,F none 0 0,F none 0 0].toArray 59 (0,0)):=by rw[Q];exact Zv _ _ _ _ _
 have ag:X.heap.size=w.heap.size+1:=by rw[Q];simp
 have C1:=Zd (Nx a n c l X hn (hl.later ad) hs);have an:=Zd ad;have ap:=Zd af;have ae:=Zd ag;clear hl hs ad af hn ag;go_enter func84,ntmps84;go_wp2_with fail;rw[<-Q];clear Q;(try go_wp2_with fail);refine C1.mono ?_;rintro e z ⟨a1,c1,rfl,hF,al,ac⟩;have h1:=ZE ac ap;have t0:=Zb h1 0 _ rfl;have t1:=Zb h1 1 _ rfl;have t2:=Zb h1 2 _ rfl;have f0:=Zg h1 0;have f1:=Zg h1 1;have f2:=Zg h1 2;have tl:=lt_of_block h1;have aa:=Zd (Zf an ac)
 have am:Hid (∀ W,Gr z W (λq=>q=w.heap.size)->W.heap[z.heap.size]? = some (cR [E J v,F a1 n c1].toArray 122 (0,0))->Fresh w.heap.size W (λw2=>Tr.txR.C w2 [E J h,F none 0 0,F (some ⟨z.heap.size,0,none⟩) 1 1] (Hk h v l))/\ZD w W):=λW g h2=>by
  refine⟨λw2 g2=>?_,g.below aa aa.size (λq e=>by rw[e];exact aF _)⟩;have gg:Gr z w2 (λq=>q<X.heap.size):=(g.mono (λq _ e=>by have:=Za ae;rw[e];omega)).trans (g2.mono (λq _ e=>by have:=Za ae;omega));have h3:=g2.heap h2 (by have:=aa.size;omega);refine⟨none,0,0,some ⟨z.heap.size,0,none⟩,1,1,rfl,RowsAt.nil _ _,Zp,⟨rfl,λ_=>⟨z.heap.size,0,rfl,lt_of_block h3,λi hi=>?_⟩⟩,⟨aF _,by decide,λe=>by cases e⟩⟩;have ei:i=0:=by simp[Hk] at hi;omega
  subst ei;exact⟨Zb h3 0 _ rfl,a1,n,c1,Zb h3 1 _ rfl,hF w2 gg,al⟩
 clear hF al ac h1 C1;go_wp2;(try simp only[aR,Exit.then]);refine aW (v:=.agg #[E J h,F none 0 0,F (some ⟨z.heap.size,0,none⟩) 1 1]) ?_ rfl ?_
 ·rw[Ye rfl];go_simp
 ·refine⟨_,rfl,am _ ?_ ?_⟩
  ·exact ((((Gr.refl z (λq=>q=w.heap.size)).one w.heap.size 0 (.inl rfl) _).one w.heap.size 1 (.inl rfl) _).one w.heap.size 2 (.inl rfl) _).new _
  ·have:=heap_alloc_new (((z.setCell ⟨w.heap.size,0,none⟩ (E J h)).setCell ⟨w.heap.size,1,none⟩ (F none 0 0)).setCell ⟨w.heap.size,2,none⟩ (F (some ⟨z.heap.size,0,none⟩) 1 1)) (cR #[E J v,F a1 n c1] 122);simpa[World.setCell] using this
theorem Sj{P:Program}{w:World}{ag}{o:Oper}{a:Act}{K:Act->World->Prop}{Q:Exit->Act->World->Prop}{z:Prop}(aa:o.guard=none)(s x:Operand)(t:TypeId)
  (ho:o.op = .call { callee:=.builtin .append,args:=#[s,x],argTypes:=#[t,t] })
  (base:Nat) (e:TypeId) (i:TypeInfo) (size:Nat) (ht:P.underlying t=some (.slice e)) (hi:P.info? e=some i)
  (v) (n:Nat) (xs) (hs:a.eval s=v) (ac:w.ownsRow base e size v n xs) (hx:a.eval x = F none 0 0)
  (h:K (a.put o.dst v) w):if Region.wanted o (yielded ag a.tmps)=true then Oper.wp P o a w K Q else z:=by
 rw[if_pos (by simp[Region.wanted,aa])];have ad:=run_append_owned_none (P:=P) (w:=w) base t o.type e i size ht hi v n xs ac;unfold Oper.wp;simp[execOp,ho,resolve,invoke,builtin,hs,hx,ad,Result.andThen];exact h
theorem Gr.five{w w1:World}{S:Nat->Prop}(h:Gr w w1 S)(b:Nat)(z:S b\/w.heap.size<=b)(Q a1 a2 a3 a4):Gr w (((((w1.setCell ⟨b,0,none⟩ Q).setCell ⟨b,1,none⟩ a1).setCell ⟨b,2,none⟩ a2).setCell ⟨b,3,none⟩ a3).setCell ⟨b,4,none⟩ a4) S:=
 ((((h.one b 0 z Q).one b 1 z a1).one b 2 z a2).one b 3 z a3).one b 4 z a4
def MkI(b b2 lo hi N0:Nat)(C0:List Zj)(p:Nat)(D:Nat->Prop)(w:World)(X:List (TxD×List Zj)):Prop:=
 ∃ z Q K,St b p w (.slice z ((X.take 3).map (·.1)).length Q) K ((X.take 3).map (·.1))/\FeI w b2 (Zr C0 - Zr (Y4 C0 (X.take 3)))/\N0<=p/\D=DV lo hi (.slice z ((X.take 3).map (·.1)).length Q)/\0<=Zr C0 - Zr (Y4 C0 (X.take 3))/\((X=[]/\z=none/\Q=0)\/(X≠[]/\Zr C0<=1000000000/\Y8 (Y4 C0 (X.take 3))))
theorem Znd(b z lo hi:Nat)(w0:World)(C0)(hb:w0.heap[b]? = some (cR #[F none 0 0] 37 (0,0)))(aq:FeI w0 z 0)(h1:lo<=b/\b<hi)(h2:lo<=z/\z<hi)(aw:b≠z)(av:hi<=w0.heap.size) :
  Zlj 82 #[cU (some ⟨b,0,none⟩),cU (some ⟨z,0,none⟩)] w0 C0 (D0 lo hi) (MkI b z lo hi w0.heap.size C0) where
 enters:=enters_of (fn:=Tryz.f82) (by kernel_rfl) (by kernel_rfl) rfl
 start p w hw hp pl:=⟨none,0,[],St.start ((hw.block b (by omega)).trans hb) (by omega) pl,by
  have:Zr C0 - Zr (Y4 C0 (List.take 3 []))=0:=by rw[List.take_nil,W8];omega
  unfold FeI;rw[this];exact (hw.block z (by omega)).trans aq,hp,rfl,by rw[List.take_nil,W8];omega,.inl ⟨rfl,rfl,rfl⟩⟩
 dirty p D w X:=by
  rintro ⟨va,vc,K,h,_,hp,rfl,_⟩ q hq;exact DV.dirty h av hp q hq
 on p D w w' X:=by
  rintro ⟨va,vc,K,h,hf,hp,hD,r⟩ g;exact⟨va,vc,K,h.on g (λq e=>by subst e;exact⟨aF _,by omega⟩),(g.block z (lt_of_block hf) (λe=>by have e:z=p:=e;omega)).trans hf,hp,hD,r⟩
 call p D wA w X t C' u0 u1 u2:=by
  rintro ⟨va,vc,K,h,hf,hp,rfl,h0,hr⟩ af hF r1 r2 r3 hl;by_cases h3:X.length<3
  ·have et:X.take 3=X:=aN (by omega);have Q:(X++[(t,C')]).take 3=X++[(t,C')]:=aN (by rw[bH];simp;omega);rw[et] at h hf h0 hr ⊢
   have hs:Zr C0<=1000000000:=by
    rcases hr with ⟨rfl,_⟩|hr
    ·rw[W8] at r1;exact r1.sum
    ·exact hr.2.1
   have n1:=Gz r1;have n2:=Gz r2;have n3:=r1.sum;refine (Zhc b z p va vc K (X.map (·.1)) _ u0 u1 u2 t wA w h _ hf aw (by omega) h0 (by omega) (by omega) (by omega) af hF (by rw[List.length_map];exact h3)).mono ?_;rintro e w' ⟨rfl,⟨v',K',hS,ar⟩,hg⟩;obtain⟨a,c,rfl,_,_⟩:=hS.txs;have e1:(X++[(t,C')]).map (·.1)=X.map (·.1)++[t]:=(by simp);refine⟨rfl,hg.mono (λq _ e=>?_),DV lo hi (.slice a (((X++[(t,C')]).take 3).map (·.1)).length c),a,c,K',?_,?_,hp,rfl,?_,.inr ⟨by simp,hs,?_⟩⟩
   ·rcases e with (e|e)|e
    ·subst e;exact .inl h1
    ·subst e;exact .inl h2
    ·exact .inr e
   ·rw[Q,e1];exact hS
   ·rw[Q,Wh];have:Zr C0 - Zr (Y4 C0 X)+(Zr (Y4 C0 X) - Zr C')=Zr C0 - Zr C':=(by omega);rw[<-this];exact ar
   ·rw[Q,Wh];omega
   ·rw[Q,Wh];exact r2
  ·have Q:(X++[(t,C')]).take 3=X.take 3:=List.take_append_of_le_length (by omega);refine (Cy b z p va vc K ((X.take 3).map (·.1)) _ u0 u1 u2 t wA w h af hF (by rw[List.length_map,bJ];omega)).mono ?_;rintro e w' ⟨rfl,ah⟩;have aj:=Zf af ah;refine⟨rfl,Gr.of ah,DV lo hi (.slice va ((X.take 3).map (·.1)).length vc),va,vc,K,?_,?_,hp,?_,?_,.inr ?_⟩
   ·rw[Q];exact h.on (Gr.of (S:=λ_=>False) aj) (λ_ q=>q.elim)
   ·rw[Q];exact (aj.block z (lt_of_block hf)).trans hf
   ·rw[Q]
   ·rw[Q];exact h0
   ·rw[Q]
    rcases hr with ⟨rfl,_⟩|hr
    ·exact absurd h3 (by simp)
    ·exact⟨by simp,hr.2⟩
def Jw(b:Zl)(a:Option Addr)(n c:Nat):Value:=.agg #[E J b.1,E J b.2.1,E J b.2.2.1,E J b.2.2.2.1,F a n c]
def MkR(w w':World)(x:Int)(b:Zl)(e:Ending):Prop:=
 ∃ a n c,e = cS (cT #[Jw b a n c,E J x])/\Fresh w.heap.size w' (λw2=>TxsAt w2 a n b.2.2.2.2)/\SlOk a n c/\ZD w w'
theorem MkR.err{w Q w':World}{x y:Int}{b:Zl}{B:Nat}(h:(x,b)=(y,Yf))(z:ZD w Q)(hg:Gr Q w' (λq=>q=B))(hB:w.heap.size<=B):MkR w w' x b (cS (cT #[.agg #[E J 0,E J 0,E J 0,E J 0,F none 0 0],E J y])):=by
 simp only[aP] at h;obtain⟨rfl,rfl⟩:=h;exact⟨none,0,0,rfl,λ_ _=>RowsAt.nil _ _,Zp,hg.below z z.size (λq e=>by rw[e];exact hB)⟩
def Zlu(Q wx:World)(B P:Nat)(p h wk nc:Int)(T:List TxD):Prop:=
 ∃ g n c,wx.heap[B]? = some (cR [E J p,E J h,E J wk,E J nc,F g n c].toArray 39 (0,0))/\(∀ z,Gr wx z (λq=>q<=P)->TxsAt z g n T)/\SlOk g n c/\Gr Q wx (λq=>q=B)
theorem Aw{w1 z:World}{B P:Nat}{p h wk nc:Int}{T:List TxD}{g:Nat}{n c base:Nat}{K:List (List Value)}(hn:T.length=n)(ag:z.heap[B]? = some (cR [E J p,E J h,E J wk,E J nc,F none 0 0].toArray 39 (0,0)))(ab:z.ownsRow base 59 3 (F (some ⟨g,0,none⟩) n c) n K.flatten)(am:P<base)(hB:B<=P)
  (hk:∀ Q,Gr z Q (λq=>q<=P)->Tr.AllC Tr.txR Q K T) (hg:Gr w1 z (λq=>q=B)):Zlu w1 (z.setCell ⟨B,4,none⟩ (F (some ⟨g,0,none⟩) n c)) B P p h wk nc T:=by
 have g1:Gr z (z.setCell ⟨B,4,none⟩ (F (some ⟨g,0,none⟩) n c)) (λq=>q=B):=(Gr.refl z (λq=>q=B)).one B 4 (.inl rfl) _
 have rd:∀ Q,Gr z Q (λq=>q<=P)->TxsAt Q (some ⟨g,0,none⟩) n T/\SlOk (some ⟨g,0,none⟩) n c:=λQ g2=>by
  have o:=g2.own ab (λk hk e=>by have:=(ab.lt k hk).1;omega);obtain⟨a',c',e,h1,h2⟩:=Tr.rows_of_own Tr.txR o (hk Q g2) hn;injection e with e1 _ e3;subst e1 e3;exact⟨h1,h2⟩
 exact⟨some ⟨g,0,none⟩,n,c,Tr.set_cells ag 4 _,λQ g2=>(rd Q ((g1.mono (λq _ e=>by have e:q=B:=e;omega)).trans g2)).1,(rd z (Gr.refl _ _)).2,hg.trans g1⟩
theorem Zgb(ka kn kc K la ln lc C a m c L)(pr ht wk nc:Int)(ta tn tc lk)(h x:Int)(bb:Zl)(w)
  (hE:Env w) (hK:Bk.TextsAt w ka kn K) (hC:CoinsAt w la ln C) (sC:SlOk la ln lc) (hL:TxsAt w a m L) (hT:OpsAt w ta tn lk) (sT:SlOk ta tn tc) (hn:tn<=8796093022208) (hh:IntKind.i64.wrap (ht+1)=h) (hx:mkE K C L pr h wk nc lk=(x,bb)) :
  Calls aA 26 #[.agg #[F ka kn kc],F la ln lc,F a m c,E J pr,E J ht,E J wk,E J nc,F ta tn tc] w λe w'=>MkR w w' x bb e:=by
 obtain⟨i0,hi,ic,id,ie⟩:=info_parts Tryz.infoTx9;obtain⟨X,hX⟩:=ZG (Yr w [cR #[F ka kn kc] 24,cR #[E J 0,E J 0,E J 0,E J 0,F none 0 0] 39,cR #[E J pr,E J h,E J wk,E J nc,F none 0 0] 39,cR #[F none 0 0] 37,cR #[E J 0] 3]);have bt:ZD w X:=by rw[hX];exact Zs _ _
 have en:X.heap.size=w.heap.size+5:=by rw[hX];exact Zy _ _
 have x0:X.heap[w.heap.size]? = some (cR #[F ka kn kc] 24 (0,0)):=by rw[hX];exact Zk _ w 0 _ rfl
 have x1:X.heap[w.heap.size+1]? = some (cR [E J 0,E J 0,E J 0,E J 0,F none 0 0].toArray 39 (0,0)):=by rw[hX];exact Zk _ w 1 _ rfl
 have x2:X.heap[w.heap.size+2]? = some (cR [E J pr,E J h,E J wk,E J nc,F none 0 0].toArray 39 (0,0)):=by rw[hX];exact Zk _ w 2 _ rfl
 have x3:X.heap[w.heap.size+3]? = some (cR #[F none 0 0] 37 (0,0)):=by rw[hX];exact Zk _ w 3 _ rfl
 have x4:X.heap[w.heap.size+4]? = some (cR #[E J 0] 3 (0,0)):=by rw[hX];exact Zk _ w 4 _ rfl
 have el:X=((((w.alloc (cR #[F ka kn kc] 24)).alloc (cR #[E J 0,E J 0,E J 0,E J 0,F none 0 0] 39)).alloc (cR #[E J pr,E J h,E J wk,E J nc,F none 0 0] 39)).alloc (cR #[F none 0 0] 37)).alloc (cR #[E J 0] 3):=hX;have ej:=Znd (w.heap.size+3) (w.heap.size+4) (w.heap.size+3) (w.heap.size+5) X C x3 x4 (by omega) (by omega) (by omega) (by omega);have dj:∀ V,Gr X V (D0 (w.heap.size+3) (w.heap.size+5))->ZD w V:=λV g=>g.below bt bt.size (λq e=>by have:=e.ge;omega);obtain⟨cf,cb⟩:=ZF (swE K C L h);have C1:=Zd (Sm _ _ _ _ ka kn kc K la ln lc C a m c L h cf X ej w dj hE hK hC sC hL cb);obtain⟨S3,br⟩:=ZF ((Zu h L (K,C)).1.take 3);have e1:((swT h L (K,C)).take 3).map (·.1)=S3:=by rw[List.map_take,Un,br]
 obtain⟨Q,hF⟩:=ZF (Zhr h L K C);obtain⟨⟨r,r2⟩,hr⟩:=ZF (rwD h);obtain⟨n,dk⟩:=ZF (S3.length);have jg:n<=3:=by rw[<-dk,<-br,bJ];omega
 obtain⟨y,hy⟩:=ZF (Ym (pr,h,wk,nc,Hk h (r+Q) lk :: S3));unfold mkE at hx;simp only[cb,br,hF,hr,hy] at hx;have HX:=Zd hx;have cp:=Zd bt;have ga:=Zd en;have fp:=Zd dj;have cq:=Zd x1;have ee:=Zd x2;have fz:=Zd cb;have ec:=Zd e1;have HF:=Zd hF;have HR:=Zd hr;have an:=Zd dk;have HY:=Zd hy;have HT:=Zd hT;have fw:=Zd sT;have fy:=Zd hn;have t0:=Zb (X:=[F ka kn kc]) x0 0 _ rfl;have tl:=lt_of_block x0;have g1:=Zb x2 1 _ rfl;have gl:=lt_of_block x2;clear hE hK hC sC hL hx cb bt en x0 x1 x2 x3 x4 hX ej dj e1 hF hr dk hy hT sT br hn;go_enter func26,ntmps26;go_wp2_with fail;rw[<-el];clear el hh;(try go_wp2_with fail);refine C1.mono ?_;rintro e w1 ia
 rcases ia with ⟨h0,rfl,ar⟩|⟨h0,p,D,rfl,hp,dg,hd,hI⟩
 ·have y:=ZE ar cq;have y0:=Zb y 0 _ rfl;have ir:=Zg y 0;have y1:=Zb y 1 _ rfl;have it:=Zg y 1;have y2:=Zb y 2 _ rfl;have iu:=Zg y 2;have y3:=Zb y 3 _ rfl;have iv:=Zg y 3;have y4:=Zb y 4 _ rfl;have iw:=Zg y 4;have yl:=lt_of_block y;clear y;have km:(cf != 0)=true:=by simp[h0]
  have ag:Hid ((x,bb)=(cf,Yf)):=by have:=Za HX;rw[if_pos h0] at this;exact this.symm
  have HB:=Zd (Zf cp ar);clear ar C1 HX;go_wp2;(try simp only[aR,Exit.then]);refine aW (v:=cT #[.agg #[E J 0,E J 0,E J 0,E J 0,F none 0 0],E J cf]) ?_ rfl ?_
  ·rw[results_cell_tmp rfl];go_simp
  ·exact MkR.err (B:=w.heap.size+1) ag HB ((Gr.refl w1 (λq=>q=w.heap.size+1)).five (w.heap.size+1) (.inl rfl) _ _ _ _ _) (by omega)
 ·subst h0;obtain⟨va,vc,Kl,hS,hf,_,_,gv,de⟩:=hI;rw[Za ec,Za an] at hS;have bv:Zr C - Zr (Y4 C ((swT h L (K,C)).take 3))=Q:=Za HF;rw[bv] at hf gv;have ar:=fp w1 dg;have z1:=(dg.block _ (lt_of_block cq) (λe=>by have:=e.ge;omega)).trans cq;have z2:=(dg.block _ (lt_of_block ee) (λe=>by have:=e.ge;omega)).trans ee;have dl:=W7 (Ua fz).1
  have gz:r2=0/\0<=r/\r<=64:=by
   have q:=Za HR;unfold rwD at q;rw[if_pos (by simp[dl.2.2.1,dl.2.2.2])] at q;injection q with q1 q2;have:=G9 ((h - 1).toNat / 8);exact⟨q2.symm,by omega,by omega⟩
  obtain⟨rfl,jk,jl⟩:=gz
  have jf:Q<=1000000000:=by
   rcases de with q|q
   ·rw[<-bv,q.1,List.take_nil,W8];omega
   ·rw[<-bv];have:=Gz q.2.2;omega
  have et:n=0->va=none/\vc=0:=λq0=>by
   rcases de with q|q
   ·exact q.2
   ·have q1:=congrArg List.length ec;rw[List.length_map,bJ,Za an,q0] at q1;exact absurd (aG.1 (by omega)) q.1
  have CR:=Zd (λV=>Me h r 0 V HR);have HS:=Zd hS;have fj:=Zd ar;have ct:=Zd z1;have gc:=Zd z2;have HP:=Zd hp;have fo:=Zd hf;have fq:=Zd et;have b0:=Zb z2 1 _ rfl;have bl:=lt_of_block z2;clear ar z1 dl hS bv z2 C1 hd hf de et;go_wp2_with fail;refine (CR _).mono ?_;rintro e w2 ⟨rfl,bs⟩;have bf:=Zd (Zf fj bs);have av:=Zd bs;have bu:=ZE bs fo;have f0:=Zb (X:=[_]) bu 0 _ rfl;have kk:=lt_of_block bu;have ix:=Zd bu;clear bs CR b0 bl bu;by_cases e0:r+Q=0
  ·have y:=ZE av ct;have y0:=Zb y 0 _ rfl;have ir:=Zg y 0;have y1:=Zb y 1 _ rfl;have it:=Zg y 1;have y2:=Zb y 2 _ rfl;have iu:=Zg y 2;have y3:=Zb y 3 _ rfl;have iv:=Zg y 3;have y4:=Zb y 4 _ rfl;have iw:=Zg y 4;have yl:=lt_of_block y;clear y;have ag:Hid ((x,bb)=(9,Yf)):=(by have:=Za HX;rw[if_neg (λq=>q rfl),if_pos e0] at this;exact this.symm);have g0:(r+Q == 0)=true:=(by simp[e0]);clear HX;go_wp2;(try simp only[aR,Exit.then]);refine aW (v:=cT #[.agg #[E J 0,E J 0,E J 0,E J 0,F none 0 0],E J 9]) ?_ rfl ?_
   ·rw[results_cell_tmp rfl];go_simp
   ·exact MkR.err (B:=w.heap.size+1) ag bf ((Gr.refl w2 (λq=>q=w.heap.size+1)).five (w.heap.size+1) (.inl rfl) _ _ _ _ _) (by omega)
  ·have g0:(r+Q == 0)=false:=(by simp[e0]);have dp:=Za HX;rw[if_neg (λq=>q rfl),if_neg e0] at dp;have bh:=Zd dp;clear dp HX;have ji:w.heap.size+5<=p:=(by have:=Za ga;have:=Za HP;omega);have aw:=HS.on (Gr.of (S:=λ_=>False) av) (λ_ q=>q.elim);have bg:=Zd aw;have be:=ZE av gc;have cu:=Zd be;have c1:=Zb be 1 _ rfl;have cl:=lt_of_block be;have d0:=Zb (X:=[_]) aw.box 0 _ rfl;have kj:=lt_of_block aw.box;have CP:=Zd (λV (hv:ZD w V)=>Zjw h (r+Q) ta tn tc lk V fy (HT.later hv) fw);have jj:=aw.pl;have jm:IntKind.i64.wrap (r+Q)=r+Q:=(by rw[IntKind.wrap_i64];omega);have KS:Hid (∀ U:World,Gr w2 U (λq=>p<q)->((U.cell? ⟨w.heap.size+4,0,none⟩=some (E J Q)/\w.heap.size+4<U.heap.size)/\(U.cell? ⟨w.heap.size+2,1,none⟩=some (E J h)/\w.heap.size+2<U.heap.size)/\U.cell? ⟨w.heap.size+3,0,none⟩=some (F va n vc)/\w.heap.size+3<U.heap.size)):=λU hu=>⟨⟨hu.cell f0 (by simp;omega),aC kk hu.size⟩,⟨hu.cell c1 (by simp;omega),aC cl hu.size⟩,hu.cell d0 (by simp;omega),aC kj hu.size⟩
   have cw:Hid (∀ (U:World) (v:Value),Gr w2 U (λq=>p<q)->(λU:World=>(U.cell? ⟨w.heap.size+4,0,none⟩=some (E J Q)/\w.heap.size+4<U.heap.size)/\(U.cell? ⟨w.heap.size+2,1,none⟩=some (E J h)/\w.heap.size+2<U.heap.size)/\U.cell? ⟨w.heap.size+3,0,none⟩=some (F va n vc)/\w.heap.size+3<U.heap.size) (U.setCell ⟨w.heap.size+2,4,none⟩ v)):=λU v hu=>by
    have hg:=(Gr.refl U (λq=>q=w.heap.size+2)).one (w.heap.size+2) 4 (.inl rfl) v;have hh:=(Gr.refl w2 (λq=>p<q)).trans hu;have hz:=Tr.set_cells (hu.heap be (by omega)) 4 v;exact⟨⟨hg.cell (hu.cell f0 (by simp;omega)) (by simp),aC kk (aT hu.size hg.size)⟩,⟨Zb hz 1 _ rfl,lt_of_block hz⟩,hg.cell (hu.cell d0 (by simp;omega)) (by simp),aC kj (aT hu.size hg.size)⟩
   clear aw be
   go_upto_region 12 with fail
   clear f0 kk d0 kj
   go_cut [] from 60 to 70 (λwx=>Hid (Zlu w2 wx (w.heap.size+2) p pr h wk nc (Hk h (r+Q) lk :: S3)))
   case first=>
    refine wp_region_held_drew (S:=λU=>(U.cell? ⟨w.heap.size+4,0,none⟩=some (E J Q)/\w.heap.size+4<U.heap.size)/\(U.cell? ⟨w.heap.size+2,1,none⟩=some (E J h)/\w.heap.size+2<U.heap.size)/\U.cell? ⟨w.heap.size+3,0,none⟩=some (F va n vc)/\w.heap.size+3<U.heap.size) (by kernel_rfl) (KS _ (Gr.of (Zi _))) (λz=>?_);refine tkL 0 rfl z ?_;refine tkL 1 rfl z ?_;refine tkL 2 rfl z ?_;refine tkL 3 rfl z ?_;refine tkL 4 (v:=E J (r+Q)) rfl z ?_;refine tkL 5 rfl z ?_;refine tkL 8 rfl z ?_;refine rdS 6 rfl (CP w2.drew (Zf bf (Zi _))) ?_;rintro e w4 ⟨po,rfl,gn,gs⟩;have dc:ZD w2 w4:=Zf (Zi w2) gs;clear z;refine⟨_,rfl,(KS _ (Gr.of dc)),λz=>?_⟩;(try simp only[aE,ZA,ZB,ZC]);refine rdY 7 rfl (λKQ hK=>?_);go_simp;obtain⟨w5,ca⟩:=ZG (w4.alloc (cR #[E J h,F none 0 0,F po 1 1] 59));rw[<-ca];have dd:ZD w4 w5:=(by rw[ca];exact Zh _ _);have h5:w5.heap[w4.heap.size]? = some (cR #[E J h,F none 0 0,F po 1 1] 59 (0,0)):=(by rw[ca];exact Zv _ _ _ _ _);have af:=Zf dc dd;have ds:w5.ownsRow w4.heap.size 59 3 (F (some ⟨w4.heap.size,0,none⟩) 1 1) 1 [E J h,F none 0 0,F po 1 1]:=⟨rfl,.inr ⟨w4.heap.size,1,_,rfl,aF _,h5,aF _,by decide,rfl,rfl⟩⟩;have z5:=ZE af cu;clear ca;clear z;refine hK.out _ _ (KS _ (Gr.of af)) (λz=>?_);clear hK KQ;(try simp only[aE,ZA,ZB,ZC]);have jt:=dc.size;have ju:=dd.size
    have ef:Hid (∀ W2,Gr w5 W2 (λq=>q<=p\/w4.heap.size<=q)->Tr.AllC Tr.txR W2 ([E J h,F none 0 0,F po 1 1] :: Kl) (Hk h (r+Q) lk :: S3)):=λW2 g2=>by
     have k1:=bg.kept W2 ((Gr.of af).far g2 (λq e=>by rcases e with e|e;exact .inr (.inl e);exact .inl (by omega)));have k2:=gn W2 ((Gr.of dd).far g2 (λq e=>by have:w2.drew.heap.size=w2.heap.size:=rfl;rcases e with e|e;exact .inr (by omega);exact .inl e));refine⟨by simp[k1.1],λi h1 h2=>?_⟩;cases i with
     | zero=>exact k2
     | succ i=>exact k1.2 i (by simpa using h1) (by simpa using h2)
    by_cases n0:n=0
    ·obtain⟨rfl,rfl⟩:=fq n0;subst n0
     have gq:Kl=[]:=by
      have k1:=(bg.kept w2 (Gr.refl _ _)).1;rw[Za an] at k1;exact aG.1 k1
     refine rdY 9 rfl (λKQ hK=>?_);refine Sj rfl _ _ 37 rfl w4.heap.size 59 i0 3 underlying37 hi (F (some ⟨w4.heap.size,0,none⟩) 1 1) 1 _ rfl ds rfl ?_;clear z;refine hK.out _ _ (KS _ (Gr.of af)) (λz=>?_);clear hK KQ;refine tkL 10 rfl z ?_;have y4:=Zb z5 4 _ rfl;have yf:=Zg z5 4;have yl:=lt_of_block z5;refine rdY 11 rfl (λKQ hK=>?_);go_simp;clear z;refine hK.out _ _ (cw _ _ (Gr.of af)) (λz=>?_);clear hK KQ;(try simp only[aE]);refine wpAnyH_done (by kernel_rfl) ?_ _;clear z;go_wp2_with fail;go_meet
     case rel=>exact Aw (K:=[Value.int .i64 h,F none 0 0,F po 1 1] :: Kl) (base:=w4.heap.size) (by rw[List.length_cons,Za an]) z5 (by rw[gq];exact ds) (by omega) (by omega) (λW2 g2=>ef W2 (g2.mono (λq _ e=>.inl e))) (Gr.of af)
    ·have own2:=(Gr.of (S:=λ_=>False) af).own bg.own (λ_ _ q=>q);rw[Za an] at own2
     obtain⟨vg,rfl⟩:∃ vg:Nat,va=some ⟨vg,0,none⟩:=by
      rcases own2.2 with ⟨q,q2⟩|⟨g,cap,ja,q,_⟩
      ·exact absurd q2 n0
      ·injection q with q _ _;exact⟨g,q⟩
     have er:Kl.flatten.length=n*3:=own2.1
     have ih:∀ j u,Kl.flatten[j]? = some u->w5.cell? ((⟨vg,0,none⟩:Addr).add j)=some u:=λj u hj=>by
      have gx:j<n*3:=(by rw[<-er];exact (bZ.1 hj).1);rw[Addr.add_lit,Nat.zero_add,own2.cellAt j gx];exact hj
     have ii:∀ u∈Kl.flatten,u.oneCell'=true:=Tr.flat_one (bg.kept w2 (Gr.refl _ _));refine rdY 9 rfl (λKQ hK=>?_);refine step_append_lies _ rfl _ _ 37 rfl w4.heap.size 59 i0 (.agg #[E J 0,F none 0 0,F none 0 0]) 3 56 underlying37 hi ic id ie rfl (by decide) (F (some ⟨w4.heap.size,0,none⟩) 1 1) 1 _ rfl ds ⟨vg,0,none⟩ n vc Kl.flatten rfl er ih ii (by omega) (by unfold maxLen;omega) (by omega) (by omega) _ rfl ?_;intro g6 iz w6 gy gw jh _;have di:Gr w5 w6 (λq=>q=w4.heap.size):=(Gr.refl w5 _).grown gw (λq e=>.inl (by injection e with e;exact e.symm));have dh:Gr w2 w6 (λq=>p<q):=(Gr.of af).trans (di.mono (λq _ e=>by have e:q=w4.heap.size:=e;omega));have z6:=(dh.block _ (lt_of_block cu) (by omega)).trans cu;clear z;refine hK.out _ _ (KS _ dh) (λz=>?_);clear hK KQ;refine tkL 10 rfl z ?_;have y4:=Zb z6 4 _ rfl;have yf:=Zg z6 4;have yl:=lt_of_block z6;refine rdY 11 rfl (λKQ hK=>?_);go_simp;clear z;refine hK.out _ _ (cw _ _ dh) (λz=>?_);clear hK KQ;(try simp only[aE]);refine wpAnyH_done (by kernel_rfl) ?_ _;clear z;go_wp2_with fail;go_meet
     case rel=>exact Aw (K:=[Value.int .i64 h,F none 0 0,F po 1 1] :: Kl) (base:=w4.heap.size) (by rw[List.length_cons,Za an];omega) z6 gy (by omega) (by omega) (λW2 g2=>ef W2 ((di.mono (λq _ e=>.inr (by have e:q=w4.heap.size:=e;omega))).trans (g2.mono (λq _ e=>.inl e)))) ((Gr.of af).far di (λq e=>.inl (by have e:q=w4.heap.size:=e;omega)))
   case rest=>
    obtain⟨kf,ki,kh,aj,dn,sg,bz⟩:=Za hcut;have CK:=Zd (Wt pr h wk nc kf ki kh (Hk h (r+Q) lk :: S3) y wc (dn wc (Gr.refl _ _)) HY);have ft:=Zd dn;have fv:=Zd sg;have cp:=Zd aj;have iy:=Zd bz;have gf:=Zb aj 0 _ rfl;have gg:=Zb aj 1 _ rfl;have gh:=Zb aj 2 _ rfl;have gi:=Zb aj 3 _ rfl;have gj:=Zb aj 4 _ rfl;have kl:=lt_of_block aj;have eo:ZD w wc:=bz.below bf bf.size (λq e=>by have e:q=w.heap.size+2:=e;omega);have fl:=Zd eo;have gd:=Zd ((bz.block _ (lt_of_block (ZE av ct)) (λe=>by have e:w.heap.size+1=w.heap.size+2:=e;omega)).trans (ZE av ct));clear dn sg aj bz eo hcut KS cw CP c1 cl;go_wp2_with fail;refine CK.mono ?_;rintro e w7 ⟨rfl,ax⟩;have fk:=Zd ax;have cn:=Zd (Zf fl ax);have am:=ZE ax cp;have jn:=Zb am 0 _ rfl;have jo:=Zb am 1 _ rfl;have jp:=Zb am 2 _ rfl;have jq:=Zb am 3 _ rfl;have jr:=Zb am 4 _ rfl;have js:=lt_of_block am;have v:=ZE ax gd;have v0:=Zb v 0 _ rfl;have jx:=Zg v 0;have v1:=Zb v 1 _ rfl;have jy:=Zg v 1;have v2:=Zb v 2 _ rfl;have jz:=Zg v 2;have v3:=Zb v 3 _ rfl;have kb:=Zg v 3;have v4:=Zb v 4 _ rfl;have kd:=Zg v 4;have vl:=lt_of_block v;clear v;clear ax am CK gf gg gh gi gj kl;by_cases ey:y=0
    ·have ag:Hid ((x,bb)=(0,(pr,h,wk,nc,Hk h (r+Q) lk :: S3))):=(by have:=Za bh;rw[if_neg (λq=>q ey)] at this;exact this.symm);subst ey
     have fh:Hid (∀ W,Gr w7 W (λq=>q=w.heap.size+1)->MkR w W x bb (cS (cT #[.agg #[E J pr,E J h,E J wk,E J nc,F kf ki kh],E J 0]))):=λW g=>by
      have ev:=Za ag;simp only[aP] at ev;obtain⟨rfl,rfl⟩:=ev;refine⟨kf,ki,kh,rfl,λW2 g2=>ft W2 ?_,Za fv,g.below cn cn.size (λq e=>by have e:q=w.heap.size+1:=e;omega)⟩;exact ((Gr.of fk).trans (g.mono (λq _ e=>by have e:q=w.heap.size+1:=e;omega))).trans (g2.mono (λq _ e=>by omega))
     clear ag bh;go_wp2;(try simp only[aR,Exit.then]);refine aW (v:=cT #[.agg #[E J pr,E J h,E J wk,E J nc,F kf ki kh],E J 0]) ?_ rfl ?_
     ·rw[results_cell_tmp rfl];go_simp
     ·exact fh _ ((Gr.refl w7 (λq=>q=w.heap.size+1)).five (w.heap.size+1) (.inl rfl) _ _ _ _ _)
    ·have ag:Hid ((x,bb)=(y,Yf)):=(by have:=Za bh;rw[if_pos ey] at this;exact this.symm);have ko:(y != 0)=true:=(by simp[ey]);clear bh;go_wp2;(try simp only[aR,Exit.then]);refine aW (v:=cT #[.agg #[E J 0,E J 0,E J 0,E J 0,F none 0 0],E J y]) ?_ rfl ?_
     ·rw[results_cell_tmp rfl];go_simp
     ·exact MkR.err (B:=w.heap.size+1) ag cn ((Gr.refl w7 (λq=>q=w.heap.size+1)).five (w.heap.size+1) (.inl rfl) _ _ _ _ _) (by omega)
