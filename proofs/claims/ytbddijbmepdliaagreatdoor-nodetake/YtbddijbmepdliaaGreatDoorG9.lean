import Derived.Test.YtbddijbmepdliaaGreatDoorH
import Derived.Test.YtbddijbmepdliaaGreatDoorG8
import Derived.Lib.ParseIntBTie
open Option renaming none->aD,some->dG
open Go.Proofs.Tryz
open Decidable renaming not_not->bD
open Go renaming lt_of_block->aA,wp_region_held_drew->bC,wpAnyH_done->bZ,bodyPost_ret->aL
open Go.Ending renaming returned->dB
open Go.IntKind renaming wrap_i64->aP,i64->J
open Go.Obj renaming cells->dA
open Go.Proofs.Tryz renaming prog->aB
open Go.Value renaming string->cF,int->E,slice->F,tuple->dC,pointer->dE,bool->dF
open Go.World renaming block_lt_of_cell?->aC
open List renaming take_succ_eq_append_getElem->aH,getElem_mem->aQ,take_of_length_le->aM,mem_append->bM,map_append->bN,getD_eq_getElem?_getD->cM,length_take->aV
open Nat renaming lt_of_lt_of_le->aF,le_refl->aE,zero_le->aI
open Prod.mk renaming injEq->aR
set_option maxHeartbeats 12800000
set_option maxRecDepth 10000
namespace Go.Proofs.YtbddijbmepdliaaGreatDoor
open Go.RowKit
section
section
variable {Z : Nat -> Prop} {w : World} {d bm m : Nat} {ka na ba pa : Option Addr} {kn kc nn nc bn bc pn pc : Nat} {K : List ByteArray} {N : List Int} {T : List Zk} {P : List TxD} {tip : Int} {f : Int -> Value} {β : Int -> List Zi}
theorem Zao(h:DeskAt Z w d bm m ka kn kc K na nn nc N ba bn bc T pa pn pc P tip f β)(aq:World)(bj:ZD aq w)(hE:Env aq)(hd:aq.heap.size<=d)(fc:aq.heap.size<=bm)(hm:m<1000000)(p hh k o:Int)(a n c L)(hL:∀ W,Gr w W (λq=>q=d\/q=bm)->TxsAt W a n L)(sL:SlOk a n c)(x dt:Int)(D:Dsk)(hx:tkR ⟨K,N,T,P,tip,β⟩ (p,hh,k,o,L)=(x,dt,D)) :
  Calls aB 17 #[dE (dG ⟨d,0,aD⟩),.agg #[E J p,E J hh,E J k,E J o,F a n c]] w λe w'=>TakR Z w w' d bm m D x dt e:=by
 have⟨⟨K1,nm,Ns,x1⟩,h1⟩:=ZF (Xk K (p,hh,k,o,L));have⟨⟨N1,T1,x2⟩,h2⟩:=ZF (Tr.addE N T nm (p,hh,k,o,L));have⟨⟨x3,C3,U3⟩,h3⟩:=ZF (Xf K1 (β p) (p,hh,k,o,L));have⟨⟨t,x4⟩,h4⟩:=ZF (Tr.bstD N1 T1);have⟨z,hz⟩:=ZF (Wi N1 T1 t);have⟨⟨K2,P2,x5⟩,h5⟩:=ZF (Zgc K1 (J3 β nm C3 t) P (z+1));unfold tkR at hx;simp only[h1,h2,h3,h4,hz,h5] at hx;have⟨X,hX,cc,al⟩:=ka00 w [E J p,E J hh,E J k,E J o,F a n c] 33;have ce:d<w.heap.size:=aA h.box;have dj:bm<w.heap.size:=h.mp.lt;have CN:=Zb (λV (hv:ZD w V)=>Md ka kn kc K p hh k o a n c L K1 nm Ns x1 V (hE.later (Zf bj hv)) (h.later hv).now.k (hL V (Gr.of hv)) h1);have de:=Zb (λV (g:Gr w V (λq=>q=d\/q=bm))=>(g.below bj bj.size (λq e=>by rcases e with e|e <;> omega):ZD aq V));have KS:Hid (∀ U:World,Gr X U (λq=>q=d\/q=bm)->(d<U.heap.size/\U.cell? ⟨w.heap.size,0,aD⟩=dG (E J p)/\U.cell? ⟨w.heap.size,1,aD⟩=dG (E J hh)/\U.cell? ⟨w.heap.size,2,aD⟩=dG (E J k)/\U.cell? ⟨w.heap.size,3,aD⟩=dG (E J o)/\U.cell? ⟨w.heap.size,4,aD⟩=dG (F a n c)/\w.heap.size<U.heap.size)):=λU hu=>⟨aF ce (Nat.le_trans cc.size hu.size),hu.cell (Zd al 0 _ rfl) (by simp;omega),hu.cell (Zd al 1 _ rfl) (by simp;omega),hu.cell (Zd al 2 _ rfl) (by simp;omega),hu.cell (Zd al 3 _ rfl) (by simp;omega),hu.cell (Zd al 4 _ rfl) (by simp;omega),aF (aA al) hu.size⟩;have⟨HH,ap,HX,HL,ek,HE,HM,H2⟩:=kh8 h cc hx hL sL hE hm h2
 have⟨H3,H4,HZ,H5,ei,fu⟩:=kh6 h3 h4 hz h5 ce dj;clear h bj hE hd fc hm hL sL hx h1 h2 h3 h4 hz h5 cc al ce dj;go_enter func17,ntmps17
 go_upto_region 1 with fail
 rw[<-hX];clear hX
 go_cut [4,5] from 6 to 19 (λs4 s5 wx=>s4 = E J nm/\s5 = E J x1/\Hid (∃ ka' kn' kc',DeskAt Z wx d bm m ka' kn' kc' K1 na nn nc N ba bn bc T pa pn pc P tip f β/\Gr X wx (λq=>q=d\/q=bm)))
 case first=>
  refine bC (S:=λU=>(d<U.heap.size/\U.cell? ⟨w.heap.size,0,aD⟩=dG (E J p)/\U.cell? ⟨w.heap.size,1,aD⟩=dG (E J hh)/\U.cell? ⟨w.heap.size,2,aD⟩=dG (E J k)/\U.cell? ⟨w.heap.size,3,aD⟩=dG (E J o)/\U.cell? ⟨w.heap.size,4,aD⟩=dG (F a n c)/\w.heap.size<U.heap.size)) (by kernel_rfl) (KS _ (Gr.of (Zj X))) (λaa=>?_);refine tkL 0 rfl aa ?_;refine tkL 1 rfl aa ?_;refine tkL 2 rfl aa ?_;refine tkL 3 rfl aa ?_;refine tkL 5 rfl aa ?_;have hb:=Zf ap (Zj X);have l0:=Ze hb (Zd HH.box 0 _ rfl);have ll:=aF ei hb.size;refine rdY 4 rfl (λKQ hK=>?_);go_simp;clear l0 ll;clear aa;refine hK.out _ _ (KS _ (Gr.of (Zj X))) (λaa=>?_);refine rdS 6 rfl (CN _ hb) ?_;rintro e v1 ⟨k5,fj,fi,n5,gj,gi,rfl,fb,fp,-,-,am⟩;have gX:Gr X v1 (λq=>q=d\/q=bm):=Gr.of (Zf (Zj X) am);refine⟨_,rfl,(KS _ gX),λaa=>?_⟩;refine tkL 7 rfl aa ?_;refine tkL 8 rfl aa ?_;refine tkL 9 rfl aa ?_;refine tkL 10 rfl aa ?_;refine tkL 11 rfl aa ?_;refine tkL 12 rfl aa ?_;refine tkL 13 rfl aa ?_;have cf:=Zf hb am;have cd:=(HH.later cf).box;have⟨y0,g0,yl⟩:=kf1 cd;refine rdY 14 rfl (λKQ hK=>?_);go_simp;refine hK.out _ _ (KS _ (gX.one d 0 (.inl (.inl rfl)) _)) (λaa=>?_);refine tkL 15 rfl aa ?_;refine tkL 16 rfl aa ?_;refine bZ (by kernel_rfl) ?_ _;go_wp2_with fail;go_meet
  case rel=>exact⟨rfl,rfl,k5,fj,fi,HH.named hb am fb fp,gX.one d 0 (.inl (.inl rfl)) _⟩
 case rest=>
  obtain⟨rfl,rfl,HC⟩:=hcut;have⟨k1,ds,dr,ev,g1⟩:=Za HC;have⟨af,G1⟩:=kh2 ev g1;by_cases z1:x1=0
  ·subst z1;have dl:=Za HX;rw[if_neg (λq=>q rfl)] at dl;have cz:=Zb dl;have⟨n1,fe⟩:=ZF (N1.length);have CA:=Zb (λV (hv:ZD wc V)=>Tr.add_is na ba nn nc bn bc N T nm p hh k o a n c L N1 T1 n1 x2 V (af.later hv).now.n (af.later hv).now.b af.sn af.sb (Za HL V ((Gr.of ap).trans (G1.trans (Gr.of hv)))) ek H2 fe)
   go_upto_region 3 with fail
   go_cut [5] from 22 to 36 (λs5 wx=>s5 = E J x2/\Hid (∃ na' nc' ba' bc',DeskAt Z wx d bm m k1 ds dr K1 na' n1 nc' N1 ba' n1 bc' T1 pa pn pc P tip f β/\Gr wc wx (λq=>q=d\/q=bm)))
   case first=>
    refine bC (S:=λU=>(d<U.heap.size/\U.cell? ⟨w.heap.size,0,aD⟩=dG (E J p)/\U.cell? ⟨w.heap.size,1,aD⟩=dG (E J hh)/\U.cell? ⟨w.heap.size,2,aD⟩=dG (E J k)/\U.cell? ⟨w.heap.size,3,aD⟩=dG (E J o)/\U.cell? ⟨w.heap.size,4,aD⟩=dG (F a n c)/\w.heap.size<U.heap.size)) (by kernel_rfl) (KS _ (G1.trans (Gr.of (Zj wc)))) (λaa=>?_);refine tkL 0 rfl aa ?_;refine tkL 1 rfl aa ?_;refine tkL 2 rfl aa ?_;refine tkL 3 rfl aa ?_;refine tkL 4 rfl aa ?_;refine tkL 6 rfl aa ?_;refine tkL 7 rfl aa ?_;have hb:=Zj wc;have l1:=Ze hb (Zd af.box 1 _ rfl);have l2:=Ze hb (Zd af.box 2 _ rfl);have ll:=aF (aA af.box) hb.size;refine rdY 5 rfl (λKQ hK=>?_);go_simp;refine hK.out _ _ (KS _ (G1.trans (Gr.of (Zj wc)))) (λaa=>?_);refine rdS 8 rfl (CA _ hb) ?_;rintro e v1 ⟨a1,c1,a2,c2,rfl,fa,fm,fo,am⟩;have gX:Gr wc v1 (λq=>q=d\/q=bm):=Gr.of (Zf hb am);refine⟨_,rfl,(KS _ (G1.trans gX)),λaa=>?_⟩;refine tkL 9 rfl aa ?_;refine tkL 10 rfl aa ?_;refine tkL 11 rfl aa ?_;refine tkL 12 rfl aa ?_;refine tkL 13 rfl aa ?_;refine tkL 14 rfl aa ?_;have cf:=Zf hb am;have cd:=(af.later cf).box;obtain⟨-,y1,y2,-,g1,g2,yl⟩:=kf3 cd;refine rdY 15 rfl (λKQ hK=>?_);go_simp;refine hK.out _ _ (KS _ (G1.trans ((gX.one d 1 (.inl (.inl rfl)) _).one d 2 (.inl (.inl rfl)) _))) (λaa=>?_);refine tkL 16 rfl aa ?_;refine bZ (by kernel_rfl) ?_ _;go_wp2_with fail;go_meet
    case rel=>exact⟨rfl,a1,c1,a2,c2,af.grown hb am fa fm fo,(gX.one d 1 (.inl (.inl rfl)) _).one d 2 (.inl (.inl rfl)) _⟩
   case rest=>
    obtain⟨rfl,HC⟩:=hcut;have⟨a1,c1,a2,c2,ew,g2⟩:=Za HC;have⟨eg,G2⟩:=kh2 ew (G1.trans g2);by_cases z2:x2=0
    ·subst z2;have dm:=Za cz;rw[if_neg (λq=>q rfl)] at dm;have⟨da,cx,GW⟩:=kh3 dm (Zoe H2) ((Gr.of ap).trans G2);have⟨e0,e1,e2,e3,e4,e5,e6⟩:=KS _ G2;have D3:=Zb (Hk eg nm p hh k o a n c L x3 C3 U3 (HE.later (de _ GW)) (Za HL _ GW) HM cx.1 cx.2.1 H3);go_wp2_with fail;refine D3.mono ?_;rintro e w3 ⟨rfl,f3,ey,g3⟩;have⟨ag,G3⟩:=kh2 ey (GW.trans (g3.mono (λq _ e=>(.inr e:q=d\/q=bm))));by_cases z3:x3=0
     ·subst z3;have dn:=Za da;rw[if_neg (λq=>q rfl)] at dn;have⟨db,D4⟩:=kh2 dn (Tr.best_is a1 a2 n1 c1 n1 c2 N1 T1 t x4 w3 ag.now.n ag.now.b ag.sn ag.sb H4);have e1:=Zd ag.box 1 _ rfl;have e2:=Zd ag.box 2 _ rfl;have el:=aA ag.box;go_wp2_with fail;refine D4.mono ?_;rintro e w4 ⟨rfl,dg⟩;have⟨az,G4⟩:=kh2 (ag.later dg) (G3.trans (Gr.of dg));have e4:=Zd az.box 4 _ rfl;have f4:=Zg az.box 4;have el:=aA az.box;have⟨V,hV⟩:=ZG (w4.setCell ⟨d,4,aD⟩ (E J t));have ct:Hid (DeskAt Z V d bm (m+1) k1 ds dr K1 a1 n1 c1 N1 a2 n1 c2 T1 pa pn pc P t f3 (J3 β nm C3)):=(by rw[hV];exact az.tipped t);have GV:Hid (Gr w V (λq=>q=d\/q=bm)):=(by rw[hV];exact G4.one d 4 (.inl (.inl rfl)) _);by_cases z4:x4=0
      ·subst z4;have dp:=Za db;rw[if_neg (λq=>q rfl)] at dp;have⟨dc,bv⟩:=kh2 dp (Kt H4);have ff:=bv.2.1;have fg:=bv.2.2;rw[Za HZ] at ff fg;have ga:IntKind.i64.wrap (z+1)=z+1:=(by rw[aP];omega);have D5:=Zb (T8 ct z HZ);have CS:=Zb (λV2 (hv:ZD V V2)=>Zik (ct.later hv) (HE.later (de _ (GV.trans (Gr.of hv)))) bv.1 (z+1) K2 P2 x5 H5);go_wp2_with fail;rw[<-hV];(try go_wp2_with fail);refine D5.mono ?_;rintro e w6 ⟨rfl,dh⟩;have⟨D6,G6⟩:=kh2 (CS w6 dh) (GV.trans (Gr.of dh));go_wp2_with fail;refine D6.mono ?_;rintro e w7 ⟨rfl,k7,gd,gc,p7,gn,gm,ez,g7⟩;have⟨eh,G7⟩:=kh2 ez (G6.trans (g7.mono (λq _ e=>(.inl e:q=d\/q=bm))));by_cases z5:x5=0
       ·subst z5;have cg:=Za dc;rw[if_neg (λq=>q rfl)] at cg;simp only[aR] at cg;obtain⟨rfl,rfl,rfl⟩:=cg;go_wp2;go_ret2;exact⟨rfl,Za G7,λ_=>⟨_,_,_,_,_,_,_,_,_,_,_,_,_,Za eh⟩⟩
       ·have ab:=Za dc;rw[if_pos z5] at ab;simp only[aR] at ab;obtain⟨rfl,rfl,rfl⟩:=ab;have gx:(x5 == 0)=false:=(by simp[z5]);have gy:(x5 != 0)=true:=(by simp[z5]);go_wp2;go_ret2;exact⟨rfl,G7,λe=>absurd e z5⟩
      ·have ab:=Za db;rw[if_pos z4] at ab;simp only[aR] at ab;obtain⟨rfl,rfl,rfl⟩:=ab;have gx:(x4 == 0)=false:=(by simp[z4]);have gy:(x4 != 0)=true:=(by simp[z4]);go_wp2_with fail;rw[<-hV];(try go_wp2);go_ret2;exact⟨rfl,GV,λe=>absurd e z4⟩
     ·have ab:=Za da;rw[if_pos z3] at ab;simp only[aR] at ab;obtain⟨rfl,rfl,rfl⟩:=ab;have gx:(x3 == 0)=false:=(by simp[z3]);have gy:(x3 != 0)=true:=(by simp[z3]);go_wp2;go_ret2;exact⟨rfl,G3,λe=>absurd e z3⟩
    ·have ab:=Za cz;rw[if_pos z2] at ab;simp only[aR] at ab;obtain⟨rfl,rfl,rfl⟩:=ab;have gx:(x2 == 0)=false:=(by simp[z2]);have gy:(x2 != 0)=true:=(by simp[z2]);go_wp2;go_ret2;exact⟨rfl,((Gr.of ap).trans G2),λe=>absurd e z2⟩
  ·have ab:=Za HX;rw[if_pos z1] at ab;simp only[aR] at ab;obtain⟨rfl,rfl,rfl⟩:=ab;have gx:(x1 == 0)=false:=(by simp[z1]);have gy:(x1 != 0)=true:=(by simp[z1]);go_wp2;go_ret2;exact⟨rfl,((Gr.of ap).trans G1),λe=>absurd e z1⟩
end
end
def mnR(D:Dsk)(wk nc:Int)(lk:List (Int×Int)):Int×Zk×Dsk:=
 if (mkE D.k (D.β D.tip) D.p D.tip (Wi D.n D.t D.tip+1) wk nc lk).1≠0 then ((mkE D.k (D.β D.tip) D.p D.tip (Wi D.n D.t D.tip+1) wk nc lk).1,Y6,D) else
 if (tkR D (mkE D.k (D.β D.tip) D.p D.tip (Wi D.n D.t D.tip+1) wk nc lk).2).1≠0 then ((tkR D (mkE D.k (D.β D.tip) D.p D.tip (Wi D.n D.t D.tip+1) wk nc lk).2).1,Y6,D) else
 (0,(mkE D.k (D.β D.tip) D.p D.tip (Wi D.n D.t D.tip+1) wk nc lk).2,(tkR D (mkE D.k (D.β D.tip) D.p D.tip (Wi D.n D.t D.tip+1) wk nc lk).2).2.2)
def KeptOn(Z:Nat->Prop)(w:World)(d bm:Nat)(D:Dsk):Prop:=
 ∃ ka kn kc na nn nc ba bn bc pa pn pc,w.heap[d]? = dG (dA [F ka kn kc,F na nn nc,F ba bn bc,F pa pn pc,E J D.tip,.map (dG bm)].toArray 95 (0,0)) /\
  (∀ W,Gr w W (λq=>q=d\/q=bm\/Z q)->Tl W ka kn D.k na nn D.n ba bn D.t pa pn D.p)/\SlOk ka kn kc/\SlOk na nn nc/\SlOk ba bn bc/\SlOk pa pn pc
theorem DeskOn.kept{Z:Nat->Prop}{w}{d bm m:Nat}{D:Dsk}(h:DeskOn Z w d bm m D):KeptOn Z w d bm D:=by
 have⟨q1,q2,q3,q4,q5,q6,q7,q8,q9,ac,ad,ae,ap,hq⟩:=h;exact⟨q1,q2,q3,q4,q5,q6,q7,q8,q9,ac,ad,ae,hq.box,hq.dat,hq.sk,hq.sn,hq.sb,hq.sp⟩
theorem KeptOn.off{Z:Nat->Prop}{r:Nat}{w w'}{d bm:Nat}{D:Dsk}(h:KeptOn (λq=>Z q\/q=r) w d bm D)(g:Gr w w' (λq=>q=r))(hd:d≠r):KeptOn Z w' d bm D:=by
 have⟨q1,q2,q3,q4,q5,q6,q7,q8,q9,ac,ad,ae,box,dat,s⟩:=h;refine⟨q1,q2,q3,q4,q5,q6,q7,q8,q9,ac,ad,ae,g.heap box hd,λW g2=>dat W ((g.mono (λq _ e=>.inr (.inr (.inr e)))).trans (g2.mono (λq _ e=>?_))),s⟩
 rcases e with e|e|e
 ·exact .inl e
 ·exact .inr (.inl e)
 ·exact .inr (.inr (.inl e))
def Zrg(Z:Nat->Prop)(w w':World)(d bm:Nat)(D:Dsk)(x:Int)(b:Zk)(e:Ending):Prop:=
 ∃ a n c,e = dB (dC #[Rk b a n c,E J x])/\Fresh w.heap.size w' (λw2=>TxsAt w2 a n b.2.2.2.2)/\SlOk a n c/\Gr w w' (λq=>q=d\/q=bm)/\(x=0->KeptOn Z w' d bm D)
def CutMn(X wx:World)(u:Nat)(b1 b2 b3 b4:Int)(L:List TxD):Prop:=
 ∃ a n c,wx.heap[u]? = dG (dA [E J b1,E J b2,E J b3,E J b4,F a n c].toArray 33 (0,0))/\(∀ W,Gr wx W (λq=>q<X.heap.size)->TxsAt W a n L)/\SlOk a n c/\ZD X wx/\X.heap.size<=u
section
section
variable {Z : Nat -> Prop} {w : World} {d bm m : Nat} {ka na ba pa : Option Addr} {kn kc nn nc bn bc pn pc : Nat} {K : List ByteArray} {N : List Int} {T : List Zk} {P : List TxD} {tip : Int} {f : Int -> Value} {β : Int -> List Zi}
theorem Znh(h:DeskAt Z w d bm m ka kn kc K na nn nc N ba bn bc T pa pn pc P tip f β)(bu:World)(cz:ZD bu w)(hE:Env bu)(hd:bu.heap.size<=d)(dt:bu.heap.size<=bm)(hm:m<1000000)(ht:(Lit.int .i64 tip).wf=true)(h1:0<=Wi N T tip)(h2:Wi N T tip<=1000)(wk no:Int)(ta tn tc lk)(hT:OpsAt w ta tn lk)(sT:SlOk ta tn tc)(hn:tn<=8796093022208)(x:Int)(b:Zk)(D:Dsk)(hx:mnR ⟨K,N,T,P,tip,β⟩ wk no lk=(x,b,D)) :
  Calls aB 62 #[.pointer (dG ⟨d,0,aD⟩),.int .i64 wk,.int .i64 no,F ta tn tc] w λe w'=>Zrg Z w w' d bm D x b e:=by
 have⟨z,hz⟩:=ZF (Wi N T tip);have⟨⟨x1,b1,b2,b3,b4,L⟩,hk⟩:=ZF (mkE K (β tip) P tip (z+1) wk no lk);have⟨⟨x2,fa,D2⟩,cq⟩:=ZF (tkR ⟨K,N,T,P,tip,β⟩ (b1,b2,b3,b4,L));unfold mnR at hx;simp only[hz,hk,cq] at hx;rw[hz] at h1 h2;have dy:IntKind.i64.wrap (z+1)=z+1:=by rw[aP];omega
 have⟨gd,cn,gf,cw,_,sC⟩:=h.c tip;have⟨X,hX,cc,dr⟩:=ka00 w [.int .i64 0,.int .i64 0,.int .i64 0,.int .i64 0,F aD 0 0] 33;have ds:X.heap.size=w.heap.size+1:=by rw[hX];simp
 have cd:d<w.heap.size:=aA h.box;have cy:bm<w.heap.size:=h.mp.lt;have CC:=Zb (λV (hv:ZD w V)=>Rx (h.later hv) ht);rw[cw] at CC;have CH:=Zb (λV (hv:ZD w V)=>T8 (h.later hv) z hz);have CM:=Zb (λV (hv:ZD w V)=>Zln ka kn kc K gd cn gf (β tip) pa pn pc P tip z wk no ta tn tc lk (z+1) x1 (b1,b2,b3,b4,L) V (hE.later (Zf cz hv)) (h.later hv).now.k (by have⟨a2,n2,c2,q1,q2,_⟩:=(h.later hv).c tip;rw[cw] at q1;injection q1 with e1 e2 e3;subst e1 e2 e3;exact q2) sC (h.later hv).now.p (hT.later hv) sT hn dy hk);obtain⟨c0,-,-,c3,c4,-⟩:=kc5 h.box;have KS:Hid (∀ U:World,ZD w U->(U.cell? ⟨d,0,aD⟩=dG (F ka kn kc)/\U.cell? ⟨d,3,aD⟩=dG (F pa pn pc)/\U.cell? ⟨d,4,aD⟩=dG (.int .i64 tip)/\d<U.heap.size)):=λU hu=>⟨Ze hu c0,Ze hu c3,Ze hu c4,aF cd hu.size⟩;have CT:=Zb (λV (hv:ZD X V) (a:Option Addr) (n c:Nat) (hL:∀ W,Gr V W (λq=>q=d\/q=bm)->TxsAt W a n L) (sL:SlOk a n c)=>Zao ((h.widen cc w.heap.size (aE _) (by omega)).later hv) bu (Zf cz (Zf cc hv)) hE hd dt hm b1 b2 b3 b4 a n c L hL sL x2 fa D2 cq);have⟨ah,cl,el,HX,bz,ca⟩:=kh6 cc ds dr hx cd cy;clear h cz hE hd dt hm ht h1 h2 hT sT hn hx hz hk cq dy cw sC cc ds dr cd cy c0 c3 c4;go_enter func62,ntmps62
 go_upto_region 1 with fail
 rw[<-hX];clear hX
 go_cut [10,11] from 12 to 36 (λfo fp wx=>∃ u,fo = .pointer (dG ⟨u,0,aD⟩)/\fp = .int .i64 x1/\Hid (CutMn X wx u b1 b2 b3 b4 L))
 case first=>
  have ab:=Zj X;have hb:=Zf ah ab;refine bC (S:=λU=>(U.cell? ⟨d,0,aD⟩=dG (F ka kn kc)/\U.cell? ⟨d,3,aD⟩=dG (F pa pn pc)/\U.cell? ⟨d,4,aD⟩=dG (.int .i64 tip)/\d<U.heap.size)) (by kernel_rfl) (KS _ hb) (λaa=>?_);refine tkL 0 rfl aa ?_;refine tkL 1 rfl aa ?_;refine tkL 2 rfl aa ?_;refine tkL 3 rfl aa ?_;refine tkL 4 rfl aa ?_;refine tkL 6 rfl aa ?_;refine tkL 7 rfl aa ?_;refine tkL 8 rfl aa ?_;refine tkL 9 rfl aa ?_;refine tkL 10 rfl aa ?_;refine tkL 11 rfl aa ?_;refine tkL 12 rfl aa ?_;refine tkL 13 rfl aa ?_;refine tkL 14 rfl aa ?_;refine tkL 15 rfl aa ?_;refine tkL 16 rfl aa ?_;refine tkL 18 rfl aa ?_;refine tkL 19 rfl aa ?_;refine tkL 20 rfl aa ?_;refine wpAnyH_ready (rs:=[5,25]) (by kernel_rfl) (by simp) ?_;refine rdC rfl (λKQ hK=>?_) (rdC rfl (λKQ hK=>?_) AllReadyH.nil);refine Zq (by kernel_rfl) 63 #[.pointer (dG ⟨d,0,aD⟩)] (by kernel_rfl) (CC X.drew hb) ?_;rintro e v1 ⟨rfl,ae⟩;refine⟨_,rfl,?_⟩;have ay:=ab.size;have ab:=Zf ab ae;have hb:=Zf ah ab;clear aa;refine hK.out _ _ (KS _ hb) (λaa=>?_);clear hK KQ;(try simp only[Act.put,ZA,ZB,ZC]);refine wpAnyH_ready (rs:=[17,25]) (by kernel_rfl) (by simp) ?_;refine rdC rfl (λKQ hK=>?_) (rdC rfl (λKQ hK=>?_) AllReadyH.nil);refine Zq (by kernel_rfl) 44 #[.pointer (dG ⟨d,0,aD⟩)] (by kernel_rfl) (CH v1 hb) ?_;rintro e v2 ⟨rfl,ae⟩;refine⟨_,rfl,?_⟩;have ay:=ab.size;have ab:=Zf ab ae;have hb:=Zf ah ab;clear aa;refine hK.out _ _ (KS _ hb) (λaa=>?_);clear hK KQ
  (try simp only[Act.put,ZA,ZB,ZC]);refine wpAnyH_ready (rs:=[21,25]) (by kernel_rfl) (by simp) ?_;refine rdC rfl (λKQ hK=>?_) (rdC rfl (λKQ hK=>?_) AllReadyH.nil);refine Zq (by kernel_rfl) 103 #[.agg #[F ka kn kc],F gd cn gf,F pa pn pc,.int .i64 tip,.int .i64 z,.int .i64 wk,.int .i64 no,F ta tn tc] (by kernel_rfl) (CM v2 hb) ?_;rintro e v3 ⟨a5,n5,c5,rfl,au,s5,ae⟩;refine⟨_,rfl,?_⟩;dsimp only[Rk];have ay:=ab.size;have ab:=Zf ab ae;have hb:=Zf ah ab;clear aa;refine hK.out _ _ (KS _ hb) (λaa=>?_);clear hK KQ;refine tkL 22 rfl aa ?_;refine tkL 23 rfl aa ?_;refine tkL 24 rfl aa ?_;refine rdY 25 rfl (λKQ hK=>?_);go_simp;obtain⟨vE,ag⟩:∃ w6,w6=v3.alloc (dA #[.int .i64 0,.int .i64 0,.int .i64 0,.int .i64 0,F aD 0 0] 33):=⟨_,rfl⟩;rw[<-ag];have hu:vE.heap[v3.heap.size]? = dG (dA [.int .i64 0,.int .i64 0,.int .i64 0,.int .i64 0,F aD 0 0].toArray 33 (0,0)):=by rw[ag];exact Zw _ _ _ _ _ _ _
  have az:X.heap.size<=v3.heap.size:=ab.size;have bg:ZD v3 vE:=by rw[ag];exact Zh _ _
  have ab:ZD X vE:=Zf ab bg;have hb:=Zf ah ab;clear ag;clear aa;refine hK.out _ _ (KS _ hb) (λaa=>?_);clear hK KQ;have HF:∀ W1,Gr vE W1 (λq=>q=v3.heap.size)->∀ W,Gr W1 W (λq=>q<X.heap.size)->TxsAt W a5 n5 L:=λW1 gg W g=>au W (((Gr.of bg).far gg (λq e=>.inl (by have e:q=v3.heap.size:=e;omega))).trans2 g (λq _ e=>by have e:q<X.heap.size:=e;omega));generalize v3.heap.size=u at hu az HF aa ⊢;rotate_left;go_simp;obtain⟨bq,ag⟩:∃ w6,w6=v2.alloc (dA #[.int .i64 0,.int .i64 0,.int .i64 0,.int .i64 0,F aD 0 0] 33):=⟨_,rfl⟩;rw[<-ag];have hu:bq.heap[v2.heap.size]? = dG (dA [.int .i64 0,.int .i64 0,.int .i64 0,.int .i64 0,F aD 0 0].toArray 33 (0,0)):=by rw[ag];exact Zw _ _ _ _ _ _ _
  have az:X.heap.size<=v2.heap.size:=ab.size;have bg:ZD v2 bq:=by rw[ag];exact Zh _ _
  have ab:ZD X bq:=Zf ab bg;have hb:=Zf ah ab;clear ag;clear aa;refine hK.out _ _ (KS _ hb) (λaa=>?_);clear hK KQ;refine rdS 21 rfl (CM bq hb) ?_;rintro e vE ⟨a5,n5,c5,rfl,au,s5,ae⟩;dsimp only[Rk];have bs:v2.heap.size<bq.heap.size:=aA hu;have hu:=ZE ae hu;have ay:=ab.size;have ab:=Zf ab ae;have hb:=Zf ah ab;clear aa;refine⟨_,rfl,(KS _ hb),λaa=>?_⟩;refine tkL 22 rfl aa ?_;refine tkL 23 rfl aa ?_;refine tkL 24 rfl aa ?_;have HF:∀ W1,Gr vE W1 (λq=>q=v2.heap.size)->∀ W,Gr W1 W (λq=>q<X.heap.size)->TxsAt W a5 n5 L:=λW1 gg W g=>au W ((gg.mono (λq _ e=>by have e:q=v2.heap.size:=e;omega)).trans2 g (λq _ e=>by have e:q<X.heap.size:=e;omega));generalize v2.heap.size=u at hu az HF aa ⊢;rotate_left;go_simp;obtain⟨br,ag⟩:∃ w6,w6=v1.alloc (dA #[.int .i64 0,.int .i64 0,.int .i64 0,.int .i64 0,F aD 0 0] 33):=⟨_,rfl⟩;rw[<-ag];have hu:br.heap[v1.heap.size]? = dG (dA [.int .i64 0,.int .i64 0,.int .i64 0,.int .i64 0,F aD 0 0].toArray 33 (0,0)):=by rw[ag];exact Zw _ _ _ _ _ _ _
  have az:X.heap.size<=v1.heap.size:=ab.size;have bg:ZD v1 br:=by rw[ag];exact Zh _ _
  have ab:ZD X br:=Zf ab bg;have hb:=Zf ah ab;clear ag;clear aa;refine hK.out _ _ (KS _ hb) (λaa=>?_);clear hK KQ;refine rdS 17 rfl (CH br hb) ?_;rintro e v8 ⟨rfl,ae⟩;have bs:v1.heap.size<br.heap.size:=aA hu;have hu:=ZE ae hu;have ay:=ab.size;have ab:=Zf ab ae;have hb:=Zf ah ab;clear aa;refine⟨_,rfl,(KS _ hb),λaa=>?_⟩;(try simp only[Act.put,ZA,ZB,ZC]);refine rdS 21 rfl (CM v8 hb) ?_;rintro e vE ⟨a5,n5,c5,rfl,au,s5,ae⟩;dsimp only[Rk];have bs:v1.heap.size<v8.heap.size:=aA hu;have hu:=ZE ae hu;have ay:=ab.size;have ab:=Zf ab ae;have hb:=Zf ah ab;clear aa;refine⟨_,rfl,(KS _ hb),λaa=>?_⟩;refine tkL 22 rfl aa ?_;refine tkL 23 rfl aa ?_;refine tkL 24 rfl aa ?_;have HF:∀ W1,Gr vE W1 (λq=>q=v1.heap.size)->∀ W,Gr W1 W (λq=>q<X.heap.size)->TxsAt W a5 n5 L:=λW1 gg W g=>au W ((gg.mono (λq _ e=>by have e:q=v1.heap.size:=e;omega)).trans2 g (λq _ e=>by have e:q<X.heap.size:=e;omega));generalize v1.heap.size=u at hu az HF aa ⊢;rotate_left;go_simp;obtain⟨cb,ag⟩:∃ w6,w6=(X.alloc (dA #[.int .i64 0,.int .i64 0,.int .i64 0,.int .i64 0,F aD 0 0] 33)).drew:=⟨_,rfl⟩;rw[<-ag];have hu:cb.heap[X.heap.size]? = dG (dA [.int .i64 0,.int .i64 0,.int .i64 0,.int .i64 0,F aD 0 0].toArray 33 (0,0)):=by rw[ag];exact Zw _ _ _ _ _ _ _
  generalize hq:X.heap.size=u at hu ⊢;have az:X.heap.size<=u:=Nat.le_of_eq hq;have ab:ZD X cb:=by rw[ag];exact Zf (Zh _ _) (Zj _)
  have hb:=Zf ah ab;refine hK.out _ _ (KS _ hb) (λaa=>?_);refine rdS 5 rfl (CC cb hb) ?_;rintro e ec ⟨rfl,ae⟩;have bs:u<cb.heap.size:=aA hu;have hu:=ZE ae hu;have ay:=ab.size;have ab:=Zf ab ae;have hb:=Zf ah ab;refine⟨_,rfl,(KS _ hb),λaa=>?_⟩;(try simp only[Act.put,ZA,ZB,ZC]);refine rdS 17 rfl (CH ec hb) ?_;rintro e ed ⟨rfl,ae⟩;have bs:u<ec.heap.size:=aA hu;have hu:=ZE ae hu;have ay:=ab.size;have ab:=Zf ab ae;have hb:=Zf ah ab;refine⟨_,rfl,(KS _ hb),λaa=>?_⟩;(try simp only[Act.put,ZA,ZB,ZC]);refine rdS 21 rfl (CM ed hb) ?_;rintro e vE ⟨a5,n5,c5,rfl,au,s5,ae⟩;dsimp only[Rk];have bs:u<ed.heap.size:=aA hu;have hu:=ZE ae hu;have ay:=ab.size;have ab:=Zf ab ae;have hb:=Zf ah ab;refine⟨_,rfl,(KS _ hb),λaa=>?_⟩;refine tkL 22 rfl aa ?_;refine tkL 23 rfl aa ?_;refine tkL 24 rfl aa ?_;have HF:∀ W1,Gr vE W1 (λq=>q=u)->∀ W,Gr W1 W (λq=>q<X.heap.size)->TxsAt W a5 n5 L:=λW1 gg W g=>au W ((gg.mono (λq _ e=>by have e:q=u:=e;omega)).trans2 g (λq _ e=>by have e:q<X.heap.size:=e;omega))
  skip
  rotate_left
  all_goals
   have ez:=hu;have⟨u50,u51,u52,u53,u54,fx,fy,fz,ga,gb,gc⟩:=kf5 hu;refine rdY 26 rfl (λKQ hK=>?_);go_simp;refine hK.out _ _ (KS _ (Gr.below (S:=λq=>q=u) ((Gr.refl _ (λq=>q=u)).five u (.inl rfl) _ _ _ _ _) hb hb.size (λq e=>by have e:q=u:=e;have:=ah.size;omega))) (λaa=>?_);refine tkL 27 rfl aa ?_;refine bZ (by kernel_rfl) ?_ _;go_wp2_with fail;go_meet
   case rel=>
    have gg:Gr vE (((((vE.setCell ⟨u,0,aD⟩ (.int .i64 b1)).setCell ⟨u,1,aD⟩ (.int .i64 b2)).setCell ⟨u,2,aD⟩ (.int .i64 b3)).setCell ⟨u,3,aD⟩ (.int .i64 b4)).setCell ⟨u,4,aD⟩ (F a5 n5 c5)) (λq=>q=u):=(Gr.refl vE (λq=>q=u)).five u (.inl rfl) _ _ _ _ _;exact⟨u,rfl,rfl,a5,n5,c5,Tr.set_cells (Tr.set_cells (Tr.set_cells (Tr.set_cells (Tr.set_cells ez 0 _) 1 _) 2 _) 3 _) 4 _,HF _ gg,s5,gg.below ab ab.size (λq e=>by have e:q=u:=e;omega),az⟩
 case rest=>
  obtain⟨u,rfl,rfl,HC⟩:=hcut;have⟨a5,n5,c5,hu,au,s5,ab,az⟩:=Za HC;have⟨HB,HU,dg,dh,df⟩:=kh5 (Zf ah ab) hu au s5 ab;have hr:=ZE df el;have HR:=Zb hr;have⟨r0,r1,r2,r3,r4,fh,fi,fj,fk,fl,rl⟩:=kf5 hr;by_cases z1:x1=0
  ·subst z1;have dz:=Za HX;rw[if_neg (λq=>q rfl)] at dz;have⟨dj,D1⟩:=kh2 dz (CT wc df a5 n5 c5 (λW g=>dg W (g.mono (λq _ e=>by have:=Za bz;have:=Za ca;have:=Za cl;rcases e with e|e <;> omega))) dh);have⟨e0,e1,e2,e3,e4,gh⟩:=kc5 hu;go_wp2_with fail;refine D1.mono ?_;rintro e w2 ⟨rfl,g2,et⟩;have ev:¬(w.heap.size=d\/w.heap.size=bm):=(by have:=Za bz;have:=Za ca;omega);have ew:¬(u=d\/u=bm):=(by have:=Za bz;have:=Za ca;have:=Za cl;omega);have bi:=g2.heap HU ew;have bh:=g2.heap HR ev;have⟨G2,ei⟩:=kh2 g2 et;obtain⟨r0,fh,-⟩:=kf1 bh;have e0:=Zd bi 0 _ rfl;obtain⟨-,r1,-,fi,-⟩:=kf2 bh;have e1:=Zd bi 1 _ rfl;obtain⟨-,-,r2,-,-,fj,-⟩:=kf3 bh;have e2:=Zd bi 2 _ rfl;obtain⟨-,-,-,r3,-,-,-,fk,-⟩:=kf4 bh;have e3:=Zd bi 3 _ rfl;obtain⟨-,-,-,-,r4,-,-,-,-,fl,-⟩:=kf5 bh;have e4:=Zd bi 4 _ rfl;have rl:=aA bh;have gh:=aA bi;have GW:Hid (Gr w w2 (λq=>q=d\/q=bm)):=(Gr.of HB).trans G2;by_cases z2:x2=0
   ·subst z2;have da:=Za dj;rw[if_neg (λq=>q rfl)] at da;simp only[aR] at da;obtain⟨rfl,rfl,rfl⟩:=da
    have bo:Hid (∀ W,Gr w2 W (λq=>q=w.heap.size)->Zrg Z w W d bm D2 0 (b1,b2,b3,b4,L) (dB (.tuple #[.agg #[.int .i64 b1,.int .i64 b2,.int .i64 b3,.int .i64 b4,F a5 n5 c5],.int .i64 0]))):=λW g=>by
     have fv:=Za cl;have cd:=Za bz;have cy:=Za ca;refine⟨a5,n5,c5,rfl,λW2 g2=>dg W2 ?_,Za dh,GW.far g (λq e=>.inl (by have e:q=w.heap.size:=e;omega)),λ_=>?_⟩
     ·exact ((G2.mono (λq _ e=>(by rcases e with e|e <;> omega:q<X.heap.size))).trans (g.mono (λq _ e=>by have e:q=w.heap.size:=e;omega))).trans (g2.mono (λq _ e=>by omega))
     ·exact (ei rfl).kept.off g (by omega)
    go_wp2;refine aL (v:=.tuple #[.agg #[.int .i64 b1,.int .i64 b2,.int .i64 b3,.int .i64 b4,F a5 n5 c5],.int .i64 0]) ?_ rfl ?_
    ·rw[results_cell_tmp rfl];go_simp
    ·exact bo _ ((Gr.refl w2 (λq=>q=w.heap.size)).five w.heap.size (.inl rfl) _ _ _ _ _)
   ·have be:=Za dj;rw[if_pos z2] at be;simp only[aR] at be;obtain⟨rfl,rfl,rfl⟩:=be;have gx:(x2 == 0)=false:=(by simp[z2]);have gy:(x2 != 0)=true:=(by simp[z2]);have bo:Hid (∀ W,Gr w2 W (λq=>q=w.heap.size)->Zrg Z w W d bm ⟨K,N,T,P,tip,β⟩ x2 Y6 (dB (.tuple #[.agg #[.int .i64 0,.int .i64 0,.int .i64 0,.int .i64 0,F aD 0 0],.int .i64 x2]))):=λW g=>⟨aD,0,0,rfl,λ_ _=>RowsAt.nil _ _,Z5,(GW).far g (λq e=>.inl (by have e:q=w.heap.size:=e;omega)),λe=>absurd e z2⟩;go_wp2;refine aL (v:=.tuple #[.agg #[.int .i64 0,.int .i64 0,.int .i64 0,.int .i64 0,F aD 0 0],.int .i64 x2]) ?_ rfl ?_
    ·rw[results_cell_tmp rfl];go_simp
    ·exact bo _ ((Gr.refl w2 (λq=>q=w.heap.size)).five w.heap.size (.inl rfl) _ _ _ _ _)
  ·have be:=Za HX;rw[if_pos z1] at be;simp only[aR] at be;obtain⟨rfl,rfl,rfl⟩:=be;have gx:(x1 == 0)=false:=(by simp[z1]);have gy:(x1 != 0)=true:=(by simp[z1]);have bo:Hid (∀ W,Gr wc W (λq=>q=w.heap.size)->Zrg Z w W d bm ⟨K,N,T,P,tip,β⟩ x1 Y6 (dB (.tuple #[.agg #[.int .i64 0,.int .i64 0,.int .i64 0,.int .i64 0,F aD 0 0],.int .i64 x1]))):=λW g=>⟨aD,0,0,rfl,λ_ _=>RowsAt.nil _ _,Z5,((Gr.of HB:Gr w wc (λq=>q=d\/q=bm))).far g (λq e=>.inl (by have e:q=w.heap.size:=e;omega)),λe=>absurd e z1⟩;go_wp2;refine aL (v:=.tuple #[.agg #[.int .i64 0,.int .i64 0,.int .i64 0,.int .i64 0,F aD 0 0],.int .i64 x1]) ?_ rfl ?_
   ·rw[results_cell_tmp rfl];go_simp
   ·exact bo _ ((Gr.refl wc (λq=>q=w.heap.size)).five w.heap.size (.inl rfl) _ _ _ _ _)
end
end
theorem J7{fn:Func}{p q u:Tmp}{ty tz:TypeId}(h:fn.results=#[.cell p ty,.cell q tz,.tmp u])(tmps:Array Value)(P:Program)(w) :
  (results fn tmps).run P w =
   ((asAddr (tmps.getD p undef)).run P w).andThen λa w₁=>((loadVar ty a).run P w₁).andThen λx w₂=>((asAddr (tmps.getD q undef)).run P w₂).andThen λb w₃=>((loadVar tz b).run P w₃).andThen λy w₄=>.ok (dC #[x,y,tmps.getD u undef]) w₄:=by
 simp only[results,h];simp[Sem.run_bind,Result.andThen]
structure DoC(f:Nat)(caps:Array Value)(w:World)(Zc:Nat->Prop)(D:Dsk)(x:Int)(D':Dsk)(R:Nat->World->Prop):Prop where
 enters:∀ args w,(callFunc f args).run aB w = .ok (.enter f args) w
 old:∀ q,Zc q->q<w.heap.size
 on:∀ B V V',R B V->Gr V V' (λq=>w.heap.size<=q/\q<B)->R B V'
 call:∀ B V d bm m,w.heap.size<=B->ZD w V->DeskOn (λq=>q<B) V d bm m D->B<=d->B<=bm->m<=24 ->
  Calls aB f (#[dE (dG ⟨d,0,aD⟩)]++caps) V λe w'=>e = dB (E J x)/\Gr V w' (λq=>q=d\/q=bm\/Zc q)/\(x=0->KeptOn (λq=>q<B) w' d bm D')/\R B w'
def Dsk.none:Dsk:=⟨[],[],[],[],0,noB⟩
def Zri(w w':World)(x:Int)(D:Dsk)(e:Ending):Prop:=
 ∃ ka kn kc na nn nc ba bn bc pa pn pc,e = dB (dC #[.agg #[F ka kn kc],.agg #[F na nn nc,F ba bn bc,F pa pn pc,E J D.tip],E J x]) /\
  Fresh w.heap.size w' (λw2=>Tl w2 ka kn D.k na nn D.n ba bn D.t pa pn D.p)/\SlOk ka kn kc/\SlOk na nn nc/\SlOk ba bn bc/\SlOk pa pn pc
theorem Fz{w w'}{x:Int}:Zri w w' x Dsk.none (dB (dC #[.agg #[.slice .none 0 0],.agg #[.slice .none 0 0,.slice .none 0 0,.slice .none 0 0,E J 0],E J x])):=
 ⟨.none,0,0,.none,0,0,.none,0,0,.none,0,0,rfl,λ_ _=>⟨Bk.TextsAt.nil _ _,⟨rfl,λh=>absurd h (by decide)⟩,RowsAt.nil _ _,RowsAt.nil _ _⟩,Z5,Z5,Z5,Z5⟩
def Zrh(w w':World)(x0 x:Int)(D:Dsk)(Zc:Nat->Prop)(R:Nat->World->Prop)(e:Ending):Prop:=
 (x0≠0/\Zri w w' x0 Dsk.none e/\ZD w w') \/
 (x0=0/\Gr w w' Zc/\R (w.heap.size+4) w'/\((x≠0/\Zri w w' x Dsk.none e)\/(x=0/\Zri w w' 0 D e)))
theorem Mf(ka kn kc K na ba pa nn nc bn bc pn pc N T P)(tip x0:Int)(w)(hE:Env w)(hK:Bk.TextsAt w ka kn K)(hN:Tr.IntsAt w na nn N)(hT:Tr.BlksAt w ba bn T)(hP:TxsAt w pa pn P)(sN:SlOk na nn nc)(sT:SlOk ba bn bc)(sP:SlOk pa pn pc)(hp:pn<=2513169434916)(hq:∀ t∈P,Tr.TxSmall t)(hx:opE K N T P tip=x0)
  (f:Nat) (caps) (Zc:Nat->Prop) (x:Int) (D':Dsk) (R:Nat->World->Prop) (cu:x0=0->DoC f caps w Zc ⟨K,N,T,P,tip,(Yq K N T noB).2⟩ x D' R) :
  Calls aB 15 #[.agg #[F ka kn kc],.agg #[F na nn nc,F ba bn bc,F pa pn pc,E J tip],.func (.func f) #[] caps] w λe w'=>Zrh w w' x0 x D' Zc R e:=by
 have⟨X,hX⟩:=ZG (Wd w [dA #[F ka kn kc] 24,dA #[F na nn nc,F ba bn bc,F pa pn pc,E J tip] 31,dA #[F aD 0 0] 24,dA #[F aD 0 0,F aD 0 0,F aD 0 0,E J 0] 31]);have cn:X=(((w.alloc (dA #[F ka kn kc] 24)).alloc (dA #[F na nn nc,F ba bn bc,F pa pn pc,E J tip] 31)).alloc (dA #[F aD 0 0] 24)).alloc (dA #[F aD 0 0,F aD 0 0,F aD 0 0,E J 0] 31):=hX;have ac:ZD w X:=by rw[hX];exact Yl _ _
 have cp:X.heap.size=w.heap.size+4:=by rw[hX];exact Xm _ _
 have bf:=kl0 hX _ _ rfl;have bg:=kl hX 1 _ _ rfl;have dt:=kl hX 2 _ _ rfl;have du:=kl hX 3 _ _ rfl;have⟨C1,bq,aj,bw,bx,br⟩:=kh6 (Me ka kn kc K na ba pa nn nc bn bc pn pc N T P tip x0 X (hE.later ac) (hK.later ac) (hN.later ac) (hT.later ac) (hP.later ac) sN sT sP hp hq hx) ac cp dt du cu;have t0:=Zd bf 0 _ rfl;obtain⟨t1,t2,t3,t4,-⟩:=kc4 bg;have tl:=aA bf;have ek:=aA bg;go_enter func15,ntmps15;go_wp2_with fail;rw[<-cn];(try go_wp2_with fail);refine C1.mono ?_;rintro e w1 ⟨ag,hr⟩;have⟨dv,af⟩:=kh2 ag (Zf bq ag);have h2:=ZE ag bw;have h3:=ZE ag bx;have⟨H2,H3⟩:=kh2 h2 h3
 rcases hr with ⟨h0,rfl⟩|⟨h0,d,bm,m,rfl,hD,hd,ea,hm⟩
 ·have gx:(x0 == 0)=false:=by simp[h0]
  have gy:(x0 != 0)=true:=by simp[h0]
  have⟨de,df,dg⟩:=kf1 h2;have⟨dh,di,dj,dl,ca,cb,cc,cd,dm⟩:=kf4 h3
  have ad:Hid (∀ W,Gr w1 W (λq=>w.heap.size<=q)->Zrh w W x0 x D' Zc R (dB (dC #[.agg #[F aD 0 0],.agg #[F aD 0 0,F aD 0 0,F aD 0 0,E J 0],E J x0]))):=λW g=>
   .inl ⟨h0,Fz,g.below af af.size (λq e=>e)⟩
  go_wp2;refine aL (v:=dC #[.agg #[F aD 0 0],.agg #[F aD 0 0,F aD 0 0,F aD 0 0,E J 0],E J x0]) ?_ rfl ?_
  ·rw[J7 rfl];go_simp
  ·exact ad _ (((Gr.refl w1 (λq=>w.heap.size<=q)).one (w.heap.size+2) 0 (.inl (by show w.heap.size<=w.heap.size+2;omega)) _).four (w.heap.size+3) (.inl (by show w.heap.size<=w.heap.size+3;omega)) _ _ _ _)
 ·subst h0;have DC:=br rfl;have ct:w.heap.size+4<=d:=by have:=Za aj;omega
  have cq:w.heap.size+4<=bm:=by have:=Za aj;omega
  have D1:=Zb (DC.call (w.heap.size+4) w1 d bm m (by omega) af (by rw[Za aj] at hD;exact hD) ct cq hm);have eg:=DC.enters;have az:=Zb DC;go_wp2_with fail;refine D1.mono ?_;rintro e w2 ⟨rfl,g2,cw,cm⟩;have⟨bs,bu,bv⟩:=kh3 g2 cw cm;have be:=az.old
  have n2:¬(w.heap.size+2=d\/w.heap.size+2=bm\/Zc (w.heap.size+2)):=by
   rintro (e|e|e)
   ·omega
   ·omega
   ·have:=be _ e;omega
  have n3:¬(w.heap.size+3=d\/w.heap.size+3=bm\/Zc (w.heap.size+3)):=by
   rintro (e|e|e)
   ·omega
   ·omega
   ·have:=be _ e;omega
  have h2:=g2.heap H2 n2;have h3:=g2.heap H3 n3;have⟨de,df,dg⟩:=kf1 h2;have⟨dh,di,dj,dl,ca,cb,cc,cd,dm⟩:=kf4 h3
  have GW:Hid (∀ W,Gr w2 W (λq=>q=w.heap.size+2\/q=w.heap.size+3)->Gr w W Zc/\R (w.heap.size+4) W):=λW g=>by
   refine⟨?_,az.on _ _ _ bv (g.mono (λq _ e=>by rcases e with e|e <;> (show _/\_;omega)))⟩;refine ((Gr.of af).far bs (λq e=>?_)).far g (λq e=>.inl (by rcases e with e|e <;> omega))
   rcases e with e|e|e
   ·exact .inl (by omega)
   ·exact .inl (by omega)
   ·exact .inr e
  by_cases z:x=0
  ·subst z;have⟨k1,aq,ap,n1,au,ar,b1,am,al,p1,ax,aw,box,dat,s1,s2,s3,s4⟩:=bu rfl;have⟨d0,d1,d2,d3,d4,el⟩:=kc5 box
   have ad:Hid (∀ W,Gr w2 W (λq=>q=w.heap.size+2\/q=w.heap.size+3)->Zrh w W 0 0 D' Zc R (dB (dC #[.agg #[F k1 aq ap],.agg #[F n1 au ar,F b1 am al,F p1 ax aw,E J D'.tip],E J 0]))):=λW g=>
    .inr ⟨rfl,(GW W g).1,(GW W g).2,.inr ⟨rfl,k1,aq,ap,n1,au,ar,b1,am,al,p1,ax,aw,rfl,λW2 g2=>dat W2 ((g.mono (λq _ e=>by
     refine .inr (.inr ?_);show q<w.heap.size+4
     rcases e with e|e <;> omega)).trans (g2.mono (λq _ e=>by
     refine .inr (.inr ?_);have e:q<w.heap.size:=e;show q<w.heap.size+4;omega))),s1,s2,s3,s4⟩⟩
   have ec:d≠w.heap.size+2:=(by omega);have ed:d≠w.heap.size+3:=(by omega);go_wp2_with fail
   go_region
   all_goals
    go_wp2;refine aL (v:=dC #[.agg #[F k1 aq ap],.agg #[F n1 au ar,F b1 am al,F p1 ax aw,E J D'.tip],E J 0]) ?_ rfl ?_
    ·rw[J7 rfl];go_simp
    ·exact ad _ ((((Gr.refl w2 (λq=>q=w.heap.size+2\/q=w.heap.size+3)).one (w.heap.size+2) 0 (.inl (.inl rfl)) _).four (w.heap.size+3) (.inl (.inr rfl)) _ _ _ _).trans (Gr.of (Zj _)))
  ·have gx:(x == 0)=false:=(by simp[z]);have gy:(x != 0)=true:=by simp[z]
   have ad:Hid (∀ W,Gr w2 W (λq=>q=w.heap.size+2\/q=w.heap.size+3)->Zrh w W 0 x D' Zc R (dB (dC #[.agg #[F aD 0 0],.agg #[F aD 0 0,F aD 0 0,F aD 0 0,E J 0],E J x]))):=λW g=>
    .inr ⟨rfl,(GW W g).1,(GW W g).2,.inl ⟨z,Fz⟩⟩
   go_wp2;refine aL (v:=dC #[.agg #[F aD 0 0],.agg #[F aD 0 0,F aD 0 0,F aD 0 0,E J 0],E J x]) ?_ rfl ?_
   ·rw[J7 rfl];go_simp
   ·exact ad _ (((Gr.refl w2 (λq=>q=w.heap.size+2\/q=w.heap.size+3)).one (w.heap.size+2) 0 (.inl (.inl rfl)) _).four (w.heap.size+3) (.inl (.inr rfl)) _ _ _ _)
def ofK(K:List (Int×Int))(c:Zi):Bool:=decide (ck c=K)
theorem Zpc(L:List Zi)(f:Zi->Bool)(h:∀ z∈L,0<=cv z):0<=Zm (L.filter f)/\Zm (L.filter f)<=Zm L:=by
 induction L with
 | nil=>exact⟨Int.le_refl _,Int.le_refl _⟩
 | cons x r ih=>
  have⟨i1,i2⟩:=ih λz hz=>h z (List.mem_cons_of_mem _ hz);have hx:=h x (List.mem_cons_self ..);rw[Xx];cases q:f x with
  | true=>rw[List.filter_cons_of_pos q,Xx];omega
  | false=>rw[List.filter_cons_of_neg (by rw[q];decide)];omega
theorem Zge(L:List Zi)(f:Zi->Bool)(k:Nat)(h:k<L.length):Zm ((L.take (k+1)).filter f)=if f L[k] then Zm ((L.take k).filter f)+cv L[k] else Zm ((L.take k).filter f):=by
 rw[aH h,List.filter_append,Wj];cases q:f L[k] with
 | true=>rw[List.filter_cons_of_pos q];simp[Zm]
 | false=>rw[List.filter_cons_of_neg (by rw[q];decide)];simp[Zm]
theorem Zse(x:Zi)(a)(n c:Nat)(ka kn kc K)(b:Nat)(o:Bool)(w:World)(hn:n<=maxLen)(hA:OpsAt w a n (ck x))(hK:OpsAt w ka kn K)(hb:w.cell? ⟨b,0,aD⟩=dG (F ka kn kc))(ho:ofK K x=o) :
  ZH 105 #[cnV x a n c,dE (dG ⟨b,0,aD⟩)] w (dF o):=by
 unfold cnV;have⟨X,hX,aa,ag⟩:=ka00 w [E J x.1,E J x.2.1,E J (cv x),F a n c,E J (ch x),dF (cr x)] 162;have C:=Zb (Zmw a ka n kn c kc (ck x) K o X hn (hA.later aa) (hK.later aa) ho);have m3:=Zd ag 3 _ rfl;have l2:=aC _ _ hb;have ac:=Zb aa;go_enter func105,ntmps105;go_wp2_with fail;rw[<-hX];go_wp2_with fail;refine C.mono ?_;rintro e w2 ⟨rfl,aj⟩;have ab:=Zb (Zf ac aj);go_wp2;go_ret;exact⟨rfl,Za ab⟩
theorem Zjv(a n c)(L:List Zi)(ka kn kc K)(bk:Nat)(x s:Int)(w:World)(h:CoinsAt w a n L)(hK:OpsAt w ka kn K)(hb:w.cell? ⟨bk,0,aD⟩=dG (F ka kn kc))(hx:Zz L=x)(hs:(if x=0 then Zm (L.filter (ofK K)) else 0)=s) :
  ZH 104 #[F a n c,.func (.func 105) #[] #[dE (dG ⟨bk,0,aD⟩)]] w (dC #[E J s,E J x]):=by
 have C1:=Zb (Vw a n c L x w h hx);by_cases e1:x=0
 ·subst e1;rw[if_pos rfl] at hs;have hR:=(Z6 L).1 hx;have hn:n<=720:=by rw[<-h.1];exact hR.len
  have bo:Hid (∀ k,0<=Zm ((L.take k).filter (ofK K))/\Zm ((L.take k).filter (ofK K))<=Zm (L.take k)):=λk=>Zpc (L.take k) (ofK K) λz hz=>by have:=Yt (hR.one z (List.mem_of_mem_take hz));omega
  have bq:=Zb (λk=>Je L k (λz hz=>by have:=Yt (hR.one z hz);omega));have HV:Hid (∀ z∈L,1<=cv z/\cv z<=1000000000):=λz hz=>by have:=Yt (hR.one z hz);omega
  have⟨HL,HZ,HS,HK,bg⟩:=kh5 h h.1 hs hK hb;go_enter func104,ntmps104;go_wp2_with fail;refine C1.mono ?_;rintro e w2 ⟨rfl,al⟩;have ah:=Zb al;go_wp2
  go_loopw [7,17] (λsv i wr=>∃ (k:Nat) (d:Int),k<=n/\sv = E J d/\i = E J k/\Hid (d=Zm ((L.take k).filter (ofK K)))/\Hid (ZD w wr)) (λ_ i _=>n - (intOf i).toNat)
  case atStart=>exact⟨0,0,aI _,rfl,rfl,rfl,ah⟩
  case round=>
   obtain⟨k,d,hk,rfl,rfl,A,HB⟩:=hrel;by_cases ca:k<n
   ·have ax:k<L.length:=(by rw[Za HZ];exact ca);obtain⟨b,off,rfl,cj,bz⟩:=HL.2 (by omega);have aw:=CoinAt.kept _ _ _ _ _ HB (bz k ax);have b1:=bo k;have b2:=bq k;have b3:=HV L[k] (aQ _);have aa:=Zge L (ofK K) k ax;have⟨y,hy⟩:=ZF (L[k]);rw[hy] at aw aa b3;have⟨la,ln,lc,g0,g1,g2,g3,g4,g5,hO,sO⟩:=aw.val;have⟨v,hv⟩:=ZF (cv y);have⟨o,ho⟩:=ZF (ofK K y);rw[ho] at aa;rw[hv] at b3 aa;rw[<-Za A] at b1 aa;have⟨X,hX,av,bw⟩:=ka00 wr [E J y.1,E J y.2.1,E J v,F la ln lc,E J (ch y),dF (cr y)] 162;have m2:=Zd bw 2 _ rfl;have ac:=Zb (Zf HB av);have T1:=Zse y la ln lc ka kn kc K bk o X sO.len (hO.later av) (HK.later ac) (Ze ac bg) ho;unfold cnV at T1;rw[hv] at T1 g2;have an:=Zb T1;have⟨sk,cb⟩:=ZF (Zm (L.take k));rw[cb] at b1 b2;cases o with
    | true=>
     have cn:IntKind.i64.wrap (d+v)=d+v:=(by rw[aP];omega);have A2:Hid (d+v=Zm ((L.take (k+1)).filter (ofK K))):=(by show _=_;rw[aa];rfl);go_wp2_with fail;rw[<-hX];refine an.mono ?_;rintro e w3 ⟨rfl,ae⟩;have n2:=Ze ae m2;have cm:=aC _ _ n2;have aj:=Zb (Zf ac ae);go_wp2;go_roundw
     case rel=>exact⟨k+1,d+v,by omega,rfl,by go_num,A2,aj⟩
     case measure=>simp[intOf];omega
    | false=>
     have A2:Hid (d=Zm ((L.take (k+1)).filter (ofK K))):=(by show _=_;rw[aa];rfl);go_wp2_with fail;rw[<-hX];refine an.mono ?_;rintro e w3 ⟨rfl,ae⟩;have aj:=Zb (Zf ac ae);go_wp2;go_roundw
     case rel=>exact⟨k+1,d,by omega,rfl,by go_num,A2,aj⟩
     case measure=>simp[intOf];omega
   ·have e:k=n:=(by omega);subst e
    have R:Hid (d=s):=by
     show _=_;rw[Za A,aM (by rw[Za HZ];exact aE _)];exact Za HS
    go_wp2;go_ret2;exact⟨by rw[<-Za R];rfl,Za HB⟩
 ·rw[if_neg e1] at hs;subst hs;have g:(x != 0)=true:=by simp[e1]
  go_enter func104,ntmps104;go_wp2_with fail;refine C1.mono ?_;rintro e w2 ⟨rfl,al⟩;have ah:=Zb al;go_wp2;go_ret2;exact⟨rfl,Za ah⟩
theorem of_is(a n c)(L:List Zi)(ka kn kc K)(x s:Int)(w:World)(h:CoinsAt w a n L)(hK:OpsAt w ka kn K)(hx:Zz L=x)(hs:(if x=0 then Zm (L.filter (ofK K)) else 0)=s) :
  ZH 64 #[F a n c,F ka kn kc] w (dC #[E J s,E J x]):=by
 have⟨X,hX,aa,af⟩:=ka00 w [F ka kn kc] 88;have⟨C,ac⟩:=kh2 (Zjv a n c L ka kn kc K w.heap.size x s X (h.later aa) (hK.later aa) (Zd af 0 _ rfl) hx hs) aa;go_enter func64,ntmps64;go_wp2_with fail;rw[<-hX];go_wp2_with fail;refine C.mono ?_;rintro e w2 ⟨rfl,ag⟩;have ab:=Zb (Zf ac ag);go_wp2;go_ret2;exact⟨rfl,Za ab⟩
theorem Rc{K N T P}{tip:Int}(h:opE K N T P tip=0):Bk.bkChk K=0/\Tr.bstD N T=(tip,0)/\(Yq K N T noB).1=0/\poE K N T P tip (Yq K N T noB).2=0:=by
 unfold opE at h;split at h
 ·rename_i q;exact absurd h q
 rename_i h1;split at h
 ·rename_i q;exact absurd h q
 rename_i h2;split at h
 ·cases h
 rename_i h3;split at h
 ·rename_i q;exact absurd h q
 rename_i h4;refine⟨bD.1 h1,?_,bD.1 h4,h⟩;exact Prod.ext (bD.1 h3) (bD.1 h2)
section
section
variable (ka : Option Addr) (kn kc : Nat) (K : List ByteArray) (na ba pa : Option Addr) (nn nc bn bc pn pc : Nat) (N : List Int) (T : List Zk) (P : List TxD) (tip x : Int) (w : World)
theorem D9(hE:Env w)(hK:Bk.TextsAt w ka kn K)(hN:Tr.IntsAt w na nn N)(hT:Tr.BlksAt w ba bn T)(hP:TxsAt w pa pn P)(sN:SlOk na nn nc)(sT:SlOk ba bn bc)(sP:SlOk pa pn pc)(hp:pn<=2513169434916)(hq:∀ t∈P,Tr.TxSmall t)(hx:opE K N T P tip=x):ZH 8 #[.agg #[F ka kn kc],.agg #[F na nn nc,F ba bn bc,F pa pn pc,E J tip]] w (E J x):=by
 have⟨X,hX⟩:=ZG (Wd w [dA #[F ka kn kc] 24,dA #[F na nn nc,F ba bn bc,F pa pn pc,E J tip] 31]);have ak:X=(w.alloc (dA #[F ka kn kc] 24)).alloc (dA #[F na nn nc,F ba bn bc,F pa pn pc,E J tip] 31):=hX;have aa:ZD w X:=by rw[hX];exact Yl _ _
 have x0:=kl0 hX _ _ rfl;have x1:=kl hX 1 _ _ rfl;have⟨C1,af⟩:=kh2 (Me ka kn kc K na ba pa nn nc bn bc pn pc N T P tip x X (hE.later aa) (hK.later aa) (hN.later aa) (hT.later aa) (hP.later aa) sN sT sP hp hq hx) aa;have t0:=Zd x0 0 _ rfl;obtain⟨t1,t2,t3,t4,-⟩:=kc4 x1;have tl:=aA x0;have bd:=aA x1;go_enter func8,ntmps8;go_wp2_with fail;rw[<-ak];(try go_wp2_with fail);refine C1.mono ?_;rintro e w1 ⟨al,hr⟩;have ac:=Zb (Zf af al)
 rcases hr with ⟨h0,rfl⟩|⟨h0,d,bm,m,rfl,_,_,_,_⟩
 ·go_wp2;go_ret;exact⟨rfl,Za ac⟩
 ·subst h0;go_wp2;go_ret;exact⟨rfl,Za ac⟩
theorem D8(hE:Env w)(hK:Bk.TextsAt w ka kn K)(hN:Tr.IntsAt w na nn N)(hT:Tr.BlksAt w ba bn T)(hP:TxsAt w pa pn P)(sN:SlOk na nn nc)(sT:SlOk ba bn bc)(sP:SlOk pa pn pc)(hp:pn<=2513169434916)(hq:∀ t∈P,Tr.TxSmall t)(hx:opE K N T P tip=x)(C)(hC:(if x=0 then (Yq K N T noB).2 tip else [])=C):Calls aB 30 #[.agg #[F ka kn kc],.agg #[F na nn nc,F ba bn bc,F pa pn pc,.int .i64 tip]] w λe w'=>∃ a n c,e = dB (.tuple #[F a n c,.int .i64 x])/\CoinsAt w' a n C/\SlOk a n c/\ZD w w':=by
 have⟨X,hX⟩:=ZG (Wd w [dA #[F ka kn kc] 24,dA #[F na nn nc,F ba bn bc,F pa pn pc,.int .i64 tip] 31]);have bh:X=(w.alloc (dA #[F ka kn kc] 24)).alloc (dA #[F na nn nc,F ba bn bc,F pa pn pc,.int .i64 tip] 31):=hX;have aa:ZD w X:=by rw[hX];exact Yl _ _
 have x0:=kl0 hX _ _ rfl;have x1:=kl hX 1 _ _ rfl;have C1:=Zb (Me ka kn kc K na ba pa nn nc bn bc pn pc N T P tip x X (hE.later aa) (hK.later aa) (hN.later aa) (hT.later aa) (hP.later aa) sN sT sP hp hq hx);have ay:Hid (x=0->(Lit.int .i64 tip).wf=true):=λe=>(Kt (Rc (hx.trans e)).2.1).1;have⟨av,HC⟩:=kh2 aa hC;have t0:=Zd x0 0 _ rfl;obtain⟨t1,t2,t3,t4,-⟩:=kc4 x1;have tl:=aA x0;have ct:=aA x1;go_enter func30,ntmps30;go_wp2_with fail;rw[<-bh];(try go_wp2_with fail);refine C1.mono ?_;rintro e w1 ⟨bi,hr⟩;have ag:=Zb (Zf av bi)
 rcases hr with ⟨h0,rfl⟩|⟨h0,d,bm,m,rfl,hD,_,_,_⟩
 ·have gy:(x != 0)=true:=by simp[h0]
  have hc:=Za HC;rw[if_neg h0] at hc;have ae:Hid (∃ a n c,(Ending.returned (.tuple #[F aD 0 0,.int .i64 x])) = dB (.tuple #[F a n c,.int .i64 x])/\CoinsAt w1 a n C/\SlOk a n c/\ZD w w1):=⟨aD,0,0,rfl,hc ▸ RowsAt.nil _ _,Z5,Za ag⟩;go_wp2;go_ret2;exact Za ae
 ·subst h0;have⟨k1,cb,ca,n1,cd,cc,b1,bw,bv,p1,cg,cf,f,hq⟩:=hD;have⟨cu,cn,cw,hf,an,sc⟩:=hq.c tip;have hc:=Za HC;rw[if_pos rfl] at hc;rw[hc] at an;have D2:=Zb (Rx hq (ay rfl));rw[hf] at D2;have⟨aw,ax⟩:=kh2 an sc;go_wp2_with fail;refine D2.mono ?_;rintro e w2 ⟨rfl,am⟩;have ae:Hid (∃ a n c,(Ending.returned (.tuple #[F cu cn cw,.int .i64 0])) = dB (.tuple #[F a n c,.int .i64 0])/\CoinsAt w2 a n C/\SlOk a n c/\ZD w w2):=⟨cu,cn,cw,rfl,aw.later am,Za ax,Zf ag am⟩;go_wp2;go_ret2;exact Za ae
theorem Ey(hE:Env w)(hK:Bk.TextsAt w ka kn K)(hN:Tr.IntsAt w na nn N)(hT:Tr.BlksAt w ba bn T)(hP:TxsAt w pa pn P)(sN:SlOk na nn nc)(sT:SlOk ba bn bc)(sP:SlOk pa pn pc)(hp:pn<=2513169434916)(hq:∀ t∈P,Tr.TxSmall t)(hx:opE K N T P tip=x)(la ln lc l)(hl:OpsAt w la ln l)(C:List Zi)(hC:(if x=0 then (Yq K N T noB).2 tip else [])=C)(y s:Int)(hy:(if x=0 then Zz C else x)=y)(hs:(if y=0 then Zm (C.filter (ofK l)) else 0)=s):ZH 31 #[.agg #[F ka kn kc],.agg #[F na nn nc,F ba bn bc,F pa pn pc,E J tip],F la ln lc] w (dC #[E J s,E J y]):=by
 have⟨X,hX⟩:=ZG (Wd w [dA #[F ka kn kc] 24,dA #[F na nn nc,F ba bn bc,F pa pn pc,E J tip] 31]);have aq:X=(w.alloc (dA #[F ka kn kc] 24)).alloc (dA #[F na nn nc,F ba bn bc,F pa pn pc,E J tip] 31):=hX;have aa:ZD w X:=by rw[hX];exact Yl _ _
 have x0:=kl0 hX _ _ rfl;have x1:=kl hX 1 _ _ rfl;have⟨C1,HL,bg,HY,HS⟩:=kh5 (D8 ka kn kc K na ba pa nn nc bn bc pn pc N T P tip x X (hE.later aa) (hK.later aa) (hN.later aa) (hT.later aa) (hP.later aa) sN sT sP hp hq hx C hC) (hl.later aa) aa hy hs;have t0:=Zd x0 0 _ rfl;obtain⟨t1,t2,t3,t4,-⟩:=kc4 x1;have tl:=aA x0;have ca:=aA x1;clear hE hK hN hT hP sN sT sP hp hq hx aa x0 x1 hX hl hC hy hs;go_enter func31,ntmps31;go_wp2_with fail;rw[<-aq];clear aq;(try go_wp2_with fail);refine C1.mono ?_;rintro e w1 ⟨cd,cn,cc,rfl,hc,_,ad⟩;have⟨ah,bh,bj⟩:=kh3 (Zf bg ad) hc (HL.later ad);clear ad C1 t0 t1 t2 t3 t4 tl ca hc;by_cases h0:x=0
 ·have hy:=Za HY;rw[if_pos h0] at hy;have D2:=Zb (of_is cd cn cc C la ln lc l y s w1 bh bj hy HS);subst h0;clear hy;go_wp2_with fail;refine D2.mono ?_;rintro e w2 ⟨rfl,ar⟩;have bf:=Zb (Zf ah ar);clear ar;go_wp2;go_ret2;exact⟨rfl,Za bf⟩
 ·have gy:(x != 0)=true:=by simp[h0]
  have hy:=Za HY;rw[if_neg h0] at hy;have hs:=Za HS;rw[if_neg (by rw[<-hy];exact h0)] at hs;subst hy hs;go_wp2;go_ret2;exact⟨rfl,Za ah⟩
end
end
theorem KeptOn.on{Z Z':Nat->Prop}{w w'}{d bm:Nat}{D:Dsk}(h:KeptOn Z w d bm D)(g:Gr w w' Z')(hz:∀ q,Z' q->Z q)(hd:¬Z' d):KeptOn Z w' d bm D:=by
 have⟨q1,q2,q3,q4,q5,q6,q7,q8,q9,ae,af,ag,box,dat,s⟩:=h;exact⟨q1,q2,q3,q4,q5,q6,q7,q8,q9,ae,af,ag,g.heap box hd,λW g2=>dat W ((g.mono (λq _ e=>.inr (.inr (hz q e)))).trans g2),s⟩
theorem Zpz{D:Dsk}{wk no:Int}{lk}(h:(mnR D wk no lk).1≠0):(mnR D wk no lk).2.1=Y6:=by
 unfold mnR at h ⊢;split
 ·rfl
 rename_i h1;rw[if_neg h1] at h;split
 ·rfl
 rename_i h2;rw[if_neg h2] at h;exact absurd rfl h
def Ztm(bb:Nat)(b:Zk)(B:Nat)(V:World):Prop:=
 ∃ a n c,V.heap[bb]? = dG (dA [E J b.1,E J b.2.1,E J b.2.2.1,E J b.2.2.2.1,F a n c].toArray 33 (0,0))/\(∀ W,Gr V W (λq=>q<B)->TxsAt W a n b.2.2.2.2)/\SlOk a n c
theorem Zqb(w:World)(b1 b2 b3 bb:Nat)(wk no:Int)(la ln lc l K N T P)(tip:Int)(β : Int->List Zi)(x:Int)(b:Zk)(D':Dsk)(hE:Env w)(hl:OpsAt w la ln l)(sl:SlOk la ln lc)(hn:ln<=8796093022208)(ht:(Lit.int .i64 tip).wf=true)(h1:0<=Wi N T tip)(h2:Wi N T tip<=1000)
  (c1:w.cell? ⟨b1,0,aD⟩=dG (.int .i64 wk)) (c2:w.cell? ⟨b2,0,aD⟩=dG (.int .i64 no)) (c3:w.cell? ⟨b3,0,aD⟩=dG (F la ln lc)) (aa:w.heap[bb]? = dG (dA [.int .i64 0,.int .i64 0,.int .i64 0,.int .i64 0,F aD 0 0].toArray 33 (0,0))) (hx:mnR ⟨K,N,T,P,tip,β⟩ wk no l=(x,b,D')) :
  DoC 61 #[.pointer (dG ⟨b1,0,aD⟩),.pointer (dG ⟨b2,0,aD⟩),.pointer (dG ⟨b3,0,aD⟩),.pointer (dG ⟨bb,0,aD⟩)] w (λq=>q=bb) ⟨K,N,T,P,tip,β⟩ x D' (Ztm bb b) where
 enters:=enters_of (fn:=Tryz.f61) (by kernel_rfl) (by kernel_rfl) rfl
 old q e:=by have e:q=bb:=e;exact e ▸ aA aa
 on B V V':=by
  rintro ⟨a,n,c,h1,h2,h3⟩ g;have lb:=aA aa;refine⟨a,n,c,g.heap h1 (λe=>by have:=e.1;omega),λW g2=>h2 W ((g.mono (λq _ e=>e.2)).trans g2),h3⟩
 call B V d bm m hB hV hD hd hbm hm:=by
  have⟨k1,cc,cb,n1,ce,cd,t1,da,cz,p1,cj,cg,f,hq⟩:=hD;have lb:=aA aa;have C1:=Zb (Znh hq w hV hE (by omega) (by omega) (by omega) ht h1 h2 wk no la ln lc l (hl.later hV) sl hn x b D' hx);have bd:=(hV.block _ lb).trans aa;have q1:=Ze hV c1;have q2:=Ze hV c2;have q3:=Ze hV c3;have cl:=aC _ _ q1;have cm:=aC _ _ q2;have cn:=aC _ _ q3;have⟨ar,bs,au⟩:=kh3 bd hV.size (aA hq.box);show Calls aB 61 #[.pointer (dG ⟨d,0,aD⟩),.pointer (dG ⟨b1,0,aD⟩),.pointer (dG ⟨b2,0,aD⟩),.pointer (dG ⟨b3,0,aD⟩),.pointer (dG ⟨bb,0,aD⟩)] V _;go_enter func61,ntmps61;go_wp2_with fail;refine C1.mono ?_;rintro e w1 ⟨a5,n5,c5,rfl,hF,s5,g1,hk⟩;dsimp only[Rk];have al:=g1.heap ar (by rintro (e|e) <;> omega);have⟨r0,r1,r2,r3,r4,f0,f1,f2,f3,f4,rl⟩:=kf5 al
  have aq:Hid (∀ W,W=(((((w1.setCell ⟨bb,0,aD⟩ (.int .i64 b.1)).setCell ⟨bb,1,aD⟩ (.int .i64 b.2.1)).setCell ⟨bb,2,aD⟩ (.int .i64 b.2.2.1)).setCell ⟨bb,3,aD⟩ (.int .i64 b.2.2.2.1)).setCell ⟨bb,4,aD⟩ (F a5 n5 c5))->Gr V W (λq=>q=d\/q=bm\/q=bb)/\(x=0->KeptOn (λq=>q<B) W d bm D')/\Ztm bb b B W):=λW hW=>by
   have g2:Gr w1 W (λq=>q=bb):=(by rw[hW];exact (Gr.refl w1 (λq=>q=bb)).five bb (.inl rfl) _ _ _ _ _);have bz:V.heap.size≥B:=(by have:=Za au;omega);refine⟨(g1.mono (λq _ e=>?_)).trans (g2.mono (λq _ e=>.inr (.inr e))),λe=>(hk e).on g2 (λq e=>?_) (λe=>?_),a5,n5,c5,?_,λW2 g3=>hF W2 ((g2.mono (λq _ e=>?_)).trans (g3.mono (λq _ e=>?_))),s5⟩
   ·rcases e with e|e
    ·exact .inl e
    ·exact .inr (.inl e)
   ·have e:q=bb:=e;show q<B;omega
   ·have e:d=bb:=e;omega
   ·rw[hW];exact Tr.set_cells (Tr.set_cells (Tr.set_cells (Tr.set_cells (Tr.set_cells al 0 _) 1 _) 2 _) 3 _) 4 _
   ·have e:q=bb:=e;show q<V.heap.size;omega
   ·have e:q<B:=e;show q<V.heap.size;omega
  go_wp2;go_ret;exact⟨rfl,aq _ rfl⟩
def nmR(K:List ByteArray)(N:List Int)(T:List Zk)(P:List TxD)(tip wk no:Int)(l:List (Int×Int)):Int×Zk×Dsk:=
 if opE K N T P tip≠0 then (opE K N T P tip,Y6,Dsk.none) else
 if (mnR ⟨K,N,T,P,tip,(Yq K N T noB).2⟩ wk no l).1≠0 then ((mnR ⟨K,N,T,P,tip,(Yq K N T noB).2⟩ wk no l).1,Y6,Dsk.none) else
 (0,(mnR ⟨K,N,T,P,tip,(Yq K N T noB).2⟩ wk no l).2.1,(mnR ⟨K,N,T,P,tip,(Yq K N T noB).2⟩ wk no l).2.2)
def NmkR(w w':World)(x:Int)(b:Zk)(D:Dsk)(e:Ending):Prop:=
 ∃ ka kn kc na nn nc ba bn bc pa pn pc a n c,e = dB (dC #[.agg #[F ka kn kc],.agg #[F na nn nc,F ba bn bc,F pa pn pc,E J D.tip],Rk b a n c,E J x]) /\
  Fresh w.heap.size w' (λw2=>Tl w2 ka kn D.k na nn D.n ba bn D.t pa pn D.p/\TxsAt w2 a n b.2.2.2.2)/\SlOk ka kn kc/\SlOk na nn nc/\SlOk ba bn bc/\SlOk pa pn pc/\SlOk a n c/\ZD w w'
theorem Pa{fn:Func}{p q r u:Tmp}{ty tz tv:TypeId}(h:fn.results=#[.cell p ty,.cell q tz,.cell r tv,.tmp u])(tmps:Array Value)(P:Program)(w) :
  (results fn tmps).run P w =
   ((asAddr (tmps.getD p undef)).run P w).andThen λa w₁=>((loadVar ty a).run P w₁).andThen λx w₂=>((asAddr (tmps.getD q undef)).run P w₂).andThen λb w₃=>((loadVar tz b).run P w₃).andThen λy w₄=>((asAddr (tmps.getD r undef)).run P w₄).andThen λc w₅=>((loadVar tv c).run P w₅).andThen λz w₆=>.ok (dC #[x,y,z,tmps.getD u undef]) w₆:=by
 simp only[results,h];simp[Sem.run_bind,Result.andThen]
theorem Ex(ka kn kc K na ba pa nn nc bn bc pn pc N T P)(tip:Int)(w)(hE:Env w)(hK:Bk.TextsAt w ka kn K)(hN:Tr.IntsAt w na nn N)(hT:Tr.BlksAt w ba bn T)(hP:TxsAt w pa pn P)(sN:SlOk na nn nc)(sT:SlOk ba bn bc)(sP:SlOk pa pn pc)(hp:pn<=2513169434916)(hq:∀ t∈P,Tr.TxSmall t)
  (wk no:Int) (la ln lc l) (hl:OpsAt w la ln l) (sl:SlOk la ln lc) (hn:ln<=8796093022208) (x:Int) (b:Zk) (D:Dsk) (hx:nmR K N T P tip wk no l=(x,b,D)) :
  Calls aB 29 #[.agg #[F ka kn kc],.agg #[F na nn nc,F ba bn bc,F pa pn pc,E J tip],E J wk,E J no,F la ln lc] w λe w'=>NmkR w w' x b D e:=by
 have⟨X,hX⟩:=ZG (Wd w [dA #[F ka kn kc] 24,dA #[F na nn nc,F ba bn bc,F pa pn pc,E J tip] 31,dA #[E J wk] 3,dA #[E J no] 3,dA #[F la ln lc] 88,dA #[F aD 0 0] 24,dA #[F aD 0 0,F aD 0 0,F aD 0 0,E J 0] 31,dA #[E J 0,E J 0,E J 0,E J 0,F aD 0 0] 33]);have dt:X=(((((((w.alloc (dA #[F ka kn kc] 24)).alloc (dA #[F na nn nc,F ba bn bc,F pa pn pc,E J tip] 31)).alloc (dA #[E J wk] 3)).alloc (dA #[E J no] 3)).alloc (dA #[F la ln lc] 88)).alloc (dA #[F aD 0 0] 24)).alloc (dA #[F aD 0 0,F aD 0 0,F aD 0 0,E J 0] 31)).alloc (dA #[E J 0,E J 0,E J 0,E J 0,F aD 0 0] 33):=hX;have aw:ZD w X:=by rw[hX];exact Yl _ _
 have du:X.heap.size=w.heap.size+8:=by rw[hX];exact Xm _ _
 have cu:=kl0 hX _ _ rfl;have cw:=kl hX 1 _ _ rfl;have ee:=kl hX 2 _ _ rfl;have ef:=kl hX 3 _ _ rfl;have eg:=kl hX 4 _ _ rfl;have eh:=kl hX 5 _ _ rfl;have ei:=kl hX 6 _ _ rfl;have cx:=kl hX 7 _ _ rfl;have⟨x0,bx⟩:=ZF (opE K N T P tip);have⟨⟨x1,b1,D1⟩,bi⟩:=ZF (mnR ⟨K,N,T,P,tip,(Yq K N T noB).2⟩ wk no l)
 have dw:x1≠0->b1=Y6:=λe=>by
  have:=Zpz (D:=⟨K,N,T,P,tip,(Yq K N T noB).2⟩) (wk:=wk) (no:=no) (lk:=l) (by rw[bi];exact e);rw[bi] at this;exact this
 unfold nmR at hx;simp only[bx,bi] at hx
 have C1:=Zb (Mf ka kn kc K na ba pa nn nc bn bc pn pc N T P tip x0 X (hE.later aw) (hK.later aw) (hN.later aw) (hT.later aw) (hP.later aw) sN sT sP hp hq bx 61 #[dE (dG ⟨w.heap.size+2,0,aD⟩),dE (dG ⟨w.heap.size+3,0,aD⟩),dE (dG ⟨w.heap.size+4,0,aD⟩),dE (dG ⟨w.heap.size+7,0,aD⟩)] (λq=>q=w.heap.size+7) x1 D1 (Ztm (w.heap.size+7) b1) (λe=>by
  have o:=Rc (bx.trans e);have bw:=Kt o.2.1;exact Zqb X (w.heap.size+2) (w.heap.size+3) (w.heap.size+4) (w.heap.size+7) wk no la ln lc l K N T P tip _ x1 b1 D1 (hE.later aw) (hl.later aw) sl hn bw.1 bw.2.1 bw.2.2 (Zd ee 0 _ rfl) (Zd ef 0 _ rfl) (Zd eg 0 _ rfl) cx bi))
 have⟨HX,db,dc,dl,dh,di,dj⟩:=kh7 hx dw aw du eh ei cx;have t0:=Zd cu 0 _ rfl;obtain⟨t1,t2,t3,t4,-⟩:=kc4 cw;have tl:=aA cu;have fd:=aA cw;go_enter func29,ntmps29;go_wp2_with fail;rw[<-dt];(try go_wp2_with fail);refine C1.mono ?_;intro e w1 hr
 obtain⟨k5,ab,ac,n5,ag,al,b5,ae,ak,p5,aj,am,a7,n7,c7,rfl,hF,s1,s2,s3,s4,s7,dv,g1⟩:∃ k5 ab ac n5 ag al b5 ae ak p5 aj am a7 n7 c7,e = dB (dC #[.agg #[F k5 ab ac],.agg #[F n5 ag al,F b5 ae ak,F p5 aj am,E J D.tip],E J x]) /\
   Fresh X.heap.size w1 (λw2=>Tl w2 k5 ab D.k n5 ag D.n b5 ae D.t p5 aj D.p/\TxsAt w2 a7 n7 b.2.2.2.2)/\SlOk k5 ab ac/\SlOk n5 ag al/\SlOk b5 ae ak/\SlOk p5 aj am/\SlOk a7 n7 c7 /\
   w1.heap[w.heap.size+7]? = dG (dA [E J b.1,E J b.2.1,E J b.2.2.1,E J b.2.2.2.1,F a7 n7 c7].toArray 33 (0,0))/\Gr X w1 (λq=>q=w.heap.size+7):=by
  have av:=Za HX
  rcases hr with ⟨h0,⟨k5,ab,ac,n5,ag,al,b5,ae,ak,p5,aj,am,he,hF,s1,s2,s3,s4⟩,hb⟩|⟨h0,g,⟨a7,n7,c7,cd,cb,s7⟩,hr⟩
  ·rw[if_pos h0] at av;simp only[aR] at av;obtain⟨rfl,rfl,rfl⟩:=av;exact⟨k5,ab,ac,n5,ag,al,b5,ae,ak,p5,aj,am,aD,0,0,he,λW g=>⟨hF W g,RowsAt.nil _ _⟩,s1,s2,s3,s4,Z5,ZE hb dj,Gr.of hb⟩
  ·rw[if_neg (λq=>q h0)] at av
   rcases hr with ⟨h1,k5,ab,ac,n5,ag,al,b5,ae,ak,p5,aj,am,he,hF,s1,s2,s3,s4⟩|⟨h1,k5,ab,ac,n5,ag,al,b5,ae,ak,p5,aj,am,he,hF,s1,s2,s3,s4⟩
   ·rw[if_pos h1] at av;simp only[aR] at av;obtain⟨rfl,rfl,rfl⟩:=av;have dx:=db h1;subst dx;exact⟨k5,ab,ac,n5,ag,al,b5,ae,ak,p5,aj,am,a7,n7,c7,he,λW g=>⟨hF W g,cb W (g.mono (λq _ e=>by have e:q<X.heap.size:=e;show q<X.heap.size+4;omega))⟩,s1,s2,s3,s4,s7,cd,g⟩
   ·rw[if_neg (λq=>q h1)] at av;simp only[aR] at av;obtain⟨rfl,rfl,rfl⟩:=av;exact⟨k5,ab,ac,n5,ag,al,b5,ae,ak,p5,aj,am,a7,n7,c7,he,λW g=>⟨hF W g,cb W (g.mono (λq _ e=>by have e:q<X.heap.size:=e;show q<X.heap.size+4;omega))⟩,s1,s2,s3,s4,s7,cd,g⟩
 have h5:=g1.heap dh (λe=>by have e:w.heap.size+5=w.heap.size+7:=e;omega);have h6:=g1.heap di (λe=>by have e:w.heap.size+6=w.heap.size+7:=e;omega);have⟨o0,of,ol⟩:=kf1 h5;have⟨p0,p1,p2,p3,cn,cp,cq,ct,pl⟩:=kf4 h6;have⟨V,hV⟩:=ZG (((((w1.setCell ⟨w.heap.size+1+1+1+1+1,0,aD⟩ (F k5 ab ac)).setCell ⟨w.heap.size+1+1+1+1+1+1,0,aD⟩ (F n5 ag al)).setCell ⟨w.heap.size+1+1+1+1+1+1,1,aD⟩ (F b5 ae ak)).setCell ⟨w.heap.size+1+1+1+1+1+1,2,aD⟩ (F p5 aj am)).setCell ⟨w.heap.size+1+1+1+1+1+1,3,aD⟩ (E J D.tip))
 have gV:Gr w1 V (λq=>q=w.heap.size+5\/q=w.heap.size+6\/q=w.heap.size+7):=by
  rw[hV];exact ((Gr.refl w1 (λq=>q=w.heap.size+5\/q=w.heap.size+6\/q=w.heap.size+7)).one (w.heap.size+5) 0 (.inl (.inl rfl)) _).four (w.heap.size+6) (.inl (.inr (.inl rfl))) _ _ _ _
 have v7:V.heap[w.heap.size+7]? = dG (dA [E J b.1,E J b.2.1,E J b.2.2.1,E J b.2.2.2.1,F a7 n7 c7].toArray 33 (0,0)):=by
  rw[hV]
  have g:Gr w1 (((((w1.setCell ⟨w.heap.size+1+1+1+1+1,0,aD⟩ (F k5 ab ac)).setCell ⟨w.heap.size+1+1+1+1+1+1,0,aD⟩ (F n5 ag al)).setCell ⟨w.heap.size+1+1+1+1+1+1,1,aD⟩ (F b5 ae ak)).setCell ⟨w.heap.size+1+1+1+1+1+1,2,aD⟩ (F p5 aj am)).setCell ⟨w.heap.size+1+1+1+1+1+1,3,aD⟩ (E J D.tip)) (λq=>q=w.heap.size+5\/q=w.heap.size+6):=
   ((Gr.refl w1 (λq=>q=w.heap.size+5\/q=w.heap.size+6)).one (w.heap.size+5) 0 (.inl (.inl rfl)) _).four (w.heap.size+6) (.inl (.inr rfl)) _ _ _ _
  exact g.heap dv (λe=>by omega)
 have v6:V.heap[w.heap.size+6]? = dG (dA [F n5 ag al,F b5 ae ak,F p5 aj am,E J D.tip].toArray 31 (0,0)):=by
  rw[hV];have g:Gr w1 (w1.setCell ⟨w.heap.size+1+1+1+1+1,0,aD⟩ (F k5 ab ac)) (λq=>q=w.heap.size+5):=(Gr.refl w1 (λq=>q=w.heap.size+5)).one (w.heap.size+5) 0 (.inl rfl) _;exact Tr.set_cells (Tr.set_cells (Tr.set_cells (Tr.set_cells (g.heap h6 (λe=>by have e:w.heap.size+6=w.heap.size+5:=e;omega)) 0 _) 1 _) 2 _) 3 _
 have v5:V.heap[w.heap.size+5]? = dG (dA [F k5 ab ac].toArray 24 (0,0)):=by
  rw[hV];have g:Gr (w1.setCell ⟨w.heap.size+1+1+1+1+1,0,aD⟩ (F k5 ab ac)) (((((w1.setCell ⟨w.heap.size+1+1+1+1+1,0,aD⟩ (F k5 ab ac)).setCell ⟨w.heap.size+1+1+1+1+1+1,0,aD⟩ (F n5 ag al)).setCell ⟨w.heap.size+1+1+1+1+1+1,1,aD⟩ (F b5 ae ak)).setCell ⟨w.heap.size+1+1+1+1+1+1,2,aD⟩ (F p5 aj am)).setCell ⟨w.heap.size+1+1+1+1+1+1,3,aD⟩ (E J D.tip)) (λq=>q=w.heap.size+6):=(Gr.refl (w1.setCell ⟨w.heap.size+1+1+1+1+1,0,aD⟩ (F k5 ab ac)) (λq=>q=w.heap.size+6)).four (w.heap.size+6) (.inl rfl) _ _ _ _;exact g.heap (Tr.set_cells h5 0 _) (λe=>by have e:w.heap.size+5=w.heap.size+6:=e;omega)
 have⟨dd,de,df,GV⟩:=kh4 v5 v6 v7 gV
 have cz:Hid (∀ W,Gr w1 W (λq=>q=w.heap.size+5\/q=w.heap.size+6\/q=w.heap.size+7)->NmkR w W x b D (dB (dC #[.agg #[F k5 ab ac],.agg #[F n5 ag al,F b5 ae ak,F p5 aj am,E J D.tip],.agg #[E J b.1,E J b.2.1,E J b.2.2.1,E J b.2.2.2.1,F a7 n7 c7],E J x]))):=λW g=>by
  have ej:=Za dl;refine⟨k5,ab,ac,n5,ag,al,b5,ae,ak,p5,aj,am,a7,n7,c7,rfl,λW2 g2=>hF W2 ((g.mono (λq _ e=>?_)).trans (g2.mono (λq _ e=>?_))),s1,s2,s3,s4,s7,?_⟩
  ·show q<X.heap.size;omega
  ·have e:q<w.heap.size:=e;show q<X.heap.size;omega
  ·have gX:Gr w X (λq=>False):=Gr.of dc;have gW:Gr w W (λ_=>False):=(gX.far g1 (λq e=>.inl (by have e:q=w.heap.size+7:=e;omega))).far g (λq e=>.inl (by omega));exact gW.below (Below.refl _ _) (aE _) (λ_ q=>q.elim)
 go_upto_region 2 with fail
 rw[<-hV];clear hV o0 of ol p0 p1 p2 p3 cn cp cq ct pl;have v5:=Za dd;have v6:=Za de;have v7:=Za df;have⟨o0,of,ol⟩:=kf1 v5;have⟨p0,p1,p2,p3,cn,cp,cq,ct,pl⟩:=kf4 v6;have⟨q0,q1,q2,q3,q4,eq,er,es,et,eu,ql⟩:=kf5 v7;clear v5 v6 v7
 go_region
 all_goals
  go_wp2;refine aL (v:=dC #[.agg #[F k5 ab ac],.agg #[F n5 ag al,F b5 ae ak,F p5 aj am,E J D.tip],.agg #[E J b.1,E J b.2.1,E J b.2.2.1,E J b.2.2.2.1,F a7 n7 c7],E J x]) ?_ rfl ?_
  ·rw[Pa rfl];go_simp
  ·exact cz _ (((((GV.one (w.heap.size+5) 0 (.inl (.inl rfl)) _).four (w.heap.size+6) (.inl (.inr (.inl rfl))) _ _ _ _).five (w.heap.size+7) (.inl (.inr (.inr rfl))) _ _ _ _ _).trans (Gr.of (Zj _))))
theorem Zov{D:Dsk}{b:Zk}(h:(tkR D b).1≠0):(tkR D b).2.1=0:=by
 unfold tkR at h ⊢;split
 ·rfl
 rename_i h1;rw[if_neg h1] at h;split
 ·rfl
 rename_i h2;rw[if_neg h2] at h;split
 ·rfl
 rename_i h3;rw[if_neg h3] at h;split
 ·rfl
 rename_i h4;rw[if_neg h4] at h;simp only at h ⊢;split
 ·rfl
 rename_i h5;rw[if_neg h5] at h;exact absurd rfl h
def Zol(bb:Nat)(nm:Int)(_B:Nat)(V:World):Prop:=V.heap[bb]? = dG (dA [E J nm].toArray 3 (0,0))
theorem Zox(w:World)(b1 bb:Nat)(p hh k o:Int)(a n c L K N T P)(tip:Int)(β : Int->List Zi)(x nm:Int)(D':Dsk)(hE:Env w)(hL:TxsAt w a n L)(sL:SlOk a n c)
  (aa:w.heap[b1]? = dG (dA [E J p,E J hh,E J k,E J o,F a n c].toArray 33 (0,0))) (ab:w.heap[bb]? = dG (dA [E J 0].toArray 3 (0,0))) (hx:tkR ⟨K,N,T,P,tip,β⟩ (p,hh,k,o,L)=(x,nm,D')) :
  DoC 16 #[dE (dG ⟨b1,0,aD⟩),dE (dG ⟨bb,0,aD⟩)] w (λq=>q=bb) ⟨K,N,T,P,tip,β⟩ x D' (Zol bb nm) where
 enters:=enters_of (fn:=Tryz.f16) (by kernel_rfl) (by kernel_rfl) rfl
 old q e:=by have e:q=bb:=e;exact e ▸ aA ab
 on B V V':=by
  intro h1 g;have lb:=aA ab;exact g.heap h1 (λe=>by have:=e.1;omega)
 call B V d bm m hB hV hD hd hbm hm:=by
  have⟨k1,be,bd,n1,bg,bf,t1,cb,ca,p1,bj,bi,f,hq⟩:=hD;have lb:=aA ab
  have C1:=Zb (Zao hq w hV hE (by omega) (by omega) (by omega) p hh k o a n c L (λW g=>by
   have gW:Gr w W (λ_=>False):=((Gr.of hV:Gr w V (λ_=>False))).far g (λq e=>.inl (by rcases e with e|e <;> omega));exact hL.later (gW.below (Below.refl _ _) (aE _) (λ_ q=>q.elim))) sL x nm D' hx)
  have aq:=(hV.block _ lb).trans ab;have ap:=ZE hV aa;have⟨q0,q1,q2,q3,q4,ql⟩:=kc5 ap;have⟨ak,ax,aw⟩:=kh3 aq hV.size (aA hq.box);show Calls aB 16 #[dE (dG ⟨d,0,aD⟩),dE (dG ⟨b1,0,aD⟩),dE (dG ⟨bb,0,aD⟩)] V _;go_enter func16,ntmps16;go_wp2_with fail;refine C1.mono ?_;rintro e w1 ⟨rfl,g1,hk⟩;have aa:=g1.heap ak (by rintro (e|e) <;> omega);have⟨r0,f0,rl⟩:=kf1 aa
  have aj:Hid (∀ W,W=w1.setCell ⟨bb,0,aD⟩ (E J nm)->Gr V W (λq=>q=d\/q=bm\/q=bb)/\(x=0->KeptOn (λq=>q<B) W d bm D')/\Zol bb nm B W):=λW hW=>by
   have g2:Gr w1 W (λq=>q=bb):=(by rw[hW];exact (Gr.refl w1 (λq=>q=bb)).one bb 0 (.inl rfl) _);refine⟨(g1.mono (λq _ e=>?_)).trans (g2.mono (λq _ e=>.inr (.inr e))),λe=>(hk e).kept.on g2 (λq e=>?_) (λe=>?_),?_⟩
   ·rcases e with e|e
    ·exact .inl e
    ·exact .inr (.inl e)
   ·have e:q=bb:=e;show q<B;omega
   ·have e:d=bb:=e;omega
   ·rw[hW];exact Tr.set_cells aa 0 _
  go_wp2;go_ret;exact⟨rfl,aj _ rfl⟩
def ntR(K:List ByteArray)(N:List Int)(T:List Zk)(P:List TxD)(tip:Int)(b:Zk):Int×Int×Dsk:=
 if opE K N T P tip≠0 then (opE K N T P tip,0,Dsk.none) else
 if (tkR ⟨K,N,T,P,tip,(Yq K N T noB).2⟩ b).1≠0 then ((tkR ⟨K,N,T,P,tip,(Yq K N T noB).2⟩ b).1,0,Dsk.none) else
 (0,(tkR ⟨K,N,T,P,tip,(Yq K N T noB).2⟩ b).2.1,(tkR ⟨K,N,T,P,tip,(Yq K N T noB).2⟩ b).2.2)
def NtkR(w w':World)(x nm:Int)(D:Dsk)(e:Ending):Prop:=
 ∃ ka kn kc na nn nc ba bn bc pa pn pc,e = dB (dC #[.agg #[F ka kn kc],.agg #[F na nn nc,F ba bn bc,F pa pn pc,E J D.tip],E J nm,E J x]) /\
  Fresh w.heap.size w' (λw2=>Tl w2 ka kn D.k na nn D.n ba bn D.t pa pn D.p)/\SlOk ka kn kc/\SlOk na nn nc/\SlOk ba bn bc/\SlOk pa pn pc/\ZD w w'
theorem Zmb(ka kn kc K na ba pa nn nc bn bc pn pc N T P)(tip:Int)(w)(hE:Env w)(hK:Bk.TextsAt w ka kn K)(hN:Tr.IntsAt w na nn N)(hT:Tr.BlksAt w ba bn T)(hP:TxsAt w pa pn P)(sN:SlOk na nn nc)(sT:SlOk ba bn bc)(sP:SlOk pa pn pc)(hp:pn<=2513169434916)(hq:∀ t∈P,Tr.TxSmall t)
  (p hh k o:Int) (a n c L) (hL:TxsAt w a n L) (sL:SlOk a n c) (x nm:Int) (D:Dsk) (hx:ntR K N T P tip (p,hh,k,o,L)=(x,nm,D)) :
  Calls aB 5 #[.agg #[F ka kn kc],.agg #[F na nn nc,F ba bn bc,F pa pn pc,E J tip],.agg #[E J p,E J hh,E J k,E J o,F a n c]] w λe w'=>NtkR w w' x nm D e:=by
 have⟨X,hX⟩:=ZG (Wd w [dA #[F ka kn kc] 24,dA #[F na nn nc,F ba bn bc,F pa pn pc,E J tip] 31,dA #[E J p,E J hh,E J k,E J o,F a n c] 33,dA #[F aD 0 0] 24,dA #[F aD 0 0,F aD 0 0,F aD 0 0,E J 0] 31,dA #[E J 0] 3]);have di:X=(((((w.alloc (dA #[F ka kn kc] 24)).alloc (dA #[F na nn nc,F ba bn bc,F pa pn pc,E J tip] 31)).alloc (dA #[E J p,E J hh,E J k,E J o,F a n c] 33)).alloc (dA #[F aD 0 0] 24)).alloc (dA #[F aD 0 0,F aD 0 0,F aD 0 0,E J 0] 31)).alloc (dA #[E J 0] 3):=hX;have ar:ZD w X:=by rw[hX];exact Yl _ _
 have dj:X.heap.size=w.heap.size+6:=by rw[hX];exact Xm _ _
 have ce:=kl0 hX _ _ rfl;have cf:=kl hX 1 _ _ rfl;have du:=kl hX 2 _ _ rfl;have dv:=kl hX 3 _ _ rfl;have dw:=kl hX 4 _ _ rfl;have cg:=kl hX 5 _ _ rfl;have⟨x0,br⟩:=ZF (opE K N T P tip);have⟨⟨x1,m1,D1⟩,be⟩:=ZF (tkR ⟨K,N,T,P,tip,(Yq K N T noB).2⟩ (p,hh,k,o,L))
 have dm:x1≠0->m1=0:=λe=>by
  have:=Zov (D:=⟨K,N,T,P,tip,(Yq K N T noB).2⟩) (b:=(p,hh,k,o,L)) (by rw[be];exact e);rw[be] at this;exact this
 unfold ntR at hx;simp only[br,be] at hx
 have C1:=Zb (Mf ka kn kc K na ba pa nn nc bn bc pn pc N T P tip x0 X (hE.later ar) (hK.later ar) (hN.later ar) (hT.later ar) (hP.later ar) sN sT sP hp hq br 16 #[dE (dG ⟨w.heap.size+2,0,aD⟩),dE (dG ⟨w.heap.size+5,0,aD⟩)] (λq=>q=w.heap.size+5) x1 D1 (Zol (w.heap.size+5) m1) (λ_=>
  Zox X (w.heap.size+2) (w.heap.size+5) p hh k o a n c L K N T P tip _ x1 m1 D1 (hE.later ar) (hL.later ar) sL du cg be))
 have⟨HX,cn,cp,da,cx,cy,cz⟩:=kh7 hx dm ar dj dv dw cg;have t0:=Zd ce 0 _ rfl;obtain⟨t1,t2,t3,t4,-⟩:=kc4 cf;have tl:=aA ce;have eh:=aA cf;go_enter func5,ntmps5;go_wp2_with fail;rw[<-di];(try go_wp2_with fail);refine C1.mono ?_;intro e w1 hr
 obtain⟨k5,ab,ac,n5,ag,al,b5,ae,ak,p5,aj,am,rfl,hF,s1,s2,s3,s4,dl,g1⟩:∃ k5 ab ac n5 ag al b5 ae ak p5 aj am,e = dB (dC #[.agg #[F k5 ab ac],.agg #[F n5 ag al,F b5 ae ak,F p5 aj am,E J D.tip],E J x]) /\
   Fresh X.heap.size w1 (λw2=>Tl w2 k5 ab D.k n5 ag D.n b5 ae D.t p5 aj D.p)/\SlOk k5 ab ac/\SlOk n5 ag al/\SlOk b5 ae ak/\SlOk p5 aj am /\
   w1.heap[w.heap.size+5]? = dG (dA [E J nm].toArray 3 (0,0))/\Gr X w1 (λq=>q=w.heap.size+5):=by
  have ap:=Za HX
  rcases hr with ⟨h0,⟨k5,ab,ac,n5,ag,al,b5,ae,ak,p5,aj,am,he,hF,s1,s2,s3,s4⟩,hb⟩|⟨h0,g,bq,hr⟩
  ·rw[if_pos h0] at ap;simp only[aR] at ap;obtain⟨rfl,rfl,rfl⟩:=ap;exact⟨k5,ab,ac,n5,ag,al,b5,ae,ak,p5,aj,am,he,hF,s1,s2,s3,s4,ZE hb cz,Gr.of hb⟩
  ·rw[if_neg (λq=>q h0)] at ap
   rcases hr with ⟨h1,k5,ab,ac,n5,ag,al,b5,ae,ak,p5,aj,am,he,hF,s1,s2,s3,s4⟩|⟨h1,k5,ab,ac,n5,ag,al,b5,ae,ak,p5,aj,am,he,hF,s1,s2,s3,s4⟩
   ·rw[if_pos h1] at ap;simp only[aR] at ap;obtain⟨rfl,rfl,rfl⟩:=ap;have dn:=cn h1;subst dn;exact⟨k5,ab,ac,n5,ag,al,b5,ae,ak,p5,aj,am,he,hF,s1,s2,s3,s4,bq,g⟩
   ·rw[if_neg (λq=>q h1)] at ap;simp only[aR] at ap;obtain⟨rfl,rfl,rfl⟩:=ap;exact⟨k5,ab,ac,n5,ag,al,b5,ae,ak,p5,aj,am,he,hF,s1,s2,s3,s4,bq,g⟩
 have h3:=g1.heap cx (λe=>by have e:w.heap.size+3=w.heap.size+5:=e;omega);have h4:=g1.heap cy (λe=>by have e:w.heap.size+4=w.heap.size+5:=e;omega);have⟨o0,of,ol⟩:=kf1 h3;have⟨p0,p1,p2,p3,ca,cb,cc,cd,pl⟩:=kf4 h4;have⟨V,hV⟩:=ZG (((((w1.setCell ⟨w.heap.size+1+1+1,0,aD⟩ (F k5 ab ac)).setCell ⟨w.heap.size+1+1+1+1,0,aD⟩ (F n5 ag al)).setCell ⟨w.heap.size+1+1+1+1,1,aD⟩ (F b5 ae ak)).setCell ⟨w.heap.size+1+1+1+1,2,aD⟩ (F p5 aj am)).setCell ⟨w.heap.size+1+1+1+1,3,aD⟩ (E J D.tip))
 have gV:Gr w1 V (λq=>q=w.heap.size+3\/q=w.heap.size+4\/q=w.heap.size+5):=by
  rw[hV];exact ((Gr.refl w1 (λq=>q=w.heap.size+3\/q=w.heap.size+4\/q=w.heap.size+5)).one (w.heap.size+3) 0 (.inl (.inl rfl)) _).four (w.heap.size+4) (.inl (.inr (.inl rfl))) _ _ _ _
 have v5:V.heap[w.heap.size+5]? = dG (dA [E J nm].toArray 3 (0,0)):=by
  rw[hV]
  have g:Gr w1 (((((w1.setCell ⟨w.heap.size+1+1+1,0,aD⟩ (F k5 ab ac)).setCell ⟨w.heap.size+1+1+1+1,0,aD⟩ (F n5 ag al)).setCell ⟨w.heap.size+1+1+1+1,1,aD⟩ (F b5 ae ak)).setCell ⟨w.heap.size+1+1+1+1,2,aD⟩ (F p5 aj am)).setCell ⟨w.heap.size+1+1+1+1,3,aD⟩ (E J D.tip)) (λq=>q=w.heap.size+3\/q=w.heap.size+4):=
   ((Gr.refl w1 (λq=>q=w.heap.size+3\/q=w.heap.size+4)).one (w.heap.size+3) 0 (.inl (.inl rfl)) _).four (w.heap.size+4) (.inl (.inr rfl)) _ _ _ _
  exact g.heap dl (λe=>by omega)
 have v4:V.heap[w.heap.size+4]? = dG (dA [F n5 ag al,F b5 ae ak,F p5 aj am,E J D.tip].toArray 31 (0,0)):=by
  rw[hV];have g:Gr w1 (w1.setCell ⟨w.heap.size+1+1+1,0,aD⟩ (F k5 ab ac)) (λq=>q=w.heap.size+3):=(Gr.refl w1 (λq=>q=w.heap.size+3)).one (w.heap.size+3) 0 (.inl rfl) _;exact Tr.set_cells (Tr.set_cells (Tr.set_cells (Tr.set_cells (g.heap h4 (λe=>by have e:w.heap.size+4=w.heap.size+3:=e;omega)) 0 _) 1 _) 2 _) 3 _
 have v3:V.heap[w.heap.size+3]? = dG (dA [F k5 ab ac].toArray 24 (0,0)):=by
  rw[hV];have g:Gr (w1.setCell ⟨w.heap.size+1+1+1,0,aD⟩ (F k5 ab ac)) (((((w1.setCell ⟨w.heap.size+1+1+1,0,aD⟩ (F k5 ab ac)).setCell ⟨w.heap.size+1+1+1+1,0,aD⟩ (F n5 ag al)).setCell ⟨w.heap.size+1+1+1+1,1,aD⟩ (F b5 ae ak)).setCell ⟨w.heap.size+1+1+1+1,2,aD⟩ (F p5 aj am)).setCell ⟨w.heap.size+1+1+1+1,3,aD⟩ (E J D.tip)) (λq=>q=w.heap.size+4):=(Gr.refl (w1.setCell ⟨w.heap.size+1+1+1,0,aD⟩ (F k5 ab ac)) (λq=>q=w.heap.size+4)).four (w.heap.size+4) (.inl rfl) _ _ _ _;exact g.heap (Tr.set_cells h3 0 _) (λe=>by have e:w.heap.size+3=w.heap.size+4:=e;omega)
 have⟨cq,ct,cu,GV⟩:=kh4 v3 v4 v5 gV
 have cl:Hid (∀ W,Gr w1 W (λq=>q=w.heap.size+3\/q=w.heap.size+4\/q=w.heap.size+5)->NtkR w W x nm D (dB (dC #[.agg #[F k5 ab ac],.agg #[F n5 ag al,F b5 ae ak,F p5 aj am,E J D.tip],E J nm,E J x]))):=λW g=>by
  have dx:=Za da;refine⟨k5,ab,ac,n5,ag,al,b5,ae,ak,p5,aj,am,rfl,λW2 g2=>hF W2 ((g.mono (λq _ e=>?_)).trans (g2.mono (λq _ e=>?_))),s1,s2,s3,s4,?_⟩
  ·show q<X.heap.size;omega
  ·have e:q<w.heap.size:=e;show q<X.heap.size;omega
  ·have gX:Gr w X (λq=>False):=Gr.of cp;have gW:Gr w W (λ_=>False):=(gX.far g1 (λq e=>.inl (by have e:q=w.heap.size+5:=e;omega))).far g (λq e=>.inl (by omega));exact gW.below (Below.refl _ _) (aE _) (λ_ q=>q.elim)
 go_upto_region 2 with fail
 rw[<-hV];clear hV o0 of ol p0 p1 p2 p3 ca cb cc cd pl;have v3:=Za cq;have v4:=Za ct;have v5:=Za cu;have⟨o0,of,ol⟩:=kf1 v3;have⟨p0,p1,p2,p3,ca,cb,cc,cd,pl⟩:=kf4 v4;have⟨q0,dz,ql⟩:=kf1 v5;clear v3 v4 v5
 go_region
 all_goals
  go_wp2;refine aL (v:=dC #[.agg #[F k5 ab ac],.agg #[F n5 ag al,F b5 ae ak,F p5 aj am,E J D.tip],E J nm,E J x]) ?_ rfl ?_
  ·rw[Pa rfl];go_simp
  ·exact cl _ (((((GV.one (w.heap.size+3) 0 (.inl (.inl rfl)) _).four (w.heap.size+4) (.inl (.inr (.inl rfl))) _ _ _ _).one (w.heap.size+5) 0 (.inl (.inr (.inr rfl))) _).trans (Gr.of (Zj _))))
open Bk (Right nm nmGo nameR place)
def Chn(K:List ByteArray)(h:Int):List Zi->List TxD->List Zi->Prop
 | C,[],D=>C=D
 | C,t :: l,D=>∃ C' s n,Zp t=0/\t.2.1.length≠0/\nm K (Zr t)=(K,n,0)/\apD C t n h=(0,C',s)/\Chn K h C' l D
theorem Chn.nil{K}{h:Int}(C):Chn K h C [] C:=rfl
theorem Chn.cons{K}{h:Int}{C C' C1 s}{t:TxD}{l}{n:Int}(h1:Zp t=0)(h2:t.2.1.length≠0)(h3:nm K (Zr t)=(K,n,0))(h4:apD C t n h=(0,C',s))(h5:Chn K h C' l C1):Chn K h C (t :: l) C1:=⟨C',s,n,h1,h2,h3,h4,h5⟩
theorem Sl{t}(h:Zp t=0):txT t=Zr t:=by unfold txT;rw[if_pos h]
theorem Er{K}:∀ (l:List ByteArray) (aa:List Int),(∀ s∈l,s.size<=4000/\0<Bk.place s K)->Bk.nmGo K aa l=(K,aa++l.map (λs=>(Bk.place s K:Int)),0)
 | [],aa,_=>by rw[Bk.nmGo];simp
 | s :: r,aa,h=>by
  have hs:=h s (by simp);have e:=Bk.nm_there hs.1 hs.2;rw[Bk.nmGo,e];simp only[if_true];rw[Er r _ (λx hx=>h x (by simp[hx]))];simp
theorem Rf{K}{s:Int}{b:Zk}(h:kbD K s b=true):Yu b=0/\(Bk.place (Se b) K:Int)=s/\∀ t∈b.2.2.2.2,Zp t=0/\Bk.place (txT t) K≠0:=by
 unfold kbD at h;simp only[Bool.and_eq_true,decide_eq_true_eq,List.all_eq_true] at h;refine⟨h.1,h.2.1,λt ht=>?_⟩;have:=h.2.2 t ht;unfold knT at this;simpa using this
theorem E8{K}{s:Int}{b:Zk}(h1:Yu b=0)(h2:(Bk.place (Se b) K:Int)=s)(h3:∀ t∈b.2.2.2.2,Zp t=0/\Bk.place (txT t) K≠0):kbD K s b=true:=by
 unfold kbD;simp only[Bool.and_eq_true,decide_eq_true_eq,List.all_eq_true];refine⟨h1,h2,λt ht=>?_⟩;unfold knT;simpa using h3 t ht
theorem Ha{K M}{s:Int}{b:Zk}(h0:s≠0)(h:kbD K s b=true):kbD (K++M) s b=true:=by
 have⟨h1,h2,h3⟩:=Rf h;refine E8 h1 ?_ (λt ht=>⟨(h3 t ht).1,?_⟩)
 ·rw[Bk.place_stays M (by omega)];exact h2
 ·have:=(h3 t ht).2;rw[Bk.place_stays M (by omega)];exact this
theorem R0{b:Zk}(h:Yu b=0):Se b=Xl b:=by unfold Se;rw[if_pos h]
theorem Zch{K}(hK:Bk.Right K){s:ByteArray}(h:0<Bk.place s K):s.size<=4000:=by
 have hm:s∈K:=Classical.byContradiction λq=>by have:=Bk.place_zero.2 q;omega
 exact hK.2.2 s hm
theorem Dz{K}(hK:Bk.Right K){s:Int}{b:Zk}(h0:s≠0)(h:kbD K s b=true):Xk K b=(K,s,b.2.2.2.2.map (λt=>(Bk.place (Zr t) K:Int)),0):=by
 have⟨h1,h2,h3⟩:=Rf h
 have ad:Bk.allR K (Yn b)=(K,(Yn b).map (λs=>(Bk.place s K:Int)),0):=by
  unfold Bk.allR;rw[if_pos ((Bk.right_iff K).2 hK)]
  have:=Er (K:=K) (Yn b) [] (λx hx=>by
   have hp:0<Bk.place x K:=by
    unfold Yn at hx
    rcases bM.1 hx with q|q
    ·obtain⟨t,ht,rfl⟩:=List.mem_map.1 q;have:=h3 t ht;rw[Sl this.1] at this;omega
    ·have e:x=Xl b:=(by simpa using q);rw[e,<-R0 h1];omega
   exact⟨Zch hK hp,hp⟩)
  simpa using this
 unfold Xk;rw[if_neg (by rw[h1];decide),ad];simp only[ne_eq,not_true_eq_false,if_false];rw[R0 h1] at h2;refine Prod.ext rfl (Prod.ext ?_ (Prod.ext ?_ rfl))
 ·simp only[Yn,bN,List.map_map,List.map_cons,List.map_nil];rw[cM,List.getElem?_append_right (by simp)];simp[h2]
 ·simp only[Yn,bN,List.map_map,List.map_cons,List.map_nil];rw[List.take_append_of_le_length (by simp)];simp[aM,Function.comp_def]
theorem Zim{K M}(hK:Bk.Right K)(hM:Bk.Right (K++M)){s:Int}{b:Zk}(h0:s≠0)(h:kbD K s b=true)(C):Xf (K++M) C b=Xf K C b:=by
 have e1:=Dz hK h0 h;have e2:=Dz hM h0 (Ha h0 h);have⟨_,_,h3⟩:=Rf h
 have e3:b.2.2.2.2.map (λt=>(Bk.place (Zr t) (K++M):Int))=b.2.2.2.2.map (λt=>(Bk.place (Zr t) K:Int)):=List.map_congr_left (λt ht=>by
  have:=h3 t ht;rw[Sl this.1] at this;rw[Bk.place_stays M (by omega)])
 have en:nfD (K++M) C b=nfD K C b:=by
  unfold nfD;rw[e1,e2,e3]
 unfold Xf;rw[en]
theorem Zbi{K M}(hK:Bk.Right K)(hM:Bk.Right (K++M)):∀ (N:List Int) (T:List Zk) (β : Int->List Zi),(∀ x∈N,x≠0)->(Yq K N T β).1=0->Yq (K++M) N T β = Yq K N T β
 | [],_,β,_,_=>rfl
 | _ :: _,[],β,_,_=>rfl
 | s :: N,b :: T,β,hn,h=>by
  have h0:=hn s (by simp);rw[Yq] at h ⊢;rw[Yq];split at h
  ·cases h
  rename_i q1;have q1:kbD K s b=true:=by simpa using q1
  split at h
  ·rename_i q;exact absurd h q
  rename_i q2;rw[Ha h0 q1,Zim hK hM h0 q1,q1];simp only[Bool.true_eq_false,if_false,if_neg q2];exact Zbi hK hM N T _ (λx hx=>hn x (by simp[hx])) h
theorem L9:∀ (l L:List ByteArray) (N:List Int) (M:List ByteArray) (N':List Int),Bk.nmGo L N l=(M,N',0)->N'=N++l.map (λs=>(Bk.place s M:Int))/\∀ s∈l,0<Bk.place s M
 | [],L,N,M,N',h=>by
  rw[Bk.nmGo] at h;simp only[aR,and_true] at h;obtain⟨_,rfl⟩:=h;simp
 | s :: r,L,N,M,N',h=>by
  rw[Bk.nmGo] at h;split at h
  ·rename_i q;have⟨p1,p2,_⟩:=Bk.nm_place q;have⟨e1,e2⟩:=L9 r _ _ M N' h;have hg:=Bk.nmGo_grows r (Bk.nm L s).1 (N++[(Bk.nm L s).2.1]) (by rw[h]);have⟨M2,aa⟩:=hg;rw[h] at aa;have aa:M=(Bk.nm L s).1++M2:=aa;have hs:Bk.place s M=Bk.place s (Bk.nm L s).1:=(by rw[aa];exact Bk.place_stays M2 p2);refine⟨?_,λx hx=>?_⟩
   ·rw[e1,p1,<-hs];simp
   ·rcases List.mem_cons.1 hx with rfl|hx
    ·rw[hs];exact p2
    ·exact e2 x hx
  ·rename_i q;simp only[aR] at h;exact absurd h.2.2 q
theorem Fe{b:Zk}(h:Yu b=0):∀ t∈b.2.2.2.2,Zp t=0:=by
 have⟨p,hh,k,n,L⟩:=b;exact (Vi h).2.2.2.2
theorem Zhq{K K1}{b:Zk}{s:Int}{Ns}(hK:Bk.Right K)(h:Xk K b=(K1,s,Ns,0)):Bk.Right K1/\(∃ M,K1=K++M)/\kbD K1 s b=true/\s≠0:=by
 unfold Xk at h;split at h
 ·rename_i q;simp only[aR] at h;exact absurd h.2.2.2 q
 rename_i hc;have hc:=bD.1 hc;split at h
 ·rename_i q;simp only[aR] at h;exact absurd h.2.2.2 q
 rename_i ha;have ha:=bD.1 ha;simp only[aR] at h;have⟨h1,h2,_,_⟩:=h;have⟨⟨A,B,z⟩,hr⟩:=ZF (Bk.allR K (Yn b));rw[hr] at h1 h2 ha;have ha:z=0:=ha;subst ha;have h1:A=K1:=h1;subst h1
 have ad:Bk.nmGo K [] (Yn b)=(A,B,0):=by
  unfold Bk.allR at hr;rw[if_pos ((Bk.right_iff K).2 hK)] at hr;exact hr
 have hg:=Bk.nmGo_grows (Yn b) K [] (by rw[ad]);have hR:=Bk.nmGo_right (Yn b) K [] hK (by rw[ad]);rw[ad] at hg hR;have⟨e1,e2⟩:=L9 _ _ _ _ _ ad;have hb:0<Bk.place (Xl b) A:=e2 _ (by unfold Yn;simp)
 have hs:s=(Bk.place (Xl b) A:Int):=by
  rw[<-h2,e1];simp only[Yn,bN,List.map_map,List.map_cons,List.map_nil,List.nil_append];rw[cM,List.getElem?_append_right (by simp)];simp
 refine⟨hR,hg,E8 hc (by rw[R0 hc];exact hs.symm) (λt ht=>?_),by omega⟩;have ak:=(Fe hc t ht);refine⟨ak,?_⟩;rw[Sl ak];have:=e2 (Zr t) (by unfold Yn;simp only[bM,List.mem_map];exact .inl ⟨t,ht,rfl⟩);omega
theorem Zfp{K}{s:Int}{b:Zk}:∀ (N:List Int) (T:List Zk) (β γ : Int->List Zi),N.length=T.length->Yq K N T β = (0,γ)->kbD K s b=true->(Xf K (γ b.1) b).1=0->Yq K (N++[s]) (T++[b]) β = (0,J3 γ s (Xf K (γ b.1) b).2.1)
 | [],[],β,γ,_,h,h1,h2=>by
  rw[Yq] at h;simp only[aR,true_and] at h;subst h;show Yq K [s] [b] β = _;rw[Yq,h1,Yq];simp[h2]
 | [],_ :: _,β,γ,hl,_,_,_=>by simp at hl
 | _ :: _,[],β,γ,hl,_,_,_=>by simp at hl
 | x :: N,c :: T,β,γ,hl,h,h1,h2=>by
  rw[Yq] at h;show Yq K (x :: (N++[s])) (c :: (T++[b])) β = _;rw[Yq];split at h
  ·cases h
  rename_i q1;rw[if_neg q1];split at h
  ·rename_i q;exact absurd (congrArg Prod.fst h) q
  rename_i q2;rw[if_neg q2];exact Zfp N T _ γ (by simpa using hl) h h1 h2
theorem Zml{N:List Int}{T:List Zk}(hc:Tr.chkTr N T=0):∀ (n k:Nat) (_:k<N.length) (h':k<T.length),k<=n->T[k].2.1<=(k:Int)+1
 | n,k,h,h',hn=>by
  have ok:=Tr.TrOk.of hc;have⟨a1,a2⟩:=Tr.ahead hc k h h';have p:=ok.hgt N[k] (aQ h);rw[a1] at p
  rcases a2 with e|e
  ·rw[e,Tr.fnd_out ok.len ok.zero] at p;have:T[k].2.1=0+1:=p;omega
  ·have⟨j,hj,ej⟩:=List.getElem_of_mem e;have ah:j<k:=(by rw[aV] at hj;omega);rw[List.getElem_take] at ej;have ac:j<T.length:=(by omega);have b1:=(Tr.ahead hc j (by omega) ac).1
   match n,hn with
   | 0,hn=>omega
   | n+1,hn=>
    have ih:=Zml hc n j (by omega) ac (by omega);rw[<-ej,b1] at p;omega
theorem Zow{N T}{t:Int}(h:Tr.bstD N T=(t,0)):0<=Wi N T t/\Wi N T t<=24:=by
 have⟨hc,ht⟩:=V9 h;have ok:=Tr.TrOk.of hc;have hb:=(Kt h).2.1;have h24:=(Wh hc).2.1;refine⟨hb,?_⟩;unfold Wi Tr.blockE;rw[if_neg (λq=>q hc)];split
 ·rename_i q;have q:t∈N:=by simpa using q
  obtain⟨k,hk,rfl⟩:=List.getElem_of_mem q;have ac:k<T.length:=by rw[<-ok.len];exact hk
  have:=Zml hc k k hk ac (aE _);simp only;rw[(Tr.ahead hc k hk ac).1];omega
 ·show (0:Int)<=24;decide
open Tr (fnd Y7 chkTr TrOk)
theorem Ci{K N T Q}:∀ (P:List Int) (C M:List Zi),Ur K N T P C=(0,M)->Ur K N T (P++Q) C=Ur K N T Q M
 | [],C,M,h=>by injection h with _ h;subst h;rfl
 | x :: P,C,M,h=>by
  rw[Ur] at h;rw[List.cons_append,Ur];split at h
  ·rename_i q;injection h with e _;exact absurd e q
  ·rename_i q;rw[if_neg q];exact Ci P _ M h
def nxD(K:List ByteArray)(C:List Zi)(b:Zk):Int×List Zi:=if (Xf K C b).1≠0 then ((Xf K C b).1,[]) else (0,(Xf K C b).2.1)
def BehD(K:List ByteArray)(N:List Int)(T:List Zk)(β : Int->List Zi)(L:List Int):Prop:=β 0=[]/\∀ s∈L,Ur K N T (Y7 N T s) []=(0,β s)
section
section
variable {K : List ByteArray} {N : List Int} {T : List Zk} {β γ : Int -> List Zi}
theorem BehD.at(h:BehD K N T β N)(hc:chkTr N T=0){s:Int}(hs:s=0\/s∈N):Ur K N T (Y7 N T s) []=(0,β s):=by
 rcases hs with rfl|hs
 ·rw[(TrOk.of hc).pth_zero,h.1];rfl
 ·exact h.2 s hs
theorem Nq(hc:chkTr N T=0){k:Nat}(h1:k<N.length)(h2:k<T.length)(hi:BehD K N T β (N.take k)):Ur K N T (Y7 N T N[k]) []=nxD K (β T[k].1) T[k]:=by
 have ok:=TrOk.of hc;have⟨a1,a2⟩:=Tr.ahead hc k h1 h2
 have e:Ur K N T (Y7 N T T[k].1) []=(0,β T[k].1):=by
  rcases a2 with a2|a2
  ·rw[a2,ok.pth_zero,hi.1];rfl
  ·exact hi.2 _ a2
 rw[ok.pth_step (aQ h1),a1,Ci _ _ _ e,Ur,a1];rfl
theorem Zbl(hc:chkTr N T=0){k:Nat}(h1:k<N.length)(h2:k<T.length)(hi:BehD K N T β (N.take k))(hq:(Xf K (β T[k].1) T[k]).1=0):BehD K N T (J3 β N[k] (Xf K (β T[k].1) T[k]).2.1) (N.take (k+1)):=by
 have e:=Nq hc h1 h2 hi;unfold nxD at e;rw[if_neg (λr=>r hq)] at e;have n0:=((TrOk.of hc).nm _ (aQ h1)).1;refine⟨by unfold J3;rw[if_neg (by omega)];exact hi.1,λs hs=>?_⟩;rw[aH h1,bM] at hs;unfold J3;by_cases q:s=N[k]
 ·rw[if_pos q,q];exact e
 ·rw[if_neg q];exact hi.2 s (hs.resolve_right (λr=>q (by simpa using r)))
theorem Znz(hc:chkTr N T=0):∀ (n k:Nat) (β γ : Int->List Zi),N.length - k=n->k<=N.length->Yq K (N.drop k) (T.drop k) β = (0,γ)->BehD K N T β (N.take k)->BehD K N T γ N
 | 0,k,β,γ,hn,hk,h,hi=>by
  rw[Zee (by omega)] at h;injection h with _ h;subst h;obtain rfl:k=N.length:=by omega
  rwa [List.take_length] at hi
 | n+1,k,β,γ,hn,hk,h,hi=>by
  have h1:k<N.length:=by omega
  have h2:k<T.length:=by rw[<-(TrOk.of hc).len];exact h1
  rw[Zno h1 h2] at h;split at h
  ·injection h with h;cases h
  split at h
  ·rename_i q;injection h with h;exact absurd h q
  rename_i q;exact Znz hc n (k+1) _ γ (by omega) (by omega) h (Zbl hc h1 h2 hi (bD.1 q))
theorem Zfq(hc:chkTr N T=0)(h:Yq K N T noB=(0,γ)):BehD K N T γ N:=Znz hc _ 0 noB γ rfl (aI _) h ⟨rfl,λ_ h=>by cases h⟩
theorem F7(hc:chkTr N T=0)(h:BehD K N T β N){s:Int}(hs:s=0\/s∈N):Zy (β s):=Li _ _ _ ((Z6 []).1 rfl) (h.at hc hs)
theorem Do(ok:TrOk N T){x:Int}{b:Zk}(hx:1<=x):∀ (P:List Int) (C:List Zi),(∀ y∈P,y∈N)->Ur K (N++[x]) (T++[b]) P C=Ur K N T P C
 | [],_,_=>rfl
 | y :: P,C,h=>by
  rw[Ur,Ur,ok.same hx (.inr (h y (by simp))),Do ok hx P _ (λz hz=>h z (by simp[hz]))]
theorem Zny(hc:chkTr N T=0)(h:BehD K N T β N){s:Int}{b:Zk}(hs:1<=s):BehD K (N++[s]) (T++[b]) β N:=by
 have ok:=TrOk.of hc;exact⟨h.1,λy hy=>by rw[ok.pth_same hs (.inr hy),Do ok hs _ _ (ok.pth_sub (.inr hy))];exact h.2 y hy⟩
theorem K5{K1}{s:Int}{Ns}{b:Zk}{N1 T1 P}{tip:Int}(h:opE K N T P tip=0)(h1:Xk K b=(K1,s,Ns,0))(h2:Tr.addE N T s b=(N1,T1,0)) :
  Bk.Right K1/\chkTr N1 T1=0/\s∈N1/\Ur K1 N1 T1 (Y7 N1 T1 s) []=nxD K1 ((Yq K N T noB).2 b.1) b/\((Xf K1 ((Yq K N T noB).2 b.1) b).1=0->Yq K1 N1 T1 noB=(0,J3 (Yq K N T noB).2 s (Xf K1 ((Yq K N T noB).2 b.1) b).2.1)):=by
 have⟨o1,o2,o3,_⟩:=Rc h;have hK:=(Bk.right_iff K).1 o1;have⟨k1,⟨M1,ae⟩,k3,k4⟩:=Zhq hK h1;have⟨hc,hn,_,a1,a2⟩:=Tr.addE_ok h2;have ab:=(Zoe h2).2.2;subst a1 a2;have ok:=TrOk.of hc;have hs:s∈N++[s]:=by simp
 have an:=((TrOk.of ab).nm s hs).1
 have ac:Yq K1 N T noB=(0,(Yq K N T noB).2):=by
  rw[ae,Zbi hK (ae ▸ k1) N T noB (λx hx=>by have:=(ok.nm x hx).1;omega) o3];exact Prod.ext o3 rfl
 refine⟨k1,ab,hs,?_,λq=>Zfp N T noB _ ok.len ac k3 q⟩;have e:=Nq (K:=K1) (β:=(Yq K N T noB).2) ab (k:=N.length) (by simp) (by simp[ok.len]) (by rw[List.take_left];exact Zny hc (Zfq hc ac) an);have e1:(N++[s])[N.length]'(by simp)=s:=by simp
 have e2:(T++[b])[N.length]'(by simp[ok.len])=b:=by simp[ok.len]
 rw[e1,e2] at e;exact e
end
end
open Tr (fnd Y7 chkTr TrOk)
section
section
variable {K : List ByteArray} {N : List Int} {T : List Zk} {P : List TxD} {tip : Int} {b : Zk} {K1 : List ByteArray} {s : Int} {Ns : List Int} {x1 x2 x3 : Int} {N1 : List Int} {T1 : List Zk} {C3 : List Zi} {U3 : List (List Zi)}
theorem Zsm(ho:opE K N T P tip=0)(h1:Xk K b=(K1,s,Ns,x1))(q:x1≠0):ntR K N T P tip b=(x1,0,Dsk.none):=by
 have e:(tkR ⟨K,N,T,P,tip,(Yq K N T noB).2⟩ b).1=x1:=by
  unfold tkR;simp only[h1];rw[if_pos q]
 unfold ntR;rw[if_neg (λr=>r ho),e,if_pos q]
theorem Zsl(ho:opE K N T P tip=0)(h1:Xk K b=(K1,s,Ns,0))(h2:Tr.addE N T s b=(N1,T1,x2))(q:x2≠0):ntR K N T P tip b=(x2,0,Dsk.none):=by
 have e:(tkR ⟨K,N,T,P,tip,(Yq K N T noB).2⟩ b).1=x2:=by
  unfold tkR;simp only[h1,h2];rw[if_neg (by simp),if_pos q]
 unfold ntR;rw[if_neg (λr=>r ho),e,if_pos q]
theorem Zlx(ho:opE K N T P tip=0)(h1:Xk K b=(K1,s,Ns,0))(h2:Tr.addE N T s b=(N1,T1,0))(h3:Xf K1 ((Yq K N T noB).2 b.1) b=(x3,C3,U3))(q:x3≠0):ntR K N T P tip b=(x3,0,Dsk.none):=by
 have e:(tkR ⟨K,N,T,P,tip,(Yq K N T noB).2⟩ b).1=x3:=by
  unfold tkR;simp only[h1,h2,h3];rw[if_neg (by simp),if_neg (by simp),if_pos q]
 unfold ntR;rw[if_neg (λr=>r ho),e,if_pos q]
theorem Ee(ho:opE K N T P tip=0):P.length<=8:=by
 have⟨_,_,_,h⟩:=Rc ho;unfold poE at h;split at h
 ·omega
 split at h
 ·cases h
 split at h
 ·rename_i q;exact absurd h q
 rename_i q;exact (K8 (bD.1 q)).2
theorem Zpx(ho:opE K N T P tip=0)(h1:Xk K b=(K1,s,Ns,0))(h2:Tr.addE N T s b=(N1,T1,0))(h3:Xf K1 ((Yq K N T noB).2 b.1) b=(0,C3,U3)){t z:Int}{γ : Int->List Zi}{D:List TxD×List ByteArray×List Zi}(ht:Tr.bstGo N1 T1 0 0 N1=t)(hz:Wi N1 T1 t=z)(hγ : J3 (Yq K N T noB).2 s C3 = γ)(hD:Y0 (z+1) P (K1,γ t)=D) :
  ntR K N T P tip b=(0,s,⟨D.2.1,N1,T1,D.1,t,γ⟩)/\Bk.Right K1/\BehD K1 N1 T1 γ N1/\(t=0\/t∈N1)/\0<=z/\z<=24:=by
 have⟨f1,f2,_,_,f5⟩:=K5 ho h1 h2;rw[h3] at f5;have hb:Tr.bstD N1 T1=(t,0):=by unfold Tr.bstD;rw[if_neg (λq=>q f2),ht]
 have ac:=Zfq f2 (f5 rfl);simp only[hγ] at ac;have ah:=(V9 hb).2;have ae:=Zow hb;rw[hz] at ae
 have he:swE K1 (γ t) P (z+1)=0:=by
  unfold swE;rw[Zlu f1 (F7 f2 ac ah) (by omega) (by omega),if_neg (by simp),if_neg (by have:=Ee ho;omega)]
 have hv:Zgc K1 (γ t) P (z+1)=(D.2.1,D.1,0):=by
  unfold Zgc;rw[if_neg (by omega),he];unfold swF;rw[if_pos rfl,hD]
 refine⟨?_,f1,ac,ah,ae.1,ae.2⟩
 have e:tkR ⟨K,N,T,P,tip,(Yq K N T noB).2⟩ b=(0,s,⟨D.2.1,N1,T1,D.1,t,γ⟩):=by
  unfold tkR;simp only[h1,h2,h3,hb,hz,hγ,hv];simp
 unfold ntR;rw[if_neg (λr=>r ho),e,if_neg (by simp)]
end
end
structure EnvE(w:World):Prop where
 env:Env w
theorem EnvE.later{w w':World}(h:EnvE w)(hb:ZD w w'):EnvE w':=⟨h.env.later hb⟩
structure EnvF(w:World):Prop where
 envp:EnvE w
 spc:Lib.TabIs aB w "strings.asciiSpace" .u8 Lib.asciiSpaceTab
theorem Tryz.gSpc:Tryz.prog.globalNamed "strings.asciiSpace" = dG 0:=by kernel_rfl
theorem EnvF.later{w w':World}(h:EnvF w)(hb:ZD w w'):EnvF w':=
 ⟨h.envp.later hb,Joins.var_stays Tryz.gSpc h.spc hb (aE _)⟩
def refB:ByteArray:=⟨#[45,32,45,32,100,117,112,32,115,119,97,112,32,100,114,111,112,32,97,100,100,32,115,117,98,32,115,97,109,101,32,108,101,115,115,32,110,111,116,32,97,110,100,32,118,101,114,105,102,121,32,104,101,105,103,104,116,32,109,105,120]⟩
def refL:List ByteArray:=[⟨#[45]⟩,⟨#[45]⟩]++namesL.drop 2
theorem Zdj:(Lib.fields refB.data.toList).map (λl=>cF ⟨l.toArray⟩)=refL.map cF:=by
 have h:Lib.fields refB.data.toList=refL.map (·.data.toList):=by decide +kernel
 rw[h,List.map_map];rfl
theorem Zdk:(Lib.fields refB.data.toList).length=14:=by decide +kernel
theorem Zgu:∀ (j:Nat) b,refB.data.toList[j]? = dG b->b.toNat<128:=by
 have h:refB.data.toList.all (λb=>decide (b.toNat<128))=true:=by decide +kernel
 intro j b hb;simpa using List.all_eq_true.1 h b (List.mem_of_getElem? hb)
theorem Mx(w:World)(hE:EnvF w) :
  Calls aB 92 #[.string refB] w λe w'=>e = dB (F (dG ⟨w.heap.size,0,aD⟩) 14 14)/\w'=w.alloc (dA (refL.map cF).toArray 9):=by
 have h:=Tryz.strings_Fields refB w (by decide) Zgu hE.spc;rw[Zdj,Zdk] at h;exact h
theorem Zlb(w:World)(k:Nat)(hk:k<14):(w.alloc (dA (refL.map cF).toArray 9)).cell? ⟨w.heap.size,k,aD⟩=dG (.string (refL.getD k ⟨#[]⟩)):=by
 rw[World.cell?_alloc_at _ _ _ _ rfl];have hl:k<refL.length:=hk;simp[hl]
theorem Zgv(k:Nat)(h2:2<=k)(hk:k<14):refL.getD k ⟨#[]⟩=Jz k:=by
 have:∀ m:Fin 14,2<=m.val->refL.getD m.val ⟨#[]⟩=Jz m.val:=by decide +kernel
 exact this ⟨k,hk⟩ h2
theorem Zhz(xs x aa)(h:xs≠[]):Lib.join (xs++[x]) aa=Lib.join xs aa++(aa++x):=by
 cases xs with
 | nil=>exact absurd rfl h
 | cons y r=>rw[List.cons_append,Lib.join_cons,Lib.join_cons,Lib.joinTail,Lib.joinTail,bN,List.flatten_append,List.append_assoc];simp
theorem Gy(q:Int×Int):Yg [q]=⟨#[]⟩++Xo q:=by
 apply Qy
 simp[Yg,Lib.join_one,ByteArray.data_append]
theorem Pg(l)(q:Int×Int)(h:l≠[]):Yg (l++[q])=(Yg l++⟨#[32]⟩)++Xo q:=by
 apply Qy
 unfold Yg;rw[bN,bN,List.map_cons,List.map_nil,List.map_cons,List.map_nil,Zhz _ _ _ (by simpa using h)];simp[ByteArray.data_append]
theorem M9:∀ (l:List (Int×Int)) (k:Nat),V8 l=0->V8 (l.take k)=0
 | [],k,_=>by rw[List.take_nil];rfl
 | o :: r,0,_=>rfl
 | o :: r,k+1,h=>by
  rw[List.take_succ_cons];simp only[V8] at h ⊢;split at h
  ·rename_i e;rw[if_pos e];exact M9 r k h
  ·contradiction
theorem Al(l:List (Int×Int))(h16:l.length<=16)(h:V8 l=0):(Yg l).size<=400:=by
 have:=Ra l h16 h;simpa[Yg,ByteArray.size] using this
theorem Jh{a b:ByteArray}(h:a=b):cF a = .string b:=by rw[h]
theorem Aj(b off len cap:Nat)(l:List (Int×Int))(w:World)(hE:EnvF w)(hz:l.length=len)(af:chk l=0)(bo:b<w.heap.size)
  (hc:∀ i,i<len->w.cell? ⟨b,off+i*2,aD⟩=dG (E J (l.getD i (0,0)).1)/\w.cell? ⟨b,off+i*2+1,aD⟩=dG (E J (l.getD i (0,0)).2)) :
  ZH 50 #[F (dG ⟨b,off,aD⟩) len cap] w (.string (Yg l)):=by
 have h16:len<=16:=by
  unfold chk at af;split at af
  ·cases af
  ·omega
 have bf:V8 l=0:=by
  unfold chk at af;split at af
  ·cases af
  ·exact af
 have⟨HK,cc,HE,HC,HZ,FL⟩:=kh6 (Rj bf) bf hE hc hz (Mx w hE);clear hE hc hz af bf;go_enter func50,ntmps50;go_wp2_with fail;refine FL.mono ?_;rintro e w1 ⟨rfl,ay⟩;have bz:Hid (ZD w w1):=by rw[ay];exact (Below.refl _ _).alloc (aE _) _
 have HN:Hid (∀ k,k<14->w1.cell? ⟨w.heap.size,k,aD⟩=dG (.string (refL.getD k ⟨#[]⟩))):=by rw[ay];exact λk hk=>Zlb w k hk
 have bv:w.heap.size<w1.heap.size:=by rw[ay];simp
 clear ay;go_wp2
 go_loopw [4,10] (λs i wr=>∃ k:Nat,k<=len/\i = E J k/\s = .string (Yg (l.take k))/\ZD w1 wr) (λ_ i _=>len - (intOf i).toNat)
 case atStart=>exact⟨0,aI _,rfl,rfl,Below.refl _ _⟩
 case round=>
  obtain⟨k,hk,rfl,rfl,ad⟩:=hrel;have ae:ZD w wr:=Bh bz ad;have⟨ca,ak⟩:=kh2 ae ad;by_cases bu:k<len
  ·have au:k<l.length:=(by rw[Za HZ];exact bu);have⟨c1,c2⟩:=HC k bu;rw[<-ae.cell (p:=⟨b,off+k*2,aD⟩) bo] at c1;rw[<-ae.cell (p:=⟨b,off+k*2+1,aD⟩) bo] at c2;have⟨q,hq⟩:=ZG (l.getD k (0,0));rw[<-hq] at c1 c2;have ap:q=l[k]:=(by rw[hq];simp[au]);have aa:=HK k au;rw[<-ap] at aa;have ag:l.take (k+1)=l.take k++[q]:=(by rw[aH au,ap]);have⟨kd,n⟩:=q;have al:ZD wr (wr.alloc (dA #[E J kd,E J n] 139)):=(Below.refl _ _).alloc (aE _) _;have bd:=Zb al;have⟨T,hT⟩:=ZG (Yg (l.take k));rw[<-hT];have⟨T',ac⟩:=ZG (Yg (l.take (k+1)));have aw:=Zb ac
   have am:0<k->l.take k≠[]:=λh e=>by
    rw[List.take_eq_nil_iff] at e
    rcases e with e|e
    ·omega
    ·rw[e] at au;simp at au
   have cl:T.size<=400:=(by rw[hT];exact Al _ (by rw[aV];omega) (M9 l k cc));have cm:(T++⟨#[32]⟩:ByteArray).size<=401:=(by rw[ByteArray.size_append];show T.size+1<=401;omega);by_cases h1:kd=1
   ·subst h1
    have hn : -1000000<=n/\n<=1000000:=by
     have:fit n=true:=by
      simp only[Xd] at aa;cases h:fit n with
      | true=>rfl
      | false=>simp[h] at aa
     exact (Xt n).1 this
    have IT:Hid (∀ w,Env w->Calls aB 49 #[E J n] w λe w'=>e = dB (.string (Xq n))/\ZD w w'):=λw hw=>
     (Tryz.strconv_Itoa n (by omega) (by omega) w hw.tab).mono λe w' ⟨h1,k,os,h2⟩=>⟨h1,by rw[h2];exact Lib.below_grow _ _ (aE _) k os⟩
    have eo:Xo (1,n)=Xq n:=by simp[Xo,Xq]
    have cj:(Xq n).size<=21:=by
     have:=Lib.itoa_length_le n (by omega) (by omega);simpa[Xq,ByteArray.size] using this
    have EE:=Zb (((HE.later ae).later al).envp.env);by_cases h0:k=0
    ·subst h0;simp only[Nat.zero_mul,Nat.add_zero] at c1 c2
     have ah:Hid (T'=T++Xq n):=by
      show _=_;rw[ac,ag,hT,<-eo];exact Gy _
     clear hT ac ag hq ap aa ad ae al hn eo am;go_wp2_with fail;refine (IT _ EE).mono ?_;rintro e w3 ⟨rfl,ar⟩;have aj:=Zb (ak.trans ((Bh bd ar).mono ak.size));clear ar;go_wp2;go_roundw
     case rel=>exact⟨0+1,by omega,by go_num,Jh (ah.symm.trans aw),Za aj⟩
     case measure=>simp[intOf];omega
    ·have g0:(0:Int)<(k:Int):=by omega
     have ah:Hid (T'=(T++⟨#[32]⟩)++Xq n):=by
      show _=_;rw[ac,ag,hT,<-eo];exact Pg _ _ (am (by omega))
     clear hT ac ag hq ap aa ad ae al hn eo am;go_wp2_with fail;refine (IT _ EE).mono ?_;rintro e w3 ⟨rfl,ar⟩;have aj:=Zb (ak.trans ((Bh bd ar).mono ak.size));clear ar;go_wp2;go_roundw
     case rel=>exact⟨k+1,by omega,by go_num,Jh (ah.symm.trans aw),Za aj⟩
     case measure=>simp[intOf];omega
   ·have bs:1<=kd/\kd<=13:=by
     simp only[Xd] at aa;split at aa
     ·cases aa
     ·omega
    obtain⟨m,rfl⟩:=Int.eq_ofNat_of_zero_le (show 0<=kd by omega);have eo:Xo ((m:Int),n)=Jz m:=(by simp[Xo];intro h;omega);have c3:=HN m (by omega);rw[Zgv m (by omega) (by omega),<-ad.cell (p:=⟨w.heap.size,m,aD⟩) bv] at c3;have cn:w.heap.size<wr.heap.size:=aF bv ad.size;have⟨x,hx⟩:=ZG (Jz m);rw[<-hx] at c3
    have cj:x.size<=21:=by
     have all:∀ j:Fin 14,(Jz j.val).size<=21:=(by decide);rw[hx];exact all ⟨m,by omega⟩
    have g1:((m:Int) == 1)=false:=(by simp;omega);have g2:(m:Int)<14:=(by omega);have aj:=Zb (ak.trans (bd.mono ak.size));by_cases h0:k=0
    ·subst h0;simp only[Nat.zero_mul,Nat.add_zero] at c1 c2
     have ah:Hid (T'=T++x):=by
      show _=_;rw[ac,ag,hT,hx,<-eo];exact Gy _
     clear hT ac ag hq ap aa ad ae al eo am bs h1 hx;go_wp2;go_roundw
     case rel=>exact⟨0+1,by omega,by go_num,Jh (ah.symm.trans aw),Za aj⟩
     case measure=>simp[intOf];omega
    ·have g0:(0:Int)<(k:Int):=by omega
     have ah:Hid (T'=(T++⟨#[32]⟩)++x):=by
      show _=_;rw[ac,ag,hT,hx,<-eo];exact Pg _ _ (am (by omega))
     clear hT ac ag hq ap aa ad ae al eo am bs h1 hx;go_wp2;go_roundw
     case rel=>exact⟨k+1,by omega,by go_num,Jh (ah.symm.trans aw),Za aj⟩
     case measure=>simp[intOf];omega
  ·have e:k=len:=(by omega);subst e;have HT:Hid (Yg (l.take k)=Yg l):=(by show _=_;rw[aM (by rw[Za HZ];exact aE _)]);clear ad ae;go_wp2;go_ret;exact⟨Kj HT,Za ca⟩
theorem Ak(a cap)(w:World)(hE:EnvF w) :
  ZH 50 #[F a 0 cap] w (.string ⟨#[]⟩):=by
 have FL:=Zb (Mx w hE);clear hE;go_enter func50,ntmps50;go_wp2_with fail;refine FL.mono ?_;rintro e w1 ⟨rfl,ab⟩;have ad:Hid (ZD w w1):=by rw[ab];exact (Below.refl _ _).alloc (aE _) _
 clear ab;go_wp2;refine wp_loop_rounds 1 ?_;rw[rounds_succ];go_wp2;go_ret;exact⟨rfl,Za ad⟩
theorem Gx(a len cap l)(w:World)(hE:EnvF w)(hO:OpsAt w a len l)(af:chk l=0) :
  ZH 50 #[F a len cap] w (.string (Yg l)):=by
 have⟨hz,hc⟩:=hO;by_cases h0:len=0
 ·subst h0;have e:l=[]:=List.length_eq_zero_iff.1 hz;subst e;exact Ak a cap w hE
 ·obtain⟨b,off,rfl,ab⟩:=hc (by omega);exact Aj b off len cap l w hE hz af (aC _ _ (ab 0 (by omega)).1) ab
theorem F6(w:World):ZD w w.drew:=⟨rfl,rfl,rfl,aE _,λ_ _=>rfl⟩
