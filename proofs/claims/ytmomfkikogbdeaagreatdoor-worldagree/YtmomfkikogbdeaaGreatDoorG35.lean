import Derived.Test.YtmomfkikogbdeaaGreatDoorH
import Derived.Test.YtmomfkikogbdeaaGreatDoorG33
import Derived.Test.YtmomfkikogbdeaaGreatDoorG34
open Go renaming lt_of_block->aA,wp_region_held_drew->dD,wpAnyH_ready->cM,bodyPost_ret->bB
open Go.Act renaming put->aQ
open Go.Ending renaming returned->dF
open Go.Exit renaming inBlock->aV
open Go.IntKind renaming i64->J
open Go.Obj renaming cells->dE
open Go.Value renaming int->E,slice->F,tuple->dG,pointer->dH
open Nat renaming lt_of_lt_of_le->aD,le_refl->aF
open Prod.mk renaming injEq->aU
set_option maxHeartbeats 12800000
set_option maxRecDepth 10000
namespace Go.Proofs.YtmomfkikogbdeaaGreatDoor
open Go.RowKit
structure Dsk where
 k:List ByteArray
 n:List Int
 t:List Zk
 p:List TxD
 tip:Int
 β : Int->List Zj
def tkR(D:Dsk)(b:Zk):Int×Int×Dsk:=
 if (Xl D.k b).2.2.2≠0 then ((Xl D.k b).2.2.2,0,D) else
 if (Tr.addE D.n D.t (Xl D.k b).2.1 b).2.2≠0 then ((Tr.addE D.n D.t (Xl D.k b).2.1 b).2.2,0,D) else
 if (Xw (Xl D.k b).1 (D.β b.1) b).1≠0 then ((Xw (Xl D.k b).1 (D.β b.1) b).1,0,D) else
 if (Tr.bstD (Tr.addE D.n D.t (Xl D.k b).2.1 b).1 (Tr.addE D.n D.t (Xl D.k b).2.1 b).2.1).2≠0 then ((Tr.bstD (Tr.addE D.n D.t (Xl D.k b).2.1 b).1 (Tr.addE D.n D.t (Xl D.k b).2.1 b).2.1).2,0,D) else
 let N1:=(Tr.addE D.n D.t (Xl D.k b).2.1 b).1
 let T1:=(Tr.addE D.n D.t (Xl D.k b).2.1 b).2.1
 let t:=(Tr.bstD N1 T1).1
 let γ:=Uz D.β (Xl D.k b).2.1 (Xw (Xl D.k b).1 (D.β b.1) b).2.1
 let v:=Gs (Xl D.k b).1 (γ t) D.p (Xz N1 T1 t+1)
 if v.2.2≠0 then (v.2.2,0,D) else (0,(Xl D.k b).2.1,⟨v.1,N1,T1,v.2.1,t,γ⟩)
def DeskOn(Z:Nat->Prop)(w:World)(d bm m:Nat)(D:Dsk):Prop:=Zma Z w d bm m D.k D.n D.t D.p D.tip D.β
def TakR(Z:Nat->Prop)(w w':World)(d bm m:Nat)(D:Dsk)(x nm:Int)(e:Ending):Prop:=
 e = dF (dG #[E J nm,E J x])/\Gr w w' (λq=>q=d\/q=bm)/\(x=0->DeskOn Z w' d bm (m+1) D)
section
variable {Z : Nat -> Prop} {w w' : World} {d bm m : Nat} {ka na ba pa : Option Addr} {kn kc nn nc bn bc pn pc : Nat} {K : List ByteArray} {N : List Int} {T : List Zk} {P : List TxD} {tip : Int} {f : Int -> Value} {β : Int -> List Zj}
theorem DeskAt.named(h:DeskAt Z w d bm m ka kn kc K na nn nc N ba bn bc T pa pn pc P tip f β){v w1:World}(hv:ZD w v)(h1:ZD v w1){ka' kn' kc' K'}(hK:Fresh v.heap.size w1 (λw2=>Bk.TextsAt w2 ka' kn' K'))(sk:SlOk ka' kn' kc') :
  DeskAt Z (w1.setCell ⟨d,0,none⟩ (F ka' kn' kc')) d bm m ka' kn' kc' K' na nn nc N ba bn bc T pa pn pc P tip f β:=by
 have h2:=h.later (Zf hv h1);have g:Gr w1 (w1.setCell ⟨d,0,none⟩ (F ka' kn' kc')) (λq=>q=d):=(Gr.refl w1 (λq=>q=d)).one d 0 (.inl rfl) _;have l1:=aA h.box;have l2:=h.mp.lt;have l3:=hv.size;refine h2.set g (Tr.set_cells h2.box 0 _) (λW gW D0=>⟨?_,D0.n,D0.b,D0.p⟩) sk h.sn h.sb h.sp
 exact hK W ((g.mono (λq _ e=>by have e:q=d:=e;omega)).trans (gW.mono (λq _ e=>by
  rcases e with e|e|e
  ·omega
  ·omega
  ·exact aD (h.zb q e) l3)))
theorem DeskAt.grown(h:DeskAt Z w d bm m ka kn kc K na nn nc N ba bn bc T pa pn pc P tip f β){v w1:World}(hv:ZD w v)(h1:ZD v w1){na' ba' n' nc' bc' N' T'}(hF:Fresh v.heap.size w1 (λw2=>Tr.IntsAt w2 na' n' N'/\Tr.BlksAt w2 ba' n' T'))(s1:SlOk na' n' nc')(s2:SlOk ba' n' bc') :
  DeskAt Z ((w1.setCell ⟨d,1,none⟩ (F na' n' nc')).setCell ⟨d,2,none⟩ (F ba' n' bc')) d bm m ka kn kc K na' n' nc' N' ba' n' bc' T' pa pn pc P tip f β:=by
 have h2:=h.later (Zf hv h1);have g:Gr w1 ((w1.setCell ⟨d,1,none⟩ (F na' n' nc')).setCell ⟨d,2,none⟩ (F ba' n' bc')) (λq=>q=d):=((Gr.refl w1 (λq=>q=d)).one d 1 (.inl rfl) _).one d 2 (.inl rfl) _;have l1:=aA h.box;have l2:=h.mp.lt;have l3:=hv.size;refine h2.set g (Tr.set_cells (Tr.set_cells h2.box 1 _) 2 _) (λW gW D0=>?_) h.sk s1 s2 h.sp;have ac:=hF W ((g.mono (λq _ e=>by have e:q=d:=e;omega)).trans (gW.mono (λq _ e=>e.elim (λe=>by omega) (λe=>e.elim (λe=>by omega) (λe=>aD (h.zb q e) l3)))));exact⟨D0.k,ac.1,ac.2,D0.p⟩
theorem DeskAt.tipped(h:DeskAt Z w d bm m ka kn kc K na nn nc N ba bn bc T pa pn pc P tip f β)(t:Int) :
  DeskAt Z (w.setCell ⟨d,4,none⟩ (E J t)) d bm m ka kn kc K na nn nc N ba bn bc T pa pn pc P t f β:=by
 have g:Gr w (w.setCell ⟨d,4,none⟩ (E J t)) (λq=>q=d):=(Gr.refl w (λq=>q=d)).one d 4 (.inl rfl) _;exact h.set g (Tr.set_cells h.box 4 _) (λW gW D0=>⟨D0.k,D0.n,D0.b,D0.p⟩) h.sk h.sn h.sb h.sp
end
theorem He{N T}{t:Int}(h:Tr.bstD N T=(t,0)):(Lit.int .i64 t).wf=true/\0<=Xz N T t/\Xz N T t<=1000:=by
 obtain⟨hc,ht⟩:=Xq h;have ab:=Wf hc;refine⟨?_,ab.2.2.2.2.2 t⟩
 rcases ht with rfl|ht
 ·decide
 ·exact ab.2.2.1 t ht
theorem Zrm{N T}{s:Int}{b:Zk}{N' T'}(h:Tr.addE N T s b=(N',T',0)):(Lit.int .i64 s).wf=true/\(Lit.int .i64 b.1).wf=true/\Tr.chkTr N' T'=0:=by
 obtain⟨h1,h2,h3,rfl,rfl⟩:=Tr.addE_ok h;have hc:=Tr.chkTr_snoc h1 h2 h3;have aa:=Wf hc;exact⟨aa.2.2.1 s (by simp),aa.2.2.2.1 b (by simp),hc⟩
section
variable {Z : Nat -> Prop} {w : World} {d bm m : Nat} {ka na ba pa : Option Addr} {kn kc nn nc bn bc pn pc : Nat} {K : List ByteArray} {N : List Int} {T : List Zk} {P : List TxD} {tip : Int} {f : Int -> Value} {β : Int -> List Zj}
theorem Ed(h:DeskAt Z w d bm m ka kn kc K na nn nc N ba bn bc T pa pn pc P tip f β)(bb:World)(cf:ZD bb w)(hE:Env bb)(hd:bb.heap.size<=d)(fo:bb.heap.size<=bm)(hm:m<1000000)(p hh k o:Int)(a n c L)(hL:∀ W,Gr w W (λq=>q=d\/q=bm)->TxsAt W a n L)(sL:SlOk a n c)(x eu:Int)(D:Dsk)(hx:tkR ⟨K,N,T,P,tip,β⟩ (p,hh,k,o,L)=(x,eu,D)) :
  Calls Tryz.prog 100 #[dH (some ⟨d,0,none⟩),.agg #[E J p,E J hh,E J k,E J o,F a n c]] w λe w'=>TakR Z w w' d bm m D x eu e:=by
 obtain⟨⟨K1,nm,Ns,x1⟩,h1⟩:=ZF (Xl K (p,hh,k,o,L));obtain⟨⟨N1,T1,x2⟩,h2⟩:=ZF (Tr.addE N T nm (p,hh,k,o,L));obtain⟨⟨x3,C3,U3⟩,h3⟩:=ZF (Xw K1 (β p) (p,hh,k,o,L));obtain⟨⟨t,x4⟩,h4⟩:=ZF (Tr.bstD N1 T1);obtain⟨z,hz⟩:=ZF (Xz N1 T1 t);obtain⟨⟨K2,P2,x5⟩,h5⟩:=ZF (Gs K1 (Uz β nm C3 t) P (z+1));unfold tkR at hx;simp only[h1,h2,h3,h4,hz,h5] at hx;obtain⟨X,hX,dg,ap⟩:=ka00 w [E J p,E J hh,E J k,E J o,F a n c] 39;have di:d<w.heap.size:=aA h.box;have ep:bm<w.heap.size:=h.mp.lt;have CN:=Zd (λV (hv:ZD w V)=>Zbj ka kn kc K p hh k o a n c L K1 nm Ns x1 V (hE.later (Zf cf hv)) (h.later hv).now.k (hL V (Gr.of hv)) h1);have cy:=Zd (λV (g:Gr w V (λq=>q=d\/q=bm))=>(g.below cf cf.size (λq e=>by rcases e with e|e <;> omega):ZD bb V));have KS:Hid (∀ U:World,Gr X U (λq=>q=d\/q=bm)->(d<U.heap.size/\U.cell? ⟨w.heap.size,0,none⟩=some (E J p)/\U.cell? ⟨w.heap.size,1,none⟩=some (E J hh)/\U.cell? ⟨w.heap.size,2,none⟩=some (E J k)/\U.cell? ⟨w.heap.size,3,none⟩=some (E J o)/\U.cell? ⟨w.heap.size,4,none⟩=some (F a n c)/\w.heap.size<U.heap.size)):=λU hu=>⟨aD di (Nat.le_trans dg.size hu.size),hu.cell (Zb ap 0 _ rfl) (by simp;omega),hu.cell (Zb ap 1 _ rfl) (by simp;omega),hu.cell (Zb ap 2 _ rfl) (by simp;omega),hu.cell (Zb ap 3 _ rfl) (by simp;omega),hu.cell (Zb ap 4 _ rfl) (by simp;omega),aD (aA ap) hu.size⟩;obtain⟨HH,au,HX,HL,ef,HE,HM,H2⟩:=kh8 h dg hx hL sL hE hm h2
 obtain⟨H3,H4,HZ,H5,ey,gd⟩:=kh6 h3 h4 hz h5 di ep;clear h cf hE hd fo hm hL sL hx h1 h2 h3 h4 hz h5 dg ap di ep;go_enter Tryz.func100,Tryz.ntmps100
 go_upto_region 1 with fail
 rw[<-hX];clear hX
 go_cut [4,5] from 6 to 19 (λs4 s5 wx=>s4 = E J nm/\s5 = E J x1/\Hid (∃ ka' kn' kc',DeskAt Z wx d bm m ka' kn' kc' K1 na nn nc N ba bn bc T pa pn pc P tip f β/\Gr X wx (λq=>q=d\/q=bm)))
 case first=>
  refine dD (S:=λU=>(d<U.heap.size/\U.cell? ⟨w.heap.size,0,none⟩=some (E J p)/\U.cell? ⟨w.heap.size,1,none⟩=some (E J hh)/\U.cell? ⟨w.heap.size,2,none⟩=some (E J k)/\U.cell? ⟨w.heap.size,3,none⟩=some (E J o)/\U.cell? ⟨w.heap.size,4,none⟩=some (F a n c)/\w.heap.size<U.heap.size)) (by kernel_rfl) (KS _ (Gr.of (Zi X))) (λaa=>?_);refine tkL 0 rfl aa ?_;refine tkL 1 rfl aa ?_;refine tkL 2 rfl aa ?_;refine tkL 3 rfl aa ?_;refine tkL 5 rfl aa ?_;have hb:=Zf au (Zi X);have l0:=Ze hb (Zb HH.box 0 _ rfl);have ll:=aD ey hb.size;refine rdY 4 rfl (λKQ hK=>?_);go_simp;clear l0 ll;clear aa;refine hK.out _ _ (KS _ (Gr.of (Zi X))) (λaa=>?_);clear hK KQ;(try simp only[aQ,ZA,ZB,ZC]);refine rdS 6 rfl (CN _ hb) ?_;rintro e v1 ⟨k5,fu,ft,n5,gm,gl,rfl,fm,gb,-,-,aq⟩;have gX:Gr X v1 (λq=>q=d\/q=bm):=Gr.of (Zf (Zi X) aq);clear aa;refine⟨_,rfl,(KS _ gX),λaa=>?_⟩;refine tkL 7 rfl aa ?_;refine tkL 8 rfl aa ?_;refine tkL 9 rfl aa ?_;refine tkL 10 rfl aa ?_;refine tkL 11 rfl aa ?_;refine tkL 12 rfl aa ?_;refine tkL 13 rfl aa ?_;have dj:=Zf hb aq;have dh:=(HH.later dj).box;obtain⟨y0,g0,yl⟩:=kf1 dh;refine rdY 14 rfl (λKQ hK=>?_);go_simp;clear aa;refine hK.out _ _ (KS _ (gX.one d 0 (.inl (.inl rfl)) _)) (λaa=>?_);clear hK KQ;(try simp only[aQ]);refine tkL 15 rfl aa ?_;refine tkL 16 rfl aa ?_;refine wpAnyH_done (by kernel_rfl) ?_ _;clear aa;go_wp2_with fail;go_meet
  case rel=>exact⟨rfl,rfl,k5,fu,ft,HH.named hb aq fm gb,gX.one d 0 (.inl (.inl rfl)) _⟩
 case rest=>
  obtain⟨rfl,rfl,HC⟩:=hcut;clear CN;obtain⟨k1,k1n,k1c,ei,g1⟩:=Za HC;obtain⟨ae,G1⟩:=kh2 ei g1;clear HC ei g1;by_cases z1:x1=0
  ·subst z1;have dk:=Za HX;rw[if_neg (λq=>q rfl)] at dk;have bu:=Zd dk;clear dk HX;obtain⟨n1,er⟩:=ZF (N1.length);have CA:=Zd (λV (hv:ZD wc V)=>Tr.add_is na ba nn nc bn bc N T nm p hh k o a n c L N1 T1 n1 x2 V (ae.later hv).now.n (ae.later hv).now.b ae.sn ae.sb (Za HL V ((Gr.of au).trans (G1.trans (Gr.of hv)))) ef H2 er);clear er
   go_upto_region 3 with fail
   go_cut [5] from 22 to 36 (λs5 wx=>s5 = E J x2/\Hid (∃ na' nc' ba' bc',DeskAt Z wx d bm m k1 k1n k1c K1 na' n1 nc' N1 ba' n1 bc' T1 pa pn pc P tip f β/\Gr wc wx (λq=>q=d\/q=bm)))
   case first=>
    refine dD (S:=λU=>(d<U.heap.size/\U.cell? ⟨w.heap.size,0,none⟩=some (E J p)/\U.cell? ⟨w.heap.size,1,none⟩=some (E J hh)/\U.cell? ⟨w.heap.size,2,none⟩=some (E J k)/\U.cell? ⟨w.heap.size,3,none⟩=some (E J o)/\U.cell? ⟨w.heap.size,4,none⟩=some (F a n c)/\w.heap.size<U.heap.size)) (by kernel_rfl) (KS _ (G1.trans (Gr.of (Zi wc)))) (λaa=>?_);refine tkL 0 rfl aa ?_;refine tkL 1 rfl aa ?_;refine tkL 2 rfl aa ?_;refine tkL 3 rfl aa ?_;refine tkL 4 rfl aa ?_;refine tkL 6 rfl aa ?_;refine tkL 7 rfl aa ?_;have hb:=Zi wc;have l1:=Ze hb (Zb ae.box 1 _ rfl);have l2:=Ze hb (Zb ae.box 2 _ rfl);have ll:=aD (aA ae.box) hb.size;refine rdY 5 rfl (λKQ hK=>?_);go_simp;clear l1 l2 ll;clear aa;refine hK.out _ _ (KS _ (G1.trans (Gr.of (Zi wc)))) (λaa=>?_);clear hK KQ;(try simp only[aQ,ZA,ZB,ZC]);refine rdS 8 rfl (CA _ hb) ?_;rintro e v1 ⟨a1,c1,a2,c2,rfl,fl,fz,ga,aq⟩;have gX:Gr wc v1 (λq=>q=d\/q=bm):=Gr.of (Zf hb aq);clear aa;refine⟨_,rfl,(KS _ (G1.trans gX)),λaa=>?_⟩;refine tkL 9 rfl aa ?_;refine tkL 10 rfl aa ?_;refine tkL 11 rfl aa ?_;refine tkL 12 rfl aa ?_;refine tkL 13 rfl aa ?_;refine tkL 14 rfl aa ?_;have dj:=Zf hb aq;have dh:=(ae.later dj).box;obtain⟨-,y1,y2,-,g1,g2,yl⟩:=kf3 dh;refine rdY 15 rfl (λKQ hK=>?_);go_simp;clear aa;refine hK.out _ _ (KS _ (G1.trans ((gX.one d 1 (.inl (.inl rfl)) _).one d 2 (.inl (.inl rfl)) _))) (λaa=>?_);clear hK KQ;(try simp only[aQ]);refine tkL 16 rfl aa ?_
    refine wpAnyH_done (by kernel_rfl) ?_ _;clear aa;go_wp2_with fail;go_meet
    case rel=>exact⟨rfl,a1,c1,a2,c2,ae.grown hb aq fl fz ga,(gX.one d 1 (.inl (.inl rfl)) _).one d 2 (.inl (.inl rfl)) _⟩
   case rest=>
    obtain⟨rfl,HC⟩:=hcut;clear CA;obtain⟨a1,c1,a2,c2,ej,g2⟩:=Za HC;obtain⟨ee,G2⟩:=kh2 ej (G1.trans g2);clear HC ej g2 ae G1;by_cases z2:x2=0
    ·subst z2;have dl:=Za bu;rw[if_neg (λq=>q rfl)] at dl;have bv:=Zd dl;clear dl bu;obtain⟨cw,GW⟩:=kh2 (Zrm H2) ((Gr.of au).trans G2);obtain⟨e0,e1,e2,e3,e4,e5,e6⟩:=KS _ G2;have D3:=Zd (Gj ee nm p hh k o a n c L x3 C3 U3 (HE.later (cy _ GW)) (Za HL _ GW) HM cw.1 cw.2.1 H3);clear KS au H2 H3 HL ef cw;go_wp2_with fail;refine D3.mono ?_;rintro e w3 ⟨rfl,f3,ek,g3⟩;obtain⟨ah,G3⟩:=kh2 ek (GW.trans (g3.mono (λq _ e=>(.inr e:q=d\/q=bm))));clear ek g3 D3 ee G2 GW e0 e1 e2 e3 e4 e5 e6;by_cases z3:x3=0
     ·subst z3;have dm:=Za bv;rw[if_neg (λq=>q rfl)] at dm;have bx:=Zd dm;clear dm bv;have D4:=Zd (Tr.best_is a1 a2 n1 c1 n1 c2 N1 T1 t x4 w3 ah.now.n ah.now.b ah.sn ah.sb H4);have e1:=Zb ah.box 1 _ rfl;have e2:=Zb ah.box 2 _ rfl;have gw:=aA ah.box;go_wp2_with fail;refine D4.mono ?_;rintro e w4 ⟨rfl,de⟩;clear D4 e1 e2 gw;obtain⟨az,G4⟩:=kh2 (ah.later de) (G3.trans (Gr.of de));clear ah G3 de;have e4:=Zb az.box 4 _ rfl;have f4:=Zg az.box 4;have gw:=aA az.box;obtain⟨V,hV⟩:=ZG (w4.setCell ⟨d,4,none⟩ (E J t));have bs:Hid (DeskAt Z V d bm (m+1) k1 k1n k1c K1 a1 n1 c1 N1 a2 n1 c2 T1 pa pn pc P t f3 (Uz β nm C3)):=(by rw[hV];exact az.tipped t);have GV:Hid (Gr w V (λq=>q=d\/q=bm)):=(by rw[hV];exact G4.one d 4 (.inl (.inl rfl)) _);clear az G4;by_cases z4:x4=0
      ·subst z4;have dn:=Za bx;rw[if_neg (λq=>q rfl)] at dn;have bz:=Zd dn;clear dn bx;have br:=Zd (He H4);have es:=br.2.1;have et:=br.2.2;rw[Za HZ] at es et;have fq:IntKind.i64.wrap (z+1)=z+1:=(by rw[IntKind.wrap_i64];omega);clear es et;have D5:=Zd (Tl bs z HZ);have CS:=Zd (λV2 (hv:ZD V V2)=>Zhc (bs.later hv) (HE.later (cy _ (GV.trans (Gr.of hv)))) br.1 (z+1) K2 P2 x5 H5);clear bs br H4 H5 HZ HE cy;go_wp2_with fail;rw[<-hV];clear hV e4 f4 gw;(try go_wp2_with fail);refine D5.mono ?_;rintro e w6 ⟨rfl,df⟩;obtain⟨D6,G6⟩:=kh2 (CS w6 df) (GV.trans (Gr.of df));clear df D5 CS GV;go_wp2_with fail;refine D6.mono ?_;rintro e w7 ⟨rfl,k7,gi,gh,p7,gp,go,el,g7⟩;obtain⟨ew,G7⟩:=kh2 el (G6.trans (g7.mono (λq _ e=>(.inl e:q=d\/q=bm))));clear el g7 D6 G6 fq;by_cases z5:x5=0
       ·subst z5;have dp:=Za bz;rw[if_neg (λq=>q rfl)] at dp;simp only[aU] at dp;obtain⟨rfl,rfl,rfl⟩:=dp;clear bz;go_wp2;go_ret2;exact⟨rfl,Za G7,λ_=>⟨_,_,_,_,_,_,_,_,_,_,_,_,_,Za ew⟩⟩
       ·have ab:=Za bz;rw[if_pos z5] at ab;simp only[aU] at ab;obtain⟨rfl,rfl,rfl⟩:=ab;clear bz;have gx:(x5 == 0)=false:=(by simp[z5]);have gy:(x5 != 0)=true:=(by simp[z5]);go_wp2;go_ret2;exact⟨rfl,G7,λe=>absurd e z5⟩
      ·have ab:=Za bx;rw[if_pos z4] at ab;simp only[aU] at ab;obtain⟨rfl,rfl,rfl⟩:=ab;clear bx;clear bs;have gx:(x4 == 0)=false:=(by simp[z4]);have gy:(x4 != 0)=true:=(by simp[z4]);go_wp2_with fail;rw[<-hV];clear hV;(try go_wp2);go_ret2;exact⟨rfl,GV,λe=>absurd e z4⟩
     ·have ab:=Za bv;rw[if_pos z3] at ab;simp only[aU] at ab;obtain⟨rfl,rfl,rfl⟩:=ab;clear bv;have gx:(x3 == 0)=false:=(by simp[z3]);have gy:(x3 != 0)=true:=(by simp[z3]);go_wp2;go_ret2;exact⟨rfl,G3,λe=>absurd e z3⟩
    ·have ab:=Za bu;rw[if_pos z2] at ab;simp only[aU] at ab;obtain⟨rfl,rfl,rfl⟩:=ab;clear bu;have gx:(x2 == 0)=false:=(by simp[z2]);have gy:(x2 != 0)=true:=(by simp[z2]);go_wp2;go_ret2;exact⟨rfl,((Gr.of au).trans G2),λe=>absurd e z2⟩
  ·have ab:=Za HX;rw[if_pos z1] at ab;simp only[aU] at ab;obtain⟨rfl,rfl,rfl⟩:=ab;clear HX;have gx:(x1 == 0)=false:=(by simp[z1]);have gy:(x1 != 0)=true:=(by simp[z1]);go_wp2;go_ret2;exact⟨rfl,((Gr.of au).trans G1),λe=>absurd e z1⟩
end
def mnR(D:Dsk)(wk nc:Int)(lk:List (Int×Int)):Int×Zk×Dsk:=
 if (mkE D.k (D.β D.tip) D.p D.tip (Xz D.n D.t D.tip+1) wk nc lk).1≠0 then ((mkE D.k (D.β D.tip) D.p D.tip (Xz D.n D.t D.tip+1) wk nc lk).1,Yx,D) else
 if (tkR D (mkE D.k (D.β D.tip) D.p D.tip (Xz D.n D.t D.tip+1) wk nc lk).2).1≠0 then ((tkR D (mkE D.k (D.β D.tip) D.p D.tip (Xz D.n D.t D.tip+1) wk nc lk).2).1,Yx,D) else
 (0,(mkE D.k (D.β D.tip) D.p D.tip (Xz D.n D.t D.tip+1) wk nc lk).2,(tkR D (mkE D.k (D.β D.tip) D.p D.tip (Xz D.n D.t D.tip+1) wk nc lk).2).2.2)
def KeptOn(Z:Nat->Prop)(w:World)(d bm:Nat)(D:Dsk):Prop:=
 ∃ ka kn kc na nn nc ba bn bc pa pn pc,w.heap[d]? = some (dE [F ka kn kc,F na nn nc,F ba bn bc,F pa pn pc,E J D.tip,.map (some bm)].toArray 254 (0,0)) /\
  (∀ W,Gr w W (λq=>q=d\/q=bm\/Z q)->Uo W ka kn D.k na nn D.n ba bn D.t pa pn D.p)/\SlOk ka kn kc/\SlOk na nn nc/\SlOk ba bn bc/\SlOk pa pn pc
theorem DeskOn.kept{Z:Nat->Prop}{w}{d bm m:Nat}{D:Dsk}(h:DeskOn Z w d bm m D):KeptOn Z w d bm D:=by
 obtain⟨q1,q2,q3,q4,q5,q6,q7,q8,q9,ab,ac,ad,ap,hq⟩:=h;exact⟨q1,q2,q3,q4,q5,q6,q7,q8,q9,ab,ac,ad,hq.box,hq.dat,hq.sk,hq.sn,hq.sb,hq.sp⟩
theorem KeptOn.off{Z:Nat->Prop}{r:Nat}{w w'}{d bm:Nat}{D:Dsk}(h:KeptOn (λq=>Z q\/q=r) w d bm D)(g:Gr w w' (λq=>q=r))(hd:d≠r):KeptOn Z w' d bm D:=by
 obtain⟨q1,q2,q3,q4,q5,q6,q7,q8,q9,ac,ad,ae,box,dat,s⟩:=h;refine⟨q1,q2,q3,q4,q5,q6,q7,q8,q9,ac,ad,ae,g.heap box hd,λW g2=>dat W ((g.mono (λq _ e=>.inr (.inr (.inr e)))).trans (g2.mono (λq _ e=>?_))),s⟩
 rcases e with e|e|e
 ·exact .inl e
 ·exact .inr (.inl e)
 ·exact .inr (.inr (.inl e))
def Zpe(Z:Nat->Prop)(w w':World)(d bm:Nat)(D:Dsk)(x:Int)(b:Zk)(e:Ending):Prop:=
 ∃ a n c,e = dF (dG #[Rn b a n c,E J x])/\Fresh w.heap.size w' (λw2=>TxsAt w2 a n b.2.2.2.2)/\SlOk a n c/\Gr w w' (λq=>q=d\/q=bm)/\(x=0->KeptOn Z w' d bm D)
def CutMn(X wx:World)(u:Nat)(b1 b2 b3 b4:Int)(L:List TxD):Prop:=
 ∃ a n c,wx.heap[u]? = some (dE [E J b1,E J b2,E J b3,E J b4,F a n c].toArray 39 (0,0))/\(∀ W,Gr wx W (λq=>q<X.heap.size)->TxsAt W a n L)/\SlOk a n c/\ZD X wx/\X.heap.size<=u
section
variable {Z : Nat -> Prop} {w : World} {d bm m : Nat} {ka na ba pa : Option Addr} {kn kc nn nc bn bc pn pc : Nat} {K : List ByteArray} {N : List Int} {T : List Zk} {P : List TxD} {tip : Int} {f : Int -> Value} {β : Int -> List Zj}
theorem Zlg(h:DeskAt Z w d bm m ka kn kc K na nn nc N ba bn bc T pa pn pc P tip f β)(bt:World)(da:ZD bt w)(hE:Env bt)(hd:bt.heap.size<=d)(ei:bt.heap.size<=bm)(hm:m<1000000)(ht:(Lit.int .i64 tip).wf=true)(h1:0<=Xz N T tip)(h2:Xz N T tip<=1000)(wk no:Int)(ta tn tc lk)(hT:OpsAt w ta tn lk)(sT:SlOk ta tn tc)(hn:tn<=8796093022208)(x:Int)(b:Zk)(D:Dsk)(hx:mnR ⟨K,N,T,P,tip,β⟩ wk no lk=(x,b,D)) :
  Calls Tryz.prog 113 #[.pointer (some ⟨d,0,none⟩),.int .i64 wk,.int .i64 no,F ta tn tc] w λe w'=>Zpe Z w w' d bm D x b e:=by
 obtain⟨z,hz⟩:=ZF (Xz N T tip);obtain⟨⟨x1,b1,b2,b3,b4,L⟩,hk⟩:=ZF (mkE K (β tip) P tip (z+1) wk no lk);obtain⟨⟨x2,ft,D2⟩,ct⟩:=ZF (tkR ⟨K,N,T,P,tip,β⟩ (b1,b2,b3,b4,L));unfold mnR at hx;simp only[hz,hk,ct] at hx;rw[hz] at h1 h2;have er:IntKind.i64.wrap (z+1)=z+1:=by rw[IntKind.wrap_i64];omega
 obtain⟨gc,cn,cc,cw,_,sC⟩:=h.c tip;obtain⟨X,hX,cl,eg⟩:=ka00 w [.int .i64 0,.int .i64 0,.int .i64 0,.int .i64 0,F none 0 0] 39;have eh:X.heap.size=w.heap.size+1:=by rw[hX];simp
 have cm:d<w.heap.size:=aA h.box;have cy:bm<w.heap.size:=h.mp.lt;have CC:=Zd (λV (hv:ZD w V)=>Rj (h.later hv) ht);rw[cw] at CC;have CH:=Zd (λV (hv:ZD w V)=>Tl (h.later hv) z hz);have CM:=Zd (λV (hv:ZD w V)=>Zjm ka kn kc K gc cn cc (β tip) pa pn pc P tip z wk no ta tn tc lk (z+1) x1 (b1,b2,b3,b4,L) V (hE.later (Zf da hv)) (h.later hv).now.k (by obtain⟨a2,n2,c2,q1,q2,_⟩:=(h.later hv).c tip;rw[cw] at q1;injection q1 with e1 e2 e3;subst e1 e2 e3;exact q2) sC (h.later hv).now.p (hT.later hv) sT hn er hk);obtain⟨c0,-,-,c3,c4,-⟩:=kc5 h.box;have KS:Hid (∀ U:World,ZD w U->(U.cell? ⟨d,0,none⟩=some (F ka kn kc)/\U.cell? ⟨d,3,none⟩=some (F pa pn pc)/\U.cell? ⟨d,4,none⟩=some (.int .i64 tip)/\d<U.heap.size)):=λU hu=>⟨Ze hu c0,Ze hu c3,Ze hu c4,aD cm hu.size⟩;have CT:=Zd (λV (hv:ZD X V) (a:Option Addr) (n c:Nat) (hL:∀ W,Gr V W (λq=>q=d\/q=bm)->TxsAt W a n L) (sL:SlOk a n c)=>Ed ((h.widen cl w.heap.size (aF _) (by omega)).later hv) bt (Zf da (Zf cl hv)) hE hd ei hm b1 b2 b3 b4 a n c L hL sL x2 ft D2 ct);obtain⟨ag,cq,fm,HX,ca,cb⟩:=kh6 cl eh eg hx cm cy;clear h da hE hd ei hm ht h1 h2 hT sT hn hx hz hk ct er cw sC cl eh eg cm cy c0 c3 c4;go_enter Tryz.func113,Tryz.ntmps113
 go_upto_region 1 with fail
 rw[<-hX];clear hX
 go_cut [10,11] from 12 to 36 (λfv fw wx=>∃ u,fv = .pointer (some ⟨u,0,none⟩)/\fw = .int .i64 x1/\Hid (CutMn X wx u b1 b2 b3 b4 L))
 case first=>
  have ab:=Zi X;have hb:=Zf ag ab;refine dD (S:=λU=>(U.cell? ⟨d,0,none⟩=some (F ka kn kc)/\U.cell? ⟨d,3,none⟩=some (F pa pn pc)/\U.cell? ⟨d,4,none⟩=some (.int .i64 tip)/\d<U.heap.size)) (by kernel_rfl) (KS _ hb) (λaa=>?_);refine tkL 0 rfl aa ?_;refine tkL 1 rfl aa ?_;refine tkL 2 rfl aa ?_;refine tkL 3 rfl aa ?_;refine tkL 4 rfl aa ?_;refine tkL 6 rfl aa ?_;refine tkL 7 rfl aa ?_;refine tkL 8 rfl aa ?_;refine tkL 9 rfl aa ?_;refine tkL 10 rfl aa ?_;refine tkL 11 rfl aa ?_;refine tkL 12 rfl aa ?_;refine tkL 13 rfl aa ?_;refine tkL 14 rfl aa ?_;refine tkL 15 rfl aa ?_;refine tkL 16 rfl aa ?_;refine tkL 18 rfl aa ?_;refine tkL 19 rfl aa ?_;refine tkL 20 rfl aa ?_;refine cM (rs:=[5,25]) (by kernel_rfl) (by simp) ?_;refine rdC rfl (λKQ hK=>?_) (rdC rfl (λKQ hK=>?_) AllReadyH.nil)
  ·refine Zm (by kernel_rfl) 108 #[.pointer (some ⟨d,0,none⟩)] (by kernel_rfl) (CC X.drew hb) ?_;rintro e v1 ⟨rfl,ae⟩;refine⟨_,rfl,?_⟩;have aw:=ab.size;have ab:=Zf ab ae;have hb:=Zf ag ab;clear aa;refine hK.out _ _ (KS _ hb) (λaa=>?_);clear hK KQ;(try simp only[aQ,ZA,ZB,ZC]);refine cM (rs:=[17,25]) (by kernel_rfl) (by simp) ?_;refine rdC rfl (λKQ hK=>?_) (rdC rfl (λKQ hK=>?_) AllReadyH.nil)
   ·refine Zm (by kernel_rfl) 165 #[.pointer (some ⟨d,0,none⟩)] (by kernel_rfl) (CH v1 hb) ?_;rintro e v2 ⟨rfl,ae⟩;refine⟨_,rfl,?_⟩;have aw:=ab.size;have ab:=Zf ab ae;have hb:=Zf ag ab;clear aa;refine hK.out _ _ (KS _ hb) (λaa=>?_);clear hK KQ;(try simp only[aQ,ZA,ZB,ZC]);refine cM (rs:=[21,25]) (by kernel_rfl) (by simp) ?_;refine rdC rfl (λKQ hK=>?_) (rdC rfl (λKQ hK=>?_) AllReadyH.nil)
    ·refine Zm (by kernel_rfl) 26 #[.agg #[F ka kn kc],F gc cn cc,F pa pn pc,.int .i64 tip,.int .i64 z,.int .i64 wk,.int .i64 no,F ta tn tc] (by kernel_rfl) (CM v2 hb) ?_;rintro e v3 ⟨a5,n5,c5,rfl,au,s5,ae⟩;refine⟨_,rfl,?_⟩;dsimp only[Rn];have aw:=ab.size;have ab:=Zf ab ae;have hb:=Zf ag ab;clear aa;refine hK.out _ _ (KS _ hb) (λaa=>?_);clear hK KQ;refine tkL 22 rfl aa ?_;refine tkL 23 rfl aa ?_;refine tkL 24 rfl aa ?_;refine rdY 25 rfl (λKQ hK=>?_);go_simp;obtain⟨bg,aj⟩:∃ w6,w6=v3.alloc (dE #[.int .i64 0,.int .i64 0,.int .i64 0,.int .i64 0,F none 0 0] 39):=⟨_,rfl⟩;rw[<-aj];have hu:bg.heap[v3.heap.size]? = some (dE [.int .i64 0,.int .i64 0,.int .i64 0,.int .i64 0,F none 0 0].toArray 39 (0,0)):=(by rw[aj];exact Zx _ _ _ _ _ _ _);have ax:X.heap.size<=v3.heap.size:=ab.size;have bh:ZD v3 bg:=(by rw[aj];exact Zh _ _);have ab:ZD X bg:=Zf ab bh;have hb:=Zf ag ab;clear aj;clear aa;refine hK.out _ _ (KS _ hb) (λaa=>?_);clear hK KQ;(try simp only[aQ,ZA,ZB,ZC]);have bd:=hu;obtain⟨u50,u51,u52,u53,u54,dd,de,df,dg,dh,di⟩:=kf5 hu;refine rdY 26 rfl (λKQ hK=>?_);go_simp;clear aa;refine hK.out _ _ (KS _ (Gr.below (S:=λq=>q=v3.heap.size) ((Gr.refl _ (λq=>q=v3.heap.size)).five v3.heap.size (.inl rfl) _ _ _ _ _) hb hb.size (λq e=>by have e:q=v3.heap.size:=e;have:=ag.size;omega))) (λaa=>?_);clear hK KQ;(try simp only[aQ]);refine tkL 27 rfl aa ?_;refine wpAnyH_done (by kernel_rfl) ?_ _;clear aa;go_wp2_with fail;go_meet
     case rel=>
      have gg:Gr bg (((((bg.setCell ⟨v3.heap.size,0,none⟩ (.int .i64 b1)).setCell ⟨v3.heap.size,1,none⟩ (.int .i64 b2)).setCell ⟨v3.heap.size,2,none⟩ (.int .i64 b3)).setCell ⟨v3.heap.size,3,none⟩ (.int .i64 b4)).setCell ⟨v3.heap.size,4,none⟩ (F a5 n5 c5)) (λq=>q=v3.heap.size):=(Gr.refl bg (λq=>q=v3.heap.size)).five v3.heap.size (.inl rfl) _ _ _ _ _;refine⟨v3.heap.size,rfl,rfl,a5,n5,c5,Tr.set_cells (Tr.set_cells (Tr.set_cells (Tr.set_cells (Tr.set_cells bd 0 _) 1 _) 2 _) 3 _) 4 _,λW g=>au W ?_,s5,gg.below ab ab.size (λq e=>by have e:q=v3.heap.size:=e;omega),ax⟩;exact ((Gr.of bh).far gg (λq e=>.inl (by have e:q=v3.heap.size:=e;omega))).trans2 g (λq _ e=>by have e:q<X.heap.size:=e;omega)
    ·go_simp;obtain⟨bo,aj⟩:∃ w6,w6=v2.alloc (dE #[.int .i64 0,.int .i64 0,.int .i64 0,.int .i64 0,F none 0 0] 39):=⟨_,rfl⟩;rw[<-aj];have hu:bo.heap[v2.heap.size]? = some (dE [.int .i64 0,.int .i64 0,.int .i64 0,.int .i64 0,F none 0 0].toArray 39 (0,0)):=(by rw[aj];exact Zx _ _ _ _ _ _ _);have ax:X.heap.size<=v2.heap.size:=ab.size;have bh:ZD v2 bo:=(by rw[aj];exact Zh _ _);have ab:ZD X bo:=Zf ab bh;have hb:=Zf ag ab;clear aj;clear aa;refine hK.out _ _ (KS _ hb) (λaa=>?_);clear hK KQ;(try simp only[aQ,ZA,ZB,ZC]);refine rdS 21 rfl (CM bo hb) ?_;rintro e v6 ⟨a5,n5,c5,rfl,au,s5,ae⟩;dsimp only[Rn];have br:v2.heap.size<bo.heap.size:=aA hu;have hu:=ZE ae hu;have aw:=ab.size;have ab:=Zf ab ae;have hb:=Zf ag ab;clear aa;refine⟨_,rfl,(KS _ hb),λaa=>?_⟩;refine tkL 22 rfl aa ?_;refine tkL 23 rfl aa ?_;refine tkL 24 rfl aa ?_;have bd:=hu;obtain⟨u50,u51,u52,u53,u54,dd,de,df,dg,dh,di⟩:=kf5 hu;refine rdY 26 rfl (λKQ hK=>?_);go_simp;clear aa;refine hK.out _ _ (KS _ (Gr.below (S:=λq=>q=v2.heap.size) ((Gr.refl _ (λq=>q=v2.heap.size)).five v2.heap.size (.inl rfl) _ _ _ _ _) hb hb.size (λq e=>by have e:q=v2.heap.size:=e;have:=ag.size;omega))) (λaa=>?_);clear hK KQ;(try simp only[aQ]);refine tkL 27 rfl aa ?_;refine wpAnyH_done (by kernel_rfl) ?_ _;clear aa;go_wp2_with fail;go_meet
     case rel=>
      have gg:Gr v6 (((((v6.setCell ⟨v2.heap.size,0,none⟩ (.int .i64 b1)).setCell ⟨v2.heap.size,1,none⟩ (.int .i64 b2)).setCell ⟨v2.heap.size,2,none⟩ (.int .i64 b3)).setCell ⟨v2.heap.size,3,none⟩ (.int .i64 b4)).setCell ⟨v2.heap.size,4,none⟩ (F a5 n5 c5)) (λq=>q=v2.heap.size):=(Gr.refl v6 (λq=>q=v2.heap.size)).five v2.heap.size (.inl rfl) _ _ _ _ _;refine⟨v2.heap.size,rfl,rfl,a5,n5,c5,Tr.set_cells (Tr.set_cells (Tr.set_cells (Tr.set_cells (Tr.set_cells bd 0 _) 1 _) 2 _) 3 _) 4 _,λW g=>au W ?_,s5,gg.below ab ab.size (λq e=>by have e:q=v2.heap.size:=e;omega),ax⟩;exact (gg.mono (λq _ e=>by have e:q=v2.heap.size:=e;omega)).trans2 g (λq _ e=>by have e:q<X.heap.size:=e;omega)
   ·go_simp;obtain⟨bq,aj⟩:∃ w6,w6=v1.alloc (dE #[.int .i64 0,.int .i64 0,.int .i64 0,.int .i64 0,F none 0 0] 39):=⟨_,rfl⟩;rw[<-aj];have hu:bq.heap[v1.heap.size]? = some (dE [.int .i64 0,.int .i64 0,.int .i64 0,.int .i64 0,F none 0 0].toArray 39 (0,0)):=(by rw[aj];exact Zx _ _ _ _ _ _ _);have ax:X.heap.size<=v1.heap.size:=ab.size;have bh:ZD v1 bq:=(by rw[aj];exact Zh _ _);have ab:ZD X bq:=Zf ab bh;have hb:=Zf ag ab;clear aj;clear aa;refine hK.out _ _ (KS _ hb) (λaa=>?_);clear hK KQ;(try simp only[aQ,ZA,ZB,ZC]);refine rdS 17 rfl (CH bq hb) ?_;rintro e v8 ⟨rfl,ae⟩;have br:v1.heap.size<bq.heap.size:=aA hu;have hu:=ZE ae hu;have aw:=ab.size;have ab:=Zf ab ae;have hb:=Zf ag ab;clear aa;refine⟨_,rfl,(KS _ hb),λaa=>?_⟩;(try simp only[aQ,ZA,ZB,ZC]);refine rdS 21 rfl (CM v8 hb) ?_;rintro e v9 ⟨a5,n5,c5,rfl,au,s5,ae⟩;dsimp only[Rn];have br:v1.heap.size<v8.heap.size:=aA hu;have hu:=ZE ae hu;have aw:=ab.size;have ab:=Zf ab ae;have hb:=Zf ag ab;clear aa;refine⟨_,rfl,(KS _ hb),λaa=>?_⟩;refine tkL 22 rfl aa ?_;refine tkL 23 rfl aa ?_;refine tkL 24 rfl aa ?_;have bd:=hu;obtain⟨u50,u51,u52,u53,u54,dd,de,df,dg,dh,di⟩:=kf5 hu;refine rdY 26 rfl (λKQ hK=>?_);go_simp;clear aa;refine hK.out _ _ (KS _ (Gr.below (S:=λq=>q=v1.heap.size) ((Gr.refl _ (λq=>q=v1.heap.size)).five v1.heap.size (.inl rfl) _ _ _ _ _) hb hb.size (λq e=>by have e:q=v1.heap.size:=e;have:=ag.size;omega))) (λaa=>?_);clear hK KQ;(try simp only[aQ])
    refine tkL 27 rfl aa ?_;refine wpAnyH_done (by kernel_rfl) ?_ _;clear aa;go_wp2_with fail;go_meet
    case rel=>
     have gg:Gr v9 (((((v9.setCell ⟨v1.heap.size,0,none⟩ (.int .i64 b1)).setCell ⟨v1.heap.size,1,none⟩ (.int .i64 b2)).setCell ⟨v1.heap.size,2,none⟩ (.int .i64 b3)).setCell ⟨v1.heap.size,3,none⟩ (.int .i64 b4)).setCell ⟨v1.heap.size,4,none⟩ (F a5 n5 c5)) (λq=>q=v1.heap.size):=(Gr.refl v9 (λq=>q=v1.heap.size)).five v1.heap.size (.inl rfl) _ _ _ _ _;refine⟨v1.heap.size,rfl,rfl,a5,n5,c5,Tr.set_cells (Tr.set_cells (Tr.set_cells (Tr.set_cells (Tr.set_cells bd 0 _) 1 _) 2 _) 3 _) 4 _,λW g=>au W ?_,s5,gg.below ab ab.size (λq e=>by have e:q=v1.heap.size:=e;omega),ax⟩;exact (gg.mono (λq _ e=>by have e:q=v1.heap.size:=e;omega)).trans2 g (λq _ e=>by have e:q<X.heap.size:=e;omega)
  ·go_simp;obtain⟨ce,aj⟩:∃ w6,w6=(X.alloc (dE #[.int .i64 0,.int .i64 0,.int .i64 0,.int .i64 0,F none 0 0] 39)).drew:=⟨_,rfl⟩;rw[<-aj];have hu:ce.heap[X.heap.size]? = some (dE [.int .i64 0,.int .i64 0,.int .i64 0,.int .i64 0,F none 0 0].toArray 39 (0,0)):=(by rw[aj];exact Zx _ _ _ _ _ _ _);have ax:X.heap.size<=X.heap.size:=aF _;have ab:ZD X ce:=(by rw[aj];exact Zf (Zh _ _) (Zi _));have hb:=Zf ag ab;clear aj;clear aa;refine hK.out _ _ (KS _ hb) (λaa=>?_);clear hK KQ;(try simp only[aQ,ZA,ZB,ZC]);refine rdS 5 rfl (CC ce hb) ?_;rintro e fg ⟨rfl,ae⟩;have br:X.heap.size<ce.heap.size:=aA hu;have hu:=ZE ae hu;have aw:=ab.size;have ab:=Zf ab ae;have hb:=Zf ag ab;clear aa;refine⟨_,rfl,(KS _ hb),λaa=>?_⟩;(try simp only[aQ,ZA,ZB,ZC]);refine rdS 17 rfl (CH fg hb) ?_;rintro e fh ⟨rfl,ae⟩;have br:X.heap.size<fg.heap.size:=aA hu;have hu:=ZE ae hu;have aw:=ab.size;have ab:=Zf ab ae;have hb:=Zf ag ab;clear aa;refine⟨_,rfl,(KS _ hb),λaa=>?_⟩;(try simp only[aQ,ZA,ZB,ZC]);refine rdS 21 rfl (CM fh hb) ?_;rintro e dj ⟨a5,n5,c5,rfl,au,s5,ae⟩;dsimp only[Rn];have br:X.heap.size<fh.heap.size:=aA hu;have hu:=ZE ae hu;have aw:=ab.size;have ab:=Zf ab ae;have hb:=Zf ag ab;clear aa;refine⟨_,rfl,(KS _ hb),λaa=>?_⟩;refine tkL 22 rfl aa ?_;refine tkL 23 rfl aa ?_;refine tkL 24 rfl aa ?_;have bd:=hu;obtain⟨u50,u51,u52,u53,u54,dd,de,df,dg,dh,di⟩:=kf5 hu;refine rdY 26 rfl (λKQ hK=>?_);go_simp;clear aa
   refine hK.out _ _ (KS _ (Gr.below (S:=λq=>q=X.heap.size) ((Gr.refl _ (λq=>q=X.heap.size)).five X.heap.size (.inl rfl) _ _ _ _ _) hb hb.size (λq e=>by have e:q=X.heap.size:=e;have:=ag.size;omega))) (λaa=>?_);clear hK KQ;(try simp only[aQ]);refine tkL 27 rfl aa ?_;refine wpAnyH_done (by kernel_rfl) ?_ _;clear aa;go_wp2_with fail;go_meet
   case rel=>
    have gg:Gr dj (((((dj.setCell ⟨X.heap.size,0,none⟩ (.int .i64 b1)).setCell ⟨X.heap.size,1,none⟩ (.int .i64 b2)).setCell ⟨X.heap.size,2,none⟩ (.int .i64 b3)).setCell ⟨X.heap.size,3,none⟩ (.int .i64 b4)).setCell ⟨X.heap.size,4,none⟩ (F a5 n5 c5)) (λq=>q=X.heap.size):=(Gr.refl dj (λq=>q=X.heap.size)).five X.heap.size (.inl rfl) _ _ _ _ _;refine⟨X.heap.size,rfl,rfl,a5,n5,c5,Tr.set_cells (Tr.set_cells (Tr.set_cells (Tr.set_cells (Tr.set_cells bd 0 _) 1 _) 2 _) 3 _) 4 _,λW g=>au W ?_,s5,gg.below ab ab.size (λq e=>by have e:q=X.heap.size:=e;omega),ax⟩;exact (gg.mono (λq _ e=>by have e:q=X.heap.size:=e;omega)).trans2 g (λq _ e=>by have e:q<X.heap.size:=e;omega)
 case rest=>
  obtain⟨u,rfl,rfl,HC⟩:=hcut;clear CC CH CM KS;obtain⟨a5,n5,c5,hu,au,s5,ab,ax⟩:=Za HC;obtain⟨HB,HU,dv,dw,dt⟩:=kh5 (Zf ag ab) hu au s5 ab;clear HC au s5 ab;have hr:=ZE dt fm;have HR:=Zd hr;obtain⟨r0,r1,r2,r3,r4,ez,fa,fb,fc,fd,rl⟩:=kf5 hr;clear hr;by_cases z1:x1=0
  ·subst z1;have db:=Za HX;rw[if_neg (λq=>q rfl)] at db;have cd:=Zd db;clear db HX;have D1:=Zd (CT wc dt a5 n5 c5 (λW g=>dv W (g.mono (λq _ e=>by have:=Za ca;have:=Za cb;have:=Za cq;rcases e with e|e <;> omega))) dw);clear CT;obtain⟨e0,e1,e2,e3,e4,el⟩:=kc5 hu;clear hu;go_wp2_with fail;refine D1.mono ?_;rintro e w2 ⟨rfl,g2,ef⟩;have en:¬(w.heap.size=d\/w.heap.size=bm):=(by have:=Za ca;have:=Za cb;omega);have eo:¬(u=d\/u=bm):=(by have:=Za ca;have:=Za cb;have:=Za cq;omega);have bb:=g2.heap HU eo;have az:=g2.heap HR en;obtain⟨G2,fj⟩:=kh2 g2 ef;clear e0 r0 ez e1 r1 fa e2 r2 fb e3 r3 fc e4 r4 fd el rl ef D1;obtain⟨r0,ez,-⟩:=kf1 az;have e0:=Zb bb 0 _ rfl;obtain⟨-,r1,-,fa,-⟩:=kf2 az;have e1:=Zb bb 1 _ rfl;obtain⟨-,-,r2,-,-,fb,-⟩:=kf3 az;have e2:=Zb bb 2 _ rfl;obtain⟨-,-,-,r3,-,-,-,fc,-⟩:=kf4 az;have e3:=Zb bb 3 _ rfl;obtain⟨-,-,-,-,r4,-,-,-,-,fd,-⟩:=kf5 az;have e4:=Zb bb 4 _ rfl;have rl:=aA az;have el:=aA bb;clear bb az en eo g2;have GW:Hid (Gr w w2 (λq=>q=d\/q=bm)):=(Gr.of HB).trans G2;by_cases z2:x2=0
   ·subst z2;have dc:=Za cd;rw[if_neg (λq=>q rfl)] at dc;simp only[aU] at dc;obtain⟨rfl,rfl,rfl⟩:=dc;clear cd
    have bk:Hid (∀ W,Gr w2 W (λq=>q=w.heap.size)->Zpe Z w W d bm D2 0 (b1,b2,b3,b4,L) (dF (.tuple #[.agg #[.int .i64 b1,.int .i64 b2,.int .i64 b3,.int .i64 b4,F a5 n5 c5],.int .i64 0]))):=λW g=>by
     have ga:=Za cq;have cm:=Za ca;have cy:=Za cb;refine⟨a5,n5,c5,rfl,λW2 g2=>dv W2 ?_,Za dw,GW.far g (λq e=>.inl (by have e:q=w.heap.size:=e;omega)),λ_=>?_⟩
     ·exact ((G2.mono (λq _ e=>(by rcases e with e|e <;> omega:q<X.heap.size))).trans (g.mono (λq _ e=>by have e:q=w.heap.size:=e;omega))).trans (g2.mono (λq _ e=>by omega))
     ·exact (fj rfl).kept.off g (by omega)
    go_wp2;(try simp only[aV,Exit.then]);refine bB (v:=.tuple #[.agg #[.int .i64 b1,.int .i64 b2,.int .i64 b3,.int .i64 b4,F a5 n5 c5],.int .i64 0]) ?_ rfl ?_
    ·rw[results_cell_tmp rfl];go_simp
    ·exact bk _ ((Gr.refl w2 (λq=>q=w.heap.size)).five w.heap.size (.inl rfl) _ _ _ _ _)
   ·have be:=Za cd;rw[if_pos z2] at be;simp only[aU] at be;obtain⟨rfl,rfl,rfl⟩:=be;clear cd;have gx:(x2 == 0)=false:=(by simp[z2]);have gy:(x2 != 0)=true:=(by simp[z2]);have bk:Hid (∀ W,Gr w2 W (λq=>q=w.heap.size)->Zpe Z w W d bm ⟨K,N,T,P,tip,β⟩ x2 Yx (dF (.tuple #[.agg #[.int .i64 0,.int .i64 0,.int .i64 0,.int .i64 0,F none 0 0],.int .i64 x2]))):=λW g=>⟨none,0,0,rfl,λ_ _=>RowsAt.nil _ _,Zu,(GW).far g (λq e=>.inl (by have e:q=w.heap.size:=e;omega)),λe=>absurd e z2⟩;go_wp2;(try simp only[aV,Exit.then]);refine bB (v:=.tuple #[.agg #[.int .i64 0,.int .i64 0,.int .i64 0,.int .i64 0,F none 0 0],.int .i64 x2]) ?_ rfl ?_
    ·rw[results_cell_tmp rfl];go_simp
    ·exact bk _ ((Gr.refl w2 (λq=>q=w.heap.size)).five w.heap.size (.inl rfl) _ _ _ _ _)
  ·have be:=Za HX;rw[if_pos z1] at be;simp only[aU] at be;obtain⟨rfl,rfl,rfl⟩:=be;clear HX;have gx:(x1 == 0)=false:=(by simp[z1]);have gy:(x1 != 0)=true:=(by simp[z1]);have bk:Hid (∀ W,Gr wc W (λq=>q=w.heap.size)->Zpe Z w W d bm ⟨K,N,T,P,tip,β⟩ x1 Yx (dF (.tuple #[.agg #[.int .i64 0,.int .i64 0,.int .i64 0,.int .i64 0,F none 0 0],.int .i64 x1]))):=λW g=>⟨none,0,0,rfl,λ_ _=>RowsAt.nil _ _,Zu,((Gr.of HB:Gr w wc (λq=>q=d\/q=bm))).far g (λq e=>.inl (by have e:q=w.heap.size:=e;omega)),λe=>absurd e z1⟩;go_wp2;(try simp only[aV,Exit.then]);refine bB (v:=.tuple #[.agg #[.int .i64 0,.int .i64 0,.int .i64 0,.int .i64 0,F none 0 0],.int .i64 x1]) ?_ rfl ?_
   ·rw[results_cell_tmp rfl];go_simp
   ·exact bk _ ((Gr.refl wc (λq=>q=w.heap.size)).five w.heap.size (.inl rfl) _ _ _ _ _)
end
theorem Xm{fn:Func}{p q u:Tmp}{ty tz:TypeId}(h:fn.results=#[.cell p ty,.cell q tz,.tmp u])(tmps:Array Value)(P:Program)(w) :
  (results fn tmps).run P w =
   ((asAddr (tmps.getD p undef)).run P w).andThen λa w₁=>((loadVar ty a).run P w₁).andThen λx w₂=>((asAddr (tmps.getD q undef)).run P w₂).andThen λb w₃=>((loadVar tz b).run P w₃).andThen λy w₄=>.ok (dG #[x,y,tmps.getD u undef]) w₄:=by
 simp only[results,h];simp[Sem.run_bind,Result.andThen]
structure DoC(f:Nat)(caps:Array Value)(w:World)(Zc:Nat->Prop)(D:Dsk)(x:Int)(D':Dsk)(R:Nat->World->Prop):Prop where
 enters:∀ args w,(callFunc f args).run Tryz.prog w = .ok (.enter f args) w
 old:∀ q,Zc q->q<w.heap.size
 on:∀ B V V',R B V->Gr V V' (λq=>w.heap.size<=q/\q<B)->R B V'
 call:∀ B V d bm m,w.heap.size<=B->ZD w V->DeskOn (λq=>q<B) V d bm m D->B<=d->B<=bm->m<=24 ->
  Calls Tryz.prog f (#[dH (some ⟨d,0,none⟩)]++caps) V λe w'=>e = dF (E J x)/\Gr V w' (λq=>q=d\/q=bm\/Zc q)/\(x=0->KeptOn (λq=>q<B) w' d bm D')/\R B w'
def Dsk.none:Dsk:=⟨[],[],[],[],0,noB⟩
def Ak(w w':World)(x:Int)(D:Dsk)(e:Ending):Prop:=
 ∃ ka kn kc na nn nc ba bn bc pa pn pc,e = dF (dG #[.agg #[F ka kn kc],.agg #[F na nn nc,F ba bn bc,F pa pn pc,E J D.tip],E J x]) /\
  Fresh w.heap.size w' (λw2=>Uo w2 ka kn D.k na nn D.n ba bn D.t pa pn D.p)/\SlOk ka kn kc/\SlOk na nn nc/\SlOk ba bn bc/\SlOk pa pn pc
theorem Dm{w w'}{x:Int}:Ak w w' x Dsk.none (dF (dG #[.agg #[.slice .none 0 0],.agg #[.slice .none 0 0,.slice .none 0 0,.slice .none 0 0,E J 0],E J x])):=
 ⟨.none,0,0,.none,0,0,.none,0,0,.none,0,0,rfl,λ_ _=>⟨Bk.TextsAt.nil _ _,⟨rfl,λh=>absurd h (by decide)⟩,RowsAt.nil _ _,RowsAt.nil _ _⟩,Zu,Zu,Zu,Zu⟩
def Zph(w w':World)(x0 x:Int)(D:Dsk)(Zc:Nat->Prop)(R:Nat->World->Prop)(e:Ending):Prop:=
 (x0≠0/\Ak w w' x0 Dsk.none e/\ZD w w') \/
 (x0=0/\Gr w w' Zc/\R (w.heap.size+4) w'/\((x≠0/\Ak w w' x Dsk.none e)\/(x=0/\Ak w w' 0 D e)))
theorem Kx(ka kn kc K na ba pa nn nc bn bc pn pc N T P)(tip x0:Int)(w)(hE:Env w)(hK:Bk.TextsAt w ka kn K)(hN:Tr.IntsAt w na nn N)(hT:Tr.BlksAt w ba bn T)(hP:TxsAt w pa pn P)(sN:SlOk na nn nc)(sT:SlOk ba bn bc)(sP:SlOk pa pn pc)(hp:pn<=2513169434916)(hq:∀ t∈P,Tr.TxSmall t)(hx:opE K N T P tip=x0)
  (f:Nat) (caps) (Zc:Nat->Prop) (x:Int) (D':Dsk) (R:Nat->World->Prop) (bf:x0=0->DoC f caps w Zc ⟨K,N,T,P,tip,(Z1 K N T noB).2⟩ x D' R) :
  Calls Tryz.prog 98 #[.agg #[F ka kn kc],.agg #[F na nn nc,F ba bn bc,F pa pn pc,E J tip],.func (.func f) #[] caps] w λe w'=>Zph w w' x0 x D' Zc R e:=by
 obtain⟨X,hX⟩:=ZG (Yv w [dE #[F ka kn kc] 24,dE #[F na nn nc,F ba bn bc,F pa pn pc,E J tip] 67,dE #[F none 0 0] 24,dE #[F none 0 0,F none 0 0,F none 0 0,E J 0] 67]);have bd:X=(((w.alloc (dE #[F ka kn kc] 24)).alloc (dE #[F na nn nc,F ba bn bc,F pa pn pc,E J tip] 67)).alloc (dE #[F none 0 0] 24)).alloc (dE #[F none 0 0,F none 0 0,F none 0 0,E J 0] 67):=hX;have ac:ZD w X:=by rw[hX];exact Zs _ _
 have be:X.heap.size=w.heap.size+4:=by rw[hX];exact Z0 _ _
 have ar:=kl0 hX _ _ rfl;have au:=kl hX 1 _ _ rfl;have br:=kl hX 2 _ _ rfl;have bs:=kl hX 3 _ _ rfl;obtain⟨C1,bt,am,bv,bx,bu⟩:=kh6 (Kw ka kn kc K na ba pa nn nc bn bc pn pc N T P tip x0 X (hE.later ac) (hK.later ac) (hN.later ac) (hT.later ac) (hP.later ac) sN sT sP hp hq hx) ac be br bs bf;have t0:=Zb ar 0 _ rfl;obtain⟨t1,t2,t3,t4,-⟩:=kc4 au;have tl:=aA ar;have dg:=aA au;clear hE hK hN hT hP sN sT sP hp hq hx bf ac be ar au br bs hX;go_enter Tryz.func98,Tryz.ntmps98;go_wp2_with fail;rw[<-bd];clear bd;(try go_wp2_with fail);refine C1.mono ?_;rintro e w1 ⟨af,hr⟩;obtain⟨dh,ah⟩:=kh2 af (Zf bt af);have h2:=ZE af bv;have h3:=ZE af bx;obtain⟨H2,H3⟩:=kh2 h2 h3;clear af C1 t0 t1 t2 t3 t4 tl dg
 rcases hr with ⟨h0,rfl⟩|⟨h0,d,bm,m,rfl,hD,hd,dp,hm⟩
 ·have gx:(x0 == 0)=false:=by simp[h0]
  have gy:(x0 != 0)=true:=by simp[h0]
  obtain⟨cp,cq,ct⟩:=kf1 h2;obtain⟨cu,cw,cx,cy,cb,cc,cd,ce,cz⟩:=kf4 h3
  have ae:Hid (∀ W,Gr w1 W (λq=>w.heap.size<=q)->Zph w W x0 x D' Zc R (dF (dG #[.agg #[F none 0 0],.agg #[F none 0 0,F none 0 0,F none 0 0,E J 0],E J x0]))):=λW g=>
   .inl ⟨h0,Dm,g.below ah ah.size (λq e=>e)⟩
  clear h2 h3;go_wp2;(try simp only[aV,Exit.then]);refine bB (v:=dG #[.agg #[F none 0 0],.agg #[F none 0 0,F none 0 0,F none 0 0,E J 0],E J x0]) ?_ rfl ?_
  ·rw[Xm rfl];go_simp
  ·exact ae _ (((Gr.refl w1 (λq=>w.heap.size<=q)).one (w.heap.size+2) 0 (.inl (by show w.heap.size<=w.heap.size+2;omega)) _).four (w.heap.size+3) (.inl (by show w.heap.size<=w.heap.size+3;omega)) _ _ _ _)
 ·subst h0;have DC:=bu rfl;have cl:w.heap.size+4<=d:=by have:=Za am;omega
  have cj:w.heap.size+4<=bm:=by have:=Za am;omega
  have D1:=Zd (DC.call (w.heap.size+4) w1 d bm m (by omega) ah (by rw[Za am] at hD;exact hD) cl cj hm);have eg:=DC.enters;have aj:=Zd DC;clear DC hD h2 h3;go_wp2_with fail;refine D1.mono ?_;rintro e w2 ⟨rfl,g2,bg,bb⟩;obtain⟨ay,ak,az⟩:=kh3 g2 bg bb;have ap:=aj.old
  have n2:¬(w.heap.size+2=d\/w.heap.size+2=bm\/Zc (w.heap.size+2)):=by
   rintro (e|e|e)
   ·omega
   ·omega
   ·have:=ap _ e;omega
  have n3:¬(w.heap.size+3=d\/w.heap.size+3=bm\/Zc (w.heap.size+3)):=by
   rintro (e|e|e)
   ·omega
   ·omega
   ·have:=ap _ e;omega
  have h2:=g2.heap H2 n2;have h3:=g2.heap H3 n3;obtain⟨cp,cq,ct⟩:=kf1 h2;obtain⟨cu,cw,cx,cy,cb,cc,cd,ce,cz⟩:=kf4 h3
  have GW:Hid (∀ W,Gr w2 W (λq=>q=w.heap.size+2\/q=w.heap.size+3)->Gr w W Zc/\R (w.heap.size+4) W):=λW g=>by
   refine⟨?_,aj.on _ _ _ az (g.mono (λq _ e=>by rcases e with e|e <;> (show _/\_;omega)))⟩;refine ((Gr.of ah).far ay (λq e=>?_)).far g (λq e=>.inl (by rcases e with e|e <;> omega))
   rcases e with e|e|e
   ·exact .inl (by omega)
   ·exact .inl (by omega)
   ·exact .inr e
  clear h2 h3 n2 n3 ap g2 bg bb D1 eg ay az H2 H3 aj;by_cases z:x=0
  ·subst z;obtain⟨k1,k1n,k1c,n1,n1n,n1c,b1,b1n,b1c,p1,p1n,p1c,box,dat,s1,s2,s3,s4⟩:=ak rfl;obtain⟨d0,d1,d2,d3,d4,dl⟩:=kc5 box
   have ae:Hid (∀ W,Gr w2 W (λq=>q=w.heap.size+2\/q=w.heap.size+3)->Zph w W 0 0 D' Zc R (dF (dG #[.agg #[F k1 k1n k1c],.agg #[F n1 n1n n1c,F b1 b1n b1c,F p1 p1n p1c,E J D'.tip],E J 0]))):=λW g=>
    .inr ⟨rfl,(GW W g).1,(GW W g).2,.inr ⟨rfl,k1,k1n,k1c,n1,n1n,n1c,b1,b1n,b1c,p1,p1n,p1c,rfl,λW2 g2=>dat W2 ((g.mono (λq _ e=>by
     refine .inr (.inr ?_);show q<w.heap.size+4
     rcases e with e|e <;> omega)).trans (g2.mono (λq _ e=>by
     refine .inr (.inr ?_);have e:q<w.heap.size:=e;show q<w.heap.size+4;omega))),s1,s2,s3,s4⟩⟩
   have dr:d≠w.heap.size+2:=(by omega);have ds:d≠w.heap.size+3:=(by omega);clear ak GW box dat s1 s2 s3 s4;go_wp2_with fail
   go_region
   all_goals
    go_wp2;(try simp only[aV,Exit.then]);refine bB (v:=dG #[.agg #[F k1 k1n k1c],.agg #[F n1 n1n n1c,F b1 b1n b1c,F p1 p1n p1c,E J D'.tip],E J 0]) ?_ rfl ?_
    ·rw[Xm rfl];go_simp
    ·exact ae _ ((((Gr.refl w2 (λq=>q=w.heap.size+2\/q=w.heap.size+3)).one (w.heap.size+2) 0 (.inl (.inl rfl)) _).four (w.heap.size+3) (.inl (.inr rfl)) _ _ _ _).trans (Gr.of (Zi _)))
  ·have gx:(x == 0)=false:=(by simp[z]);have gy:(x != 0)=true:=by simp[z]
   have ae:Hid (∀ W,Gr w2 W (λq=>q=w.heap.size+2\/q=w.heap.size+3)->Zph w W 0 x D' Zc R (dF (dG #[.agg #[F none 0 0],.agg #[F none 0 0,F none 0 0,F none 0 0,E J 0],E J x]))):=λW g=>
    .inr ⟨rfl,(GW W g).1,(GW W g).2,.inl ⟨z,Dm⟩⟩
   clear GW ak;go_wp2;(try simp only[aV,Exit.then]);refine bB (v:=dG #[.agg #[F none 0 0],.agg #[F none 0 0,F none 0 0,F none 0 0,E J 0],E J x]) ?_ rfl ?_
   ·rw[Xm rfl];go_simp
   ·exact ae _ (((Gr.refl w2 (λq=>q=w.heap.size+2\/q=w.heap.size+3)).one (w.heap.size+2) 0 (.inl (.inl rfl)) _).four (w.heap.size+3) (.inl (.inr rfl)) _ _ _ _)
