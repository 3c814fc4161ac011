import Derived.Test.YtmomfkikogbdeaaGreatDoorH
import Derived.Test.YtmomfkikogbdeaaGreatDoorG19
open Go renaming TypeId->cF,lt_of_block->aA,bodyPost_ret->bB
open Go.Ending renaming returned->dF
open Go.Exit renaming inBlock->aV
open Go.IntKind renaming i64->J
open Go.Obj renaming cells->dE
open Go.Value renaming int->E,slice->F,tuple->dG
open Go.World renaming block_lt_of_cell?->aE,frozen?_of_block->aM,cell?_of_block->cA
open List renaming mem_map->bN,replicate->aR,getElem?_eq_getElem->aZ
open Nat renaming lt_of_lt_of_le->aD,le_succ->dC
namespace Go.Proofs.YtmomfkikogbdeaaGreatDoor
open Go.RowKit
theorem Ws{fn:Func}{p u v:Tmp}{ty:cF}(h:fn.results=#[.tmp u,.cell p ty,.tmp v])(tmps:Array Value)(P:Program)(w) :
  (results fn tmps).run P w =
   ((asAddr (tmps.getD p undef)).run P w).andThen λa w₁=>((loadVar ty a).run P w₁).andThen λx w₂=>.ok (dG #[tmps.getD u undef,x,tmps.getD v undef]) w₂:=by
 simp only[results,h];simp[Sem.run_bind,Result.andThen]
def ApR(w w':World)(x:Int)(M S:List Zj)(e:Ending):Prop:=
 ∃ am nm cm sa ns cs,e = dF (dG #[F am nm cm,.agg #[F sa ns cs],E J x])/\CoinsAt w' am nm M/\SlOk am nm cm/\CoinsAt w' sa ns S/\SlOk sa ns cs/\ZD w w'
def ApF(w w':World)(x:Int)(M S:List Zj)(e:Ending):Prop:=
 ∃ am nm cm sa ns cs,e = dF (dG #[F am nm cm,.agg #[F sa ns cs],E J x])/\Fresh w.heap.size w' (λw2=>CoinsAt w2 am nm M)/\SlOk am nm cm/\CoinsAt w' sa ns S/\SlOk sa ns cs/\ZD w w'
theorem ApF.plain{w w'}{x:Int}{M S e}(h:ApF w w' x M S e):ApR w w' x M S e:=by
 obtain⟨am,nm,cm,sa,ns,cs,h1,h2,h3⟩:=h;exact⟨am,nm,cm,sa,ns,cs,h1,h2 _ (Gr.refl _ _),h3⟩
theorem Zu:SlOk none 0 0:=⟨Nat.le_refl _,Nat.zero_le _,λ_=>⟨rfl,rfl⟩⟩
theorem Md{w w':World}{x y:Int}{M S}{b:Nat}{v}(h:(x,M,S)=((y:Int),([]:List Zj),([]:List Zj))/\w.heap.size<=b)(hb:ZD w w'):ApF w (w'.setCell ⟨b,0,none⟩ v) x M S (dF (dG #[F none 0 0,.agg #[F none 0 0],E J y])):=by
 obtain⟨h1,h2⟩:=h;injection h1 with h1 h3;injection h3 with h3 h4;subst h1 h3 h4;exact⟨none,0,0,none,0,0,rfl,λ_ _=>RowsAt.nil _ _,Zu,RowsAt.nil _ _,Zu,hb.setCell (p:=⟨b,0,none⟩) h2 _⟩
set_option maxRecDepth 10000 in
set_option maxHeartbeats 12800000 in
theorem Gp(a n c L)(h:Int)(ai ao ni ci no co I O)(name ht:Int)(x:Int)(M S w)(hL:CoinsAt w a n L)(sL:SlOk a n c)(hI:InsAt w ai ni I)(hO:OutsAt w ao no O)(sI:SlOk ai ni ci)(hx:apD L (h,I,O) name ht=(x,M,S)) :
  Calls Tryz.prog 76 #[F a n c,.agg #[E J h,F ai ni ci,F ao no co],E J name,E J ht] w λe w'=>ApF w w' x M S e:=by
 obtain⟨X0,ap⟩:=ZG ((w.alloc (dE #[E J h,F ai ni ci,F ao no co] 59)).alloc (dE #[F none 0 0] 153));have aj:ZD w X0:=by rw[ap];exact Zf (Zh _ _) (Zh _ _)
 have am:X0.heap[w.heap.size]? = some (dE [E J h,F ai ni ci,F ao no co].toArray 59 (0,0)):=by
  rw[ap,Below.heap_alloc _ _ _ (by simp)];exact Zw _ _ _ _ _
 have bo:X0.heap[w.heap.size+1]? = some (dE [F none 0 0].toArray 153 (0,0)):=by
  rw[ap];have:=heap_alloc_new (w.alloc (dE #[E J h,F ai ni ci,F ao no co] 59)) (dE #[F none 0 0] 153);rw[show (w.alloc (dE #[E J h,F ai ni ci,F ao no co] 59)).heap.size=w.heap.size+1 by simp] at this;exact this
 obtain⟨x1,h1⟩:=ZF (Vj L (h,I,O) name ht);obtain⟨⟨x2,S2,M2⟩,h2⟩:=ZF (Zr ht I [] L);obtain⟨x3,h3⟩:=ZF (Eh S2 (h,I,O));obtain⟨⟨x4,M4⟩,h4⟩:=ZF (Yc name ht (isR (h,I,O)) 0 O M2);obtain⟨x5,h5⟩:=ZF (Z8 M4);rw[Zlw h1 h2 h3 h4 h5] at hx;have hR:isR (h,I,O)=decide (ni=0):=by unfold isR;rw[<-hI.1]
 obtain⟨C1,iu,fi,et⟩:=kh4 (Mx a n c L h ai ao ni ci no co I O name ht x1 X0 (hL.later aj) (hI.later aj) (hO.later aj) sI h1) am bo aj;by_cases e1:x1=0
 ·subst e1;rw[if_neg (by decide)] at hx;obtain⟨dj,dk,jd,jc,_⟩:=Xx h1;obtain⟨t1,t2,t3,_⟩:=Un dk;have gc:ni<=6:=by rw[<-hI.1];exact t1
  have gd:no<=6:=by rw[<-hO.1];exact t2
  have hn:n<=720:=by rw[<-hL.1];exact dj.len
  have gf:=Zdt dk;have fl:=Zd (λw' (hb:ZD X0 w')=>Zic a n c L w' (by omega) ((hL.later aj).later hb) sL);have HI:=Zd (λw' (hb:ZD X0 w')=>(hI.later aj).later hb);have HO:=Zd (λw' (hb:ZD X0 w')=>(hO.later aj).later hb);obtain⟨fe,im,H2,H3,H4,H5,HR,HX⟩:=kh8 dj gf h2 h3 h4 h5 hR hx;have iv:=Zd hL.1;have jq:w.heap.size+1<X0.heap.size:=aA bo;obtain⟨x0,x1,-⟩:=kc2 am;have ek:=Zb am 2 _ rfl;clear hL sL hI hO sI h1 am bo aj dj dk jd jc t1 t2 t3 gf h2 h3 h4 h5 hR hx;go_enter Tryz.func76,Tryz.ntmps76;go_wp2_with fail;rw[<-ap];clear ap;refine C1.mono ?_;rintro e w2 ⟨rfl,ad⟩;obtain⟨fk,il,fa⟩:=kh3 (fl w2 ad) (HI w2 ad) (HO w2 ad);have fz:=ZE ad iu;have bt:=ZE ad fi;obtain⟨bx,ca,bi⟩:=kh3 fz bt (Zf et ad);clear ad fz bt x0 x1 ek fl HI HO C1;go_wp2_with fail;refine fk.mono ?_;rintro e w3 ⟨p,v,K,rfl,hK,dh⟩;have cl:K.length=n:=by rw[<-Za iv,<-hK,List.length_map]
  have gm:Srt (K.map (·.1)):=by rw[hK];exact fe.srt
  have dt:∀ z∈K,ck1 z.1=0:=λz hz=>fe.one z.1 (by rw[<-hK];exact List.mem_map_of_mem hz);have SP:=Zd (Ziq w2 w3 p v K ai ni ci I ht x2 S2 M2 dh gm (by omega) dt il gc (by rw[hK];exact Za H2));have ga:=ZE dh.bel bx;obtain⟨-,c1,jg⟩:=kc2 ga;obtain⟨fb,ey⟩:=kh2 dt cl;have km:w.heap.size+1<w2.heap.size:=aA ca;clear hK dh cl gm dt ga fk;go_wp2_with fail;refine SP.mono ?_;rintro e w4 ⟨sa,ns,cs,rfl,aq,dw⟩;have dr:=ZE aq bx;have dx:=ZE aq ca;obtain⟨d0,d1,d2,-⟩:=kc3 dr;obtain⟨u4,f4,-⟩:=kf1 dx;have jh:=aA dr;have ji:=aA dx;have ih:=Zd aq;clear dr dx c1 jg SP;by_cases e2:x2=0
  ·subst e2;obtain⟨v4,K4,T4,q1,q2,q3,q4,q5,q6,q7,q8,q9,ed,go,s4,gp,gq,gs⟩:=dw rfl;have hx:=Za HX;rw[if_neg (by decide)] at hx;have da:=Zd hx;have fw:∀ z∈T4,LkAt w4 z:=λz hz=>(q8 z hz).later aq;have du:w4.ownsRow w2.heap.size 124 6 (F sa ns cs) T4.length (Zn T4):=(by have h:=q7;rw[q5] at h ⊢;exact h);obtain⟨ei,dg,e,dn,jp⟩:=Wy du fw;have e2:sa=ei/\ns=T4.length/\cs=dg:=(by injection e with e1 e2 e3;exact⟨e1,e2,e3⟩);obtain⟨rfl,-,rfl⟩:=e2;rw[q1,<-q5] at dn;have jo:ns<=6:=by rw[q5,q6];exact gc
   have fv:∀ z∈S2,0<=cv z/\cv z<=1000000000:=λz hz=>by
    rw[<-q1] at hz;obtain⟨y,hy,rfl⟩:=bN.1 hz;have:=Yy (fb y (ed y hy));omega
   obtain⟨en,fc,ff,it⟩:=kh4 (Zhd sa ns cs S2 h ai ao ni ci no co O x3 w4 jo gd dn (fa.later aq) fv im (by have:=Za H3;unfold Eh at this;rw[Za HR] at this;exact this)) go du q8;have HQ:Hid (T4.map (·.1)=S2/\K4.map (·.1)=M2/\Srt M2/\K4.length<=K.length/\ns=T4.length/\(Value.slice sa ns cs).ownBlock=some s4/\v4.ownBlock≠some s4/\s4≠p):=⟨q1,q2,q3,q4,q5,gp,gq,gs⟩;have ir:=Zd ed;clear dw q1 q2 q3 q4 q5 q6 q7 q8 q9 ed go gp gq gs hx fw du dn jp fv HX e aq;go_wp2_with fail;refine en.mono ?_;rintro e w5 ⟨rfl,dm⟩;have cm:=fc.kept dm;have ds:=ZE cm.bel bx;have dy:=ZE cm.bel ca;obtain⟨g0,g1,g2,-⟩:=kc3 ds;obtain⟨u5,f5,-⟩:=kf1 dy;have jj:=aA ds;have jk:=aA dy;obtain⟨cy,fg⟩:=kh2 cm ((Gr.of (S:=λ_=>False) dm).own ff (λ_ _ q=>q));clear dm cm ds dy d0 d1 d2 u4 f4 jh ji en ff fc;by_cases e3:x3=0
   ·subst e3;have hx:=Za da;rw[if_neg (by decide)] at hx;have db:=Zd hx;have hq:=Za HQ;have cl:=Za ey;have GV:=Zd (Zol w2 w5 p v4 K4 h ai ao ni ci no co O name ht (decide (ni=0)) x4 M4 cy (by rw[hq.2.1];exact hq.2.2.1) (by omega) fa gd rfl (by rw[hq.2.1,<-Za HR];exact Za H4));clear hx da hq cl;go_wp2_with fail;refine GV.mono ?_;rintro e w6 ⟨rfl,cn,dq⟩;have jf:=ZE cn bx;have dz:=ZE cn ca;obtain⟨u6,f6,-⟩:=kf1 dz;have jl:=aA dz;have cw:=Zd cn;clear jf dz g0 g1 g2 u5 f5 jj jk GV;by_cases e4:x4=0
    ·subst e4;obtain⟨v6,K6,r1,r2,r3,r4,r5⟩:=dq rfl;have hx:=Za db;rw[if_neg (by decide)] at hx;have dc:=Zd hx;obtain⟨a6,c6,rfl,cq,gi⟩:=r4.coins;have ft:K6.length<=726:=(by have:=HQ.2.2.2.1;have:=Za ey;omega);obtain⟨n6,bs⟩:=ZF (K6.length);rw[r1,bs] at cq;have cp:=r4.box;rw[bs] at cp;have p6:=Zb (X:=[F a6 n6 c6]) cp 0 _ rfl;have kh:=aA cp;have CK:=Zd (Ub a6 n6 c6 M4 x5 w6 cq H5);have hq:=Za HQ
     have gb:¬PuS p v4 s4:=by
      rintro (e|e)
      ·exact hq.2.2.2.2.2.2.2 e
      ·exact hq.2.2.2.2.2.2.1 e
     have gg:=r5.own fg (λk hk=>by
      rw[show (Value.slice sa ns cs).ownBlock=some s4 from hq.2.2.2.2.2.1] at hk;cases hk;exact gb)
     obtain⟨fh,ev⟩:=kh2 gg cq;have ip:Hid (SlOk a6 n6 c6):=(by rw[<-bs];exact gi);have kd:n6<=726:=(by rw[<-bs];exact ft);clear dq hx db r1 r2 r3 r4 r5 cq gi ft bs cp hq gb gg cn fg cy;go_wp2_with fail;refine CK.mono ?_;rintro e w7 ⟨rfl,ar⟩;have p7:=Ze ar p6;have ki:=aE _ _ p7;have ea:=Ze ar u6;have jm:=aE _ _ ea;have f7:w7.frozen? ⟨w.heap.size+1,0,none⟩=false:=(aM (w:=w6) (a:=⟨w.heap.size+1,0,none⟩) (ar.block _ jl)).trans f6;have cx:Hid (ZD w2 w7):=cw.trans (ar.mono cw.size);obtain⟨ii,io⟩:=kh2 (ev.later ar) ((Gr.of (S:=λ_=>False) ar).own fh (λ_ _ q=>q));clear ar p6 u6 f6 CK fh ev;by_cases e5:x5=0
     ·subst e5;have hx:=Za dc;rw[if_neg (by decide)] at hx;have jr:x=0:=(by injection hx with hx _;exact hx.symm);have js:M=M4:=(by injection hx with _ hx;injection hx with hx _;exact hx.symm);have jt:S=S2:=(by injection hx with _ hx;injection hx with _ hx;exact hx.symm);subst jr js jt;have fu:=(Z7 M).1 H5;have eo:=Zd (Ja a6 n6 c6 M w7 (by omega) ii ip (λz hz=>by have:=Sp (Yy (fu.one z hz)).2.2.2.2.2.2.2.2;omega));clear hx dc fu;go_wp2_with fail;refine eo.mono ?_;rintro e w8 ⟨a8,c8,rfl,fx,gj,bd⟩;have gh:=(Gr.of (S:=λ_=>False) bd).own io (λ_ _ q=>q);have dl:ZD w2 w8:=cx.trans (bd.mono cx.size);have hq:=Za HQ;obtain⟨ei,dg,e,dp,dv⟩:=Wy gh (λz hz=>(it z hz).later dl);have e2:sa=ei/\cs=dg:=(by injection e with e1 e2 e3;exact⟨e1,e3⟩);obtain⟨rfl,rfl⟩:=e2;rw[hq.1,<-hq.2.2.2.2.1] at dp;rw[<-hq.2.2.2.2.1] at dv
      have ep:=Zd (Ja sa ns cs S w8 (by omega) dp dv (λz hz=>by
       rw[<-hq.1] at hz;obtain⟨y,hy,rfl⟩:=bN.1 hz;have:=Sp (Yy (fb y (ir y hy))).2.2.2.2.2.2.2.2;omega))
      have u8:=Ze bd ea;have jn:=aE _ _ u8;have f8:w8.frozen? ⟨w.heap.size+1,0,none⟩=false:=(aM (w:=w7) (a:=⟨w.heap.size+1,0,none⟩) (bd.block _ jm)).trans f7;obtain⟨ik,iq,eu⟩:=kh3 fx gj dl;have ke:w7.heap.size<=w8.heap.size:=bd.size;clear fx gj bd gh dl hq dp dv e eo p7 ea f7;go_wp2_with fail;refine ep.mono ?_;rintro e w9 ⟨a9,c9,rfl,fy,gl,br⟩;have u9:=Ze br u8;have kf:=aE _ _ u9;have f9:w9.frozen? ⟨w.heap.size+1,0,none⟩=false:=(aM (w:=w8) (a:=⟨w.heap.size+1,0,none⟩) (br.block _ jn)).trans f8
      have ij:Hid (ApF w (w9.setCell ⟨w.heap.size+1,0,none⟩ (F a9 ns c9)) 0 M S (dF (dG #[F a8 n6 c8,.agg #[F a9 ns c9],E J 0]))):=by
       refine⟨a8,n6,c8,a9,ns,c9,rfl,?_,Za iq,?_,gl,?_⟩
       ·exact λw2 g2=>ik w2 (((Gr.of br).one (w.heap.size+1) 0 (.inl (by show w.heap.size+1<w7.heap.size;omega)) _).trans (g2.mono (λ_ _ hk=>aD hk (by omega))))
       ·exact fy _ ((Gr.refl w9 (λk=>k<w8.heap.size)).one (w.heap.size+1) 0 (.inl (by show w.heap.size+1<w8.heap.size;omega)) _)
       ·have je:ZD w2 w9:=eu.trans (br.mono eu.size);exact (Zf bi je).setCell (p:=⟨w.heap.size+1,0,none⟩) (dC _) _
      clear fy gl br u8 f8 ep;go_wp2;(try simp only[aV,Exit.then]);refine bB (v:=dG #[F a8 n6 c8,.agg #[F a9 ns c9],E J 0]) ?_ rfl ij;rw[Ws rfl];go_simp
     ·have g:(x5 != 0)=true:=(by simp[e5]);have HE:Hid ((x,M,S)=((x5:Int),([]:List Zj),([]:List Zj))/\w.heap.size<=w.heap.size+1):=⟨by have:=Za dc;rw[if_pos e5] at this;exact this.symm,dC _⟩;have ae:=Zd (Zf bi cx);clear e5 p7;go_wp2;(try simp only[aV,Exit.then]);refine bB (v:=dG #[F none 0 0,.agg #[F none 0 0],E J x5]) ?_ rfl ?_
      ·rw[Ws rfl];go_simp
      ·exact Md HE ae
    ·have g:(x4 == 0)=false:=(by simp[e4]);have g':(x4 != 0)=true:=(by simp[e4]);have HE:Hid ((x,M,S)=((x4:Int),([]:List Zj),([]:List Zj))/\w.heap.size<=w.heap.size+1):=⟨by have:=Za db;rw[if_pos e4] at this;exact this.symm,dC _⟩;have ae:=Zd (Zf bi cw);clear e4 dq;go_wp2;(try simp only[aV,Exit.then]);refine bB (v:=dG #[F none 0 0,.agg #[F none 0 0],E J x4]) ?_ rfl ?_
     ·rw[Ws rfl];go_simp
     ·exact Md HE ae
   ·have g:(x3 == 0)=false:=(by simp[e3]);have g':(x3 != 0)=true:=(by simp[e3]);have HE:Hid ((x,M,S)=((x3:Int),([]:List Zj),([]:List Zj))/\w.heap.size<=w.heap.size+1):=⟨by have:=Za da;rw[if_pos e3] at this;exact this.symm,dC _⟩;have ae:=Zd (Zf bi cy.bel);clear e3;go_wp2;(try simp only[aV,Exit.then]);refine bB (v:=dG #[F none 0 0,.agg #[F none 0 0],E J x3]) ?_ rfl ?_
    ·rw[Ws rfl];go_simp
    ·exact Md HE ae
  ·have g:(x2 == 0)=false:=(by simp[e2]);have g':(x2 != 0)=true:=(by simp[e2]);have HE:Hid ((x,M,S)=((x2:Int),([]:List Zj),([]:List Zj))/\w.heap.size<=w.heap.size+1):=⟨by have:=Za HX;rw[if_pos e2] at this;exact this.symm,dC _⟩;have ae:=Zd (Zf bi ih);clear e2 dw aq;go_wp2;(try simp only[aV,Exit.then]);refine bB (v:=dG #[F none 0 0,.agg #[F none 0 0],E J x2]) ?_ rfl ?_
   ·rw[Ws rfl];go_simp
   ·exact Md HE ae
 ·have g:(x1 != 0)=true:=by simp[e1]
  have HE:Hid ((x,M,S)=((x1:Int),([]:List Zj),([]:List Zj))/\w.heap.size<=w.heap.size+1):=⟨by rw[if_pos e1] at hx;exact hx.symm,dC _⟩;have x0:=Zb am 0 _ rfl;have jy:=Zb am 1 _ rfl;have ek:=Zb am 2 _ rfl;have jq:w.heap.size+1<X0.heap.size:=aA bo;clear hL sL hI hO sI h1 am bo aj h2 h3 h4 h5 hR hx e1;go_enter Tryz.func76,Tryz.ntmps76;go_wp2_with fail;rw[<-ap];clear ap;refine C1.mono ?_;rintro e w2 ⟨rfl,ad⟩;have bt:=ZE ad fi;obtain⟨u2,f2,-⟩:=kf1 bt;have ae:=Zd (Zf et ad);clear ad bt x0 jy ek;go_wp2;(try simp only[aV,Exit.then]);refine bB (v:=dG #[F none 0 0,.agg #[F none 0 0],E J x1]) ?_ rfl ?_
  ·rw[Ws rfl];go_simp
  ·exact Md HE ae
theorem E9(a n c L)(h:Int)(ai ao ni ci no co I O)(name ht:Int)(x:Int)(M S w)(hL:CoinsAt w a n L)(sL:SlOk a n c)(hI:InsAt w ai ni I)(hO:OutsAt w ao no O)(sI:SlOk ai ni ci)(hx:apD L (h,I,O) name ht=(x,M,S)) :
  Calls Tryz.prog 76 #[F a n c,.agg #[E J h,F ai ni ci,F ao no co],E J name,E J ht] w λe w'=>ApR w w' x M S e:=
 (Gp a n c L h ai ao ni ci no co I O name ht x M S w hL sL hI hO sI hx).mono λ_ _ q=>q.plain
theorem Zfa{P:Program}{w:World}{am}{o:Oper}{a:Act}{K:Act->World->Prop}{Q:Exit->Act->World->Prop}{aa:Prop}
  (hg:o.guard=none) (l c:Operand) (t:cF) (aj:o.op=Op.makeSlice t l c)
  (base:Nat) (e:cF) (i:TypeInfo) (z:Value) (size:Nat) (h1:P.underlying t=some (.slice e)) (h2:P.info? e=some i) (h3:i.zero=some z) (h4:i.size=size)
  (kl kc:IntKind) (L C:Int) (n:Nat) (hl:a.eval l = .int kl L) (hc:a.eval c = .int kc C) (hL:L=(n:Int)) (hC:C=(n:Int)) (b2:i.bytes*n<=281474976710656) (b3:n<=maxLen) (b4:base<=w.heap.size) (H:Nat) (hH:w.heap.size=H)
  (hK:∀ w',w'.ownsRow base e size (F (some ⟨H,0,none⟩) n n) n (madeCells z.cells (n*size)).toList->w.grownBy w' none->K (a.put o.dst (F (some ⟨H,0,none⟩) n n)) w') :
  if Region.wanted o (yielded am a.tmps)=true then Oper.wp P o a w K Q else aa:=by
 rw[if_pos (by simp[Region.wanted,hg])];subst hH;obtain⟨w',ak,r1,r2⟩:=run_make_full (P:=P) w base t e i z size h1 h2 h3 h4 kl kc n b2 b3 b4;subst hL;subst hC;unfold Oper.wp;simp[execOp,aj,hl,hc,ak,Result.andThen];exact hK w' r1 r2
def Wm:TxD:=(0,[],[])
def Wv(h r:Int)(T:List TxD)(N:List Int):Nat->Nat->List Zj->List (List Zj)->Int×List Zj×List (List Zj)
 | 0,_,C,S=>(0,C,S)
 | q+1,k,C,S=>
  if (k+1) % T.length=0/\Xy r T S T.length<0 then (9,[],[])
  else if (apD C (T.getD ((k+1) % T.length) Wm) (N.getD ((k+1) % T.length) 0) h).1≠0 then ((apD C (T.getD ((k+1) % T.length) Wm) (N.getD ((k+1) % T.length) 0) h).1,[],[])
  else Wv h r T N q (k+1) (apD C (T.getD ((k+1) % T.length) Wm) (N.getD ((k+1) % T.length) 0) h).2.1 (S.set ((k+1) % T.length) (apD C (T.getD ((k+1) % T.length) Wm) (N.getD ((k+1) % T.length) 0) h).2.2)
def Xw(K:List ByteArray)(C:List Zj)(b:Zk):Int×List Zj×List (List Zj):=
 if (nfD K C b).2≠0 then ((nfD K C b).2,[],[]) else Wv b.2.1 (rwD b.2.1).1 b.2.2.2.2 (nfD K C b).1 b.2.2.2.2.length 0 C (aR b.2.2.2.2.length [])
theorem Ek{h r:Int}{T:List TxD}{N:List Int}{q k i:Nat}{C}{S:List (List Zj)}(hi:(k+1) % T.length=i){t}(ht:T.getD i Wm=t){nm:Int}(hn:N.getD i 0=nm){y:Int}{M s}(ha:apD C t nm h=(y,M,s)) :
  Wv h r T N (q+1) k C S=if i=0/\Xy r T S T.length<0 then (9,[],[]) else if y≠0 then (y,[],[]) else Wv h r T N q (k+1) M (S.set i s):=by
 rw[Wv,hi,ht,hn,ha]
theorem Ng(h:Int):∀ (I:List InD) (S L S' M:List Zj),Zr h I S L=(0,S',M)->S'.length=S.length+I.length/\∀ c∈S',c∈S\/c∈L
 | [],S,L,S',M,e=>by
  simp only[Zr,Prod.mk.injEq] at e;obtain⟨_,rfl,rfl⟩:=e;exact⟨by simp,λc hc=>.inl hc⟩
 | x :: I,S,L,S',M,e=>by
  rw[Zr] at e;split at e
  ·simp at e
  ·next c L' hT=>
   split at e
   ·simp at e
   ·split at e
    ·simp at e
    ·obtain⟨h1,h2⟩:=Ng h I (S++[c]) L' S' M e;refine⟨by rw[h1];simp;omega,λz hz=>?_⟩;obtain⟨q1,_,q2⟩:=Ta hT
     rcases h2 z hz with q|q
     ·rcases List.mem_append.1 q with q|q
      ·exact .inl q
      ·rw[List.mem_singleton.1 q];exact .inr q1
     ·rw[q2] at q;exact .inr (List.mem_filter.1 q).1
theorem Zek{L t}{name h:Int}{M S:List Zj}(e:apD L t name h=(0,M,S)):S.length<=6/\∀ c∈S,0<=cv c/\cv c<=1000000000:=by
 unfold apD at e;split at e
 ·next q=>simp at e;exact absurd e.1 q
 ·next q=>
  split at e
  ·next q=>simp at e;exact absurd e.1 q
  ·next q2=>
   split at e
   ·next q=>simp at e;exact absurd e.1 q
   ·split at e
    ·next q=>simp at e;exact absurd e.1 q
    ·split at e
     ·next q=>simp at e;exact absurd e.1 q
     ·have q:=Decidable.not_not.1 q;have q2:=Decidable.not_not.1 q2;obtain⟨hR,hT,_⟩:=Xx q;simp only[Prod.mk.injEq] at e;obtain⟨_,_,rfl⟩:=e;obtain⟨x,S',M',hs⟩:∃ x S' M',Zr h t.2.1 [] L=(x,S',M'):=⟨_,_,_,rfl⟩;rw[hs] at q2 ⊢;simp only at q2;subst q2;obtain⟨h1,h2⟩:=Ng h t.2.1 [] L S' M' hs;have h6:=(Un hT).1;refine⟨by simp at h1;simp only;omega,λc hc=>?_⟩
      rcases h2 c hc with q|q
      ·cases q
      ·have:=Yy (hR.one c q);omega
theorem Zib{w:World}{b:Nat}{X:List Value}{t:cF}(h:w.heap[b]? = some (dE X.toArray t (0,0)))(j:Nat)(u):(w.setCell ⟨b,j,none⟩ u).heap[b]? = some (dE (X.set j u).toArray t (0,0)):=by
 rw[setCell_eq_setRow w b j X.toArray t (0,0) u h];have:=setRow_heap w b _ (X.toArray.setIfInBounds j u) t _ h;simpa using this
def UsOk(ty:cF)(g m:Nat)(w:World):Prop:=∃ cs:List Value,w.heap[g]? = some (dE cs.toArray ty (0,0))/\cs.length=m/\∀ v∈cs,∃ a n c,v = F a n c
def UsAt(ty:cF)(g:Nat)(S:List (List Zj))(w:World):Prop:=∃ cs:List Value,w.heap[g]? = some (dE cs.toArray ty (0,0))/\cs.length=S.length/\∀ i (h:i<S.length),∃ a n c,cs[i]? = some (F a n c)/\CoinsAt w a n S[i]/\SlOk a n c
section
variable {ty : TypeId} {g m : Nat} {w w' : World} {S : List (List Zj)}
theorem UsAt.ok(h:UsAt ty g S w):UsOk ty g S.length w:=by
 obtain⟨cs,h1,h2,h3⟩:=h;refine⟨cs,h1,h2,λv hv=>?_⟩;obtain⟨i,hi,rfl⟩:=List.getElem_of_mem hv;obtain⟨a,n,c,h4,_⟩:=h3 i (by omega);rw[aZ hi] at h4;exact⟨a,n,c,Option.some.inj h4⟩
theorem UsOk.lt(h:UsOk ty g m w):g<w.heap.size:=by obtain⟨cs,h1,_⟩:=h;exact aA h1
theorem UsOk.later(h:UsOk ty g m w)(hb:ZD w w'):UsOk ty g m w':=by
 obtain⟨cs,h1,h2,h3⟩:=h;exact⟨cs,(hb.block g (aA h1)).trans h1,h2,h3⟩
theorem UsOk.cell(h:UsOk ty g m w){i:Nat}(hi:i<m):∃ z,w.cell? ⟨g,i,none⟩=some z:=by
 obtain⟨cs,h1,h2,_⟩:=h;exact⟨cs[i]'(by omega),Zb h1 i _ (aZ (by omega))⟩
theorem UsOk.free(h:UsOk ty g m w)(i:Nat):w.frozen? ⟨g,i,none⟩=false:=by
 obtain⟨cs,h1,_⟩:=h;exact Zg h1 i
theorem UsOk.put(h:UsOk ty g m w)(i:Nat)(a n c):UsOk ty g m (w.setCell ⟨g,i,none⟩ (F a n c)):=by
 obtain⟨cs,h1,h2,h3⟩:=h;refine⟨cs.set i (F a n c),Zib h1 i _,by simpa using h2,λv hv=>?_⟩
 rcases List.mem_or_eq_of_mem_set hv with q|rfl
 ·exact h3 v q
 ·exact⟨a,n,c,rfl⟩
theorem UsOk.other(h:UsOk ty g m w){b o:Nat}{k:IntKind}{x:Int}(hc:w.cell? ⟨b,o,none⟩=some (.int k x)):b≠g:=by
 rintro rfl;obtain⟨cs,h1,_,h3⟩:=h
 have:cs[o]? = some (.int k x):=by
  rw[cell_of_row w b o cs.toArray ty (0,0) h1] at hc;simpa using hc
 obtain⟨a,n,c,e⟩:=h3 _ (List.mem_of_getElem? this);cases e
theorem Zql{a n l}(h:OpsAt w a n l)(ho:UsOk ty g m w)(hg:Gr w w' (λq=>q=g)):OpsAt w' a n l:=by
 refine⟨h.1,λh0=>?_⟩;obtain⟨b,off,rfl,hc⟩:=h.2 h0;refine⟨b,off,rfl,λi hi=>?_⟩;obtain⟨c0,c1⟩:=hc i hi;have hb:=hg.block b (aE _ _ c0) (ho.other c0);exact⟨(cA (a:=⟨b,off+i*2,none⟩) hb).trans c0,(cA (a:=⟨b,off+i*2+1,none⟩) hb).trans c1⟩
theorem Qi{a n L}(h:CoinsAt w a n L)(ho:UsOk ty g m w)(hg:Gr w w' (λq=>q=g)):CoinsAt w' a n L:=by
 refine⟨h.1,λh0=>?_⟩;obtain⟨b,off,rfl,hl,hc⟩:=h.2 h0;refine⟨b,off,rfl,aD hl hg.size,λi hi=>?_⟩;obtain⟨c0,c1,c2,⟨la,ln,lc,c3,h5,h6⟩,c4,c5⟩:=hc i hi;have hb:=hg.block b hl (ho.other c0);have k:=λ(o:Nat)=>cA (a:=⟨b,o,none⟩) hb;exact⟨(k _).trans c0,(k _).trans c1,(k _).trans c2,⟨la,ln,lc,(k _).trans c3,Zql h5 ho hg,h6⟩,(k _).trans c4,(k _).trans c5⟩
theorem UsAt.later(h:UsAt ty g S w)(hb:ZD w w'):UsAt ty g S w':=by
 obtain⟨cs,h1,h2,h3⟩:=h;refine⟨cs,(hb.block g (aA h1)).trans h1,h2,λi hi=>?_⟩;obtain⟨a,n,c,q1,q2,q3⟩:=h3 i hi;exact⟨a,n,c,q1,q2.later hb,q3⟩
theorem UsAt.put(h:UsAt ty g S w)(i:Nat){a n c s}(hs:CoinsAt w a n s)(sl:SlOk a n c):UsAt ty g (S.set i s) (w.setCell ⟨g,i,none⟩ (F a n c)):=by
 have ho:=h.ok;have hg:=(Gr.refl w (λq=>q=g)).one g i (.inl rfl) (F a n c);obtain⟨cs,h1,h2,h3⟩:=h;refine⟨cs.set i (F a n c),Zib h1 i _,by simpa using h2,λj hj=>?_⟩;have af:j<S.length:=by simpa using hj
 by_cases e:i=j
 ·subst e;refine⟨a,n,c,by rw[List.getElem?_set_self (by omega)],?_,sl⟩;rw[List.getElem_set_self];exact Qi hs ho hg
 ·obtain⟨a',n',c',q1,q2,q3⟩:=h3 j af;refine⟨a',n',c',by rw[List.getElem?_set_ne e];exact q1,?_,q3⟩;rw[List.getElem_set_ne e];exact Qi q2 ho hg
theorem UsAt.undo(h:UsAt ty g S w)(i:Nat)(hi:i<S.length):UndoAt w g (0+i) S[i]:=by
 obtain⟨cs,h1,h2,h3⟩:=h;obtain⟨a,n,c,q1,q2,q3⟩:=h3 i hi;exact⟨a,n,c,by rw[Nat.zero_add];exact Zb h1 i _ q1,q2,q3⟩
theorem Zpu{base:Nat}(h:w.ownsRow base ty 1 (F (some ⟨g,0,none⟩) m m) m (aR m (F none 0 0))):UsAt ty g (aR m []) w:=by
 rcases h.2 with ⟨e,_⟩|⟨g',ad,aa,e,hg,hh,h1,h2,h3,h4⟩
 ·cases e
 ·cases e;refine⟨aa.toList,by simpa using hh,?_,λi hi=>?_⟩
  ·simp;omega
  ·have ac:i<m:=(by simpa using hi);refine⟨none,0,0,?_,?_,Zu⟩
   ·have h5:(aa.toList.take (m*1))[i]? = (aR m (Value.slice none 0 0))[i]?:=(by rw[h4]);rw[List.getElem?_take,if_pos (by omega)] at h5;rw[h5];simp[ac]
   ·rw[List.getElem_replicate];exact⟨rfl,λh=>absurd h (by omega)⟩
end
def UndosAt(w:World)(a:Option Addr)(n:Nat)(S:List (List Zj)):Prop:=S.length=n/\(0<n->∃ b off,a=some ⟨b,off,none⟩/\b<w.heap.size/\∀ i (h:i<S.length),UndoAt w b (off+i) S[i])
theorem UndosAt.later{w w':World}{a n S}(h:UndosAt w a n S)(hb:ZD w w'):UndosAt w' a n S:=by
 refine⟨h.1,λh0=>?_⟩;obtain⟨b,off,e,hl,hc⟩:=h.2 h0;exact⟨b,off,e,aD hl hb.size,λi hi=>(hc i hi).kept hb⟩
theorem UsAt.undos{ty:cF}{g}{S:List (List Zj)}{w}(h:UsAt ty g S w):UndosAt w (some ⟨g,0,none⟩) S.length S:=⟨rfl,λ_=>⟨g,0,rfl,h.ok.lt,λi hi=>h.undo i hi⟩⟩
def Zrp(w w':World)(x:Int)(C:List Zj)(S:List (List Zj))(e:Ending):Prop:=
 ∃ a n c ua un uc,e = dF (dG #[F a n c,F ua un uc,E J x])/\CoinsAt w' a n C/\SlOk a n c/\UndosAt w' ua un S/\SlOk ua un uc/\ZD w w'/\∀ ad,ua=some ad->w.heap.size<=ad.block
theorem Hc{w w':World}{x y:Int}{C S}(h:((y:Int),([]:List Zj),([]:List (List Zj)))=(x,C,S))(hb:ZD w w'):Zrp w w' x C S (dF (dG #[F none 0 0,F none 0 0,E J y])):=by
 injection h with h1 h2;injection h2 with h2 h3;subst h1 h2 h3;exact⟨none,0,0,none,0,0,rfl,⟨rfl,λh=>absurd h (by omega)⟩,Zu,⟨rfl,λh=>absurd h (by omega)⟩,Zu,hb,λad e=>by cases e⟩
def Zbt(s:ByteArray):Option Nat:=[2,3,4,5,6,7,8,9,10,11,12,13].find? (λk=>(Vp k).toList == s.toList)
def Fb(s:ByteArray):Option (Int×Int):=
 match Rt s with
 | some n=>some (1,n)
 | none=>(Zbt s).map λk=>((k:Int),0)
def flat:List (Int×Int)->List Value
 | []=>[]
 | o :: r=>E J o.1 :: E J o.2 :: flat r
theorem Xo:∀ l:List (Int×Int),(flat l).length=l.length*2
 | []=>rfl
 | _ :: r=>by simp only[flat,List.length_cons,Xo r];omega
theorem Rg:∀ (l:List (Int×Int)) (i:Nat),i<l.length->(flat l)[i*2]? = some (E J (l.getD i (0,0)).1)/\(flat l)[i*2+1]? = some (E J (l.getD i (0,0)).2)
 | [],i,h=>absurd h (by simp)
 | o :: r,0,_=>⟨rfl,rfl⟩
 | o :: r,i+1,h=>by
  have:=Rg r i (by simpa using h);have e:(i+1)*2=i*2+2:=by omega
  rw[e];exact this
theorem flat_one:∀ (l:List (Int×Int)) (u:Value),u∈flat l->u.oneCell'=true
 | [],_,h=>by cases h
 | o :: r,u,h=>by
  simp only[flat,List.mem_cons] at h
  rcases h with rfl|rfl|h
  ·rfl
  ·rfl
  ·exact flat_one r u h
theorem OpsAt.flat{w:World}{x:Addr}{len:Nat}{l}(h:OpsAt w (some x) len l)(j:Nat)(u)(hj:(flat l)[j]? = some u):w.cell? (x.add j)=some u:=by
 have ad:j<(YtmomfkikogbdeaaGreatDoor.flat l).length:=by
  rcases Nat.lt_or_ge j (YtmomfkikogbdeaaGreatDoor.flat l).length with h|h
  ·exact h
  ·rw[List.getElem?_eq_none h] at hj;cases hj
 rw[Xo] at ad;have hz:=h.1;obtain⟨b,off,hx,hc⟩:=h.2 (by omega);cases hx;have ac:(⟨b,off,none⟩:Addr).add j=⟨b,off+j,none⟩:=by unfold Addr.add;split <;> simp_all
 rw[ac];obtain⟨i,hi|hi⟩:∃ i,j=i*2\/j=i*2+1:=⟨j / 2,by omega⟩
 ·subst hi;have f:=(Rg l i (by omega)).1;rw[f] at hj;rw[(hc i (by omega)).1];exact hj
 ·subst hi;have f:=(Rg l i (by omega)).2;rw[f] at hj;rw[<-Nat.add_assoc,(hc i (by omega)).2];exact hj
theorem Zjo{w:World}{base:Nat}{e:cF}{size:Nat}{v:Value}{n:Nat}{xs}(h:w.ownsRow base e size v n xs)(k:Nat)(hk:v.ownBlock=some k):base<=k:=by
 rcases h.2 with ⟨rfl,_⟩|⟨g,cap,ac,rfl,hg,_⟩
 ·cases hk
 ·cases hk;exact hg
