import Derived.Test.YtmomfkikogbdeaaGreatDoorH
import Derived.Test.YtmomfkikogbdeaaGreatDoorG18
open Go renaming TypeId->cR,lt_of_block->aA,bodyPost_ret->aW
open Go.Ending renaming returned->dA
open Go.Exit renaming inBlock->aR
open Go.IntKind renaming i64->J
open Go.Obj renaming cells->cZ
open Go.Value renaming int->E,slice->F,tuple->dB
open Go.World renaming block_lt_of_cell?->aE,frozen?_of_block->aO,cell?_of_block->bU
open List renaming mem_map->cP,replicate->bB,getElem?_eq_getElem->cF
open Nat renaming lt_of_lt_of_le->aD
namespace Go.Proofs.YtmomfkikogbdeaaGreatDoor
open Go.RowKit
theorem Wx{fn:Func}{p u v:Tmp}{ty:cR}(h:fn.results=#[.tmp u,.cell p ty,.tmp v])(tmps:Array Value)(P:Program)(w) :
  (results fn tmps).run P w =
   ((asAddr (tmps.getD p undef)).run P w).andThen λa z=>((loadVar ty a).run P z).andThen λx Q=>.ok (dB #[tmps.getD u undef,x,tmps.getD v undef]) Q:=by
 simp only[results,h];simp[Sem.run_bind,Result.andThen]
def ApR(w w':World)(x:Int)(M S:List Zj)(e:Ending):Prop:=
 ∃ z nm cm sa Q cs,e = dA (dB #[F z nm cm,.agg #[F sa Q cs],E J x])/\CoinsAt w' z nm M/\SlOk z nm cm/\CoinsAt w' sa Q S/\SlOk sa Q cs/\ZD w w'
def ApF(w w':World)(x:Int)(M S:List Zj)(e:Ending):Prop:=
 ∃ z nm cm sa Q cs,e = dA (dB #[F z nm cm,.agg #[F sa Q cs],E J x])/\Fresh w.heap.size w' (λw2=>CoinsAt w2 z nm M)/\SlOk z nm cm/\CoinsAt w' sa Q S/\SlOk sa Q cs/\ZD w w'
theorem ApF.plain{w w'}{x:Int}{M S e}(h:ApF w w' x M S e):ApR w w' x M S e:=by
 obtain⟨z,nm,Q,sa,ns,cs,h1,h2,h3⟩:=h;exact⟨z,nm,Q,sa,ns,cs,h1,h2 _ (Gr.refl _ _),h3⟩
theorem Zq:SlOk none 0 0:=⟨Nat.le_refl _,Nat.zero_le _,λ_=>⟨rfl,rfl⟩⟩
theorem Mn{w w':World}{x y:Int}{M S}{b:Nat}{v}(h:(x,M,S)=((y:Int),([]:List Zj),([]:List Zj))/\w.heap.size<=b)(z:ZD w w'):ApF w (w'.setCell ⟨b,0,none⟩ v) x M S (dA (dB #[F none 0 0,.agg #[F none 0 0],E J y])):=by
 obtain⟨h1,h2⟩:=h;injection h1 with h1 h3;injection h3 with h3 h4;subst h1 h3 h4;exact⟨none,0,0,none,0,0,rfl,λ_ _=>RowsAt.nil _ _,Zq,RowsAt.nil _ _,Zq,z.setCell (p:=⟨b,0,none⟩) h2 _⟩
set_option maxRecDepth 10000 in
set_option maxHeartbeats 12800000 in
theorem Hd(a n c L)(h:Int)(ai ao ni ci no co I O)(name ht:Int)(x:Int)(M S w)(hL:CoinsAt w a n L)(sL:SlOk a n c)(hI:InsAt w ai ni I)(hO:OutsAt w ao no O)(sI:SlOk ai ni ci)(hx:apD L (h,I,O) name ht=(x,M,S)) :
  Calls Tryz.prog 76 #[F a n c,.agg #[E J h,F ai ni ci,F ao no co],E J name,E J ht] w λe w'=>ApF w w' x M S e:=by
 obtain⟨X0,an⟩:=ZG ((w.alloc (cZ #[E J h,F ai ni ci,F ao no co] 59)).alloc (cZ #[F none 0 0] 153));have ah:ZD w X0:=by rw[an];exact Zf (Zh _ _) (Zh _ _)
 have ak:X0.heap[w.heap.size]? = some (cZ [E J h,F ai ni ci,F ao no co].toArray 59 (0,0)):=by
  rw[an,Below.heap_alloc _ _ _ (by simp)];exact Zx _ _ _ _ _
 have bk:X0.heap[w.heap.size+1]? = some (cZ [F none 0 0].toArray 153 (0,0)):=by
  rw[an];have:=heap_alloc_new (w.alloc (cZ #[E J h,F ai ni ci,F ao no co] 59)) (cZ #[F none 0 0] 153);rw[show (w.alloc (cZ #[E J h,F ai ni ci,F ao no co] 59)).heap.size=w.heap.size+1 by simp] at this;exact this
 obtain⟨x1,h1⟩:=ZF (Wo L (h,I,O) name ht);obtain⟨⟨x2,S2,M2⟩,h2⟩:=ZF (Zr ht I [] L);obtain⟨x3,h3⟩:=ZF (Mw S2 (h,I,O));obtain⟨⟨x4,M4⟩,h4⟩:=ZF (Z8 name ht (isR (h,I,O)) 0 O M2);obtain⟨x5,h5⟩:=ZF (Z4 M4);rw[Zmo h1 h2 h3 h4 h5] at hx;have hR:isR (h,I,O)=decide (ni=0):=by unfold isR;rw[<-hI.1]
 obtain⟨C1,ir,fg,er⟩:=kh4 (Na a n c L h ai ao ni ci no co I O name ht x1 X0 (hL.later ah) (hI.later ah) (hO.later ah) sI h1) ak bk ah;by_cases e1:x1=0
 ·subst e1;rw[if_neg (by decide)] at hx;obtain⟨di,dj,jb,ja,_⟩:=Wk h1;obtain⟨t1,t2,t3,_⟩:=U7 dj;have ga:ni<=6:=by rw[<-hI.1];exact t1
  have gb:no<=6:=by rw[<-hO.1];exact t2
  have hn:n<=720:=by rw[<-hL.1];exact di.len
  have gc:=Zdx dj;have fj:=Zd (λw' (hb:ZD X0 w')=>Zit a n c L w' (by omega) ((hL.later ah).later hb) sL);have HI:=Zd (λw' (hb:ZD X0 w')=>(hI.later ah).later hb);have HO:=Zd (λw' (hb:ZD X0 w')=>(hO.later ah).later hb);obtain⟨fc,ik,H2,H3,H4,H5,HR,HX⟩:=kh8 di gc h2 h3 h4 h5 hR hx;have it:=Zd hL.1;have jo:w.heap.size+1<X0.heap.size:=aA bk;obtain⟨x0,x1,-⟩:=kc2 ak;have ej:=Zb ak 2 _ rfl;clear hL sL hI hO sI h1 ak bk ah di dj jb ja t1 t2 t3 gc h2 h3 h4 h5 hR hx;go_enter Tryz.func76,Tryz.ntmps76;go_wp2_with fail;rw[<-an];clear an;refine C1.mono ?_;rintro e w2 ⟨rfl,ac⟩;obtain⟨fi,ij,ey⟩:=kh3 (fj w2 ac) (HI w2 ac) (HO w2 ac);have fx:=ZE ac ir;have bs:=ZE ac fg;obtain⟨bv,bz,bh⟩:=kh3 fx bs (Zf er ac);clear ac fx bs x0 x1 ej fj HI HO C1;go_wp2_with fail;refine fi.mono ?_;rintro e w3 ⟨p,v,K,rfl,hK,dg⟩;have cj:K.length=n:=by rw[<-Za it,<-hK,List.length_map]
  have gj:Srt (K.map (·.1)):=by rw[hK];exact fc.srt
  have ds:∀ z∈K,ck1 z.1=0:=λz Q=>fc.one z.1 (by rw[<-hK];exact List.mem_map_of_mem Q);have SP:=Zd (Zje w2 w3 p v K ai ni ci I ht x2 S2 M2 dg gj (by omega) ds ij ga (by rw[hK];exact Za H2));have fy:=ZE dg.bel bv;obtain⟨-,c1,je⟩:=kc2 fy;obtain⟨ez,ev⟩:=kh2 ds cj;have ki:w.heap.size+1<w2.heap.size:=aA bz;clear hK dg cj gj ds fy fi;go_wp2_with fail;refine SP.mono ?_;rintro e w4 ⟨sa,ns,cs,rfl,ap,dv⟩;have dq:=ZE ap bv;have dw:=ZE ap bz;obtain⟨d0,d1,d2,-⟩:=kc3 dq;obtain⟨u4,f4,-⟩:=kf1 dw;have jf:=aA dq;have jg:=aA dw;have ie:=Zd ap;clear dq dw c1 je SP;by_cases e2:x2=0
  ·subst e2;obtain⟨v4,K4,T4,q1,q2,q3,q4,q5,q6,q7,q8,q9,ec,gm,s4,gn,go,gp⟩:=dv rfl;have hx:=Za HX;rw[if_neg (by decide)] at hx;have cz:=Zd hx;have fu:∀ z∈T4,LkAt w4 z:=λz Q=>(q8 z Q).later ap;have dt:w4.ownsRow w2.heap.size 124 6 (F sa ns cs) T4.length (Zm T4):=(by have h:=q7;rw[q5] at h ⊢;exact h);obtain⟨eh,df,e,dm,jn⟩:=Va dt fu;have e2:sa=eh/\ns=T4.length/\cs=df:=(by injection e with e1 e2 e3;exact⟨e1,e2,e3⟩);obtain⟨rfl,-,rfl⟩:=e2;rw[q1,<-q5] at dm;have jm:ns<=6:=by rw[q5,q6];exact ga
   have ft:∀ z∈S2,0<=cv z/\cv z<=1000000000:=λz Q=>by
    rw[<-q1] at Q;obtain⟨y,hy,rfl⟩:=cP.1 Q;have:=Yu (ez y (ec y hy));omega
   obtain⟨el,fa,fd,iq⟩:=kh4 (Zhv sa ns cs S2 h ai ao ni ci no co O x3 w4 jm gb dm (ey.later ap) ft ik (by have:=Za H3;unfold Mw at this;rw[Za HR] at this;exact this)) gm dt q8;have HQ:Hid (T4.map (·.1)=S2/\K4.map (·.1)=M2/\Srt M2/\K4.length<=K.length/\ns=T4.length/\(Value.slice sa ns cs).ownBlock=some s4/\v4.ownBlock≠some s4/\s4≠p):=⟨q1,q2,q3,q4,q5,gn,go,gp⟩;have ip:=Zd ec;clear dv q1 q2 q3 q4 q5 q6 q7 q8 q9 ec gm gn go gp hx fu dt dm jn ft HX e ap;go_wp2_with fail;refine el.mono ?_;rintro e w5 ⟨rfl,dl⟩;have cl:=fa.kept dl;have dr:=ZE cl.bel bv;have dx:=ZE cl.bel bz;obtain⟨g0,g1,g2,-⟩:=kc3 dr;obtain⟨u5,f5,-⟩:=kf1 dx;have jh:=aA dr;have ji:=aA dx;obtain⟨cx,fe⟩:=kh2 cl ((Gr.of (S:=λ_=>False) dl).own fd (λ_ _ q=>q));clear dl cl dr dx d0 d1 d2 u4 f4 jf jg el fd fa;by_cases e3:x3=0
   ·subst e3;have hx:=Za cz;rw[if_neg (by decide)] at hx;have da:=Zd hx;have hq:=Za HQ;have cj:=Za ev;have GV:=Zd (Zow w2 w5 p v4 K4 h ai ao ni ci no co O name ht (decide (ni=0)) x4 M4 cx (by rw[hq.2.1];exact hq.2.2.1) (by omega) ey gb rfl (by rw[hq.2.1,<-Za HR];exact Za H4));clear hx cz hq cj;go_wp2_with fail;refine GV.mono ?_;rintro e w6 ⟨rfl,cm,dp⟩;have jd:=ZE cm bv;have dy:=ZE cm bz;obtain⟨u6,f6,-⟩:=kf1 dy;have jj:=aA dy;have cu:=Zd cm;clear jd dy g0 g1 g2 u5 f5 jh ji GV;by_cases e4:x4=0
    ·subst e4;obtain⟨v6,K6,r1,r2,r3,r4,r5⟩:=dp rfl;have hx:=Za da;rw[if_neg (by decide)] at hx;have db:=Zd hx;obtain⟨a6,c6,rfl,cp,gg⟩:=r4.coins;have fq:K6.length<=726:=(by have:=HQ.2.2.2.1;have:=Za ev;omega);obtain⟨n6,br⟩:=ZF (K6.length);rw[r1,br] at cp;have cn:=r4.box;rw[br] at cn;have p6:=Zb (X:=[F a6 n6 c6]) cn 0 _ rfl;have ke:=aA cn;have CK:=Zd (Vi a6 n6 c6 M4 x5 w6 cp H5);have hq:=Za HQ
     have fz:¬PuS p v4 s4:=by
      rintro (e|e)
      ·exact hq.2.2.2.2.2.2.2 e
      ·exact hq.2.2.2.2.2.2.1 e
     have gd:=r5.own fe (λk hk=>by
      rw[show (Value.slice sa ns cs).ownBlock=some s4 from hq.2.2.2.2.2.1] at hk;cases hk;exact fz)
     obtain⟨ff,et⟩:=kh2 gd cp;have im:Hid (SlOk a6 n6 c6):=(by rw[<-br];exact gg);have jz:n6<=726:=(by rw[<-br];exact fq);clear dp hx da r1 r2 r3 r4 r5 cp gg fq br cn hq fz gd cm fe cx;go_wp2_with fail;refine CK.mono ?_;rintro e w7 ⟨rfl,aq⟩;have p7:=Ze aq p6;have kf:=aE _ _ p7;have dz:=Ze aq u6;have jk:=aE _ _ dz;have f7:w7.frozen? ⟨w.heap.size+1,0,none⟩=false:=(aO (w:=w6) (a:=⟨w.heap.size+1,0,none⟩) (aq.block _ jj)).trans f6;have cw:Hid (ZD w2 w7):=cu.trans (aq.mono cu.size);obtain⟨ig,il⟩:=kh2 (et.later aq) ((Gr.of (S:=λ_=>False) aq).own ff (λ_ _ q=>q));clear aq p6 u6 f6 CK ff et;by_cases e5:x5=0
     ·subst e5;have hx:=Za db;rw[if_neg (by decide)] at hx;have jp:x=0:=(by injection hx with hx _;exact hx.symm);have jq:M=M4:=(by injection hx with _ hx;injection hx with hx _;exact hx.symm);have jr:S=S2:=(by injection hx with _ hx;injection hx with _ hx;exact hx.symm);subst jp jq jr;have fs:=(Z6 M).1 H5;have en:=Zd (Jl a6 n6 c6 M w7 (by omega) ig im (λz Q=>by have:=Pc (Yu (fs.one z Q)).2.2.2.2.2.2.2.2;omega));clear hx db fs;go_wp2_with fail;refine en.mono ?_;rintro e w8 ⟨a8,c8,rfl,fv,gh,bb⟩;have gf:=(Gr.of (S:=λ_=>False) bb).own il (λ_ _ q=>q);have dk:ZD w2 w8:=cw.trans (bb.mono cw.size);have hq:=Za HQ;obtain⟨eh,df,e,dn,du⟩:=Va gf (λz Q=>(iq z Q).later dk);have e2:sa=eh/\cs=df:=(by injection e with e1 e2 e3;exact⟨e1,e3⟩);obtain⟨rfl,rfl⟩:=e2;rw[hq.1,<-hq.2.2.2.2.1] at dn;rw[<-hq.2.2.2.2.1] at du
      have eo:=Zd (Jl sa ns cs S w8 (by omega) dn du (λz Q=>by
       rw[<-hq.1] at Q;obtain⟨y,hy,rfl⟩:=cP.1 Q;have:=Pc (Yu (ez y (ip y hy))).2.2.2.2.2.2.2.2;omega))
      have u8:=Ze bb dz;have jl:=aE _ _ u8;have f8:w8.frozen? ⟨w.heap.size+1,0,none⟩=false:=(aO (w:=w7) (a:=⟨w.heap.size+1,0,none⟩) (bb.block _ jk)).trans f7;obtain⟨ii,io,es⟩:=kh3 fv gh dk;have kb:w7.heap.size<=w8.heap.size:=bb.size;clear fv gh bb gf dk hq dn du e en p7 dz f7;go_wp2_with fail;refine eo.mono ?_;rintro e w9 ⟨a9,c9,rfl,fw,gi,bq⟩;have u9:=Ze bq u8;have kd:=aE _ _ u9;have f9:w9.frozen? ⟨w.heap.size+1,0,none⟩=false:=(aO (w:=w8) (a:=⟨w.heap.size+1,0,none⟩) (bq.block _ jl)).trans f8
      have ih:Hid (ApF w (w9.setCell ⟨w.heap.size+1,0,none⟩ (F a9 ns c9)) 0 M S (dA (dB #[F a8 n6 c8,.agg #[F a9 ns c9],E J 0]))):=by
       refine⟨a8,n6,c8,a9,ns,c9,rfl,?_,Za io,?_,gi,?_⟩
       ·exact λw2 g2=>ii w2 (((Gr.of bq).one (w.heap.size+1) 0 (.inl (by show w.heap.size+1<w7.heap.size;omega)) _).trans (g2.mono (λ_ _ hk=>aD hk (by omega))))
       ·exact fw _ ((Gr.refl w9 (λk=>k<w8.heap.size)).one (w.heap.size+1) 0 (.inl (by show w.heap.size+1<w8.heap.size;omega)) _)
       ·have jc:ZD w2 w9:=es.trans (bq.mono es.size);exact (Zf bh jc).setCell (p:=⟨w.heap.size+1,0,none⟩) (Nat.le_succ _) _
      clear fw gi bq u8 f8 eo;go_wp2;(try simp only[aR,Exit.then]);refine aW (v:=dB #[F a8 n6 c8,.agg #[F a9 ns c9],E J 0]) ?_ rfl ih;rw[Wx rfl];go_simp
     ·have g:(x5 != 0)=true:=(by simp[e5]);have HE:Hid ((x,M,S)=((x5:Int),([]:List Zj),([]:List Zj))/\w.heap.size<=w.heap.size+1):=⟨by have:=Za db;rw[if_pos e5] at this;exact this.symm,Nat.le_succ _⟩;have ad:=Zd (Zf bh cw);clear e5 p7;go_wp2;(try simp only[aR,Exit.then]);refine aW (v:=dB #[F none 0 0,.agg #[F none 0 0],E J x5]) ?_ rfl ?_
      ·rw[Wx rfl];go_simp
      ·exact Mn HE ad
    ·have g:(x4 == 0)=false:=(by simp[e4]);have g':(x4 != 0)=true:=(by simp[e4]);have HE:Hid ((x,M,S)=((x4:Int),([]:List Zj),([]:List Zj))/\w.heap.size<=w.heap.size+1):=⟨by have:=Za da;rw[if_pos e4] at this;exact this.symm,Nat.le_succ _⟩;have ad:=Zd (Zf bh cu);clear e4 dp;go_wp2;(try simp only[aR,Exit.then]);refine aW (v:=dB #[F none 0 0,.agg #[F none 0 0],E J x4]) ?_ rfl ?_
     ·rw[Wx rfl];go_simp
     ·exact Mn HE ad
   ·have g:(x3 == 0)=false:=(by simp[e3]);have g':(x3 != 0)=true:=(by simp[e3]);have HE:Hid ((x,M,S)=((x3:Int),([]:List Zj),([]:List Zj))/\w.heap.size<=w.heap.size+1):=⟨by have:=Za cz;rw[if_pos e3] at this;exact this.symm,Nat.le_succ _⟩;have ad:=Zd (Zf bh cx.bel);clear e3;go_wp2;(try simp only[aR,Exit.then]);refine aW (v:=dB #[F none 0 0,.agg #[F none 0 0],E J x3]) ?_ rfl ?_
    ·rw[Wx rfl];go_simp
    ·exact Mn HE ad
  ·have g:(x2 == 0)=false:=(by simp[e2]);have g':(x2 != 0)=true:=(by simp[e2]);have HE:Hid ((x,M,S)=((x2:Int),([]:List Zj),([]:List Zj))/\w.heap.size<=w.heap.size+1):=⟨by have:=Za HX;rw[if_pos e2] at this;exact this.symm,Nat.le_succ _⟩;have ad:=Zd (Zf bh ie);clear e2 dv ap;go_wp2;(try simp only[aR,Exit.then]);refine aW (v:=dB #[F none 0 0,.agg #[F none 0 0],E J x2]) ?_ rfl ?_
   ·rw[Wx rfl];go_simp
   ·exact Mn HE ad
 ·have g:(x1 != 0)=true:=by simp[e1]
  have HE:Hid ((x,M,S)=((x1:Int),([]:List Zj),([]:List Zj))/\w.heap.size<=w.heap.size+1):=⟨by rw[if_pos e1] at hx;exact hx.symm,Nat.le_succ _⟩;have x0:=Zb ak 0 _ rfl;have jw:=Zb ak 1 _ rfl;have ej:=Zb ak 2 _ rfl;have jo:w.heap.size+1<X0.heap.size:=aA bk;clear hL sL hI hO sI h1 ak bk ah h2 h3 h4 h5 hR hx e1;go_enter Tryz.func76,Tryz.ntmps76;go_wp2_with fail;rw[<-an];clear an;refine C1.mono ?_;rintro e w2 ⟨rfl,ac⟩;have bs:=ZE ac fg;obtain⟨u2,f2,-⟩:=kf1 bs;have ad:=Zd (Zf er ac);clear ac bs x0 jw ej;go_wp2;(try simp only[aR,Exit.then]);refine aW (v:=dB #[F none 0 0,.agg #[F none 0 0],E J x1]) ?_ rfl ?_
  ·rw[Wx rfl];go_simp
  ·exact Mn HE ad
theorem Ez(a n c L)(h:Int)(ai ao ni ci no co I O)(name z:Int)(x:Int)(M S w)(hL:CoinsAt w a n L)(sL:SlOk a n c)(Q:InsAt w ai ni I)(hO:OutsAt w ao no O)(sI:SlOk ai ni ci)(hx:apD L (h,I,O) name z=(x,M,S)) :
  Calls Tryz.prog 76 #[F a n c,.agg #[E J h,F ai ni ci,F ao no co],E J name,E J z] w λe w'=>ApR w w' x M S e:=
 (Hd a n c L h ai ao ni ci no co I O name z x M S w hL sL Q hO sI hx).mono λ_ _ q=>q.plain
theorem Zfg{P:Program}{w:World}{an}{o:Oper}{a:Act}{K:Act->World->Prop}{ar:Exit->Act->World->Prop}{Q:Prop}
  (hg:o.guard=none) (l c:Operand) (t:cR) (al:o.op=Op.makeSlice t l c)
  (base:Nat) (e:cR) (i:TypeInfo) (z:Value) (size:Nat) (h1:P.underlying t=some (.slice e)) (h2:P.info? e=some i) (h3:i.zero=some z) (h4:i.size=size)
  (kl kc:IntKind) (L C:Int) (n:Nat) (hl:a.eval l = .int kl L) (hc:a.eval c = .int kc C) (hL:L=(n:Int)) (hC:C=(n:Int)) (b2:i.bytes*n<=281474976710656) (b3:n<=maxLen) (b4:base<=w.heap.size) (H:Nat) (hH:w.heap.size=H)
  (hK:∀ w',w'.ownsRow base e size (F (some ⟨H,0,none⟩) n n) n (madeCells z.cells (n*size)).toList->w.grownBy w' none->K (a.put o.dst (F (some ⟨H,0,none⟩) n n)) w') :
  if Region.wanted o (yielded an a.tmps)=true then Oper.wp P o a w K ar else Q:=by
 rw[if_pos (by simp[Region.wanted,hg])];subst hH;obtain⟨w',am,r1,r2⟩:=run_make_full (P:=P) w base t e i z size h1 h2 h3 h4 kl kc n b2 b3 b4;subst hL;subst hC;unfold Oper.wp;simp[execOp,al,hl,hc,am,Result.andThen];exact hK w' r1 r2
def Yz:TxD:=(0,[],[])
def Xo(h r:Int)(T:List TxD)(N:List Int):Nat->Nat->List Zj->List (List Zj)->Int×List Zj×List (List Zj)
 | 0,_,C,S=>(0,C,S)
 | q+1,k,C,S=>
  if (k+1) % T.length=0/\Wl r T S T.length<0 then (9,[],[])
  else if (apD C (T.getD ((k+1) % T.length) Yz) (N.getD ((k+1) % T.length) 0) h).1≠0 then ((apD C (T.getD ((k+1) % T.length) Yz) (N.getD ((k+1) % T.length) 0) h).1,[],[])
  else Xo h r T N q (k+1) (apD C (T.getD ((k+1) % T.length) Yz) (N.getD ((k+1) % T.length) 0) h).2.1 (S.set ((k+1) % T.length) (apD C (T.getD ((k+1) % T.length) Yz) (N.getD ((k+1) % T.length) 0) h).2.2)
def Vd(K:List ByteArray)(C:List Zj)(b:Zl):Int×List Zj×List (List Zj):=
 if (nfD K C b).2≠0 then ((nfD K C b).2,[],[]) else Xo b.2.1 (rwD b.2.1).1 b.2.2.2.2 (nfD K C b).1 b.2.2.2.2.length 0 C (bB b.2.2.2.2.length [])
theorem Eg{h r:Int}{T:List TxD}{N:List Int}{q k i:Nat}{C}{S:List (List Zj)}(hi:(k+1) % T.length=i){t}(ht:T.getD i Yz=t){nm:Int}(Q:N.getD i 0=nm){y:Int}{M s}(z:apD C t nm h=(y,M,s)) :
  Xo h r T N (q+1) k C S=if i=0/\Wl r T S T.length<0 then (9,[],[]) else if y≠0 then (y,[],[]) else Xo h r T N q (k+1) M (S.set i s):=by
 rw[Xo,hi,ht,Q,z]
theorem Nk(h:Int):∀ (I:List InD) (S L z M:List Zj),Zr h I S L=(0,z,M)->z.length=S.length+I.length/\∀ c∈z,c∈S\/c∈L
 | [],S,L,z,M,e=>by
  simp only[Zr,Prod.mk.injEq] at e;obtain⟨_,rfl,rfl⟩:=e;exact⟨by simp,λc Q=>.inl Q⟩
 | x :: I,S,L,z,M,e=>by
  rw[Zr] at e;split at e
  ·simp at e
  ·next c L' hT=>
   split at e
   ·simp at e
   ·split at e
    ·simp at e
    ·obtain⟨h1,h2⟩:=Nk h I (S++[c]) L' z M e;refine⟨by rw[h1];simp;omega,λae hz=>?_⟩;obtain⟨q1,_,q2⟩:=Vk hT
     rcases h2 ae hz with q|q
     ·rcases List.mem_append.1 q with q|q
      ·exact .inl q
      ·rw[List.mem_singleton.1 q];exact .inr q1
     ·rw[q2] at q;exact .inr (List.mem_filter.1 q).1
theorem Zem{L t}{name h:Int}{M S:List Zj}(e:apD L t name h=(0,M,S)):S.length<=6/\∀ c∈S,0<=cv c/\cv c<=1000000000:=by
 unfold apD at e;split at e
 ·next q=>simp at e;exact absurd e.1 q
 ·next q=>
  split at e
  ·next q=>simp at e;exact absurd e.1 q
  ·next z=>
   split at e
   ·next q=>simp at e;exact absurd e.1 q
   ·split at e
    ·next q=>simp at e;exact absurd e.1 q
    ·split at e
     ·next q=>simp at e;exact absurd e.1 q
     ·have q:=Decidable.not_not.1 q;have z:=Decidable.not_not.1 z;obtain⟨hR,hT,_⟩:=Wk q;simp only[Prod.mk.injEq] at e;obtain⟨_,_,rfl⟩:=e;obtain⟨x,S',Q,hs⟩:∃ x S' Q,Zr h t.2.1 [] L=(x,S',Q):=⟨_,_,_,rfl⟩;rw[hs] at z ⊢;simp only at z;subst z;obtain⟨h1,h2⟩:=Nk h t.2.1 [] L S' Q hs;have h6:=(U7 hT).1;refine⟨by simp at h1;simp only;omega,λc hc=>?_⟩
      rcases h2 c hc with q|q
      ·cases q
      ·have:=Yu (hR.one c q);omega
theorem Zis{w:World}{b:Nat}{X:List Value}{t:cR}(h:w.heap[b]? = some (cZ X.toArray t (0,0)))(j:Nat)(u):(w.setCell ⟨b,j,none⟩ u).heap[b]? = some (cZ (X.set j u).toArray t (0,0)):=by
 rw[setCell_eq_setRow w b j X.toArray t (0,0) u h];have:=setRow_heap w b _ (X.toArray.setIfInBounds j u) t _ h;simpa using this
def UsOk(ty:cR)(g m:Nat)(w:World):Prop:=∃ cs:List Value,w.heap[g]? = some (cZ cs.toArray ty (0,0))/\cs.length=m/\∀ v∈cs,∃ a n c,v = F a n c
def UsAt(ty:cR)(g:Nat)(S:List (List Zj))(w:World):Prop:=∃ cs:List Value,w.heap[g]? = some (cZ cs.toArray ty (0,0))/\cs.length=S.length/\∀ i (h:i<S.length),∃ a n c,cs[i]? = some (F a n c)/\CoinsAt w a n S[i]/\SlOk a n c
section
variable {ty : TypeId} {g m : Nat} {w w' : World} {S : List (List Zj)}
theorem UsAt.ok(h:UsAt ty g S w):UsOk ty g S.length w:=by
 obtain⟨cs,h1,h2,h3⟩:=h;refine⟨cs,h1,h2,λv z=>?_⟩;obtain⟨i,hi,rfl⟩:=List.getElem_of_mem z;obtain⟨a,n,c,h4,_⟩:=h3 i (by omega);rw[cF hi] at h4;exact⟨a,n,c,Option.some.inj h4⟩
theorem UsOk.lt(h:UsOk ty g m w):g<w.heap.size:=by obtain⟨cs,h1,_⟩:=h;exact aA h1
theorem UsOk.later(h:UsOk ty g m w)(z:ZD w w'):UsOk ty g m w':=by
 obtain⟨cs,h1,h2,h3⟩:=h;exact⟨cs,(z.block g (aA h1)).trans h1,h2,h3⟩
theorem UsOk.cell(h:UsOk ty g m w){i:Nat}(hi:i<m):∃ z,w.cell? ⟨g,i,none⟩=some z:=by
 obtain⟨cs,h1,h2,_⟩:=h;exact⟨cs[i]'(by omega),Zb h1 i _ (cF (by omega))⟩
theorem UsOk.free(h:UsOk ty g m w)(i:Nat):w.frozen? ⟨g,i,none⟩=false:=by
 obtain⟨cs,h1,_⟩:=h;exact Zg h1 i
theorem UsOk.put(h:UsOk ty g m w)(i:Nat)(a n c):UsOk ty g m (w.setCell ⟨g,i,none⟩ (F a n c)):=by
 obtain⟨cs,h1,h2,h3⟩:=h;refine⟨cs.set i (F a n c),Zis h1 i _,by simpa using h2,λv z=>?_⟩
 rcases List.mem_or_eq_of_mem_set z with q|rfl
 ·exact h3 v q
 ·exact⟨a,n,c,rfl⟩
theorem UsOk.other(h:UsOk ty g m w){b o:Nat}{k:IntKind}{x:Int}(z:w.cell? ⟨b,o,none⟩=some (.int k x)):b≠g:=by
 rintro rfl;obtain⟨cs,h1,_,h3⟩:=h
 have:cs[o]? = some (.int k x):=by
  rw[cell_of_row w b o cs.toArray ty (0,0) h1] at z;simpa using z
 obtain⟨a,n,c,e⟩:=h3 _ (List.mem_of_getElem? this);cases e
theorem Zqx{a n l}(h:OpsAt w a n l)(ho:UsOk ty g m w)(hg:Gr w w' (λq=>q=g)):OpsAt w' a n l:=by
 refine⟨h.1,λh0=>?_⟩;obtain⟨b,off,rfl,Q⟩:=h.2 h0;refine⟨b,off,rfl,λi hi=>?_⟩;obtain⟨c0,c1⟩:=Q i hi;have z:=hg.block b (aE _ _ c0) (ho.other c0);exact⟨(bU (a:=⟨b,off+i*2,none⟩) z).trans c0,(bU (a:=⟨b,off+i*2+1,none⟩) z).trans c1⟩
theorem Qt{a n L}(h:CoinsAt w a n L)(ho:UsOk ty g m w)(z:Gr w w' (λq=>q=g)):CoinsAt w' a n L:=by
 refine⟨h.1,λh0=>?_⟩;obtain⟨b,off,rfl,Q,hc⟩:=h.2 h0;refine⟨b,off,rfl,aD Q z.size,λi hi=>?_⟩;obtain⟨c0,c1,c2,⟨la,ln,lc,c3,h5,h6⟩,c4,c5⟩:=hc i hi;have hb:=z.block b Q (ho.other c0);have k:=λ(o:Nat)=>bU (a:=⟨b,o,none⟩) hb;exact⟨(k _).trans c0,(k _).trans c1,(k _).trans c2,⟨la,ln,lc,(k _).trans c3,Zqx h5 ho z,h6⟩,(k _).trans c4,(k _).trans c5⟩
theorem UsAt.later(h:UsAt ty g S w)(z:ZD w w'):UsAt ty g S w':=by
 obtain⟨cs,h1,h2,h3⟩:=h;refine⟨cs,(z.block g (aA h1)).trans h1,h2,λi hi=>?_⟩;obtain⟨a,n,c,Q,q2,q3⟩:=h3 i hi;exact⟨a,n,c,Q,q2.later z,q3⟩
theorem UsAt.put(h:UsAt ty g S w)(i:Nat){a n c s}(hs:CoinsAt w a n s)(sl:SlOk a n c):UsAt ty g (S.set i s) (w.setCell ⟨g,i,none⟩ (F a n c)):=by
 have Q:=h.ok;have z:=(Gr.refl w (λq=>q=g)).one g i (.inl rfl) (F a n c);obtain⟨cs,h1,h2,h3⟩:=h;refine⟨cs.set i (F a n c),Zis h1 i _,by simpa using h2,λj hj=>?_⟩;have ad:j<S.length:=by simpa using hj
 by_cases e:i=j
 ·subst e;refine⟨a,n,c,by rw[List.getElem?_set_self (by omega)],?_,sl⟩;rw[List.getElem_set_self];exact Qt hs Q z
 ·obtain⟨a',n',c',q1,q2,q3⟩:=h3 j ad;refine⟨a',n',c',by rw[List.getElem?_set_ne e];exact q1,?_,q3⟩;rw[List.getElem_set_ne e];exact Qt q2 Q z
theorem UsAt.undo(h:UsAt ty g S w)(i:Nat)(hi:i<S.length):UndoAt w g (0+i) S[i]:=by
 obtain⟨cs,h1,h2,h3⟩:=h;obtain⟨a,n,c,z,Q,q3⟩:=h3 i hi;exact⟨a,n,c,by rw[Nat.zero_add];exact Zb h1 i _ z,Q,q3⟩
theorem Zqj{base:Nat}(h:w.ownsRow base ty 1 (F (some ⟨g,0,none⟩) m m) m (bB m (F none 0 0))):UsAt ty g (bB m []) w:=by
 rcases h.2 with ⟨e,_⟩|⟨g',ab,z,e,hg,Q,h1,h2,h3,h4⟩
 ·cases e
 ·cases e;refine⟨z.toList,by simpa using Q,?_,λi hi=>?_⟩
  ·simp;omega
  ·have aa:i<m:=(by simpa using hi);refine⟨none,0,0,?_,?_,Zq⟩
   ·have h5:(z.toList.take (m*1))[i]? = (bB m (Value.slice none 0 0))[i]?:=(by rw[h4]);rw[List.getElem?_take,if_pos (by omega)] at h5;rw[h5];simp[aa]
   ·rw[List.getElem_replicate];exact⟨rfl,λh=>absurd h (by omega)⟩
end
def UndosAt(w:World)(a:Option Addr)(n:Nat)(S:List (List Zj)):Prop:=S.length=n/\(0<n->∃ b off,a=some ⟨b,off,none⟩/\b<w.heap.size/\∀ i (h:i<S.length),UndoAt w b (off+i) S[i])
theorem UndosAt.later{w w':World}{a n S}(h:UndosAt w a n S)(z:ZD w w'):UndosAt w' a n S:=by
 refine⟨h.1,λh0=>?_⟩;obtain⟨b,off,e,hl,Q⟩:=h.2 h0;exact⟨b,off,e,aD hl z.size,λi hi=>(Q i hi).kept z⟩
theorem UsAt.undos{ty:cR}{g}{S:List (List Zj)}{w}(h:UsAt ty g S w):UndosAt w (some ⟨g,0,none⟩) S.length S:=⟨rfl,λ_=>⟨g,0,rfl,h.ok.lt,λi hi=>h.undo i hi⟩⟩
def Zsd(w w':World)(x:Int)(C:List Zj)(S:List (List Zj))(e:Ending):Prop:=
 ∃ a n c z Q uc,e = dA (dB #[F a n c,F z Q uc,E J x])/\CoinsAt w' a n C/\SlOk a n c/\UndosAt w' z Q S/\SlOk z Q uc/\ZD w w'/\∀ ad,z=some ad->w.heap.size<=ad.block
theorem Ht{w w':World}{x y:Int}{C S}(h:((y:Int),([]:List Zj),([]:List (List Zj)))=(x,C,S))(z:ZD w w'):Zsd w w' x C S (dA (dB #[F none 0 0,F none 0 0,E J y])):=by
 injection h with h1 h2;injection h2 with h2 h3;subst h1 h2 h3;exact⟨none,0,0,none,0,0,rfl,⟨rfl,λh=>absurd h (by omega)⟩,Zq,⟨rfl,λh=>absurd h (by omega)⟩,Zq,z,λQ e=>by cases e⟩
def Zbn(s:ByteArray):Option Nat:=[2,3,4,5,6,7,8,9,10,11,12,13].find? (λk=>(Vz k).toList == s.toList)
def D8(s:ByteArray):Option (Int×Int):=
 match R9 s with
 | some n=>some (1,n)
 | none=>(Zbn s).map λk=>((k:Int),0)
def flat:List (Int×Int)->List Value
 | []=>[]
 | o :: r=>E J o.1 :: E J o.2 :: flat r
theorem Wd:∀ l:List (Int×Int),(flat l).length=l.length*2
 | []=>rfl
 | _ :: r=>by simp only[flat,List.length_cons,Wd r];omega
theorem Rs:∀ (l:List (Int×Int)) (i:Nat),i<l.length->(flat l)[i*2]? = some (E J (l.getD i (0,0)).1)/\(flat l)[i*2+1]? = some (E J (l.getD i (0,0)).2)
 | [],i,h=>absurd h (by simp)
 | o :: r,0,_=>⟨rfl,rfl⟩
 | o :: r,i+1,h=>by
  have:=Rs r i (by simpa using h);have e:(i+1)*2=i*2+2:=by omega
  rw[e];exact this
theorem flat_one:∀ (l:List (Int×Int)) (u:Value),u∈flat l->u.oneCell'=true
 | [],_,h=>by cases h
 | o :: r,u,h=>by
  simp only[flat,List.mem_cons] at h
  rcases h with rfl|rfl|h
  ·rfl
  ·rfl
  ·exact flat_one r u h
theorem OpsAt.flat{w:World}{x:Addr}{len:Nat}{l}(h:OpsAt w (some x) len l)(j:Nat)(u)(z:(flat l)[j]? = some u):w.cell? (x.add j)=some u:=by
 have ab:j<(YtmomfkikogbdeaaGreatDoor.flat l).length:=by
  rcases Nat.lt_or_ge j (YtmomfkikogbdeaaGreatDoor.flat l).length with h|h
  ·exact h
  ·rw[List.getElem?_eq_none h] at z;cases z
 rw[Wd] at ab;have hz:=h.1;obtain⟨b,off,hx,Q⟩:=h.2 (by omega);cases hx;have aa:(⟨b,off,none⟩:Addr).add j=⟨b,off+j,none⟩:=by unfold Addr.add;split <;> simp_all
 rw[aa];obtain⟨i,hi|hi⟩:∃ i,j=i*2\/j=i*2+1:=⟨j / 2,by omega⟩
 ·subst hi;have f:=(Rs l i (by omega)).1;rw[f] at z;rw[(Q i (by omega)).1];exact z
 ·subst hi;have f:=(Rs l i (by omega)).2;rw[f] at z;rw[<-Nat.add_assoc,(Q i (by omega)).2];exact z
theorem Zjz{w:World}{base:Nat}{e:cR}{size:Nat}{v:Value}{n:Nat}{xs}(h:w.ownsRow base e size v n xs)(k:Nat)(z:v.ownBlock=some k):base<=k:=by
 rcases h.2 with ⟨rfl,_⟩|⟨g,cap,aa,rfl,Q,_⟩
 ·cases z
 ·cases z;exact Q
