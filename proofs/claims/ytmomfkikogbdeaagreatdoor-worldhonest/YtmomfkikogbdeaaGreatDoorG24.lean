import Derived.Test.YtmomfkikogbdeaaGreatDoorH
import Derived.Test.YtmomfkikogbdeaaGreatDoorG23
open Go.Proofs.Tryz
open Go renaming lt_of_block->aA,bodyPost_ret->aW
open Go.Ending renaming returned->dA
open Go.IntKind renaming i64->J
open Go.Obj renaming cells->cZ
open Go.Value renaming int->cH,int->E,slice->F,tuple->dB,pointer->dC
open Go.World renaming frozen?_of_block->aO
open List renaming getElem_mem->aQ
open Nat renaming lt_of_lt_of_le->aD,le_refl->aF,le_of_eq->bL,zero_le->aL,le_trans->aT
set_option maxHeartbeats 12800000
set_option maxRecDepth 10000
namespace Go.Proofs.YtmomfkikogbdeaaGreatDoor
open Go.RowKit
def DoR(w w':World)(p:Nat)(x:Int)(K:List ByteArray)(C:List Zj)(h f:Int)(e:Ending):Prop:=
 (x≠0/\e = dA (dB #[E J 0,E J x])/\ZD w w') \/
 (x=0/\e = dA (dB #[E J f,E J 0])/\Gr w w' (λq=>q=p)/\DoT w' w.heap.size p K C h)
theorem DoR.err{w w':World}{p:Nat}{x y:Int}{K C}{h f:Int}(h0:y≠0)(hx:x=y)(z:ZD w w'):DoR w w' p x K C h f (dA (dB #[E J 0,E J y])):=by
 subst hx;exact .inl ⟨h0,rfl,z⟩
def Zqf(V wx:World)(M:List Zj)(s9:Value):Prop:=
 ∃ z nm Q,s9 = F z nm Q/\Fresh V.heap.size wx (λw2=>CoinsAt w2 z nm M)/\SlOk z nm Q/\ZD V wx
theorem Ec{V W wx:World}{M}{Z:Nat}{z nm Q}(hF:Fresh Z W (λw2=>CoinsAt w2 z nm M))(hZ:V.heap.size<=Z)(hs:SlOk z nm Q)(hb:ZD V W)(hg:Gr W wx (λq=>q<Z/\V.heap.size<=q)):Zqf V wx M (F z nm Q):=
 ⟨z,nm,Q,rfl,λw2 g2=>hF w2 ((hg.mono (λ_ _ q=>q.1)).trans (g2.mono (λ_ _ q=>aD q hZ))),hs,hg.below hb hb.size (λ_ q=>q.2)⟩
theorem Zjx(p:Nat)(K C)(h th:Int)(ai ao ni ci no co I O)(x:Int)(K' C' w)(hE:Env w)(hT:Zmr w p K C h)(bk:Ys C)(hI:InsAt w ai ni I)(hO:OutsAt w ao no O)(sI:SlOk ai ni ci)(hx:doD h (K,C) (th,I,O)=(x,K',C')) :
  Calls Tryz.prog 91 #[dC (some ⟨p,0,none⟩),.agg #[E J th,F ai ni ci,F ao no co]] w λe w'=>DoR w w' p x K' C' h (Zp C - Zp C') e:=by
 obtain⟨ka,kn,kc,la,ln,lc,hp,hK,sK,hC,sC⟩:=hT;obtain⟨X,hX,az,cm⟩:=ka00 w [E J th,F ai ni ci,F ao no co] 59;have dp:I.length=ni:=hI.1;obtain⟨x1,cq⟩:=ZF (Zu (th,I,O));obtain⟨T,cj⟩:=ZF (txT (th,I,O));obtain⟨⟨K1,nm,x2⟩,ct⟩:=ZF (Bk.nameR K T);obtain⟨⟨x3,M,S⟩,bu⟩:=ZF (apD C (th,I,O) nm h);unfold doD at hx;simp only[cq,cj,ct,bu,dp] at hx;have de:=Zd (λV (hv:ZD X V)=>(show V.heap[w.heap.size]? = some (cZ [E J th,F ai ni ci,F ao no co].toArray 59 (0,0)) from ZE hv cm));have bf:=Zd (λV (hv:ZD w V)=>(show V.heap[p]? = some (cZ [F ka kn kc,F la ln lc,E J h].toArray 162 (0,0)) from ZE hv hp));have dq:p<w.heap.size:=aA hp;have C1:=Zd (Hy th ai ao ni ci no co I O T x1 X (hE.later az) (hI.later az) (hO.later az) sI cq cj);have C2:=Zd (λV (hv:ZD w V)=>Bk.name_fresh ka kn kc K K1 T nm x2 V (hK.later hv) ct);have C3:=Zd (λV (hv:ZD w V)=>Hd la ln lc C th ai ao ni ci no co I O nm h x3 M S V (hC.later hv) sC (hI.later hv) (hO.later hv) sI bu)
 have cg:Hid (x3=0->Ys M/\Zp M<=1000000000/\0<=Zp M):=λq=>by
  subst q;have r:=(Mm bu).2.1;exact⟨r,r.sum,Ww M (λc hc=>by have:=Yu (r.one c hc);omega)⟩
 obtain⟨s1,bb⟩:∃ s,Zp C=s:=⟨_,rfl⟩;have b1:s1<=1000000000:=by rw[<-bb];exact bk.sum
 have b2:0<=s1:=by rw[<-bb];exact Ww C (λc hc=>by have:=Yu (bk.one c hc);omega)
 have C4:=Zd (λV (hv:ZD w V)=>Nu la ln lc C s1 V (hC.later hv) bk bb);obtain⟨HX,en,er⟩:=kh3 hx az bb;obtain⟨t0,t1,t2,tl⟩:=kc3 cm;clear hE hK sK hC sC hI hO sI hx cq cj ct bu az cm hp bk bb dp;go_enter func91,ntmps91;go_wp2_with fail;rw[<-hX];clear hX;(try go_wp2_with fail);refine C1.mono ?_;rintro e w1 ⟨rfl,bo⟩;have h10:=de _ bo;obtain⟨t0,t1,t2,tl⟩:=kc3 h10;obtain⟨ah,ej⟩:=kh2 (Zf en bo) bo;clear bo h10 C1;by_cases e1:x1=0
 ·subst e1;by_cases e2:ni=0
  ·subst e2;have ac:Hid (x=4):=(by have:=Za HX;rw[if_neg (λq=>q rfl),if_pos rfl] at this;injection this with this _;exact this.symm);clear HX;go_wp2;go_ret2;exact DoR.err (by decide) ac ah
  have gp:((ni:Int) == 0)=false:=by simp;omega
  have fq:¬((ni:Int)=0):=by omega
  have p1:=bf _ ah;obtain⟨q0,q1,q2,ql⟩:=kc3 p1;clear p1;go_wp2_with fail;refine (C2 _ ah).mono ?_;rintro e w2 ⟨⟨ka',kn',kc',rfl,dj,dy⟩,bq⟩;obtain⟨dc,eo,et⟩:=kh3 (Zf ah bq) dj dy;have fw:w1.heap.size<=w2.heap.size:=bq.size;obtain⟨V,hV,br,dk⟩:=ka00 w2 [F ka' kn' kc'] 24;obtain⟨aj,ek,ev,ei⟩:=kh4 (Zf dc br) br dk (Zf ej (Zf bq br));clear bq dj dy br dk q0 q1 q2 ql t0 t1 t2 tl;obtain⟨ec,ed,ee,ef⟩:=kc3 (de _ ei);obtain⟨fg,du,dv,dw⟩:=kc3 (bf _ aj);by_cases e3:x2=0
  ·subst e3
   go_upto_region 9 with fail
   rw[<-hV];clear hV;obtain⟨dh,dg⟩:=kh2 (Zf aj (Zi V)) (Zf (Zf aj (Zh V (cZ #[F none 0 0] 153))) (Zi _));have v0:(V.alloc (cZ #[F none 0 0] 153)).drew.heap[V.heap.size]? = some (cZ #[F none 0 0] 153 (0,0)):=Yy V (F none 0 0) 153;have df:=Zd v0;clear v0;have KS:Hid (∀ U:World,ZD V U->((U.cell? ⟨p,1,none⟩=some (F la ln lc)/\U.cell? ⟨p,2,none⟩=some (E J h)/\p<U.heap.size)/\U.cell? ⟨w.heap.size,0,none⟩=some (E J th)/\U.cell? ⟨w.heap.size,1,none⟩=some (F ai ni ci)/\U.cell? ⟨w.heap.size,2,none⟩=some (F ao no co)/\w.heap.size<U.heap.size)):=λU Q=>⟨⟨Ze Q du,Ze Q dv,aD dw Q.size⟩,Ze Q ec,Ze Q ed,Ze Q ee,aD ef Q.size⟩
   go_cut [5,9,10] from 36 to 50 (λs5 s9 gl wx=>s5 = E J x3/\Hid (Zqf V wx M s9))
   case first=>
    refine wp_region_held_drew (S:=λU=>(U.cell? ⟨p,1,none⟩=some (F la ln lc)/\U.cell? ⟨p,2,none⟩=some (E J h)/\p<U.heap.size)/\U.cell? ⟨w.heap.size,0,none⟩=some (E J th)/\U.cell? ⟨w.heap.size,1,none⟩=some (F ai ni ci)/\U.cell? ⟨w.heap.size,2,none⟩=some (F ao no co)/\w.heap.size<U.heap.size) (by kernel_rfl) (KS _ (Zi _)) (λz=>?_);refine tkL 0 rfl z ?_;refine tkL 1 rfl z ?_;refine tkL 2 rfl z ?_;refine tkL 3 rfl z ?_;refine tkL 4 rfl z ?_;refine tkL 5 rfl z ?_;refine tkL 6 rfl z ?_;refine tkL 7 rfl z ?_;refine tkL 8 rfl z ?_;refine tkL 9 rfl z ?_;refine wpAnyH_ready (rs:=[10,15]) (by kernel_rfl) (by simp) ?_;refine rdC rfl (λKQ hK=>?_) (rdC rfl (λKQ hK=>?_) AllReadyH.nil)
    ·refine Zo (by kernel_rfl) 76 #[F la ln lc,.agg #[E J th,F ai ni ci,F ao no co],E J nm,E J h] (by kernel_rfl) (C3 V.drew dh) ?_;rintro e w5 ⟨am,aw,go,sa,ns,cs,rfl,al,ax,-,-,ag⟩;refine⟨_,rfl,?_⟩;have hb:ZD V w5:=Zf (Zi V) ag;clear z;refine hK.out _ _ (KS _ hb) (λz=>?_);clear hK KQ;refine tkL 11 rfl z ?_;refine tkL 12 rfl z ?_;refine tkL 13 rfl z ?_;refine tkL 14 rfl z ?_;refine rdY 15 rfl (λKQ hK=>?_);go_simp;clear z;refine hK.out _ _ (KS _ (Zf hb (Zh _ _))) (λz=>?_);clear hK KQ;refine tkL 16 rfl z ?_;refine rdY 17 rfl (λKQ hK=>?_);go_simp;clear z;refine hK.out _ _ (KS _ (Zf hb (Zh _ _))) (λz=>?_);clear hK KQ;(try simp only[Act.put]);refine tkL 18 rfl z ?_;refine wpAnyH_done (by kernel_rfl) ?_ _;clear z;go_wp2_with fail;go_meet
     case rel=>exact⟨rfl,Ec al (aF _) ax hb (Gr.of (Zh _ _))⟩
    ·go_simp;obtain⟨v6,bt⟩:=ZG ((V.alloc (cZ #[F none 0 0] 153)).drew);have h6:=Za df;have dn:=Za dg;rw[<-bt] at h6 dn;rw[<-bt];have aq:ZD V v6:=(by rw[bt];exact Zf (Zh _ _) (Zi _));have fx:v6.heap.size=V.heap.size+1:=(by rw[bt];simp);clear z;refine hK.out _ _ (KS _ aq) (λz=>?_);clear hK KQ;(try simp only[Act.put,ZA,ZB,ZC]);refine rdS 10 rfl (C3 v6 dn) ?_;rintro e w5 ⟨am,aw,go,sa,ns,cs,rfl,al,ax,-,-,ag⟩;have hb:ZD V w5:=Zf aq ag;have h5:=ZE ag h6;have u50:=Zb (X:=[F none 0 0]) h5 0 _ rfl;have gm:=Zg h5 0;have gn:=aA h5;clear z;refine⟨_,rfl,(KS _ hb),λz=>?_⟩;refine tkL 11 rfl z ?_;refine tkL 12 rfl z ?_;refine tkL 13 rfl z ?_;refine tkL 14 rfl z ?_;refine tkL 16 rfl z ?_;refine rdY 17 rfl (λKQ hK=>?_);go_simp;clear z;refine hK.out _ _ (KS _ (hb.setCell (p:=⟨V.heap.size,0,none⟩) (aF _) _)) (λz=>?_);clear hK KQ;(try simp only[Act.put]);refine tkL 18 rfl z ?_;refine wpAnyH_done (by kernel_rfl) ?_ _;clear z;go_wp2_with fail;go_meet
     case rel=>exact⟨rfl,Ec al (by omega) ax hb ((Gr.refl w5 _).one V.heap.size 0 (.inl ⟨by omega,aF _⟩) _)⟩
   case rest=>
    obtain⟨rfl,hc⟩:=hcut;obtain⟨am,aw,go,rfl,al,ax,ag⟩:=Za hc;have cn:=Zf aj ag;obtain⟨cd,dd,ep,eu⟩:=kh4 cn ag al ax;have p5:=bf _ cn;obtain⟨ga,gb,gc,gd⟩:=kc3 p5;have CM:=Zd (λU (Q:ZD wc U) (h0:x3=0) s2 (hs:Zp M=s2)=>Nu am aw go M s2 U ((al wc (Gr.refl _ _)).later Q) (cg h0).1 hs);clear hc al ax ag cn p5 ec ed ee ef fg du dv dw KS dh dg df C3;by_cases e4:x3=0
    ·obtain⟨ew,ey,ez⟩:=cg e4;obtain⟨s2,bs⟩:=ZF (Zp M);rw[bs] at ey ez;have db:=Zd (λU Q=>CM U Q e4 s2 bs);have es:=Zd bs;have ac:Hid (x=0/\K'=K1/\C'=M):=(by have:=Za HX;rw[if_neg (λq=>q rfl),if_neg e2,if_neg (λq=>q rfl),if_neg (λq=>q e4)] at this;injection this with h1 h2;injection h2 with h2 h3;exact⟨h1.symm,h2.symm,h3.symm⟩);subst e4;clear bs CM HX cg ew;have C5:=Zd (C4 wc cd);go_wp2_with fail;refine C5.mono ?_;rintro e w6 ⟨rfl,aq⟩;obtain⟨C6,el⟩:=kh2 (db w6 aq) aq;clear aq C5 C4;go_wp2_with fail;refine C6.mono ?_;rintro e w7 ⟨rfl,dm⟩;have ay:=Zf el dm;have cp:=Zf cd ay;have p7:=bf _ cp;obtain⟨gf,gg,gh,gi,gj⟩:=kf2 p7;have k7:=ZE (Zf dd ay) ev;obtain⟨fy,fz⟩:=kc1 k7;have fa:p≠w2.heap.size:=(by have:=dc.size;omega);have fv:w2.heap.size≠p:=λq=>fa q.symm;have G7:Gr w7 ((w7.setCell ⟨p,0,none⟩ (F ka' kn' kc')).setCell ⟨p,1,none⟩ (F am aw go)) (λq=>q=p):=((Gr.refl w7 (λq=>q=p)).one p 0 (.inl rfl) _).one p 1 (.inl rfl) _
     have eq:Hid (DoR w ((w7.setCell ⟨p,0,none⟩ (F ka' kn' kc')).setCell ⟨p,1,none⟩ (F am aw go)) p x K' C' h (Zp C - Zp C') (dA (dB #[E J (s1 - s2),E J 0]))):=by
      obtain⟨rfl,rfl,rfl⟩:=Za ac;rw[Za er,Za es];refine .inr ⟨rfl,rfl,(Gr.of cp).trans G7,ka',kn',kc',am,aw,go,Tr.set_cells (Tr.set_cells p7 0 _) 1 _,λW g2=>⟨eo W ?_,ep W ?_⟩,Za et,Za eu⟩
      ·exact ((Gr.of (Zf ek (Zf dd ay))).trans (G7.mono (λq _ e=>by rw[e];exact aD dq ah.size))).trans (g2.mono (λq _ e=>aD e ah.size))
      ·exact ((Gr.of ay).trans (G7.mono (λq _ e=>by rw[e];exact aD dq aj.size))).trans (g2.mono (λq _ e=>aD e aj.size))
     clear G7 ay cp p7 k7 dm C6 db;go_wp2;go_ret2;exact Za eq
    ·have fu:(x3 != 0)=true:=(by simp[e4]);have ac:Hid (x=x3):=(by have:=Za HX;rw[if_neg (λq=>q rfl),if_neg e2,if_neg (λq=>q rfl),if_pos e4] at this;injection this with this _;exact this.symm);clear HX CM;go_wp2;go_ret2;exact DoR.err e4 ac cd
  ·have ft:(x2 != 0)=true:=(by simp[e3]);have ac:Hid (x=x2):=(by have:=Za HX;rw[if_neg (λq=>q rfl),if_neg e2,if_pos e3] at this;injection this with this _;exact this.symm);clear HX;go_wp2;rw[<-hV];go_ret2;exact DoR.err e3 ac aj
 ·have fs:(x1 != 0)=true:=by simp[e1]
  have ac:Hid (x=x1):=by have:=Za HX;rw[if_pos e1] at this;injection this with this _;exact this.symm
  clear HX;go_wp2;go_ret2;exact DoR.err e1 ac ah
namespace Tr
open Go.RowKit
theorem own_apart{w:World}{B Q:Nat}{e z:TypeId}{sz ad n n':Nat}{v v':Value}{xs ae}(h:w.ownsRow B e sz v n xs)(h':w.ownsRow Q z ad v' n' ae)(hn:e≠z)(q:Nat)(hq:v.ownBlock=some q):v'.ownBlock≠some q:=by
 intro ab;obtain⟨c,f,h1⟩:=Lib.ownsRow_kind h q hq;obtain⟨c',f',h2⟩:=Lib.ownsRow_kind h' q ab;rw[h1] at h2;injection h2 with h2;injection h2 with _ h2;exact hn h2
theorem Zot{G B w0s:Nat}{w0 wr w5:World}{g cap n k:Nat}{K:List (List Value)}{I:List InD}{x:InD}{a z m c Q}(h:Cl inR 119 B G w0 wr (F (some ⟨g,0,none⟩) n cap) n K I k)(hk:k<I.length)(ae:k<K.length)(hx:I[k]=x)(e:K[k]=[E J x.1,E J x.2.1,F a m c])(hb:ZD wr w5)(hf:Fresh w0s w5 (λw2=>OpsAt w2 z m x.2.2/\SlOk z m Q))(hG:G<=w0s) :
  Cl inR 119 B G w0 (w5.setCell ⟨g,k*3+2,none⟩ (F z m Q)) (F (some ⟨g,0,none⟩) n cap) n (K.set k [E J x.1,E J x.2.1,F z m Q]) I (k+1):=by
 have h5:=h.keep hb;refine h5.step hk ?_ ((Gr.refl w5 (λq=>q=g)).one g (k*3+2) (.inl rfl) _) ?_
 ·rw[hx];exact (hf.less hG).imp λw2 q=>⟨z,m,Q,rfl,q.1,q.2⟩
 ·have h1:=(h5.own.stored (k*3+2) (F z m Q)).1;have h2:=Xh (sz:=3) h5.wid k ae 2 (by decide) (F z m Q);rw[e] at h2;rw[h2] at h1;exact h1
theorem Zka{G B w0s:Nat}{w0 wr w5:World}{g cap n k:Nat}{K:List (List Value)}{O:List Zy}{x:Zy}{z m Q}(h:Cl outR 122 B G w0 wr (F (some ⟨g,0,none⟩) n cap) n K O k)(hk:k<O.length)(ae:k<K.length)(hx:O[k]=x)(hb:ZD wr w5)(hf:Fresh w0s w5 (λw2=>OpsAt w2 z m x.2/\SlOk z m Q))(hG:G<=w0s) :
  Cl outR 122 B G w0 ((w5.setCell ⟨g,k*2,none⟩ (E J x.1)).setCell ⟨g,k*2+1,none⟩ (F z m Q)) (F (some ⟨g,0,none⟩) n cap) n (K.set k [E J x.1,F z m Q]) O (k+1):=by
 have h5:=h.keep hb;refine h5.step hk ?_ (((Gr.refl w5 (λq=>q=g)).one g (k*2) (.inl rfl) _).one g (k*2+1) (.inl rfl) _) ?_
 ·rw[hx];exact (hf.less hG).imp λw2 q=>⟨z,m,Q,rfl,q.1,q.2⟩
 ·have h1:=((h5.own.stored (k*2) (E J x.1)).1.stored (k*2+1) (F z m Q)).1;rw[put2 h5.wid k ae] at h1;exact h1
def Zqd(w:World)(h:Int)(I:List InD)(O:List Zy)(ni no:Nat)(v1 v2:Value)(wx:World):Prop:=
 ∃ z Q,AllC inR w z I/\AllC outR w Q O/\wx.ownsRow (w.heap.size+2) 119 3 v1 ni z.flatten/\wx.ownsRow (w.heap.size+2) 122 2 v2 no Q.flatten /\
  wx.heap[w.heap.size]? = some (cZ [E J h,v1,v2].toArray 59 (0,0))/\wx.heap[w.heap.size+1]? = some (cZ [E J 0,F none 0 0,F none 0 0].toArray 59 (0,0))/\ZD w wx
theorem Ea{w W wx:World}{h:Int}{I O}{ni no:Nat}{v1 v2}{K1 K2:List (List Value)}(h1:AllC inR w K1 I)(h2:AllC outR w K2 O)(o1:W.ownsRow (w.heap.size+2) 119 3 v1 ni K1.flatten)(o2:W.ownsRow (w.heap.size+2) 122 2 v2 no K2.flatten)(hb:ZD w W)
  (hz:W.heap[w.heap.size+1]? = some (cZ [E J 0,F none 0 0,F none 0 0].toArray 59 (0,0))) (z:Gr W wx (λq=>q=w.heap.size)) (hx:wx.heap[w.heap.size]? = some (cZ [E J h,v1,v2].toArray 59 (0,0))):Zqd w h I O ni no v1 v2 wx:=
 ⟨K1,K2,h1,h2,z.own o1 (λk Q=>by have:=(o1.lt k Q).1;omega),z.own o2 (λk Q=>by have:=(o2.lt k Q).1;omega),hx,z.heap hz (by omega),z.below hb (by have:=aA hz;omega) (λk Q=>by omega)⟩
theorem clTx_is(h:Int)(ai ao ni ci no co I O)(w:World)(hI:InsAt w ai ni I)(hO:OutsAt w ao no O)(sI:SlOk ai ni ci)(sO:SlOk ao no co)(ev:ni<=3518437208883)(ew:no<=4398046511104)(hk:∀ x∈I,x.2.2.length<=8796093022208)(hl:∀ x∈O,x.2.length<=8796093022208) :
  Calls Tryz.prog 92 #[.agg #[E J h,F ai ni ci,F ao no co]] w λe w'=>∃ a1 c1 a2 c2,e = dA (.agg #[E J h,F a1 ni c1,F a2 no c2])/\Fresh w.heap.size w' (λw2=>txR.C w2 [E J h,F a1 ni c1,F a2 no c2] (h,I,O))/\ZD w w':=by
 obtain⟨X,hX⟩:=ZG ((w.alloc (cZ #[E J h,F ai ni ci,F ao no co] 59)).alloc (cZ #[E J 0,F none 0 0,F none 0 0] 59));have db:ZD w X:=by rw[hX];exact Zf (Zh _ _) (Zh _ _)
 have da:X.heap[w.heap.size]? = some (cZ [E J h,F ai ni ci,F ao no co].toArray 59 (0,0)):=by
  rw[hX,Below.heap_alloc _ _ _ (by simp)];exact Zx _ _ _ _ _
 have eg:X.heap.size=w.heap.size+2:=by rw[hX];simp
 have au:X.heap[w.heap.size+1]? = some (cZ [E J 0,F none 0 0,F none 0 0].toArray 59 (0,0)):=by
  rw[hX];have:=Zx (w.alloc (cZ #[E J h,F ai ni ci,F ao no co] 59)) (E J 0) (F none 0 0) (F none 0 0) 59;rw[show (w.alloc (cZ #[E J h,F ai ni ci,F ao no co] 59)).heap.size=w.heap.size+1 by simp] at this;exact this
 obtain⟨ds,cj,dx,dy,el,en,dz,ea⟩:=kh8 db da au eg hk hl hI.1 hO.1;have C1:=Zd (Ek ai ni ci I w X.drew ev hI (Zf db (Zi X)) sI);have C2:=Zd (λW (hb:ZD w W)=>Ft ao no co O w W ew hO hb sO);obtain⟨-,x1,x2,xl⟩:=kc3 da;clear db da au hI hO sI sO hk hl eg;go_enter func92,ntmps92
 go_upto_region 1 with fail
 rw[<-hX];clear hX
 go_cut [9,12] from 7 to 14 (λs9 fd wx=>Hid (Zqd w h I O ni no s9 fd wx))
 case first=>
  go_region_with (first
   | (go_at_call 159;refine C1.mono ?_;rintro e w3 ⟨v1,K1,rfl,hA1,be,bv⟩;have h30:=ZE bv cj;have d1:=Zb h30 1 _ rfl;have d2:=Zb h30 2 _ rfl;have gn:=aA h30;have dl:=Zd hA1;have dv:Hid (w3.ownsRow (w.heap.size+2) 119 3 v1 ni K1.flatten):=Yx be (bL dy.symm);have dp:=Zd (Zf (Zf ds (Zi _)) bv);have dq:=Zd (Zf (Zi X) bv);clear hA1 be bv h30)
   | (go_at_call 160;refine (C2 _ dp).mono ?_;rintro e w4 ⟨v2,K2,rfl,hA2,bf,bx⟩;have dc:=Zf dq bx;have h40:=ZE dc cj;have h41:=ZE dc dx;have e0:=Zb h40 0 _ rfl;have e1:=Zb h40 1 _ rfl;have e2:=Zb h40 2 _ rfl;have z1:=Zg h40 1;have z2:=Zg h40 2;have go:=aA h40;have dm:=Zd hA2;have cg:Hid (w4.ownsRow (w.heap.size+2) 122 2 v2 no K2.flatten):=Yx bf (by have:=dq.size;have:=Za dy;omega);have dw:=Zd ((Gr.of (S:=λ_=>False) bx).own dv (λ_ _ q=>q));have dr:=Zd (Zf dp bx);have dj:=Zd h40;have dk:=Zd h41;obtain⟨a2,c2,rfl,_,_⟩:=Z7 cg;obtain⟨a1,c1,rfl,_,_⟩:=Z7 dv;clear hA2 bf bx dc h40 h41))
  all_goals
   go_wp2_with fail;go_meet
   case rel=>
    first
    | exact Ea (W:=w4) dl dm dw cg dr dk (((Gr.refl w4 (λq=>q=w.heap.size)).one w.heap.size 1 (.inl rfl) _).one w.heap.size 2 (.inl rfl) _) (set_cells (set_cells dj 1 _) 2 _)
    | exact Ea (W:=w4) dl dm dw cg dr dk (((Gr.refl w4 (λq=>q=w.heap.size)).one w.heap.size 2 (.inl rfl) _).one w.heap.size 1 (.inl rfl) _) (set_cells (set_cells dj 2 _) 1 _)
 case rest=>
  obtain⟨K1,K2,hA1,hA2,be,bf,h0,h1,hb⟩:=Za hcut;obtain⟨a1,c1,rfl,_,_⟩:=Z7 be;obtain⟨a2,c2,rfl,_,_⟩:=Z7 bf;obtain⟨G,hG⟩:=ZF (wc.heap.size);have ef:w.heap.size+2<=G:=by rw[<-hG];exact aA h1
  have eb:Hid (Cl inR 119 (w.heap.size+2) G w wc (F a1 ni c1) ni K1 I 0):=Cl.start be hA1 dz (bL hG);have ec:Hid (Cl outR 122 (w.heap.size+2) G w wc (F a2 no c2) no K2 O 0):=Cl.start bf hA2 ea (bL hG);obtain⟨H0,H1,HB⟩:=kh3 h0 h1 hb;have du:Hid (G<=wc.heap.size):=bL hG.symm;obtain⟨-,eo,cm⟩:=kc2 h0;clear hcut hA1 hA2 be bf h0 h1 hb C1 C2 cj dx ds x1 x2 xl hG;go_wp2
  go_loopw [18] (λi wr=>∃ (k:Nat) (K:List (List Value)),k<=ni/\i = E J k/\Hid (Cl inR 119 (w.heap.size+2) G w wr (F a1 ni c1) ni K I k)/\Hid (Cl outR 122 (w.heap.size+2) G w wr (F a2 no c2) no K2 O 0)/\Hid (wr.heap[w.heap.size]? = some (cZ [E J h,F a1 ni c1,F a2 no c2].toArray 59 (0,0)))/\Hid (wr.heap[w.heap.size+1]? = some (cZ [E J 0,F none 0 0,F none 0 0].toArray 59 (0,0)))/\Hid (ZD w wr)/\Hid (G<=wr.heap.size)) (λi _=>ni - (intOf i).toNat)
  case atStart=>exact⟨0,K1,aL _,rfl,eb,ec,H0,H1,HB,du⟩
  case round=>
   obtain⟨k,K,hk,rfl,ag,bq,ap,cb,bo,ce⟩:=hrel;clear eb ec H0 H1 HB du eo cm;by_cases et:k<ni
   ·have am:k<I.length:=(by rw[Za dz];exact et);have ak:k<K.length:=(by rw[(Za ag).len];exact am);obtain⟨g,cap,gm,eq,er,bd⟩:=ag.form (by omega);cases gm;obtain⟨a,m,c,eK,an,bj⟩:=ag.old k am ak (aF _);have ax:=el _ (aQ am);obtain⟨x,hx⟩:=ZF (I[k]);rw[hx] at eK an ax;have r0:=ag.cell k ak 0 (by decide);have r1:=ag.cell k ak 1 (by decide);have r2:=ag.cell k ak 2 (by decide);rw[eK] at r0 r1 r2;have r0:wr.cell? ⟨g,k*3,none⟩=some (E J x.1):=r0;have r1:wr.cell? ⟨g,k*3+1,none⟩=some (E J x.2.1):=r1;have r2:wr.cell? ⟨g,k*3+2,none⟩=some (F a m c):=r2;have hm:m<=8796093022208:=(by rw[<-an.1];exact ax);obtain⟨X1,au,af,bi⟩:=ka00 wr [E J x.1,E J x.2.1,F a m c] 119;obtain⟨-,-,b2,bl⟩:=kc3 bi;have t1:=Ze af (Zb ap 1 _ rfl);have tl:=aD (aA ap) af.size;obtain⟨cc,CO⟩:=kh2 af (Qf a m c x.2.2 X1.drew hm (an.later (Zf (Zf bo af) (Zi _))) bj)
    have NX:Hid (∀ w5 z Q,ZD wr w5->Fresh X1.drew.heap.size w5 (λw2=>OpsAt w2 z m x.2.2/\SlOk z m Q) ->
      Hid (Cl inR 119 (w.heap.size+2) G w (w5.setCell ⟨g,k*3+2,none⟩ (F z m Q)) (F (some ⟨g,0,none⟩) ni c1) ni (K.set k [E J x.1,E J x.2.1,F z m Q]) I (k+1))/\Hid (Cl outR 122 (w.heap.size+2) G w (w5.setCell ⟨g,k*3+2,none⟩ (F z m Q)) (F a2 no c2) no K2 O 0)/\Hid ((w5.setCell ⟨g,k*3+2,none⟩ (F z m Q)).heap[w.heap.size]? = some (cZ [E J h,F (some ⟨g,0,none⟩) ni c1,F a2 no c2].toArray 59 (0,0)))/\Hid ((w5.setCell ⟨g,k*3+2,none⟩ (F z m Q)).heap[w.heap.size+1]? = some (cZ [E J 0,F none 0 0,F none 0 0].toArray 59 (0,0)))/\Hid (ZD w (w5.setCell ⟨g,k*3+2,none⟩ (F z m Q)))/\Hid (G<=(w5.setCell ⟨g,k*3+2,none⟩ (F z m Q)).heap.size)):=by
     intro w5 z Q aa al;have bh:=Za ce;have ah:=(Gr.refl w5 (λq=>q=g)).one g (k*3+2) (.inl rfl) (F z m Q);have df:=aa.size;refine⟨Zot ag am ak hx eK aa al (aT bh af.size),?_,?_,?_,?_,?_⟩
     ·exact (bq.keep aa).gr ah (λq e=>by omega) (λq hq e=>own_apart ag.own bq.own (by decide) q (by rw[e];rfl) hq)
     ·exact ah.heap (ZE aa ap) (by omega)
     ·exact ah.heap (ZE aa cb) (by omega)
     ·exact ah.below (Zf bo aa) (by have:=aA ap;omega) (λq e=>by omega)
     ·exact aT bh (aT df ah.size)
    have FR:=Zd (λj=>ag.free j);have es:(k:Int)<(ni:Int):=(by omega);clear an bj ax hx eK af bi;go_wp2_with fail;rw[<-au];clear au
    go_region_with (go_at_call 150;refine CO.mono ?_;rintro e w5 ⟨z,Q,rfl,al,aa⟩;have ae:=Zf (Zf cc (Zi _)) aa;have HN:=Zd (NX w5 z Q ae al);have q1:=Ze aa (Ze (Zi _) t1);have q2:=Ze ae r2;have q3:w5.frozen? ⟨g,k*3+2,none⟩=false:=(aO (a:=⟨g,k*3+2,none⟩) (ae.block g bd)).trans (FR _);have q4:=aD bd ae.size;have q5:=aD (aA ap) ae.size;clear al aa ae)
    all_goals
     go_wp2;go_roundw
     case rel=>
      obtain⟨f1,f2,f3,f4,f5,f6⟩:=Za HN;exact⟨k+1,_,by omega,by go_num,f1,f2,f3,f4,f5,f6⟩
     case measure=>simp[intOf];omega
   ·have e:k=ni:=(by omega);subst e;obtain⟨-,-,ep,cm⟩:=kc3 ap;have DN:=ag;clear ag;go_wp2
    go_loopw [35] (λi w2=>∃ (j:Nat) (Ko:List (List Value)),j<=no/\i = E J j/\Hid (Cl inR 119 (w.heap.size+2) G w w2 (F a1 k c1) k K I k)/\Hid (Cl outR 122 (w.heap.size+2) G w w2 (F a2 no c2) no Ko O j)/\Hid (w2.heap[w.heap.size]? = some (cZ [E J h,F a1 k c1,F a2 no c2].toArray 59 (0,0)))/\Hid (w2.heap[w.heap.size+1]? = some (cZ [E J 0,F none 0 0,F none 0 0].toArray 59 (0,0)))/\Hid (ZD w w2)/\Hid (G<=w2.heap.size)) (λi _=>no - (intOf i).toNat)
    case atStart=>exact⟨0,K2,aL _,rfl,DN,bq,ap,cb,bo,ce⟩
    case round=>
     obtain⟨j,Ko,hj,rfl,br,aj,ay,dt,cd,ek⟩:=hrel;clear DN bq ap cb bo ce ep cm;by_cases eu:j<no
     ·have am:j<O.length:=(by rw[Za ea];exact eu);have ak:j<Ko.length:=(by rw[(Za aj).len];exact am);obtain⟨g,cap,gm,eq,er,bd⟩:=aj.form (by omega);cases gm;obtain⟨a,m,c,eK,an,bj⟩:=aj.old j am ak (aF _);have ax:=en _ (aQ am);obtain⟨x,hx⟩:=ZF (O[j]);rw[hx] at eK an ax;have r0:=aj.cell j ak 0 (by decide);have r1:=aj.cell j ak 1 (by decide);rw[eK] at r0 r1;have r0:wr.cell? ⟨g,j*2,none⟩=some (E J x.1):=r0;have r1:wr.cell? ⟨g,j*2+1,none⟩=some (F a m c):=r1;have hm:m<=8796093022208:=(by rw[<-an.1];exact ax);obtain⟨X1,au,af,bi⟩:=ka00 wr [E J x.1,F a m c] 122;obtain⟨b0,b1,bl⟩:=kc2 bi;have t2:=Ze af (Zb ay 2 _ rfl);have tl:=aD (aA ay) af.size;obtain⟨cc,CO⟩:=kh2 af (Ts x.1 a m c x.2 X1.drew hm (an.later (Zf (Zf cd af) (Zi _))) bj)
      have NX:Hid (∀ w5 z Q,ZD wr w5->Fresh X1.drew.heap.size w5 (λw2=>OpsAt w2 z m x.2/\SlOk z m Q) ->
        Hid (Cl inR 119 (w.heap.size+2) G w ((w5.setCell ⟨g,j*2,none⟩ (E J x.1)).setCell ⟨g,j*2+1,none⟩ (F z m Q)) (F a1 k c1) k K I k)/\Hid (Cl outR 122 (w.heap.size+2) G w ((w5.setCell ⟨g,j*2,none⟩ (E J x.1)).setCell ⟨g,j*2+1,none⟩ (F z m Q)) (F (some ⟨g,0,none⟩) no c2) no (Ko.set j [E J x.1,F z m Q]) O (j+1))/\Hid (((w5.setCell ⟨g,j*2,none⟩ (E J x.1)).setCell ⟨g,j*2+1,none⟩ (F z m Q)).heap[w.heap.size]? = some (cZ [E J h,F a1 k c1,F (some ⟨g,0,none⟩) no c2].toArray 59 (0,0)))/\Hid (((w5.setCell ⟨g,j*2,none⟩ (E J x.1)).setCell ⟨g,j*2+1,none⟩ (F z m Q)).heap[w.heap.size+1]? = some (cZ [E J 0,F none 0 0,F none 0 0].toArray 59 (0,0)))/\Hid (ZD w ((w5.setCell ⟨g,j*2,none⟩ (E J x.1)).setCell ⟨g,j*2+1,none⟩ (F z m Q)))/\Hid (G<=((w5.setCell ⟨g,j*2,none⟩ (E J x.1)).setCell ⟨g,j*2+1,none⟩ (F z m Q)).heap.size)):=by
       intro w5 z Q aa al;have bh:=Za ek;have ah:=((Gr.refl w5 (λq=>q=g)).one g (j*2) (.inl rfl) (E J x.1)).one g (j*2+1) (.inl rfl) (F z m Q);have df:=aa.size;refine⟨?_,Zka aj am ak hx aa al (aT bh af.size),?_,?_,?_,?_⟩
       ·exact (br.keep aa).gr ah (λq e=>by omega) (λq hq e=>own_apart aj.own br.own (by decide) q (by rw[e];rfl) hq)
       ·exact ah.heap (ZE aa ay) (by omega)
       ·exact ah.heap (ZE aa dt) (by omega)
       ·exact ah.below (Zf cd aa) (by have:=aA ay;omega) (λq e=>by omega)
       ·exact aT bh (aT df ah.size)
      have FR:=Zd (λj=>aj.free j);have es:(j:Int)<(no:Int):=(by omega);clear an bj ax hx eK af bi;go_wp2_with fail;rw[<-au];clear au
      go_region_with (go_at_call 161;refine CO.mono ?_;rintro e w5 ⟨z,Q,rfl,al,aa⟩;have ae:=Zf (Zf cc (Zi _)) aa;have HN:=Zd (NX w5 z Q ae al);have q1:=Ze aa (Ze (Zi _) t2);have q2:=Ze ae r0;have ga:=Ze ae r1;have q3:w5.frozen? ⟨g,j*2,none⟩=false:=(aO (a:=⟨g,j*2,none⟩) (ae.block g bd)).trans (FR _);have gb:w5.frozen? ⟨g,j*2+1,none⟩=false:=(aO (a:=⟨g,j*2+1,none⟩) (ae.block g bd)).trans (FR _);have q4:=aD bd ae.size;have q5:=aD (aA ay) ae.size;clear al aa ae)
      all_goals
       go_wp2;go_roundw
       case rel=>
        obtain⟨f1,f2,f3,f4,f5,f6⟩:=Za HN;exact⟨j+1,_,by omega,by go_num,f1,f2,f3,f4,f5,f6⟩
       case measure=>simp[intOf];omega
     ·have e:j=no:=(by omega);subst e;obtain⟨s0,s1,s2,sl⟩:=kc3 ay;obtain⟨y0,y1,y2,z0,z1,z2,yl⟩:=kf3 dt
      have R:Hid (Fresh (w.heap.size+2) wr (λw2=>txR.C w2 [E J h,F a1 k c1,F a2 j c2] (h,I,O))):=by
       obtain⟨a',c',e1,h1⟩:=br.rows ef;obtain⟨fp,ft,e2,h2⟩:=aj.rows ef;cases e1;cases e2;exact λw2 g2=>⟨_,_,_,_,_,_,rfl,(h1 w2 g2).1,(h1 w2 g2).2,(h2 w2 g2).1,(h2 w2 g2).2⟩
      clear br aj;go_wp2;(try simp only[Exit.inBlock,Exit.then]);have hG:=((Gr.refl wr (λq=>q=w.heap.size+1)).one (w.heap.size+1) 0 (.inl rfl) (E J h)).one (w.heap.size+1) 1 (.inl rfl) (F a1 k c1) |>.one (w.heap.size+1) 2 (.inl rfl) (F a2 j c2);refine aW (v:=.agg #[E J h,F a1 k c1,F a2 j c2]) ?_ rfl ⟨a1,c1,a2,c2,rfl,(R.on (hG.mono λq _ e=>by omega)).less (by omega),?_⟩
      ·rw[Yn rfl];go_simp
      ·exact hG.below cd (by omega) (λq e=>by omega)
def TxSmall(t:TxD):Prop:=t.2.1.length<=3518437208883/\t.2.2.length<=4398046511104/\(∀ x∈t.2.1,x.2.2.length<=8796093022208)/\∀ x∈t.2.2,x.2.length<=8796093022208
theorem Znd{G B w0s:Nat}{w0 wr w5:World}{g cap n k:Nat}{K:List (List Value)}{T:List TxD}{x u0 u1 u2}(h:Cl txR 59 B G w0 wr (F (some ⟨g,0,none⟩) n cap) n K T k)(hk:k<T.length)(ac:k<K.length)(hx:T[k]=x)(Q:ZD wr w5)(hf:Fresh w0s w5 (λw2=>txR.C w2 [u0,u1,u2] x))(z:G<=w0s) :
  Cl txR 59 B G w0 (((w5.setCell ⟨g,k*3,none⟩ u0).setCell ⟨g,k*3+1,none⟩ u1).setCell ⟨g,k*3+2,none⟩ u2) (F (some ⟨g,0,none⟩) n cap) n (K.set k [u0,u1,u2]) T (k+1):=by
 have h5:=h.keep Q;refine h5.step hk ?_ ((((Gr.refl w5 (λq=>q=g)).one g (k*3) (.inl rfl) _).one g (k*3+1) (.inl rfl) _).one g (k*3+2) (.inl rfl) _) ?_
 ·rw[hx];exact hf.less z
 ·have h1:=(((h5.own.stored (k*3) u0).1.stored (k*3+1) u1).1.stored (k*3+2) u2).1;rw[put3 h5.wid k ac] at h1;exact h1
theorem clTxs_is(ag m c T)(w:World)(hT:TxsAt w ag m T)(sT:SlOk ag m c)(hm:m<=2513169434916)(hs:∀ t∈T,TxSmall t) :
  Calls Tryz.prog 142 #[F ag m c] w λe w'=>∃ a' c',e = dA (F a' m c')/\Fresh w.heap.size w' (λw2=>TxsAt w2 a' m T/\SlOk a' m c')/\ZD w w':=by
 obtain⟨cb,bf,C1⟩:=kh3 hs hT.1 (Ei ag m c T w w hm hT ⟨rfl,rfl,rfl,aF _,λ_ _=>rfl⟩ sT);clear hT sT hs;go_enter func142,ntmps142;go_wp2_with fail;refine C1.mono ?_;rintro e w3 ⟨v,K1,rfl,hA,ho,ay⟩;obtain⟨a1,c1,rfl,_,_⟩:=Z7 ho;obtain⟨G,hG⟩:=ZF (w3.heap.size);have cl:w.heap.size<=G:=by rw[<-hG];exact ay.size
 have bh:Hid (Cl txR 59 w.heap.size G w w3 (F a1 m c1) m K1 T 0):=Cl.start ho hA bf (bL hG);have HB:=Zd ay;have be:Hid (G<=w3.heap.size):=bL hG.symm;clear hA ho ay hG C1;go_wp2
 go_loopw [9] (λi wr=>∃ (k:Nat) (K:List (List Value)),k<=m/\i = E J k/\Hid (Cl txR 59 w.heap.size G w wr (F a1 m c1) m K T k)/\Hid (ZD w wr)/\Hid (G<=wr.heap.size)) (λi _=>m - (intOf i).toNat)
 case atStart=>exact⟨0,K1,aL _,rfl,bh,HB,be⟩
 case round=>
  obtain⟨k,K,hk,rfl,z,ae,bz⟩:=hrel;clear bh HB be;by_cases cm:k<m
  ·have ap:k<T.length:=(by rw[Za bf];exact cm);have ad:k<K.length:=(by rw[(Za z).len];exact ap);obtain⟨g,cap,ev,cy,cz,an⟩:=z.form (by omega);cases ev;obtain⟨ai,ni,ci,ao,no,co,eK,hI,sI,hO,sO⟩:=z.old k ap ad (aF _);have ab:=cb _ (aQ ap);obtain⟨x,hx⟩:=ZF (T[k]);rw[hx] at eK hI hO ab;have r0:=z.cell k ad 0 (by decide);have r1:=z.cell k ad 1 (by decide);have r2:=z.cell k ad 2 (by decide);rw[eK] at r0 r1 r2;have r0:wr.cell? ⟨g,k*3,none⟩=some (E J x.1):=r0;have r1:wr.cell? ⟨g,k*3+1,none⟩=some (F ai ni ci):=r1;have r2:wr.cell? ⟨g,k*3+2,none⟩=some (F ao no co):=r2;obtain⟨X1,bo,al,bq⟩:=ka00 wr [E J x.1,F ai ni ci,F ao no co] 59;obtain⟨b0,b1,b2,bl⟩:=kc3 bq;have bx:=Zd al;have az:=Zf ae al;have CO:=Zd (clTx_is x.1 ai ao ni ci no co x.2.1 x.2.2 X1 (hI.later az) (hO.later az) sI sO (by rw[<-hI.1];exact ab.1) (by rw[<-hO.1];exact ab.2.1) ab.2.2.1 ab.2.2.2)
   have NX:Hid (∀ w5 u0 u1 u2,ZD wr w5->Fresh X1.heap.size w5 (λw2=>txR.C w2 [u0,u1,u2] x) ->
     Hid (Cl txR 59 w.heap.size G w (((w5.setCell ⟨g,k*3,none⟩ u0).setCell ⟨g,k*3+1,none⟩ u1).setCell ⟨g,k*3+2,none⟩ u2) (F (some ⟨g,0,none⟩) m c1) m (K.set k [u0,u1,u2]) T (k+1))/\Hid (ZD w (((w5.setCell ⟨g,k*3,none⟩ u0).setCell ⟨g,k*3+1,none⟩ u1).setCell ⟨g,k*3+2,none⟩ u2))/\Hid (G<=(((w5.setCell ⟨g,k*3,none⟩ u0).setCell ⟨g,k*3+1,none⟩ u1).setCell ⟨g,k*3+2,none⟩ u2).heap.size)):=by
    intro w5 u0 u1 u2 aa am;have bk:=Za bz;have br:=(((Gr.refl w5 (λq=>q=g)).one g (k*3) (.inl rfl) u0).one g (k*3+1) (.inl rfl) u1).one g (k*3+2) (.inl rfl) u2;have cp:=aa.size;refine⟨Znd z ap ad hx aa am (aT bk al.size),?_,?_⟩
    ·exact br.below (Zf ae aa) (by have:=ae.size;omega) (λq e=>by omega)
    ·exact aT bk (aT cp br.size)
   have FR:=Zd (λj=>z.free j);have db:(k:Int)<(m:Int):=(by omega);clear hI hO sI sO ab hx eK al bq az;go_wp2_with fail;rw[<-bo];clear bo;(try go_wp2_with fail);refine CO.mono ?_;rintro e w5 ⟨a5,c5,a6,c6,rfl,am,aa⟩;have Q:=Zf bx aa;have HN:=Zd (NX w5 _ _ _ Q am);have s0:=Ze Q r0;have s1:=Ze Q r1;have s2:=Ze Q r2;have q3:w5.frozen? ⟨g,k*3,none⟩=false:=(aO (a:=⟨g,k*3,none⟩) (Q.block g an)).trans (FR _);have dd:w5.frozen? ⟨g,k*3+1,none⟩=false:=(aO (a:=⟨g,k*3+1,none⟩) (Q.block g an)).trans (FR _);have de:w5.frozen? ⟨g,k*3+2,none⟩=false:=(aO (a:=⟨g,k*3+2,none⟩) (Q.block g an)).trans (FR _);have q4:=aD an Q.size;clear am aa Q;go_wp2;go_roundw
   case rel=>
    obtain⟨f1,f5,f6⟩:=Za HN;exact⟨k+1,_,by omega,by go_num,f1,f5,f6⟩
   case measure=>simp[intOf];omega
  ·have e:k=m:=(by omega);subst e
   have R:Hid (Fresh w.heap.size wr (λw2=>TxsAt w2 a1 k T/\SlOk a1 k c1)):=by
    obtain⟨a',c',e1,h1⟩:=z.rows cl;cases e1;exact h1
   clear z;go_wp2;go_ret;exact⟨a1,c1,rfl,Za R,Za ae⟩
theorem clBlock_is(p h z o:Int)(Q m c T)(w:World)(hT:TxsAt w Q m T)(sT:SlOk Q m c)(hm:m<=2513169434916)(hs:∀ t∈T,TxSmall t) :
  Calls Tryz.prog 71 #[.agg #[E J p,E J h,E J z,E J o,F Q m c]] w λe w'=>∃ a' c',e = dA (.agg #[E J p,E J h,E J z,E J o,F a' m c'])/\Fresh w.heap.size w' (λw2=>blkR.C w2 [E J p,E J h,E J z,E J o,F a' m c'] (p,h,z,o,T))/\ZD w w':=by
 obtain⟨X,hX⟩:=ZG ((w.alloc (cZ #[E J p,E J h,E J z,E J o,F Q m c] 39)).alloc (cZ #[E J 0,E J 0,E J 0,E J 0,F none 0 0] 39));have ae:ZD w X:=by rw[hX];exact Zf (Zh _ _) (Zh _ _)
 have ad:X.heap[w.heap.size]? = some (cZ [E J p,E J h,E J z,E J o,F Q m c].toArray 39 (0,0)):=by
  rw[hX,Below.heap_alloc _ _ _ (by simp)];exact Zz _ _ _ _ _ _ _
 have ap:X.heap.size=w.heap.size+2:=by rw[hX];simp
 have an:X.heap[w.heap.size+1]? = some (cZ [E J 0,E J 0,E J 0,E J 0,F none 0 0].toArray 39 (0,0)):=by
  rw[hX];have:=Zz (w.alloc (cZ #[E J p,E J h,E J z,E J o,F Q m c] 39)) (E J 0) (E J 0) (E J 0) (E J 0) (F none 0 0) 39;rw[show (w.alloc (cZ #[E J p,E J h,E J z,E J o,F Q m c] 39)).heap.size=w.heap.size+1 by simp] at this;exact this
 obtain⟨af,ag,ah,aj,C1⟩:=kh5 ae ad an ap (clTxs_is Q m c T X (hT.later ae) sT hm hs);obtain⟨-,-,-,-,x4,xl⟩:=kc5 ad;clear ae ad an hT sT hs ap;go_enter func71,ntmps71;go_wp2_with fail;rw[<-hX];clear hX;(try go_wp2_with fail);refine C1.mono ?_;rintro e w3 ⟨a1,c1,rfl,aq,ac⟩;have h30:=ZE ac ag;have h31:=ZE ac ah;obtain⟨s0,s1,s2,s3,d4,-,-,-,-,z9,dl⟩:=kf5 h30;obtain⟨y0,y1,y2,y3,y4,z0,z1,z2,z3,z4,yl⟩:=kf5 h31;obtain⟨au,HF⟩:=kh2 (Zf af ac) aq;clear aq ac h30 h31 C1 ag ah af x4 xl;go_wp2;(try simp only[Exit.inBlock,Exit.then]);have hG:=((((((Gr.refl w3 (λq=>q=w.heap.size\/q=w.heap.size+1)).one w.heap.size 4 (.inl (.inl rfl)) (F a1 m c1)).one (w.heap.size+1) 0 (.inl (.inr rfl)) (E J p)).one (w.heap.size+1) 1 (.inl (.inr rfl)) (E J h)).one (w.heap.size+1) 2 (.inl (.inr rfl)) (E J z)).one (w.heap.size+1) 3 (.inl (.inr rfl)) (E J o)).one (w.heap.size+1) 4 (.inl (.inr rfl)) (F a1 m c1);refine aW (v:=.agg #[E J p,E J h,E J z,E J o,F a1 m c1]) ?_ rfl ⟨a1,c1,rfl,?_,?_⟩
 ·rw[Yn rfl];go_simp
 ·refine ((Fresh.imp HF λw2 h=>⟨_,_,_,rfl,h.1,h.2⟩).on (hG.mono λq _ e=>by have:=Za aj;omega)).less (by have:=Za aj;omega)
 ·exact hG.below au (by omega) (λq e=>by omega)
theorem Zmj{G B w0s:Nat}{w0 wr w5:World}{g cap n k:Nat}{K:List (List Value)}{T:List Zl}{x:Zl}{u0 u1 u2 u3 u4}(h:Cl blkR 39 B G w0 wr (F (some ⟨g,0,none⟩) n cap) n K T k)(hk:k<T.length)(ac:k<K.length)(hx:T[k]=x)(Q:ZD wr w5)(hf:Fresh w0s w5 (λw2=>blkR.C w2 [u0,u1,u2,u3,u4] x))(z:G<=w0s) :
  Cl blkR 39 B G w0 (((((w5.setCell ⟨g,k*5,none⟩ u0).setCell ⟨g,k*5+1,none⟩ u1).setCell ⟨g,k*5+2,none⟩ u2).setCell ⟨g,k*5+3,none⟩ u3).setCell ⟨g,k*5+4,none⟩ u4) (F (some ⟨g,0,none⟩) n cap) n (K.set k [u0,u1,u2,u3,u4]) T (k+1):=by
 have h5:=h.keep Q;refine h5.step hk ?_ ((((((Gr.refl w5 (λq=>q=g)).one g (k*5) (.inl rfl) _).one g (k*5+1) (.inl rfl) _).one g (k*5+2) (.inl rfl) _).one g (k*5+3) (.inl rfl) _).one g (k*5+4) (.inl rfl) _) ?_
 ·rw[hx];exact hf.less z
 ·have h1:=(((((h5.own.stored (k*5) u0).1.stored (k*5+1) u1).1.stored (k*5+2) u2).1.stored (k*5+3) u3).1.stored (k*5+4) u4).1;rw[put5 h5.wid k ac] at h1;exact h1
def Zeq(w:World)(N:List Int)(T:List Zl)(n:Nat)(v1 v2:Value)(wx:World):Prop:=
 ∃ K,AllC blkR w K T/\wx.ownsRow (w.heap.size+2) 3 1 v1 n (N.map (cH .i64))/\wx.ownsRow (w.heap.size+2) 39 5 v2 n K.flatten /\
  wx.heap[w.heap.size]? = some (cZ [v1,v2].toArray 28 (0,0))/\wx.heap[w.heap.size+1]? = some (cZ [F none 0 0,F none 0 0].toArray 28 (0,0))/\ZD w wx
theorem L8{w W wx:World}{N:List Int}{T}{n:Nat}{v1 v2}{K:List (List Value)}(h1:AllC blkR w K T)(o1:W.ownsRow (w.heap.size+2) 3 1 v1 n (N.map (cH .i64)))(o2:W.ownsRow (w.heap.size+2) 39 5 v2 n K.flatten)(hb:ZD w W)
  (hz:W.heap[w.heap.size+1]? = some (cZ [F none 0 0,F none 0 0].toArray 28 (0,0))) (z:Gr W wx (λq=>q=w.heap.size)) (hx:wx.heap[w.heap.size]? = some (cZ [v1,v2].toArray 28 (0,0))):Zeq w N T n v1 v2 wx:=
 ⟨K,h1,z.own o1 (λk Q=>by have:=(o1.lt k Q).1;omega),z.own o2 (λk Q=>by have:=(o2.lt k Q).1;omega),hx,z.heap hz (by omega),z.below hb (by have:=aA hz;omega) (λk Q=>by omega)⟩
def BlkSmall(b:Zl):Prop:=b.2.2.2.2.length<=2513169434916/\∀ t∈b.2.2.2.2,TxSmall t
def TreeOwn(B:Nat)(w:World)(v1 v2:Value)(n:Nat)(N:List Int)(T:List Zl):Prop:=
 ∃ K G,w.ownsRow B 3 1 v1 n (N.map (cH .i64))/\w.ownsRow B 39 5 v2 n K.flatten/\(∀ q,v1.ownBlock=some q->q<G)/\(∀ q,v2.ownBlock=some q->q<G)/\B<=G/\T.length=n/\Fresh G w (λw2=>AllC blkR w2 K T)
theorem TreeOwn.gr{B:Nat}{w w' v1 v2}{n:Nat}{N T}(h:TreeOwn B w v1 v2 n N T)(g:Gr w w' (λq=>q<B)):TreeOwn B w' v1 v2 n N T:=by
 obtain⟨K,G,h1,h2,h3,h4,h5,h6,h7⟩:=h;exact⟨K,G,g.own h1 (λq hq=>by have:=(h1.lt q hq).1;omega),g.own h2 (λq hq=>by have:=(h2.lt q hq).1;omega),h3,h4,h5,h6,h7.on (g.mono λq _ hq=>by omega)⟩
theorem TreeOwn.less{B z:Nat}{w v1 v2}{n:Nat}{N T}(h:TreeOwn z w v1 v2 n N T)(Q:B<=z):TreeOwn B w v1 v2 n N T:=by
 obtain⟨K,G,h1,h2,h3,h4,h5,h6,h7⟩:=h;exact⟨K,G,Yx h1 Q,Yx h2 Q,h3,h4,by omega,h6,h7⟩
theorem TreeOwn.read{B:Nat}{w v1 v2}{n:Nat}{N T}(h:TreeOwn B w v1 v2 n N T):∃ z c1 Q c2,v1 = F z n c1/\v2 = F Q n c2/\IntsAt w z n N/\SlOk z n c1/\BlksAt w Q n T/\SlOk Q n c2:=by
 obtain⟨K,G,h1,h2,h3,h4,h5,h6,h7⟩:=h;obtain⟨z,c1,rfl,s1,i1⟩:=ints_of_own h1;obtain⟨Q,c2,rfl,r2,s2⟩:=rows_of_own blkR h2 h7.now h6;exact⟨z,c1,Q,c2,rfl,rfl,i1,s1,r2,s2⟩
theorem clTree_is(a b n c d N T)(w:World)(hN:IntsAt w a n N)(hT:BlksAt w b n T)(sN:SlOk a n c)(sT:SlOk b n d)(hn:n<=4096)(hs:∀ t∈T,BlkSmall t) :
  Calls Tryz.prog 135 #[.agg #[F a n c,F b n d]] w λe w'=>∃ v1 v2,e = dA (.agg #[v1,v2])/\TreeOwn (w.heap.size+2) w' v1 v2 n N T/\ZD w w':=by
 obtain⟨X,hX⟩:=ZG ((w.alloc (cZ #[F a n c,F b n d] 28)).alloc (cZ #[F none 0 0,F none 0 0] 28));have bx:ZD w X:=by rw[hX];exact Zf (Zh _ _) (Zh _ _)
 have bv:X.heap[w.heap.size]? = some (cZ [F a n c,F b n d].toArray 28 (0,0)):=by
  rw[hX,Below.heap_alloc _ _ _ (by simp)];exact Y2 _ _ _ _
 have dg:X.heap.size=w.heap.size+2:=by rw[hX];simp
 have au:X.heap[w.heap.size+1]? = some (cZ [F none 0 0,F none 0 0].toArray 28 (0,0)):=by
  rw[hX];have:=Y2 (w.alloc (cZ #[F a n c,F b n d] 28)) (F none 0 0) (F none 0 0) 28;rw[show (w.alloc (cZ #[F a n c,F b n d] 28)).heap.size=w.heap.size+1 by simp] at this;exact this
 obtain⟨ct,bt,cy,cz,ds,ep,bu,C1⟩:=kh8 bx bv au dg hs hN.1 hT.1 (Fx a n c N X.drew hn (hN.later (Zf bx (Zi X))) sN);have C2:=Zd (λW (hb:ZD w W)=>Fz b n d T w W (aT hn (by decide)) hT hb sT);obtain⟨x0,x1,xl⟩:=kc2 bv;clear bx bv au hN hT sN sT hs dg;go_enter func135,ntmps135
 go_upto_region 1 with fail
 rw[<-hX];clear hX
 go_cut [7,10] from 5 to 12 (λs7 ei wx=>Hid (Zeq w N T n s7 ei wx))
 case first=>
  go_region_with (first
   | (go_at_call 47;refine C1.mono ?_;rintro e w3 ⟨v1,rfl,ag,az⟩;have h30:=ZE az bt;have d0:=Zb h30 0 _ rfl;have d1:=Zb h30 1 _ rfl;have dl:=aA h30;have cw:Hid (w3.ownsRow (w.heap.size+2) 3 1 v1 n (N.map (cH .i64))):=Yx ag (bL cz.symm);have cn:=Zd (Zf (Zf ct (Zi _)) az);have cp:=Zd (Zf (Zi X) az);clear ag az h30)
   | (go_at_call 196;refine (C2 _ cn).mono ?_;rintro e w4 ⟨v2,K2,rfl,hA2,am,bb⟩;have bz:=Zf cp bb;have h40:=ZE bz bt;have h41:=ZE bz cy;have e0:=Zb h40 0 _ rfl;have e1:=Zb h40 1 _ rfl;have z0:=Zg h40 0;have z1:=Zg h40 1;have el:=aA h40;have cj:=Zd hA2;have bs:Hid (w4.ownsRow (w.heap.size+2) 39 5 v2 n K2.flatten):=Yx am (by have:=cp.size;have:=Za cz;omega);have cx:=Zd ((Gr.of (S:=λ_=>False) bb).own cw (λ_ _ q=>q));have cq:=Zd (Zf cn bb);have cf:=Zd h40;have cg:=Zd h41;obtain⟨a2,c2,rfl,_,_⟩:=Z7 bs;obtain⟨a1,c1,rfl,_,_⟩:=Z7 cw;clear hA2 am bb bz h40 h41))
  all_goals
   go_wp2_with fail;go_meet
   case rel=>
    first
    | exact L8 (W:=w4) cj cx bs cq cg (((Gr.refl w4 (λq=>q=w.heap.size)).one w.heap.size 0 (.inl rfl) _).one w.heap.size 1 (.inl rfl) _) (set_cells (set_cells cf 0 _) 1 _)
    | exact L8 (W:=w4) cj cx bs cq cg (((Gr.refl w4 (λq=>q=w.heap.size)).one w.heap.size 1 (.inl rfl) _).one w.heap.size 0 (.inl rfl) _) (set_cells (set_cells cf 1 _) 0 _)
 case rest=>
  obtain⟨K1,hA1,ag,am,h0,h1,hb⟩:=Za hcut;obtain⟨a1,c1,rfl,_,_⟩:=Z7 ag;obtain⟨a2,c2,rfl,_,_⟩:=Z7 am;obtain⟨G,hG⟩:=ZF (wc.heap.size);have ee:w.heap.size+2<=G:=by rw[<-hG];exact aA h1
  have db:Hid (wc.ownsRow (w.heap.size+2) 3 1 (F a1 n c1) n (N.map (cH .i64))):=ag;have dp:Hid (∀ q,(Value.slice a1 n c1).ownBlock=some q->q<G):=λq hq=>by have:=(ag.lt q hq).2;omega
  have dc:Hid (Cl blkR 39 (w.heap.size+2) G w wc (F a2 n c2) n K1 T 0):=Cl.start am hA1 bu (bL hG);obtain⟨H0,H1,HB⟩:=kh3 h0 h1 hb;have cu:Hid (G<=wc.heap.size):=bL hG.symm;obtain⟨-,dv,dw⟩:=kc2 h0;clear hcut hA1 ag am h0 h1 hb C1 C2 bt cy ct x0 x1 xl hG;go_wp2
  go_loopw [16] (λi wr=>∃ (k:Nat) (K:List (List Value)),k<=n/\i = E J k/\Hid (wr.ownsRow (w.heap.size+2) 3 1 (F a1 n c1) n (N.map (cH .i64)))/\Hid (Cl blkR 39 (w.heap.size+2) G w wr (F a2 n c2) n K T k)/\Hid (wr.heap[w.heap.size]? = some (cZ [F a1 n c1,F a2 n c2].toArray 28 (0,0)))/\Hid (wr.heap[w.heap.size+1]? = some (cZ [F none 0 0,F none 0 0].toArray 28 (0,0)))/\Hid (ZD w wr)/\Hid (G<=wr.heap.size)) (λi _=>n - (intOf i).toNat)
  case atStart=>exact⟨0,K1,aL _,rfl,db,dc,H0,H1,HB,cu⟩
  case round=>
   obtain⟨k,K,hk,rfl,aw,z,ah,cm,br,dq⟩:=hrel;clear db dc H0 H1 HB cu dv dw;by_cases ef:k<n
   ·have be:k<T.length:=(by rw[Za bu];exact ef);have af:k<K.length:=(by rw[(Za z).len];exact be);obtain⟨g,cap,ev,fc,fd,al⟩:=z.form (by omega);cases ev;obtain⟨ta,tn,tc,eK,hI,sI⟩:=z.old k be af (aF _);have bf:=ds _ (aQ be);obtain⟨x,hx⟩:=ZF (T[k]);rw[hx] at eK hI bf;obtain⟨x0,x1,x2,x3,x4⟩:=x;simp only at eK hI;have r0:=z.cell k af 0 (by decide);have r1:=z.cell k af 1 (by decide);have r2:=z.cell k af 2 (by decide);have r3:=z.cell k af 3 (by decide);have r4:=z.cell k af 4 (by decide);rw[eK] at r0 r1 r2 r3 r4;have r0:wr.cell? ⟨g,k*5,none⟩=some (E J x0):=r0;have r1:wr.cell? ⟨g,k*5+1,none⟩=some (E J x1):=r1;have r2:wr.cell? ⟨g,k*5+2,none⟩=some (E J x2):=r2;have r3:wr.cell? ⟨g,k*5+3,none⟩=some (E J x3):=r3;have r4:wr.cell? ⟨g,k*5+4,none⟩=some (F ta tn tc):=r4;obtain⟨X1,au,ak,df⟩:=ka00 wr [E J x0,E J x1,E J x2,E J x3,F ta tn tc] 39;obtain⟨b0,b1,b2,b3,b4,bl⟩:=kc5 df;have t1:=Ze ak (Zb ah 1 _ rfl);have tl:=aD (aA ah) ak.size;have dn:=Zd ak;have dh:=Zf (Zf br ak) (Zi _);have CO:=Zd (clBlock_is x0 x1 x2 x3 ta tn tc x4 X1.drew (hI.later dh) sI (by rw[<-hI.1];exact bf.1) bf.2)
    have NX:Hid (∀ w5 u0 u1 u2 u3 u4,ZD wr w5->Fresh X1.drew.heap.size w5 (λw2=>blkR.C w2 [u0,u1,u2,u3,u4] (x0,x1,x2,x3,x4)) ->
      Hid ((((((w5.setCell ⟨g,k*5,none⟩ u0).setCell ⟨g,k*5+1,none⟩ u1).setCell ⟨g,k*5+2,none⟩ u2).setCell ⟨g,k*5+3,none⟩ u3).setCell ⟨g,k*5+4,none⟩ u4).ownsRow (w.heap.size+2) 3 1 (F a1 n c1) n (N.map (cH .i64)))/\Hid (Cl blkR 39 (w.heap.size+2) G w (((((w5.setCell ⟨g,k*5,none⟩ u0).setCell ⟨g,k*5+1,none⟩ u1).setCell ⟨g,k*5+2,none⟩ u2).setCell ⟨g,k*5+3,none⟩ u3).setCell ⟨g,k*5+4,none⟩ u4) (F (some ⟨g,0,none⟩) n c2) n (K.set k [u0,u1,u2,u3,u4]) T (k+1))/\Hid ((((((w5.setCell ⟨g,k*5,none⟩ u0).setCell ⟨g,k*5+1,none⟩ u1).setCell ⟨g,k*5+2,none⟩ u2).setCell ⟨g,k*5+3,none⟩ u3).setCell ⟨g,k*5+4,none⟩ u4).heap[w.heap.size]? = some (cZ [F a1 n c1,F (some ⟨g,0,none⟩) n c2].toArray 28 (0,0)))/\Hid ((((((w5.setCell ⟨g,k*5,none⟩ u0).setCell ⟨g,k*5+1,none⟩ u1).setCell ⟨g,k*5+2,none⟩ u2).setCell ⟨g,k*5+3,none⟩ u3).setCell ⟨g,k*5+4,none⟩ u4).heap[w.heap.size+1]? = some (cZ [F none 0 0,F none 0 0].toArray 28 (0,0)))/\Hid (ZD w (((((w5.setCell ⟨g,k*5,none⟩ u0).setCell ⟨g,k*5+1,none⟩ u1).setCell ⟨g,k*5+2,none⟩ u2).setCell ⟨g,k*5+3,none⟩ u3).setCell ⟨g,k*5+4,none⟩ u4))/\Hid (G<=(((((w5.setCell ⟨g,k*5,none⟩ u0).setCell ⟨g,k*5+1,none⟩ u1).setCell ⟨g,k*5+2,none⟩ u2).setCell ⟨g,k*5+3,none⟩ u3).setCell ⟨g,k*5+4,none⟩ u4).heap.size)):=by
     intro w5 u0 u1 u2 u3 u4 ab bd;have de:=Za dq;have av:=(((((Gr.refl w5 (λq=>q=g)).one g (k*5) (.inl rfl) u0).one g (k*5+1) (.inl rfl) u1).one g (k*5+2) (.inl rfl) u2).one g (k*5+3) (.inl rfl) u3).one g (k*5+4) (.inl rfl) u4;have eg:=ab.size;refine⟨?_,Zmj z be af hx ab bd (aT de ak.size),?_,?_,?_,?_⟩
     ·exact av.own ((Gr.of (S:=λ_=>False) ab).own aw (λ_ _ q=>q)) (λq hq e=>own_apart z.own aw (by decide) q (by rw[e];rfl) hq)
     ·exact av.heap (ZE ab ah) (by omega)
     ·exact av.heap (ZE ab cm) (by omega)
     ·exact av.below (Zf br ab) (by have:=aA ah;omega) (λq e=>by omega)
     ·exact aT de (aT eg av.size)
    have FR:=Zd (λj=>z.free j);have ff:(k:Int)<(n:Int):=(by omega);clear hI sI bf hx eK ak df dh;go_wp2_with fail;rw[<-au];clear au
    go_region_with (go_at_call 71;refine CO.mono ?_;rintro e w5 ⟨a5,c5,rfl,bd,ab⟩;have Q:=Zf (Zf dn (Zi _)) ab;have HN:=Zd (NX w5 _ _ _ _ _ Q bd);have q1:=Ze ab (Ze (Zi _) t1);have s0:=Ze Q r0;have s1:=Ze Q r1;have s2:=Ze Q r2;have s3:=Ze Q r3;have s4:=Ze Q r4;have q3:w5.frozen? ⟨g,k*5,none⟩=false:=(aO (a:=⟨g,k*5,none⟩) (Q.block g al)).trans (FR _);have fi:w5.frozen? ⟨g,k*5+1,none⟩=false:=(aO (a:=⟨g,k*5+1,none⟩) (Q.block g al)).trans (FR _);have fj:w5.frozen? ⟨g,k*5+2,none⟩=false:=(aO (a:=⟨g,k*5+2,none⟩) (Q.block g al)).trans (FR _);have fk:w5.frozen? ⟨g,k*5+3,none⟩=false:=(aO (a:=⟨g,k*5+3,none⟩) (Q.block g al)).trans (FR _);have fl:w5.frozen? ⟨g,k*5+4,none⟩=false:=(aO (a:=⟨g,k*5+4,none⟩) (Q.block g al)).trans (FR _);have q4:=aD al Q.size;have q5:=aD (aA ah) Q.size;clear bd ab Q)
    all_goals
     go_wp2;go_roundw
     case rel=>
      obtain⟨f1,f2,f3,f4,f5,f6⟩:=Za HN;exact⟨k+1,_,by omega,by go_num,f1,f2,f3,f4,f5,f6⟩
     case measure=>simp[intOf];omega
   ·have e:k=n:=(by omega);subst e;obtain⟨s0,s1,sl⟩:=kc2 ah;obtain⟨y0,y1,z0,z1,yl⟩:=kf2 cm
    have R:Hid (TreeOwn (w.heap.size+2) wr (F a1 k c1) (F a2 k c2) k N T):=
     ⟨K,G,Za aw,z.own,Za dp,z.gt,ee,Za bu,z.done⟩
    clear z aw;go_wp2;(try simp only[Exit.inBlock,Exit.then]);have hG:=((Gr.refl wr (λq=>q=w.heap.size+1)).one (w.heap.size+1) 0 (.inl rfl) (F a1 k c1)).one (w.heap.size+1) 1 (.inl rfl) (F a2 k c2);refine aW (v:=.agg #[F a1 k c1,F a2 k c2]) ?_ rfl ⟨_,_,rfl,R.gr (hG.mono λq _ e=>by omega),?_⟩
    ·rw[Yn rfl];go_simp
    ·exact hG.below br (by omega) (λq e=>by omega)
