import Derived.Test.YtbddijbmepdliaaGreatDoorH
import Derived.Test.YtbddijbmepdliaaGreatDoorG5
open Option renaming none->aD,some->dG
open Go.Proofs.Tryz
open Classical renaming not_not->cC
open Go renaming lt_of_block->aA,bodyPost_ret->aL,maxLen->aT,info_parts->bX,heap_alloc_new->aG,wp_loop_rounds->bB,rounds_succ->aS
open Go.Ending renaming returned->dB
open Go.IntKind renaming wrap_i64->aP,i64->J
open Go.Obj renaming cells->dA
open Go.Proofs.Tryz renaming prog->aB,underlying25->cR
open Go.Region renaming wanted->cL
open Go.RowKit.Below renaming heap_alloc->bJ
open Go.Value renaming int->aU,slice->bW,int->E,slice->F,tuple->dC,bool->dF
open Go.World renaming frozen?_of_block->bY,news_of_block->bI
open List renaming getElem_mem->aQ,drop_eq_getElem_cons->aK,drop_of_length_le->bA,length_cons->cK,take_succ_eq_append_getElem->aH,mem_append->bM,mem_singleton->cT,mem_cons->aW,length_append->bL,take_of_length_le->aM,length_eq_zero_iff->aJ,length_take->aV,getElem?_eq_some_iff->cD,getElem?_eq_getElem->bR
open Nat renaming zero_le->aI,le_refl->aE,lt_of_lt_of_le->aF,le_trans->aO
set_option maxHeartbeats 12800000
set_option maxRecDepth 10000
namespace Go.Proofs.YtbddijbmepdliaaGreatDoor.Tr
open Go.RowKit
theorem Wa{w:World}{B B':Nat}{e e':TypeId}{sz af n n':Nat}{v v':Value}{xs ag}(h:w.ownsRow B e sz v n xs)(h':w.ownsRow B' e' af v' n' ag)(hn:e≠e')(q:Nat)(hq:v.ownBlock=dG q):v'.ownBlock≠dG q:=by
 intro ad;obtain⟨c,f,h1⟩:=Lib.ownsRow_kind h q hq;obtain⟨c',f',h2⟩:=Lib.ownsRow_kind h' q ad;rw[h1] at h2;injection h2 with h2;injection h2 with _ h2;exact hn h2
theorem Zqm{G B ac:Nat}{w0 wr w5:World}{g cap n k:Nat}{K:List (List Value)}{I:List InD}{x:InD}{a a5 m c c5}(h:Cl inR 90 B G w0 wr (F (dG ⟨g,0,aD⟩) n cap) n K I k)(hk:k<I.length)(ah:k<K.length)(hx:I[k]=x)(e:K[k]=[E J x.1,E J x.2.1,F a m c])(hb:ZD wr w5)(hf:Fresh ac w5 (λw2=>OpsAt w2 a5 m x.2.2/\SlOk a5 m c5))(hG:G<=ac) :
  Cl inR 90 B G w0 (w5.setCell ⟨g,k*3+2,aD⟩ (F a5 m c5)) (F (dG ⟨g,0,aD⟩) n cap) n (K.set k [E J x.1,E J x.2.1,F a5 m c5]) I (k+1):=by
 have h5:=h.keep hb;refine h5.step hk ?_ ((Gr.refl w5 (λq=>q=g)).one g (k*3+2) (.inl rfl) _) ?_
 ·rw[hx];exact (hf.less hG).imp λw2 q=>⟨a5,m,c5,rfl,q.1,q.2⟩
 ·have h1:=(h5.own.stored (k*3+2) (F a5 m c5)).1;have h2:=Wf (sz:=3) h5.wid k ah 2 (by decide) (F a5 m c5);rw[e] at h2;rw[h2] at h1;exact h1
theorem Zlq{G B ac:Nat}{w0 wr w5:World}{g cap n k:Nat}{K:List (List Value)}{O:List Yd}{x:Yd}{a5 m c5}(h:Cl outR 92 B G w0 wr (F (dG ⟨g,0,aD⟩) n cap) n K O k)(hk:k<O.length)(ah:k<K.length)(hx:O[k]=x)(hb:ZD wr w5)(hf:Fresh ac w5 (λw2=>OpsAt w2 a5 m x.2/\SlOk a5 m c5))(hG:G<=ac) :
  Cl outR 92 B G w0 ((w5.setCell ⟨g,k*2,aD⟩ (E J x.1)).setCell ⟨g,k*2+1,aD⟩ (F a5 m c5)) (F (dG ⟨g,0,aD⟩) n cap) n (K.set k [E J x.1,F a5 m c5]) O (k+1):=by
 have h5:=h.keep hb;refine h5.step hk ?_ (((Gr.refl w5 (λq=>q=g)).one g (k*2) (.inl rfl) _).one g (k*2+1) (.inl rfl) _) ?_
 ·rw[hx];exact (hf.less hG).imp λw2 q=>⟨a5,m,c5,rfl,q.1,q.2⟩
 ·have h1:=((h5.own.stored (k*2) (E J x.1)).1.stored (k*2+1) (F a5 m c5)).1;rw[put2 h5.wid k ah] at h1;exact h1
def Zrr(w:World)(h:Int)(I:List InD)(O:List Yd)(ni no:Nat)(v1 v2:Value)(wx:World):Prop:=
 ∃ K1 K2,AllC inR w K1 I/\AllC outR w K2 O/\wx.ownsRow (w.heap.size+2) 90 3 v1 ni K1.flatten/\wx.ownsRow (w.heap.size+2) 92 2 v2 no K2.flatten /\
  wx.heap[w.heap.size]? = dG (dA [E J h,v1,v2].toArray 50 (0,0))/\wx.heap[w.heap.size+1]? = dG (dA [E J 0,F aD 0 0,F aD 0 0].toArray 50 (0,0))/\ZD w wx
theorem Zap{w W wx:World}{h:Int}{I O}{ni no:Nat}{v1 v2}{K1 K2:List (List Value)}(h1:AllC inR w K1 I)(h2:AllC outR w K2 O)(o1:W.ownsRow (w.heap.size+2) 90 3 v1 ni K1.flatten)(o2:W.ownsRow (w.heap.size+2) 92 2 v2 no K2.flatten)(hb:ZD w W)
  (hz:W.heap[w.heap.size+1]? = dG (dA [E J 0,F aD 0 0,F aD 0 0].toArray 50 (0,0))) (hg:Gr W wx (λq=>q=w.heap.size)) (hx:wx.heap[w.heap.size]? = dG (dA [E J h,v1,v2].toArray 50 (0,0))):Zrr w h I O ni no v1 v2 wx:=
 ⟨K1,K2,h1,h2,hg.own o1 (λk hk=>by have:=(o1.lt k hk).1;omega),hg.own o2 (λk hk=>by have:=(o2.lt k hk).1;omega),hx,hg.heap hz (by omega),hg.below hb (by have:=aA hz;omega) (λk hk=>by omega)⟩
theorem clTx_is(h:Int)(ai ao ni ci no co I O)(w:World)(hI:InsAt w ai ni I)(hO:OutsAt w ao no O)(sI:SlOk ai ni ci)(sO:SlOk ao no co)(fe:ni<=3518437208883)(ff:no<=4398046511104)(hk:∀ x∈I,x.2.2.length<=8796093022208)(hl:∀ x∈O,x.2.length<=8796093022208) :
  Calls aB 145 #[.agg #[E J h,F ai ni ci,F ao no co]] w λe w'=>∃ a1 c1 a2 c2,e = dB (.agg #[E J h,F a1 ni c1,F a2 no c2])/\Fresh w.heap.size w' (λw2=>txR.C w2 [E J h,F a1 ni c1,F a2 no c2] (h,I,O))/\ZD w w':=by
 obtain⟨X,hX⟩:=ZG ((w.alloc (dA #[E J h,F ai ni ci,F ao no co] 50)).alloc (dA #[E J 0,F aD 0 0,F aD 0 0] 50));have dc:ZD w X:=by rw[hX];exact Zf (Zh _ _) (Zh _ _)
 have db:X.heap[w.heap.size]? = dG (dA [E J h,F ai ni ci,F ao no co].toArray 50 (0,0)):=by
  rw[hX,bJ _ _ _ (by simp)];exact Zu _ _ _ _ _
 have ee:X.heap.size=w.heap.size+2:=by rw[hX];simp
 have av:X.heap[w.heap.size+1]? = dG (dA [E J 0,F aD 0 0,F aD 0 0].toArray 50 (0,0)):=by
  rw[hX];have:=Zu (w.alloc (dA #[E J h,F ai ni ci,F ao no co] 50)) (E J 0) (F aD 0 0) (F aD 0 0) 50;rw[show (w.alloc (dA #[E J h,F ai ni ci,F ao no co] 50)).heap.size=w.heap.size+1 by simp] at this;exact this
 obtain⟨eo,dx,et,dy,er,es,dz,ea⟩:=kh8 dc db av ee hk hl hI.1 hO.1;have C1:=Zb (Zba ai ni ci I w X.drew fe hI (Zf dc (Zj X)) sI);have C2:=Zb (λW (hb:ZD w W)=>A6 ao no co O w W ff hO hb sO);obtain⟨-,x1,x2,xl⟩:=kc3 db;clear dc db av hI hO sI sO hk hl ee;go_enter func145,ntmps145
 go_upto_region 1 with fail
 rw[<-hX];clear hX
 go_cut [9,12] from 7 to 14 (λs9 fl wx=>Hid (Zrr w h I O ni no s9 fl wx))
 case first=>
  go_region_with (first
   | (go_at_call 189;refine C1.mono ?_;rintro e w3 ⟨v1,K1,rfl,hA1,bi,bz⟩;have h30:=ZE bz dx;have d1:=Zd h30 1 _ rfl;have d2:=Zd h30 2 _ rfl;have gw:=aA h30;have dm:=Zb hA1;have dv:Hid (w3.ownsRow (w.heap.size+2) 90 3 v1 ni K1.flatten):=Xy bi (Nat.le_of_eq dy.symm);have dq:=Zb (Zf (Zf eo (Zj _)) bz);have dr:=Zb (Zf (Zj X) bz);clear hA1 bi bz h30)
   | (go_at_call 190;refine (C2 _ dq).mono ?_;rintro e w4 ⟨v2,K2,rfl,hA2,bj,ca⟩;have dd:=Zf dr ca;have h40:=ZE dd dx;have h41:=ZE dd et;have e0:=Zd h40 0 _ rfl;have e1:=Zd h40 1 _ rfl;have e2:=Zd h40 2 _ rfl;have z1:=Zg h40 1;have z2:=Zg h40 2;have el:=aA h40;have dn:=Zb hA2;have cm:Hid (w4.ownsRow (w.heap.size+2) 92 2 v2 no K2.flatten):=Xy bj (by have:=dr.size;have:=Za dy;omega);have dw:=Zb ((Gr.of (S:=λ_=>False) ca).own dv (λ_ _ q=>q));have ds:=Zb (Zf dq ca);have dj:=Zb h40;have dl:=Zb h41;obtain⟨a2,c2,rfl,_,_⟩:=Yw cm;obtain⟨a1,c1,rfl,_,_⟩:=Yw dv;clear hA2 bj ca dd h40 h41))
  all_goals
   go_wp2_with fail;go_meet
   case rel=>
    first
    | exact Zap (W:=w4) dm dn dw cm ds dl (((Gr.refl w4 (λq=>q=w.heap.size)).one w.heap.size 1 (.inl rfl) _).one w.heap.size 2 (.inl rfl) _) (set_cells (set_cells dj 1 _) 2 _)
    | exact Zap (W:=w4) dm dn dw cm ds dl (((Gr.refl w4 (λq=>q=w.heap.size)).one w.heap.size 2 (.inl rfl) _).one w.heap.size 1 (.inl rfl) _) (set_cells (set_cells dj 2 _) 1 _)
 case rest=>
  obtain⟨K1,K2,hA1,hA2,bi,bj,h0,h1,hb⟩:=Za hcut;obtain⟨a1,c1,rfl,_,_⟩:=Yw bi;obtain⟨a2,c2,rfl,_,_⟩:=Yw bj;obtain⟨G,hG⟩:=ZF (wc.heap.size);have ed:w.heap.size+2<=G:=by rw[<-hG];exact aA h1
  have eu:Hid (Cl inR 90 (w.heap.size+2) G w wc (F a1 ni c1) ni K1 I 0):=Cl.start bi hA1 dz (Nat.le_of_eq hG);have ev:Hid (Cl outR 92 (w.heap.size+2) G w wc (F a2 no c2) no K2 O 0):=Cl.start bj hA2 ea (Nat.le_of_eq hG);obtain⟨H0,H1,HB⟩:=kh3 h0 h1 hb;have eq:Hid (G<=wc.heap.size):=Nat.le_of_eq hG.symm;obtain⟨-,ew,cp⟩:=kc2 h0;clear hcut hA1 hA2 bi bj h0 h1 hb x1 x2 xl hG;go_wp2
  go_loopw [18] (λi wr=>∃ (k:Nat) (K:List (List Value)),k<=ni/\i = E J k/\Hid (Cl inR 90 (w.heap.size+2) G w wr (F a1 ni c1) ni K I k)/\Hid (Cl outR 92 (w.heap.size+2) G w wr (F a2 no c2) no K2 O 0)/\Hid (wr.heap[w.heap.size]? = dG (dA [E J h,F a1 ni c1,F a2 no c2].toArray 50 (0,0)))/\Hid (wr.heap[w.heap.size+1]? = dG (dA [E J 0,F aD 0 0,F aD 0 0].toArray 50 (0,0)))/\Hid (ZD w wr)/\Hid (G<=wr.heap.size)) (λi _=>ni - (intOf i).toNat)
  case atStart=>exact⟨0,K1,aI _,rfl,eu,ev,H0,H1,HB,eq⟩
  case round=>
   obtain⟨k,K,hk,rfl,ak,cf,ay,dp,ce,du⟩:=hrel;clear ew cp;by_cases fc:k<ni
   ·have ap:k<I.length:=(by rw[Za dz];exact fc);have al:k<K.length:=(by rw[(Za ak).len];exact ap);obtain⟨g,cap,gv,ez,fa,bh⟩:=ak.form (by omega);cases gv;obtain⟨a,m,c,eK,aq,bs⟩:=ak.old k ap al (aE _);have az:=er _ (aQ ap);obtain⟨x,hx⟩:=ZF (I[k]);rw[hx] at eK aq az;have r0:=ak.cell k al 0 (by decide);have r1:=ak.cell k al 1 (by decide);have r2:=ak.cell k al 2 (by decide);rw[eK] at r0 r1 r2;have r0:wr.cell? ⟨g,k*3,aD⟩=dG (E J x.1):=r0;have r1:wr.cell? ⟨g,k*3+1,aD⟩=dG (E J x.2.1):=r1;have r2:wr.cell? ⟨g,k*3+2,aD⟩=dG (F a m c):=r2;have hm:m<=8796093022208:=(by rw[<-aq.1];exact az);obtain⟨X1,av,ah,br⟩:=ka00 wr [E J x.1,E J x.2.1,F a m c] 90;obtain⟨-,-,b2,bl⟩:=kc3 br;have t1:=Ze ah (Zd ay 1 _ rfl);have tl:=aF (aA ay) ah.size;obtain⟨cd,CO⟩:=kh2 ah (cloneOp_any a m c x.2.2 X1.drew hm (aq.later (Zf (Zf ce ah) (Zj _))) bs)
    have NX:Hid (∀ w5 a5 c5,ZD wr w5->Fresh X1.drew.heap.size w5 (λw2=>OpsAt w2 a5 m x.2.2/\SlOk a5 m c5) ->
      Hid (Cl inR 90 (w.heap.size+2) G w (w5.setCell ⟨g,k*3+2,aD⟩ (F a5 m c5)) (F (dG ⟨g,0,aD⟩) ni c1) ni (K.set k [E J x.1,E J x.2.1,F a5 m c5]) I (k+1))/\Hid (Cl outR 92 (w.heap.size+2) G w (w5.setCell ⟨g,k*3+2,aD⟩ (F a5 m c5)) (F a2 no c2) no K2 O 0)/\Hid ((w5.setCell ⟨g,k*3+2,aD⟩ (F a5 m c5)).heap[w.heap.size]? = dG (dA [E J h,F (dG ⟨g,0,aD⟩) ni c1,F a2 no c2].toArray 50 (0,0)))/\Hid ((w5.setCell ⟨g,k*3+2,aD⟩ (F a5 m c5)).heap[w.heap.size+1]? = dG (dA [E J 0,F aD 0 0,F aD 0 0].toArray 50 (0,0)))/\Hid (ZD w (w5.setCell ⟨g,k*3+2,aD⟩ (F a5 m c5)))/\Hid (G<=(w5.setCell ⟨g,k*3+2,aD⟩ (F a5 m c5)).heap.size)):=by
     intro w5 a5 c5 ac an;have bq:=Za du;have aj:=(Gr.refl w5 (λq=>q=g)).one g (k*3+2) (.inl rfl) (F a5 m c5);have dh:=ac.size;refine⟨Zqm ak ap al hx eK ac an (aO bq ah.size),?_,?_,?_,?_,?_⟩
     ·exact (cf.keep ac).gr aj (λq e=>by omega) (λq hq e=>Wa ak.own cf.own (by decide) q (by rw[e];rfl) hq)
     ·exact aj.heap (ZE ac ay) (by omega)
     ·exact aj.heap (ZE ac dp) (by omega)
     ·exact aj.below (Zf ce ac) (by have:=aA ay;omega) (λq e=>by omega)
     ·exact aO bq (aO dh aj.size)
    have FR:=Zb (λj=>ak.free j);have fb:(k:Int)<(ni:Int):=(by omega);clear aq bs az hx eK ah br;go_wp2_with fail;rw[<-av];clear av
    go_region_with (go_at_call 186;refine CO.mono ?_;rintro e w5 ⟨a5,c5,rfl,an,ac⟩;have ag:=Zf (Zf cd (Zj _)) ac;have HN:=Zb (NX w5 a5 c5 ag an);have q1:=Ze ac (Ze (Zj _) t1);have q2:=Ze ag r2;have q3:w5.frozen? ⟨g,k*3+2,aD⟩=false:=(bY (a:=⟨g,k*3+2,aD⟩) (ag.block g bh)).trans (FR _);have q4:=aF bh ag.size;have q5:=aF (aA ay) ag.size;clear an ac ag)
    all_goals
     go_wp2;go_roundw
     case rel=>
      obtain⟨f1,f2,f3,f4,f5,f6⟩:=Za HN;exact⟨k+1,_,by omega,by go_num,f1,f2,f3,f4,f5,f6⟩
     case measure=>simp[intOf];omega
   ·have e:k=ni:=(by omega);subst e;obtain⟨-,-,ey,cp⟩:=kc3 ay;have DN:=ak;go_wp2
    go_loopw [35] (λi w2=>∃ (j:Nat) (Ko:List (List Value)),j<=no/\i = E J j/\Hid (Cl inR 90 (w.heap.size+2) G w w2 (F a1 k c1) k K I k)/\Hid (Cl outR 92 (w.heap.size+2) G w w2 (F a2 no c2) no Ko O j)/\Hid (w2.heap[w.heap.size]? = dG (dA [E J h,F a1 k c1,F a2 no c2].toArray 50 (0,0)))/\Hid (w2.heap[w.heap.size+1]? = dG (dA [E J 0,F aD 0 0,F aD 0 0].toArray 50 (0,0)))/\Hid (ZD w w2)/\Hid (G<=w2.heap.size)) (λi _=>no - (intOf i).toNat)
    case atStart=>exact⟨0,K2,aI _,rfl,DN,cf,ay,dp,ce,du⟩
    case round=>
     obtain⟨j,Ko,hj,rfl,cg,am,be,dt,cj,ep⟩:=hrel;clear DN ey cp;by_cases fd:j<no
     ·have ap:j<O.length:=(by rw[Za ea];exact fd);have al:j<Ko.length:=(by rw[(Za am).len];exact ap);obtain⟨g,cap,gv,ez,fa,bh⟩:=am.form (by omega);cases gv;obtain⟨a,m,c,eK,aq,bs⟩:=am.old j ap al (aE _);have az:=es _ (aQ ap);obtain⟨x,hx⟩:=ZF (O[j]);rw[hx] at eK aq az;have r0:=am.cell j al 0 (by decide);have r1:=am.cell j al 1 (by decide);rw[eK] at r0 r1;have r0:wr.cell? ⟨g,j*2,aD⟩=dG (E J x.1):=r0;have r1:wr.cell? ⟨g,j*2+1,aD⟩=dG (F a m c):=r1;have hm:m<=8796093022208:=(by rw[<-aq.1];exact az);obtain⟨X1,av,ah,br⟩:=ka00 wr [E J x.1,F a m c] 92;obtain⟨b0,b1,bl⟩:=kc2 br;have t2:=Ze ah (Zd be 2 _ rfl);have tl:=aF (aA be) ah.size;obtain⟨cd,CO⟩:=kh2 ah (Tu x.1 a m c x.2 X1.drew hm (aq.later (Zf (Zf cj ah) (Zj _))) bs)
      have NX:Hid (∀ w5 a5 c5,ZD wr w5->Fresh X1.drew.heap.size w5 (λw2=>OpsAt w2 a5 m x.2/\SlOk a5 m c5) ->
        Hid (Cl inR 90 (w.heap.size+2) G w ((w5.setCell ⟨g,j*2,aD⟩ (E J x.1)).setCell ⟨g,j*2+1,aD⟩ (F a5 m c5)) (F a1 k c1) k K I k)/\Hid (Cl outR 92 (w.heap.size+2) G w ((w5.setCell ⟨g,j*2,aD⟩ (E J x.1)).setCell ⟨g,j*2+1,aD⟩ (F a5 m c5)) (F (dG ⟨g,0,aD⟩) no c2) no (Ko.set j [E J x.1,F a5 m c5]) O (j+1))/\Hid (((w5.setCell ⟨g,j*2,aD⟩ (E J x.1)).setCell ⟨g,j*2+1,aD⟩ (F a5 m c5)).heap[w.heap.size]? = dG (dA [E J h,F a1 k c1,F (dG ⟨g,0,aD⟩) no c2].toArray 50 (0,0)))/\Hid (((w5.setCell ⟨g,j*2,aD⟩ (E J x.1)).setCell ⟨g,j*2+1,aD⟩ (F a5 m c5)).heap[w.heap.size+1]? = dG (dA [E J 0,F aD 0 0,F aD 0 0].toArray 50 (0,0)))/\Hid (ZD w ((w5.setCell ⟨g,j*2,aD⟩ (E J x.1)).setCell ⟨g,j*2+1,aD⟩ (F a5 m c5)))/\Hid (G<=((w5.setCell ⟨g,j*2,aD⟩ (E J x.1)).setCell ⟨g,j*2+1,aD⟩ (F a5 m c5)).heap.size)):=by
       intro w5 a5 c5 ac an;have bq:=Za ep;have aj:=((Gr.refl w5 (λq=>q=g)).one g (j*2) (.inl rfl) (E J x.1)).one g (j*2+1) (.inl rfl) (F a5 m c5);have dh:=ac.size;refine⟨?_,Zlq am ap al hx ac an (aO bq ah.size),?_,?_,?_,?_⟩
       ·exact (cg.keep ac).gr aj (λq e=>by omega) (λq hq e=>Wa am.own cg.own (by decide) q (by rw[e];rfl) hq)
       ·exact aj.heap (ZE ac be) (by omega)
       ·exact aj.heap (ZE ac dt) (by omega)
       ·exact aj.below (Zf cj ac) (by have:=aA be;omega) (λq e=>by omega)
       ·exact aO bq (aO dh aj.size)
      have FR:=Zb (λj=>am.free j);have fb:(j:Int)<(no:Int):=(by omega);clear aq bs az hx eK ah br;go_wp2_with fail;rw[<-av];clear av
      go_region_with (go_at_call 191;refine CO.mono ?_;rintro e w5 ⟨a5,c5,rfl,an,ac⟩;have ag:=Zf (Zf cd (Zj _)) ac;have HN:=Zb (NX w5 a5 c5 ag an);have q1:=Ze ac (Ze (Zj _) t2);have q2:=Ze ag r0;have gh:=Ze ag r1;have q3:w5.frozen? ⟨g,j*2,aD⟩=false:=(bY (a:=⟨g,j*2,aD⟩) (ag.block g bh)).trans (FR _);have gi:w5.frozen? ⟨g,j*2+1,aD⟩=false:=(bY (a:=⟨g,j*2+1,aD⟩) (ag.block g bh)).trans (FR _);have q4:=aF bh ag.size;have q5:=aF (aA be) ag.size;clear an ac ag)
      all_goals
       go_wp2;go_roundw
       case rel=>
        obtain⟨f1,f2,f3,f4,f5,f6⟩:=Za HN;exact⟨j+1,_,by omega,by go_num,f1,f2,f3,f4,f5,f6⟩
       case measure=>simp[intOf];omega
     ·have e:j=no:=(by omega);subst e;obtain⟨s0,s1,s2,sl⟩:=kc3 be;obtain⟨y0,y1,y2,z0,z1,z2,yl⟩:=kf3 dt
      have R:Hid (Fresh (w.heap.size+2) wr (λw2=>txR.C w2 [E J h,F a1 k c1,F a2 j c2] (h,I,O))):=by
       obtain⟨a',c',e1,h1⟩:=cg.rows ed;obtain⟨fw,gb,e2,h2⟩:=am.rows ed;cases e1;cases e2;exact λw2 g2=>⟨_,_,_,_,_,_,rfl,(h1 w2 g2).1,(h1 w2 g2).2,(h2 w2 g2).1,(h2 w2 g2).2⟩
      go_wp2;(try simp only[Exit.inBlock,Exit.then]);have hG:=((Gr.refl wr (λq=>q=w.heap.size+1)).one (w.heap.size+1) 0 (.inl rfl) (E J h)).one (w.heap.size+1) 1 (.inl rfl) (F a1 k c1) |>.one (w.heap.size+1) 2 (.inl rfl) (F a2 j c2);refine aL (v:=.agg #[E J h,F a1 k c1,F a2 j c2]) ?_ rfl ⟨a1,c1,a2,c2,rfl,(R.on (hG.mono λq _ e=>by omega)).less (by omega),?_⟩
      ·rw[Yb rfl];go_simp
      ·exact hG.below cj (by omega) (λq e=>by omega)
def TxSmall(t:TxD):Prop:=t.2.1.length<=3518437208883/\t.2.2.length<=4398046511104/\(∀ x∈t.2.1,x.2.2.length<=8796093022208)/\∀ x∈t.2.2,x.2.length<=8796093022208
theorem Zoq{G B aa:Nat}{w0 wr w5:World}{g cap n k:Nat}{K:List (List Value)}{T:List TxD}{x u0 u1 u2}(h:Cl txR 50 B G w0 wr (F (dG ⟨g,0,aD⟩) n cap) n K T k)(hk:k<T.length)(af:k<K.length)(hx:T[k]=x)(hb:ZD wr w5)(hf:Fresh aa w5 (λw2=>txR.C w2 [u0,u1,u2] x))(hG:G<=aa) :
  Cl txR 50 B G w0 (((w5.setCell ⟨g,k*3,aD⟩ u0).setCell ⟨g,k*3+1,aD⟩ u1).setCell ⟨g,k*3+2,aD⟩ u2) (F (dG ⟨g,0,aD⟩) n cap) n (K.set k [u0,u1,u2]) T (k+1):=by
 have h5:=h.keep hb;refine h5.step hk ?_ ((((Gr.refl w5 (λq=>q=g)).one g (k*3) (.inl rfl) _).one g (k*3+1) (.inl rfl) _).one g (k*3+2) (.inl rfl) _) ?_
 ·rw[hx];exact hf.less hG
 ·have h1:=(((h5.own.stored (k*3) u0).1.stored (k*3+1) u1).1.stored (k*3+2) u2).1;rw[put3 h5.wid k af] at h1;exact h1
theorem clTxs_is(ah m c T)(w:World)(hT:TxsAt w ah m T)(sT:SlOk ah m c)(hm:m<=2513169434916)(hs:∀ t∈T,TxSmall t) :
  Calls aB 108 #[F ah m c] w λe w'=>∃ a' c',e = dB (F a' m c')/\Fresh w.heap.size w' (λw2=>TxsAt w2 a' m T/\SlOk a' m c')/\ZD w w':=by
 obtain⟨bx,ay,C1⟩:=kh3 hs hT.1 (Zax ah m c T w w hm hT ⟨rfl,rfl,rfl,aE _,λ_ _=>rfl⟩ sT);go_enter func108,ntmps108;go_wp2_with fail;refine C1.mono ?_;rintro e w3 ⟨v,K1,rfl,hA,ho,bf⟩;obtain⟨a1,c1,rfl,_,_⟩:=Yw ho;obtain⟨G,hG⟩:=ZF (w3.heap.size);have cj:w.heap.size<=G:=by rw[<-hG];exact bf.size
 have ca:Hid (Cl txR 50 w.heap.size G w w3 (F a1 m c1) m K1 T 0):=Cl.start ho hA ay (Nat.le_of_eq hG);have HB:=Zb bf;have bu:Hid (G<=w3.heap.size):=Nat.le_of_eq hG.symm;go_wp2
 go_loopw [9] (λi wr=>∃ (k:Nat) (K:List (List Value)),k<=m/\i = E J k/\Hid (Cl txR 50 w.heap.size G w wr (F a1 m c1) m K T k)/\Hid (ZD w wr)/\Hid (G<=wr.heap.size)) (λi _=>m - (intOf i).toNat)
 case atStart=>exact⟨0,K1,aI _,rfl,ca,HB,bu⟩
 case round=>
  obtain⟨k,K,hk,rfl,aa,ag,bv⟩:=hrel;by_cases cn:k<m
  ·have ak:k<T.length:=(by rw[Za ay];exact cn);have ae:k<K.length:=(by rw[(Za aa).len];exact ak);obtain⟨g,cap,ev,de,df,aj⟩:=aa.form (by omega);cases ev;obtain⟨ai,ni,ci,ao,no,co,eK,hI,sI,hO,sO⟩:=aa.old k ak ae (aE _);have af:=bx _ (aQ ak);obtain⟨x,hx⟩:=ZF (T[k]);rw[hx] at eK hI hO af;have r0:=aa.cell k ae 0 (by decide);have r1:=aa.cell k ae 1 (by decide);have r2:=aa.cell k ae 2 (by decide);rw[eK] at r0 r1 r2;have r0:wr.cell? ⟨g,k*3,aD⟩=dG (E J x.1):=r0;have r1:wr.cell? ⟨g,k*3+1,aD⟩=dG (F ai ni ci):=r1;have r2:wr.cell? ⟨g,k*3+2,aD⟩=dG (F ao no co):=r2;obtain⟨X1,cl,aw,cm⟩:=ka00 wr [E J x.1,F ai ni ci,F ao no co] 50;obtain⟨b0,b1,b2,bl⟩:=kc3 cm;have bs:=Zb aw;have bg:=Zf ag aw;have CO:=Zb (clTx_is x.1 ai ao ni ci no co x.2.1 x.2.2 X1 (hI.later bg) (hO.later bg) sI sO (by rw[<-hI.1];exact af.1) (by rw[<-hO.1];exact af.2.1) af.2.2.1 af.2.2.2)
   have NX:Hid (∀ w5 u0 u1 u2,ZD wr w5->Fresh X1.heap.size w5 (λw2=>txR.C w2 [u0,u1,u2] x) ->
     Hid (Cl txR 50 w.heap.size G w (((w5.setCell ⟨g,k*3,aD⟩ u0).setCell ⟨g,k*3+1,aD⟩ u1).setCell ⟨g,k*3+2,aD⟩ u2) (F (dG ⟨g,0,aD⟩) m c1) m (K.set k [u0,u1,u2]) T (k+1))/\Hid (ZD w (((w5.setCell ⟨g,k*3,aD⟩ u0).setCell ⟨g,k*3+1,aD⟩ u1).setCell ⟨g,k*3+2,aD⟩ u2))/\Hid (G<=(((w5.setCell ⟨g,k*3,aD⟩ u0).setCell ⟨g,k*3+1,aD⟩ u1).setCell ⟨g,k*3+2,aD⟩ u2).heap.size)):=by
    intro w5 u0 u1 u2 ad ax;have be:=Za bv;have bh:=(((Gr.refl w5 (λq=>q=g)).one g (k*3) (.inl rfl) u0).one g (k*3+1) (.inl rfl) u1).one g (k*3+2) (.inl rfl) u2;have ct:=ad.size;refine⟨Zoq aa ak ae hx ad ax (aO be aw.size),?_,?_⟩
    ·exact bh.below (Zf ag ad) (by have:=ag.size;omega) (λq e=>by omega)
    ·exact aO be (aO ct bh.size)
   have FR:=Zb (λj=>aa.free j);have dh:(k:Int)<(m:Int):=(by omega);go_wp2_with fail;rw[<-cl];(try go_wp2_with fail);refine CO.mono ?_;rintro e w5 ⟨a5,c5,a6,c6,rfl,ax,ad⟩;have ab:=Zf bs ad;have HN:=Zb (NX w5 _ _ _ ab ax);have s0:=Ze ab r0;have s1:=Ze ab r1;have s2:=Ze ab r2;have q3:w5.frozen? ⟨g,k*3,aD⟩=false:=(bY (a:=⟨g,k*3,aD⟩) (ab.block g aj)).trans (FR _);have dj:w5.frozen? ⟨g,k*3+1,aD⟩=false:=(bY (a:=⟨g,k*3+1,aD⟩) (ab.block g aj)).trans (FR _);have dl:w5.frozen? ⟨g,k*3+2,aD⟩=false:=(bY (a:=⟨g,k*3+2,aD⟩) (ab.block g aj)).trans (FR _);have q4:=aF aj ab.size;go_wp2;go_roundw
   case rel=>
    obtain⟨f1,f5,f6⟩:=Za HN;exact⟨k+1,_,by omega,by go_num,f1,f5,f6⟩
   case measure=>simp[intOf];omega
  ·have e:k=m:=(by omega);subst e
   have R:Hid (Fresh w.heap.size wr (λw2=>TxsAt w2 a1 k T/\SlOk a1 k c1)):=by
    obtain⟨a',c',e1,h1⟩:=aa.rows cj;cases e1;exact h1
   go_wp2;go_ret;exact⟨a1,c1,rfl,Za R,Za ag⟩
theorem Sa(p h k0 o:Int)(ab m c T)(w:World)(hT:TxsAt w ab m T)(sT:SlOk ab m c)(hm:m<=2513169434916)(hs:∀ t∈T,TxSmall t) :
  Calls aB 83 #[.agg #[E J p,E J h,E J k0,E J o,F ab m c]] w λe w'=>∃ a' c',e = dB (.agg #[E J p,E J h,E J k0,E J o,F a' m c'])/\Fresh w.heap.size w' (λw2=>blkR.C w2 [E J p,E J h,E J k0,E J o,F a' m c'] (p,h,k0,o,T))/\ZD w w':=by
 obtain⟨X,hX⟩:=ZG ((w.alloc (dA #[E J p,E J h,E J k0,E J o,F ab m c] 33)).alloc (dA #[E J 0,E J 0,E J 0,E J 0,F aD 0 0] 33));have ak:ZD w X:=by rw[hX];exact Zf (Zh _ _) (Zh _ _)
 have aj:X.heap[w.heap.size]? = dG (dA [E J p,E J h,E J k0,E J o,F ab m c].toArray 33 (0,0)):=by
  rw[hX,bJ _ _ _ (by simp)];exact Zw _ _ _ _ _ _ _
 have av:X.heap.size=w.heap.size+2:=by rw[hX];simp
 have au:X.heap[w.heap.size+1]? = dG (dA [E J 0,E J 0,E J 0,E J 0,F aD 0 0].toArray 33 (0,0)):=by
  rw[hX];have:=Zw (w.alloc (dA #[E J p,E J h,E J k0,E J o,F ab m c] 33)) (E J 0) (E J 0) (E J 0) (E J 0) (F aD 0 0) 33;rw[show (w.alloc (dA #[E J p,E J h,E J k0,E J o,F ab m c] 33)).heap.size=w.heap.size+1 by simp] at this;exact this
 obtain⟨an,aq,ar,af,C1⟩:=kh5 ak aj au av (clTxs_is ab m c T X (hT.later ak) sT hm hs);obtain⟨-,-,-,-,x4,xl⟩:=kc5 aj;go_enter func83,ntmps83;go_wp2_with fail;rw[<-hX];(try go_wp2_with fail);refine C1.mono ?_;rintro e w3 ⟨a1,c1,rfl,aw,ae⟩;have h30:=ZE ae aq;have h31:=ZE ae ar;obtain⟨s0,s1,s2,s3,d4,-,-,-,-,z9,dl⟩:=kf5 h30;obtain⟨y0,y1,y2,y3,y4,z0,z1,z2,z3,z4,yl⟩:=kf5 h31;obtain⟨am,HF⟩:=kh2 (Zf an ae) aw;go_wp2;have hG:=((((((Gr.refl w3 (λq=>q=w.heap.size\/q=w.heap.size+1)).one w.heap.size 4 (.inl (.inl rfl)) (F a1 m c1)).one (w.heap.size+1) 0 (.inl (.inr rfl)) (E J p)).one (w.heap.size+1) 1 (.inl (.inr rfl)) (E J h)).one (w.heap.size+1) 2 (.inl (.inr rfl)) (E J k0)).one (w.heap.size+1) 3 (.inl (.inr rfl)) (E J o)).one (w.heap.size+1) 4 (.inl (.inr rfl)) (F a1 m c1);refine aL (v:=.agg #[E J p,E J h,E J k0,E J o,F a1 m c1]) ?_ rfl ⟨a1,c1,rfl,?_,?_⟩
 ·rw[Yb rfl];go_simp
 ·refine ((Fresh.imp HF λw2 h=>⟨_,_,_,rfl,h.1,h.2⟩).on (hG.mono λq _ e=>by have:=Za af;omega)).less (by have:=Za af;omega)
 ·exact hG.below am (by omega) (λq e=>by omega)
theorem Znq{G B aa:Nat}{w0 wr w5:World}{g cap n k:Nat}{K:List (List Value)}{T:List Zk}{x:Zk}{u0 u1 u2 u3 u4}(h:Cl blkR 33 B G w0 wr (F (dG ⟨g,0,aD⟩) n cap) n K T k)(hk:k<T.length)(af:k<K.length)(hx:T[k]=x)(hb:ZD wr w5)(hf:Fresh aa w5 (λw2=>blkR.C w2 [u0,u1,u2,u3,u4] x))(hG:G<=aa) :
  Cl blkR 33 B G w0 (((((w5.setCell ⟨g,k*5,aD⟩ u0).setCell ⟨g,k*5+1,aD⟩ u1).setCell ⟨g,k*5+2,aD⟩ u2).setCell ⟨g,k*5+3,aD⟩ u3).setCell ⟨g,k*5+4,aD⟩ u4) (F (dG ⟨g,0,aD⟩) n cap) n (K.set k [u0,u1,u2,u3,u4]) T (k+1):=by
 have h5:=h.keep hb;refine h5.step hk ?_ ((((((Gr.refl w5 (λq=>q=g)).one g (k*5) (.inl rfl) _).one g (k*5+1) (.inl rfl) _).one g (k*5+2) (.inl rfl) _).one g (k*5+3) (.inl rfl) _).one g (k*5+4) (.inl rfl) _) ?_
 ·rw[hx];exact hf.less hG
 ·have h1:=(((((h5.own.stored (k*5) u0).1.stored (k*5+1) u1).1.stored (k*5+2) u2).1.stored (k*5+3) u3).1.stored (k*5+4) u4).1;rw[put5 h5.wid k af] at h1;exact h1
def Zfs(w:World)(N:List Int)(T:List Zk)(n:Nat)(v1 v2:Value)(wx:World):Prop:=
 ∃ K,AllC blkR w K T/\wx.ownsRow (w.heap.size+2) 3 1 v1 n (N.map (aU .i64))/\wx.ownsRow (w.heap.size+2) 33 5 v2 n K.flatten /\
  wx.heap[w.heap.size]? = dG (dA [v1,v2].toArray 28 (0,0))/\wx.heap[w.heap.size+1]? = dG (dA [F aD 0 0,F aD 0 0].toArray 28 (0,0))/\ZD w wx
theorem Mz{w W wx:World}{N:List Int}{T}{n:Nat}{v1 v2}{K:List (List Value)}(h1:AllC blkR w K T)(o1:W.ownsRow (w.heap.size+2) 3 1 v1 n (N.map (aU .i64)))(o2:W.ownsRow (w.heap.size+2) 33 5 v2 n K.flatten)(hb:ZD w W)
  (hz:W.heap[w.heap.size+1]? = dG (dA [F aD 0 0,F aD 0 0].toArray 28 (0,0))) (hg:Gr W wx (λq=>q=w.heap.size)) (hx:wx.heap[w.heap.size]? = dG (dA [v1,v2].toArray 28 (0,0))):Zfs w N T n v1 v2 wx:=
 ⟨K,h1,hg.own o1 (λk hk=>by have:=(o1.lt k hk).1;omega),hg.own o2 (λk hk=>by have:=(o2.lt k hk).1;omega),hx,hg.heap hz (by omega),hg.below hb (by have:=aA hz;omega) (λk hk=>by omega)⟩
def BlkSmall(b:Zk):Prop:=b.2.2.2.2.length<=2513169434916/\∀ t∈b.2.2.2.2,TxSmall t
def TreeOwn(B:Nat)(w:World)(v1 v2:Value)(n:Nat)(N:List Int)(T:List Zk):Prop:=
 ∃ K G,w.ownsRow B 3 1 v1 n (N.map (aU .i64))/\w.ownsRow B 33 5 v2 n K.flatten/\(∀ q,v1.ownBlock=dG q->q<G)/\(∀ q,v2.ownBlock=dG q->q<G)/\B<=G/\T.length=n/\Fresh G w (λw2=>AllC blkR w2 K T)
theorem TreeOwn.gr{B:Nat}{w w' v1 v2}{n:Nat}{N T}(h:TreeOwn B w v1 v2 n N T)(g:Gr w w' (λq=>q<B)):TreeOwn B w' v1 v2 n N T:=by
 obtain⟨K,G,h1,h2,h3,h4,h5,h6,h7⟩:=h;exact⟨K,G,g.own h1 (λq hq=>by have:=(h1.lt q hq).1;omega),g.own h2 (λq hq=>by have:=(h2.lt q hq).1;omega),h3,h4,h5,h6,h7.on (g.mono λq _ hq=>by omega)⟩
theorem TreeOwn.less{B B':Nat}{w v1 v2}{n:Nat}{N T}(h:TreeOwn B' w v1 v2 n N T)(hb:B<=B'):TreeOwn B w v1 v2 n N T:=by
 obtain⟨K,G,h1,h2,h3,h4,h5,h6,h7⟩:=h;exact⟨K,G,Xy h1 hb,Xy h2 hb,h3,h4,by omega,h6,h7⟩
theorem TreeOwn.read{B:Nat}{w v1 v2}{n:Nat}{N T}(h:TreeOwn B w v1 v2 n N T):∃ a1 c1 a2 c2,v1 = F a1 n c1/\v2 = F a2 n c2/\IntsAt w a1 n N/\SlOk a1 n c1/\BlksAt w a2 n T/\SlOk a2 n c2:=by
 obtain⟨K,G,h1,h2,h3,h4,h5,h6,h7⟩:=h;obtain⟨a1,c1,rfl,s1,i1⟩:=ints_of_own h1;obtain⟨a2,c2,rfl,r2,s2⟩:=rows_of_own blkR h2 h7.now h6;exact⟨a1,c1,a2,c2,rfl,rfl,i1,s1,r2,s2⟩
theorem clTree_is(a b n c d N T)(w:World)(hN:IntsAt w a n N)(hT:BlksAt w b n T)(sN:SlOk a n c)(sT:SlOk b n d)(hn:n<=4096)(hs:∀ t∈T,BlkSmall t) :
  Calls aB 82 #[.agg #[F a n c,F b n d]] w λe w'=>∃ v1 v2,e = dB (.agg #[v1,v2])/\TreeOwn (w.heap.size+2) w' v1 v2 n N T/\ZD w w':=by
 obtain⟨X,hX⟩:=ZG ((w.alloc (dA #[F a n c,F b n d] 28)).alloc (dA #[F aD 0 0,F aD 0 0] 28));have bx:ZD w X:=by rw[hX];exact Zf (Zh _ _) (Zh _ _)
 have bs:X.heap[w.heap.size]? = dG (dA [F a n c,F b n d].toArray 28 (0,0)):=by
  rw[hX,bJ _ _ _ (by simp)];exact two_heap _ _ _ _
 have cu:X.heap.size=w.heap.size+2:=by rw[hX];simp
 have an:X.heap[w.heap.size+1]? = dG (dA [F aD 0 0,F aD 0 0].toArray 28 (0,0)):=by
  rw[hX];have:=two_heap (w.alloc (dA #[F a n c,F b n d] 28)) (F aD 0 0) (F aD 0 0) 28;rw[show (w.alloc (dA #[F a n c,F b n d] 28)).heap.size=w.heap.size+1 by simp] at this;exact this
 obtain⟨dg,cn,dp,cp,dn,eo,bq,C1⟩:=kh8 bx bs an cu hs hN.1 hT.1 (U2 a n c N X.drew (aO hn (by decide)) (hN.later (Zf bx (Zj X))) sN);have C2:=Zb (λW (hb:ZD w W)=>Ps b n d T w W (aO hn (by decide)) hT hb sT);obtain⟨x0,x1,xl⟩:=kc2 bs;clear bx bs an hN hT sN sT hs cu;go_enter func82,ntmps82
 go_upto_region 1 with fail
 rw[<-hX];clear hX
 go_cut [7,10] from 5 to 12 (λs7 eg wx=>Hid (Zfs w N T n s7 eg wx))
 case first=>
  go_region_with (first
   | (go_at_call 12;refine C1.mono ?_;rintro e w3 ⟨v1,rfl,ar,bv⟩;have h30:=ZE bv cn;have d0:=Zd h30 0 _ rfl;have d1:=Zd h30 1 _ rfl;have ga:=aA h30;have cl:Hid (w3.ownsRow (w.heap.size+2) 3 1 v1 n (N.map (aU .i64))):=Xy ar (Nat.le_of_eq cp.symm);have cf:=Zb (Zf (Zf dg (Zj _)) bv);have cg:=Zb (Zf (Zj X) bv);skip)
   | (go_at_call 76;refine (C2 _ cf).mono ?_;rintro e w4 ⟨v2,K2,rfl,hA2,az,bw⟩;have cw:=Zf cg bw;have h40:=ZE cw cn;have h41:=ZE cw dp;have e0:=Zd h40 0 _ rfl;have e1:=Zd h40 1 _ rfl;have z0:=Zg h40 0;have z1:=Zg h40 1;have el:=aA h40;have cd:=Zb hA2;have bo:Hid (w4.ownsRow (w.heap.size+2) 33 5 v2 n K2.flatten):=Xy az (by have:=cg.size;have:=Za cp;omega);have cm:=Zb ((Gr.of (S:=λ_=>False) bw).own cl (λ_ _ q=>q));have cj:=Zb (Zf cf bw);have cb:=Zb h40;have cc:=Zb h41;obtain⟨a2,c2,rfl,_,_⟩:=Yw bo;obtain⟨a1,c1,rfl,_,_⟩:=Yw cl;skip))
  all_goals
   go_wp2_with fail;go_meet
   case rel=>
    first
    | exact Mz (W:=w4) cd cm bo cj cc (((Gr.refl w4 (λq=>q=w.heap.size)).one w.heap.size 0 (.inl rfl) _).one w.heap.size 1 (.inl rfl) _) (set_cells (set_cells cb 0 _) 1 _)
    | exact Mz (W:=w4) cd cm bo cj cc (((Gr.refl w4 (λq=>q=w.heap.size)).one w.heap.size 1 (.inl rfl) _).one w.heap.size 0 (.inl rfl) _) (set_cells (set_cells cb 1 _) 0 _)
 case rest=>
  obtain⟨K1,hA1,ar,az,h0,h1,hb⟩:=Za hcut;obtain⟨a1,c1,rfl,_,_⟩:=Yw ar;obtain⟨a2,c2,rfl,_,_⟩:=Yw az;obtain⟨G,hG⟩:=ZF (wc.heap.size);have ea:w.heap.size+2<=G:=by rw[<-hG];exact aA h1
  have ds:Hid (wc.ownsRow (w.heap.size+2) 3 1 (F a1 n c1) n (N.map (aU .i64))):=ar;have di:Hid (∀ q,(bW a1 n c1).ownBlock=dG q->q<G):=λq hq=>by have:=(ar.lt q hq).2;omega
  have dt:Hid (Cl blkR 33 (w.heap.size+2) G w wc (F a2 n c2) n K1 T 0):=Cl.start az hA1 bq (Nat.le_of_eq hG);obtain⟨H0,H1,HB⟩:=kh3 h0 h1 hb;have dj:Hid (G<=wc.heap.size):=Nat.le_of_eq hG.symm;obtain⟨-,eu,ew⟩:=kc2 h0;go_wp2
  go_loopw [16] (λi wr=>∃ (k:Nat) (K:List (List Value)),k<=n/\i = E J k/\Hid (wr.ownsRow (w.heap.size+2) 3 1 (F a1 n c1) n (N.map (aU .i64)))/\Hid (Cl blkR 33 (w.heap.size+2) G w wr (F a2 n c2) n K T k)/\Hid (wr.heap[w.heap.size]? = dG (dA [F a1 n c1,F a2 n c2].toArray 28 (0,0)))/\Hid (wr.heap[w.heap.size+1]? = dG (dA [F aD 0 0,F aD 0 0].toArray 28 (0,0)))/\Hid (ZD w wr)/\Hid (G<=wr.heap.size)) (λi _=>n - (intOf i).toNat)
  case atStart=>exact⟨0,K1,aI _,rfl,ds,dt,H0,H1,HB,dj⟩
  case round=>
   obtain⟨k,K,hk,rfl,bj,aa,ah,ce,bi,dl⟩:=hrel;by_cases ed:k<n
   ·have ay:k<T.length:=(by rw[Za bq];exact ed);have ag:k<K.length:=(by rw[(Za aa).len];exact ay);obtain⟨g,cap,ev,fd,fe,al⟩:=aa.form (by omega);cases ev;obtain⟨ta,tn,tc,eK,hI,sI⟩:=aa.old k ay ag (aE _);have ca:=dn _ (aQ ay);obtain⟨x,hx⟩:=ZF (T[k]);rw[hx] at eK hI ca;obtain⟨x0,x1,x2,x3,x4⟩:=x;simp only at eK hI;have r0:=aa.cell k ag 0 (by decide);have r1:=aa.cell k ag 1 (by decide);have r2:=aa.cell k ag 2 (by decide);have r3:=aa.cell k ag 3 (by decide);have r4:=aa.cell k ag 4 (by decide);rw[eK] at r0 r1 r2 r3 r4;have r0:wr.cell? ⟨g,k*5,aD⟩=dG (E J x0):=r0;have r1:wr.cell? ⟨g,k*5+1,aD⟩=dG (E J x1):=r1;have r2:wr.cell? ⟨g,k*5+2,aD⟩=dG (E J x2):=r2;have r3:wr.cell? ⟨g,k*5+3,aD⟩=dG (E J x3):=r3;have r4:wr.cell? ⟨g,k*5+4,aD⟩=dG (F ta tn tc):=r4;obtain⟨X1,an,ap,eb⟩:=ka00 wr [E J x0,E J x1,E J x2,E J x3,F ta tn tc] 33;obtain⟨b0,b1,b2,b3,b4,bl⟩:=kc5 eb;have t1:=Ze ap (Zd ah 1 _ rfl);have tl:=aF (aA ah) ap.size;have dh:=Zb ap;have ec:=Zf (Zf bi ap) (Zj _);have CO:=Zb (Sa x0 x1 x2 x3 ta tn tc x4 X1.drew (hI.later ec) sI (by rw[<-hI.1];exact ca.1) ca.2)
    have NX:Hid (∀ w5 u0 u1 u2 u3 u4,ZD wr w5->Fresh X1.drew.heap.size w5 (λw2=>blkR.C w2 [u0,u1,u2,u3,u4] (x0,x1,x2,x3,x4)) ->
      Hid ((((((w5.setCell ⟨g,k*5,aD⟩ u0).setCell ⟨g,k*5+1,aD⟩ u1).setCell ⟨g,k*5+2,aD⟩ u2).setCell ⟨g,k*5+3,aD⟩ u3).setCell ⟨g,k*5+4,aD⟩ u4).ownsRow (w.heap.size+2) 3 1 (F a1 n c1) n (N.map (aU .i64)))/\Hid (Cl blkR 33 (w.heap.size+2) G w (((((w5.setCell ⟨g,k*5,aD⟩ u0).setCell ⟨g,k*5+1,aD⟩ u1).setCell ⟨g,k*5+2,aD⟩ u2).setCell ⟨g,k*5+3,aD⟩ u3).setCell ⟨g,k*5+4,aD⟩ u4) (F (dG ⟨g,0,aD⟩) n c2) n (K.set k [u0,u1,u2,u3,u4]) T (k+1))/\Hid ((((((w5.setCell ⟨g,k*5,aD⟩ u0).setCell ⟨g,k*5+1,aD⟩ u1).setCell ⟨g,k*5+2,aD⟩ u2).setCell ⟨g,k*5+3,aD⟩ u3).setCell ⟨g,k*5+4,aD⟩ u4).heap[w.heap.size]? = dG (dA [F a1 n c1,F (dG ⟨g,0,aD⟩) n c2].toArray 28 (0,0)))/\Hid ((((((w5.setCell ⟨g,k*5,aD⟩ u0).setCell ⟨g,k*5+1,aD⟩ u1).setCell ⟨g,k*5+2,aD⟩ u2).setCell ⟨g,k*5+3,aD⟩ u3).setCell ⟨g,k*5+4,aD⟩ u4).heap[w.heap.size+1]? = dG (dA [F aD 0 0,F aD 0 0].toArray 28 (0,0)))/\Hid (ZD w (((((w5.setCell ⟨g,k*5,aD⟩ u0).setCell ⟨g,k*5+1,aD⟩ u1).setCell ⟨g,k*5+2,aD⟩ u2).setCell ⟨g,k*5+3,aD⟩ u3).setCell ⟨g,k*5+4,aD⟩ u4))/\Hid (G<=(((((w5.setCell ⟨g,k*5,aD⟩ u0).setCell ⟨g,k*5+1,aD⟩ u1).setCell ⟨g,k*5+2,aD⟩ u2).setCell ⟨g,k*5+3,aD⟩ u3).setCell ⟨g,k*5+4,aD⟩ u4).heap.size)):=by
     intro w5 u0 u1 u2 u3 u4 ad ax;have ct:=Za dl;have aq:=(((((Gr.refl w5 (λq=>q=g)).one g (k*5) (.inl rfl) u0).one g (k*5+1) (.inl rfl) u1).one g (k*5+2) (.inl rfl) u2).one g (k*5+3) (.inl rfl) u3).one g (k*5+4) (.inl rfl) u4;have ee:=ad.size;refine⟨?_,Znq aa ay ag hx ad ax (aO ct ap.size),?_,?_,?_,?_⟩
     ·exact aq.own ((Gr.of (S:=λ_=>False) ad).own bj (λ_ _ q=>q)) (λq hq e=>Wa aa.own bj (by decide) q (by rw[e];rfl) hq)
     ·exact aq.heap (ZE ad ah) (by omega)
     ·exact aq.heap (ZE ad ce) (by omega)
     ·exact aq.below (Zf bi ad) (by have:=aA ah;omega) (λq e=>by omega)
     ·exact aO ct (aO ee aq.size)
    have FR:=Zb (λj=>aa.free j);have fg:(k:Int)<(n:Int):=(by omega);go_wp2_with fail;rw[<-an];clear an
    go_region_with (go_at_call 83;refine CO.mono ?_;rintro e w5 ⟨a5,c5,rfl,ax,ad⟩;have ab:=Zf (Zf dh (Zj _)) ad;have HN:=Zb (NX w5 _ _ _ _ _ ab ax);have q1:=Ze ad (Ze (Zj _) t1);have s0:=Ze ab r0;have s1:=Ze ab r1;have s2:=Ze ab r2;have s3:=Ze ab r3;have s4:=Ze ab r4;have q3:w5.frozen? ⟨g,k*5,aD⟩=false:=(bY (a:=⟨g,k*5,aD⟩) (ab.block g al)).trans (FR _);have fj:w5.frozen? ⟨g,k*5+1,aD⟩=false:=(bY (a:=⟨g,k*5+1,aD⟩) (ab.block g al)).trans (FR _);have fk:w5.frozen? ⟨g,k*5+2,aD⟩=false:=(bY (a:=⟨g,k*5+2,aD⟩) (ab.block g al)).trans (FR _);have fl:w5.frozen? ⟨g,k*5+3,aD⟩=false:=(bY (a:=⟨g,k*5+3,aD⟩) (ab.block g al)).trans (FR _);have fm:w5.frozen? ⟨g,k*5+4,aD⟩=false:=(bY (a:=⟨g,k*5+4,aD⟩) (ab.block g al)).trans (FR _);have q4:=aF al ab.size;have q5:=aF (aA ah) ab.size;clear ax ad ab)
    all_goals
     go_wp2;go_roundw
     case rel=>
      obtain⟨f1,f2,f3,f4,f5,f6⟩:=Za HN;exact⟨k+1,_,by omega,by go_num,f1,f2,f3,f4,f5,f6⟩
     case measure=>simp[intOf];omega
   ·have e:k=n:=(by omega);subst e;obtain⟨s0,s1,sl⟩:=kc2 ah;obtain⟨y0,y1,z0,z1,yl⟩:=kf2 ce
    have R:Hid (TreeOwn (w.heap.size+2) wr (F a1 k c1) (F a2 k c2) k N T):=
     ⟨K,G,Za bj,aa.own,Za di,aa.gt,ea,Za bq,aa.done⟩
    go_wp2;have hG:=((Gr.refl wr (λq=>q=w.heap.size+1)).one (w.heap.size+1) 0 (.inl rfl) (F a1 k c1)).one (w.heap.size+1) 1 (.inl rfl) (F a2 k c2);refine aL (v:=.agg #[F a1 k c1,F a2 k c2]) ?_ rfl ⟨_,_,rfl,R.gr (hG.mono λq _ e=>by omega),?_⟩
    ·rw[Yb rfl];go_simp
    ·exact hG.below bi (by omega) (λq e=>by omega)
structure Up(B g H:Nat)(N:List Int)(T:List Zk)(s:Int)(wr:World)(k:Nat)(y:Int):Prop where
 ex:∃ xs:List Value,wr.ownsRow B 3 1 (F (dG ⟨g,0,aD⟩) H H) H xs/\(upD N T H s).map (aU .i64)=(upD N T (H - k) y).map (aU .i64)++xs.drop (H - k)
theorem Up.old{B g H:Nat}{N T}{s:Int}{wr:World}{k:Nat}{y:Int}(h:Up B g H N T s wr k y){r:Nat}(hr:r<H):(∃ v,wr.cell? ⟨g,r,aD⟩=dG v)/\wr.frozen? ⟨g,r,aD⟩=false/\B<=g/\g<wr.heap.size:=by
 obtain⟨xs,ho,_⟩:=h.ex;have hl:xs.length=H:=by simpa using ho.1
 exact⟨⟨xs[r]'(by omega),by rw[ho.cellAt r (by omega)];simp[hl,hr]⟩,ho.frozenAt r,(ho.lt g rfl).1,(ho.lt g rfl).2⟩
theorem Up.step{B g H:Nat}{N T}{s:Int}{wr:World}{k:Nat}{y:Int}(h:Up B g H N T s wr k y)(hk:k<H){r:Nat}(hr:r=H - 1 - k):Up B g H N T s (wr.setCell ⟨g,r,aD⟩ (E J y)) (k+1) (fnd y N T).1:=by
 obtain⟨xs,ho,hx⟩:=h.ex;have hl:xs.length=H:=by simpa using ho.1
 refine⟨xs.set r (E J y),(ho.stored r _).1,?_⟩;rw[hx,show H - k=(H - (k+1))+1 by omega,upD,List.map_append,List.append_assoc]
 congr 1
 have e:r=H - (k+1):=by omega
 rw[<-e];rw[aK (l:=xs.set r (E J y)) (i:=r) (by rw[List.length_set];omega),List.drop_set_of_lt (by omega)];simp
theorem Up.keep{B g H:Nat}{N T}{s:Int}{wr w':World}{k:Nat}{y:Int}(h:Up B g H N T s wr k y)(hb:ZD wr w'):Up B g H N T s w' k y:=by
 obtain⟨xs,ho,hx⟩:=h.ex;exact⟨xs,(Gr.of (S:=λ_=>False) hb).own ho (λ_ _ q=>q),hx⟩
theorem Zhg(a b)(n c d:Nat)(N T)(s:Int)(w:World)(hn:n<=aT)(hN:IntsAt w a n N)(hT:BlksAt w b n T)(hH:Xv T) :
  Calls aB 86 #[.agg #[F a n c,F b n d],E J s] w λe w'=>∃ v,e = dB v/\w'.ownsRow w.heap.size 3 1 v (Y7 N T s).length ((Y7 N T s).map (aU .i64))/\ZD w w':=by
 obtain⟨i0,hi,cc,cd,ce⟩:=bX Tryz.infoInt;obtain⟨X,hX,af,am⟩:=ka00 w [F a n c,F b n d] 28;obtain⟨H,hh⟩:∃ H:Nat,(fnd s N T).2.1=(H:Int):=⟨_,(Int.toNat_of_nonneg (Us hH s N).1).symm⟩;have cl:H<=1000:=by have:=(Us hH s N).2.1;omega
 have HP:Hid (Y7 N T s=upD N T H s):=by show _=_;unfold Y7;rw[hh];rfl
 obtain⟨C,HB,bi,HN,HT⟩:=kh5 (He a b n c d N T s H X hn (hN.later af) (hT.later af) hh) af am hN hT;have CF:=Zb (λy W (hb:ZD w W)=>Ks a b n c d N T y _ W hn (hN.later hb) (hT.later hb) rfl);have bu:w.heap.size+1<=X.heap.size:=aA am;go_enter func86,ntmps86;go_wp2_with fail;rw[<-hX];refine C.mono ?_;rintro e w1 ⟨rfl,ad⟩;have cb:w.heap.size+1<=w1.heap.size:=aO bu ad.size;obtain⟨be,C1⟩:=kh2 (Zf HB ad) (ZE ad bi)
 go_wp2_with (at_make;refine wpList_make_full _ rfl _ _ 25 rfl (w.heap.size+1) 3 i0 (E J 0) 1 cR hi cc cd .i64 .i64 _ _ H rfl rfl rfl rfl (by rw[ce];omega) (by unfold aT;omega) cb ?_;intro w3 ar bw)
 have ap:ZD w1 w3:=(Below.refl _ _).grown bw (aE _) (λk h=>by cases h)
 have HU:Hid (Up (w.heap.size+1) w1.heap.size H N T s w3 0 s):=⟨_,ar,by
  rw[Nat.sub_zero,bA (by rw[ar.1];omega),List.append_nil]⟩
 obtain⟨C3,bd⟩:=kh2 (ZE ap C1) (Zf be ap);obtain⟨g,hg⟩:=ZF (w1.heap.size);rw[hg] at HU ⊢
 go_loopw [1,14] (λnm i wr=>∃ (k:Nat) (y:Int),k<=H/\nm = E J y/\i = E J k/\Hid (Up (w.heap.size+1) g H N T s wr k y)/\Hid (ZD w wr)/\Hid (wr.heap[w.heap.size]? = dG (dA [F a n c,F b n d].toArray 28 (0,0)))) (λ_ i _=>H - (intOf i).toNat)
 case atStart=>exact⟨0,s,aI _,rfl,rfl,HU,bd,C3⟩
 case round=>
  obtain⟨k,y,hk,rfl,rfl,ab,aj,bg⟩:=hrel;clear C3;by_cases bx:k<H
  ·obtain⟨r,hr⟩:=ZG (H - 1 - k);have ca:r<H:=(by omega);obtain⟨⟨v0,cy⟩,cn,cp,cq⟩:=ab.old ca;have cz:IntKind.i64.wrap ((H:Int) - 1)=(H:Int) - 1:=(by rw[aP];omega);have da:IntKind.i64.wrap ((H:Int) - 1 - (k:Int))=(r:Int):=(by rw[aP];omega);have cx:(r:Int)<(H:Int):=(by omega);have ST:=Zb (ab.step bx hr);have hG:Gr wr (wr.setCell ⟨g,r,aD⟩ (E J y)) (λq=>q=g):=(Gr.refl wr (λq=>q=g)).one g r (.inl rfl) _;have ah:=Zb (hG.below aj (by omega) (λq hq=>by omega));have ag:=hG.heap bg (by omega);obtain⟨bf,CC⟩:=kh2 ag (CF y _ ah);obtain⟨t0,t1,tl⟩:=kc2 ag;have cu:(k:Int)<(H:Int):=(by omega);clear hG hr ag;go_wp2_with fail;refine CC.mono ?_;rintro e w5 ⟨ta,tn,tc,rfl,_,_,ae⟩;unfold Rk;have hf:=(Gi (E J (fnd y N T).1) (E J (fnd y N T).2.1) (E J (fnd y N T).2.2.1) (E J (fnd y N T).2.2.2.1) (F ta tn tc) w5).1;obtain⟨R1,R2,R3⟩:=kh3 (ST.keep ae) (Zf ah ae) (ZE ae bf);go_wp2;go_roundw
   case rel=>exact⟨k+1,_,by omega,rfl,by go_num,R1,R2,R3⟩
   case measure=>simp[intOf];omega
  ·have e:k=H:=(by omega);subst e
   have R:Hid (wr.ownsRow w.heap.size 3 1 (F (dG ⟨g,0,aD⟩) k k) (Y7 N T s).length ((Y7 N T s).map (aU .i64))):=by
    show World.ownsRow _ _ _ _ _ _ _;rw[Za HP];obtain⟨xs,ho,hx⟩:=ab.ex;rw[Nat.sub_self,List.drop_zero,upD,List.map_nil,List.nil_append] at hx;rw[hx,Jb];exact Xy ho (by omega)
   go_wp2;go_ret;exact⟨_,rfl,Za R,Za aj⟩
theorem Bl{N T}(hH:Xv T):∀ (P:List Int) (s:Int),s<=Vu N T s P/\Vu N T s P<=s+1000*P.length
 | [],s=>by simp[Vu]
 | x :: P,s=>by
  have h1:=(Us hH x N).2.2;have h2:=Bl hH P (s+(fnd x N T).2.2.1) (N:=N);simp only[Vu,cK];omega
theorem Zfu(a b pa)(n c d pn pc:Nat)(N T P)(x:Int)(w:World)(hn:n<=aT)(hN:IntsAt w a n N)(hT:BlksAt w b n T)(hP:IntsAt w pa pn P)(hp:pn<=1000)(hH:Xv T)(hx:Vu N T 0 P=x) :
  ZH 85 #[.agg #[F a n c,F b n d],F pa pn pc] w (E J x):=by
 obtain⟨X,hX,ab,bd⟩:=ka00 w [F a n c,F b n d] 28;obtain⟨HB,av,aq,HZ,HO⟩:=kh5 ab bd (hP.later ab) hP.1 hH;have CF:=Zb (λy W (hb:ZD X W)=>Ks a b n c d N T y _ W hn (hN.later (Zf ab hb)) (hT.later (Zf ab hb)) rfl);have HX:Hid (Vu N T 0 (P.drop 0)=x):=hx;go_enter func85,ntmps85;go_wp2_with fail;rw[<-hX];go_wp2
 go_loopw [5,10] (λsv i wr=>∃ (k:Nat) (s:Int),k<=pn/\sv = E J s/\i = E J k/\Hid (Vu N T s (P.drop k)=x)/\Hid (0<=s/\s<=1000*k)/\Hid (ZD X wr)) (λ_ i _=>pn - (intOf i).toNat)
 case atStart=>exact⟨0,0,aI _,rfl,rfl,HX,(⟨by omega,by omega⟩:(0:Int)<=0/\(0:Int)<=1000*(0:Nat)),(Below.refl _ _:ZD X X)⟩
 case round=>
  obtain⟨k,s,hk,rfl,rfl,A,BD,aa⟩:=hrel;by_cases bi:k<pn
  ·have h1:k<P.length:=(by rw[Za HZ];exact bi);obtain⟨b1,bz,rfl,bh,bf⟩:=aq.2 (by omega);have f1:=Ze aa (bf k h1);have AT:=Zb (Zop N T s P k h1);obtain⟨y,hy⟩:=ZF (P[k]);rw[hy] at f1 AT;have ll:=aF bh aa.size;have bg:=ZE aa av;obtain⟨t0,t1,tl⟩:=kc2 bg;have CC:=Zb (CF y _ aa);have hq:=(Us HO y N).2.2;have br:=Za BD;obtain⟨v,hv⟩:=ZF ((fnd y N T).2.2.1);rw[hv] at hq AT;have HV:=Zb hv;have bx:IntKind.i64.wrap (s+v)=s+v:=(by rw[aP];omega);have R:Hid (Vu N T (s+v) (P.drop (k+1))=x):=by show _=_;rw[<-Za A,Za AT]
   have aj:Hid (0<=s+v/\s+v<=1000*((k+1:Nat):Int)):=by
    show _/\_;omega
   have bv:(k:Int)<(pn:Int):=(by omega);go_wp2_with fail;refine CC.mono ?_;rintro e w5 ⟨ta,tn,tc,rfl,_,_,be⟩;unfold Rk;rw[Za HV];have hf:=(Gi (E J (fnd y N T).1) (E J (fnd y N T).2.1) (E J v) (E J (fnd y N T).2.2.2.1) (F ta tn tc) w5).2.2;have R2:=Zb (Zf aa be);go_wp2;go_roundw
   case rel=>exact⟨k+1,s+v,by omega,rfl,by go_num,R,aj,R2⟩
   case measure=>simp[intOf];omega
  ·have R:Hid (s=x):=(by show _=_;rw[<-Za A,Zjg N T s P k (by rw[Za HZ];omega)]);have an:=Zb (Zf HB aa);go_wp2;go_ret;exact⟨by rw[<-Za R];rfl,Za an⟩
theorem Zms(a b)(n c d k:Nat)(w:World)(hk:k<=n)(ha:SlOk a n c)(hb:SlOk b n d) :
  ZH 116 #[.agg #[F a n c,F b n d],E J k] w (.agg #[F a k c,F b k d]):=by
 have hc:=aO hk ha.1;have hd:=aO hk hb.1;have hm:=ha.2.1;have ae:=hb.2.1;unfold aT at hm ae;have ag:(k:Int)<=(c:Int):=by omega
 have aj:(k:Int)<=(d:Int):=by omega
 go_enter func116,ntmps116;go_wp2_with fail
 go_region
 all_goals
  go_wp2
 all_goals skip
 all_goals
  refine aL (v:=.agg #[F a k c,F b k d]) ?_ rfl ⟨rfl,?_⟩
  ·rw[Yb rfl];go_simp
  ·exact Zf (Zf (Zh _ _) (Zh _ _)) (Zj _)
theorem Zfd(a b)(n c d:Nat)(N T)(s:Int)(p h k m:Int)(ta tn tc L)(x:Int)(w:World)(hn:n<=aT)(hN:IntsAt w a n N)(hT:BlksAt w b n T)(hL:TxsAt w ta tn L)(hH:Xv T)(hx:Yj N T s (p,h,k,m,L)=x) :
  ZH 81 #[.agg #[F a n c,F b n d],E J s,.agg #[E J p,E J h,E J k,E J m,F ta tn tc]] w (E J x):=by
 obtain⟨X,hX⟩:=ZG ((w.alloc (dA #[F a n c,F b n d] 28)).alloc (dA #[E J p,E J h,E J k,E J m,F ta tn tc] 33));have aj:ZD w X:=by rw[hX];exact Zf (Zh _ _) (Zh _ _)
 have cg:X.heap[w.heap.size]? = dG (dA [F a n c,F b n d].toArray 28 (0,0)):=by
  rw[hX,bJ _ _ _ (by simp)];exact two_heap _ _ _ _
 have cj:X.heap[w.heap.size+1]? = dG (dA [E J p,E J h,E J k,E J m,F ta tn tc].toArray 33 (0,0)):=by
  rw[hX];have:=Zw (w.alloc (dA #[F a n c,F b n d] 28)) (E J p) (E J h) (E J k) (E J m) (F ta tn tc) 33;rw[show (w.alloc (dA #[F a n c,F b n d] 28)).heap.size=w.heap.size+1 by simp] at this;exact this
 obtain⟨o1,bx⟩:∃ o,(decide (1<=s) && decide (s<=120))=o:=⟨_,rfl⟩;obtain⟨x2,cb⟩:∃ x,Yu (p,h,k,m,L)=x:=⟨_,rfl⟩;obtain⟨o3,bz⟩:∃ o,decide (s∈N)=o:=⟨_,rfl⟩;obtain⟨o4,ca⟩:∃ o,decide (p∈N)=o:=⟨_,rfl⟩;obtain⟨z,hz⟩:=ZF ((fnd p N T).2.1);have cm:=(Us hH p N).1;have cn:=(Us hH p N).2.1;rw[hz] at cm cn;have cw:IntKind.i64.wrap (z+1)=z+1:=by rw[aP];omega
 unfold Yj at hx;simp only at hx;rw[bx,cb,bz,ca,hz] at hx;obtain⟨HB,bo,bq⟩:=kh3 aj cg cj;have C1:=Zb (λW=>Y3 s 1 120 o1 W bx.symm);have C2:=Zb (U4 p h k m ta tn tc L x2 X (hL.later aj) cb);have C3:=Zb (λW (hb:ZD X W)=>Zdh a b n c n d N s o3 W hn (hN.later (Zf aj hb)) bz);have C4:=Zb (λW (hb:ZD X W)=>Zdh a b n c n d N p o4 W hn (hN.later (Zf aj hb)) ca);have C5:=Zb (λW (hb:ZD X W)=>He a b n c d N T p z W hn (hN.later (Zf aj hb)) (hT.later (Zf aj hb)) hz);have bu:=Zb hx;clear hx;go_enter func81,ntmps81;go_wp2_with fail;rw[<-hX];clear hX;refine (C1 _).mono ?_;rintro e w1 ⟨rfl,rfl⟩;cases o1 with
 | false=>
  have R:Hid (x=3):=by show _=_;rw[<-Za bu,if_pos rfl]
  go_wp2;go_ret;exact⟨by rw[Za R];rfl,Za HB⟩
 | true=>
  obtain⟨c0,c1,c2,c3,c4,db⟩:=kc5 bq
  have br:Hid ((if x2≠0 then x2 else if o3=true then 6 else if p≠0/\o4=false then 5 else if h≠z+1 then 4 else 0)=x):=by
   have q:=Za bu;rw[if_neg (by decide)] at q;exact q
  go_wp2_with fail;refine C2.mono ?_;rintro e w2 ⟨rfl,bw⟩;have av:=Zb bw;have h20:=ZE bw bo;by_cases q2:x2=0
  ·subst q2
   have bs:Hid ((if o3=true then 6 else if p≠0/\o4=false then 5 else if h≠z+1 then 4 else 0)=x):=by
    have q:=Za br;rw[if_neg (by decide)] at q;exact q
   obtain⟨c0,c1,db⟩:=kc2 h20;go_wp2_with fail;refine (C3 _ av).mono ?_;rintro e w3 ⟨rfl,cl⟩;have ac:=Zb (Zf av cl);have h30:=ZE ac bo;have h31:=ZE ac bq;have HF:=Zb (Zf HB ac);cases o3 with
   | true=>
    have R:Hid (x=6):=(by show _=_;rw[<-Za bs,if_pos rfl]);go_wp2;go_ret;exact⟨by rw[Za R];rfl,Za HF⟩
   | false=>
    have ay:Hid ((if p≠0/\o4=false then 5 else if h≠z+1 then 4 else 0)=x):=by
     have q:=Za bs;rw[if_neg (by decide)] at q;exact q
    obtain⟨c0,c1,db⟩:=kc2 h30;obtain⟨d0,d1,dl⟩:=kc2 h31;by_cases q4:p=0
    ·subst q4
     have al:Hid ((if h≠z+1 then (4:Int) else 0)=x):=by
      have q:=Za ay;rw[if_neg (by simp)] at q;exact q
     by_cases q5:h=z+1
     ·have R:Hid (x=0):=(by show _=_;rw[<-Za al,if_neg (by simp[q5])]);have g5:(h != z+1)=false:=(by simp[q5]);go_wp2_with fail
      go_region_with (go_at_call 119;refine (C5 _ (Zf ac (Zj _))).mono ?_;rintro e w5 ⟨rfl,aa⟩;have e0:=Ze aa (Ze (Zj _) d0);have e1:=Ze aa (Ze (Zj _) d1);have el:=aF dl aa.size;have ad:=Zb (Zf HF (Zf (Zj _) aa)))
      all_goals
       go_wp2;go_ret;exact⟨by rw[Za R];rfl,Za ad⟩
     ·have R:Hid (x=4):=(by show _=_;rw[<-Za al,if_pos q5]);have g5:(h != z+1)=true:=(by simp[q5]);go_wp2_with fail
      go_region_with (go_at_call 119;refine (C5 _ (Zf ac (Zj _))).mono ?_;rintro e w5 ⟨rfl,aa⟩;have e0:=Ze aa (Ze (Zj _) d0);have e1:=Ze aa (Ze (Zj _) d1);have el:=aF dl aa.size;have ad:=Zb (Zf HF (Zf (Zj _) aa)))
      all_goals
       go_wp2;go_ret;exact⟨by rw[Za R];rfl,Za ad⟩
    ·have g4:(p != 0)=true:=(by simp[q4]);go_wp2_with fail;refine (C4 _ ac).mono ?_;rintro e w4 ⟨rfl,ae⟩;have aw:=Zb (Zf ac ae);have ax:=Zb (Zf HB aw);have k0:=Ze ae c0;have k1:=Ze ae c1;have kl:=aF db ae.size;have d0:=Ze ae d0;have d1:=Ze ae d1;have dl:=aF dl ae.size;cases o4 with
     | false=>
      have R:Hid (x=5):=(by show _=_;rw[<-Za ay,if_pos ⟨q4,rfl⟩]);go_wp2;go_ret;exact⟨by rw[Za R];rfl,Za ax⟩
     | true=>
      have al:Hid ((if h≠z+1 then (4:Int) else 0)=x):=by
       have q:=Za ay;rw[if_neg (by simp)] at q;exact q
      by_cases q5:h=z+1
      ·have R:Hid (x=0):=(by show _=_;rw[<-Za al,if_neg (by simp[q5])]);have g5:(h != z+1)=false:=(by simp[q5]);go_wp2_with fail
       go_region_with (go_at_call 119;refine (C5 _ (Zf aw (Zj _))).mono ?_;rintro e w5 ⟨rfl,aa⟩;have e0:=Ze aa (Ze (Zj _) d0);have e1:=Ze aa (Ze (Zj _) d1);have el:=aF dl aa.size;have ad:=Zb (Zf ax (Zf (Zj _) aa)))
       all_goals
        go_wp2;go_ret;exact⟨by rw[Za R];rfl,Za ad⟩
      ·have R:Hid (x=4):=(by show _=_;rw[<-Za al,if_pos q5]);have g5:(h != z+1)=true:=(by simp[q5]);go_wp2_with fail
       go_region_with (go_at_call 119;refine (C5 _ (Zf aw (Zj _))).mono ?_;rintro e w5 ⟨rfl,aa⟩;have e0:=Ze aa (Ze (Zj _) d0);have e1:=Ze aa (Ze (Zj _) d1);have el:=aF dl aa.size;have ad:=Zb (Zf ax (Zf (Zj _) aa)))
       all_goals
        go_wp2;go_ret;exact⟨by rw[Za R];rfl,Za ad⟩
  ·have R:Hid (x=x2):=(by show _=_;rw[<-Za br,if_pos q2]);have g2:(x2 != 0)=true:=(by simp[q2]);have HF:=Zb (Zf HB av);go_wp2;go_ret;exact⟨by rw[Za R];rfl,Za HF⟩
theorem Rd{N T}{x:Int}{b:Zk}(h:Yj N T x b=0):Yu b=0:=by
 unfold Yj at h;split at h
 ·cases h
 ·split at h
  ·next q=>exact absurd h q
  ·next q=>exact cC.1 q
theorem Mo{T:List Zk}{j:Nat}(hj:j<T.length)(h:Xv (T.take j))(hb:Yu T[j]=0):Xv (T.take (j+1)):=by
 rw[aH hj];intro b hm
 rcases bM.1 hm with q|q
 ·exact h b q
 ·rw[cT.1 q];exact Rz hb
theorem J4(a b n c m d N T)(x:Int)(w:World)(hN:IntsAt w a n N)(hT:BlksAt w b m T)(sN:SlOk a n c)(sT:SlOk b m d)(hx:chkTr N T=x) :
  ZH 80 #[.agg #[F a n c,F b m d]] w (E J x):=by
 subst hx;obtain⟨X,hX,ar,bi⟩:=ka00 w [F a n c,F b m d] 28;obtain⟨HB,cp⟩:=kh2 ar bi;obtain⟨x0,x1,xl⟩:=kc2 bi;obtain⟨HN,HT,bf,bv⟩:=kh4 (hN.later ar) (hT.later ar) hN.1 hT.1;have hm:=sN.2.1;have cf:=sT.2.1;have ct:=sN.1;unfold aT at hm cf;by_cases e:n=m
 ·subst e;by_cases h24:24<n
  ·have R:Hid (chkTr N T=2):=(by show _=_;unfold chkTr;rw[hN.1,hT.1,if_neg (by simp),if_pos h24]);have g0:((n:Int) != (n:Int))=false:=(by simp);have g1:(24:Int)<(n:Int):=(by omega);go_enter func80,ntmps80;go_wp2_with fail;rw[<-hX];go_wp2;go_ret;exact⟨by rw[Za R];rfl,Za HB⟩
  ·have R:Hid (chkTr N T=Yy (N.take 0) (T.take 0) (N.drop 0) (T.drop 0)):=(by show _=_;unfold chkTr;rw[hN.1,hT.1,if_neg (by simp),if_neg h24];rfl);have g0:((n:Int) != (n:Int))=false:=(by simp);have g1:¬(24:Int)<(n:Int):=(by omega);obtain⟨SN,ST⟩:=kh2 sN sT;go_enter func80,ntmps80;go_wp2_with fail;rw[<-hX];go_wp2
   go_loopw [19] (λi wr=>∃ j:Nat,j<=n/\i = E J j/\Hid (chkTr N T=Yy (N.take j) (T.take j) (N.drop j) (T.drop j))/\Hid (Xv (T.take j))/\Hid (ZD X wr)) (λi _=>n - (intOf i).toNat)
   case atStart=>exact⟨0,aI _,rfl,R,(λb hb=>(by simp at hb):Xv (T.take 0)),(Below.refl _ _:ZD X X)⟩
   case round=>
    obtain⟨j,hj,rfl,A,HH,ad⟩:=hrel;by_cases bo:j<n
    ·have h1:j<N.length:=(by rw[Za bf];exact bo);have h2:j<T.length:=(by rw[Za bv];exact bo);obtain⟨b1,af,rfl,cc,bz⟩:=HN.2 (by omega);obtain⟨b2,ac,rfl,cd,ca⟩:=HT.2 (by omega);have f1:=Ze ad (bz j h1);have bj:=BlkAt.kept _ _ _ _ _ ad (ca j h2);obtain⟨AT,HM⟩:=kh2 (Zbf N T j h1 h2) (Mo h2 HH);obtain⟨s,hs⟩:=ZF (N[j]);obtain⟨t,ht⟩:=ZF (T[j]);rw[hs] at f1 AT;rw[ht] at bj AT HM;obtain⟨p,h,k,o,L⟩:=t;obtain⟨am,an,g2,g3,ta,tn,tc,g4,hL,_⟩:=bj;simp only at am an g2 g3 hL;obtain⟨y,hy⟩:=ZF (Yj (N.take j) (T.take j) s (p,h,k,o,L));have w0:=Ze ad x0;have w1:=Ze ad x1;have wl:=aF xl ad.size;have cu:=aF cc ad.size;have cw:=aF cd ad.size;have C1:=Zb (λW=>Zms (dG ⟨b1,af,aD⟩) (dG ⟨b2,ac,aD⟩) n c d j W hj SN ST);have cb:j<=aT:=(by unfold aT;omega);have C2:=Zb (λW (hb:ZD wr W)=>Zfd (dG ⟨b1,af,aD⟩) (dG ⟨b2,ac,aD⟩) j c d (N.take j) (T.take j) s p h k o ta tn tc L y W cb ((HN.later (Zf ad hb)).take j hj) (RowsAt.take (HT.later (Zf ad hb)) j hj) (hL.later hb) HH hy);rw[hy] at AT;have HY:Hid (y=0->Yu (p,h,k,o,L)=0):=λq=>Rd (hy.trans q);by_cases q:y=0
     ·subst q;have R:Hid (chkTr N T=Yy (N.take (j+1)) (T.take (j+1)) (N.drop (j+1)) (T.drop (j+1))):=(by show _=_;rw[Za A,Za AT,if_neg (by simp)]);have bs:=Zb (HM (HY rfl));go_wp2_with fail
      go_region_held3 (λW'=>ZD wr W'/\W'.cell? ⟨w.heap.size,0,aD⟩=dG (F (dG ⟨b1,af,aD⟩) n c)/\W'.cell? ⟨w.heap.size,1,aD⟩=dG (F (dG ⟨b2,ac,aD⟩) n d)/\W'.cell? ⟨b1,af+j,aD⟩=dG (E J s)/\W'.cell? ⟨b2,ac+j*5,aD⟩=dG (E J p)/\W'.cell? ⟨b2,ac+j*5+1,aD⟩=dG (E J h)/\W'.cell? ⟨b2,ac+j*5+2,aD⟩=dG (E J k)/\W'.cell? ⟨b2,ac+j*5+3,aD⟩=dG (E J o)/\W'.cell? ⟨b2,ac+j*5+4,aD⟩=dG (F ta tn tc))
       (first
       | exact⟨Zj _,w0,w1,f1,am,an,g2,g3,g4⟩
       | (go_split_ands;refine⟨Zf (by assumption) aa,Ze aa (by assumption),Ze aa (by assumption),Ze aa (by assumption),Ze aa (by assumption),Ze aa (by assumption),Ze aa (by assumption),Ze aa (by assumption),Ze aa (by assumption)⟩))
       (first|(go_at_call 116;refine (C1 _).mono ?_;rintro e w' ⟨rfl,aa⟩)|(go_at_call 81;go_split_ands;refine (C2 _ (by assumption)).mono ?_;rintro e w' ⟨rfl,aa⟩))
      rename_i hq;have ak:=Zb (Zf ad hq.1);go_wp2;go_roundw
      case rel=>exact⟨j+1,by omega,by go_num,R,bs,ak⟩
      case measure=>simp[intOf];omega
     ·have R:Hid (chkTr N T=y):=(by show _=_;rw[Za A,Za AT,if_pos q]);have gy:(y != 0)=true:=(by simp[q]);go_wp2_with fail
      go_region_held3 (λW'=>ZD wr W'/\W'.cell? ⟨w.heap.size,0,aD⟩=dG (F (dG ⟨b1,af,aD⟩) n c)/\W'.cell? ⟨w.heap.size,1,aD⟩=dG (F (dG ⟨b2,ac,aD⟩) n d)/\W'.cell? ⟨b1,af+j,aD⟩=dG (E J s)/\W'.cell? ⟨b2,ac+j*5,aD⟩=dG (E J p)/\W'.cell? ⟨b2,ac+j*5+1,aD⟩=dG (E J h)/\W'.cell? ⟨b2,ac+j*5+2,aD⟩=dG (E J k)/\W'.cell? ⟨b2,ac+j*5+3,aD⟩=dG (E J o)/\W'.cell? ⟨b2,ac+j*5+4,aD⟩=dG (F ta tn tc))
       (first
       | exact⟨Zj _,w0,w1,f1,am,an,g2,g3,g4⟩
       | (go_split_ands;refine⟨Zf (by assumption) aa,Ze aa (by assumption),Ze aa (by assumption),Ze aa (by assumption),Ze aa (by assumption),Ze aa (by assumption),Ze aa (by assumption),Ze aa (by assumption),Ze aa (by assumption)⟩))
       (first|(go_at_call 116;refine (C1 _).mono ?_;rintro e w' ⟨rfl,aa⟩)|(go_at_call 81;go_split_ands;refine (C2 _ (by assumption)).mono ?_;rintro e w' ⟨rfl,aa⟩))
      rename_i hq;have ak:=Zb (Zf HB (Zf ad hq.1));go_wp2;go_ret;exact⟨by rw[Za R];rfl,Za ak⟩
    ·have R:Hid (chkTr N T=0):=(by show _=_;rw[Za A,Fy N T j (by rw[Za bf];omega)]);have br:=Zb (Zf HB ad);go_wp2;go_ret;exact⟨by rw[Za R];rfl,Za br⟩
 ·have R:Hid (chkTr N T=4):=by show _=_;unfold chkTr;rw[hN.1,hT.1,if_pos e]
  have g0:((n:Int) != (m:Int))=true:=by simp;omega
  go_enter func80,ntmps80;go_wp2_with fail;rw[<-hX];go_wp2;go_ret;exact⟨by rw[Za R];rfl,Za HB⟩
theorem Hr:∀ (M:List Int) (U:List Zk) (N:List Int) (T:List Zk),M.length=U.length->Yy N T M U=0->Xv U
 | [],[],_,_,_,_=>λb hb=>by cases hb
 | [],_ :: _,_,_,h,_=>by cases h
 | _ :: _,[],_,_,h,_=>by cases h
 | x :: M,b :: U,N,T,h,hc=>by
  rw[Yy] at hc;split at hc
  ·next q=>exact absurd hc q
  ·next q=>
   have h1:=Rz (Rd (cC.1 q));have h2:=Hr M U _ _ (by simpa using h) hc;intro y hy
   rcases aW.1 hy with rfl|hy
   ·exact h1
   ·exact h2 y hy
theorem Uq{N:List Int}{T:List Zk}(h:chkTr N T=0):N.length=T.length/\N.length<=24/\Xv T/\Yy [] [] N T=0:=by
 unfold chkTr at h;split at h
 ·cases h
 ·next q=>
  split at h
  ·cases h
  ·next q2=>exact⟨cC.1 q,by omega,Hr N T [] [] (cC.1 q) h,h⟩
theorem pth_len{N T}(h:Xv T)(s:Int):(Y7 N T s).length<=1000:=by
 unfold Y7;rw[Jb];have:=(Us h s N);omega
theorem Zhh(a b)(n c d:Nat)(N T)(s:Int)(P:List Int)(pn:Nat)(w:World)(hn:n<=aT)(hN:IntsAt w a n N)(hT:BlksAt w b n T)(hH:Xv T)(hP:Y7 N T s=P)(ac:P.length=pn) :
  Calls aB 86 #[.agg #[F a n c,F b n d],E J s] w λe w'=>∃ v,e = dB v/\w'.ownsRow w.heap.size 3 1 v pn (P.map (aU .i64))/\ZD w w':=by
 subst hP ac;exact Zhg a b n c d N T s w hn hN hT hH
theorem pathE_ok{N T}{s:Int}(h:(Zlj N T s).2=0):chkTr N T=0/\(s=0\/s∈N)/\(Zlj N T s).1=Y7 N T s:=by
 unfold Zlj at h ⊢;by_cases q:chkTr N T=0
 ·rw[if_neg (by simp[q])] at h ⊢;by_cases q1:s≠0/\decide (s∈N)=false
  ·rw[if_pos q1] at h;cases h
  ·rw[if_neg q1];refine⟨q,?_,rfl⟩;by_cases e:s=0
   ·exact .inl e
   ·right
    by_cases e2:s∈N
    ·exact e2
    ·exact absurd ⟨e,by simp[e2]⟩ q1
 ·rw[if_pos q] at h;exact absurd h q
end Tr
open Go.RowKit
theorem Zq{P:Program}{ops}{o:Oper}{a:Act}{w}{K:Act->World->Prop}{Q:Exit->Act->World->Prop}{ab:Prop}
  (hw:cL o (yielded ops a.tmps)=true) (f:FuncId) (vs) (he:(execOp a.eval o).run P w = .ok (.enter f vs) w) {R:Ending->World->Prop} (hc:Calls P f vs w R) (h:∀ e w',R e w'->∃ v,e = dB v/\K (a.put o.dst v) w') :
  if cL o (yielded ops a.tmps)=true then Oper.wp P o a w K Q else ab:=by
 rw[if_pos hw];unfold Oper.wp;rw[he,Oper.upon_enter];refine hc.mono ?_;intro e w' hr;obtain⟨v,rfl,hk⟩:=h e w' hr;exact hk
theorem Jf{P:Program}{ops}{o:Oper}{a:Act}{w}{K:Act->World->Prop}{Q:Exit->Act->World->Prop}{ab:Prop}
  (hg:o.guard=aD) (f:FuncId) (vs) (he:(execOp a.eval o).run P w = .ok (.enter f vs) w) {R:Ending->World->Prop} (hc:Calls P f vs w R) (h:∀ e w',R e w'->∃ v,e = dB v/\K (a.put o.dst v) w') :
  if cL o (yielded ops a.tmps)=true then Oper.wp P o a w K Q else ab:=
 Zq (by simp[cL,hg]) f vs he hc h
namespace Tr
open Go.RowKit
def addE(N:List Int)(T:List Zk)(x:Int)(b:Zk):List Int×List Zk×Int:=
 if chkTr N T≠0 then ([],[],chkTr N T) else if Yj N T x b≠0 then ([],[],Yj N T x b) else if N.length=24 then ([],[],12) else (N++[x],T++[b],0)
theorem Fg:∀ (l pre:List InD),Z8 pre l=0->∀ x∈l,x.2.2.length<=16
 | [],_,_,x,hx=>by cases hx
 | y :: r,pre,h,x,hx=>by
  rw[Z8] at h;split at h
  ·next q=>
   rcases aW.1 hx with rfl|hx
   ·unfold Wt at q;split at q
    ·cases q
    ·split at q
     ·next q1=>exact absurd q q1
     ·next q1=>exact Pv (cC.1 q1)
   ·exact Fg r _ h x hx
  ·next q=>exact absurd h q
theorem L4:∀ (l:List Yd),Z0 l=0->∀ x∈l,x.2.length<=16
 | [],_,x,hx=>by cases hx
 | y :: r,h,x,hx=>by
  rw[Z0] at h;split at h
  ·next q=>
   rcases aW.1 hx with rfl|hx
   ·unfold Yz at q;split at q
    ·cases q
    ·exact Pv q
   ·exact L4 r h x hx
  ·next q=>exact absurd h q
theorem tx_small{t}(h:Zp t=0):TxSmall t:=by
 unfold Zp at h;split at h
 ·cases h
 ·next q0=>
  split at h
  ·cases h
  ·split at h
   ·cases h
   ·split at h
    ·next q=>exact absurd h q
    ·next q=>
     have h1:=Fg _ _ (cC.1 q);unfold Zx at h;split at h
     ·next q2=>
      have h2:=L4 _ q2;exact⟨by omega,by omega,λx hx=>by have:=h1 x hx;omega,λx hx=>by have:=h2 x hx;omega⟩
     ·next q2=>exact absurd h q2
theorem Q8(h:Int):∀ (T:List TxD) (i:Nat),Yx h i T=0->∀ t∈T,Zp t=0
 | [],_,_,t,ht=>by cases ht
 | u :: r,i,q,t,ht=>by
  rw[Yx] at q;split at q
  ·next q1=>exact absurd q q1
  ·next q1=>
   split at q
   ·cases q
   ·rcases aW.1 ht with rfl|ht
    ·exact cC.1 q1
    ·exact Q8 h r _ q t ht
theorem blk_small{b:Zk}(h:Yu b=0):BlkSmall b:=by
 unfold Yu at h;split at h
 ·cases h
 ·split at h
  ·cases h
  ·next q=>
   split at h
   ·cases h
   ·exact⟨by omega,λt ht=>tx_small (Q8 _ _ _ h t ht)⟩
theorem Sd:∀ (M:List Int) (U:List Zk) (N:List Int) (T:List Zk),M.length=U.length->Yy N T M U=0->∀ b∈U,Yu b=0
 | [],[],_,_,_,_=>λb hb=>by cases hb
 | [],_ :: _,_,_,h,_=>by cases h
 | _ :: _,[],_,_,h,_=>by cases h
 | x :: M,b :: U,N,T,h,hc=>by
  rw[Yy] at hc;split at hc
  ·next q=>exact absurd hc q
  ·next q=>
   have h1:=Rd (cC.1 q);have h2:=Sd M U _ _ (by simpa using h) hc;intro y hy
   rcases aW.1 hy with rfl|hy
   ·exact h1
   ·exact h2 y hy
def AddR(w w':World)(N:List Int)(T:List Zk)(n:Nat)(x:Int)(e:Ending):Prop:=
 ∃ a1 c1 a2 c2,e = dB (dC #[.agg #[F a1 n c1,F a2 n c2],E J x])/\Fresh w.heap.size w' (λw2=>IntsAt w2 a1 n N/\BlksAt w2 a2 n T)/\SlOk a1 n c1/\SlOk a2 n c2/\ZD w w'
theorem Nr{w w':World}{x:Int}(hb:ZD w w'):AddR w w' [] [] 0 x (dB (dC #[.agg #[F aD 0 0,F aD 0 0],E J x])):=
 ⟨aD,0,aD,0,rfl,λ_ _=>⟨IntsAt.nil _ _,RowsAt.nil _ _⟩,⟨aE _,aI _,λ_=>⟨rfl,rfl⟩⟩,⟨aE _,aI _,λ_=>⟨rfl,rfl⟩⟩,hb⟩
theorem Zv{w W:World}{t:Nat}(hb:ZD w W)(ht:w.heap.size<=t)(hs:w.heap.size<=W.heap.size)(u v):ZD w ((W.setCell ⟨t,0,aD⟩ u).setCell ⟨t,1,aD⟩ v):=
 (((Gr.refl W (λq=>q=t)).one t 0 (.inl rfl) u).one t 1 (.inl rfl) v).below hb hs (λk e=>by omega)
theorem Zre{B B5 G O t6 n:Nat}{w5 w9 an ap wF:World}{v1 v2:Value}{g cap g2 cap2:Nat}{N}{T:List Zk}{s:Int}{b:Zk}{K:List (List Value)}{cs}
  (hB:B<=B5) (cc:t6<B5) (bz:B5<=G) (be:T.length=n) (hF:Fresh G w5 (λw2=>AllC blkR w2 K T)) (hf:Fresh w9.heap.size an (λw2=>blkR.C w2 cs b))
  (h1:∀ q,v1.ownBlock=dG q->q<G) (h2:∀ q,v2.ownBlock=dG q->q<G) (ay:∀ q,v2.ownBlock=dG q->B5<=q/\q<w5.heap.size) (hO:O=w5.heap.size) (cb:O<w9.heap.size) (bx:B<=w9.heap.size) (cd:t6<w9.heap.size)
  (g9:Gr w5 w9 (λq=>v1.ownBlock=dG q)) (gF:Gr w9 wF (λq=>v2.ownBlock=dG q\/q=O\/q=t6)) (av:Gr an wF (λq=>v2.ownBlock=dG q\/q=O\/q=t6)) (aw:Gr ap wF (λq=>q=O\/q=t6))
  (am:w9.ownsRow B5 3 1 (F (dG ⟨g,0,aD⟩) (n+1) cap) (n+1) ((N++[s]).map (aU .i64))) (hg:g≠O) (bj:v2.ownBlock≠dG g)
  (o12:ap.ownsRow B5 33 5 (F (dG ⟨g2,0,aD⟩) (n+1) cap2) (n+1) (K.flatten++cs)) (bo:g2≠O) :
  Fresh B wF (λw2=>IntsAt w2 (dG ⟨g,0,aD⟩) (n+1) (N++[s])/\BlksAt w2 (dG ⟨g2,0,aD⟩) (n+1) (T++[b]))/\SlOk (dG ⟨g,0,aD⟩) (n+1) cap/\SlOk (dG ⟨g2,0,aD⟩) (n+1) cap2:=by
 have gb:=(am.lt g rfl).1;have bv:=(o12.lt g2 rfl).1
 have ag:=gF.own am (λq hq e=>by
  cases hq
  rcases e with e|e|e
  ·exact bj e
  ·exact hg e
  ·simp only at e;omega)
 have af:=aw.own o12 (λq hq e=>by
  cases hq
  rcases e with e|e
  ·exact bo e
  ·simp only at e;omega)
 have bd:Fresh G wF (λw2=>AllC blkR w2 K T):=hF.on (((g9.mono (T:=λq=>v1.ownBlock=dG q\/v2.ownBlock=dG q\/q=O\/q=t6) λq _ e=>.inl e).trans (gF.mono λq _ e=>.inr e)).mono λq hq e=>by
  rcases e with e|e|e|e
  ·exact h1 q e
  ·exact h2 q e
  ·omega
  ·omega)
 have bg:Fresh w9.heap.size wF (λw2=>blkR.C w2 cs b):=hf.on (av.mono λq _ e=>by
  rcases e with e|e|e
  ·have:=(ay q e).2;omega
  ·omega
  ·omega)
 have s1:=Yw ag;have s2:=Yw af;obtain⟨a1,c1,e1,s1,_⟩:=s1;obtain⟨a2,c2,e2,s2,_⟩:=s2;cases e1;cases e2;refine⟨λw2 g2=>?_,s1,s2⟩;have br:=g2.own ag (λq hq=>by have:=(ag.lt q hq).1;omega);have al:=g2.own af (λq hq=>by have:=(af.lt q hq).1;omega);obtain⟨a1,c1,e1,_,i1⟩:=ints_of_own br;cases e1;have hA:=(bd w2 (g2.mono λq _ e=>by omega)).snoc (bg w2 (g2.mono λq _ e=>by omega));have bh:K.flatten++cs=(K++[cs]).flatten:=by simp
 rw[bh] at al;obtain⟨a2,c2,e2,r2,_⟩:=rows_of_own blkR al hA (by rw[bL,be];rfl);cases e2;exact⟨i1,r2⟩
theorem add_is(a b n c m d N T)(s p h k o:Int)(ta tn tc L)(N':List Int)(T')(n':Nat)(x:Int)(w)(hN:IntsAt w a n N)(hT:BlksAt w b m T)(sN:SlOk a n c)(sT:SlOk b m d)(hL:TxsAt w ta tn L)(sL:SlOk ta tn tc)(hx:addE N T s (p,h,k,o,L)=(N',T',x))(cw:N'.length=n') :
  Calls aB 40 #[.agg #[F a n c,F b m d],E J s,.agg #[E J p,E J h,E J k,E J o,F ta tn tc]] w λe w'=>AddR w w' N' T' n' x e:=by
 obtain⟨i0,hi,gq,gs,gu⟩:=bX Tryz.infoInt;obtain⟨j0,ji,gy,gz,ia⟩:=bX Tryz.infoBlkC;obtain⟨X,hX⟩:=ZG (((w.alloc (dA #[F a n c,F b m d] 28)).alloc (dA #[E J p,E J h,E J k,E J o,F ta tn tc] 33)).alloc (dA #[F aD 0 0,F aD 0 0] 28));have ag:ZD w X:=by rw[hX];exact Zf (Zf (Zh _ _) (Zh _ _)) (Zh _ _)
 have bs:X.heap[w.heap.size]? = dG (dA [F a n c,F b m d].toArray 28 (0,0)):=by
  rw[hX,bJ _ _ _ (by simp;omega),bJ _ _ _ (by simp)];exact two_heap _ _ _ _
 have cl:X.heap[w.heap.size+1]? = dG (dA [E J p,E J h,E J k,E J o,F ta tn tc].toArray 33 (0,0)):=by
  rw[hX,bJ _ _ _ (by simp)];have:=Zw (w.alloc (dA #[F a n c,F b m d] 28)) (E J p) (E J h) (E J k) (E J o) (F ta tn tc) 33;rw[show (w.alloc (dA #[F a n c,F b m d] 28)).heap.size=w.heap.size+1 by simp] at this;exact this
 have cm:X.heap[w.heap.size+2]? = dG (dA [F aD 0 0,F aD 0 0].toArray 28 (0,0)):=by
  rw[hX];have:=two_heap ((w.alloc (dA #[F a n c,F b m d] 28)).alloc (dA #[E J p,E J h,E J k,E J o,F ta tn tc] 33)) (F aD 0 0) (F aD 0 0) 28;rw[show ((w.alloc (dA #[F a n c,F b m d] 28)).alloc (dA #[E J p,E J h,E J k,E J o,F ta tn tc] 33)).heap.size=w.heap.size+2 by simp] at this;exact this
 have hm:=sN.2.1;unfold aT at hm;have ix:=sN.1;obtain⟨HB,dh,di,dj⟩:=kh4 ag bs cl cm;obtain⟨y,hy⟩:=ZF (chkTr N T);obtain⟨z,hz⟩:=ZF (Yj N T s (p,h,k,o,L));have C1:=Zb (J4 a b n c m d N T y X (hN.later ag) (hT.later ag) sN sT hy);obtain⟨x0,x1,xl⟩:=kc2 bs;unfold addE at hx;rw[hy,hz] at hx;by_cases q:y=0
 ·subst q;rw[if_neg (by simp)] at hx;obtain⟨hl,h24,hH,dz⟩:=Uq hy;obtain rfl:n=m:=by rw[<-hN.1,<-hT.1,hl]
  have ea:n<=aT:=sN.len;have iw:n<=24:=by rw[<-hN.1];exact h24
  have HS:=Zb (λt ht=>blk_small (Sd N T [] [] hl dz t ht));have C2:=Zb (λW (hb:ZD X W)=>Zfd a b n c d N T s p h k o ta tn tc L z W ea (hN.later (Zf ag hb)) (hT.later (Zf ag hb)) (hL.later (Zf ag hb)) hH hz);rw[hN.1] at hx;obtain⟨cc,cb⟩:=kh2 hx cw;have CT:=Zb (λW (hb:ZD X W)=>clTree_is a b n c d N T W (hN.later (Zf ag hb)) (hT.later (Zf ag hb)) sN sT (by omega) HS);have CB:=Zb (λW (hb:ZD w W) (q:z=0)=>Sa p h k o ta tn tc L W (hL.later hb) sL (by rw[<-hL.1];exact (blk_small (Rd (hz.trans q))).1) (blk_small (Rd (hz.trans q))).2);have fu:=Zb hN.1;clear ag bs cl cm hN hT sN sT hL sL hy hz hl h24 hH dz ea hx cw;go_enter func40,ntmps40;go_wp2_with fail;rw[<-hX];clear hX;refine C1.mono ?_;rintro e w1 ⟨rfl,ak⟩;have av:=Zb ak;have h0:=ZE ak dh;have h1:=ZE ak di;obtain⟨a0,a1,jg⟩:=kc2 h0;obtain⟨b0,b1,b2,b3,b4,bl⟩:=kc5 h1;clear ak h0 h1 x0 x1 xl;go_wp2_with fail;refine (C2 _ av).mono ?_;rintro e w2 ⟨rfl,dv⟩;have aw:=Zb (Zf av dv);clear dv a0 a1 jg b0 b1 b2 b3 b4 bl;have h0:=ZE aw dh;have h1:=ZE aw di;have h2:=ZE aw dj;obtain⟨c0,c1,f0,f1,jh⟩:=kf2 h2;have ax:=Zb (Zf HB aw);by_cases q2:z=0
  ·subst q2;obtain⟨a0,a1,jg⟩:=kc2 h0;by_cases q3:n=24
   ·subst q3
    obtain⟨rfl,rfl,rfl⟩:([]:List Int)=N'/\([]:List Zk)=T'/\12=x:=by
     have q:=Za cc;rw[if_neg (by simp),if_pos rfl] at q;exact⟨congrArg (·.1) q,congrArg (·.2.1) q,congrArg (·.2.2) q⟩
    obtain rfl:0=n':=Za cb;clear h0 h1 h2;go_wp2;refine aL (v:=dC #[.agg #[F aD 0 0,F aD 0 0],E J 12]) ?_ rfl (Nr ?_)
    ·rw[Zo rfl];go_simp
    ·exact Zv ax (by omega) ax.size _ _
   ·have R:Hid (N++[s]=N'/\T++[(p,h,k,o,L)]=T'/\0=x):=by
     have q:=Za cc;rw[if_neg (by simp),if_neg q3] at q;exact⟨congrArg (·.1) q,congrArg (·.2.1) q,congrArg (·.2.2) q⟩
    obtain rfl:0=x:=R.2.2;have g3:((n:Int) == 24)=false:=(by simp;omega);obtain⟨H0,H1,H2⟩:=kh3 h0 h1 h2;obtain rfl:n+1=n':=(by rw[<-Za cb,<-(Za R).1,bL,Za fu];rfl);clear q3 h0 h1 h2 c0 c1 f0 f1;go_wp2_with fail;refine (CT _ aw).mono ?_;rintro e w5 ⟨v1,v2,rfl,gi,cn⟩;obtain⟨K,G,o1,o2,g1,g2,dr,dt,hF⟩:=gi;obtain⟨ad,ae,rfl,s1,r1⟩:=Yw o1;obtain⟨aa,ab,rfl,s2,r2⟩:=Yw o2;obtain⟨t6,iz⟩:=ZG (w.heap.size+2);have it:w.heap.size+3<=w2.heap.size+2:=(by omega);have iy:w2.heap.size<=w5.heap.size:=cn.size;have du:∀ q,(bW ad n ae).ownBlock=dG q->w2.heap.size+2<=q/\q<w5.heap.size:=λq hq=>o1.lt q hq;have dw:∀ q,(bW aa n ab).ownBlock=dG q->w2.heap.size+2<=q/\q<w5.heap.size:=λq hq=>o2.lt q hq;have cd:Hid (((w5.alloc (dA #[F ad n ae,F aa n ab] 28)).alloc (dA #[E J s] 3)).ownsRow (w2.heap.size+2) 3 1 (F ad n ae) n (N.map (aU .i64))):=(o1.alloc _).alloc _
    have fv:Hid (∀ j u,([E J s]:List Value)[j]? = dG u->((w5.alloc (dA #[F ad n ae,F aa n ab] 28)).alloc (dA #[E J s] 3)).cell? ((⟨w5.heap.size+1,0,aD⟩:Addr).add j)=dG u):=by
     have:=aG (w5.alloc (dA #[F ad n ae,F aa n ab] 28)) (dA #[E J s] 3);rw[show (w5.alloc (dA #[F ad n ae,F aa n ab] 28)).heap.size=w5.heap.size+1 by simp] at this;exact bI (cs:=#[E J s]) (t:=3) (fr:=(0,0)) this
    have BX:Hid (((w5.alloc (dA #[F ad n ae,F aa n ab] 28)).alloc (dA #[E J s] 3)).heap[w5.heap.size]? = dG (dA [F ad n ae,F aa n ab].toArray 28 (0,0))):=by
     show _=_;rw[bJ _ _ _ (by simp)];exact two_heap _ _ _ _
    obtain⟨bj,HF,ff,fg,ay,az,ca,fq⟩:=kh8 o2 hF g1 g2 du dw cn dt;obtain⟨ey,iq⟩:=kh2 dr s2;clear o1 o2 hF g1 g2 du dw cn a0 a1 jg r1 r2 dt dr s1 s2
    go_wp2_with (at_builtin;refine wpList_append_lies _ rfl _ _ 25 rfl (w2.heap.size+2) 3 i0 (E J 0) 1 8 cR hi gq gs gu rfl (by decide) _ _ _ rfl cd ⟨w5.heap.size+1,0,aD⟩ 1 1 [E J s] rfl rfl fv (λu hu=>by simp at hu;subst hu;rfl) (by decide) (by unfold aT;omega) (by omega) (by simp;omega) (w5.heap.size+2) (by simp) ?_;intro g cap w8 ee ct ec iv;have am:=(ct.block w5.heap.size (by simp;omega) (λe=>by have:=(ay _ e.symm).2;omega)).trans BX;have d0:=Zd am 0 _ rfl;have d1:=Zd am 1 _ rfl;have jj:=Zg am 0;have dl:=aA am;have dg:=Zb ee;have fi:=Zb ct;have fo:=Zb ec;have ft:=Zb am;clear ee ct ec am)
    obtain⟨w9,bi⟩:=ZG (w8.setCell ⟨w5.heap.size,0,aD⟩ (F (dG ⟨g,0,aD⟩) (n+1) cap));rw[<-bi];have cj:Gr w5 w8 (λq=>(bW ad n ae).ownBlock=dG q):=(((Gr.refl w5 (λq=>(bW ad n ae).ownBlock=dG q)).new _).new _).grown fi (λk hk=>.inl hk);have an:Gr w5 w9 (λq=>(bW ad n ae).ownBlock=dG q):=(by rw[bi];exact cj.one w5.heap.size 0 (.inr (aE _)) _);have bo:w9.heap[w5.heap.size]? = dG (dA [F (dG ⟨g,0,aD⟩) (n+1) cap,F aa n ab].toArray 28 (0,0)):=(by rw[bi];exact set_cells ft 0 _);have cp:ZD w w9:=an.below (Zf ax ca) (by omega) (λq hq=>by have:=(ay q hq).1;omega);have h91:=an.heap (ZE ca H1) (λhq=>by have:=(ay _ hq).1;have:=aA H1;omega);have h92:=an.heap (ZE ca H2) (λhq=>by have:=(ay _ hq).1;omega)
    have dy:g≠w5.heap.size/\w2.heap.size+2<=g:=by
     rcases Za fo with e|e
     ·have:=ay g e;omega
     ·omega
    have gl:(bW aa n ab).ownBlock≠dG g:=by
     have ij:w8.ownsRow (w2.heap.size+2) 33 5 (F aa n ab) n K.flatten:=cj.own bj (λq hq e=>Wa (((cd.kept (w':=(w5.alloc (dA #[F ad n ae,F aa n ab] 28)).alloc (dA #[E J s] 3)) (row:=aD) (World.grownBy.refl _ _) (by cases ad <;> simp[Value.ownBlock])))) ((bj.alloc _).alloc _) (by decide) q e hq);exact Wa dg ij (by decide) g rfl
    have ei:w9.ownsRow (w2.heap.size+2) 3 1 (F (dG ⟨g,0,aD⟩) (n+1) cap) (n+1) ((N++[s]).map (aU .i64)):=by
     rw[bi];have:=((Gr.refl w8 (λq=>q=w5.heap.size)).one w5.heap.size 0 (.inl rfl) (F (dG ⟨g,0,aD⟩) (n+1) cap)).own dg (λq hq e=>by cases hq;exact dy.1 e);simpa using this
    have eh:w9.ownsRow (w2.heap.size+2) 33 5 (F aa n ab) n K.flatten:=an.own bj (λq hq e=>Wa cd ((bj.alloc _).alloc _) (by decide) q e hq);have l9:w5.heap.size<w9.heap.size:=aA bo;have CC:=Zb (CB w9.drew (Zf cp (Zj _)) (by trivial));obtain⟨e0,e1,-⟩:=kc2 bo;obtain⟨k0,k1,k2,k3,k4,kl⟩:=kc5 h91;obtain⟨fb,fh,dc,fl,fk,ev⟩:=kh6 bo an h92 ei eh cp;clear bi cj an bo cp h91 h92 ei eh d0 d1 jj dl
    go_region_law (first
     | (refine Jf (by rfl) 83 #[.agg #[E J p,E J h,E J k,E J o,F ta tn tc]] (by kernel_rfl) CC ?_;rintro e ar ⟨a5,c5,rfl,dx,bu⟩;refine⟨_,rfl,?_⟩;have bd:=ZE bu fb;have m0:=Zd bd 0 _ rfl;have m1:=Zd bd 1 _ rfl;have ml:=aA bd;have fd:=Zb dx;have de:=Zb bu;have ez:=Zb bd;have fj:=Zb ((Gr.of (S:=λ_=>False) bu).own fk.drew (λ_ _ q=>q));clear dx bu bd)
     | (refine step_append_lies _ (by rfl) _ _ _ (by rfl) (w2.heap.size+2) 33 j0 _ 5 56 underlying26 ji gy gz ia rfl (by decide) (F aa n ab) n K.flatten (by rfl) (fj.alloc _) ⟨ar.heap.size,0,aD⟩ 1 1 [E J p,E J h,E J k,E J o,F a5 tn c5] (by rfl) (by rfl) (bI (cs:=#[E J p,E J h,E J k,E J o,F a5 tn c5]) (t:=33) (fr:=(0,0)) (aG ar _)) (by simp[Value.oneCell']) (by decide) (by unfold aT;omega) (by omega) (by simp;omega) (ar.heap.size+1) (by simp) ?_;intro g2 cap2 au ed cq eb iu;have al:=(cq.block w5.heap.size (by simp;omega) (λe=>by have:=(az _ e.symm).2;omega)).trans ((bJ _ _ _ ml).trans ez);have n0:=Zd al 0 _ rfl;have n1:=Zd al 1 _ rfl;have nf:=Zg al 1;have nl:=aA al;have fs:=Zb ed;have df:=Zb cq;have fm:=Zb eb;have fa:=Zb al;clear ed cq eb al))
    all_goals
     have br:Gr w9 au (λq=>(bW aa n ab).ownBlock=dG q):=((Gr.of (Zf (Zj w9) de)).new _).grown df (λk hk=>.inl hk);have dq:Gr ar au (λq=>(bW aa n ab).ownBlock=dG q):=((Gr.refl ar _).new _).grown df (λk hk=>.inl hk);have ek:=br.heap dc (λe=>by have:=(az _ e).1;omega);obtain⟨bx,bh⟩:=ZG (au.setCell ⟨w5.heap.size,1,aD⟩ (F (dG ⟨g2,0,aD⟩) (n+1) cap2));have dm:bx.heap[w5.heap.size]? = dG (dA [F (dG ⟨g,0,aD⟩) (n+1) cap,F (dG ⟨g2,0,aD⟩) (n+1) cap2].toArray 28 (0,0)):=(by rw[bh];exact set_cells fa 1 _);have el:bx.heap[w.heap.size+2]? = dG (dA [F aD 0 0,F aD 0 0].toArray 28 (0,0)):=by rw[bh];exact ((Gr.refl au (λq=>q=w5.heap.size)).one w5.heap.size 1 (.inl rfl) _).heap ek (by omega)
     have gf:∀ {W:World} {S:Nat->Prop},Gr W au S->Gr W ((bx.setCell ⟨w.heap.size+2,0,aD⟩ (F (dG ⟨g,0,aD⟩) (n+1) cap)).setCell ⟨w.heap.size+2,1,aD⟩ (F (dG ⟨g2,0,aD⟩) (n+1) cap2)) (λq=>S q\/q=w5.heap.size\/q=w.heap.size+2):=by
      intro W S hW;rw[bh];exact (((hW.mono (λq _ e=>.inl e)).one w5.heap.size 1 (.inl (.inr (.inl rfl))) _).one (w.heap.size+2) 0 (.inl (.inr (.inr rfl))) _).one (w.heap.size+2) 1 (.inl (.inr (.inr rfl))) _
     have gn:=de.size
     have da:=Zre (w9:=w9) (B:=w.heap.size) (t6:=w.heap.size+2) (by omega) (by omega) ey fq HF fd ff fg az rfl l9 (by omega) (by have:=aA dc;omega) fh (gf br) (gf dq) ((gf (Gr.refl au (λ_=>False))).mono λq _ e=>by rcases e with e|e;exact e.elim;exact e) fl dy.1 gl fs (by
      rcases Za fm with e|e
      ·have:=az g2 e;omega
      ·have:w9.heap.size<=ar.heap.size:=gn;omega)
     have fe:=Zb da
     have ew:Hid (ZD w ((bx.setCell ⟨w.heap.size+2,0,aD⟩ (F (dG ⟨g,0,aD⟩) (n+1) cap)).setCell ⟨w.heap.size+2,1,aD⟩ (F (dG ⟨g2,0,aD⟩) (n+1) cap2))):=(gf br).below ev (by omega) (λq e=>by
      rcases e with e|e|e
      ·have:=(az _ e).1;omega
      ·omega
      ·omega)
     obtain⟨y0,y1,yl⟩:=kc2 dm;obtain⟨u0,u1,ja,jb,ul⟩:=kf2 el;rw[<-bh];clear bh gf da br dq ek dm el n0 n1 nf nl m0 m1 ml e0 e1 k0 k1 k2 k3 k4 kl;go_wp2;refine aL (v:=dC #[.agg #[F (dG ⟨g,0,aD⟩) (n+1) cap,F (dG ⟨g2,0,aD⟩) (n+1) cap2],E J 0]) ?_ rfl ?_
     ·rw[Zo rfl];go_simp
     ·obtain⟨f1,f2,f3⟩:=Za fe;rw[<-(Za R).1,<-(Za R).2.1];exact⟨_,_,_,_,rfl,f1,f2,f3,Za ew⟩
  ·obtain⟨rfl,rfl,rfl⟩:([]:List Int)=N'/\([]:List Zk)=T'/\z=x:=by
    have q:=Za cc;rw[if_pos q2] at q;exact⟨congrArg (·.1) q,congrArg (·.2.1) q,congrArg (·.2.2) q⟩
   obtain rfl:0=n':=Za cb;have g2:(z != 0)=true:=(by simp[q2]);clear h0 h1 h2 q2;go_wp2;refine aL (v:=dC #[.agg #[F aD 0 0,F aD 0 0],E J z]) ?_ rfl (Nr ?_)
   ·rw[Zo rfl];go_simp
   ·exact Zv ax (by omega) ax.size _ _
 ·rw[if_pos q] at hx;obtain⟨rfl,rfl,rfl⟩:([]:List Int)=N'/\([]:List Zk)=T'/\y=x:=⟨congrArg (·.1) hx,congrArg (·.2.1) hx,congrArg (·.2.2) hx⟩;obtain rfl:0=n':=cw;have g:(y != 0)=true:=by simp[q]
  clear ag bs cl cm hN hT sN sT hL sL hy hz hx q;go_enter func40,ntmps40;go_wp2_with fail;rw[<-hX];clear hX;refine C1.mono ?_;rintro e w1 ⟨rfl,ak⟩;have h2:=ZE ak dj;obtain⟨c0,c1,f0,f1,jh⟩:=kf2 h2;have av:=Zb (Zf HB ak);clear ak h2 x0 x1 xl;go_wp2;refine aL (v:=dC #[.agg #[F aD 0 0,F aD 0 0],E J y]) ?_ rfl (Nr ?_)
  ·rw[Zo rfl];go_simp
  ·exact Zv av (by omega) av.size _ _
def blockE(N:List Int)(T:List Zk)(s:Int):Zk×Int:=
 if chkTr N T≠0 then (Y6,chkTr N T) else if decide (s∈N)=true then (fnd s N T,0) else (Y6,5)
theorem fnd_at{N:List Int}{T:List Zk}{s:Int}(hl:N.length=T.length)(h:s∈N):fnd s N T∈T:=by
 rcases idxI_fnd s N T 0 hl with ⟨_,q,_⟩|⟨i,hi,_,_,q⟩
 ·exact absurd h q
 ·rw[q];exact aQ hi
def Zoo(w w':World)(x:Zk)(y:Int)(e:Ending):Prop:=
 ∃ ta tn tc,e = dB (dC #[.agg #[E J x.1,E J x.2.1,E J x.2.2.1,E J x.2.2.2.1,F ta tn tc],E J y])/\TxsAt w' ta tn x.2.2.2.2/\SlOk ta tn tc/\ZD w w'
theorem Nn{w w':World}{y:Int}(hb:ZD w w'):Zoo w w' Y6 y (dB (dC #[.agg #[E J 0,E J 0,E J 0,E J 0,F aD 0 0],E J y])):=
 ⟨aD,0,0,rfl,RowsAt.nil _ _,⟨aE _,aI _,λ_=>⟨rfl,rfl⟩⟩,hb⟩
theorem Bg(W:World)(t:Nat)(a b c d e):Gr W (((((W.setCell ⟨t,0,aD⟩ a).setCell ⟨t,1,aD⟩ b).setCell ⟨t,2,aD⟩ c).setCell ⟨t,3,aD⟩ d).setCell ⟨t,4,aD⟩ e) (λq=>q=t):=
 (((((Gr.refl W (λq=>q=t)).one t 0 (.inl rfl) _).one t 1 (.inl rfl) _).one t 2 (.inl rfl) _).one t 3 (.inl rfl) _).one t 4 (.inl rfl) _
theorem block_is(a b n c m d N T)(s:Int)(x:Zk)(y:Int)(w)(hN:IntsAt w a n N)(hT:BlksAt w b m T)(sN:SlOk a n c)(sT:SlOk b m d)(hx:blockE N T s=(x,y)) :
  Calls aB 88 #[.agg #[F a n c,F b m d],E J s] w λe w'=>Zoo w w' x y e:=by
 obtain⟨X,hX⟩:=ZG ((w.alloc (dA #[F a n c,F b m d] 28)).alloc (dA #[E J 0,E J 0,E J 0,E J 0,F aD 0 0] 33));have af:ZD w X:=by rw[hX];exact Zf (Zh _ _) (Zh _ _)
 have bs:X.heap[w.heap.size]? = dG (dA [F a n c,F b m d].toArray 28 (0,0)):=by rw[hX,bJ _ _ _ (by simp)];exact two_heap _ _ _ _
 have cw:X.heap[w.heap.size+1]? = dG (dA [E J 0,E J 0,E J 0,E J 0,F aD 0 0].toArray 33 (0,0)):=by
  rw[hX];have:=Zw (w.alloc (dA #[F a n c,F b m d] 28)) (E J 0) (E J 0) (E J 0) (E J 0) (F aD 0 0) 33;rw[show (w.alloc (dA #[F a n c,F b m d] 28)).heap.size=w.heap.size+1 by simp] at this;exact this
 obtain⟨HB,bo,av⟩:=kh3 af bs cw;obtain⟨z,hz⟩:=ZF (chkTr N T);have C1:=Zb (J4 a b n c m d N T z X (hN.later af) (hT.later af) sN sT hz);obtain⟨x0,x1,xl⟩:=kc2 bs;unfold blockE at hx;rw[hz] at hx;by_cases q:z=0
 ·subst q;rw[if_neg (by simp)] at hx;obtain⟨hl,h24,hH,cz⟩:=Uq hz;obtain rfl:n=m:=by rw[<-hN.1,<-hT.1,hl]
  have bz:n<=aT:=sN.len;obtain⟨o,ho⟩:=ZF (decide (s∈N));rw[ho] at hx;have C2:=Zb (λW (hb:ZD X W)=>Zdh a b n c n d N s o W bz (hN.later (Zf af hb)) ho);cases o with
  | false=>
   rw[if_neg (by simp)] at hx;obtain⟨rfl,rfl⟩:Y6=x/\5=y:=⟨congrArg Prod.fst hx,congrArg Prod.snd hx⟩;go_enter func88,ntmps88;go_wp2_with fail;rw[<-hX];refine C1.mono ?_;rintro e w1 ⟨rfl,aa⟩;have CC:=Zb (C2 _ aa);have hc:=ZE aa bo;have ay:=ZE aa av;obtain⟨H0,H1⟩:=kh2 hc ay;obtain⟨t0,t1,tl⟩:=kc2 hc;obtain⟨bh,ag⟩:=kh2 aa (Zf HB aa);go_wp2_with fail;refine CC.mono ?_;rintro e w2 ⟨rfl,ad⟩;have hd:=ZE ad H1;obtain⟨z0,z1,z2,z3,z4,f0,f1,f2,f3,f4,zl⟩:=kf5 hd;have au:=Zb (Zf ag ad);go_wp2;refine aL (v:=dC #[.agg #[E J 0,E J 0,E J 0,E J 0,F aD 0 0],E J 5]) ?_ rfl (Nn ?_)
   ·rw[Zo rfl];go_simp
   ·exact (Bg _ _ _ _ _ _ _).below au (by omega) (λk hk=>by omega)
  | true=>
   rw[if_pos rfl] at hx;obtain⟨bv,rfl⟩:fnd s N T=x/\0=y:=⟨congrArg Prod.fst hx,congrArg Prod.snd hx⟩;have da:x∈T:=(by rw[<-bv];exact fnd_at hl (by simpa using ho));have db:=blk_small (Sd N T [] [] hl cz x da);have C3:=Zb (λW (hb:ZD X W)=>Ks a b n c d N T s x W bz (hN.later (Zf af hb)) (hT.later (Zf af hb)) bv);have bj:=Zb db;obtain⟨p,h,k,r,L⟩:=x;go_enter func88,ntmps88;go_wp2_with fail;rw[<-hX];refine C1.mono ?_;rintro e w1 ⟨rfl,aa⟩;have CC:=Zb (C2 _ aa);have hc:=ZE aa bo;have ay:=ZE aa av;obtain⟨H0,H1⟩:=kh2 hc ay;obtain⟨t0,t1,tl⟩:=kc2 hc;obtain⟨bh,ag⟩:=kh2 aa (Zf HB aa);go_wp2_with fail;refine CC.mono ?_;rintro e w2 ⟨rfl,ad⟩;have C4:=Zb (C3 _ (Zf bh ad));have cx:=ZE ad H0;have hd:=ZE ad H1;have HD:=Zb hd;obtain⟨u0,u1,ul⟩:=kc2 cx;have cn:=Zb (Zf ag ad);go_wp2_with fail;refine C4.mono ?_;rintro e w3 ⟨ta,tn,tc,rfl,hL,sL,ax⟩;have hL:TxsAt w2 ta tn L:=hL;have C5:=Zb (Sa p h k r ta tn tc L w3 (hL.later ax) sL (by rw[<-hL.1];exact bj.1) bj.2);have hd:=ZE ax HD;obtain⟨bi,cp,dg⟩:=kh3 hd (Zf cn ax) hL.1;unfold Rk;go_wp2_with fail;refine C5.mono ?_;rintro e w4 ⟨a',c',rfl,hf,bu⟩;have hd:=ZE bu bi;obtain⟨z0,z1,z2,z3,z4,f0,f1,f2,f3,f4,zl⟩:=kf5 hd;have hg:=Bg w4 (w.heap.size+1) (E J p) (E J h) (E J k) (E J r) (F a' tn c');have dl:=aA bi;have HW:=Zb (hf _ (hg.mono λq _ e=>by omega))
   have au:Hid (ZD w (((((w4.setCell ⟨w.heap.size+1,0,aD⟩ (E J p)).setCell ⟨w.heap.size+1,1,aD⟩ (E J h)).setCell ⟨w.heap.size+1,2,aD⟩ (E J k)).setCell ⟨w.heap.size+1,3,aD⟩ (E J r)).setCell ⟨w.heap.size+1,4,aD⟩ (F a' tn c'))):=hg.below (Zf cp bu) (by omega) (λk hk=>by omega);go_wp2;refine aL (v:=dC #[.agg #[E J p,E J h,E J k,E J r,F a' tn c'],E J 0]) ?_ rfl ?_
   ·rw[Zo rfl];go_simp
   ·obtain⟨a2,n2,c2,e2,f1,f2⟩:=Za HW;cases e2;exact⟨_,_,_,rfl,f1,f2,Za au⟩
 ·rw[if_pos q] at hx;obtain⟨rfl,rfl⟩:Y6=x/\z=y:=⟨congrArg Prod.fst hx,congrArg Prod.snd hx⟩;have g:(z != 0)=true:=by simp[q]
  go_enter func88,ntmps88;go_wp2_with fail;rw[<-hX];refine C1.mono ?_;rintro e w1 ⟨rfl,aa⟩;have hd:=ZE aa av;obtain⟨z0,z1,z2,z3,z4,f0,f1,f2,f3,f4,zl⟩:=kf5 hd;have ag:=Zb (Zf HB aa);go_wp2;refine aL (v:=dC #[.agg #[E J 0,E J 0,E J 0,E J 0,F aD 0 0],E J z]) ?_ rfl (Nn ?_)
  ·rw[Zo rfl];go_simp
  ·exact (Bg _ _ _ _ _ _ _).below ag (by omega) (λk hk=>by omega)
theorem Kw(N T):∀ (d:Nat) (x:Int) (i:Nat),i<d->(upD N T d x).take (i+1)=upD N T (i+1) ((upD N T d x).getD i 0)
 | 0,_,_,h=>by omega
 | d+1,x,i,h=>by
  have hl:=Jb N T d (fnd x N T).1;by_cases e:i<d
  ·rw[upD,List.take_append_of_le_length (by omega),Kw N T d _ i e]
   congr 1
   simp[List.getD,List.getElem?_append_left (show i<(upD N T d (fnd x N T).1).length by omega)]
  ·have:i=d:=(by omega);subst this;rw[aM (by rw[Jb];omega)]
   congr 1
   simp[upD,List.getD,hl]
def Coh(P Q:List Int):Prop:=∀ i,i<P.length->i<Q.length->P.getD i 0=Q.getD i 0->P.take (i+1)=Q.take (i+1)
theorem upD_coh(N T)(d e:Nat)(x y:Int):Coh (upD N T d x) (upD N T e y):=by
 intro i h1 h2 h;rw[Jb] at h1 h2;rw[Kw N T d x i h1,Kw N T e y i h2,h]
theorem Hq:∀ (M:List Int) (U:List Zk) (N:List Int) (T:List Zk),M.length=U.length->Yy N T M U=0->∀ x∈M,1<=x/\x<=120
 | [],[],_,_,_,_=>λb hb=>by cases hb
 | [],_ :: _,_,_,h,_=>by cases h
 | _ :: _,[],_,_,h,_=>by cases h
 | x :: M,b :: U,N,T,h,hc=>by
  rw[Yy] at hc;split at hc
  ·next q=>exact absurd hc q
  ·next q=>
   have h1:Yj N T x b=0:=cC.1 q;have h2:=Hq M U _ _ (by simpa using h) hc;intro y hy
   rcases aW.1 hy with rfl|hy
   ·unfold Yj at h1;split at h1
    ·cases h1
    ·next q1=>simp at q1;exact q1
   ·exact h2 y hy
theorem Zmp{N:List Int}{T:List Zk}{x:Int}(hl:N.length=T.length)(h:x∈N):fnd x N T∈T:=by
 rcases idxI_fnd x N T 0 hl with ⟨_,h1,_⟩|⟨i,hi,_,_,h3⟩
 ·exact absurd h h1
 ·rw[h3];exact aQ hi
theorem fnd_out{N:List Int}{T:List Zk}{x:Int}(hl:N.length=T.length)(h:x∉N):fnd x N T=Y6:=by
 rcases idxI_fnd x N T 0 hl with ⟨_,_,h3⟩|⟨i,hi,_,h2,_⟩
 ·exact h3
 ·exact absurd h2 h
theorem Mc{N T}{x:Int}{b:Zk}(h:Yj N T x b=0):(1<=x/\x<=120)/\Yu b=0/\x∉N/\(b.1=0\/b.1∈N)/\b.2.1=(fnd b.1 N T).2.1+1:=by
 unfold Yj at h;split at h
 ·cases h
 ·next q1=>
  split at h
  ·next q2=>exact absurd h q2
  ·next q2=>
   split at h
   ·cases h
   ·next q3=>
    split at h
    ·cases h
    ·next q4=>
     split at h
     ·cases h
     ·next q5=>
      refine⟨by simpa using q1,cC.1 q2,by simpa using q3,?_,cC.1 q5⟩;by_cases e:b.1=0
      ·exact .inl e
      ·right
       by_cases e2:b.1∈N
       ·exact e2
       ·exact absurd ⟨e,by simp[e2]⟩ q4
theorem Fo{N M:List Int}{T U:List Zk}{y:Int}:N.length=T.length->y∈N->fnd y (N++M) (T++U)=fnd y N T:=by
 induction N generalizing T with
 | nil=>intro _ h;cases h
 | cons a N ih=>
  intro hl h;cases T with
  | nil=>cases hl
  | cons b T=>
   simp only[List.cons_append,fnd];by_cases e:y=a
   ·simp[e]
   ·rw[if_neg e,if_neg e];refine ih (by simpa using hl) ?_
    rcases aW.1 h with h|h
    ·exact absurd h e
    ·exact h
theorem Q6{N M:List Int}{T U:List Zk}{y:Int}:N.length=T.length->y∉N->fnd y (N++M) (T++U)=fnd y M U:=by
 induction N generalizing T with
 | nil=>
  intro hl _;cases T with
  | nil=>rfl
  | cons _ _=>cases hl
 | cons a N ih=>
  intro hl h;cases T with
  | nil=>cases hl
  | cons b T=>
   simp only[List.cons_append,fnd];rw[if_neg (λe=>h (by simp[e]))];exact ih (by simpa using hl) (λq=>h (by simp[q]))
theorem Zfk(x:Int)(b:Zk):fnd x [x] [b]=b:=by simp[fnd]
structure TrOk(N:List Int)(T:List Zk):Prop where
 len:N.length=T.length
 nd:N.Nodup
 nm:∀ x∈N,1<=x/\x<=120
 par:∀ x∈N,(fnd x N T).1=0\/(fnd x N T).1∈N
 hgt:∀ x∈N,(fnd x N T).2.1=(fnd (fnd x N T).1 N T).2.1+1
 chk:∀ b∈T,Yu b=0
theorem TrOk.nil:TrOk [] []:=⟨rfl,List.nodup_nil,λ_ h=>(by cases h),λ_ h=>(by cases h),λ_ h=>(by cases h),λ_ h=>(by cases h)⟩
theorem TrOk.zero{N T}(h:TrOk N T):(0:Int)∉N:=λq=>by have:=(h.nm 0 q).1;omega
theorem TrOk.heads{N T}(h:TrOk N T):Xv T:=λb hb=>Rz (h.chk b hb)
theorem TrOk.same{N T}{x:Int}{b:Zk}(h:TrOk N T)(hx:1<=x){y:Int}(hy:y=0\/y∈N):fnd y (N++[x]) (T++[b])=fnd y N T:=by
 by_cases e:y∈N
 ·exact Fo h.len e
 ·have ab:y=0:=by rcases hy with q|q;exact q;exact absurd q e
  rw[Q6 h.len e,fnd_out h.len e];unfold fnd;rw[if_neg (by omega)];unfold fnd;rfl
theorem TrOk.new{N T}{x:Int}{b:Zk}(h:TrOk N T)(hx:x∉N):fnd x (N++[x]) (T++[b])=b:=by
 rw[Q6 h.len hx,Zfk]
theorem TrOk.add{N T}{x:Int}{b:Zk}(h:TrOk N T)(hn:Yj N T x b=0):TrOk (N++[x]) (T++[b]):=by
 obtain⟨h1,h2,h3,h4,h5⟩:=Mc hn;refine⟨by simp[h.len],?_,λy hy=>?_,λy hy=>?_,λy hy=>?_,λc hc=>?_⟩
 ·rw[List.nodup_append];exact⟨h.nd,by simp,λa ha c hc=>by rw[cT.1 hc];exact λe=>h3 (e ▸ ha)⟩
 ·rcases bM.1 hy with q|q
  ·exact h.nm y q
  ·rw[cT.1 q];exact h1
 ·rcases bM.1 hy with q|q
  ·rw[h.same h1.1 (.inr q)]
   rcases h.par y q with e|e
   ·exact .inl e
   ·exact .inr (by simp[e])
  ·rw[cT.1 q,h.new h3]
   rcases h4 with e|e
   ·exact .inl e
   ·exact .inr (by simp[e])
 ·rcases bM.1 hy with q|q
  ·rw[h.same h1.1 (.inr q),h.same h1.1 (h.par y q)];exact h.hgt y q
  ·rw[cT.1 q,h.new h3,h.same h1.1 h4];exact h5
 ·rcases bM.1 hc with q|q
  ·exact h.chk c q
  ·rw[cT.1 q];exact h2
theorem Nd:∀ (M:List Int) (U:List Zk) (N:List Int) (T:List Zk),M.length=U.length->TrOk N T->Yy N T M U=0->TrOk (N++M) (T++U)
 | [],[],N,T,_,h,_=>by simpa using h
 | [],_ :: _,_,_,h,_,_=>by cases h
 | _ :: _,[],_,_,h,_,_=>by cases h
 | x :: M,b :: U,N,T,hl,h,hc=>by
  rw[Yy] at hc;split at hc
  ·next q=>exact absurd hc q
  ·next q=>
   have:=Nd M U _ _ (by simpa using hl) (h.add (cC.1 q)) hc;simpa using this
theorem TrOk.of{N T}(h:chkTr N T=0):TrOk N T:=by
 obtain⟨h1,_,_,h4⟩:=Uq h;simpa using Nd N T [] [] h1 TrOk.nil h4
theorem Nf:∀ (M:List Int) (U:List Zk) (N:List Int) (T:List Zk) (x:Int) (b:Zk),M.length=U.length->Yy N T M U=0->Yj (N++M) (T++U) x b=0->Yy N T (M++[x]) (U++[b])=0
 | [],[],N,T,x,b,_,_,h=>by
  rw[List.append_nil,List.append_nil] at h;simp[Yy,h]
 | [],_ :: _,_,_,_,_,h,_,_=>by cases h
 | _ :: _,[],_,_,_,_,h,_,_=>by cases h
 | y :: M,c :: U,N,T,x,b,h,hc,hn=>by
  rw[Yy] at hc;split at hc
  ·next q=>exact absurd hc q
  ·next q=>
   rw[List.cons_append,List.cons_append,Yy,if_neg q];exact Nf M U _ _ x b (by simpa using h) hc (by simpa using hn)
theorem chkTr_snoc{N:List Int}{T}{x:Int}{b:Zk}(h:chkTr N T=0)(hn:Yj N T x b=0)(hl:N.length≠24):chkTr (N++[x]) (T++[b])=0:=by
 obtain⟨h1,h2,_,h4⟩:=Uq h;unfold chkTr;rw[if_neg (by simp[h1]),if_neg (by simp;omega)];exact Nf N T [] [] x b h1 h4 (by simpa using hn)
theorem TrOk.up{N T}(h:TrOk N T)(y:Int):(fnd y N T).1=0\/(fnd y N T).1∈N:=by
 by_cases e:y∈N
 ·exact h.par y e
 ·rw[fnd_out h.len e];exact .inl rfl
theorem TrOk.upD_same{N T}{x:Int}{b:Zk}(h:TrOk N T)(hx:1<=x):∀ (d:Nat) (y:Int),(y=0\/y∈N)->upD (N++[x]) (T++[b]) d y=upD N T d y
 | 0,_,_=>rfl
 | d+1,y,hy=>by
  rw[upD,upD,h.same hx hy,h.upD_same hx d _ (h.up y)]
theorem TrOk.pth_same{N T}{x:Int}{b:Zk}(h:TrOk N T)(hx:1<=x){y:Int}(hy:y=0\/y∈N):Y7 (N++[x]) (T++[b]) y=Y7 N T y:=by
 unfold Y7;rw[h.same hx hy,h.upD_same hx _ y hy]
theorem Zjf(N T):∀ (P Q:List Int) (s:Int),Vu N T s (P++Q)=Vu N T (Vu N T s P) Q
 | [],_,_=>rfl
 | y :: P,Q,s=>by rw[List.cons_append,Vu,Vu,Zjf N T P Q]
def R8(N:List Int)(T:List Zk)(q:Int×Int)(P:List Int):Int×Int:=P.foldl (λq x=>if q.2<Xr N T x\/Xr N T x=q.2/\x<q.1 then (x,Xr N T x) else q) q
theorem Bf(N T):∀ (P:List Int) (b m:Int),bstGo N T b m P=(R8 N T (b,m) P).1
 | [],_,_=>rfl
 | x :: P,b,m=>by
  rw[bstGo];unfold R8;rw[List.foldl_cons];split
  ·rw[Bf N T P];rfl
  ·rw[Bf N T P];rfl
theorem Nl(N T):∀ (P:List Int) (q:Int×Int),q.2=Xr N T q.1->(R8 N T q P).2=Xr N T (R8 N T q P).1
 | [],_,h=>h
 | x :: P,q,h=>by
  unfold R8;rw[List.foldl_cons];split
  ·exact Nl N T P _ rfl
  ·exact Nl N T P _ h
theorem Nm(N T):∀ (P:List Int) (q:Int×Int),(R8 N T q P).1=q.1\/(R8 N T q P).1∈P
 | [],_=>.inl rfl
 | x :: P,q=>by
  unfold R8;rw[List.foldl_cons];split
  ·rcases Nm N T P (x,Xr N T x) with h|h
   ·exact .inr (by unfold R8 at h;rw[h];simp)
   ·exact .inr (by unfold R8 at h;simp[h])
  ·rcases Nm N T P q with h|h
   ·exact .inl h
   ·exact .inr (by unfold R8 at h;simp[h])
theorem TrOk.wrk_zero{N T}(h:TrOk N T):Xr N T 0=0:=by
 unfold Xr Y7;rw[fnd_out h.len h.zero];rfl
end Go.Proofs.YtbddijbmepdliaaGreatDoor.Tr
namespace Go.Proofs.YtbddijbmepdliaaGreatDoor.Bk
open Go.RowKit Go.Maps
theorem P4{α : Type}{L M:List α}{j:Nat}(h1:j<L.length)(h2:j<M.length)(h:L.take j=M.take j)(e:L[j]=M[j]):L.take (j+1)=M.take (j+1):=by
 rw[aH h1,aH h2,h,e]
theorem Kz{α : Type}{L M:List α}{j:Nat}(h1:j<L.length)(h2:j<M.length)(e:L[j]≠M[j]):L≠M:=by
 intro h;subst h;exact e rfl
theorem Zpd{s t:ByteArray}(h:s≠t):s.toList≠t.toList:=λe=>h (by
 rw[ByteArray.toList_eq,ByteArray.toList_eq] at e;have h4:s.data=t.data:=by rw[<-Array.toList_inj];exact e
 cases s;cases t;simp_all)
theorem str_ne{s t:ByteArray}(h:s≠t):(s.toList == t.toList)=false:=by simp[Zpd h]
theorem Zdn(b off b2 ak n c d:Nat)(L M:List ByteArray)(o:Bool)(w:World)(hn:n<=aT)(hz:L.length=n)(aw:M.length=n)
  (hc:∀ i (h:i<L.length),w.cell? ⟨b,off+i,aD⟩=dG (.string L[i])) (ar:∀ i (h:i<M.length),w.cell? ⟨b2,ak+i,aD⟩=dG (.string M[i])) (ho:decide (L=M)=o) :
  ZH 11 #[F (dG ⟨b,off,aD⟩) n c,F (dG ⟨b2,ak,aD⟩) n d] w (dF o):=by
 obtain⟨HC,am,HZ,ac,HO⟩:=kh5 hc ar hz aw ho;have g0:((n:Int) != (n:Int))=false:=by simp
 unfold aT at hn;go_enter func11,ntmps11;go_wp2
 go_loopw [13] (λi wr=>∃ j m:Nat,j<=n/\i = E J j/\wr=w.drewN m/\Hid (L.take j=M.take j)) (λi _=>n - (intOf i).toNat)
 case atStart=>exact⟨0,0,aI _,rfl,rfl,rfl⟩
 case round=>
  obtain⟨j,m,hk,rfl,rfl,A⟩:=hrel;by_cases ag:j<n
  ·have h1:j<L.length:=(by rw[Za HZ];exact ag);have h2:j<M.length:=(by rw[Za ac];exact ag);have f1:=HC j h1;have f2:=am j h2;obtain⟨TM,TN⟩:=kh2 (P4 h1 h2 A) (Kz h1 h2);obtain⟨s,hs⟩:=ZF (L[j]);obtain⟨t,ht⟩:=ZF (M[j]);rw[hs] at f1;rw[ht] at f2;rw[hs,ht] at TM TN;by_cases e:s=t
   ·subst e;have R:=Zb (TM rfl);go_wp2
    go_quiet (fail)
    go_wp2;go_roundw
    case rel=>exact⟨j+1,m+nq,by omega,by go_num,rfl,R⟩
    case measure=>simp[intOf];omega
   ·have R:Hid (o=false):=(by show _=_;rw[<-Za HO];exact decide_eq_false (TN e));have g:=str_ne e;go_wp2
    go_quiet (fail)
    go_wp2;go_ret;exact⟨by rw[Za R];rfl,by simp only[World.drewN_drewN];exact Z9 _ _⟩
  ·have R:Hid (o=true):=by
    have h:=Za A;rw[aM (by rw[Za HZ];omega),aM (by rw[Za ac];omega)] at h;show _=_;rw[<-Za HO];exact decide_eq_true h
   go_wp2;go_ret;exact⟨by rw[Za R];rfl,Z9 _ _⟩
theorem Zdm(a a2 c d)(w:World) :
  ZH 11 #[F a 0 c,F a2 0 d] w (dF true):=by
 go_enter func11,ntmps11;go_wp2;refine bB 1 ?_;rw[aS];go_wp2;go_ret;exact⟨rfl,Below.refl _ _⟩
theorem Zig(a a2)(n m c d:Nat)(w:World)(h:n≠m) :
  ZH 11 #[F a n c,F a2 m d] w (dF false):=by
 have g:((n:Int) != (m:Int))=true:=by simp;omega
 go_enter func11,ntmps11;go_wp2;go_ret;exact⟨rfl,Below.refl _ _⟩
theorem eqStr_is(a a2)(n m c d:Nat)(L M)(o:Bool)(w:World)(hn:n<=aT)(h:TextsAt w a n L)(h2:TextsAt w a2 m M)(ho:decide (L=M)=o) :
  ZH 11 #[F a n c,F a2 m d] w (dF o):=by
 by_cases e:n=m
 ·subst e;by_cases h0:n=0
  ·subst h0;have e1:L=[]:=aJ.1 h.1;have e2:M=[]:=aJ.1 h2.1;subst e1 e2;have:o=true:=(by rw[<-ho];rfl);subst this;exact Zdm a a2 c d w
  ·obtain⟨b,off,rfl,hc⟩:=h.2 (by omega);obtain⟨b2,ah,rfl,ag⟩:=h2.2 (by omega);exact Zdn b off b2 ah n c d L M o w hn h.1 h2.1 hc ag ho
 ·have:o=false:=by
   rw[<-ho];exact decide_eq_false (λe2=>e (by rw[<-h.1,<-h2.1,e2]))
  subst this;exact Zig a a2 n m c d w e
theorem Zds(b off b2 ak n c d:Nat)(L M:List Int)(o:Bool)(w:World)(hn:n<=aT)(hz:L.length=n)(aw:M.length=n)
  (hc:∀ i (h:i<L.length),w.cell? ⟨b,off+i,aD⟩=dG (E J L[i])) (ar:∀ i (h:i<M.length),w.cell? ⟨b2,ak+i,aD⟩=dG (E J M[i])) (ho:decide (L=M)=o) :
  ZH 69 #[F (dG ⟨b,off,aD⟩) n c,F (dG ⟨b2,ak,aD⟩) n d] w (dF o):=by
 obtain⟨HC,am,HZ,ac,HO⟩:=kh5 hc ar hz aw ho;have g0:((n:Int) != (n:Int))=false:=by simp
 unfold aT at hn;go_enter func69,ntmps69;go_wp2
 go_loopw [13] (λi wr=>∃ j m:Nat,j<=n/\i = E J j/\wr=w.drewN m/\Hid (L.take j=M.take j)) (λi _=>n - (intOf i).toNat)
 case atStart=>exact⟨0,0,aI _,rfl,rfl,rfl⟩
 case round=>
  obtain⟨j,m,hk,rfl,rfl,A⟩:=hrel;by_cases ag:j<n
  ·have h1:j<L.length:=(by rw[Za HZ];exact ag);have h2:j<M.length:=(by rw[Za ac];exact ag);have f1:=HC j h1;have f2:=am j h2;obtain⟨TM,TN⟩:=kh2 (P4 h1 h2 A) (Kz h1 h2);obtain⟨s,hs⟩:=ZF (L[j]);obtain⟨t,ht⟩:=ZF (M[j]);rw[hs] at f1;rw[ht] at f2;rw[hs,ht] at TM TN;by_cases e:s=t
   ·subst e;have R:=Zb (TM rfl);have g:(s != s)=false:=(by simp);go_wp2
    go_quiet (fail)
    go_wp2;go_roundw
    case rel=>exact⟨j+1,m+nq,by omega,by go_num,rfl,R⟩
    case measure=>simp[intOf];omega
   ·have R:Hid (o=false):=(by show _=_;rw[<-Za HO];exact decide_eq_false (TN e));have g:(s != t)=true:=(by simp[e]);go_wp2
    go_quiet (fail)
    go_wp2;go_ret;exact⟨by rw[Za R];rfl,by simp only[World.drewN_drewN];exact Z9 _ _⟩
  ·have R:Hid (o=true):=by
    have h:=Za A;rw[aM (by rw[Za HZ];omega),aM (by rw[Za ac];omega)] at h;show _=_;rw[<-Za HO];exact decide_eq_true h
   go_wp2;go_ret;exact⟨by rw[Za R];rfl,Z9 _ _⟩
theorem Zdr(a a2 c d)(w:World) :
  ZH 69 #[F a 0 c,F a2 0 d] w (dF true):=by
 go_enter func69,ntmps69;go_wp2;refine bB 1 ?_;rw[aS];go_wp2;go_ret;exact⟨rfl,Below.refl _ _⟩
theorem Zii(a a2)(n m c d:Nat)(w:World)(h:n≠m) :
  ZH 69 #[F a n c,F a2 m d] w (dF false):=by
 have g:((n:Int) != (m:Int))=true:=by simp;omega
 go_enter func69,ntmps69;go_wp2;go_ret;exact⟨rfl,Below.refl _ _⟩
theorem eqInt_is(a a2)(n m c d:Nat)(L M)(o:Bool)(w:World)(hn:n<=aT)(h:IntsAt w a n L)(h2:IntsAt w a2 m M)(ho:decide (L=M)=o) :
  ZH 69 #[F a n c,F a2 m d] w (dF o):=by
 by_cases e:n=m
 ·subst e;by_cases h0:n=0
  ·subst h0;have e1:L=[]:=aJ.1 h.1;have e2:M=[]:=aJ.1 h2.1;subst e1 e2;have:o=true:=(by rw[<-ho];rfl);subst this;exact Zdr a a2 c d w
  ·obtain⟨b,off,rfl,hc⟩:=h.2 (by omega);obtain⟨b2,ah,rfl,ag⟩:=h2.2 (by omega);exact Zds b off b2 ah n c d L M o w hn h.1 h2.1 hc ag ho
 ·have:o=false:=by
   rw[<-ho];exact decide_eq_false (λe2=>e (by rw[<-h.1,<-h2.1,e2]))
  subst this;exact Zii a a2 n m c d w e
end Go.Proofs.YtbddijbmepdliaaGreatDoor.Bk
namespace Go.Proofs.YtbddijbmepdliaaGreatDoor.Tr
open Go.RowKit
theorem Znw(w:World)(n:Nat):ZD w (w.drewN n):=⟨rfl,rfl,rfl,aE _,λ_ _=>rfl⟩
theorem P4{α : Type}{L M:List α}{j:Nat}(h1:j<L.length)(h2:j<M.length)(h:L.take j=M.take j)(e:L[j]=M[j]):L.take (j+1)=M.take (j+1):=by
 rw[aH h1,aH h2,h,e]
theorem Kz{α : Type}{L M:List α}{j:Nat}(h1:j<L.length)(h2:j<M.length)(e:L[j]≠M[j]):L≠M:=by
 intro h;subst h;exact e rfl
theorem IntsAt.bk{w a n L}(h:IntsAt w a n L):Bk.IntsAt w a n L:=⟨h.1,λq=>let ⟨b,off,e,_,hc⟩:=h.2 q;⟨b,off,e,hc⟩⟩
theorem eqInt_is(a a2)(n m c d:Nat)(L M)(o:Bool)(w:World)(hn:n<=aT)(h:IntsAt w a n L)(h2:IntsAt w a2 m M)(ho:decide (L=M)=o) :
  ZH 69 #[F a n c,F a2 m d] w (dF o):=Bk.eqInt_is a a2 n m c d L M o w hn h.bk h2.bk ho
theorem best_is(a b n c m d N T)(z x:Int)(w:World)(hN:IntsAt w a n N)(hT:BlksAt w b m T)(sN:SlOk a n c)(sT:SlOk b m d)(hx:bstD N T=(z,x)) :
  ZH 42 #[.agg #[F a n c,F b m d]] w (dC #[E J z,E J x]):=by
 obtain⟨X,hX,ab,az⟩:=ka00 w [F a n c,F b m d] 28;obtain⟨HB,aw⟩:=kh2 ab az;obtain⟨y,hy⟩:=ZF (chkTr N T);have C1:=Zb (J4 a b n c m d N T y X (hN.later ab) (hT.later ab) sN sT hy);obtain⟨x0,x1,xl⟩:=kc2 az;unfold bstD at hx;rw[hy] at hx;by_cases q:y=0
 ·subst q;rw[if_neg (by simp)] at hx;obtain⟨hl,h24,hH,_⟩:=Uq hy;obtain rfl:n=m:=by rw[<-hN.1,<-hT.1,hl]
  have dd:n<=24:=by rw[<-hN.1];exact h24
  have bd:n<=aT:=sN.len;obtain⟨hz,rfl⟩:bstGo N T 0 0 N=z/\0=x:=⟨congrArg Prod.fst hx,congrArg Prod.snd hx⟩;obtain⟨HN,ax,HH⟩:=kh3 (hN.later ab) hN.1 hH;have CP:=Zb (λs P pn W (hb:ZD X W) (h1:Y7 N T s=P) (h2:P.length=pn)=>Zhh a b n c d N T s P pn W bd (hN.later (Zf ab hb)) (hT.later (Zf ab hb)) hH h1 h2);have CW:=Zb (λpa pc pn P v W (hb:ZD X W) (ap:IntsAt W pa pn P) (aq:pn<=1000) (hv:Vu N T 0 P=v)=>Zfu a b pa n c d pn pc N T P v W bd (hN.later (Zf ab hb)) (hT.later (Zf ab hb)) ap aq hH hv);have HZ:Hid (bstGo N T 0 0 (N.drop 0)=z):=hz;go_enter func42,ntmps42;go_wp2_with fail;rw[<-hX];refine C1.mono ?_;rintro e w1 ⟨rfl,ah⟩;have hc:=ZE ah aw;obtain⟨t0,tl⟩:=kc1 hc;have al:=Zb ah;go_wp2
  go_loopw [5,6,18] (λbv mv i wr=>∃ (k:Nat) (bb mm:Int),k<=n/\bv = E J bb/\mv = E J mm/\i = E J k/\Hid (bstGo N T bb mm (N.drop k)=z)/\Hid (ZD X wr)) (λ_ _ i _=>n - (intOf i).toNat)
  case atStart=>exact⟨0,0,0,aI _,rfl,rfl,rfl,HZ,al⟩
  case round=>
   obtain⟨k,bb,mm,hk,rfl,rfl,rfl,A,af⟩:=hrel;by_cases cf:k<n
   ·have h1:k<N.length:=(by rw[Za ax];exact cf);obtain⟨b1,de,rfl,ce,cb⟩:=HN.2 (by omega);have f1:=Ze af (cb k h1);have AT:=Zb (Znp N T bb mm N k h1);obtain⟨s,hs⟩:=ZF (N[k]);rw[hs] at f1 AT;have ll:=aF ce af.size;have cc:=ZE af aw;obtain⟨t0,t1,tl⟩:=kc2 cc;obtain⟨P,hP⟩:=ZF (Y7 N T s);obtain⟨pn,be⟩:=ZF (P.length);obtain⟨v,hv⟩:=ZF (Vu N T 0 P);have cm:Xr N T s=v:=(by unfold Xr;rw[hP,hv]);rw[cm] at AT;have aq:pn<=1000:=(by rw[<-be,<-hP];exact pth_len HH s);have CC:=Zb (CP s P pn wr.drew (Zf af (Zj _)) hP be);have CV:=Zb (λpa pc W hb ap=>CW pa pc pn P v W hb ap aq hv);have dc:(k:Int)<(n:Int):=(by omega);go_wp2_with fail
    go_region_with (first
     | (go_at_call 86;refine CC.mono ?_;rintro e w5 ⟨vv,rfl,cg,aj⟩;obtain⟨pa,pc,rfl,_,cj⟩:=ints_of_own cg;have e0:=Ze aj (Ze (Zj _) t0);have e1:=Ze aj (Ze (Zj _) t1);have el:=aF tl aj.size;have H5:=Zb (Zf af (Zf (Zj _) aj));have C5:=Zb (CV pa pc _ H5 cj);skip)
     | (go_at_call 85;refine C5.mono ?_;rintro e w6 ⟨rfl,bz⟩;have H6:=Zb (Zf H5 bz);skip))
    all_goals
     by_cases q1:mm<v
     ·have R:Hid (bstGo N T s v (N.drop (k+1))=z):=(by show _=_;rw[<-Za A,Za AT,if_pos (.inl q1)]);go_wp2;go_roundw
      case rel=>exact⟨k+1,s,v,by omega,rfl,rfl,by go_num,R,H6⟩
      case measure=>simp[intOf];omega
     ·by_cases q2:v=mm
      ·subst q2;by_cases q3:s<bb
       ·have R:Hid (bstGo N T s v (N.drop (k+1))=z):=(by show _=_;rw[<-Za A,Za AT,if_pos (.inr ⟨rfl,q3⟩)]);go_wp2;go_roundw
        case rel=>exact⟨k+1,s,v,by omega,rfl,rfl,by go_num,R,H6⟩
        case measure=>simp[intOf];omega
       ·have R:Hid (bstGo N T bb v (N.drop (k+1))=z):=by
         show _=_;rw[<-Za A,Za AT,if_neg (by omega)]
        go_wp2;go_roundw
        case rel=>exact⟨k+1,bb,v,by omega,rfl,rfl,by go_num,R,H6⟩
        case measure=>simp[intOf];omega
      ·have R:Hid (bstGo N T bb mm (N.drop (k+1))=z):=by
        show _=_;rw[<-Za A,Za AT,if_neg (by omega)]
       have g2:(v == mm)=false:=(by simp[q2]);go_wp2;go_roundw
       case rel=>exact⟨k+1,bb,mm,by omega,rfl,rfl,by go_num,R,H6⟩
       case measure=>simp[intOf];omega
   ·have R:Hid (bb=z):=(by show _=_;rw[<-Za A,Ziu N T bb mm N k (by rw[Za ax];omega)]);have br:=Zb (Zf HB af);go_wp2;go_ret2;exact⟨by rw[<-Za R];rfl,Za br⟩
 ·rw[if_pos q] at hx;obtain⟨rfl,rfl⟩:0=z/\y=x:=⟨congrArg Prod.fst hx,congrArg Prod.snd hx⟩;have g:(y != 0)=true:=by simp[q]
  go_enter func42,ntmps42;go_wp2_with fail;rw[<-hX];refine C1.mono ?_;rintro e w1 ⟨rfl,ah⟩;have al:=Zb (Zf HB ah);go_wp2;go_ret2;exact⟨rfl,Za al⟩
theorem addE_ok{N:List Int}{T}{x:Int}{b:Zk}{N' T'}(h:addE N T x b=(N',T',0)):chkTr N T=0/\Yj N T x b=0/\N.length≠24/\N'=N++[x]/\T'=T++[b]:=by
 unfold addE at h;split at h
 ·next q=>exact absurd (congrArg (·.2.2) h) q
 ·next q=>
  split at h
  ·next q2=>exact absurd (congrArg (·.2.2) h) q2
  ·next q2=>
   split at h
   ·next q3=>have:=congrArg (·.2.2) h;simp at this
   ·next q3=>exact⟨cC.1 q,cC.1 q2,q3,(congrArg (·.1) h).symm,(congrArg (·.2.1) h).symm⟩
theorem Zcv:∀ (U N:List Int),U.Nodup->(∀ x∈U,x∈N)->U.length<=N.length
 | [],_,_,_=>aI _
 | x :: U,N,h,hs=>by
  have hx:x∈N:=hs x (by simp);have hn:=List.nodup_cons.1 h;have h1:=Zcv U (N.erase x) hn.2 (λy hy=>(List.mem_erase_of_ne (λ(e:y=x)=>hn.1 (e ▸ hy))).2 (hs y (by simp[hy])));rw[List.length_erase_of_mem hx] at h1;have:0<N.length:=List.length_pos_of_mem hx;simp only[cK];omega
theorem Nh:∀ (M:List Int) (U:List Zk) (N:List Int) (T:List Zk),M.length=U.length->Yy N T M U=0->∀ i (h:i<M.length) (h':i<U.length),Yj (N++M.take i) (T++U.take i) M[i] U[i]=0
 | [],_,_,_,_,_,_,h,_=>absurd h (by simp)
 | _ :: _,[],_,_,h,_,_,_,_=>by cases h
 | x :: M,b :: U,N,T,hl,hc,0,_,_=>by
  rw[Yy] at hc;split at hc
  ·next q=>exact absurd hc q
  ·next q=>simpa using cC.1 q
 | x :: M,b :: U,N,T,hl,hc,i+1,h,h'=>by
  rw[Yy] at hc;split at hc
  ·next q=>exact absurd hc q
  ·next q=>
   have:=Nh M U _ _ (by simpa using hl) hc i (by simpa using h) (by simpa using h');simpa using this
theorem ahead{N:List Int}{T:List Zk}(hc:chkTr N T=0)(i:Nat)(h:i<N.length)(h':i<T.length):fnd N[i] N T=T[i]/\(T[i].1=0\/T[i].1∈N.take i):=by
 obtain⟨hl,_,_,ad⟩:=Uq hc;have h1:=Nh N T [] [] hl ad i h h';simp only[List.nil_append] at h1;obtain⟨_,_,q3,q4,_⟩:=Mc h1;refine⟨?_,q4⟩;have e1:N=N.take i++(N[i] :: N.drop (i+1)):=by rw[<-aK h,List.take_append_drop]
 have e2:T=T.take i++(T[i] :: T.drop (i+1)):=by rw[<-aK h',List.take_append_drop]
 have:=Q6 (N:=N.take i) (M:=N[i] :: N.drop (i+1)) (T:=T.take i) (U:=T[i] :: T.drop (i+1)) (by rw[aV,aV];omega) q3;rw[<-e1,<-e2] at this;rw[this];simp[fnd]
structure Sub(U:List Int)(V:List Zk)(N:List Int)(T:List Zk):Prop where
 chk:chkTr U V=0
 mem:∀ y∈U,y∈N
 same:∀ y∈U,fnd y U V=fnd y N T
theorem Sub.nil(N T):Sub [] [] N T:=⟨rfl,λ_ h=>(by cases h),λ_ h=>(by cases h)⟩
theorem Sub.all{U V N T}(h:Sub U V N T)(hc:chkTr N T=0){y:Int}(hy:y=0\/y∈U):fnd y U V=fnd y N T:=by
 by_cases e:y∈U
 ·exact h.same y e
 ·have ab:y=0:=by rcases hy with q|q;exact q;exact absurd q e
  subst ab;rw[fnd_out (TrOk.of h.chk).len e,fnd_out (TrOk.of hc).len (TrOk.of hc).zero]
theorem Sub.step{U V}{N:List Int}{T:List Zk}(h:Sub U V N T)(hc:chkTr N T=0){k:Nat}(hk:k<N.length)(af:k<T.length){U' V'}(ha:addE U V N[k] T[k]=(U',V',0)):Sub U' V' N T/\U'=U++[N[k]]:=by
 obtain⟨h1,h2,h3,rfl,rfl⟩:=addE_ok ha;have ok:=TrOk.of h1;obtain⟨g1,_,g3,_,_⟩:=Mc h2;refine⟨⟨chkTr_snoc h1 h2 h3,λy hy=>?_,λy hy=>?_⟩,rfl⟩
 ·rcases bM.1 hy with q|q
  ·exact h.mem y q
  ·rw[cT.1 q];exact aQ hk
 ·rcases bM.1 hy with q|q
  ·rw[ok.same g1.1 (.inr q)];exact h.same y q
  ·rw[cT.1 q,ok.new g3,(ahead hc k hk af).1]
theorem Sub.full{U:List Int}{V}{N:List Int}{T}(h:Sub U V N T)(hc:chkTr N T=0)(ha:∀ j (hj:j<N.length),N[j]∈U):U.length=N.length/\∀ y∈N,y∈U:=by
 have hs:∀ y∈N,y∈U:=λy hy=>by
  obtain⟨j,hj,rfl⟩:=List.getElem_of_mem hy;exact ha j hj
 have h1:=Zcv U N (TrOk.of h.chk).nd h.mem;have h2:=Zcv N U (TrOk.of hc).nd hs;exact⟨by omega,hs⟩
theorem Sub.up{U V N T}(h:Sub U V N T)(hc:chkTr N T=0):∀ (d:Nat) (y:Int),(y=0\/y∈U)->upD U V d y=upD N T d y
 | 0,_,_=>rfl
 | d+1,y,hy=>by
  rw[upD,upD,<-h.all hc hy,h.up hc d _ ((TrOk.of h.chk).up y)]
theorem Sub.wk{U V N T}(h:Sub U V N T)(hc:chkTr N T=0):∀ (P:List Int) (s:Int),(∀ z∈P,z=0\/z∈U)->Vu U V s P=Vu N T s P
 | [],_,_=>rfl
 | y :: P,s,hP=>by
  rw[Vu,Vu,h.all hc (hP y (by simp)),h.wk hc P _ (λz hz=>hP z (by simp[hz]))]
theorem TrOk.wrk_pos{N T}(h:TrOk N T){y:Int}(hy:y∈N):1<=Xr N T y:=by
 have hb:=h.heads _ (Zmp h.len hy);obtain⟨d,hd⟩:∃ d,(fnd y N T).2.1.toNat=d+1:=⟨(fnd y N T).2.1.toNat - 1,by omega⟩;unfold Xr Y7;rw[hd,upD,Zjf,Vu,Vu];have:=(Bl h.heads (upD N T d (fnd y N T).1) 0 (N:=N)).1;omega
theorem Zbj(N T):∀ (P D:List Int) (q:Int×Int),(∀ y∈D,Xr N T y<q.2\/Xr N T y=q.2/\q.1<=y)->∀ y,y∈D\/y∈P->Xr N T y<(R8 N T q P).2\/Xr N T y=(R8 N T q P).2/\(R8 N T q P).1<=y
 | [],D,q,h,y,hy=>by
  rcases hy with hy|hy
  ·exact h y hy
  ·cases hy
 | x :: P,D,q,h,y,hy=>by
  have ab:R8 N T q (x :: P)=R8 N T (if q.2<Xr N T x\/Xr N T x=q.2/\x<q.1 then (x,Xr N T x) else q) P:=rfl;rw[ab]
  refine Zbj N T P (x :: D) _ (λz hz=>?_) y (by
   rcases hy with hy|hy
   ·exact .inl (by simp[hy])
   ·rcases aW.1 hy with rfl|hy
    ·exact .inl (by simp)
    ·exact .inr hy)
  rcases aW.1 hz with rfl|hz
  ·split
   ·exact .inr ⟨rfl,Int.le_refl _⟩
   ·next q1=>omega
  ·have:=h z hz;split
   ·next q1=>simp only;omega
   ·exact this
theorem best_max{N T}(h:TrOk N T):(bstGo N T 0 0 N=0\/bstGo N T 0 0 N∈N)/\(∀ y∈N,Xr N T y<Xr N T (bstGo N T 0 0 N)\/Xr N T y=Xr N T (bstGo N T 0 0 N)/\bstGo N T 0 0 N<=y):=by
 rw[Bf];have hw:=Nl N T N (0,0) h.wrk_zero.symm;rw[<-hw];exact⟨Nm N T N (0,0),λy hy=>Zbj N T N [] (0,0) (λ_ q=>by cases q) y (.inr hy)⟩
theorem TrOk.pth_zero{N T}(h:TrOk N T):Y7 N T 0=[]:=by
 unfold Y7;rw[fnd_out h.len h.zero];rfl
theorem TrOk.pth_step{N T}(h:TrOk N T){x:Int}(hx:x∈N):Y7 N T x=Y7 N T (fnd x N T).1++[x]:=by
 have e:=h.hgt x hx;have h0:=(Us h.heads (fnd x N T).1 N).1;unfold Y7;rw[show (fnd x N T).2.1.toNat=(fnd (fnd x N T).1 N T).2.1.toNat+1 by omega];rfl
theorem pth_length(N T)(x:Int):(Y7 N T x).length=(fnd x N T).2.1.toNat:=Jb _ _ _ _
theorem TrOk.pth_at{N T}(h:TrOk N T):∀ (d:Nat) (x:Int),(x=0\/x∈N)->(fnd x N T).2.1.toNat=d->∀ (i:Nat) (z:Int),(Y7 N T x)[i]? = dG z->z∈N/\(fnd z N T).2.1=i+1:=by
 intro d
 induction d with
 | zero=>
  intro x _ hd i z hz;have hl:=pth_length N T x;have:=(cD.1 hz).1;omega
 | succ d ih=>
  intro x hx hd i z hz
  have ab:x∈N:=by
   rcases hx with rfl|hx
   ·rw[fnd_out h.len h.zero] at hd;simp[Y6] at hd
   ·exact hx
  have e:=h.hgt x ab;have h0:=(Us h.heads (fnd x N T).1 N).1;have hl:=pth_length N T (fnd x N T).1;rw[h.pth_step ab,List.getElem?_append] at hz;split at hz
  ·exact ih _ (h.par x ab) (by omega) i z hz
  ·next q=>
   obtain⟨af,hz⟩:=cD.1 hz;simp only[cK,List.length_nil] at af;have hi:i=(Y7 N T (fnd x N T).1).length:=(by omega);have ag:x=z:=(by simpa using hz);subst ag;exact⟨ab,by omega⟩
theorem TrOk.pth_in{N T}(h:TrOk N T){x:Int}(hx:x=0\/x∈N){i:Nat}{z:Int}(hz:(Y7 N T x)[i]? = dG z):z∈N/\(fnd z N T).2.1=i+1:=h.pth_at _ x hx rfl i z hz
theorem TrOk.pth_nd{N T}(h:TrOk N T){x:Int}(hx:x=0\/x∈N):(Y7 N T x).Nodup:=by
 rw[List.nodup_iff_pairwise_ne,List.pairwise_iff_getElem];intro i j hi hj ac e;have h1:=(h.pth_in hx (bR hi)).2;have h2:=(h.pth_in hx (bR hj)).2;rw[e] at h1;omega
theorem TrOk.pth_sub{N T}(h:TrOk N T){x:Int}(hx:x=0\/x∈N):∀ z∈Y7 N T x,z∈N:=by
 intro z hz;obtain⟨i,hi,rfl⟩:=List.getElem_of_mem hz;exact (h.pth_in hx (bR hi)).1
def Vs(P:List Int)(s:Int):List Int->List Zk->Int
 | x :: N,b :: T=>Vs P (if decide (x∈P)=true then s+b.2.2.1 else s) N T
 | _,_=>s
theorem Zpf(P)(s:Int)(N:List Int)(T:List Zk)(k:Nat)(h:k<N.length)(h':k<T.length):Vs P s (N.drop k) (T.drop k)=Vs P (if decide (N[k]∈P)=true then s+T[k].2.2.1 else s) (N.drop (k+1)) (T.drop (k+1)):=by
 rw[aK h,aK h'];rfl
theorem Zkr(P)(s:Int)(N:List Int)(T:List Zk)(k:Nat)(h:N.length<=k):Vs P s (N.drop k) (T.drop k)=s:=by
 rw[bA h];unfold Vs;rfl
theorem Sw(P):∀ (N:List Int) (T:List Zk) (s t:Int),Vs P (s+t) N T=Vs P s N T+t
 | [],_,_,_=>by simp[Vs]
 | _ :: _,[],_,_=>by simp[Vs]
 | x :: N,b :: T,s,t=>by
  simp only[Vs];split
  ·rw[show s+t+b.2.2.1=s+b.2.2.1+t by omega];exact Sw P N T _ t
  ·exact Sw P N T s t
theorem Zkq:∀ (N:List Int) (T:List Zk) (s:Int),Vs [] s N T=s
 | [],_,_=>by simp[Vs]
 | _ :: _,[],_=>by simp[Vs]
 | x :: N,b :: T,s=>by
  simp only[Vs];rw[if_neg (by simp)];exact Zkq N T s
theorem Zet{x:Int}{Q}:∀ (N:List Int) (T:List Zk) (s:Int),x∉N->Vs (x :: Q) s N T=Vs Q s N T
 | [],_,_,_=>by simp[Vs]
 | _ :: _,[],_,_=>by simp[Vs]
 | a :: N,b :: T,s,h=>by
  simp only[aW,not_or] at h;simp only[Vs];rw[show decide (a∈x :: Q)=decide (a∈Q) by simp[Ne.symm h.1]];exact Zet N T _ h.2
theorem Zeu{x:Int}{Q}:∀ (N:List Int) (T:List Zk) (s:Int),N.Nodup->N.length=T.length->x∈N->x∉Q->Vs (x :: Q) s N T=Vs Q s N T+(fnd x N T).2.2.1
 | [],_,_,_,_,h,_=>by cases h
 | _ :: _,[],_,_,h,_,_=>by cases h
 | a :: N,b :: T,s,hd,hl,hx,hq=>by
  rw[List.nodup_cons] at hd;simp only[Vs,fnd];by_cases e:x=a
  ·subst e;rw[if_pos (by simp),if_neg (by simp[hq]),if_pos rfl,Zet N T _ hd.1,Sw]
  ·rw[if_neg e,show decide (a∈x :: Q)=decide (a∈Q) by simp[Ne.symm e]];exact Zeu N T _ hd.2 (by simpa using hl) (by simpa[e] using hx) hq
theorem Zes{N:List Int}{T:List Zk}(hd:N.Nodup)(hl:N.length=T.length):∀ (P:List Int) (s:Int),P.Nodup->(∀ z∈P,z∈N)->Vs P s N T=Vu N T s P
 | [],s,_,_=>Zkq N T s
 | x :: P,s,hn,hs=>by
  rw[List.nodup_cons] at hn;rw[Zeu N T s hd hl (hs x (by simp)) hn.1,<-Sw];exact Zes hd hl P _ hn.2 (λz hz=>hs z (by simp[hz]))
theorem TrOk.rw_wrk{N T}(h:TrOk N T){x:Int}(hx:x=0\/x∈N):Vs (Y7 N T x) 0 N T=Xr N T x:=Zes h.nd h.len _ 0 (h.pth_nd hx) (h.pth_sub hx)
def Hy(W:Int->Int)(b:Int):List Int->Int
 | []=>b
 | x :: S=>Hy W (if b=0\/W b<W x then x else b) S
theorem Zpj(W:Int->Int)(b:Int)(S:List Int)(k:Nat)(h:k<S.length):Hy W b (S.drop k)=Hy W (if b=0\/W b<W S[k] then S[k] else b) (S.drop (k+1)):=by
 rw[aK h];rfl
theorem Zlf(W:Int->Int)(b:Int)(S:List Int)(k:Nat)(h:S.length<=k):Hy W b (S.drop k)=b:=by
 rw[bA h];rfl
def Zek(W:Int->Int)(D:List Int)(b:Int):Prop:=(D=[]/\b=0)\/(b∈D/\∀ y∈D,W y<W b\/W y=W b/\b<=y)
theorem Zev(W:Int->Int):∀ (S D:List Int) (b:Int),Zek W D b->S.Pairwise (· <= ·)->(∀ d∈D,∀ x∈S,d<=x)->(∀ d∈D,d≠0)->(∀ x∈S,x≠0)->Zek W (D++S) (Hy W b S)
 | [],D,b,h,_,_,_,_=>by simpa[Hy] using h
 | x :: S,D,b,h,hp,hd,hD,hS=>by
  rw[List.pairwise_cons] at hp;have hx:=hS x (by simp)
  have ad:Zek W (D++[x]) (if b=0\/W b<W x then x else b):=by
   rcases h with ⟨rfl,rfl⟩|⟨h1,h2⟩
   ·rw[if_pos (.inl rfl)];exact .inr ⟨by simp,λy hy=>.inr (by simp at hy;subst hy;exact⟨rfl,Int.le_refl _⟩)⟩
   ·have hb:=hD b h1;have ae:=hd b h1 x (by simp);by_cases q:W b<W x
    ·rw[if_pos (.inr q)];refine .inr ⟨by simp,λy hy=>?_⟩
     rcases bM.1 hy with hy|hy
     ·have:=h2 y hy;omega
     ·simp at hy;subst hy;exact .inr ⟨rfl,Int.le_refl _⟩
    ·rw[if_neg (λe=>e.elim hb q)];refine .inr ⟨by simp[h1],λy hy=>?_⟩
     rcases bM.1 hy with hy|hy
     ·exact h2 y hy
     ·simp at hy;subst hy;omega
  have:=Zev W S (D++[x]) _ ad hp.2 (λd aa y hy=>by
    rcases bM.1 aa with q|q
    ·exact hd d q y (by simp[hy])
    ·simp at q;subst q;exact hp.1 y hy) (λd aa=>by
    rcases bM.1 aa with q|q
    ·exact hD d q
    ·simp at q;subst q;exact hx) (λy hy=>hS y (by simp[hy]))
  rw[List.append_assoc] at this;exact this
def srt(N:List Int):List Int:=N.mergeSort λx y=>decide (x<=y)
theorem Lc(N):(srt N).Perm N:=List.mergeSort_perm _ _
theorem Ke(N:List Int):(srt N).length=N.length:=(Lc N).length_eq
theorem Zbv(N):(srt N).Pairwise (· <= ·):=by
 have:=List.pairwise_mergeSort (le:=λx y:Int=>decide (x<=y)) (λa b c h1 h2=>by simp at h1 h2 ⊢;omega) (λa b=>by simp;omega) N;exact this.imp (λh=>by simpa using h)
theorem TrOk.best_rb{N T}(h:TrOk N T):Hy (Xr N T) 0 (srt N)=bstGo N T 0 0 N:=by
 have hm:∀ x,x∈srt N↔x∈N:=λx=>(Lc N).mem_iff;have hb:=Zev (Xr N T) (srt N) [] 0 (.inl ⟨rfl,rfl⟩) (Zbv N) (λd hd=>by cases hd) (λd hd=>by cases hd) (λx hx=>by have:=(h.nm x ((hm x).1 hx)).1;omega);obtain⟨h1,h2⟩:=best_max h;simp only[List.nil_append] at hb
 rcases hb with ⟨e,e0⟩|⟨b1,b2⟩
 ·rw[e0];have hl:=Ke N;rw[e] at hl;have:N=[]:=aJ.1 hl.symm;subst this;rfl
 ·have r:=h2 _ ((hm _).1 b1);have hp:=h.wrk_pos ((hm _).1 b1)
  rcases h1 with e|e
  ·rw[e,h.wrk_zero] at r;omega
  ·have q:=b2 _ ((hm _).2 e);omega
