import Derived.Test.YtpikejjiignchaaGreatDoorH
import Derived.Test.YtpikejjiignchaaGreatDoorG44
open Go renaming lt_of_block->aA,heap_alloc_new->aK,undef->dP,wpAnyH_ready->bJ,setRow_other->cT
open Go.Act renaming put->aH
open Go.Ending renaming returned->dX
open Go.IntKind renaming i64->J
open Go.KeepsOthers renaming setCell->cA
open Go.Obj renaming cells->dW
open Go.Proofs.Tryz renaming prog->aB,underlying76->bY
open Go.Value renaming int->E,slice->F,tuple->dY,pointer->dZ,bool->eA
open List renaming replicate->aF,map_append->bW
open Nat renaming le_trans->aT,lt_of_lt_of_le->aI,le_refl->aE
open Prod.mk renaming inj->aX
set_option maxHeartbeats 6400000
namespace Go.Proofs.YtpikejjiignchaaGreatDoor
open Go.RowKit Go.Shelf
attribute [local go_sem] Oper.semAt_some
def DcI(W0:World)(n1 z:Nat)(st:Nat->List Zf->Int×List Zf)(C0:List Zf){m:Nat}(pre:List { i:Nat // i<m })(W:World):Prop:=
 KpD n1 z z W0 W/\n1<=W.heap.size/\∃ C O cn cc,foL st (pre.map (·.1)) C0=(0,C)/\W.heap[z]? = some (dW #[F O cn cc] 29 (0,0))/\CoinsAt W O cn C/\SlOk O cn cc
def DcX(w:World)(n1 z O:Nat)(st:Nat->List Zf->Int×List Zf)(C0:List Zf){m:Nat}(cd:Code)(pre:List { i:Nat // i<m })(W:World):Prop:=
 cd = .ret/\ZD w W/\n1<=W.heap.size/\∃ y M,y≠0/\foL st (pre.map (·.1)) C0=(y,M)/\W.heap[z]? = some (dW #[F none 0 0] 29 (0,0))/\W.heap[O]? = some (dW #[E J y] 30 (0,0))
theorem Zpe{W0}{n1 z:Nat}{st:Nat->List Zf->Int×List Zf}{C0}{m:Nat}(h7:z<n1):OwnFrom n1 (DcI W0 n1 z st C0 (m:=m)):=by
 rintro pre W W' row ⟨k1,k2,C,ca,cn,cc,k3,k4,k5,k6⟩ O hr;refine⟨k1.grown O (λr e=>(hr r e).1) k2,aT k2 O.size,C,ca,cn,cc,k3,?_,Ji (Rp O (λr e=>(hr r e).2)) k5,k6⟩;exact (O.block z (by omega) (λe=>by have:=(hr z e.symm).1;omega)).trans k4
theorem Zpd{w:World}{n1 z O:Nat}{st:Nat->List Zf->Int×List Zf}{C0}{m:Nat}(hw:w.heap.size<=n1)(h8:z<n1)(h9:O<n1)(cd:Code):OwnFrom n1 (DcX w n1 z O st C0 (m:=m) cd):=by
 rintro pre W W' row ⟨k0,k1,k2,y,M,k3,k4,k5,k6⟩ hg hr;refine⟨k0,k1.grown hg (by omega) (λr e=>by have:=(hr r e).1;omega),aT k2 hg.size,y,M,k3,k4,?_,?_⟩
 ·exact (hg.block z (by omega) (λe=>by have:=(hr z e.symm).1;omega)).trans k5
 ·exact (hg.block O (by omega) (λe=>by have:=(hr O e.symm).1;omega)).trans k6
theorem Zgo{W W':World}{S:Nat->Prop}(hs:W.heap.size<=W'.heap.size)(hk:∀ k,k<W.heap.size->¬S k->W'.heap[k]? = W.heap[k]?)(hB:∀ k,S k->Box1 W k){a n U}(ha:∀ z,a=some z->¬S z.block)(h:UndosAt W a n U):UndosAt W' a n U:=by
 refine⟨h.1,λh0=>?_⟩;obtain⟨b,off,rfl,O,hc⟩:=h.2 h0;refine⟨b,off,rfl,aI O hs,λi hi=>?_⟩;obtain⟨ca,cn,cc,h1,h2,h3⟩:=hc i hi;exact⟨ca,cn,cc,(World.cell?_of_block (a:=⟨b,off+i,none⟩) (hk b O (ha _ rfl))).trans h1,Vw hs hk hB h2,h3⟩
def SDc(b5 O z j:Nat)(ka:Option Addr)(kn kc:Nat)(bp bh bk bn:Int)(ta:Option Addr)(tn tc:Nat)(ua:Option Addr)(un uc:Nat)(V:World):Prop:=
 V.cell? ⟨b5,0,none⟩=some (F ka kn kc)/\V.cell? ⟨z,0,none⟩=some (E J bp)/\V.cell? ⟨z,1,none⟩=some (E J bh)/\V.cell? ⟨z,2,none⟩=some (E J bk)/\V.cell? ⟨z,3,none⟩=some (E J bn)/\V.cell? ⟨z,4,none⟩=some (F ta tn tc) /\
 V.cell? ⟨O,j,none⟩=some (F ua un uc)/\b5<V.heap.size/\O<V.heap.size/\z<V.heap.size
set_option maxRecDepth 100000 in
theorem Zis(ka pn kc K a b n c m d N T pu ln pv C0)(R L:List Int)(x:Int)(C' w)(hE:Env w)(hK:Bk.TextsAt w ka pn K)(hN:Tr.IntsAt w a n N)(hT:Tr.BlksAt w b m T)(sN:SlOk a n c)(sT:SlOk b m d)(hC:CoinsAt w pu ln C0)(sC:SlOk pu ln pv)(hR:R.length=24)(hL:L.length=24)(C4 U)(jk:Ue K N T R [] []=(0,C4,U))(jo:¬L=aF 24 0)(hx:Po K N T L U 24 C0=(x,C')) :
  Calls aB 46 #[.agg #[F ka pn kc],.agg #[F a n c,F b m d],F pu ln pv,.agg (Zl R).toArray,.agg (Zl L).toArray] w λe w'=>CnR w w' x C' e:=by
 obtain⟨X,hX⟩:=ZG (((((((w.alloc (dW #[F ka pn kc] 24)).alloc (dW #[F a n c,F b m d] 28)).alloc (dW #[F pu ln pv] 29)).alloc (dW (Zl R).toArray 76)).alloc (dW (Zl L).toArray 76)).alloc (dW #[F none 0 0] 29)).alloc (dW #[E J 0] 30));obtain⟨cn,je,x1,x2,x3,x4,x5,x6,x7⟩:=Jd w _ _ _ _ _ _ _ X hX;have iz:=Xm hL;have jb:=Xm hR;have kl:Hid ((((((((w.alloc (dW #[F ka pn kc] 24)).alloc (dW #[F a n c,F b m d] 28)).alloc (dW #[F pu ln pv] 29)).alloc (dW (Zl R).toArray 76)).alloc (dW (Zl L).toArray 76)).alloc (dW #[F none 0 0] 29)).alloc (dW #[E J 0] 30)).heap[w.heap.size+4]? = some (dW (Zl L).toArray 76 (0,0))):=by rw[<-hX];exact x5
 obtain⟨px,hz⟩:=ZF (decide (L=aF 24 0));have ni:∀ V:World,(binOp .eql 76 (.agg (Zl L).toArray) (.agg #[E J 0,E J 0,E J 0,E J 0,E J 0,E J 0,E J 0,E J 0,E J 0,E J 0,E J 0,E J 0,E J 0,E J 0,E J 0,E J 0,E J 0,E J 0,E J 0,E J 0,E J 0,E J 0,E J 0,E J 0])).run aB V = .ok (eA px) V:=λV=>by rw[Ql,<-hz];exact Mx L hL V
 have ih:=Zb cn;have lc:=Zb x1;have ld:=Zb x2;have le:=Zb x3;have oz:=Zb x4;have im:=Zb x5;have ff:=Zb x6;have fg:=Zb x7;have lf:=Zb je;obtain rfl:px=false:=by rw[<-hz];simpa using jo
 have CL:=Zb (G1 ka pn kc K a b n c m d N T none 0 0 [] R 0 C4 U X (hE.later cn) (hK.later cn) (hN.later cn) (hT.later cn) sN sT ⟨rfl,λh=>absurd h (by omega)⟩ Wd hR jk);have c1:=Zd (X:=[F ka pn kc]) x1 0 _ rfl;have l1:=aA x1;have lx:=Zd (X:=[F a n c,F b m d]) x2 0 _ rfl;have ly:=Zd (X:=[F a n c,F b m d]) x2 1 _ rfl;have l2:=aA x2;have kn:Hid ((((((((w.alloc (dW #[F ka pn kc] 24)).alloc (dW #[F a n c,F b m d] 28)).alloc (dW #[F pu ln pv] 29)).alloc (dW (Zl R).toArray 76)).alloc (dW (Zl L).toArray 76)).alloc (dW #[F none 0 0] 29)).alloc (dW #[E J 0] 30)).heap[w.heap.size+3]? = some (dW (Zl R).toArray 76 (0,0))):=by rw[<-hX];exact x4
 have HE:=Zb hE;have HK:=Zb hK;have HN:=Zb hN;have HT:=Zb hT;have HC:=Zb hC;have ij:=Zb hL;have io:=Zb hx;have ku:=Zb sN;have kv:=Zb sT;have kt:=Zb sC;clear hE hK hN hT hC hR hL cn je x1 x2 x3 x4 x5 x6 x7 hz jo jk hx sN sT sC;refine (callsIn_wide (n:=3)).1 ?_;refine callsIn_of_wp_marks Tryz.func46 rfl trivial ?_ rfl;simp only[Tryz.ntmps46,List.size_toArray,List.length_cons,List.length_nil,Nat.reduceAdd,Nat.reduceSub,Array.replicate_succ,Array.replicate_zero,List.push_toArray,List.append_toArray,List.nil_append,List.cons_append]
 gi_wp2_with (first|refine Ja rfl 76 _ rfl _ rfl _ _ kl _ _ bY iz ?_|refine Ja rfl 76 _ rfl _ rfl _ _ kn _ _ bY jb ?_)
 rw[<-hX];clear hX;refine⟨trivial,(callsIn_wide.2 CL).mono ?_⟩;rintro e w1 ⟨pw,el,oc,cs,rfl,nf,om,cz,fy⟩;have gd:=Ty cz.1;have gc:=cz.one;have gj:((aF 24 (Value.slice none 0 0)).toArray:Array Value).size=cs.toArray.size:=by simp[cz.1]
 obtain⟨Y,hY⟩:=ZG (w1.alloc (dW cs.toArray 81));have E3:Hid ((w1.alloc (dW #[F none 0 0,F none 0 0,F none 0 0,F none 0 0,F none 0 0,F none 0 0,F none 0 0,F none 0 0,F none 0 0,F none 0 0,F none 0 0,F none 0 0,F none 0 0,F none 0 0,F none 0 0,F none 0 0,F none 0 0,F none 0 0,F none 0 0,F none 0 0,F none 0 0,F none 0 0,F none 0 0,F none 0 0] 81)).setRow w1.heap.size cs.toArray=Y):=by rw[hY];exact World.setRow_alloc_new _ _ _ _
 have ga:ZD w1 Y:=by rw[hY];exact Zg _ _
 have jf:Y.heap.size=w1.heap.size+1:=by rw[hY];simp
 have lh:Hid (Y.heap[w1.heap.size]? = some (dW cs.toArray 81 (0,0))):=by rw[hY];exact aK _ _
 have kz:=Zb (cz.later ga);have fw:=Ze fy ga;have jm:=Ze ih fw;have ei:=fy.size;have ip:=Zb fw;have oy:=Zb jm;have lg:=Zb jf;have kq:=Zb ei;clear nf om c1 l1 lx ly l2 cz fy hY ga jf fw jm ei;have ou:Hid (cs.toArray=cs.toArray):=rfl;have lj:Hid ((w1.alloc (dW #[F none 0 0,F none 0 0,F none 0 0,F none 0 0,F none 0 0,F none 0 0,F none 0 0,F none 0 0,F none 0 0,F none 0 0,F none 0 0,F none 0 0,F none 0 0,F none 0 0,F none 0 0,F none 0 0,F none 0 0,F none 0 0,F none 0 0,F none 0 0,F none 0 0,F none 0 0,F none 0 0,F none 0 0] 81)).heap[w1.heap.size]? = some (dW (aF 24 (Value.slice none 0 0)).toArray 81 (0,0))):=by rw[Ly];exact aK _ _
 obtain⟨CC,eg⟩:=ZG (cs.toArray);rw[<-eg] at gd gc gj E3;rw[<-eg];have ot:=Zb eg;clear eg;have BW:=Zb (Lm (some ⟨w.heap.size+4,0,none⟩) 24 24 Y);have y5:=ZE ip im;have oq:=aA y5;have nj:(Zl L).toArray.size=24:=by simp[Zl,Za ij]
 gi_wp2_with (refine Pa rfl 81 _ _ rfl _ rfl _ _ rfl _ lj gd gj gc ?_;rw[Za E3])
 refine⟨trivial,(callsIn_wide.2 BW).mono ?_⟩;rintro e w3 ⟨rfl,rfl⟩;obtain⟨W0,db⟩:=ZG (Y.alloc (dW #[F (some ⟨w.heap.size+4,0,none⟩) 24 24] 25));have fx:ZD Y W0:=by rw[db];exact Zg _ _
 have z0:W0.heap[Y.heap.size]? = some (dW [F (some ⟨w.heap.size+4,0,none⟩) 24 24].toArray 25 (0,0)):=by rw[db];exact aK _ _
 have ns:W0.heap.size=Y.heap.size+1:=by rw[db];simp
 rw[show Y.alloc (dW #[F (some ⟨w.heap.size+4,0,none⟩) 24 24] 25)=W0 from db.symm];have li:=Zb z0;have ic:=Zb fx;clear db z0 y5 oq iz jb ni gd gc gj
 gi_wp2_with fail
 have nu:=Za lg;have nt:=Za lf;have ei:=Za kq;have ef:ZD X W0:=Ze ip fx;have di:ZD w W0:=Ze ih ef;have bn:=Zb ef;have y4:=ZE ef im
 have ki:Hid (∀ j,j<24->W0.cell? ⟨w.heap.size+4,j,none⟩=some (E J (L.getD j 0))):=by
  intro j hj;have nk:j<L.length:=by rw[Za ij];exact hj
  rw[cell_of_row W0 _ j _ _ _ y4];simp[Zl,List.getD,nk]
 have nc:w.heap.size+2<W0.heap.size:=by omega
 have q1:w.heap.size+4<W0.heap.size:=by omega
 have q2:w.heap.size+4≠w.heap.size+2:=by omega
 have q4:Y.heap.size<W0.heap.size:=by omega
 have q5:Y.heap.size≠w.heap.size+2:=by omega
 have q7:w.heap.size<=W0.heap.size:=by omega
 have q8:w.heap.size+5<W0.heap.size:=by omega
 have q9:w.heap.size+6<W0.heap.size:=by omega
 have QS:=Zb (show w.heap.size+7=X.heap.size/\X.heap.size<=w1.heap.size/\w1.heap.size+1=Y.heap.size/\Y.heap.size+1=W0.heap.size by omega);have Z7:=Zb (ZE ef le);have ow:=Zb di;clear nu nt ei ns y4 fx nj
 refine wpIn_rangeFunc_ownG (α:={ i:Nat // i<24 }) rfl (by decide) (gf:=134) (lb:=#[dZ (some ⟨Y.heap.size,0,none⟩)]) rfl trivial (enters_of Tryz.func134 (by kernel_rfl) rfl)
  (Zco (λj=>L.getD j 0) Fence.wide (3 - 1) trivial rfl (by decide) Y.heap.size W0.heap.size (w.heap.size+2) (w.heap.size+2) (w.heap.size+4) 24 24 (aE _) W0 rfl q1 q2 q2 q4 q5 q5 (Zd li 0 _ rfl) ki)
  (λh k=>KpD.trans h k) (λW l o o' hl _ _ _=>KpD.put W l o' hl) (Below.refl _ _) (λ_=>rfl)
  (DcI W0 W0.heap.size (w.heap.size+2) (Tp K N T L U) C0) (DcX w W0.heap.size (w.heap.size+5) (w.heap.size+6) (Tp K N T L U) C0)
  (Zpe nc) (Zpd q7 q8 q9)
  ⟨KpD.refl _ _ _ _,aE _,C0,pu,ln,pv,rfl,Za Z7,HC.later di,Za kt⟩
  (λx=>{ tmps:=#[.agg #[F ka pn kc],.agg #[F a n c,F b m d],F pu ln pv,.agg (Zl R).toArray,.agg (Zl L).toArray,dZ (some ⟨w.heap.size,0,none⟩),dZ (some ⟨w.heap.size+1,0,none⟩),dZ (some ⟨w.heap.size+1+1,0,none⟩),dZ (some ⟨w.heap.size+1+1+1,0,none⟩),dZ (some ⟨w.heap.size+1+1+1+1,0,none⟩),dZ (some ⟨w.heap.size+1+1+1+1+1,0,none⟩),dZ (some ⟨w.heap.size+1+1+1+1+1+1,0,none⟩),F pw el oc,dZ (some ⟨w1.heap.size,0,none⟩),E J 0,E J (x.1:Int),E J (L.getD x.1 0),dP,dP,.agg (Zl L).toArray,.agg #[E J 0,E J 0,E J 0,E J 0,E J 0,E J 0,E J 0,E J 0,E J 0,E J 0,E J 0,E J 0,E J 0,E J 0,E J 0,E J 0,E J 0,E J 0,E J 0,E J 0,E J 0,E J 0,E J 0,E J 0],eA false,dP,dY #[F pw el oc,.agg CC,E J 0],.agg #[F ka pn kc],.agg #[F a n c,F b m d],.agg (Zl R).toArray,dY #[F pw el oc,.agg CC,E J 0],F pw el oc,.agg CC,E J 0,E J 0,eA false,dP,F (some ⟨w.heap.size+1+1+1+1,0,none⟩) 24 24,.func (.func 134) #[] #[dZ (some ⟨Y.heap.size,0,none⟩)],E J (x.1:Int),E J (L.getD x.1 0),dP,dP,dP,dP,dP,dP,dP,dP,dP,dP,dP,dP,dP,dP,dP,dP,dP,dP,dP,dP,dP,dP,dP,dP],defers:=[] }) ?assign ?body ?done ?stop
 case assign=>
  intro l x W K hK
  gi_wp2
  exact hK
 case body=>
  rintro l pre x W ⟨bf,dh,C,ca,po,pp,hd,h7,cl,ez⟩ _;obtain⟨j,hj⟩:=x;have av:=Za QS;have ak:ZD w W:=bf.below di q7 (by omega) (by omega);obtain⟨s,hs⟩:=ZF (L.getD j 0);dsimp only;rw[hs];have ph:(j:Int)<24:=by omega
  have pg:(0:Int)<=(j:Int):=by omega
  have ax:=Zb bf;have H7:=Zb h7;have ii:=Zb cl;have HD:=Zb hd;have HS:=Zb hs;have ig:=Zb ak;have ay:=Zb dh;by_cases h0:s=0
  ·subst h0;have kw:Hid (Tp K N T L U j C=(0,C)):=(by show _=_;rw[Tp,if_pos hs]);clear bf dh hd h7 cl av ak hs
   gi_wp2
   refine⟨Ny (Below.refl _ _),KpD.refl _ _ _ _,Za ax,Za ay,C,ca,po,pp,?_,Za H7,Za ii,ez⟩;rw[bW];have e:=Tn HD kw;rw[if_neg (λr=>r rfl)] at e;exact e
  ·have pf:(s == 0)=false:=(by simp[h0]);obtain⟨⟨bx,y⟩,gb⟩:=ZF (Tr.blockE N T s);obtain⟨bp,bh,bk,pr,Lt⟩:=bx;have C1:=Zb (Tr.block_is a b n c m d N T s (bp,bh,bk,pr,Lt) y W (HN.later ak) (HT.later ak) ku kv gb);have z6:=(bf.block (w.heap.size+1) (by omega) (by omega) (by omega)).trans (ZE bn ld);have od:=Zd (X:=[F a n c,F b m d]) z6 0 _ rfl;have oe:=Zd (X:=[F a n c,F b m d]) z6 1 _ rfl;have og:=aA z6;have id:=Zb gb;clear bf dh hd h7 cl av ak hs gb z6
   gi_wp2_with fail
   refine⟨by first|trivial|exact λq=>(by cases q),CallsIn.inRound _ (callsIn_wide.2 (C1.mono ?_))⟩;rintro e w4 ⟨ta,tn,tc,rfl,fv,pk,be⟩;simp only at fv;obtain⟨V0,cm⟩:=ZG (w4.alloc (dW #[E J bp,E J bh,E J bk,E J pr,F ta tn tc] 68));have fz:ZD w4 V0:=(by rw[cm];exact Zg _ _);have cg:Hid (V0.heap[w4.heap.size]? = some (dW [E J bp,E J bh,E J bk,E J pr,F ta tn tc].toArray 68 (0,0))):=(by rw[cm];exact Z8 _ _ _ _ _ _ _);have br:=Ze be fz;have ci:=Zb br;have ky:=Zb (fv.later fz);have ie:=Zb (Ze ig br);have ov:=Zb (aT ay br.size);have kr:=Zb be.size;have ko:Hid (V0.heap.size=w4.heap.size+1):=(by show _=_;rw[cm];simp);have lm:Hid (KeepsOthers W V0):=⟨br.size,λk _ hk _=>(br.block k (aA hk)).trans hk⟩;have av:=Za QS;have V8:=Zb ((br.block _ (by have:=Za ay;omega)).trans ((ax.block (w.heap.size+5) (by omega) (by omega) (by omega)).trans (ZE bn ff)));have V9:=Zb ((br.block _ (by have:=Za ay;omega)).trans ((ax.block (w.heap.size+6) (by omega) (by omega) (by omega)).trans (ZE bn fg)));have W8:=Zb ((be.block _ (by have:=Za ay;omega)).trans ((ax.block (w.heap.size+5) (by omega) (by omega) (by omega)).trans (ZE bn ff)));have W9:=Zb ((be.block _ (by have:=Za ay;omega)).trans ((ax.block (w.heap.size+6) (by omega) (by omega) (by omega)).trans (ZE bn fg)));have du:=Zb (Ze ig be);have ks:=Zb (aT ay be.size);have lp:Hid (KeepsOthers W w4):=⟨be.size,λk _ hk _=>(be.block k (aA hk)).trans hk⟩
   have ox:=Zb be;clear fv fz br be od oe og av;by_cases hy:y=0
   ·subst hy;obtain⟨v,hv,ua,un,uc,rfl,jc,jd⟩:=kz.2 j hj;obtain⟨⟨y3,M⟩,gg⟩:=ZF (Q0 K C (bp,bh,bk,pr,Lt) (U.getD j []));have dw:Hid (Tp K N T L U j C=if y3≠0 then (y3,[]) else (0,M)):=(by show _=_;rw[Tp,Za HS,if_neg h0,Za id,if_neg (λr=>r rfl),gg]);have av:=Za QS;have nr:=Za kr;have np:=Za ko;have nv:=Za ay;have la:Hid (UndosAt W ua un (U.getD j [])):=Zgo (S:=λq=>q=w.heap.size+2) ax.size (λk hk hq=>ax.block k hk hq hq) (λk e=>by subst e;exact⟨_,_,_,Za Z7⟩) (λad e q=>by have:=jd ad e;omega) (jc.later ic);have z1:V0.heap[w.heap.size]? = some (dW #[F ka pn kc] 24 (0,0)):=(ci.block _ (by omega)).trans ((ax.block w.heap.size (by omega) (by omega) (by omega)).trans (ZE bn lc));have gw:V0.heap[w1.heap.size]? = some (dW cs.toArray 81 (0,0)):=(ci.block _ (by omega)).trans ((ax.block w1.heap.size (by omega) (by omega) (by omega)).trans (ZE ic lh));have u13:V0.cell? ⟨w1.heap.size,j,none⟩=some (F ua un uc):=(by rw[cell_of_row V0 _ j _ _ _ gw];simpa using hv);have z7:=ZE ci H7;have nw:=aA gw;have l1:=aA z1;have nx:=aA cg
    have KS:Hid (∀ V:World,V0.heap.size<=V.heap.size->(∀ k,k<V0.heap.size->k≠w.heap.size+2->V.heap[k]? = V0.heap[k]?)->SDc w.heap.size w1.heap.size w4.heap.size j ka pn kc bp bh bk pr ta tn tc ua un uc V):=by
     intro V pi hv;have g:∀ k o v,k≠w.heap.size+2->V0.cell? ⟨k,o,none⟩=some v->V.cell? ⟨k,o,none⟩=some v:=λk o v h1 hc=>(World.cell?_of_block (a:=⟨k,o,none⟩) (hv k (World.block_lt_of_cell? _ _ hc) h1)).trans hc;exact⟨g _ _ _ (by omega) (Zd (X:=[F ka pn kc]) z1 0 _ rfl),g _ _ _ (by omega) (Zd cg 0 _ rfl),g _ _ _ (by omega) (Zd cg 1 _ rfl),g _ _ _ (by omega) (Zd cg 2 _ rfl),g _ _ _ (by omega) (Zd cg 3 _ rfl),g _ _ _ (by omega) (Zd cg 4 _ rfl),g _ _ _ (by omega) u13,by omega,by omega,by omega⟩
    have DC:=Zb (λV (hv:ZD V0 V)=>Fi ka pn kc K ca po pp C bp bh bk pr ta tn tc Lt ua un uc (U.getD j []) y3 M V (HE.later (Ze ie hv)) (HK.later (Ze ie hv)) ((ii.later ci).later hv) ez (ky.later hv) ((la.later ci).later hv) gg);have lu:=Zb z7;have na:=Zd (X:=[F ca po pp]) z7 0 _ rfl;have nz:=aA z7;clear hv jc jd gg z1 gw u13 z7 nw l1 nx av nr np nv
    gi_wp2_with fail
    rw[<-cm];clear cm;(try gi_wp2_with fail);refine Rg (S:=SDc w.heap.size w1.heap.size w4.heap.size j ka pn kc bp bh bk pr ta tn tc ua un uc) (by kernel_rfl) (by kernel_rfl) (KS _ (aE _) (λ_ _ _=>rfl)) (λag=>?_);refine tk 0 ⟨some 49,.load 24 (.tmp 5),24, "move.go:62",#[],none⟩ ?_ rfl ?_ ag ?_;rotate_left
    ·(intro V ar;obtain⟨s1,s2,s3,s4,s5,s6,s7,s8,s9,ep⟩:=ar;go_simp;first|done|with_reducible rfl)
    (try simp only[aH,ZA,ZB,ZC]);refine tk 2 ⟨some 51,.load 68 (.tmp 17),68, "move.go:62",#[],none⟩ ?_ rfl ?_ ag ?_;rotate_left
    ·(intro V ar;obtain⟨s1,s2,s3,s4,s5,s6,s7,s8,s9,ep⟩:=ar;go_simp;first|done|with_reducible rfl)
    (try simp only[aH,ZA,ZB,ZC]);refine tk 3 ⟨some 52,.move (.tmp 15),3, "move.go:62",#[],none⟩ ?_ rfl ?_ ag ?_;rotate_left
    ·(intro V ar;obtain⟨s1,s2,s3,s4,s5,s6,s7,s8,s9,ep⟩:=ar;go_simp;first|done|with_reducible rfl)
    (try simp only[aH,ZA,ZB,ZC]);refine tk 4 ⟨some 53,.indexAddr 81 (.tmp 13) (.tmp 52),0, "move.go:62",#[⟨3,.data⟩],none⟩ ?_ rfl ?_ ag ?_;rotate_left
    ·(intro V ar;obtain⟨s1,s2,s3,s4,s5,s6,s7,s8,s9,ep⟩:=ar;go_simp;first|done|with_reducible rfl)
    (try simp only[aH,ZA,ZB,ZC]);refine tk 5 ⟨some 54,.load 79 (.tmp 53),79, "move.go:62",#[⟨4,.data⟩],none⟩ ?_ rfl ?_ ag ?_;rotate_left
    ·(intro V ar;obtain⟨s1,s2,s3,s4,s5,s6,s7,s8,s9,ep⟩:=ar;go_simp;first|done|with_reducible rfl)
    (try simp only[aH,ZA,ZB,ZC]);refine bJ (rs:=[1]) (by kernel_rfl) (by simp) ?_;refine AllReadyH.cons (o:=⟨some 50,.load 29 (.tmp 7),29, "move.go:62",#[],none⟩) rfl (λKQ hK=>?_) AllReadyH.nil;go_simp;refine hK.out _ _ (KS _ (aE _) (λ_ _ _=>rfl)) (λbo=>?_);clear hK KQ ag;have ag:=bo;clear bo;(try simp only[aH,ZA,ZB,ZC]);refine bJ (rs:=[6]) (by kernel_rfl) (by simp) ?_;refine AllReadyH.cons (o:=⟨some 55,.call { callee:=Callee.value (.func 87),args:=#[.tmp 49,.tmp 50,.tmp 51,.tmp 54],argTypes:=#[24,29,68,79] },31, "move.go:62",#[⟨0,.data⟩,⟨1,.data⟩,⟨2,.data⟩,⟨5,.data⟩],none⟩) rfl (λKQ hK=>?_) AllReadyH.nil;refine Yr (by kernel_rfl) 87 #[.agg #[F ka pn kc],F ca po pp,.agg #[E J bp,E J bh,E J bk,E J pr,F ta tn tc],F ua un uc] (by kernel_rfl) (DC _ (Zh _)) ?_;rintro e V1 ⟨am,an,ac,rfl,hM,sM,jg⟩;refine⟨_,rfl,?_⟩;have aw:ZD V0 V1:=Ze (Zh V0) jg;have v7:=ZE aw lu;refine hK.out _ _ (KS _ aw.size (λk hk _=>aw.block k hk)) (λbo=>?_);clear hK KQ ag;have ag:=bo;clear bo;(try simp only[aH,ZA,ZB,ZC]);refine tk 7 ⟨some 48,.move (.tmp 55),31, "move.go:62",#[⟨6,.data⟩],none⟩ ?_ rfl ?_ ag ?_;rotate_left
    ·(intro W ar;go_simp;first|done|with_reducible rfl)
    (try simp only[aH,ZA,ZB,ZC]);refine tk 8 ⟨some 56,.extract (.tmp 48) 0,29, "move.go:62",#[⟨7,.data⟩],none⟩ ?_ rfl ?_ ag ?_;rotate_left
    ·(intro W ar;go_simp;first|done|with_reducible rfl)
    (try simp only[aH,ZA,ZB,ZC]);refine tk 9 ⟨some 57,.extract (.tmp 48) 1,30, "move.go:62",#[⟨7,.data⟩,⟨10,.gcOnly .lateStores⟩],none⟩ ?_ rfl ?_ ag ?_;rotate_left
    ·(intro W ar;go_simp;first|done|with_reducible rfl)
    (try simp only[aH,ZA,ZB,ZC]);have lz:=Zd (X:=[F ca po pp]) v7 0 _ rfl;have nb:=Zi v7 0;have oa:=aA v7;obtain⟨V2,da⟩:=ZG (V1.setCell ⟨w.heap.size+2,0,none⟩ (F am an ac));have jw:V2.heap[w.heap.size+2]? = some (dW #[F am an ac] 29 (0,0)):=(by rw[da];exact Yz v7);have au:Gr V1 V2 (λq=>q=w.heap.size+2):=by rw[da];exact (Gr.refl V1 (λq=>q=w.heap.size+2)).set (p:=⟨w.heap.size+2,0,none⟩) (.inl rfl) _
    have jq:KeepsOthers W V2:=by
     rw[da];exact (lm.trans ⟨aw.size,λk _ hk _=>(aw.block k (aA hk)).trans hk⟩).trans (cA _ _ _)
    refine bJ (rs:=[10]) (by kernel_rfl) (by simp) ?_;refine AllReadyH.cons (o:=⟨none,.store 29 (.tmp 7) (.tmp 56),0, "move.go:62",#[⟨8,.data⟩,⟨6,.chain⟩,⟨0,.phase⟩,⟨1,.phase⟩,⟨2,.phase⟩,⟨3,.phase⟩,⟨4,.phase⟩,⟨5,.phase⟩,⟨6,.phase⟩,⟨7,.phase⟩,⟨8,.phase⟩,⟨9,.textOnly .lateStores⟩],none⟩) rfl (λKQ hK=>?_) AllReadyH.nil;go_simp;rw[<-da];clear da lz nb oa;refine hK.out _ _ (KS _ (aT aw.size au.size) (λk hk h1=>(au.block k (aI hk aw.size) h1).trans (aw.block k hk))) (λbo=>?_);clear hK KQ ag;have ag:=bo;clear bo;(try simp only[aH,ZA,ZB,ZC]);refine tk 11 ⟨some 18,.assign (.tmp 57),30, "move.go:62",#[⟨9,.data⟩,⟨10,.chain⟩,⟨0,.phase⟩,⟨1,.phase⟩,⟨2,.phase⟩,⟨3,.phase⟩,⟨4,.phase⟩,⟨5,.phase⟩,⟨6,.phase⟩,⟨7,.phase⟩,⟨8,.phase⟩,⟨9,.phase⟩,⟨10,.phase⟩],none⟩ ?_ rfl ?_ ag ?_;rotate_left
    ·(intro W ar;go_simp;first|done|with_reducible rfl)
    (try simp only[aH,ZA,ZB,ZC]);refine wpAnyH_done (by kernel_rfl) ⟨by simp,?_⟩ _;clear ag;have cc:=Ze ci aw;have av:=Za QS;have gi:W.heap.size<=V2.heap.size:=aT cc.size au.size;have gn:KpD W0.heap.size (w.heap.size+2) (w.heap.size+2) W V2:=⟨au.os.trans cc.os,au.tape.trans cc.tape,au.output.trans cc.output,gi,λk hk h1 _=>(au.block k (by have:=Za ay;have:=cc.size;omega) h1).trans (cc.block k (by have:=Za ay;omega))⟩;have kf:Hid (CoinsAt V2 am an M):=Vw (S:=λq=>q=w.heap.size+2) au.size au.block (λk e=>by subst e;exact⟨_,_,_,v7⟩) hM;have ir:=Zb gn;have KO:=Zb jq;have lq:=Zb jw;have il:=Zb (aT ay gi);have dt:Hid (ZD w V2):=(ax.trans gn).below di q7 (by omega) (by omega);have U8:=Zb (au.heap (ZE aw V8) (by omega));have U9:=Zb (au.heap (ZE aw V9) (by omega));clear gn jq jw v7 au aw cc gi hM av na nz jg;by_cases dj:y3=0
    ·subst dj
     gi_wp2
     refine⟨KO.from _,Za ir,ax.trans ir,Za il,M,am,an,ac,?_,Za lq,Za kf,sM⟩;rw[bW];have e1:=Za dw;rw[if_neg (λr=>r rfl)] at e1;have e:=Tn HD e1;rw[if_neg (λr=>r rfl)] at e;exact e
    ·have pe:(y3 != 0)=true:=(by simp[dj]);have c8:=Zd (X:=[F none 0 0]) U8 0 _ rfl;have f8:=Zi U8 0;have l8:=aA U8;have dn:¬w.heap.size+5=w.heap.size+6:=(by omega);have dp:¬w.heap.size+6=w.heap.size+5:=(by omega);obtain⟨z,ae⟩:=ZG (V2.setCell ⟨w.heap.size+5,0,none⟩ (F none 0 0));have g4:Gr V2 z (λq=>q=w.heap.size+5):=(by rw[ae];exact (Gr.refl V2 (λq=>q=w.heap.size+5)).set (p:=⟨w.heap.size+5,0,none⟩) (.inl rfl) _);have e8:z.heap[w.heap.size+5]? = some (dW #[F none 0 0] 29 (0,0)):=(by rw[ae];exact Yz U8);have e9:=g4.heap U9 dp;have dl:KeepsOthers W z:=(by rw[ae];exact KO.trans (cA _ _ _));have c9:=Zd (X:=[E J 0]) U9 0 _ rfl;have f9:=Zi U9 0;have l9:=aA U9;obtain⟨O,af⟩:=ZG (z.setCell ⟨w.heap.size+6,0,none⟩ (E J y3));have g5:Gr z O (λq=>q=w.heap.size+6):=(by rw[af];exact (Gr.refl z (λq=>q=w.heap.size+6)).set (p:=⟨w.heap.size+6,0,none⟩) (.inl rfl) _);have k9:O.heap[w.heap.size+6]? = some (dW #[E J y3] 30 (0,0)):=(by rw[af];exact Yz e9);have k8:=g5.heap e8 dn;have dm:KeepsOthers W O:=(by rw[af];exact dl.trans (cA _ _ _));have bj:ZD w O:=g5.below (g4.below dt dt.size (λk q=>by omega)) (g4.below dt dt.size (λk q=>by omega)).size (λk q=>by omega);have dg:=aT il (aT g4.size g5.size);have fl:=Zb dm;have KB:=Zb bj;have fm:=Zb dg;have K8:=Zb k8;have K9:=Zb k9;have cu:=Zb ae;have cw:=Zb af;clear dm dl bj k8 k9 e8 e9 g4 g5 ae af dg
     gi_wp2
     rw[<-Za cu,<-Za cw];refine⟨fl.from _,rfl,Za KB,Za fm,y3,[],dj,?_,Za K8,Za K9⟩;rw[bW];have e1:=Za dw;rw[if_pos dj] at e1;have e:=Tn HD e1;rw[if_pos dj] at e;exact e
   ·have gy:(y == 0)=false:=(by simp[hy]);have pd:(y != 0)=true:=(by simp[hy]);have dw:Hid (Tp K N T L U j C=(y,[])):=(by show _=_;rw[Tp,Za HS,if_neg h0,Za id,if_pos hy]);clear cm;have c8:=Zd (X:=[F none 0 0]) W8 0 _ rfl;have f8:=Zi W8 0;have l8:=aA W8;have dn:¬w.heap.size+5=w.heap.size+6:=(by omega);have dp:¬w.heap.size+6=w.heap.size+5:=(by omega);obtain⟨z,ae⟩:=ZG (w4.setCell ⟨w.heap.size+5,0,none⟩ (F none 0 0));have g4:Gr w4 z (λq=>q=w.heap.size+5):=(by rw[ae];exact (Gr.refl w4 (λq=>q=w.heap.size+5)).set (p:=⟨w.heap.size+5,0,none⟩) (.inl rfl) _);have e8:z.heap[w.heap.size+5]? = some (dW #[F none 0 0] 29 (0,0)):=(by rw[ae];exact Yz W8);have e9:=g4.heap W9 dp;have dl:KeepsOthers W z:=(by rw[ae];exact lp.trans (cA _ _ _));have c9:=Zd (X:=[E J 0]) W9 0 _ rfl;have f9:=Zi W9 0;have l9:=aA W9;obtain⟨O,af⟩:=ZG (z.setCell ⟨w.heap.size+6,0,none⟩ (E J y));have g5:Gr z O (λq=>q=w.heap.size+6):=(by rw[af];exact (Gr.refl z (λq=>q=w.heap.size+6)).set (p:=⟨w.heap.size+6,0,none⟩) (.inl rfl) _);have k9:O.heap[w.heap.size+6]? = some (dW #[E J y] 30 (0,0)):=(by rw[af];exact Yz e9);have k8:=g5.heap e8 dn;have dm:KeepsOthers W O:=(by rw[af];exact dl.trans (cA _ _ _));have bj:ZD w O:=g5.below (g4.below du du.size (λk q=>by omega)) (g4.below du du.size (λk q=>by omega)).size (λk q=>by omega);have dg:=aT ks (aT g4.size g5.size)
    have cd:=Zg O (dW #[E J bp,E J bh,E J bk,E J pr,F ta tn tc] 68);have fl:Hid (KeepsOthers W (O.alloc (dW #[E J bp,E J bh,E J bk,E J pr,F ta tn tc] 68))):=dm.trans ⟨cd.size,λk _ hk _=>(cd.block k (aA hk)).trans hk⟩;have KB:=Zb (Ze bj cd);have fm:=Zb (aT dg cd.size);have K8:=Zb (ZE cd k8);have K9:=Zb (ZE cd k9);clear cd;have cu:=Zb ae;have cw:=Zb af;clear dm dl bj k8 k9 e8 e9 g4 g5 ae af dg
    gi_wp2
    rw[<-Za cu,<-Za cw];refine⟨fl.from _,rfl,Za KB,Za fm,y,[],hy,?_,Za K8,Za K9⟩;rw[bW];have e:=Tn HD dw;rw[if_pos hy] at e;exact e
 case done=>
  rintro D ys W hD rfl ⟨bf,dh,C,ca,po,pp,hd,h7,cl,ez⟩ hK;have av:=Za QS;have ce:=Za io;rw[Md,Zgi,hd] at ce;obtain⟨rfl,rfl⟩:=aX ce;have v8:=(bf.block (w.heap.size+5) (by omega) (by omega) (by omega)).trans (ZE bn ff);have v9:=(bf.block (w.heap.size+6) (by omega) (by omega) (by omega)).trans (ZE bn fg);have ak:ZD w W:=bf.below di q7 (by omega) (by omega);have dn:¬w.heap.size+5=w.heap.size+6:=by omega
  have dp:¬w.heap.size+6=w.heap.size+5:=by omega
  have c5:=Zd (X:=[F ca po pp]) h7 0 _ rfl;have l5:=aA h7;have c8:=Zd (X:=[F none 0 0]) v8 0 _ rfl;have f8:=Zi v8 0;have l8:=aA v8;obtain⟨z,ae⟩:=ZG (W.setCell ⟨w.heap.size+5,0,none⟩ (F ca po pp));have g4:Gr W z (λq=>q=w.heap.size+5):=by rw[ae];exact (Gr.refl W (λq=>q=w.heap.size+5)).set (p:=⟨w.heap.size+5,0,none⟩) (.inl rfl) _
  have e8:z.heap[w.heap.size+5]? = some (dW #[F ca po pp] 29 (0,0)):=by rw[ae];exact Yz v8
  have e9:=g4.heap v9 dp;have jp:z.heap[D]? = some (.deferred (some [])):=by rw[ae];exact (cA W _ _).same D _ hK rfl
  have c9:=Zd (X:=[E J 0]) v9 0 _ rfl;have f9:=Zi v9 0;have l9:=aA v9;obtain⟨O,af⟩:=ZG (z.setCell ⟨w.heap.size+6,0,none⟩ (E J 0));have g5:Gr z O (λq=>q=w.heap.size+6):=by rw[af];exact (Gr.refl z (λq=>q=w.heap.size+6)).set (p:=⟨w.heap.size+6,0,none⟩) (.inl rfl) _
  have k9:O.heap[w.heap.size+6]? = some (dW #[E J 0] 30 (0,0)):=by rw[af];exact Yz e9
  have k8:=g5.heap e8 dn;have gm:O.heap[D]? = some (.deferred (some [])):=by rw[af];exact (cA z _ _).same D _ jp rfl
  have bj:ZD w O:=g5.below (g4.below ak ak.size (λk q=>by omega)) (g4.below ak ak.size (λk q=>by omega)).size (λk q=>by omega);have ji:CoinsAt O ca po C:=Vw (S:=λq=>q=w.heap.size+6) g5.size g5.block (λk e=>by subst e;exact⟨_,_,_,e9⟩) (Vw (S:=λq=>q=w.heap.size+5) g4.size g4.block (λk e=>by subst e;exact⟨_,_,_,v8⟩) cl);have gp:=grownBy_putObj' O D (.deferred none);have bs:∀ r,(some D:Option Nat)=some r->∃ o:Obj,O.heap[r]? = some o/\o.isCells=false:=λr e=>by cases e;exact⟨_,gm,rfl⟩
  have jj:=Ji (Rp gp bs) ji;have de:ZD w (O.putObj D (.deferred none)):=bj.grown gp bj.size (λk e=>by cases e;omega);have z8:=cell_kept (Zd (X:=[F ca po pp]) k8 0 _ rfl) gp bs;have z9:=cell_kept (Zd (X:=[E J 0]) k9 0 _ rfl) gp bs;have HF:Hid (CnR w (O.putObj D (.deferred none)) 0 C (dX (dY #[F ca po pp,E J 0]))):=⟨ca,po,pp,rfl,jj,ez,de⟩;have KD:=Zb gm;clear jj de ji bj k8 k9 e8 jp gm cl bf h7 ak v8 e9 g4 g5 hK av hd gp bs ce;have cu:=Zb ae;have cw:=Zb af;clear ae af v9
  gi_wp2
  rw[<-Za cu,<-Za cw];refine⟨by simp,.inl ⟨_,_,rfl,run_takeDeferred KD,?_⟩⟩;refine⟨dY #[F ca po pp,E J 0],?_,Za HF⟩;simp[results,Tryz.f46,go_sem,z8,z9]
 case stop=>
  rintro D py pre W hD ⟨k,hk,rfl⟩ ⟨rfl,ak,dh,y,M,hy,hd,h8,h9⟩ hK;have ce:=Za io;rw[Md,Gw 24 k hk,Zgd hd hy] at ce;obtain⟨rfl,rfl⟩:=aX ce;have av:=Za QS;have gp:=grownBy_putObj' W D (.deferred none);have bs:∀ r,(some D:Option Nat)=some r->∃ o:Obj,W.heap[r]? = some o/\o.isCells=false:=λr e=>by cases e;exact⟨_,hK,rfl⟩
  have de:ZD w (W.putObj D (.deferred none)):=ak.grown gp ak.size (λk e=>by cases e;omega);have z8:=cell_kept (Zd (X:=[F none 0 0]) h8 0 _ rfl) gp bs;have z9:=cell_kept (Zd (X:=[E J y]) h9 0 _ rfl) gp bs;have HF:Hid (CnR w (W.putObj D (.deferred none)) y [] (dX (dY #[F none 0 0,E J y]))):=Vo rfl de;have KD:=Zb hK;clear de ak hd hK gp bs ce h8 h9 av
  gi_wp2
  refine⟨by simp,.inl ⟨_,_,rfl,run_takeDeferred KD,?_⟩⟩;refine⟨dY #[F none 0 0,E J y],?_,Za HF⟩;simp[results,Tryz.f46,go_sem,z8,z9]
end Go.Proofs.YtpikejjiignchaaGreatDoor
namespace Go.Proofs.YtpikejjiignchaaGreatDoor
open Go.RowKit Go.Shelf
theorem Zef(ka kn kc K a b n c m d N T O ln lc C0)(R L:List Int)(x:Int)(C' w)(hE:Env w)(hK:Bk.TextsAt w ka kn K)(hN:Tr.IntsAt w a n N)(hT:Tr.BlksAt w b m T)(sN:SlOk a n c)(sT:SlOk b m d)(hC:CoinsAt w O ln C0)(sC:SlOk O ln lc)(hR:R.length=24)(hL:L.length=24)(z:J6 K N T C0 R L=(x,C')) :
  Calls aB 46 #[.agg #[F ka kn kc],.agg #[F a n c,F b m d],F O ln lc,.agg (Zl R).toArray,.agg (Zl L).toArray] w λe w'=>CnR w w' x C' e:=by
 unfold J6 at z;by_cases hz:L=aF 24 0
 ·rw[if_pos hz] at z;obtain⟨rfl,rfl⟩:=aX z;exact Zir ka kn kc K a b n c m d N T O ln lc _ R L w hE hK hN hT sN sT hC sC hR hL hz
 ·rw[if_neg hz] at z;obtain⟨⟨x4,C4,U4⟩,am⟩:=ZF (Ue K N T R [] []);rw[am] at z;simp only at z;by_cases h4:x4=0
  ·subst h4;rw[if_neg (λq=>q rfl)] at z;exact Zis ka kn kc K a b n c m d N T O ln lc C0 R L x C' w hE hK hN hT sN sT hC sC hR hL C4 U4 am hz z
  ·rw[if_pos h4] at z;obtain⟨rfl,rfl⟩:=aX z;exact Zms ka kn kc K a b n c m d N T O ln lc C0 R L w hE hK hN hT sN sT hC sC hR hL x4 C4 U4 am hz h4
theorem Zfs{A B:List Int}(z:A.length=24)(O:B.length=24):(X3 A B).length=24:=by
 simp[X3,z,O]
def SMv(z ab ac:Nat)(ka:Option Addr)(kn kc:Nat)(a:Option Addr)(n c:Nat)(b:Option Addr)(m d:Nat)(O PC:Array Value)(V:World):Prop:=
 V.cell? ⟨z,0,none⟩=some (F ka kn kc)/\V.cell? ⟨z+1,0,none⟩=some (F a n c)/\V.cell? ⟨z+1,1,none⟩=some (F b m d)/\V.heap[ab]? = some (dW O 76 (0,0))/\V.heap[ac]? = some (dW PC 76 (0,0))/\z+1<V.heap.size
set_option maxRecDepth 100000 in
theorem Zok(ka kn kc K a b n c m d N T la ln lc C0)(s t:Int)(x:Int)(C' w)(hE:Env w)(hK:Bk.TextsAt w ka kn K)(hN:Tr.IntsAt w a n N)(hT:Tr.BlksAt w b m T)(sN:SlOk a n c)(sT:SlOk b m d)(hC:CoinsAt w la ln C0)(sC:SlOk la ln lc)(fq:ln<=2199023255552)(fp:∀ x∈C0,(ck x).length<=8796093022208)(hx:Vt K N T C0 s t=(x,C')) :
  Calls aB 17 #[.agg #[F ka kn kc],.agg #[F a n c,F b m d],F la ln lc,E J s,E J t] w λe w'=>CnR w w' x C' e:=by
 obtain⟨X,hX⟩:=ZG ((w.alloc (dW #[F ka kn kc] 24)).alloc (dW #[F a n c,F b m d] 28));have aa:ZD w X:=by rw[hX];exact Ze (Zg _ _) (Zg _ _)
 have bv:X.heap[w.heap.size]? = some (dW [F ka kn kc].toArray 24 (0,0)):=by rw[hX,Below.heap_alloc _ _ _ (by simp)];exact Qs _ _ _
 have de:X.heap[w.heap.size+1]? = some (dW [F a n c,F b m d].toArray 28 (0,0)):=by
  rw[hX];have:=aK (w.alloc (dW #[F ka kn kc] 24)) (dW #[F a n c,F b m d] 28);rw[show (w.alloc (dW #[F ka kn kc] 24)).heap.size=w.heap.size+1 by simp] at this;exact this
 obtain⟨jk,hz⟩:=ZF (Bk.bkChk K);obtain⟨⟨P,y⟩,hp⟩:=ZF (Tr.pathE N T s);obtain⟨⟨P2,y2⟩,cc⟩:=ZF (Tr.pathE N T t);unfold Vt at hx;rw[hz,hp,cc] at hx;simp only at hx;have hP:=Rk hp;have dd:=Rk cc;have hA:=Qp hP;have hB:=Qp dd;obtain⟨A,es⟩:=ZF (Yx P);obtain⟨B,eu⟩:=ZF (Yx P2);have R1:=Zb (λW (O:ZD X W)=>My a b n c m d N T s P y W ((hN.later aa).later O) ((hT.later aa).later O) sN sT hp hP);have R2:=Zb (λW (O:ZD X W)=>My a b n c m d N T t P2 y2 W ((hN.later aa).later O) ((hT.later aa).later O) sN sT cc dd);rw[es] at hx hA R1;rw[eu] at hx hB R2;have bc:=Zfs hA hB;have bd:=Zfs hB hA;obtain⟨AB,er⟩:=ZF (X3 A B);obtain⟨BA,et⟩:=ZF (X3 B A);have AP:=Zb (λW=>Znj A B W hA hB);rw[er] at hx bc AP;rw[et] at hx bd AP;obtain⟨⟨x3,C3⟩,dl⟩:=ZF (J6 K N T C0 A AB);obtain⟨⟨x4,C4,U4⟩,dj⟩:=ZF (Ue K N T BA C3 []);rw[dl] at hx;simp only at hx;rw[dj] at hx;simp only at hx;have C1:=Zb (Bk.check_is ka kn kc K X (hK.later aa) jk hz);have CC:=Zb (λW (O:ZD X W)=>Su la ln lc C0 W fq ((hC.later aa).later O) sC fp);have DS:=Zb (λW (ji:Option Addr) (jj:Nat) (O:ZD X W) (hc:CoinsAt W ji ln C0) (sc:SlOk ji ln jj)=>Zef ka kn kc K a b n c m d N T ji ln jj C0 A AB x3 C3 W ((hE.later aa).later O) ((hK.later aa).later O) ((hN.later aa).later O) ((hT.later aa).later O) sN sT hc sc hA bc dl)
 have CL:=Zb (λW (ji:Option Addr) (cn jj:Nat) (O:ZD X W) (hc:CoinsAt W ji cn C3) (sc:SlOk ji cn jj)=>G1 ka kn kc K a b n c m d N T ji cn jj C3 BA x4 C4 U4 W ((hE.later aa).later O) ((hK.later aa).later O) ((hN.later aa).later O) ((hT.later aa).later O) sN sT hc sc bd dj);have gl:=Zd bv 0 _ rfl;have xl:=aA de;have xk:=aA bv;have az:=Zb aa;have ih:=Zb bv;have co:=Zb de;have HX:=Zb hx;have iA:=Xm hA;have iB:=Xm hB;have du:=Xm bc;have dv:=Xm bd;have oA:=Uw A;have oB:=Uw B;have fu:=Uw AB;have fv:=Uw BA;have sA:((Zl (aF 24 0)).toArray:Array Value).size=(Zl A).toArray.size:=by simp[Zl,hA]
 have sB:((Zl (aF 24 0)).toArray:Array Value).size=(Zl B).toArray.size:=by simp[Zl,hB]
 have gc:((Zl (aF 24 0)).toArray:Array Value).size=(Zl AB).toArray.size:=by simp[Zl,bc]
 have gd:((Zl (aF 24 0)).toArray:Array Value).size=(Zl BA).toArray.size:=by simp[Zl,bd]
 obtain⟨PA,ez⟩:=ZF ((Zl A).toArray);obtain⟨PB,fa⟩:=ZF ((Zl B).toArray);obtain⟨PC,fb⟩:=ZF ((Zl AB).toArray);obtain⟨PD,fc⟩:=ZF ((Zl BA).toArray);rw[ez] at R1 AP DS iA oA sA;rw[fa] at R2 AP iB oB sB;rw[fb] at AP DS du fu gc;rw[fc] at AP CL dv fv gd;clear hE hK hN hT sN sT hC sC fq fp aa bv de hx hp cc dj dl hz hP dd hA hB bc bd es eu er et ez fa fb fc;go_enter Tryz.func17,Tryz.ntmps17;go_wp2_with fail;rw[<-hX];clear hX;(try go_wp2_with fail);refine C1.mono ?_;rintro e w1 ⟨rfl,ah⟩;by_cases dt:jk=0
 ·subst dt;have h11:=ZE ah co;have iz:=Zd h11 0 _ rfl;have ja:=Zd h11 1 _ rfl;have jb:=aA h11;have D2:=Zb (R1 w1 ah);have ib:=Zb ah;clear ah h11 gl;go_wp2_with fail;refine D2.mono ?_;rintro e w2 ⟨rfl,am⟩;obtain⟨Y,hY⟩:=ZG (w2.alloc (dW PA 76));have fk:ZD w2 Y:=by rw[hY];exact Zg _ _
  have ii:Hid (Y.heap[w2.heap.size]? = some (dW PA 76 (0,0))):=by rw[hY];exact aK _ _
  have bx:=Ze ib (Ze am fk);have h1:=ZE bx co;have en:Hid ((w2.alloc (dW #[E J 0,E J 0,E J 0,E J 0,E J 0,E J 0,E J 0,E J 0,E J 0,E J 0,E J 0,E J 0,E J 0,E J 0,E J 0,E J 0,E J 0,E J 0,E J 0,E J 0,E J 0,E J 0,E J 0,E J 0] 76)).heap[w2.heap.size]? = some (dW (Zl (aF 24 0)).toArray 76 (0,0))):=by rw[Ql];exact aK _ _
  have EY:Hid ((w2.alloc (dW #[E J 0,E J 0,E J 0,E J 0,E J 0,E J 0,E J 0,E J 0,E J 0,E J 0,E J 0,E J 0,E J 0,E J 0,E J 0,E J 0,E J 0,E J 0,E J 0,E J 0,E J 0,E J 0,E J 0,E J 0] 76)).setRow w2.heap.size PA=Y):=by show _=_;rw[hY];exact World.setRow_alloc_new _ _ _ _
  have D3:=Zb (R2 Y bx);have ej:=Zb bx;have r1:=Zd h1 0 _ rfl;have r2:=Zd h1 1 _ rfl;have rl:=aA h1;clear am fk bx h1 iz ja jb hY;by_cases hy:y=0
  ·subst hy
   go_wp2_with (refine Zu rfl 76 _ _ rfl _ rfl _ _ rfl _ en iA sA oA ?_;rw[Za EY])
   refine D3.mono ?_;rintro e w3 ⟨rfl,fd⟩;obtain⟨Y2,ca⟩:=ZG (w3.alloc (dW PB 76));have fl:ZD w3 Y2:=(by rw[ca];exact Zg _ _);have ij:Hid (Y2.heap[w3.heap.size]? = some (dW PB 76 (0,0))):=(by rw[ca];exact aK _ _);have dh:=Ze fd fl;have el:=Zb (ZE dh ii);have eo:Hid ((w3.alloc (dW #[E J 0,E J 0,E J 0,E J 0,E J 0,E J 0,E J 0,E J 0,E J 0,E J 0,E J 0,E J 0,E J 0,E J 0,E J 0,E J 0,E J 0,E J 0,E J 0,E J 0,E J 0,E J 0,E J 0,E J 0] 76)).heap[w3.heap.size]? = some (dW (Zl (aF 24 0)).toArray 76 (0,0))):=(by rw[Ql];exact aK _ _);have eh:Hid ((w3.alloc (dW #[E J 0,E J 0,E J 0,E J 0,E J 0,E J 0,E J 0,E J 0,E J 0,E J 0,E J 0,E J 0,E J 0,E J 0,E J 0,E J 0,E J 0,E J 0,E J 0,E J 0,E J 0,E J 0,E J 0,E J 0] 76)).setRow w3.heap.size PB=Y2):=(by show _=_;rw[ca];exact World.setRow_alloc_new _ _ _ _);have ek:=Zb (Ze ej dh);have D4:=Zb (AP Y2);clear fd fl dh r1 r2 rl ca;by_cases dr:y2=0
   ·subst dr
    go_wp2_with (first|(refine Zu rfl 76 _ _ rfl _ rfl _ _ rfl _ eo iB sB oB ?_;rw[Za eh])|refine Yu rfl 76 _ rfl _ rfl _ _ el _ _ bY iA ?_|refine Yu rfl 76 _ rfl _ rfl _ _ ij _ _ bY iB ?_)
    refine D4.mono ?_;rintro e z ⟨rfl,ff⟩;have fe:=Ze (Zg z (dW #[E J 0,E J 0,E J 0,E J 0,E J 0,E J 0,E J 0,E J 0,E J 0,E J 0,E J 0,E J 0,E J 0,E J 0,E J 0,E J 0,E J 0,E J 0,E J 0,E J 0,E J 0,E J 0,E J 0,E J 0] 76)) (Zg (z.alloc (dW #[E J 0,E J 0,E J 0,E J 0,E J 0,E J 0,E J 0,E J 0,E J 0,E J 0,E J 0,E J 0,E J 0,E J 0,E J 0,E J 0,E J 0,E J 0,E J 0,E J 0,E J 0,E J 0,E J 0,E J 0] 76)) (dW #[E J 0,E J 0,E J 0,E J 0,E J 0,E J 0,E J 0,E J 0,E J 0,E J 0,E J 0,E J 0,E J 0,E J 0,E J 0,E J 0,E J 0,E J 0,E J 0,E J 0,E J 0,E J 0,E J 0,E J 0] 76))
    have dm:((z.alloc (dW #[E J 0,E J 0,E J 0,E J 0,E J 0,E J 0,E J 0,E J 0,E J 0,E J 0,E J 0,E J 0,E J 0,E J 0,E J 0,E J 0,E J 0,E J 0,E J 0,E J 0,E J 0,E J 0,E J 0,E J 0] 76)).alloc (dW #[E J 0,E J 0,E J 0,E J 0,E J 0,E J 0,E J 0,E J 0,E J 0,E J 0,E J 0,E J 0,E J 0,E J 0,E J 0,E J 0,E J 0,E J 0,E J 0,E J 0,E J 0,E J 0,E J 0,E J 0] 76)).heap[z.heap.size]? = some (dW (Zl (aF 24 0)).toArray 76 (0,0)):=by rw[Below.heap_alloc _ _ _ (by simp),Ql];exact aK _ _
    have ft:((z.alloc (dW #[E J 0,E J 0,E J 0,E J 0,E J 0,E J 0,E J 0,E J 0,E J 0,E J 0,E J 0,E J 0,E J 0,E J 0,E J 0,E J 0,E J 0,E J 0,E J 0,E J 0,E J 0,E J 0,E J 0,E J 0] 76)).alloc (dW #[E J 0,E J 0,E J 0,E J 0,E J 0,E J 0,E J 0,E J 0,E J 0,E J 0,E J 0,E J 0,E J 0,E J 0,E J 0,E J 0,E J 0,E J 0,E J 0,E J 0,E J 0,E J 0,E J 0,E J 0] 76)).heap[z.heap.size+1]? = some (dW (Zl (aF 24 0)).toArray 76 (0,0)):=by
     have:=aK (z.alloc (dW #[E J 0,E J 0,E J 0,E J 0,E J 0,E J 0,E J 0,E J 0,E J 0,E J 0,E J 0,E J 0,E J 0,E J 0,E J 0,E J 0,E J 0,E J 0,E J 0,E J 0,E J 0,E J 0,E J 0,E J 0] 76)) (dW #[E J 0,E J 0,E J 0,E J 0,E J 0,E J 0,E J 0,E J 0,E J 0,E J 0,E J 0,E J 0,E J 0,E J 0,E J 0,E J 0,E J 0,E J 0,E J 0,E J 0,E J 0,E J 0,E J 0,E J 0] 76);rw[show (z.alloc (dW #[E J 0,E J 0,E J 0,E J 0,E J 0,E J 0,E J 0,E J 0,E J 0,E J 0,E J 0,E J 0,E J 0,E J 0,E J 0,E J 0,E J 0,E J 0,E J 0,E J 0,E J 0,E J 0,E J 0,E J 0] 76)).heap.size=z.heap.size+1 by simp] at this;rw[this,Ql]
    obtain⟨Q1,bf⟩:=ZG (((z.alloc (dW #[E J 0,E J 0,E J 0,E J 0,E J 0,E J 0,E J 0,E J 0,E J 0,E J 0,E J 0,E J 0,E J 0,E J 0,E J 0,E J 0,E J 0,E J 0,E J 0,E J 0,E J 0,E J 0,E J 0,E J 0] 76)).alloc (dW #[E J 0,E J 0,E J 0,E J 0,E J 0,E J 0,E J 0,E J 0,E J 0,E J 0,E J 0,E J 0,E J 0,E J 0,E J 0,E J 0,E J 0,E J 0,E J 0,E J 0,E J 0,E J 0,E J 0,E J 0] 76)).setRow z.heap.size PC);have dn:Q1.heap[z.heap.size+1]? = some (dW (Zl (aF 24 0)).toArray 76 (0,0)):=(by rw[bf];exact (cT _ _ _ _ (by omega)).trans ft);have fs:Q1.heap[z.heap.size]? = some (dW PC 76 (0,0)):=(by rw[bf];exact setRow_heap _ _ _ _ _ _ dm);have fm:ZD z Q1:=(by rw[bf];exact below_setRow fe (aE _) _);obtain⟨Y3,bi⟩:=ZG (Q1.setRow (z.heap.size+1) PD);have gn:Y3.heap[z.heap.size]? = some (dW PC 76 (0,0)):=(by rw[bi];exact (cT _ _ _ _ (by omega)).trans fs);have gp:Y3.heap[z.heap.size+1]? = some (dW PD 76 (0,0)):=(by rw[bi];exact setRow_heap _ _ _ _ _ _ dn);have fg:ZD z Y3:=(by rw[bi];exact below_setRow fm (Nat.le_succ _) _);have dg:=Ze ff fg;have bw:=Ze ek dg;have gm:=ZE dg el;have y0:=ZE bw ih;have y1:=ZE bw co
    have KS:Hid (∀ V:World,ZD Y3 V->SMv w.heap.size w2.heap.size z.heap.size ka kn kc a n c b m d PA PC V):=by
     intro V hv;exact⟨Zc hv (Zd y0 0 _ rfl),Zc hv (Zd y1 0 _ rfl),Zc hv (Zd y1 1 _ rfl),ZE hv gm,ZE hv gn,aI (aA y1) hv.size⟩
    have id:=Zb dm;have ie:=Zb dn;have E1:Hid (((z.alloc (dW #[E J 0,E J 0,E J 0,E J 0,E J 0,E J 0,E J 0,E J 0,E J 0,E J 0,E J 0,E J 0,E J 0,E J 0,E J 0,E J 0,E J 0,E J 0,E J 0,E J 0,E J 0,E J 0,E J 0,E J 0] 76)).alloc (dW #[E J 0,E J 0,E J 0,E J 0,E J 0,E J 0,E J 0,E J 0,E J 0,E J 0,E J 0,E J 0,E J 0,E J 0,E J 0,E J 0,E J 0,E J 0,E J 0,E J 0,E J 0,E J 0,E J 0,E J 0] 76)).setRow z.heap.size PC=Q1):=bf.symm;have E2:Hid (Q1.setRow (z.heap.size+1) PD=Y3):=bi.symm;have cp:=Zb bw;have io:=Zb gp;have Y0:=Zb y0;have Y1:=Zb y1;clear fe dm ft bf dn fs fm bi gn gp fg dg bw gm y0 y1 ff xl xk
    go_wp2_with (first|(refine Zu rfl 76 _ _ rfl _ rfl _ _ rfl _ id du gc fu ?_;rw[Za E1])|(refine Zu rfl 76 _ _ rfl _ rfl _ _ rfl _ ie dv gd fv ?_;rw[Za E2]))
    refine wp_region_held_drew (S:=SMv w.heap.size w2.heap.size z.heap.size ka kn kc a n c b m d PA PC) (by kernel_rfl) (KS _ (Zh _)) (λab=>?_);refine tk 0 ⟨some 48,.load 24 (.tmp 5),24, "move.go:28",#[],none⟩ ?_ rfl ?_ ab ?_;rotate_left
    ·(intro V ac;obtain⟨s1,s2,s3,s4,s5,s6⟩:=ac;clear s4 s5;go_simp;first|done|with_reducible rfl)
    (try simp only[aH,ZA,ZB,ZC]);refine tk 1 ⟨some 49,.load 28 (.tmp 6),28, "move.go:28",#[],none⟩ ?_ rfl ?_ ab ?_;rotate_left
    ·(intro V ac;obtain⟨s1,s2,s3,s4,s5,s6⟩:=ac;clear s4 s5;go_simp;first|done|with_reducible rfl)
    (try simp only[aH,ZA,ZB,ZC]);refine tk 2 ⟨some 50,.move (.tmp 2),29, "move.go:28",#[],none⟩ ?_ rfl ?_ ab ?_;rotate_left
    ·(intro V ac;obtain⟨s1,s2,s3,s4,s5,s6⟩:=ac;clear s4 s5;go_simp;first|done|with_reducible rfl)
    (try simp only[aH,ZA,ZB,ZC]);refine tk 4 ⟨some 52,.load 76 (.tmp 13),76, "move.go:28",#[],none⟩ (.agg PA) rfl ?_ ab ?_
    ·(intro V ac;exact Uz 76 _ rfl w2.heap.size rfl PA 76 ac.2.2.2.1 _ _ bY iA)
    (try simp only[aH,ZA,ZB,ZC]);refine tk 5 ⟨some 53,.load 76 (.tmp 16),76, "move.go:28",#[],none⟩ (.agg PC) rfl ?_ ab ?_
    ·(intro V ac;exact Uz 76 _ rfl z.heap.size rfl PC 76 ac.2.2.2.2.1 _ _ bY du)
    (try simp only[aH,ZA,ZB,ZC]);refine bJ (rs:=[3]) (by kernel_rfl) (by simp) ?_;refine AllReadyH.cons (o:=⟨some 51,.call { callee:=Callee.value (.func 47),args:=#[.tmp 50],argTypes:=#[29] },29, "move.go:28",#[⟨2,.data⟩],none⟩) rfl (λKQ hK=>?_) AllReadyH.nil;refine Yr (by kernel_rfl) 47 #[F la ln lc] (by kernel_rfl) (CC _ (Ze cp (Zh _))) ?_;rintro e V1 ⟨ji,jj,rfl,hF,gj,fi⟩;refine⟨_,rfl,?_⟩;have ah:ZD Y3 V1:=Ze (Zh Y3) fi;have fo:CoinsAt V1 ji ln C0:=hF _ (Gr.refl _ _);refine hK.out _ _ (KS _ ah) (λbb=>?_);clear hK KQ ab;have ab:=bb;clear bb;(try simp only[aH,ZA,ZB,ZC]);refine bJ (rs:=[6]) (by kernel_rfl) (by simp) ?_;refine AllReadyH.cons (o:=⟨some 54,.call { callee:=Callee.value (.func 46),args:=#[.tmp 48,.tmp 49,.tmp 51,.tmp 52,.tmp 53],argTypes:=#[24,28,29,76,76] },31, "move.go:28",#[⟨0,.data⟩,⟨1,.data⟩,⟨3,.data⟩,⟨4,.data⟩,⟨5,.data⟩,⟨3,.chain⟩],none⟩) rfl (λKQ hK=>?_) AllReadyH.nil;refine Yr (by kernel_rfl) 46 #[.agg #[F ka kn kc],.agg #[F a n c,F b m d],F ji ln jj,.agg PA,.agg PC] (by kernel_rfl) (DS V1 ji jj (Ze cp ah) fo gj) ?_;rintro e V2 ⟨oa,iy,oc,rfl,ew,gh,fj⟩;refine⟨_,rfl,?_⟩;have am:ZD Y3 V2:=Ze ah fj;refine hK.out _ _ (KS _ am) (λbb=>?_);clear hK KQ ab;have ab:=bb;clear bb;(try simp only[aH,ZA,ZB,ZC]);refine tk 7 ⟨some 47,.move (.tmp 54),31, "move.go:28",#[⟨6,.data⟩],none⟩ ?_ rfl ?_ ab ?_;rotate_left
    ·(intro W ac;go_simp;first|done|with_reducible rfl)
    (try simp only[aH,ZA,ZB,ZC]);refine tk 8 ⟨some 55,.extract (.tmp 47) 0,29, "move.go:28",#[⟨7,.data⟩],none⟩ ?_ rfl ?_ ab ?_;rotate_left
    ·(intro W ac;go_simp;first|done|with_reducible rfl)
    (try simp only[aH,ZA,ZB,ZC]);refine tk 9 ⟨some 56,.extract (.tmp 47) 1,30, "move.go:28",#[⟨7,.data⟩,⟨10,.gcOnly .lateStores⟩],none⟩ ?_ rfl ?_ ab ?_;rotate_left
    ·(intro W ac;go_simp;first|done|with_reducible rfl)
    (try simp only[aH,ZA,ZB,ZC]);refine tk 10 ⟨some 2,.assign (.tmp 55),29, "move.go:28",#[⟨8,.data⟩,⟨6,.chain⟩,⟨0,.phase⟩,⟨1,.phase⟩,⟨2,.phase⟩,⟨3,.phase⟩,⟨4,.phase⟩,⟨5,.phase⟩,⟨6,.phase⟩,⟨7,.phase⟩,⟨8,.phase⟩,⟨9,.textOnly .lateStores⟩],none⟩ ?_ rfl ?_ ab ?_;rotate_left
    ·(intro W ac;go_simp;first|done|with_reducible rfl)
    (try simp only[aH,ZA,ZB,ZC]);refine tk 11 ⟨some 14,.assign (.tmp 56),30, "move.go:28",#[⟨9,.data⟩,⟨10,.chain⟩,⟨0,.phase⟩,⟨1,.phase⟩,⟨2,.phase⟩,⟨3,.phase⟩,⟨4,.phase⟩,⟨5,.phase⟩,⟨6,.phase⟩,⟨7,.phase⟩,⟨8,.phase⟩,⟨9,.phase⟩,⟨10,.phase⟩],none⟩ ?_ rfl ?_ ab ?_;rotate_left
    ·(intro W ac;go_simp;first|done|with_reducible rfl)
    (try simp only[aH,ZA,ZB,ZC]);refine wpAnyH_done (by kernel_rfl) ?_ _;clear ab;have df:=Ze cp am;have z0:=ZE am Y0;have z1:=ZE am Y1;have c0:=Zd z0 0 _ rfl;have ip:=Zd z1 0 _ rfl;have iq:=Zd z1 1 _ rfl;have l1:=aA z1;have l0:=aA z0;have ia:=Zb (ZE am io);have ei:=Zb df;have D5:=Zb (CL V2 oa iy oc df ew gh);clear ah am fi fj fo hF gj ew df z0 z1 gh;by_cases dp:x3=0
    ·subst dp;have ak:Hid ((x4,C4)=(x,C')):=by have:=Za HX;rw[if_neg (λq=>q rfl),if_neg (λq=>q rfl),if_neg (λq=>q rfl),if_neg (λq=>q rfl)] at this;exact this
     go_wp2_with (refine Yu rfl 76 _ rfl _ rfl _ _ ia _ _ bY dv ?_)
     refine D5.mono ?_;rintro e w5 ⟨ra,rn,rc,cs,rfl,ey,gi,it,fh⟩;obtain⟨r1,r2⟩:=aX ak;subst r1 r2;have HF:Hid (CnR w w5 x4 C4 (dX (dY #[F ra rn rc,E J x4]))):=⟨ra,rn,rc,rfl,ey,gi,Ze az (Ze ei fh)⟩;clear ey gi it fh c0 ip iq l1 l0;go_wp2;go_ret2;exact Za HF
    ·have ak:Hid ((x3,([]:List Zf))=(x,C')):=(by have:=Za HX;rw[if_neg (λq=>q rfl),if_neg (λq=>q rfl),if_neg (λq=>q rfl),if_pos dp] at this;exact this);have gx:(x3 != 0)=true:=(by simp[dp]);go_wp2;go_ret2;exact Vo ak (Ze az ei)
   ·have ak:Hid ((y2,([]:List Zf))=(x,C')):=(by have:=Za HX;rw[if_neg (λq=>q rfl),if_neg (λq=>q rfl),if_pos dr] at this;exact this);have gy:(y2 != 0)=true:=by simp[dr]
    go_wp2_with (refine Zu rfl 76 _ _ rfl _ rfl _ _ rfl _ eo iB sB oB ?_;rw[Za eh])
    go_ret2;exact Vo ak (Ze az ek)
  ·have ak:Hid ((y,([]:List Zf))=(x,C')):=(by have:=Za HX;rw[if_neg (λq=>q rfl),if_pos hy] at this;exact this);have gy:(y != 0)=true:=by simp[hy]
   go_wp2_with (refine Zu rfl 76 _ _ rfl _ rfl _ _ rfl _ en iA sA oA ?_;rw[Za EY])
   go_ret2;exact Vo ak (Ze az ej)
 ·have ak:Hid ((jk,([]:List Zf))=(x,C')):=by have:=Za HX;rw[if_pos dt] at this;exact this
  have gz:(jk != 0)=true:=by simp[dt]
  have HW:=Zb (Ze az ah);clear ah gl;go_wp2;go_ret2;exact Vo ak HW
