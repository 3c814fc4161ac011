import Derived.Test.YtpikejjiignchaaGreatDoorH
import Derived.Test.YtpikejjiignchaaGreatDoorG18
import Derived.Test.YtpikejjiignchaaGreatDoorG32
import Derived.Test.YtpikejjiignchaaGreatDoorG33
open Bool renaming and_eq_true->bL,noConfusion->dE
open Go renaming heap_alloc_new->aK,lt_of_block->aA,bodyPost_ret->aR,maxLen->cD,wpAnyH_ready->bJ
open Go.Act renaming put->aH
open Go.Ending renaming returned->dX
open Go.Exit renaming inBlock->aO
open Go.IntKind renaming i64->J
open Go.Obj renaming cells->dW
open Go.Proofs.Tryz renaming prog->aB,underlying29->bR
open Go.RowKit.Below renaming heap_alloc->bH
open Go.Value renaming int->E,slice->F,tuple->dY,bool->eA
open Go.World renaming block_lt_of_cell?->aC
open Go.World.ownsRow renaming cellAt->bD
open List renaming getElem?_eq_some_iff->cU,length_take->bG,length_map->dF,getElem_mem->bK,map_append->bW,length_append->bB,mem_append->cI,mem_singleton->dN
open Nat renaming zero_le->aP,le_succ->bZ,le_trans->aT,le_refl->aE,lt_of_lt_of_le->aI
open Prod.mk renaming inj->aX
set_option maxHeartbeats 12800000
set_option maxRecDepth 10000
namespace Go.Proofs.YtpikejjiignchaaGreatDoor
open Go.RowKit
structure ApS(w Y:World)(ub:Nat)(wr:World)(v sv:Value)(K SK:List CV):Prop where
 rest:wr.ownsRow Y.heap.size 103 6 v K.length (Zk K)
 box:wr.heap[ub]? = some (dW #[sv] 130 (0,0))
 spent:wr.ownsRow Y.heap.size 103 6 sv SK.length (Zk SK)
 lks:∀ x,x∈K\/x∈SK->LkAt w x/\ck1 x.1=0
 srt:Srt (K.map (·.1))
 gr:Gr Y wr (λq=>q=ub)
 apart:∀ b,v.ownBlock=some b->sv.ownBlock≠some b
structure A2(w w5:World)(B:Nat)(wr:World)(v:Value)(K:List CV):Prop where
 own:wr.ownsRow B 103 6 v K.length (Zk K)
 lks:∀ x∈K,LkAt w x
 bel:ZD w5 wr
def SAo(z:World)(b:Nat)(ov:Int)(O:Option Addr)(ln lc:Nat)(name:Int)(j:Nat)(W:World):Prop:=
 W.cell? ⟨b,0,none⟩=some (E J ov)/\W.cell? ⟨b,1,none⟩=some (F O ln lc)/\W.cell? ⟨b+1,0,none⟩=some (E J name)/\W.cell? ⟨b+1,1,none⟩=some (E J j)/\b+1<W.heap.size/\ZD z W
theorem Xl{w:World}{base:Nat}{e:TypeId}{size:Nat}{v:Value}{n:Nat}{xs}(h:w.ownsRow base e size v n xs){k:Nat}{cs}{t:TypeId}(z:w.heap[k]? = some (dW cs t (0,0)))(ht:t≠e):v.ownBlock≠some k:=by
 intro O;obtain⟨_,⟨rfl,_⟩|⟨g,cap,ad,rfl,_,hh,_⟩⟩:=h
 ·cases O
 ·have e2:g=k:=by injection O
  subst e2;rw[hh] at z;injection z with z;injection z with _ z;exact ht z.symm
theorem Ll{W:World}{base g cap:Nat}{K:List CV}(z:W.ownsRow base 103 6 (F (some ⟨g,0,none⟩) K.length cap) K.length (Zk K))(j rc:Nat)(hj:j+1<=K.length)(hr:K.length<=rc)(O:Addr)(hy:rc≠j+1->O=⟨g,(j+1)*6,none⟩) :
  (∀ i u,(Zk (K.take j))[i]? = some u->W.cell? ((⟨g,0,none⟩:Addr).add i)=some u)/\(∀ i u,(Zk (K.drop (j+1)))[i]? = some u->W.cell? (O.add i)=some u):=by
 constructor
 ·intro i u h
  have hi:i<j*6:=by
   have:=(cU.1 h).1;rw[Z9,bG] at this;omega
  rw[<-Uk,List.getElem?_take_of_lt hi] at h;rw[Addr.add_lit,Nat.zero_add,bD z i (by omega)];exact h
 ·intro i u h;have hi:=(cU.1 h).1;rw[Z9,List.length_drop] at hi;rw[<-Ul,List.getElem?_drop] at h;rw[hy (by omega),Addr.add_lit,bD z _ (by omega)];exact h
theorem Kn{l k}{h:Int}(h1:chk l=0)(h2:chk k=0)(h3:hOk h=true):Ua l k h=Xi l k h:=by
 unfold Xi Ua V7;rw[if_pos h1,if_pos h2,if_pos h3,decide_eq_true rfl,Bool.true_and];rfl
theorem Zme{h:Int}(h1:¬h<1)(h2:¬1000<h):hOk h=true:=by
 unfold hOk;simp only[bL,decide_eq_true_eq];omega
theorem Cc:∀ {pre I:List InD},Yd pre I=0->∀ x∈I,chk x.2.2=0
 | _,[],_=>λx z=>by cases z
 | pre,y :: r,h=>λx z=>by
  unfold Yd at h;split at h
  ·rename_i q
   rcases List.mem_cons.1 z with rfl|z
   ·unfold Vd at q;split at q
    ·cases q
    ·split at q
     ·rename_i O;exact absurd q O
     ·rename_i O;simpa using O
   ·exact Cc h x z
  ·rename_i q;exact absurd h q
theorem Zje(a n c L)(h:Int)(ai ao ni ci no co I vr)(name ht:Int)(x:Int)(M S w)(hL:CoinsAt w a n L)(sL:SlOk a n c)(hI:InsAt w ai ni I)(hO:OutsAt w ao no vr)(iv:Zy L)(iw:Zr (h,I,vr)=0)(z:apD L (h,I,vr) name ht=(x,M,S))(n1:¬name<1)(n2:¬120<name)(n3:¬ht<1)(n4:¬1000<ht)(hr:ni≠0) :
  Calls aB 60 #[F a n c,.agg #[E J h,F ai ni ci,F ao no co],E J name,E J ht] w λe w'=>ApR w w' x M S e:=by
 obtain⟨X0,eh⟩:=ZG ((w.alloc (dW #[E J h,F ai ni ci,F ao no co] 52)).alloc (dW #[F none 0 0] 130));have gi:ZD w X0:=by rw[eh];exact Ze (Zg _ _) (Zg _ _)
 have ei:X0.heap[w.heap.size]? = some (dW [E J h,F ai ni ci,F ao no co].toArray 52 (0,0)):=by
  rw[eh,bH _ _ _ (by simp)];exact Zs _ _ _ _ _
 have kn:X0.heap[w.heap.size+1]? = some (dW [F none 0 0].toArray 130 (0,0)):=by
  rw[eh];have:=aK (w.alloc (dW #[E J h,F ai ni ci,F ao no co] 52)) (dW #[F none 0 0] 130);rw[show (w.alloc (dW #[E J h,F ai ni ci,F ao no co] 52)).heap.size=w.heap.size+1 by simp] at this;exact this
 obtain⟨⟨x2,S2,M2⟩,h2⟩:=ZF (Zp ht I [] L);obtain⟨x3,h3⟩:=ZF (Di S2 (h,I,vr));have hR:isR (h,I,vr)=false:=by unfold isR;rw[hI.1];exact decide_eq_false hr
 obtain⟨⟨x4,M4⟩,h4⟩:=ZF (Yh name ht false 0 vr M2);obtain⟨x5,h5⟩:=ZF (Zo M4);rw[Ec (Dm iv iw (by unfold okN okH;simp only[bL,decide_eq_true_eq];omega) (by rw[hR];intro q;exact dE q.1)) h2 h3 (by rw[hR];exact h4) h5,if_neg (by decide)] at z;obtain⟨t1,t2,t3,_,tI,_⟩:=Y9 iw;have vf:ni<=6:=by rw[<-hI.1];exact t1
 have sn:no<=6:=by rw[<-hO.1];exact t2
 have hn:n<=720:=by rw[<-hL.1];exact iv.len
 have ri:=Zb (Rl iw);have rm:=Zb hR;have rd:=Zb (Cc tI);have il:=Zb (Zme n3 n4);obtain⟨Y,hY⟩:=ZG (X0.alloc (dW #[F none 0 0] 130));have ek:ZD X0 Y:=by rw[hY];exact Zg _ _
 have ko:Y.heap[X0.heap.size]? = some (dW #[F none 0 0] 130 (0,0)):=by rw[hY];exact aK _ _
 have ow:X0.heap.size=w.heap.size+1+1:=by rw[eh];simp
 have ox:Y.heap.size=w.heap.size+1+1+1:=by rw[hY];simp[ow]
 rw[ow] at ko;have C1:=Zb (Qd a n c L w Y (Ze gi ek) (by omega) hL sL);have HI:=Zb (λw' (hb:ZD X0 w')=>(hI.later gi).later hb);have HO:=Zb (λw' (hb:ZD X0 w')=>(hO.later gi).later hb);have rj:=Zb hO;have qx:=Zb gi;have ns:=Zb ek;have rt:=Zb ei;have aw:=Zb kn;have ru:=Zb ko;have H2:=Zb h2;have H3:=Zb h3;have H4:=Zb h4;have H5:=Zb h5;have HX:=Zb z;have ju:=Zb iv;have oa:=Zb hI.1;have ob:=Zb hO.1;have tt:=Zb hL.1;have qg:=Zd ei 0 _ rfl;have qh:=Zd ei 1 _ rfl;have qi:=Zd ei 2 _ rfl;have xl:=aA ei;have tx:w.heap.size+1<X0.heap.size:=aA kn;have ti:=Zc ek qg;have qk:=Zc ek qh;have tj:=Zc ek qi;have g0:((ni:Int) == 0)=false:=by simp;omega
 have g1:¬(ni:Int)=0:=by omega
 clear hr;clear hL sL hI hO iv iw z ei kn gi ek ko h2 h3 h4 h5 hR t1 t2 t3 tI;go_enter Tryz.func60,Tryz.ntmps60;go_wp2_with fail;rw[<-eh];clear eh;go_wp2_with fail;rw[<-hY];clear hY;refine C1.mono ?_;rintro e w2 ⟨v,K,rfl,gb,cf,ho,bh⟩;have xb:=Zc bh qk;have th:=aC _ _ xb
 have ST:Hid (ApS w Y (w.heap.size+1+1) w2 v (F none 0 0) K []):=by
  refine⟨ho,(bh.block _ (by omega)).trans ru,⟨rfl,.inl ⟨rfl,rfl⟩⟩,λx z=>?_,by rw[gb];exact ju.srt,Gr.of bh,λ_ _ e=>by cases e⟩
  rcases z with z|z
  ·exact⟨cf x z,ju.one x.1 (by rw[<-gb];exact List.mem_map_of_mem z)⟩
  ·cases z
 have EQ:Hid (Zp ht (I.drop 0) (([]:List CV).map (·.1)) (K.map (·.1))=(x2,S2,M2)):=by show _=_;rw[gb];exact Za H2
 have LN:Hid (K.length<=720):=by show _<=_;rw[<-dF (f:=λ(x:CV)=>x.1),gb];exact ju.len
 clear gb cf ho bh ti qk tj qg qh qi;go_wp2
 go_loopw [14,63] (λrv i wr=>∃ (k:Nat) (K SK:List CV) (sv:Value),k<=ni/\i = E J k/\Hid (SK.length=k)/\Hid (K.length<=720)/\Hid (ApS w Y (w.heap.size+1+1) wr rv sv K SK)/\Hid (Zp ht (I.drop k) (SK.map (·.1)) (K.map (·.1))=(x2,S2,M2))) (λ_ i _=>ni - (intOf i).toNat)
 case atStart=>exact⟨0,K,[],_,aP _,rfl,rfl,LN,ST,EQ⟩
 case round=>
  clear xb th;obtain⟨k,K,SK,sv,hk,rfl,fh,cn,HS,HE⟩:=hrel;have eg:ZD X0 wr:=HS.gr.below ns ns.size (λq e=>by omega);have tn:=Zb eg;have fe:=Zb (Ze qx eg);have BU:=Zb (ZE eg aw);have BT:=Zb (ZE eg rt);by_cases iz:k<ni
  ·have cf:k<I.length:=(by rw[Za oa];exact iz);obtain⟨ib,io,rfl,_,pc⟩:=(HI wr eg).2 (by omega);have pg:=pc k cf;obtain⟨q,hq⟩:=ZF (I[k]);have SN:=Zb (λds=>P8 ht I k cf (SK.map (·.1)) (K.map (·.1)) ds);have pv:q∈I:=hq ▸ bK cf;have gs:=rd q pv;rw[hq] at pg SN;obtain⟨p1,p2,vy⟩:=q;obtain⟨i0,i1,wa,wd,wb,i2,qa,vh⟩:=pg;simp only at i0 i1 i2 qa SN gs;have ja:∀ x∈K,LkAt wr x:=λx z=>(HS.lks x (.inl z)).1.later fe;obtain⟨vs,rc,rfl,dl,ld⟩:=Zx HS.rest ja;obtain⟨W1,bz⟩:=ZG (wr.alloc (dW #[E J p1,E J p2,F wa wd wb] 124));have dh:ZD wr W1:=(by rw[bz];exact Zg _ _);obtain⟨vx,hz⟩:=ZF (plc (p1,p2) (K.map (·.1)) 0);have CP:=Zb (Qo vs K.length rc (K.map (·.1)) (p1,p2) vx W1 (by have:=Za cn;omega) (dl.later dh) hz);have jp:=Zb dh;have tq:=Zb dl;have wm:ib<wr.heap.size:=aC _ _ i0;clear dh dl pc pv;go_wp2_with fail;rw[<-bz];go_wp2_with fail;refine CP.mono ?_;rintro e W2 ⟨rfl,bh⟩;have bw:=Zb (Ze jp bh);have np:=Zb (Ze fe bw);have ii:=Zb (ZE bw BU)
   have IB:Hid (W2.heap[wr.heap.size]? = some (dW [E J p1,E J p2,F wa wd wb].toArray 124 (0,0))):=by
    show _=_;have e:W1.heap[wr.heap.size]? = some (dW [E J p1,E J p2,F wa wd wb].toArray 124 (0,0)):=(by rw[bz];exact Zs _ _ _ _ _);exact ZE bh e
   clear bh bz i0 i1 i2
   rcases J0 (p1,p2) (K.map (·.1)) 0 with ⟨ap,az⟩|⟨j,hj,ap,az,jb⟩
   ·obtain rfl:vx = -1:=hz.symm.trans ap
    have be:Hid ((x,M,S)=((7:Int),([]:List Zf),([]:List Zf))/\w.heap.size<=w.heap.size+1):=by
     have e:=SN (Eo az);rw[Za HE] at e;obtain⟨rfl,_⟩:=aX e;exact⟨HX.symm.trans (if_pos (by decide)),bZ _⟩
    clear hz ap az;have CF:=Zb (Y5 7 W2);go_wp2_with fail;refine CF.mono ?_;rintro e wf ⟨rfl,aj⟩;have ah:=Zb (ZE aj ii);have bd:=Zb (Ze np aj);have ew:=Zd ah 0 _ rfl;have ey:=Zi ah 0;have ez:=aA ah;clear aj;go_wp2;(try simp only[aO,Exit.then]);refine aR (v:=dY #[F none 0 0,.agg #[F none 0 0],E J 7]) ?_ rfl ?_
    ·rw[Zn rfl];go_simp
    ·exact (Wn be bd).plain
   ·have kx:vx=(j:Int):=(by rw[<-hz,ap];simp);subst kx;clear hz ap jb;have ph:j<K.length:=(by simpa using hj);have TK:=Zb (Hb HS.srt j hj az);obtain⟨wg,kr⟩:=ZF (K[j]);have pe:wg∈K:=kr ▸ bK ph
    obtain⟨g,rfl⟩:∃ g,vs=some ⟨g,0,none⟩:=by
     rcases HS.rest.2 with ⟨e,q⟩|⟨g,cap,tu,e,_⟩
     ·omega
     ·exact⟨g,by injection e⟩
    have ip:=Zb ((Gr.of (S:=λ_=>False) bw).own HS.rest (λ_ _ q=>q));obtain⟨f0,f1,f2,f3,f4,f5⟩:=Qy K j ph;have vu:=λu (hu:u<6)=>bD ip (j*6+u) (by omega);have m0:=(vu 0 (by decide)).trans f0;rw[Nat.add_zero] at m0;have m1:=(vu 1 (by decide)).trans f1;have m2:=(vu 2 (by decide)).trans f2;have m3:=(vu 3 (by decide)).trans f3;have m4:=(vu 4 (by decide)).trans f4;have m5:=(vu 5 (by decide)).trans f5;have pd:=HS.lks wg (.inl pe);have SL:=Zb (λM1 c1 ds hl=>P9 ht I k cf (SK.map (·.1)) (K.map (·.1)) M1 c1 ds hl);have SY:=Zb (λM1 c1 ds hl ho=>Kf ht I k cf (SK.map (·.1)) (K.map (·.1)) M1 c1 ds hl ho);have SO:=Zb (λM1 c1 ds hl ho=>Mm ht I k cf (SK.map (·.1)) (K.map (·.1)) M1 c1 ds hl ho);rw[List.getElem_map,kr] at TK;rw[kr] at m0 m1 m2 m3 m4 m5;have nt:=Zb pd;obtain⟨⟨c1,c2,vv,lk,hg,wh⟩,vp,ln,vq⟩:=wg;simp only[cv,ch,cr] at m0 m1 m2 m3 m4 m5;obtain⟨W3,gd⟩:=ZG (W2.alloc (dW #[E J c1,E J c2,E J vv,F vp ln vq,E J hg,eA wh] 103));have gl:ZD W2 W3:=(by rw[gd];exact Zg _ _);have CB:Hid (W3.heap[W2.heap.size]? = some (dW [E J c1,E J c2,E J vv,F vp ln vq,E J hg,eA wh].toArray 103 (0,0))):=(by show _=_;rw[gd];exact aK _ _);have jq:=Zb (Ze bw gl);have ik:=Zb (Ze np gl);have jk:=Zb (ZE gl ii);have eb:=Zb (ZE gl IB);obtain⟨⟨lO,lS⟩,pa⟩:=pd;simp only[ck] at lO lS;have ap:=Wp pa;simp only[cv,ch,ck] at ap;have LO:=Zb (lO.later ik);have KO:=Zb (qa.later jq)
    have wl:g<W2.heap.size:=aC _ _ m0;have vc:(j:Int)<(K.length:Int):=(by omega);have iy:=ap.2.2.2.2.2.2.2.2;have vb:1<=hg/\hg<=1000:=⟨ap.2.2.2.2.2.2.1,ap.2.2.2.2.2.2.2.1⟩;clear gl f0 f1 f2 f3 f4 f5 vu pe lO ap pa az;cases wh with
    | true=>
     by_cases qb:ht<hg+2
     ·have be:Hid ((x,M,S)=((10:Int),([]:List Zf),([]:List Zf))/\w.heap.size<=w.heap.size+1):=by
       have e:=SL _ _ (by rw[hq];exact Za TK) (by exact⟨rfl,qb⟩);rw[Za HE] at e;obtain⟨rfl,_⟩:=aX e;exact⟨HX.symm.trans (if_pos (by decide)),bZ _⟩
      have q4:=Zd CB 4 _ rfl;have q5:=Zd CB 5 _ rfl;have ql:=aA CB;go_wp2_with fail;rw[<-gd];have CF:=Zb (Y5 10 W3);go_wp2_with fail;refine CF.mono ?_;rintro e wf ⟨rfl,aj⟩;have ah:=Zb (ZE aj jk);have bd:=Zb (Ze ik aj);have ew:=Zd ah 0 _ rfl;have ey:=Zi ah 0;have ez:=aA ah;clear aj;go_wp2;(try simp only[aO,Exit.then]);refine aR (v:=dY #[F none 0 0,.agg #[F none 0 0],E J 10]) ?_ rfl ?_
      ·rw[Zn rfl];go_simp
      ·exact (Wn be bd).plain
     ·have NL:Hid (¬(cr ((c1,c2,vv,lk,hg,true):Zf)=true/\ht<ch ((c1,c2,vv,lk,hg,true):Zf)+2)):=λq=>qb q.2;have OB:∃ vt,Ua lk vy ht=vt:=⟨_,rfl⟩;obtain⟨vt,dr⟩:=OB;have C5:=Zb (Nk vp wa ln vq wd wb lk vy ht W3 LO KO iy gs il);rw[dr] at C5;have fk:Hid (Xi lk vy ht=vt):=(by show _=_;rw[<-Kn iy gs (Za il)];exact dr);clear dr;have q1:=Zd CB 1 _ rfl;have q2:=Zd CB 2 _ rfl;have q3:=Zd CB 3 _ rfl;have q4:=Zd CB 4 _ rfl;have q5:=Zd CB 5 _ rfl;have q0:=Zd CB 0 _ rfl;have ql:=aA CB;have r2:=Zd eb 2 _ rfl;have r0:=Zd eb 0 _ rfl;have we:=aA eb;have s2:=Zd IB 2 _ rfl;have wi:=aA IB;go_wp2_with fail;rw[<-gd];go_wp2_with fail;refine C5.mono ?_;rintro e W4 ⟨rfl,bs⟩;have bn:=Zb (Ze jq bs);have jr:=Zb (Ze ik bs);have jl:=Zb (ZE bs jk);have ay:=Zb (ZE bs CB);clear bs q0 q1 q2 q3 q4 q5 ql r0 r2 we s2 wi m0 m1 m2 m3 m4 m5;cases vt with
      | false=>
       have be:Hid ((x,M,S)=((8:Int),([]:List Zf),([]:List Zf))/\w.heap.size<=w.heap.size+1):=by
        have e:=SY _ _ (by rw[hq];exact Za TK) NL (by rw[hq];exact Za fk);rw[Za HE] at e;obtain⟨rfl,_⟩:=aX e;exact⟨HX.symm.trans (if_pos (by decide)),bZ _⟩
       have CF:=Zb (Y5 8 W4);go_wp2_with fail;refine CF.mono ?_;rintro e wf ⟨rfl,aj⟩;have ah:=Zb (ZE aj jl);have bd:=Zb (Ze jr aj);have ew:=Zd ah 0 _ rfl;have ey:=Zi ah 0;have ez:=aA ah;clear aj;go_wp2;(try simp only[aO,Exit.then]);refine aR (v:=dY #[F none 0 0,.agg #[F none 0 0],E J 8]) ?_ rfl ?_
       ·rw[Zn rfl];go_simp
       ·exact (Wn be bd).plain
      | true=>
       have ct:=Zb (ZE bn HS.box);have fv:=(Gr.of (S:=λ_=>False) bn).own HS.spent (λ_ _ q=>q);have kb:=Zb ((Gr.of (S:=λ_=>False) bn).own HS.rest (λ_ _ q=>q));have bi:=Zg W4 (dW #[E J c1,E J c2,E J vv,F vp ln vq,E J hg,eA true] 103);have dc:=Zb ((Gr.of (S:=λ_=>False) bi).own fv (λ_ _ q=>q));have kc:=Zb ((Gr.of (S:=λ_=>False) bi).own kb (λ_ _ q=>q));have cu:=Zb (ZE bi ct);have ka:=Zb (World.news_of_block (aK W4 (dW #[E J c1,E J c2,E J vv,F vp ln vq,E J hg,eA true] 103)));have cm:=Zb (Ze bn bi);have YS:Y.heap.size<=(W4.alloc (dW #[E J c1,E J c2,E J vv,F vp ln vq,E J hg,eA true] 103)).heap.size:=aT HS.gr.size (aT bn.size bi.size);have rz:SK.length<=6:=(by have:=Za fh;omega);obtain⟨i0,hi,gw,ap,az⟩:=info_parts Tryz.infoCoin;have u0:=Zd ct 0 _ rfl;have ul:=aA ct;have v0:=Zd ay 0 _ rfl;have v1:=Zd ay 1 _ rfl;have v2:=Zd ay 2 _ rfl;have v3:=Zd ay 3 _ rfl;have v4:=Zd ay 4 _ rfl;have v5:=Zd ay 5 _ rfl;have vl:=aA ay;clear bi fv
       go_wp2_with (at_builtin;refine wpList_append_lies _ rfl _ _ 29 rfl Y.heap.size 103 i0 zeroC 6 64 bR hi gw ap az rfl (by decide) _ _ _ rfl dc ⟨W4.heap.size,0,none⟩ 1 1 [E J c1,E J c2,E J vv,F vp ln vq,E J hg,eA true] rfl rfl ka (λu hu=>by simp at hu;rcases hu with rfl|rfl|rfl|rfl|rfl|rfl <;> rfl) (by decide) (by unfold cD;omega) (by omega) YS _ rfl ?_;intro g7 df w7 gq dm kz _;have bt:=(dm.block (w.heap.size+1+1) (aA cu) (λe=>Xl dc cu (by decide) e.symm)).trans cu;have da:=Zb bt;have fj:=Zb gq;have fg:=Zb dm;have ly:=Zd bt 0 _ rfl;have na:=aA bt;have lz:=Zi bt 0;clear bt gq dm kz)
       obtain⟨W8,bq⟩:=ZG (w7.setCell ⟨w.heap.size+1+1,0,none⟩ (F (some ⟨g7,0,none⟩) (SK.length+1) df));have G7:Gr (W4.alloc (dW #[E J c1,E J c2,E J vv,F vp ln vq,E J hg,eA true] 103)) w7 (λq=>sv.ownBlock=some q):=(Gr.refl _ _).grown fg (λq e=>.inl e);have db:=G7.own kc (λq e=>HS.apart q e);have G8:Gr w7 W8 (λq=>q=w.heap.size+1+1):=(by rw[bq];exact (Gr.refl w7 (λq=>q=w.heap.size+1+1)).set (p:=⟨w.heap.size+1+1,0,none⟩) (.inl rfl) _);have ft:=Zb (G8.own db (λq e e2=>Xl db da (by decide) (by rw[<-e2];exact e)));have fw:=Zb (G8.own fj (λq e e2=>Xl fj da (by decide) (by rw[<-e2];exact e)));have jm:Hid (W8.heap[w.heap.size+1+1]? = some (dW #[F (some ⟨g7,0,none⟩) (SK.length+1) df] 130 (0,0))):=by show _=_;rw[bq];exact Yz da
       have fd:Hid (Gr Y W8 (λq=>q=w.heap.size+1+1)):=by
        have e1:=((HS.gr.on cm).grown fg (λq e=>.inr (Y6 dc q e)));show Gr _ _ _;rw[bq];exact e1.set (p:=⟨w.heap.size+1+1,0,none⟩) (.inl rfl) _
       have qr:Hid (g<W8.heap.size):=ft.lt g rfl |>.2;have km:K.length<=rc:=ld.1;rw[<-bq];clear bq G7 db G8 ly na lz u0 ul v0 v1 v2 v3 v4 v5 vl;have rl:=Zb (Zh W8);have kw:j<=rc:=(by omega);have su:IntKind.i64.wrap ((j:Int)+1)=((j+1:Nat):Int):=(by have:=Za cn;rw[IntKind.wrap_i64];omega);have kv:j+1<=K.length:=(by omega);have sl:j+1<=rc:=by omega
       obtain⟨ya,gu,gv⟩:∃ ya:Addr,(if rc=j+1 then some (⟨g,0,none⟩:Addr) else some ⟨g,(j+1)*6,none⟩)=some ya/\(rc≠j+1->ya=⟨g,(j+1)*6,none⟩):=by
        by_cases e:rc=j+1
        ·exact⟨⟨g,0,none⟩,if_pos e,λq=>absurd e q⟩
        ·exact⟨⟨g,(j+1)*6,none⟩,if_neg e,λ_=>rfl⟩
       have jx:=Zb gu;have jy:=Zb gv;clear gu gv;refine wp_region_held_drew (S:=λW=>ZD W8 W) (by kernel_rfl) (Zh _) (λO=>?_);refine Zt 0 ⟨some 115,.move (.tmp 14),29, "second.go:99",#[],none⟩ ?_ rfl ?_ O ?_;rotate_left
       ·(intro W af;go_simp;first|done|with_reducible rfl)
       (try simp only[aH,ZA,ZB,ZC]);refine Zt 1 ⟨some 116,.move (.tmp 17),3, "second.go:99",#[],none⟩ ?_ rfl ?_ O ?_;rotate_left
       ·(intro W af;go_simp;first|done|with_reducible rfl)
       (try simp only[aH,ZA,ZB,ZC]);refine Zt 2 ⟨some 117,.slice 29 (.tmp 115) none (some (.tmp 116)) none,29, "second.go:99",#[⟨0,.data⟩,⟨1,.data⟩],none⟩ (F (some ⟨g,0,none⟩) j rc) rfl ?_ O ?_
       ·(intro W af;go_simp;first|done|rw[if_pos kw])
       (try simp only[aH,ZA,ZB,ZC]);refine Zt 3 ⟨some 118,.move (.tmp 14),29, "second.go:99",#[],none⟩ ?_ rfl ?_ O ?_;rotate_left
       ·(intro W af;go_simp;first|done|with_reducible rfl)
       (try simp only[aH,ZA,ZB,ZC]);refine Zt 4 ⟨some 119,.move (.tmp 17),3, "second.go:99",#[],none⟩ ?_ rfl ?_ O ?_;rotate_left
       ·(intro W af;go_simp;first|done|with_reducible rfl)
       (try simp only[aH,ZA,ZB,ZC]);refine Zt 5 ⟨some 120,.binOp BinOp.add 3 (.tmp 119) (.const (Value.int IntKind.i64 1)) 3,3, "second.go:99",#[⟨4,.data⟩],none⟩ ?_ rfl ?_ O ?_;rotate_left
       ·(intro W af;go_simp;first|done|with_reducible rfl)
       (try simp only[aH,ZA,ZB,ZC]);refine Zt 6 ⟨some 121,.slice 29 (.tmp 118) (some (.tmp 120)) none none,29, "second.go:99",#[⟨3,.data⟩,⟨5,.data⟩],none⟩ (F (some ya) (K.length - (j+1)) (rc - (j+1))) rfl ?_ O ?_
       ·(intro W af;go_simp;rw[if_pos ⟨by omega,by omega⟩,Za jx])
       (try simp only[aH,ZA,ZB,ZC]);obtain⟨W9,br⟩:=ZG ((W8.alloc (dW #[F (some ⟨g,0,none⟩) j rc,F (some ya) (K.length - (j+1)) (rc - (j+1))] 29)).drew);have di:ZD W8 W9:=(by rw[br];exact Ze (Zg W8 _) (Zh _));have vw:W9.heap[W8.heap.size]? = some (dW [F (some ⟨g,0,none⟩) j rc,F (some ya) (K.length - (j+1)) (rc - (j+1))].toArray 29 (0,0)):=(by rw[br];exact aK _ _);have fu:=(Gr.of (S:=λ_=>False) di).own ft (λ_ _ q=>q);obtain⟨cl1,cl2⟩:=Ll fu j rc kv km ya jy;have CC:=Zb (Lc W8.heap.size ⟨g,0,none⟩ ya j rc (K.length - (j+1)) (rc - (j+1)) (K.take j) (K.drop (j+1)) W9 (by have:=Za cn;omega) (by rw[bG];omega) (by rw[List.length_drop]) cl1 cl2 (Zd vw 0 _ rfl) (Zd vw 1 _ rfl));have cx:=Zb di;clear cl1 cl2 fu vw di;refine bJ (rs:=[7]) (by kernel_rfl) (by simp) ?_;refine AllReadyH.cons (o:=⟨some 122,.buildSlice 230 2 #[(0,.tmp 117),(1,.tmp 121)],230, "second.go:99",#[⟨2,.data⟩,⟨6,.data⟩],none⟩) rfl (λK0 hK=>?_) AllReadyH.nil;go_simp
       (first|rw[<-br]|(rw[show (W8.drew).alloc (dW #[F (some ⟨g,0,none⟩) j rc,F (some ya) (K.length - (j+1)) (rc - (j+1))] 29)=W9 from br.symm]))
       refine hK.out _ _ cx (λam=>?_);clear hK K0 O br;have O:=am;clear am;(try simp only[aH,ZA,ZB,ZC]);refine bJ (rs:=[8]) (by kernel_rfl) (by simp) ?_;refine AllReadyH.cons (o:=⟨some 123,.call { callee:=Callee.value (.func 112),args:=#[.tmp 122],argTypes:=#[230] },29, "second.go:99",#[⟨7,.data⟩],none⟩) rfl (λK0 hK=>?_) AllReadyH.nil;refine Yr (by kernel_rfl) 112 #[F (some ⟨W8.heap.size,0,none⟩) 2 2] (by kernel_rfl) CC ?_;rintro e kg ⟨lr,rfl,gp,gj⟩;refine⟨_,rfl,?_⟩;have cc:=Zb (Ze cx gj);have fi:=Zb gp;have S9:=cx.size;clear gp gj;refine hK.out _ _ cc (λam=>?_);clear hK K0 O;have O:=am;clear am;(try simp only[aH,ZA,ZB,ZC]);refine Zt 9 ⟨some 14,.assign (.tmp 123),29, "second.go:99",#[⟨8,.data⟩,⟨8,.chain⟩,⟨0,.phase⟩,⟨1,.phase⟩,⟨2,.phase⟩,⟨3,.phase⟩,⟨4,.phase⟩,⟨5,.phase⟩,⟨6,.phase⟩,⟨7,.phase⟩,⟨8,.phase⟩],none⟩ ?_ rfl ?_ O ?_;rotate_left
       ·(intro W af;go_simp;first|done|with_reducible rfl)
       (try simp only[aH,ZA,ZB,ZC]);refine wpAnyH_done (by kernel_rfl) ?_ _;clear O;have dn:∀ (A:List CV),(A.take j++A.drop (j+1)).map (·.1)=(A.map (·.1)).take j++(A.map (·.1)).drop (j+1):=λA=>by rw[bW,List.map_take,List.map_drop]
       have dq:(K.take j++K.drop (j+1)).length=j+(K.length - (j+1)):=by rw[bB,bG,List.length_drop];omega
       have AS:Hid (ApS w Y (w.heap.size+1+1) kg lr (F (some ⟨g7,0,none⟩) (SK.length+1) df) (K.take j++K.drop (j+1)) (SK++[(((c1,c2,vv,lk,hg,true):Zf),vp,ln,vq)])):=by
        have la:=(Gr.of (S:=λ_=>False) cc).own fw (λ_ _ q=>q);refine⟨?_,ZE cc jm,?_,λx z=>?_,?_,fd.on cc,λb e e2=>?_⟩
        ·rw[dq];exact J2 fi (aT fd.size S9)
        ·rw[bB,Z0];exact la
        ·rcases z with z|z
         ·rcases cI.1 z with z|z
          ·exact HS.lks x (.inl (List.mem_of_mem_take z))
          ·exact HS.lks x (.inl (List.mem_of_mem_drop z))
         ·rcases cI.1 z with z|z
          ·exact HS.lks x (.inr z)
          ·rw[dN.1 z];exact Za nt
        ·rw[dn];exact Jt TK HS.srt
        ·have q1:=Y6 fi b e;have q2:=(fw.lt g7 rfl).2;have q3:g7=b:=(by injection e2);omega
       have ff:Hid (Zp ht (I.drop (k+1)) ((SK++[(((c1,c2,vv,lk,hg,true):Zf),vp,ln,vq)]).map (·.1)) ((K.take j++K.drop (j+1)).map (·.1))=(x2,S2,M2)):=by
        have e:=SO _ _ (by rw[hq];exact Za TK) NL (by rw[hq];exact Za fk);rw[Za HE] at e;show _=_;rw[dn,bW];exact e.symm
       have L2:Hid ((SK++[(((c1,c2,vv,lk,hg,true):Zf),vp,ln,vq)]).length=k+1):=(by show _=_;rw[bB,Za fh];rfl);have L3:Hid ((K.take j++K.drop (j+1)).length<=720):=(by show _<=_;rw[dq];have:=Za cn;omega);clear dn dq;go_wp2;go_roundw
       case rel=>first|exact⟨k+1,_,_,_,by omega,by go_num,L2,L3,AS,ff⟩|((repeat apply Exists.intro);refine⟨?_,rfl⟩;exact⟨k+1,_,_,_,by omega,by go_num,L2,L3,AS,ff⟩)
       case measure=>simp[intOf];omega
    | false=>
     have NL:Hid (¬(cr ((c1,c2,vv,lk,hg,false):Zf)=true/\ht<ch ((c1,c2,vv,lk,hg,false):Zf)+2)):=λq=>dE q.1;have OB:∃ vt,Ua lk vy ht=vt:=⟨_,rfl⟩;obtain⟨vt,dr⟩:=OB;have C5:=Zb (Nk vp wa ln vq wd wb lk vy ht W3 LO KO iy gs il);rw[dr] at C5;have fk:Hid (Xi lk vy ht=vt):=(by show _=_;rw[<-Kn iy gs (Za il)];exact dr);clear dr;have q1:=Zd CB 1 _ rfl;have q2:=Zd CB 2 _ rfl;have q3:=Zd CB 3 _ rfl;have q4:=Zd CB 4 _ rfl;have q5:=Zd CB 5 _ rfl;have q0:=Zd CB 0 _ rfl;have ql:=aA CB;have r2:=Zd eb 2 _ rfl;have r0:=Zd eb 0 _ rfl;have we:=aA eb;have s2:=Zd IB 2 _ rfl;have wi:=aA IB;go_wp2_with fail;rw[<-gd];go_wp2_with fail;refine C5.mono ?_;rintro e W4 ⟨rfl,bs⟩;have bn:=Zb (Ze jq bs);have jr:=Zb (Ze ik bs);have jl:=Zb (ZE bs jk);have ay:=Zb (ZE bs CB);clear bs q0 q1 q2 q3 q4 q5 ql r0 r2 we s2 wi m0 m1 m2 m3 m4 m5;cases vt with
     | false=>
      have be:Hid ((x,M,S)=((8:Int),([]:List Zf),([]:List Zf))/\w.heap.size<=w.heap.size+1):=by
       have e:=SY _ _ (by rw[hq];exact Za TK) NL (by rw[hq];exact Za fk);rw[Za HE] at e;obtain⟨rfl,_⟩:=aX e;exact⟨HX.symm.trans (if_pos (by decide)),bZ _⟩
      have CF:=Zb (Y5 8 W4);go_wp2_with fail;refine CF.mono ?_;rintro e wf ⟨rfl,aj⟩;have ah:=Zb (ZE aj jl);have bd:=Zb (Ze jr aj);have ew:=Zd ah 0 _ rfl;have ey:=Zi ah 0;have ez:=aA ah;clear aj;go_wp2;(try simp only[aO,Exit.then]);refine aR (v:=dY #[F none 0 0,.agg #[F none 0 0],E J 8]) ?_ rfl ?_
      ·rw[Zn rfl];go_simp
      ·exact (Wn be bd).plain
     | true=>
      have ct:=Zb (ZE bn HS.box);have fv:=(Gr.of (S:=λ_=>False) bn).own HS.spent (λ_ _ q=>q);have kb:=Zb ((Gr.of (S:=λ_=>False) bn).own HS.rest (λ_ _ q=>q));have bi:=Zg W4 (dW #[E J c1,E J c2,E J vv,F vp ln vq,E J hg,eA false] 103);have dc:=Zb ((Gr.of (S:=λ_=>False) bi).own fv (λ_ _ q=>q));have kc:=Zb ((Gr.of (S:=λ_=>False) bi).own kb (λ_ _ q=>q));have cu:=Zb (ZE bi ct);have ka:=Zb (World.news_of_block (aK W4 (dW #[E J c1,E J c2,E J vv,F vp ln vq,E J hg,eA false] 103)));have cm:=Zb (Ze bn bi);have YS:Y.heap.size<=(W4.alloc (dW #[E J c1,E J c2,E J vv,F vp ln vq,E J hg,eA false] 103)).heap.size:=aT HS.gr.size (aT bn.size bi.size);have rz:SK.length<=6:=(by have:=Za fh;omega);obtain⟨i0,hi,gw,ap,az⟩:=info_parts Tryz.infoCoin;have u0:=Zd ct 0 _ rfl;have ul:=aA ct;have v0:=Zd ay 0 _ rfl;have v1:=Zd ay 1 _ rfl;have v2:=Zd ay 2 _ rfl;have v3:=Zd ay 3 _ rfl;have v4:=Zd ay 4 _ rfl;have v5:=Zd ay 5 _ rfl;have vl:=aA ay;clear bi fv
      go_wp2_with (at_builtin;refine wpList_append_lies _ rfl _ _ 29 rfl Y.heap.size 103 i0 zeroC 6 64 bR hi gw ap az rfl (by decide) _ _ _ rfl dc ⟨W4.heap.size,0,none⟩ 1 1 [E J c1,E J c2,E J vv,F vp ln vq,E J hg,eA false] rfl rfl ka (λu hu=>by simp at hu;rcases hu with rfl|rfl|rfl|rfl|rfl|rfl <;> rfl) (by decide) (by unfold cD;omega) (by omega) YS _ rfl ?_;intro g7 df w7 gq dm kz _;have bt:=(dm.block (w.heap.size+1+1) (aA cu) (λe=>Xl dc cu (by decide) e.symm)).trans cu;have da:=Zb bt;have fj:=Zb gq;have fg:=Zb dm;have ly:=Zd bt 0 _ rfl;have na:=aA bt;have lz:=Zi bt 0;clear bt gq dm kz)
      obtain⟨W8,bq⟩:=ZG (w7.setCell ⟨w.heap.size+1+1,0,none⟩ (F (some ⟨g7,0,none⟩) (SK.length+1) df));have G7:Gr (W4.alloc (dW #[E J c1,E J c2,E J vv,F vp ln vq,E J hg,eA false] 103)) w7 (λq=>sv.ownBlock=some q):=(Gr.refl _ _).grown fg (λq e=>.inl e);have db:=G7.own kc (λq e=>HS.apart q e);have G8:Gr w7 W8 (λq=>q=w.heap.size+1+1):=(by rw[bq];exact (Gr.refl w7 (λq=>q=w.heap.size+1+1)).set (p:=⟨w.heap.size+1+1,0,none⟩) (.inl rfl) _);have ft:=Zb (G8.own db (λq e e2=>Xl db da (by decide) (by rw[<-e2];exact e)));have fw:=Zb (G8.own fj (λq e e2=>Xl fj da (by decide) (by rw[<-e2];exact e)));have jm:Hid (W8.heap[w.heap.size+1+1]? = some (dW #[F (some ⟨g7,0,none⟩) (SK.length+1) df] 130 (0,0))):=by show _=_;rw[bq];exact Yz da
      have fd:Hid (Gr Y W8 (λq=>q=w.heap.size+1+1)):=by
       have e1:=((HS.gr.on cm).grown fg (λq e=>.inr (Y6 dc q e)));show Gr _ _ _;rw[bq];exact e1.set (p:=⟨w.heap.size+1+1,0,none⟩) (.inl rfl) _
      have qr:Hid (g<W8.heap.size):=ft.lt g rfl |>.2;have km:K.length<=rc:=ld.1;rw[<-bq];clear bq G7 db G8 ly na lz u0 ul v0 v1 v2 v3 v4 v5 vl;have rl:=Zb (Zh W8);have kw:j<=rc:=(by omega);have su:IntKind.i64.wrap ((j:Int)+1)=((j+1:Nat):Int):=(by have:=Za cn;rw[IntKind.wrap_i64];omega);have kv:j+1<=K.length:=(by omega);have sl:j+1<=rc:=by omega
      obtain⟨ya,gu,gv⟩:∃ ya:Addr,(if rc=j+1 then some (⟨g,0,none⟩:Addr) else some ⟨g,(j+1)*6,none⟩)=some ya/\(rc≠j+1->ya=⟨g,(j+1)*6,none⟩):=by
       by_cases e:rc=j+1
       ·exact⟨⟨g,0,none⟩,if_pos e,λq=>absurd e q⟩
       ·exact⟨⟨g,(j+1)*6,none⟩,if_neg e,λ_=>rfl⟩
      have jx:=Zb gu;have jy:=Zb gv;clear gu gv;refine wp_region_held_drew (S:=λW=>ZD W8 W) (by kernel_rfl) (Zh _) (λO=>?_);refine Zt 0 ⟨some 115,.move (.tmp 14),29, "second.go:99",#[],none⟩ ?_ rfl ?_ O ?_;rotate_left
      ·(intro W af;go_simp;first|done|with_reducible rfl)
      (try simp only[aH,ZA,ZB,ZC]);refine Zt 1 ⟨some 116,.move (.tmp 17),3, "second.go:99",#[],none⟩ ?_ rfl ?_ O ?_;rotate_left
      ·(intro W af;go_simp;first|done|with_reducible rfl)
      (try simp only[aH,ZA,ZB,ZC]);refine Zt 2 ⟨some 117,.slice 29 (.tmp 115) none (some (.tmp 116)) none,29, "second.go:99",#[⟨0,.data⟩,⟨1,.data⟩],none⟩ (F (some ⟨g,0,none⟩) j rc) rfl ?_ O ?_
      ·(intro W af;go_simp;first|done|rw[if_pos kw])
      (try simp only[aH,ZA,ZB,ZC]);refine Zt 3 ⟨some 118,.move (.tmp 14),29, "second.go:99",#[],none⟩ ?_ rfl ?_ O ?_;rotate_left
      ·(intro W af;go_simp;first|done|with_reducible rfl)
      (try simp only[aH,ZA,ZB,ZC]);refine Zt 4 ⟨some 119,.move (.tmp 17),3, "second.go:99",#[],none⟩ ?_ rfl ?_ O ?_;rotate_left
      ·(intro W af;go_simp;first|done|with_reducible rfl)
      (try simp only[aH,ZA,ZB,ZC]);refine Zt 5 ⟨some 120,.binOp BinOp.add 3 (.tmp 119) (.const (Value.int IntKind.i64 1)) 3,3, "second.go:99",#[⟨4,.data⟩],none⟩ ?_ rfl ?_ O ?_;rotate_left
      ·(intro W af;go_simp;first|done|with_reducible rfl)
      (try simp only[aH,ZA,ZB,ZC]);refine Zt 6 ⟨some 121,.slice 29 (.tmp 118) (some (.tmp 120)) none none,29, "second.go:99",#[⟨3,.data⟩,⟨5,.data⟩],none⟩ (F (some ya) (K.length - (j+1)) (rc - (j+1))) rfl ?_ O ?_
      ·(intro W af;go_simp;rw[if_pos ⟨by omega,by omega⟩,Za jx])
      (try simp only[aH,ZA,ZB,ZC]);obtain⟨W9,br⟩:=ZG ((W8.alloc (dW #[F (some ⟨g,0,none⟩) j rc,F (some ya) (K.length - (j+1)) (rc - (j+1))] 29)).drew);have di:ZD W8 W9:=(by rw[br];exact Ze (Zg W8 _) (Zh _));have vw:W9.heap[W8.heap.size]? = some (dW [F (some ⟨g,0,none⟩) j rc,F (some ya) (K.length - (j+1)) (rc - (j+1))].toArray 29 (0,0)):=(by rw[br];exact aK _ _);have fu:=(Gr.of (S:=λ_=>False) di).own ft (λ_ _ q=>q);obtain⟨cl1,cl2⟩:=Ll fu j rc kv km ya jy;have CC:=Zb (Lc W8.heap.size ⟨g,0,none⟩ ya j rc (K.length - (j+1)) (rc - (j+1)) (K.take j) (K.drop (j+1)) W9 (by have:=Za cn;omega) (by rw[bG];omega) (by rw[List.length_drop]) cl1 cl2 (Zd vw 0 _ rfl) (Zd vw 1 _ rfl));have cx:=Zb di;clear cl1 cl2 fu vw di;refine bJ (rs:=[7]) (by kernel_rfl) (by simp) ?_;refine AllReadyH.cons (o:=⟨some 122,.buildSlice 230 2 #[(0,.tmp 117),(1,.tmp 121)],230, "second.go:99",#[⟨2,.data⟩,⟨6,.data⟩],none⟩) rfl (λK0 hK=>?_) AllReadyH.nil;go_simp
      (first|rw[<-br]|(rw[show (W8.drew).alloc (dW #[F (some ⟨g,0,none⟩) j rc,F (some ya) (K.length - (j+1)) (rc - (j+1))] 29)=W9 from br.symm]))
      refine hK.out _ _ cx (λam=>?_);clear hK K0 O br;have O:=am;clear am;(try simp only[aH,ZA,ZB,ZC]);refine bJ (rs:=[8]) (by kernel_rfl) (by simp) ?_;refine AllReadyH.cons (o:=⟨some 123,.call { callee:=Callee.value (.func 112),args:=#[.tmp 122],argTypes:=#[230] },29, "second.go:99",#[⟨7,.data⟩],none⟩) rfl (λK0 hK=>?_) AllReadyH.nil;refine Yr (by kernel_rfl) 112 #[F (some ⟨W8.heap.size,0,none⟩) 2 2] (by kernel_rfl) CC ?_;rintro e kg ⟨lr,rfl,gp,gj⟩;refine⟨_,rfl,?_⟩;have cc:=Zb (Ze cx gj);have fi:=Zb gp;have S9:=cx.size;clear gp gj;refine hK.out _ _ cc (λam=>?_);clear hK K0 O;have O:=am;clear am;(try simp only[aH,ZA,ZB,ZC]);refine Zt 9 ⟨some 14,.assign (.tmp 123),29, "second.go:99",#[⟨8,.data⟩,⟨8,.chain⟩,⟨0,.phase⟩,⟨1,.phase⟩,⟨2,.phase⟩,⟨3,.phase⟩,⟨4,.phase⟩,⟨5,.phase⟩,⟨6,.phase⟩,⟨7,.phase⟩,⟨8,.phase⟩],none⟩ ?_ rfl ?_ O ?_;rotate_left
      ·(intro W af;go_simp;first|done|with_reducible rfl)
      (try simp only[aH,ZA,ZB,ZC]);refine wpAnyH_done (by kernel_rfl) ?_ _;clear O;have dn:∀ (A:List CV),(A.take j++A.drop (j+1)).map (·.1)=(A.map (·.1)).take j++(A.map (·.1)).drop (j+1):=λA=>by rw[bW,List.map_take,List.map_drop]
      have dq:(K.take j++K.drop (j+1)).length=j+(K.length - (j+1)):=by rw[bB,bG,List.length_drop];omega
      have AS:Hid (ApS w Y (w.heap.size+1+1) kg lr (F (some ⟨g7,0,none⟩) (SK.length+1) df) (K.take j++K.drop (j+1)) (SK++[(((c1,c2,vv,lk,hg,false):Zf),vp,ln,vq)])):=by
       have la:=(Gr.of (S:=λ_=>False) cc).own fw (λ_ _ q=>q);refine⟨?_,ZE cc jm,?_,λx z=>?_,?_,fd.on cc,λb e e2=>?_⟩
       ·rw[dq];exact J2 fi (aT fd.size S9)
       ·rw[bB,Z0];exact la
       ·rcases z with z|z
        ·rcases cI.1 z with z|z
         ·exact HS.lks x (.inl (List.mem_of_mem_take z))
         ·exact HS.lks x (.inl (List.mem_of_mem_drop z))
        ·rcases cI.1 z with z|z
         ·exact HS.lks x (.inr z)
         ·rw[dN.1 z];exact Za nt
       ·rw[dn];exact Jt TK HS.srt
       ·have q1:=Y6 fi b e;have q2:=(fw.lt g7 rfl).2;have q3:g7=b:=(by injection e2);omega
      have ff:Hid (Zp ht (I.drop (k+1)) ((SK++[(((c1,c2,vv,lk,hg,false):Zf),vp,ln,vq)]).map (·.1)) ((K.take j++K.drop (j+1)).map (·.1))=(x2,S2,M2)):=by
       have e:=SO _ _ (by rw[hq];exact Za TK) NL (by rw[hq];exact Za fk);rw[Za HE] at e;show _=_;rw[dn,bW];exact e.symm
      have L2:Hid ((SK++[(((c1,c2,vv,lk,hg,false):Zf),vp,ln,vq)]).length=k+1):=(by show _=_;rw[bB,Za fh];rfl);have L3:Hid ((K.take j++K.drop (j+1)).length<=720):=(by show _<=_;rw[dq];have:=Za cn;omega);clear dn dq;go_wp2;go_roundw
      case rel=>first|exact⟨k+1,_,_,_,by omega,by go_num,L2,L3,AS,ff⟩|((repeat apply Exists.intro);refine⟨?_,rfl⟩;exact⟨k+1,_,_,_,by omega,by go_num,L2,L3,AS,ff⟩)
      case measure=>simp[intOf];omega
  ·obtain rfl:k=ni:=(by omega);have e:=Za HE;rw[Kg ht I k (by rw[Za oa];exact aE _)] at e;obtain⟨e0,e2⟩:=aX e;obtain⟨e3,e4⟩:=aX e2;subst e0 e3 e4;have aw:=Za HX;rw[if_neg (by decide)] at aw;have nx:=Zb aw;clear aw e e2;have pj:∀ x∈SK,LkAt wr x:=λx z=>(HS.lks x (.inr z)).1.later fe;obtain⟨sa,sc,rfl,lc,px⟩:=Zx HS.spent pj;obtain⟨d,hd⟩:=ZF (Yg (SK.map (·.1)) - Ys vr)
   have qn:=Zb (Zfk sa SK.length sc (SK.map (·.1)) h ai ao k ci no co vr d wr (by have:=Za fh;omega) sn lc (HO wr eg) (λc hc=>by
    obtain⟨y,hy,rfl⟩:=List.mem_map.1 hc;have q:=Wp (HS.lks y (.inr hy)).2;exact⟨by omega,by omega⟩) ri hd)
   have t0:=Zd BT 0 _ rfl;have t1:=Zd BT 1 _ rfl;have t2:=Zd BT 2 _ rfl;have wj:=aA BT;have u0:=Zd HS.box 0 _ rfl;have ul:=aA HS.box;have tr:=Zb lc;have ts:=Zb px;clear lc px pj iz
   have nu:Hid (x3=if d<0 then 9 else 0):=by
    show _=_;rw[<-Za H3];unfold Di;simp only[hd,Za rm,and_true]
   clear hd;go_wp2_with fail;refine qn.mono ?_;rintro e w5 ⟨rfl,gm⟩;have cm:=Zb gm;have nr:=Zb (Ze fe gm);have nf:=Zb (ZE gm BU);have nb:=Zb (ZE gm BT);clear gm t0 t1 t2 wj u0 ul;by_cases pk:d<0
   ·have be:Hid ((x,M,S)=((9:Int),([]:List Zf),([]:List Zf))/\w.heap.size<=w.heap.size+1):=by
     have e:=Za nu;rw[if_pos pk] at e;subst e;exact⟨nx.symm.trans (if_pos (by decide)),bZ _⟩
    have CF:=Zb (Y5 9 w5);go_wp2_with fail;refine CF.mono ?_;rintro e wf ⟨rfl,aj⟩;have ah:=Zb (ZE aj nf);have bd:=Zb (Ze nr aj);have ew:=Zd ah 0 _ rfl;have ey:=Zi ah 0;have ez:=aA ah;clear aj;go_wp2;(try simp only[aO,Exit.then]);refine aR (v:=dY #[F none 0 0,.agg #[F none 0 0],E J 9]) ?_ rfl ?_
    ·rw[Zn rfl];go_simp
    ·exact (Wn be bd).plain
   ·have e:=Za nu;rw[if_neg pk] at e;subst e;have aw:=Za nx;rw[if_neg (by decide)] at aw;have ny:=Zb aw;clear aw;have t2:=Zd nb 2 _ rfl;have wj:=aA nb;go_wp2_with fail;have pi:∀ x∈K,LkAt wr x:=λx z=>(HS.lks x (.inl z)).1.later fe;obtain⟨vs,rc,rfl,_,_⟩:=Zx HS.rest pi;have HA:Hid (A2 w w5 Y.heap.size w5 (F vs K.length rc) K):=⟨(Gr.of (S:=λ_=>False) cm).own HS.rest (λ_ _ q=>q),λx z=>(HS.lks x (.inl z)).1,Below.refl _ _⟩;have jt:Hid ((K.map (·.1)).Perm (K.map (·.1))/\Srt (K.map (·.1))):=⟨List.Perm.refl _,HS.srt⟩;have ro:=Zb ((Gr.of (S:=λ_=>False) cm).own HS.spent (λ_ _ q=>q));have rq:=Zb (ZE cm HS.box);have rn:Hid (∀ x∈SK,LkAt w x):=λx z=>(HS.lks x (.inr z)).1;have ra:Hid (Yh name ht false 0 (vr.drop 0) (K.map (·.1))=(x4,M4)):=Za H4;have re:Hid (K.length<=720+0):=Za cn;have tz:w.heap.size+1+1+1<=w5.heap.size:=(by rw[<-ox];exact aT HS.gr.size cm.size);clear pi t2 wj
    go_loopw [14,142] (λrv i wr=>∃ (j:Nat) (K2:List CV) (G:List Zf),j<=no/\i = E J j/\Hid (K2.length<=720+j)/\Hid (A2 w w5 Y.heap.size wr rv K2)/\Hid ((K2.map (·.1)).Perm G/\Srt G)/\Hid (Yh name ht false j (vr.drop j) G=(x4,M4))) (λ_ i _=>no - (intOf i).toNat)
    case atStart=>exact⟨0,K,K.map (·.1),aP _,rfl,re,HA,jt,ra⟩
    case round=>
     obtain⟨j,K2,G,hj,rfl,cz,bk,HP,js⟩:=hrel;have ea:=Zb (Ze nr bk.bel);have nh:=Zb (ZE bk.bel nf);have ja:∀ x∈K2,LkAt wr x:=λx z=>(bk.lks x z).later ea;obtain⟨vs,rc,rfl,dl,ld⟩:=Zx bk.own ja;by_cases iz:j<no
     ·have ky:j<vr.length:=(by rw[Za ob];exact iz);obtain⟨vt,oo,rfl,_,pn⟩:=rj.2 (by omega);have po:=pn j ky;obtain⟨q,hq⟩:=ZF (vr[j]);have GA:=Zb (λL hf=>Hu (name:=name) (h:=ht) (r:=false) ky L hf);have GN:=Zb (λL hf=>Ht (name:=name) (h:=ht) (r:=false) ky L hf);rw[hq] at po GA;obtain⟨ov,du⟩:=q;obtain⟨g0,vp,ln,vq,g1,lO,lS⟩:=po;simp only at g0 g1 lO;have e0:=Zc ea g0;have e1:=Zc ea g1;have wn:=aC _ _ e0;have LK:Hid (LkAt w (((name,(j:Int),ov,du,ht,false):Zf),vp,ln,vq)):=⟨lO,lS⟩;obtain⟨W1,bz⟩:=ZG ((wr.alloc (dW #[E J ov,F vp ln vq] 101)).alloc (dW #[E J name,E J j] 99));have dh:ZD wr W1:=(by rw[bz];exact Ze (Zg _ _) (Zg _ _));obtain⟨vx,hz⟩:=ZF (plc (name,(j:Int)) (K2.map (·.1)) 0);have CP:=Zb (Qo vs K2.length rc (K2.map (·.1)) (name,(j:Int)) vx W1 (by have:=Za cz;omega) (dl.later dh) hz)
      have p0:W1.heap[wr.heap.size+1]? = some (dW [E J name,E J j].toArray 99 (0,0)):=by
       rw[bz];have:=aK (wr.alloc (dW #[E J ov,F vp ln vq] 101)) (dW #[E J name,E J j] 99);rw[show (wr.alloc (dW #[E J ov,F vp ln vq] 101)).heap.size=wr.heap.size+1 by simp] at this;exact this
      have p1:W1.heap[wr.heap.size]? = some (dW [E J ov,F vp ln vq].toArray 101 (0,0)):=by
       rw[bz,bH _ _ _ (by simp)];exact aK _ _
      have ta:=Zd p0 0 _ rfl;have tb:=Zd p0 1 _ rfl;have pl:=aA p0;have jp:=Zb dh;have jt:=Zb p0;have rk:=Zb p1;clear dh pn lO g0 g1 p0 p1 dl;go_wp2_with fail;rw[<-bz];(try go_wp2_with fail);refine CP.mono ?_;rintro e W2 ⟨rfl,bh⟩;have bw:=Zb (Ze jp bh);have rr:=Zb (Ze ea bw);have ii:=Zb (ZE bw nh);have PB:=Zb (ZE bh jt);have OB:=Zb (ZE bh rk);clear bh bz ta tb pl e0 e1
      rcases J0 (name,(j:Int)) (K2.map (·.1)) 0 with ⟨ap,az⟩|⟨i2,sk,ap,az,jb⟩
      ·obtain rfl:vx = -1:=hz.symm.trans ap;have HF:Hid (Xp (name,(j:Int)) G=false):=(by show _=_;rw[<-Qh (Za HP).1];exact az);have ip:=Zb ((Gr.of (S:=λ_=>False) bw).own bk.own (λ_ _ q=>q));have KS:Hid (∀ W,ZD W2 W->SAo W2 wr.heap.size ov vp ln vq name j W):=λW hb=>⟨Zc hb (Zd OB 0 _ rfl),Zc hb (Zd OB 1 _ rfl),Zc hb (Zd PB 0 _ rfl),Zc hb (Zd PB 1 _ rfl),aI (aA PB) hb.size,hb⟩;obtain⟨i0,hi,gw,tl,tm⟩:=info_parts Tryz.infoCoin;clear hz ap az;go_wp2_with fail;refine wp_region_held_drew (S:=SAo W2 wr.heap.size ov vp ln vq name j) (by kernel_rfl) (KS _ (Zh _)) (λO=>?_);refine Zt 0 ⟨some 159,.move (.tmp 14),29, "second.go:109",#[],none⟩ ?_ rfl ?_ O ?_;rotate_left
       ·(intro W af;obtain⟨ep,eq,er,es,et,_⟩:=af;go_simp;first|done|with_reducible rfl)
       (try simp only[aH,ZA,ZB,ZC]);refine Zt 2 ⟨some 161,.load 99 (.tmp 21),99, "second.go:109",#[],none⟩ ?_ rfl ?_ O ?_;rotate_left
       ·(intro W af;obtain⟨ep,eq,er,es,et,_⟩:=af;go_simp;first|done|with_reducible rfl)
       (try simp only[aH,ZA,ZB,ZC]);refine Zt 3 ⟨some 162,.load 101 (.tmp 20),101, "second.go:109",#[],none⟩ ?_ rfl ?_ O ?_;rotate_left
       ·(intro W af;obtain⟨ep,eq,er,es,et,_⟩:=af;go_simp;first|done|with_reducible rfl)
       (try simp only[aH,ZA,ZB,ZC]);refine Zt 4 ⟨some 163,.move (.tmp 3),3, "second.go:109",#[],none⟩ ?_ rfl ?_ O ?_;rotate_left
       ·(intro W af;obtain⟨ep,eq,er,es,et,_⟩:=af;go_simp;first|done|with_reducible rfl)
       (try simp only[aH,ZA,ZB,ZC]);refine Zt 5 ⟨some 164,.move (.tmp 12),4, "second.go:109",#[],none⟩ ?_ rfl ?_ O ?_;rotate_left
       ·(intro W af;obtain⟨ep,eq,er,es,et,_⟩:=af;go_simp;first|done|with_reducible rfl)
       (try simp only[aH,ZA,ZB,ZC]);refine Zt 6 ⟨some 165,.build 103 #[(0,.tmp 161),(1,.tmp 162),(2,.tmp 163),(3,.tmp 164)],103, "second.go:109",#[⟨2,.data⟩,⟨3,.data⟩,⟨4,.data⟩,⟨5,.data⟩],none⟩ ?_ rfl ?_ O ?_;rotate_left
       ·(intro W af;obtain⟨ep,eq,er,es,et,_⟩:=af;go_simp;first|done|with_reducible rfl)
       (try simp only[aH,ZA,ZB,ZC]);refine bJ (rs:=[1,7]) (by kernel_rfl) (by simp) ?_;refine AllReadyH.cons (o:=⟨some 160,.call { callee:=Callee.value (.func 88),args:=#[.tmp 159],argTypes:=#[29] },29, "second.go:109",#[⟨0,.data⟩],none⟩) rfl (λK0 hK=>?_) (AllReadyH.cons (o:=⟨some 166,.buildSlice 29 1 #[(0,.tmp 165)],29, "second.go:109",#[⟨6,.data⟩],none⟩) rfl (λK0 hK=>?_) AllReadyH.nil)
       focus
        refine Yr (by kernel_rfl) 88 #[F vs K2.length rc] (by kernel_rfl) (Vh (F vs K2.length rc) K2 W2.drew (by have:=Za cz;omega) ((Gr.of (S:=λ_=>False) (Zh W2)).own ip (λ_ _ q=>q))) ?_;rintro e WA ⟨vz,rfl,pm,ej⟩;refine⟨_,rfl,?_⟩;have dy:Hid (ZD W2 WA):=Ze (Zh W2) ej;have rh:Hid (WA.ownsRow W2.heap.size 103 6 vz K2.length (Zk K2)):=pm;clear pm ej;refine hK.out _ _ (KS _ dy) (λam=>?_);clear hK K0 O;have O:=am;clear am;(try simp only[aH,ZA,ZB,ZC]);refine bJ (rs:=[7]) (by kernel_rfl) (by simp) ?_;refine AllReadyH.cons (o:=⟨some 166,.buildSlice 29 1 #[(0,.tmp 165)],29, "second.go:109",#[⟨6,.data⟩],none⟩) rfl (λK0 hK=>?_) AllReadyH.nil;go_simp;obtain⟨WZ,ix⟩:=ZG (WA.alloc (dW #[E J name,E J j,E J ov,F vp ln vq,E J ht,eA false] 103));rw[<-ix];obtain⟨mz,dp⟩:=ZG (WA.heap.size);have MZ:Hid (WZ.heap[mz]? = some (dW #[E J name,E J j,E J ov,F vp ln vq,E J ht,eA false] 103 (0,0))):=(by show _=_;rw[ix,dp];exact aK _ _);have dj:ZD WA WZ:=(by rw[ix];exact Zg _ _);have OZ:=Zb ((Gr.of (S:=λ_=>False) dj).own rh (λ_ _ q=>q));have BZ:=Zb (Ze dy dj);rw[<-dp];clear dj ix dp
       rotate_left
       focus
        go_simp;obtain⟨WA,gg⟩:=ZG (W2.drew.alloc (dW #[E J name,E J j,E J ov,F vp ln vq,E J ht,eA false] 103))
        (first|rw[<-gg]|(rw[show (W2.alloc (dW #[E J name,E J j,E J ov,F vp ln vq,E J ht,eA false] 103)).drew=WA from gg.symm]))
        have ej:ZD W2 WA:=(by rw[gg];exact Ze (Zh W2) (Zg _ _));obtain⟨mz,dp⟩:=ZG (W2.heap.size);have ma:WA.heap[mz]? = some (dW #[E J name,E J j,E J ov,F vp ln vq,E J ht,eA false] 103 (0,0)):=(by rw[gg,dp];exact aK W2.drew _);rw[<-dp];have oe:=(Gr.of (S:=λ_=>False) ej).own ip (λ_ _ q=>q);have MA:=Zb ma;have dy:=Zb ej;clear gg dp ma ej;refine hK.out _ _ (KS _ dy) (λam=>?_);clear hK K0 O;have O:=am;clear am;(try simp only[aH,ZA,ZB,ZC]);refine bJ (rs:=[1]) (by kernel_rfl) (by simp) ?_;refine AllReadyH.cons (o:=⟨some 160,.call { callee:=Callee.value (.func 88),args:=#[.tmp 159],argTypes:=#[29] },29, "second.go:109",#[⟨0,.data⟩],none⟩) rfl (λK0 hK=>?_) AllReadyH.nil;refine Yr (by kernel_rfl) 88 #[F vs K2.length rc] (by kernel_rfl) (Vh (F vs K2.length rc) K2 WA (by have:=Za cz;omega) oe) ?_;rintro e WZ ⟨vz,rfl,pr,dj⟩;refine⟨_,rfl,?_⟩;have BZ:=Zb (Ze dy dj);have OZ:=Zb (J2 pr dy.size);have MZ:=Zb (ZE dj MA);clear pr dj oe
       all_goals
        refine hK.out _ _ (KS _ BZ) (λam=>?_);clear hK K0 O;have O:=am;clear am;(try simp only[aH,ZA,ZB,ZC]);refine bJ (rs:=[8]) (by kernel_rfl) (by simp) ?_;refine AllReadyH.cons (o:=⟨some 167,.call { callee:=Callee.builtin Builtin.append,args:=#[.tmp 160,.tmp 166],argTypes:=#[29,29] },29, "second.go:109",#[⟨1,.data⟩,⟨7,.data⟩,⟨1,.chain⟩],none⟩) rfl (λK0 hK=>?_) AllReadyH.nil;refine step_append_lies _ (by rfl) _ _ _ (by rfl) W2.heap.size 103 i0 zeroC 6 64 bR hi gw tl tm rfl (by decide) vz K2.length (Zk K2) (by rfl) OZ ⟨mz,0,none⟩ 1 1 [E J name,E J j,E J ov,F vp ln vq,E J ht,eA false] (by rfl) (by rfl) (World.news_of_block (cs:=#[E J name,E J j,E J ov,F vp ln vq,E J ht,eA false]) MZ) (λu hu=>by simp at hu;rcases hu with rfl|rfl|rfl|rfl|rfl|rfl <;> rfl) (by decide) (by have:=Za cz;unfold cD;omega) (by have:=Za cz;omega) BZ.size _ rfl ?_;intro g8 sd w8 pp pf _ _;have nn:Hid (ZD W2 w8):=BZ.grown pf BZ.size (Y6 OZ);have rg:=Zb pp;clear pp pf OZ MZ BZ;refine hK.out _ _ (KS _ nn) (λam=>?_);clear hK K0 O;have O:=am;clear am;(try simp only[aH,ZA,ZB,ZC]);refine Zt 9 ⟨some 14,.assign (.tmp 167),29, "second.go:109",#[⟨8,.data⟩,⟨8,.chain⟩,⟨0,.phase⟩,⟨1,.phase⟩,⟨2,.phase⟩,⟨3,.phase⟩,⟨4,.phase⟩,⟨5,.phase⟩,⟨6,.phase⟩,⟨7,.phase⟩,⟨8,.phase⟩],none⟩ ?_ rfl ?_ O ?_;rotate_left
        ·(intro W af;obtain⟨ep,eq,er,es,et,_⟩:=af;go_simp;first|done|with_reducible rfl)
        (try simp only[aH,ZA,ZB,ZC]);refine wpAnyH_done (by kernel_rfl) ?_ _;clear O
        have AS:Hid (A2 w w5 Y.heap.size w8 (F (some ⟨g8,0,none⟩) (K2.length+1) sd) (K2++[(((name,(j:Int),ov,du,ht,false):Zf),vp,ln,vq)])):=by
         refine⟨?_,λx z=>?_,Ze (Ze bk.bel bw) nn⟩
         ·rw[bB,Z0];exact J2 rg (by have:=bw.size;have:=bk.bel.size;rw[ox];omega)
         ·rcases cI.1 z with z|z
          ·exact bk.lks x z
          ·rw[dN.1 z];exact Za LK
        have L3:Hid ((K2++[(((name,(j:Int),ov,du,ht,false):Zf),vp,ln,vq)]).length<=720+(j+1)):=by show _<=_;rw[bB];have:=Za cz;simp;omega
        have P3:Hid (((K2++[(((name,(j:Int),ov,du,ht,false):Zf),vp,ln,vq)]).map (·.1)).Perm (Uj (Rn name j (ov,du) ht false) G)/\Srt (Uj (Rn name j (ov,du) ht false) G)):=by
         refine⟨?_,Ux HP.2⟩;rw[bW];exact Hh HP.1 HF
        have E3:Hid (Yh name ht false (j+1) (vr.drop (j+1)) (Uj (Rn name j (ov,du) ht false) G)=(x4,M4)):=(GA G HF).symm.trans js;go_wp2;go_roundw
        case rel=>first|exact⟨j+1,_,_,by omega,by go_num,L3,AS,P3,E3⟩|((repeat apply Exists.intro);refine⟨?_,rfl⟩;exact⟨j+1,_,_,by omega,by go_num,L3,AS,P3,E3⟩)
        case measure=>simp[intOf];omega
      ·have kx:vx=(i2:Int):=(by rw[<-hz,ap];simp);subst kx
       have be:Hid ((x,M,S)=((6:Int),([]:List Zf),([]:List Zf))/\w.heap.size<=w.heap.size+1):=by
        have e:=GN G (by rw[<-Qh (Za HP).1];exact jb);rw[Za js] at e;obtain⟨rfl,_⟩:=aX e;exact⟨ny.symm.trans (if_pos (by decide)),bZ _⟩
       have va:¬((i2:Int)<0):=(by omega);clear hz ap az jb sk;have CF:=Zb (Y5 6 W2);go_wp2_with fail;refine CF.mono ?_;rintro e wf ⟨rfl,aj⟩;have ah:=Zb (ZE aj ii);have bd:=Zb (Ze rr aj);have ew:=Zd ah 0 _ rfl;have ey:=Zi ah 0;have ez:=aA ah;clear aj;go_wp2;(try simp only[aO,Exit.then]);refine aR (v:=dY #[F none 0 0,.agg #[F none 0 0],E J 6]) ?_ rfl ?_
       ·rw[Zn rfl];go_simp
       ·exact (Wn be bd).plain
     ·obtain rfl:j=no:=(by omega);have e:=Za js;rw[Pn (by rw[Za ob];exact aE _)] at e;obtain⟨e0,e1⟩:=aX e;subst e0 e1;clear e;have aw:=Za ny;rw[if_neg (by decide)] at aw;have nz:=Zb aw;clear aw;have qo:=Zb (Mn vs K2.length rc K2 w wr (by have:=Za cz;omega) rfl bk.own bk.lks ea);clear dl ja;go_wp2_with fail;refine qo.mono ?_;rintro e w6 ⟨a6,c6,L6,rfl,le,so,pu,py,oy⟩;have e6:L6=G:=Ha py (pu.trans HP.1) HP.2;subst e6;have pb:CoinsAt w6 a6 K2.length L6:=le w6 (Gr.refl _ _);have qm:=Zb (Qq a6 K2.length c6 L6 x5 w6 pb H5);have rp:=Zb le;have qy:=Zb oy;clear le pu py oy pb;go_wp2_with fail;refine qm.mono ?_;rintro e w7 ⟨rfl,kq⟩;have qz:=Zb kq;have jw:=Zb (Ze qy kq);have jv:=Zb (Ze ea jw);have ij:=Zb (ZE jw nh);clear kq;by_cases e5:x5=0
      ·subst e5;have aw:=Za nz;rw[if_neg (by decide)] at aw;obtain⟨rfl,e2⟩:=aX aw;obtain⟨rfl,rfl⟩:=aX e2;have nk:=Zb (Ze bk.bel jw);have ol:=Zb (ZE nk rq);have oj:=Zb ((Gr.of (S:=λ_=>False) nk).own ro (λ_ _ q=>q))
       have nv:Hid (∀ W,Gr w7 W (λq=>q=w.heap.size+1)->ApR w W 0 L6 (SK.map (·.1)) (dX (dY #[F a6 K2.length c6,.agg #[F sa SK.length sc],E J 0]))):=by
        intro W hg;have oz:ZD w W:=hg.below jv jv.size (λk q=>by omega);have vg:=bk.bel.size;have sr:=hg.own oj (λk q e=>by have:=Y6 oj k q;omega);obtain⟨tc,td,e,sj,sq⟩:=Zx sr (λx z=>(rn x z).later oz);obtain⟨rfl,rfl⟩:sa=tc/\sc=td:=(by injection e with e1 e2 e3;exact⟨e1,e3⟩);exact⟨a6,K2.length,c6,sa,SK.length,sc,rfl,rp W ((Gr.of qz).trans (hg.mono (λk _ q=>⟨by omega,by omega⟩))),so,sj,sq,oz⟩
       have u0:=Zd ol 0 _ rfl;have ul:=aA ol;have r0:=Zd ij 0 _ rfl;have we:=aA ij;have rf:=Zi ij 0;clear e2;go_wp2
       go_region
       go_wp2;(try simp only[aO,Exit.then])
       all_goals (refine aR (v:=dY #[F a6 K2.length c6,.agg #[F sa SK.length sc],E J 0]) ?_ rfl ?_)
       ·rw[Zn rfl];go_simp
       ·first|exact nv _ (((Gr.refl w7 (λq=>q=w.heap.size+1)).draw).set (p:=⟨w.heap.size+1,0,none⟩) (.inl rfl) _)|exact nv _ (((Gr.refl w7 (λq=>q=w.heap.size+1)).set (p:=⟨w.heap.size+1,0,none⟩) (.inl rfl) _).draw)
      ·have be:Hid ((x,M,S)=((x5:Int),([]:List Zf),([]:List Zf))/\w.heap.size<=w.heap.size+1):=⟨nz.symm.trans (if_pos e5),bZ _⟩;have g9:(x5 != 0)=true:=(by simp[e5]);have CF:=Zb (Y5 x5 w7);go_wp2_with fail;refine CF.mono ?_;rintro e wf ⟨rfl,aj⟩;have ah:=Zb (ZE aj ij);have bd:=Zb (Ze jv aj);have ew:=Zd ah 0 _ rfl;have ey:=Zi ah 0;have ez:=aA ah;clear aj;go_wp2;(try simp only[aO,Exit.then]);refine aR (v:=dY #[F none 0 0,.agg #[F none 0 0],E J x5]) ?_ rfl ?_
       ·rw[Zn rfl];go_simp
       ·exact (Wn be bd).plain
theorem Zjd(a n c L)(h:Int)(nw ao ni ci no co I nv)(name O:Int)(x:Int)(M S w)(hL:CoinsAt w a n L)(sL:SlOk a n c)(hI:InsAt w nw ni I)(hO:OutsAt w ao no nv)(de:Zy L)(df:Zr (h,I,nv)=0)(hx:apD L (h,I,nv) name O=(x,M,S))(n1:¬name<1)(n2:¬120<name)(n3:¬O<1)(n4:¬1000<O)(hr:ni=0)(hh:h=O) :
  Calls aB 60 #[F a n c,.agg #[E J h,F nw ni ci,F ao no co],E J name,E J O] w λe w'=>ApR w w' x M S e:=by
 obtain⟨X0,bo⟩:=ZG ((w.alloc (dW #[E J h,F nw ni ci,F ao no co] 52)).alloc (dW #[F none 0 0] 130));have cp:ZD w X0:=by rw[bo];exact Ze (Zg _ _) (Zg _ _)
 have bq:X0.heap[w.heap.size]? = some (dW [E J h,F nw ni ci,F ao no co].toArray 52 (0,0)):=by
  rw[bo,bH _ _ _ (by simp)];exact Zs _ _ _ _ _
 have ee:X0.heap[w.heap.size+1]? = some (dW [F none 0 0].toArray 130 (0,0)):=by
  rw[bo];have:=aK (w.alloc (dW #[E J h,F nw ni ci,F ao no co] 52)) (dW #[F none 0 0] 130);rw[show (w.alloc (dW #[E J h,F nw ni ci,F ao no co] 52)).heap.size=w.heap.size+1 by simp] at this;exact this
 obtain⟨⟨x2,S2,M2⟩,h2⟩:=ZF (Zp O I [] L);obtain⟨x3,h3⟩:=ZF (Di S2 (h,I,nv));have hR:isR (h,I,nv)=true:=by unfold isR;rw[hI.1];exact decide_eq_true hr
 obtain⟨⟨x4,M4⟩,h4⟩:=ZF (Yh name O true 0 nv M2);obtain⟨x5,h5⟩:=ZF (Zo M4);rw[Ec (Dm de df (by unfold okN okH;simp only[bL,decide_eq_true_eq];omega) (by intro q;exact q.2 hh)) h2 h3 (by rw[hR];exact h4) h5,if_neg (by decide)] at hx;obtain⟨t1,t2,t3,_,tI,_⟩:=Y9 df;have ly:ni<=6:=by rw[<-hI.1];exact t1
 have na:no<=6:=by rw[<-hO.1];exact t2
 have hn:n<=720:=by rw[<-hL.1];exact de.len
 have lj:=Zb (Rl df);have jj:=Zb hR;have lh:=Zb (Cc tI);have lf:=Zb (Zme n3 n4);obtain⟨Y,hY⟩:=ZG (X0.alloc (dW #[F none 0 0] 130));have bs:ZD X0 Y:=by rw[hY];exact Zg _ _
 have ef:Y.heap[X0.heap.size]? = some (dW #[F none 0 0] 130 (0,0)):=by rw[hY];exact aK _ _
 have fw:X0.heap.size=w.heap.size+1+1:=by rw[bo];simp
 have fx:Y.heap.size=w.heap.size+1+1+1:=by rw[hY];simp[fw]
 rw[fw] at ef;have C1:=Zb (Qd a n c L w Y (Ze cp bs) (by omega) hL sL);have HI:=Zb (λw' (hb:ZD X0 w')=>(hI.later cp).later hb);have HO:=Zb (λw' (hb:ZD X0 w')=>(hO.later cp).later hb);have jh:=Zb hO;have ix:=Zb cp;have fe:=Zb bs;have jq:=Zb bq;have ai:=Zb ee;have jr:=Zb ef;have H2:=Zb h2;have H3:=Zb h3;have H4:=Zb h4;have H5:=Zb h5;have HX:=Zb hx;have du:=Zb de;have js:=Zb hI.1;have fj:=Zb hO.1;have lm:=Zb hL.1;have ie:=Zd bq 0 _ rfl;have ig:=Zd bq 1 _ rfl;have ih:=Zd bq 2 _ rfl;have xl:=aA bq;have lq:w.heap.size+1<X0.heap.size:=aA ee;have ky:=Zc bs ie;have kz:=Zc bs ig;have la:=Zc bs ih;have g0:((ni:Int) == 0)=true:=by simp[hr]
 have g1:(h != O)=false:=by simp[hh]
 have lz:ni<=0:=by omega
 clear hr hh;clear hL sL hI hO de df hx bq ee cp bs ef h2 h3 h4 h5 hR t1 t2 t3 tI;go_enter Tryz.func60,Tryz.ntmps60;go_wp2_with fail;rw[<-bo];clear bo;go_wp2_with fail;rw[<-hY];clear hY;refine C1.mono ?_;rintro e wr ⟨v,K,rfl,cj,gc,ho,ar⟩;obtain⟨SK,ed⟩:∃ SK:List CV,SK=[]:=⟨_,rfl⟩;obtain⟨sa,gs⟩:∃ sa:Option Addr,sa=none:=⟨_,rfl⟩;obtain⟨sc,gu⟩:∃ sc:Nat,sc=0:=⟨_,rfl⟩
 have HS:Hid (ApS w Y (w.heap.size+1+1) wr v (F sa SK.length sc) K SK):=by
  subst ed gs gu;refine⟨ho,(ar.block _ (by omega)).trans jr,⟨rfl,.inl ⟨rfl,rfl⟩⟩,λx hx=>?_,by rw[cj];exact du.srt,Gr.of ar,λ_ _ e=>by cases e⟩
  rcases hx with hx|hx
  ·exact⟨gc x hx,du.one x.1 (by rw[<-cj];exact List.mem_map_of_mem hx)⟩
  ·cases hx
 have jd:Hid (K.length<=720):=by show _<=_;rw[<-dF (f:=λ(x:CV)=>x.1),cj];exact du.len
 have dc:ZD X0 wr:=HS.gr.below fe fe.size (λq e=>by omega);have le:=Zb dc;have fd:=Zb (Ze ix dc);have BU:=Zb (ZE dc ai);have BT:=Zb (ZE dc jq);have fv:I=[]:=List.length_eq_zero_iff.1 (js.trans (by omega))
 have e:((0:Int),([]:List Zf),L)=(x2,S2,M2):=by
  have e:=Za H2;rw[fv] at e;exact e
 obtain⟨e0,e2⟩:=aX e;obtain⟨e3,e4⟩:=aX e2;subst e0 e3 e4
 have e5:x3=0:=by
  rw[<-Za H3];unfold Di;rw[Za jj,if_neg (by intro q;exact dE q.2)]
 subst e5;have ai:=Za HX;rw[if_neg (by decide),if_neg (by decide)] at ai;have gq:([]:List Zf)=SK.map (·.1):=by rw[ed];rfl
 have fh:Hid ((if x4≠0 then (x4,([]:List Zf),([]:List Zf)) else if x5≠0 then (x5,[],[]) else (0,M4,SK.map (·.1)))=(x,M,S)):=by show _=_;rw[<-gq];exact ai
 have lw:decide ((0:Int)<(ni:Int))=false:=by simp;omega
 have lx:decide (0<ni)=false:=by simp;omega
 have eb:=Za H4;rw[<-cj] at eb;have H4:=Zb eb;obtain⟨w5,eq⟩:=ZG (wr);have aw:Hid (ZD wr w5):=by show Below _ _ _;rw[eq];exact Below.refl _ _
 have jb:=Zb (Ze fd aw);have il:=Zb (ZE aw BU);have dm:=Zb (ZE aw BT);have t1:=Zd dm 1 _ rfl;have t2:=Zd dm 2 _ rfl;have tl:=aA dm;rw[<-eq];clear eq gq ai e e2 fv cj gc ho ar ed gs gu ky kz la ie ig ih eb;go_wp2;refine wp_loop_rounds 1 ?_;rw[rounds_succ];go_wp2_with fail;have gd:∀ x∈K,LkAt wr x:=λx hx=>(HS.lks x (.inl hx)).1.later fd;obtain⟨ra,rc,rfl,_,_⟩:=Zx HS.rest gd;have HA:Hid (A2 w w5 Y.heap.size w5 (F ra K.length rc) K):=⟨(Gr.of (S:=λ_=>False) aw).own HS.rest (λ_ _ q=>q),λx hx=>(HS.lks x (.inl hx)).1,Below.refl _ _⟩;have dt:Hid ((K.map (·.1)).Perm (K.map (·.1))/\Srt (K.map (·.1))):=⟨List.Perm.refl _,HS.srt⟩;have jl:=Zb ((Gr.of (S:=λ_=>False) aw).own HS.spent (λ_ _ q=>q));have jn:=Zb (ZE aw HS.box);have jk:Hid (∀ x∈SK,LkAt w x):=λx hx=>(HS.lks x (.inr hx)).1;have jc:Hid (Yh name O true 0 (nv.drop 0) (K.map (·.1))=(x4,M4)):=Za H4;have je:Hid (K.length<=720+0):=Za jd;have lr:w.heap.size+1+1+1<=w5.heap.size:=by rw[<-fx];exact aT HS.gr.size aw.size
 clear gd t2 tl
 go_loopw [14,142] (λrv i wr=>∃ (j:Nat) (z:List CV) (G:List Zf),j<=no/\i = E J j/\Hid (z.length<=720+j)/\Hid (A2 w w5 Y.heap.size wr rv z)/\Hid ((z.map (·.1)).Perm G/\Srt G)/\Hid (Yh name O true j (nv.drop j) G=(x4,M4))) (λ_ i _=>no - (intOf i).toNat)
 case atStart=>exact⟨0,K,K.map (·.1),aP _,rfl,je,HA,dt,jc⟩
 case round=>
  obtain⟨j,z,G,hj,rfl,ax,ah,HP,ds⟩:=hrel;have bh:=Zb (Ze jb ah.bel);have ey:=Zb (ZE ah.bel il);have gg:∀ x∈z,LkAt wr x:=λx hx=>(ah.lks x hx).later bh;obtain⟨ra,rc,rfl,ei,nb⟩:=Zx ah.own gg;by_cases kc:j<no
  ·have en:j<nv.length:=(by rw[Za fj];exact kc);obtain⟨ob,oo,rfl,_,gj⟩:=jh.2 (by omega);have gl:=gj j en;obtain⟨q,hq⟩:=ZF (nv[j]);have GA:=Zb (λL hf=>Hu (name:=name) (h:=O) (r:=true) en L hf);have GN:=Zb (λL hf=>Ht (name:=name) (h:=O) (r:=true) en L hf);rw[hq] at gl GA;obtain⟨ov,bb⟩:=q;obtain⟨g0,nt,ln,nu,g1,lO,lS⟩:=gl;simp only at g0 g1 lO;have e0:=Zc bh g0;have e1:=Zc bh g1;have ol:=aC _ _ e0;have LK:Hid (LkAt w (((name,(j:Int),ov,bb,O,true):Zf),nt,ln,nu)):=⟨lO,lS⟩;obtain⟨W1,cm⟩:=ZG ((wr.alloc (dW #[E J ov,F nt ln nu] 101)).alloc (dW #[E J name,E J j] 99));have eg:ZD wr W1:=(by rw[cm];exact Ze (Zg _ _) (Zg _ _));obtain⟨nx,hz⟩:=ZF (plc (name,(j:Int)) (z.map (·.1)) 0);have CP:=Zb (Qo ra z.length rc (z.map (·.1)) (name,(j:Int)) nx W1 (by have:=Za ax;omega) (ei.later eg) hz)
   have p0:W1.heap[wr.heap.size+1]? = some (dW [E J name,E J j].toArray 99 (0,0)):=by
    rw[cm];have:=aK (wr.alloc (dW #[E J ov,F nt ln nu] 101)) (dW #[E J name,E J j] 99);rw[show (wr.alloc (dW #[E J ov,F nt ln nu] 101)).heap.size=wr.heap.size+1 by simp] at this;exact this
   have p1:W1.heap[wr.heap.size]? = some (dW [E J ov,F nt ln nu].toArray 101 (0,0)):=by
    rw[cm,bH _ _ _ (by simp)];exact aK _ _
   have kl:=Zd p0 0 _ rfl;have km:=Zd p0 1 _ rfl;have pl:=aA p0;have iy:=Zb eg;have dt:=Zb p0;have ji:=Zb p1;clear eg gj lO g0 g1 p0 p1 ei;go_wp2_with fail;rw[<-cm];(try go_wp2_with fail);refine CP.mono ?_;rintro e W2 ⟨rfl,ar⟩;have bz:=Zb (Ze iy ar);have jo:=Zb (Ze bh bz);have ik:=Zb (ZE bz ey);have PB:=Zb (ZE ar dt);have OB:=Zb (ZE ar ji);clear ar cm kl km pl e0 e1
   rcases J0 (name,(j:Int)) (z.map (·.1)) 0 with ⟨ct,dh⟩|⟨i2,ka,ct,dh,gx⟩
   ·obtain rfl:nx = -1:=hz.symm.trans ct;have HF:Hid (Xp (name,(j:Int)) G=false):=(by show _=_;rw[<-Qh (Za HP).1];exact dh);have fo:=Zb ((Gr.of (S:=λ_=>False) bz).own ah.own (λ_ _ q=>q));have KS:Hid (∀ W,ZD W2 W->SAo W2 wr.heap.size ov nt ln nu name j W):=λW hb=>⟨Zc hb (Zd OB 0 _ rfl),Zc hb (Zd OB 1 _ rfl),Zc hb (Zd PB 0 _ rfl),Zc hb (Zd PB 1 _ rfl),aI (aA PB) hb.size,hb⟩;obtain⟨i0,hi,kh,lc,ld⟩:=info_parts Tryz.infoCoin;clear hz ct dh;go_wp2_with fail;refine wp_region_held_drew (S:=SAo W2 wr.heap.size ov nt ln nu name j) (by kernel_rfl) (KS _ (Zh _)) (λaf=>?_);refine Zt 0 ⟨some 159,.move (.tmp 14),29, "second.go:109",#[],none⟩ ?_ rfl ?_ af ?_;rotate_left
    ·(intro W ag;obtain⟨bt,bu,bv,bw,bx,_⟩:=ag;go_simp;first|done|with_reducible rfl)
    (try simp only[aH,ZA,ZB,ZC]);refine Zt 2 ⟨some 161,.load 99 (.tmp 21),99, "second.go:109",#[],none⟩ ?_ rfl ?_ af ?_;rotate_left
    ·(intro W ag;obtain⟨bt,bu,bv,bw,bx,_⟩:=ag;go_simp;first|done|with_reducible rfl)
    (try simp only[aH,ZA,ZB,ZC]);refine Zt 3 ⟨some 162,.load 101 (.tmp 20),101, "second.go:109",#[],none⟩ ?_ rfl ?_ af ?_;rotate_left
    ·(intro W ag;obtain⟨bt,bu,bv,bw,bx,_⟩:=ag;go_simp;first|done|with_reducible rfl)
    (try simp only[aH,ZA,ZB,ZC]);refine Zt 4 ⟨some 163,.move (.tmp 3),3, "second.go:109",#[],none⟩ ?_ rfl ?_ af ?_;rotate_left
    ·(intro W ag;obtain⟨bt,bu,bv,bw,bx,_⟩:=ag;go_simp;first|done|with_reducible rfl)
    (try simp only[aH,ZA,ZB,ZC]);refine Zt 5 ⟨some 164,.move (.tmp 12),4, "second.go:109",#[],none⟩ ?_ rfl ?_ af ?_;rotate_left
    ·(intro W ag;obtain⟨bt,bu,bv,bw,bx,_⟩:=ag;go_simp;first|done|with_reducible rfl)
    (try simp only[aH,ZA,ZB,ZC]);refine Zt 6 ⟨some 165,.build 103 #[(0,.tmp 161),(1,.tmp 162),(2,.tmp 163),(3,.tmp 164)],103, "second.go:109",#[⟨2,.data⟩,⟨3,.data⟩,⟨4,.data⟩,⟨5,.data⟩],none⟩ ?_ rfl ?_ af ?_;rotate_left
    ·(intro W ag;obtain⟨bt,bu,bv,bw,bx,_⟩:=ag;go_simp;first|done|with_reducible rfl)
    (try simp only[aH,ZA,ZB,ZC]);refine bJ (rs:=[1,7]) (by kernel_rfl) (by simp) ?_;refine AllReadyH.cons (o:=⟨some 160,.call { callee:=Callee.value (.func 88),args:=#[.tmp 159],argTypes:=#[29] },29, "second.go:109",#[⟨0,.data⟩],none⟩) rfl (λK0 hK=>?_) (AllReadyH.cons (o:=⟨some 166,.buildSlice 29 1 #[(0,.tmp 165)],29, "second.go:109",#[⟨6,.data⟩],none⟩) rfl (λK0 hK=>?_) AllReadyH.nil)
    focus
     refine Yr (by kernel_rfl) 88 #[F ra z.length rc] (by kernel_rfl) (Vh (F ra z.length rc) z W2.drew (by have:=Za ax;omega) ((Gr.of (S:=λ_=>False) (Zh W2)).own fo (λ_ _ q=>q))) ?_;rintro e WA ⟨vz,rfl,gi,br⟩;refine⟨_,rfl,?_⟩;have bf:Hid (ZD W2 WA):=Ze (Zh W2) br;have jg:Hid (WA.ownsRow W2.heap.size 103 6 vz z.length (Zk z)):=gi;clear gi br;refine hK.out _ _ (KS _ bf) (λam=>?_);clear hK K0 af;have af:=am;clear am;(try simp only[aH,ZA,ZB,ZC]);refine bJ (rs:=[7]) (by kernel_rfl) (by simp) ?_;refine AllReadyH.cons (o:=⟨some 166,.buildSlice 29 1 #[(0,.tmp 165)],29, "second.go:109",#[⟨6,.data⟩],none⟩) rfl (λK0 hK=>?_) AllReadyH.nil;go_simp;obtain⟨WZ,dg⟩:=ZG (WA.alloc (dW #[E J name,E J j,E J ov,F nt ln nu,E J O,eA true] 103));rw[<-dg];obtain⟨mz,ba⟩:=ZG (WA.heap.size);have MZ:Hid (WZ.heap[mz]? = some (dW #[E J name,E J j,E J ov,F nt ln nu,E J O,eA true] 103 (0,0))):=(by show _=_;rw[dg,ba];exact aK _ _);have az:ZD WA WZ:=(by rw[dg];exact Zg _ _);have OZ:=Zb ((Gr.of (S:=λ_=>False) az).own jg (λ_ _ q=>q));have BZ:=Zb (Ze bf az);rw[<-ba];clear az dg ba
    rotate_left
    focus
     go_simp;obtain⟨WA,cn⟩:=ZG (W2.drew.alloc (dW #[E J name,E J j,E J ov,F nt ln nu,E J O,eA true] 103))
     (first|rw[<-cn]|(rw[show (W2.alloc (dW #[E J name,E J j,E J ov,F nt ln nu,E J O,eA true] 103)).drew=WA from cn.symm]))
     have br:ZD W2 WA:=(by rw[cn];exact Ze (Zh W2) (Zg _ _));obtain⟨mz,ba⟩:=ZG (W2.heap.size);have ma:WA.heap[mz]? = some (dW #[E J name,E J j,E J ov,F nt ln nu,E J O,eA true] 103 (0,0)):=(by rw[cn,ba];exact aK W2.drew _);rw[<-ba];have fp:=(Gr.of (S:=λ_=>False) br).own fo (λ_ _ q=>q);have MA:=Zb ma;have bf:=Zb br;clear cn ba ma br;refine hK.out _ _ (KS _ bf) (λam=>?_);clear hK K0 af;have af:=am;clear am;(try simp only[aH,ZA,ZB,ZC]);refine bJ (rs:=[1]) (by kernel_rfl) (by simp) ?_;refine AllReadyH.cons (o:=⟨some 160,.call { callee:=Callee.value (.func 88),args:=#[.tmp 159],argTypes:=#[29] },29, "second.go:109",#[⟨0,.data⟩],none⟩) rfl (λK0 hK=>?_) AllReadyH.nil;refine Yr (by kernel_rfl) 88 #[F ra z.length rc] (by kernel_rfl) (Vh (F ra z.length rc) z WA (by have:=Za ax;omega) fp) ?_;rintro e WZ ⟨vz,rfl,gn,az⟩;refine⟨_,rfl,?_⟩;have BZ:=Zb (Ze bf az);have OZ:=Zb (J2 gn bf.size);have MZ:=Zb (ZE az MA);clear gn az fp
    all_goals
     refine hK.out _ _ (KS _ BZ) (λam=>?_);clear hK K0 af;have af:=am;clear am;(try simp only[aH,ZA,ZB,ZC]);refine bJ (rs:=[8]) (by kernel_rfl) (by simp) ?_;refine AllReadyH.cons (o:=⟨some 167,.call { callee:=Callee.builtin Builtin.append,args:=#[.tmp 160,.tmp 166],argTypes:=#[29,29] },29, "second.go:109",#[⟨1,.data⟩,⟨7,.data⟩,⟨1,.chain⟩],none⟩) rfl (λK0 hK=>?_) AllReadyH.nil;refine step_append_lies _ (by rfl) _ _ _ (by rfl) W2.heap.size 103 i0 zeroC 6 64 bR hi kh lc ld rfl (by decide) vz z.length (Zk z) (by rfl) OZ ⟨mz,0,none⟩ 1 1 [E J name,E J j,E J ov,F nt ln nu,E J O,eA true] (by rfl) (by rfl) (World.news_of_block (cs:=#[E J name,E J j,E J ov,F nt ln nu,E J O,eA true]) MZ) (λu hu=>by simp at hu;rcases hu with rfl|rfl|rfl|rfl|rfl|rfl <;> rfl) (by decide) (by have:=Za ax;unfold cD;omega) (by have:=Za ax;omega) BZ.size _ rfl ?_;intro g8 jv w8 gm gb _ _;have fc:Hid (ZD W2 w8):=BZ.grown gb BZ.size (Y6 OZ);have jf:=Zb gm;clear gm gb OZ MZ BZ;refine hK.out _ _ (KS _ fc) (λam=>?_);clear hK K0 af;have af:=am;clear am;(try simp only[aH,ZA,ZB,ZC]);refine Zt 9 ⟨some 14,.assign (.tmp 167),29, "second.go:109",#[⟨8,.data⟩,⟨8,.chain⟩,⟨0,.phase⟩,⟨1,.phase⟩,⟨2,.phase⟩,⟨3,.phase⟩,⟨4,.phase⟩,⟨5,.phase⟩,⟨6,.phase⟩,⟨7,.phase⟩,⟨8,.phase⟩],none⟩ ?_ rfl ?_ af ?_;rotate_left
     ·(intro W ag;obtain⟨bt,bu,bv,bw,bx,_⟩:=ag;go_simp;first|done|with_reducible rfl)
     (try simp only[aH,ZA,ZB,ZC]);refine wpAnyH_done (by kernel_rfl) ?_ _;clear af
     have AS:Hid (A2 w w5 Y.heap.size w8 (F (some ⟨g8,0,none⟩) (z.length+1) jv) (z++[(((name,(j:Int),ov,bb,O,true):Zf),nt,ln,nu)])):=by
      refine⟨?_,λx hx=>?_,Ze (Ze ah.bel bz) fc⟩
      ·rw[bB,Z0];exact J2 jf (by have:=bz.size;have:=ah.bel.size;rw[fx];omega)
      ·rcases cI.1 hx with hx|hx
       ·exact ah.lks x hx
       ·rw[dN.1 hx];exact Za LK
     have L3:Hid ((z++[(((name,(j:Int),ov,bb,O,true):Zf),nt,ln,nu)]).length<=720+(j+1)):=by show _<=_;rw[bB];have:=Za ax;simp;omega
     have P3:Hid (((z++[(((name,(j:Int),ov,bb,O,true):Zf),nt,ln,nu)]).map (·.1)).Perm (Uj (Rn name j (ov,bb) O true) G)/\Srt (Uj (Rn name j (ov,bb) O true) G)):=by
      refine⟨?_,Ux HP.2⟩;rw[bW];exact Hh HP.1 HF
     have E3:Hid (Yh name O true (j+1) (nv.drop (j+1)) (Uj (Rn name j (ov,bb) O true) G)=(x4,M4)):=(GA G HF).symm.trans ds;go_wp2;go_roundw
     case rel=>first|exact⟨j+1,_,_,by omega,by go_num,L3,AS,P3,E3⟩|((repeat apply Exists.intro);refine⟨?_,rfl⟩;exact⟨j+1,_,_,by omega,by go_num,L3,AS,P3,E3⟩)
     case measure=>simp[intOf];omega
   ·have kb:nx=(i2:Int):=(by rw[<-hz,ct];simp);subst kb
    have dr:Hid ((x,M,S)=((6:Int),([]:List Zf),([]:List Zf))/\w.heap.size<=w.heap.size+1):=by
     have e:=GN G (by rw[<-Qh (Za HP).1];exact gx);rw[Za ds] at e;obtain⟨rfl,_⟩:=aX e;exact⟨fh.symm.trans (if_pos (by decide)),bZ _⟩
    have ls:¬((i2:Int)<0):=(by omega);clear hz ct dh gx ka;have CF:=Zb (Y5 6 W2);go_wp2_with fail;refine CF.mono ?_;rintro e wf ⟨rfl,ay⟩;have av:=Zb (ZE ay ik);have dq:=Zb (Ze jo ay);have kt:=Zd av 0 _ rfl;have ku:=Zi av 0;have kv:=aA av;clear ay;go_wp2;(try simp only[aO,Exit.then]);refine aR (v:=dY #[F none 0 0,.agg #[F none 0 0],E J 6]) ?_ rfl ?_
    ·rw[Zn rfl];go_simp
    ·exact (Wn dr dq).plain
  ·obtain rfl:j=no:=(by omega);have e:=Za ds;rw[Pn (by rw[Za fj];exact aE _)] at e;obtain⟨e0,e1⟩:=aX e;subst e0 e1;clear e;have ai:=Za fh;rw[if_neg (by decide)] at ai;have fi:=Zb ai;clear ai;have iq:=Zb (Mn ra z.length rc z w wr (by have:=Za ax;omega) rfl ah.own ah.lks bh);clear ei gg;go_wp2_with fail;refine iq.mono ?_;rintro e w6 ⟨a6,c6,L6,rfl,ep,ke,gp,gw,fy⟩;have e6:L6=G:=Ha gw (gp.trans HP.1) HP.2;subst e6;have ga:CoinsAt w6 a6 z.length L6:=ep w6 (Gr.refl _ _);have io:=Zb (Qq a6 z.length c6 L6 x5 w6 ga H5);have jm:=Zb ep;have iz:=Zb fy;clear ep gp gw fy ga;go_wp2_with fail;refine io.mono ?_;rintro e w7 ⟨rfl,eh⟩;have ja:=Zb eh;have dw:=Zb (Ze iz eh);have dv:=Zb (Ze bh dw);have cx:=Zb (ZE dw ey);clear eh;by_cases e5:x5=0
   ·subst e5;have ai:=Za fi;rw[if_neg (by decide)] at ai;obtain⟨rfl,e2⟩:=aX ai;obtain⟨rfl,rfl⟩:=aX e2;have fb:=Zb (Ze ah.bel dw);have fu:=Zb (ZE fb jn);have ft:=Zb ((Gr.of (S:=λ_=>False) fb).own jl (λ_ _ q=>q))
    have ff:Hid (∀ W,Gr w7 W (λq=>q=w.heap.size+1)->ApR w W 0 L6 (SK.map (·.1)) (dX (dY #[F a6 z.length c6,.agg #[F sa SK.length sc],E J 0]))):=by
     intro W hg;have fz:ZD w W:=hg.below dv dv.size (λk q=>by omega);have nc:=ah.bel.size;have kg:=hg.own ft (λk q e=>by have:=Y6 ft k q;omega);obtain⟨ko,kq,e,jz,kf⟩:=Zx kg (λx hx=>(jk x hx).later fz);obtain⟨rfl,rfl⟩:sa=ko/\sc=kq:=(by injection e with e1 e2 e3;exact⟨e1,e3⟩);exact⟨a6,z.length,c6,sa,SK.length,sc,rfl,jm W ((Gr.of ja).trans (hg.mono (λk _ q=>⟨by omega,by omega⟩))),ke,jz,kf,fz⟩
    have u0:=Zd fu 0 _ rfl;have ul:=aA fu;have r0:=Zd cx 0 _ rfl;have rl:=aA cx;have rf:=Zi cx 0;clear e2;go_wp2
    go_region
    go_wp2;(try simp only[aO,Exit.then])
    all_goals (refine aR (v:=dY #[F a6 z.length c6,.agg #[F sa SK.length sc],E J 0]) ?_ rfl ?_)
    ·rw[Zn rfl];go_simp
    ·first|exact ff _ (((Gr.refl w7 (λq=>q=w.heap.size+1)).draw).set (p:=⟨w.heap.size+1,0,none⟩) (.inl rfl) _)|exact ff _ (((Gr.refl w7 (λq=>q=w.heap.size+1)).set (p:=⟨w.heap.size+1,0,none⟩) (.inl rfl) _).draw)
   ·have dr:Hid ((x,M,S)=((x5:Int),([]:List Zf),([]:List Zf))/\w.heap.size<=w.heap.size+1):=⟨fi.symm.trans (if_pos e5),bZ _⟩;have g9:(x5 != 0)=true:=(by simp[e5]);have CF:=Zb (Y5 x5 w7);go_wp2_with fail;refine CF.mono ?_;rintro e wf ⟨rfl,ay⟩;have av:=Zb (ZE ay cx);have dq:=Zb (Ze dv ay);have kt:=Zd av 0 _ rfl;have ku:=Zi av 0;have kv:=aA av;clear ay;go_wp2;(try simp only[aO,Exit.then]);refine aR (v:=dY #[F none 0 0,.agg #[F none 0 0],E J x5]) ?_ rfl ?_
    ·rw[Zn rfl];go_simp
    ·exact (Wn dr dq).plain
