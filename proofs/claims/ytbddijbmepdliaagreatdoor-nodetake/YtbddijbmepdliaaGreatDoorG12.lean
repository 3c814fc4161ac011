import Derived.Test.YtbddijbmepdliaaGreatDoorH
import Derived.Test.YtbddijbmepdliaaGreatDoorG11b
import Derived.Lib.OwnBridge
open Option renaming none->aD,some->dG
open Go.Proofs.Tryz
open Bool renaming and_eq_true->aX
open Go renaming TypeId->aY,lt_of_block->aA,heap_alloc_new->aG,bodyPost_ret->aL,info_parts->bX,maxLen->aT,wp_region_held_drew->bC,wpAnyH_done->bZ
open Go.Ending renaming returned->dB
open Go.Exit renaming inBlock->bQ
open Go.IntKind renaming wrap_i64->aP,i64->J
open Go.Obj renaming cells->dA
open Go.Proofs.Tryz renaming prog->aB,underlying64->cH,underlying25->cR,underlying3->aN
open Go.Value renaming int->aU,int->E,slice->F,tuple->dC,bool->dF
open Go.World renaming block_lt_of_cell?->aC,news_of_block->bI,ownsRow->cP
open Go.World.ownsRow renaming cellAt->bH
open List renaming getElem?_eq_some_iff->cD,length_take->aV,getElem_mem->aQ,map_append->bN,length_append->bL,mem_append->bM,mem_singleton->cT,replicate->bP,getD_eq_getElem?_getD->cM,getElem?_eq_getElem->bR,mem_cons_self->cN,length_cons->cK,take_of_length_le->aM,take_succ_eq_append_getElem->aH
open Nat renaming zero_add->bO,zero_le->aI,le_trans->aO,le_refl->aE,lt_of_lt_of_le->aF
open Option.some renaming injEq->aZ
open Prod.mk renaming inj->cA
set_option maxHeartbeats 12800000
set_option maxRecDepth 10000
namespace Go.Proofs.YtbddijbmepdliaaGreatDoor
open Go.RowKit
structure ApS(w Y:World)(ub:Nat)(wr:World)(v sv:Value)(K SK:List CV):Prop where
 rest:wr.ownsRow Y.heap.size 162 6 v K.length (Zl K)
 box:wr.heap[ub]? = dG (dA #[sv] 123 (0,0))
 spent:wr.ownsRow Y.heap.size 162 6 sv SK.length (Zl SK)
 lks:∀ x,x∈K\/x∈SK->LkAt w x/\ck1 x.1=0
 srt:Srt (K.map (·.1))
 gr:Gr Y wr (λq=>q=ub)
 apart:∀ b,v.ownBlock=dG b->sv.ownBlock≠dG b
structure A2(w w5:World)(B:Nat)(wr:World)(v:Value)(K:List CV):Prop where
 own:wr.ownsRow B 162 6 v K.length (Zl K)
 lks:∀ x∈K,LkAt w x
 bel:ZD w5 wr
def SAo(W2:World)(b:Nat)(ov:Int)(la:Option Addr)(ln lc:Nat)(name:Int)(j:Nat)(W:World):Prop:=
 W.cell? ⟨b,0,aD⟩=dG (E J ov)/\W.cell? ⟨b,1,aD⟩=dG (F la ln lc)/\W.cell? ⟨b+1,0,aD⟩=dG (E J name)/\W.cell? ⟨b+1,1,aD⟩=dG (E J j)/\b+1<W.heap.size/\ZD W2 W
theorem Wa{w:World}{base:Nat}{e:aY}{size:Nat}{v:Value}{n:Nat}{xs}(h:w.ownsRow base e size v n xs){k:Nat}{cs}{t:aY}(hk:w.heap[k]? = dG (dA cs t (0,0)))(ht:t≠e):v.ownBlock≠dG k:=by
 intro e1;obtain⟨_,⟨rfl,_⟩|⟨g,cap,af,rfl,_,hh,_⟩⟩:=h
 ·cases e1
 ·have e2:g=k:=by injection e1
  subst e2;rw[hh] at hk;injection hk with hk;injection hk with _ hk;exact ht hk.symm
theorem Zbh{W:World}{base g cap:Nat}{K:List CV}(ho:W.ownsRow base 162 6 (F (dG ⟨g,0,aD⟩) K.length cap) K.length (Zl K))(j rc:Nat)(hj:j+1<=K.length)(hr:K.length<=rc)(ya:Addr)(hy:rc≠j+1->ya=⟨g,(j+1)*6,aD⟩) :
  (∀ i u,(Zl (K.take j))[i]? = dG u->W.cell? ((⟨g,0,aD⟩:Addr).add i)=dG u)/\(∀ i u,(Zl (K.drop (j+1)))[i]? = dG u->W.cell? (ya.add i)=dG u):=by
 constructor
 ·intro i u h
  have hi:i<j*6:=by
   have:=(cD.1 h).1;rw[Z7,aV] at this;omega
  rw[<-V5,List.getElem?_take_of_lt hi] at h;rw[Addr.add_lit,bO,bH ho i (by omega)];exact h
 ·intro i u h;have hi:=(cD.1 h).1;rw[Z7,List.length_drop] at hi;rw[<-V6,List.getElem?_drop] at h;rw[hy (by omega),Addr.add_lit,bH ho _ (by omega)];exact h
theorem Em{l k}{h:Int}(h1:chk l=0)(h2:chk k=0)(h3:hOk h=true):Ue l k h=Xb l k h:=by
 unfold Xb Ue Vl;rw[if_pos h1,if_pos h2,if_pos h3,decide_eq_true rfl,Bool.true_and];rfl
theorem Ztc{h:Int}(h1:¬h<1)(h2:¬1000<h):hOk h=true:=by
 unfold hOk;simp only[aX,decide_eq_true_eq];omega
theorem Zfg:∀ {pre I:List InD},Z8 pre I=0->∀ x∈I,chk x.2.2=0
 | _,[],_=>λx hx=>by cases hx
 | pre,y :: r,h=>λx hx=>by
  unfold Z8 at h;split at h
  ·rename_i q
   rcases List.mem_cons.1 hx with rfl|hx
   ·unfold Wt at q;split at q
    ·cases q
    ·split at q
     ·rename_i q3;exact absurd q q3
     ·rename_i q3;simpa using q3
   ·exact Zfg h x hx
  ·rename_i q;exact absurd h q
theorem Vj{w W:World}{x:Int}{M S}(y:Int)(ac:W.heap[w.heap.size+1]? = dG (dA [F aD 0 0].toArray 123 (0,0)))(hb:ZD w W)(h:(x,M,S)=(y,([]:List Zi),([]:List Zi))) :
  Calls aB 97 #[E J y] W λr wf=>r = dB (dC #[F aD 0 0,.agg #[F aD 0 0],E J y])/\wf.cell? ⟨w.heap.size+1,0,aD⟩=dG (F aD 0 0)/\wf.frozen? ⟨w.heap.size+1,0,aD⟩=false/\w.heap.size+1<wf.heap.size/\∀ v,ApR w (wf.setCell ⟨w.heap.size+1,0,aD⟩ v) x M S (dB (dC #[F aD 0 0,.agg #[F aD 0 0],E J y])):=
 (Zef y W).mono λ_ _ ⟨e,aa⟩=>
  have B:=ZE aa ac
  ⟨e,Zd B 0 _ rfl,Zg B 0,aA B,λ_=>(Gn ⟨h,Nat.le_succ _⟩ (Zf hb aa)).plain⟩
theorem Hu(a n c L)(h:Int)(ai ao ni ci no co I O)(name ht:Int)(x:Int)(M S w)(hL:CoinsAt w a n L)(sL:SlOk a n c)(hI:InsAt w ai ni I)(hO:OutsAt w ao no O)(df:Zy L)(dg:Zp (h,I,O)=0)(hx:apD L (h,I,O) name ht=(x,M,S)) :
  Calls aB 59 #[F a n c,.agg #[E J h,F ai ni ci,F ao no co],E J name,E J ht] w λe w'=>ApR w w' x M S e:=by
 obtain⟨X0,dh⟩:=ZG ((w.alloc (dA #[E J h,F ai ni ci,F ao no co] 50)).alloc (dA #[F aD 0 0] 123));have ep:ZD w X0:=by rw[dh];exact Zf (Zh _ _) (Zh _ _)
 have ii:X0.heap[w.heap.size]? = dG (dA [E J h,F ai ni ci,F ao no co].toArray 50 (0,0)):=by
  rw[dh,Below.heap_alloc _ _ _ (by simp)];exact Zu _ _ _ _ _
 have ij:X0.heap[w.heap.size+1]? = dG (dA [F aD 0 0].toArray 123 (0,0)):=by
  rw[dh];have:=aG (w.alloc (dA #[E J h,F ai ni ci,F ao no co] 50)) (dA #[F aD 0 0] 123);rw[show (w.alloc (dA #[E J h,F ai ni ci,F ao no co] 50)).heap.size=w.heap.size+1 by simp] at this;exact this
 obtain⟨wm,ja⟩:=ZG (decide (ni=0));obtain⟨bd,es⟩:=ZG (decide (name<1\/120<name\/ht<1\/1000<ht));have hR:isR (h,I,O)=wm:=by unfold isR;rw[hI.1,ja]
 have AR:Hid (bd=true->(x,M,S)=((3:Int),([]:List Zi),([]:List Zi))):=λq=>Zix df dg (by rw[es] at q;unfold okN okH;simp only[Bool.and_eq_false_iff,decide_eq_false_iff_not];simp only[decide_eq_true_eq] at q;omega) hx;have ok:bd=false->(okN name && okH ht)=true:=λq=>by rw[es] at q;unfold okN okH;simp only[aX,decide_eq_true_eq];simp only[decide_eq_false_iff_not] at q;omega
 have AF:Hid (bd=false->(wm && h != ht)=true->(x,M,S)=((4:Int),([]:List Zi),([]:List Zi))):=λq q2=>Zoc df dg (ok q) (by rw[hR];simp at q2;exact q2) hx;obtain⟨⟨x2,S2,M2⟩,h2⟩:=ZF (Zs ht I [] L);obtain⟨x3,h3⟩:=ZF (N7 S2 (h,I,O));obtain⟨⟨x4,M4⟩,h4⟩:=ZF (Yp name ht wm 0 O M2);obtain⟨x5,h5⟩:=ZF (Zz M4)
 have rj:Hid (bd=false->(wm && h != ht)=false->(if x2≠0 then (x2,([]:List Zi),([]:List Zi)) else if x3≠0 then (x3,[],[]) else if x4≠0 then (x4,[],[]) else if x5≠0 then (x5,[],[]) else (0,M4,S2))=(x,M,S)):=λq q2=>by
  rw[Zeg (Zea df dg (ok q) (by rw[hR];intro e;simp[e.1] at q2;exact e.2 q2)) h2 h3 (by rw[hR];exact h4) h5,if_neg (by decide)] at hx;exact hx
 have qs:Hid (bd=false->hOk ht=true):=λq=>by rw[es] at q;simp only[decide_eq_false_iff_not] at q;exact Ztc (by omega) (by omega)
 have fe:=Zb es;obtain⟨t1,t2,t3,_,tI,_⟩:=Xc dg;have vz:ni<=6:=by rw[<-hI.1];exact t1
 have sr:no<=6:=by rw[<-hO.1];exact t2
 have hn:n<=720:=by rw[<-hL.1];exact df.len
 obtain⟨qz,rd,qu⟩:=kh3 (Jn dg) hR (Zfg tI);obtain⟨Y,hY⟩:=ZG (X0.alloc (dA #[F aD 0 0] 123));have dj:ZD X0 Y:=by rw[hY];exact Zh _ _
 have ik:Y.heap[X0.heap.size]? = dG (dA #[F aD 0 0] 123 (0,0)):=by rw[hY];exact aG _ _
 have nb:X0.heap.size=w.heap.size+1+1:=by rw[dh];simp
 have nf:Y.heap.size=w.heap.size+1+1+1:=by rw[hY];simp[nb]
 rw[nb] at ik;have C1:=Zb (Ba a n c L w Y (Zf ep dj) (by omega) hL sL);have HI:=Zb (λw' (hb:ZD X0 w')=>(hI.later ep).later hb);have HO:=Zb (λw' (hb:ZD X0 w')=>(hO.later ep).later hb);obtain⟨ra,gi,ki,rk,an,rn,H2,H3⟩:=kh8 hO ep dj ii ij ik h2 h3;obtain⟨H4,H5,gs,kx,ky,vl⟩:=kh6 h4 h5 df hI.1 hO.1 hL.1;obtain⟨pp,pr,pu,xl⟩:=kc3 ii;have vr:w.heap.size+1<X0.heap.size:=aA ij;have va:=Ze dj pp;have pw:=Ze dj pr;have vb:=Ze dj pu;have g0:((ni:Int) == 0)=wm:=by rw[ja,Bool.eq_iff_iff];simp
 clear ja es ok hL sL hI hO df dg hx ii ij ep dj ik h2 h3 h4 h5 hR t1 t2 t3 tI;go_enter func59,ntmps59
 go_upto_region 2 with fail
 rw[<-dh];clear dh
 go_cut [36] from 23 to 36 (λws W=>ws = dF bd/\X0=W)
 case first=>
  by_cases n1:name<1
  ·obtain rfl:bd=true:=fe.trans (by simp[n1]);go_wp2_with fail;go_meet
   case rel=>exact⟨rfl,rfl⟩
  by_cases n2:120<name
  ·obtain rfl:bd=true:=fe.trans (by simp[n2]);go_wp2_with fail;go_meet
   case rel=>exact⟨rfl,rfl⟩
  by_cases n3:ht<1
  ·obtain rfl:bd=true:=fe.trans (by simp[n3]);go_wp2_with fail;go_meet
   case rel=>exact⟨rfl,rfl⟩
  obtain rfl:bd=decide (1000<ht):=fe.trans (by simp[n1,n2,n3]);go_wp2_with fail;go_meet
  case rel=>exact⟨rfl,rfl⟩
 obtain⟨rfl,rfl⟩:=hcut;cases bd with
 | true=>
  have aq:=Zb (AR rfl);go_wp2_with fail;refine (Vj 3 an gi aq).mono ?_;rintro e wf ⟨rfl,cu,cw,cx,hE⟩;go_wp2;(try simp only[bQ,Exit.then]);refine aL (v:=dC #[F aD 0 0,.agg #[F aD 0 0],E J 3]) ?_ rfl (hE _);rw[Yc rfl];go_simp
 | false=>
 have kq:=Zb (qs rfl);have sw:∃ wu,wu=(wm && h != ht):=⟨_,rfl⟩;obtain⟨wu,nx⟩:=sw;have ff:=Zb nx;clear nx
 go_upto_region 5 with fail
 go_cut [52] from 46 to 52 (λws W=>ws = dF wu/\X0=W)
 case first=>
  cases wm with
  | true=>
   obtain rfl:wu=(h != ht):=Za ff;go_wp2_with fail;go_meet
   case rel=>exact⟨rfl,rfl⟩
  | false=>
   obtain rfl:wu=false:=Za ff;go_wp2_with fail;go_meet
   case rel=>exact⟨rfl,rfl⟩
 obtain⟨rfl,rfl⟩:=hcut;cases wu with
 | true=>
  have aq:=Zb (AF rfl ff.symm);go_wp2_with fail;refine (Vj 4 an gi aq).mono ?_;rintro e wf ⟨rfl,cu,cw,cx,hE⟩;go_wp2;(try simp only[bQ,Exit.then]);refine aL (v:=dC #[F aD 0 0,.agg #[F aD 0 0],E J 4]) ?_ rfl (hE _);rw[Yc rfl];go_simp
 | false=>
 have HX:=Zb (rj rfl ff.symm);go_wp2_with fail;rw[<-hY];clear hY;refine C1.mono ?_;rintro e w2 ⟨v,K,rfl,eh,bv,ho,aw⟩;have xb:=Ze aw pw;have tz:=aC _ _ xb
 have ST:Hid (ApS w Y (w.heap.size+1+1) w2 v (F aD 0 0) K []):=by
  refine⟨ho,(aw.block _ (by omega)).trans rn,⟨rfl,.inl ⟨rfl,rfl⟩⟩,λx hx=>?_,by rw[eh];exact gs.srt,Gr.of aw,λ_ _ e=>by cases e⟩
  rcases hx with hx|hx
  ·exact⟨bv x hx,gs.one x.1 (by rw[<-eh];exact List.mem_map_of_mem hx)⟩
  ·cases hx
 have EQ:Hid (Zs ht (I.drop 0) (([]:List CV).map (·.1)) (K.map (·.1))=(x2,S2,M2)):=by show _=_;rw[eh];exact Za H2
 have LN:Hid (K.length<=720):=by show _<=_;rw[<-List.length_map (f:=λ(x:CV)=>x.1),eh];exact gs.len
 clear eh bv ho aw va pw vb pp pr pu;go_wp2
 go_loopw [14,63] (λrv i wr=>∃ (k:Nat) (K SK:List CV) (sv:Value),k<=ni/\i = E J k/\Hid (SK.length=k)/\Hid (K.length<=720)/\Hid (ApS w Y (w.heap.size+1+1) wr rv sv K SK)/\Hid (Zs ht (I.drop k) (SK.map (·.1)) (K.map (·.1))=(x2,S2,M2))) (λ_ i _=>ni - (intOf i).toNat)
 case atStart=>exact⟨0,K,[],_,aI _,rfl,rfl,LN,ST,EQ⟩
 case round=>
  clear xb tz;obtain⟨k,K,SK,sv,hk,rfl,gp,dx,HS,HE⟩:=hrel;have de:ZD X0 wr:=HS.gr.below ki ki.size (λq e=>by omega);obtain⟨vi,du,BU,BT⟩:=kh4 de (Zf gi de) (ZE de an) (ZE de rk);by_cases fw:k<ni
  ·have bv:k<I.length:=(by rw[Za kx];exact fw);obtain⟨xc,xh,rfl,_,nt⟩:=(HI wr de).2 (by omega);have nz:=nt k bv;obtain⟨q,hq⟩:=ZF (I[k]);have SN:=Zb (λcn=>Sq ht I k bv (SK.map (·.1)) (K.map (·.1)) cn);have ou:q∈I:=hq ▸ aQ bv;have iz:=qu q ou;rw[hq] at nz SN;obtain⟨p1,p2,pk⟩:=q;obtain⟨i0,i1,ka,kn,kc,i2,pd,wd⟩:=nz;simp only at i0 i1 i2 pd SN iz;have fx:∀ x∈K,LkAt wr x:=λx hx=>(HS.lks x (.inl hx)).1.later du;obtain⟨wq,rc,rfl,cl,ow⟩:=Yr HS.rest fx;obtain⟨W1,br⟩:=ZG (wr.alloc (dA #[E J p1,E J p2,F ka kn kc] 90));have cg:ZD wr W1:=(by rw[br];exact Zh _ _);obtain⟨z,hz⟩:=ZF (plc (p1,p2) (K.map (·.1)) 0);obtain⟨CP,gj,vj⟩:=kh3 (Ln wq K.length rc (K.map (·.1)) (p1,p2) z W1 (by have:=Za dx;omega) (cl.later cg) hz) cg cl;have xg:xc<wr.heap.size:=aC _ _ i0;clear cg cl nt ou;go_wp2_with fail;rw[<-br];go_wp2_with fail;refine CP.mono ?_;rintro e W2 ⟨rfl,aw⟩;have bo:=Zb (Zf gj aw);obtain⟨kg,fb⟩:=kh2 (Zf du bo) (ZE bo BU)
   have IB:Hid (W2.heap[wr.heap.size]? = dG (dA [E J p1,E J p2,F ka kn kc].toArray 90 (0,0))):=by
    show _=_;have e:W1.heap[wr.heap.size]? = dG (dA [E J p1,E J p2,F ka kn kc].toArray 90 (0,0)):=(by rw[br];exact Zu _ _ _ _ _);exact ZE aw e
   clear aw CP br i0 i1 i2
   rcases Lv (p1,p2) (K.map (·.1)) 0 with ⟨am,be⟩|⟨j,hj,am,be,fy⟩
   ·obtain rfl:z = -1:=hz.symm.trans am
    have aq:Hid ((x,M,S)=((7:Int),([]:List Zi),([]:List Zi))):=by
     have e:=SN (Zjs be);rw[Za HE] at e;obtain⟨rfl,_⟩:=cA e;exact HX.symm.trans (if_pos (by decide))
    clear hz am be;go_wp2_with fail;refine (Vj 7 fb kg aq).mono ?_;rintro e wf ⟨rfl,cu,cw,cx,hE⟩;go_wp2;(try simp only[bQ,Exit.then]);refine aL (v:=dC #[F aD 0 0,.agg #[F aD 0 0],E J 7]) ?_ rfl (hE _);rw[Yc rfl];go_simp
   ·have iu:z=(j:Int):=(by rw[<-hz,am];simp);subst iu;clear hz am fy;have oa:j<K.length:=(by simpa using hj);have TK:=Zb (Dl HS.srt j hj be);obtain⟨wx,io⟩:=ZF (K[j]);have nw:wx∈K:=io ▸ aQ oa
    obtain⟨g,rfl⟩:∃ g,wq=dG ⟨g,0,aD⟩:=by
     rcases HS.rest.2 with ⟨e,q⟩|⟨g,cap,vn,e,_⟩
     ·omega
     ·exact⟨g,by injection e⟩
    have fl:=Zb ((Gr.of (S:=λ_=>False) bo).own HS.rest (λ_ _ q=>q));obtain⟨f0,f1,f2,f3,f4,f5⟩:=Q7 K j oa;have wt:=λu (hu:u<6)=>bH fl (j*6+u) (by omega);have m0:=(wt 0 (by decide)).trans f0;rw[Nat.add_zero] at m0;have m1:=(wt 1 (by decide)).trans f1;have m2:=(wt 2 (by decide)).trans f2;have m3:=(wt 3 (by decide)).trans f3;have m4:=(wt 4 (by decide)).trans f4;have m5:=(wt 5 (by decide)).trans f5;have nu:=HS.lks wx (.inl nw);have SL:=Zb (λM1 c1 cn hl=>Ss ht I k bv (SK.map (·.1)) (K.map (·.1)) M1 c1 cn hl);have SY:=Zb (λM1 c1 cn hl ho=>Gp ht I k bv (SK.map (·.1)) (K.map (·.1)) M1 c1 cn hl ho);have SO:=Zb (λM1 c1 cn hl ho=>Ld ht I k bv (SK.map (·.1)) (K.map (·.1)) M1 c1 cn hl ho);rw[List.getElem_map,io] at TK;rw[io] at m0 m1 m2 m3 m4 m5;have qq:=Zb nu;obtain⟨⟨c1,c2,wo,lk,hg,rr⟩,la,ln,lc⟩:=wx;simp only[cv,ch,cr] at m0 m1 m2 m3 m4 m5;obtain⟨W3,fu⟩:=ZG (W2.alloc (dA #[E J c1,E J c2,E J wo,F la ln lc,E J hg,dF rr] 162));have eq:ZD W2 W3:=(by rw[fu];exact Zh _ _);have CB:Hid (W3.heap[W2.heap.size]? = dG (dA [E J c1,E J c2,E J wo,F la ln lc,E J hg,dF rr].toArray 162 (0,0))):=(by show _=_;rw[fu];exact aG _ _);obtain⟨kd,gm,jp,ro⟩:=kh4 (Zf bo eq) (Zf kg eq) (ZE eq fb) (ZE eq IB);obtain⟨⟨lO,lS⟩,nr⟩:=nu;simp only[ck] at lO lS;have am:=Yt nr;simp only[cv,ch,ck] at am;obtain⟨LO,KO⟩:=kh2 (lO.later gm) (pd.later kd);have xf:g<W2.heap.size:=aC _ _ m0
    have vw:(j:Int)<(K.length:Int):=(by omega);have nv:=am.2.2.2.2.2.2.2.2;have vu:1<=hg/\hg<=1000:=⟨am.2.2.2.2.2.2.1,am.2.2.2.2.2.2.2.1⟩;clear eq f0 f1 f2 f3 f4 f5 wt nw lO am nr be;obtain⟨lt,oe⟩:=ZG ((rr && decide (ht<hg+2)));have fg:=Zb oe;clear oe;obtain⟨-,-,-,-,q4,q5,ql⟩:=kc6 CB
    go_upto_region 16 with fail
    rw[<-fu];clear fu
    go_cut [90] from 82 to 90 (λws W=>ws = dF lt/\W3=W)
    case first=>
     cases rr with
     | true=>
      obtain rfl:lt=decide (ht<hg+2):=Za fg;go_wp2_with fail;go_meet
      case rel=>exact⟨rfl,rfl⟩
     | false=>
      obtain rfl:lt=false:=Za fg;go_wp2_with fail;go_meet
      case rel=>exact⟨rfl,rfl⟩
    obtain⟨rfl,rfl⟩:=hcut;clear q4 q5 ql;cases lt;rotate_left
    ·have od:=Za fg
     have aq:Hid ((x,M,S)=((10:Int),([]:List Zi),([]:List Zi))):=by
      have e:=SL _ _ (by rw[hq];exact Za TK) (by have:=od.symm;rw[aX,decide_eq_true_eq] at this;exact this);rw[Za HE] at e;obtain⟨rfl,_⟩:=cA e;exact HX.symm.trans (if_pos (by decide))
     clear od;go_wp2_with fail;refine (Vj 10 jp gm aq).mono ?_;rintro e wf ⟨rfl,cu,cw,cx,hE⟩;go_wp2;(try simp only[bQ,Exit.then]);refine aL (v:=dC #[F aD 0 0,.agg #[F aD 0 0],E J 10]) ?_ rfl (hE _);rw[Yc rfl];go_simp
    ·have NL:Hid (¬(cr ((c1,c2,wo,lk,hg,rr):Zi)=true/\ht<ch ((c1,c2,wo,lk,hg,rr):Zi)+2)):=λq=>by have h2:=Za fg;obtain⟨q1,q2⟩:=q;have q1:rr=true:=q1;have q2:ht<hg+2:=q2;simp[q1,q2] at h2
     have OB:∃ wv,Ue lk pk ht=wv:=⟨_,rfl⟩;obtain⟨wv,iy⟩:=OB;have C5:=Zb (Zcp la ka ln lc kn kc lk pk ht W3 LO KO nv iz kq);rw[iy] at C5;have kt:Hid (Xb lk pk ht=wv):=(by show _=_;rw[<-Em nv iz kq];exact iy);clear iy;obtain⟨q0,q1,q2,q3,q4,q5,ql⟩:=kc6 CB;obtain⟨r0,-,r2,xa⟩:=kc3 ro;obtain⟨-,-,s2,xd⟩:=kc3 IB;go_wp2_with fail;refine C5.mono ?_;rintro e W4 ⟨rfl,er⟩;obtain⟨dt,qp,qa,qd⟩:=kh4 (Zf kd er) (Zf gm er) (ZE er jp) (ZE er CB);clear er q0 q1 q2 q3 q4 q5 ql r0 r2 xa s2 xd m0 m1 m2 m3 m4 m5 LO KO;cases wv with
     | false=>
      have aq:Hid ((x,M,S)=((8:Int),([]:List Zi),([]:List Zi))):=by
       have e:=SY _ _ (by rw[hq];exact Za TK) NL (by rw[hq];exact Za kt);rw[Za HE] at e;obtain⟨rfl,_⟩:=cA e;exact HX.symm.trans (if_pos (by decide))
      go_wp2_with fail;refine (Vj 8 qa qp aq).mono ?_;rintro e wf ⟨rfl,cu,cw,cx,hE⟩;go_wp2;(try simp only[bQ,Exit.then]);refine aL (v:=dC #[F aD 0 0,.agg #[F aD 0 0],E J 8]) ?_ rfl (hE _);rw[Yc rfl];go_simp
     | true=>
      have jt:=Zb (ZE dt HS.box);have lp:=(Gr.of (S:=λ_=>False) dt).own HS.spent (λ_ _ q=>q);have lh:=Zb ((Gr.of (S:=λ_=>False) dt).own HS.rest (λ_ _ q=>q));have dl:=Zh W4 (dA #[E J c1,E J c2,E J wo,F la ln lc,E J hg,dF rr] 162);obtain⟨fm,li,gf,lf,bu⟩:=kh5 ((Gr.of (S:=λ_=>False) dl).own lp (λ_ _ q=>q)) ((Gr.of (S:=λ_=>False) dl).own lh (λ_ _ q=>q)) (ZE dl jt) (bI (aG W4 (dA #[E J c1,E J c2,E J wo,F la ln lc,E J hg,dF rr] 162))) (Zf dt dl);have YS:Y.heap.size<=(W4.alloc (dA #[E J c1,E J c2,E J wo,F la ln lc,E J hg,dF rr] 162)).heap.size:=aO HS.gr.size (aO dt.size dl.size);have vm:SK.length<=6:=(by have:=Za gp;omega);obtain⟨i0,hi,jc,am,be⟩:=bX Tryz.infoCoin;obtain⟨u0,ul⟩:=kc1 jt;obtain⟨v0,v1,v2,v3,v4,v5,xe⟩:=kc6 qd;clear dl lp
      go_wp2_with (at_builtin;refine wpList_append_lies _ rfl _ _ 64 rfl Y.heap.size 162 i0 zeroC 6 64 cH hi jc am be rfl (by decide) _ _ _ rfl fm ⟨W4.heap.size,0,aD⟩ 1 1 [E J c1,E J c2,E J wo,F la ln lc,E J hg,dF rr] rfl rfl lf (λu hu=>by simp at hu;rcases hu with rfl|rfl|rfl|rfl|rfl|rfl <;> rfl) (by decide) (by unfold aT;omega) (by omega) YS _ rfl ?_;intro g7 id w7 om ir su _;have eu:=(ir.block (w.heap.size+1+1) (aA gf) (λe=>Wa fm gf (by decide) e.symm)).trans gf;have gw:=Zb eu;have ks:=Zb om;have ko:=Zb ir;have vc:=Zd eu 0 _ rfl;have ve:=aA eu;have vd:=Zg eu 0;clear eu om ir su)
      obtain⟨W8,ek⟩:=ZG (w7.setCell ⟨w.heap.size+1+1,0,aD⟩ (F (dG ⟨g7,0,aD⟩) (SK.length+1) id));have G7:Gr (W4.alloc (dA #[E J c1,E J c2,E J wo,F la ln lc,E J hg,dF rr] 162)) w7 (λq=>sv.ownBlock=dG q):=(Gr.refl _ _).grown ko (λq e=>.inl e);have gy:=G7.own li (λq e=>HS.apart q e);have G8:Gr w7 W8 (λq=>q=w.heap.size+1+1):=(by rw[ek];exact (Gr.refl w7 (λq=>q=w.heap.size+1+1)).set (p:=⟨w.heap.size+1+1,0,aD⟩) (.inl rfl) _);obtain⟨lj,lq⟩:=kh2 (G8.own gy (λq e e2=>Wa gy gw (by decide) (by rw[<-e2];exact e))) (G8.own ks (λq e e2=>Wa ks gw (by decide) (by rw[<-e2];exact e)));have qb:Hid (W8.heap[w.heap.size+1+1]? = dG (dA #[F (dG ⟨g7,0,aD⟩) (SK.length+1) id] 123 (0,0))):=by show _=_;rw[ek];exact Uf gw
      have kb:Hid (Gr Y W8 (λq=>q=w.heap.size+1+1)):=by
       have e1:=((HS.gr.on bu).grown ko (λq e=>.inr (Xz fm q e)));show Gr _ _ _;rw[ek];exact e1.set (p:=⟨w.heap.size+1+1,0,aD⟩) (.inl rfl) _
      have vh:Hid (g<W8.heap.size):=lj.lt g rfl |>.2;have sg:K.length<=rc:=ow.1;rw[<-ek];clear ek G7 gy G8 fm li lh lf vc ve vd u0 ul v0 v1 v2 v3 v4 v5 xe;have vk:=Zb (Zj W8);have vx:j<=rc:=(by omega);have wa:IntKind.i64.wrap ((j:Int)+1)=((j+1:Nat):Int):=(by have:=Za dx;rw[aP];omega);have sq:j+1<=K.length:=(by omega);have vv:j+1<=rc:=by omega
      obtain⟨ya,oy,oz⟩:∃ ya:Addr,(if rc=j+1 then dG (⟨g,0,aD⟩:Addr) else dG ⟨g,(j+1)*6,aD⟩)=dG ya/\(rc≠j+1->ya=⟨g,(j+1)*6,aD⟩):=by
       by_cases e:rc=j+1
       ·exact⟨⟨g,0,aD⟩,if_pos e,λq=>absurd e q⟩
       ·exact⟨⟨g,(j+1)*6,aD⟩,if_neg e,λ_=>rfl⟩
      obtain⟨rl,rm⟩:=kh2 oy oz;clear oy oz;refine bC (S:=λW=>ZD W8 W) (by kernel_rfl) (Zj _) (λae=>?_);refine tkL 0 rfl ae ?_;refine tkL 1 rfl ae ?_;refine tkL 2 (v:=F (dG ⟨g,0,aD⟩) j rc) rfl ae ?_;refine tkL 3 rfl ae ?_;refine tkL 4 rfl ae ?_;refine tkL 5 rfl ae ?_;refine tkL 6 (v:=F (dG ya) (K.length - (j+1)) (rc - (j+1))) (hy:=by intro W vq;go_simp;rw[if_pos ⟨by omega,by omega⟩,Za rl]) rfl ae ?_;obtain⟨W9,el⟩:=ZG ((W8.alloc (dA #[F (dG ⟨g,0,aD⟩) j rc,F (dG ya) (K.length - (j+1)) (rc - (j+1))] 64)).drew);have im:ZD W8 W9:=(by rw[el];exact Zf (Zh W8 _) (Zj _));have wy:W9.heap[W8.heap.size]? = dG (dA [F (dG ⟨g,0,aD⟩) j rc,F (dG ya) (K.length - (j+1)) (rc - (j+1))].toArray 64 (0,0)):=(by rw[el];exact aG _ _);have lm:=(Gr.of (S:=λ_=>False) im).own lj (λ_ _ q=>q);obtain⟨cl1,cl2⟩:=Zbh lm j rc sq sg ya rm;obtain⟨CC,gl⟩:=kh2 (Zat W8.heap.size ⟨g,0,aD⟩ ya j rc (K.length - (j+1)) (rc - (j+1)) (K.take j) (K.drop (j+1)) W9 (by have:=Za dx;omega) (by rw[aV];omega) (by rw[List.length_drop]) cl1 cl2 (Zd wy 0 _ rfl) (Zd wy 1 _ rfl)) im;clear cl1 cl2 lm wy im;refine rdY 7 rfl (λK0 hK=>?_);go_simp
      (first|rw[<-el]|(rw[show (W8.drew).alloc (dA #[F (dG ⟨g,0,aD⟩) j rc,F (dG ya) (K.length - (j+1)) (rc - (j+1))] 64)=W9 from el.symm]))
      refine hK.out _ _ gl (λhHeld2=>?_);clear hK K0 ae el;have ae:=hHeld2;clear hHeld2;(try simp only[Act.put,ZA,ZB,ZC]);refine rdY 8 rfl (λK0 hK=>?_);refine Zq (by kernel_rfl) 101 #[F (dG ⟨W8.heap.size,0,aD⟩) 2 2] (by kernel_rfl) CC ?_;rintro e ry ⟨tv,rfl,oh,nh⟩;refine⟨_,rfl,?_⟩;obtain⟨fd,kr⟩:=kh2 (Zf gl nh) oh;have S9:=gl.size;clear CC oh nh;refine hK.out _ _ fd (λhHeld2=>?_);clear hK K0 ae;have ae:=hHeld2;clear hHeld2;refine tkL 9 rfl ae ?_;refine bZ (by kernel_rfl) ?_ _;clear ae;have iw:∀ (A:List CV),(A.take j++A.drop (j+1)).map (·.1)=(A.map (·.1)).take j++(A.map (·.1)).drop (j+1):=λA=>by rw[bN,List.map_take,List.map_drop]
      have ix:(K.take j++K.drop (j+1)).length=j+(K.length - (j+1)):=by rw[bL,aV,List.length_drop];omega
      have AS:Hid (ApS w Y (w.heap.size+1+1) ry tv (F (dG ⟨g7,0,aD⟩) (SK.length+1) id) (K.take j++K.drop (j+1)) (SK++[(((c1,c2,wo,lk,hg,rr):Zi),la,ln,lc)])):=by
       have sy:=(Gr.of (S:=λ_=>False) fd).own lq (λ_ _ q=>q);refine⟨?_,ZE fd qb,?_,λx hx=>?_,?_,kb.on fd,λb e e2=>?_⟩
       ·rw[ix];exact L0 kr (aO kb.size S9)
       ·rw[bL,Yi];exact sy
       ·rcases hx with hx|hx
        ·rcases bM.1 hx with hx|hx
         ·exact HS.lks x (.inl (List.mem_of_mem_take hx))
         ·exact HS.lks x (.inl (List.mem_of_mem_drop hx))
        ·rcases bM.1 hx with hx|hx
         ·exact HS.lks x (.inr hx)
         ·rw[cT.1 hx];exact Za qq
       ·rw[iw];exact Dj TK HS.srt
       ·have q1:=Xz kr b e;have q2:=(lq.lt g7 rfl).2;have q3:g7=b:=(by injection e2);omega
      have kj:Hid (Zs ht (I.drop (k+1)) ((SK++[(((c1,c2,wo,lk,hg,rr):Zi),la,ln,lc)]).map (·.1)) ((K.take j++K.drop (j+1)).map (·.1))=(x2,S2,M2)):=by
       have e:=SO _ _ (by rw[hq];exact Za TK) NL (by rw[hq];exact Za kt);rw[Za HE] at e;show _=_;rw[iw,bN];exact e.symm
      have L2:Hid ((SK++[(((c1,c2,wo,lk,hg,rr):Zi),la,ln,lc)]).length=k+1):=(by show _=_;rw[bL,Za gp];rfl);have L3:Hid ((K.take j++K.drop (j+1)).length<=720):=(by show _<=_;rw[ix];have:=Za dx;omega);clear iw ix;go_wp2;go_roundw
      case rel=>first|exact⟨k+1,_,_,_,by omega,by go_num,L2,L3,AS,kj⟩|((repeat apply Exists.intro);refine⟨?_,rfl⟩;exact⟨k+1,_,_,_,by omega,by go_num,L2,L3,AS,kj⟩)
      case measure=>simp[intOf];omega
  ·obtain rfl:k=ni:=(by omega);have e:=Za HE;rw[Gq ht I k (by rw[Za kx];exact aE _)] at e;obtain⟨e0,e2⟩:=cA e;obtain⟨e3,e4⟩:=cA e2;subst e0 e3 e4;have an:=Za HX;rw[if_neg (by decide)] at an;have ku:=Zb an;clear an e e2;have oc:∀ x∈SK,LkAt wr x:=λx hx=>(HS.lks x (.inr hx)).1.later du;obtain⟨ww,sc,rfl,ov,te⟩:=Yr HS.spent oc;have jo:=Za BT;obtain⟨t0,t1,t2,tl⟩:=kc3 jo;have u0:=Zd HS.box 0 _ rfl;have ul:=aA HS.box;obtain⟨d,hd⟩:=ZF (Zm (SK.map (·.1)) - Yk O)
   have qe:=Zb (Af ww SK.length sc (SK.map (·.1)) h ai ao k ci no co O d wr (by have:=Za gp;omega) sr ov (HO wr de) (λc hc=>by
    obtain⟨y,hy,rfl⟩:=List.mem_map.1 hc;have q:=Yt (HS.lks y (.inr hy)).2;exact⟨by omega,by omega⟩) qz hd)
   have dv:Hid (x3=if d<0/\wm=false then 9 else 0):=by
    show _=_;rw[<-Za H3];unfold N7;simp only[hd,Za rd]
   clear jo ov te oc fw hd
   go_upto_region 23 with fail
   go_cut [133] from 125 to 133 (λws W=>∃ b:Bool,ws = dF b/\Hid (x3=if b=true then 9 else 0)/\Hid (ZD wr W))
   case first=>
    cases wm with
    | true=>
     go_wp2_with fail;go_meet
     case rel=>exact⟨false,rfl,dv.trans (by simp),Below.refl _ _⟩
    | false=>
     go_wp2_with fail;refine qe.mono ?_;rintro e w5 ⟨rfl,si⟩;go_wp2_with fail;go_meet
     case rel=>exact⟨decide (d<0),rfl,dv.trans (by simp),si⟩
   obtain⟨b,rfl,dv,bu⟩:=hcut;obtain⟨w5,rfl⟩:=ZG (wc);clear t0 t1 t2 tl u0 ul;obtain⟨kh,jq,pz⟩:=kh3 (Zf du bu) (ZE bu BU) (ZE bu BT);by_cases og:b=true
   ·subst og
    have aq:Hid ((x,M,S)=((9:Int),([]:List Zi),([]:List Zi))):=by
     have e:=Za dv;rw[if_pos rfl] at e;subst e;exact ku.symm.trans (if_pos (by decide))
    go_wp2_with fail;refine (Vj 9 jq kh aq).mono ?_;rintro e wf ⟨rfl,cu,cw,cx,hE⟩;go_wp2;(try simp only[bQ,Exit.then]);refine aL (v:=dC #[F aD 0 0,.agg #[F aD 0 0],E J 9]) ?_ rfl (hE _);rw[Yc rfl];go_simp
   ·obtain rfl:b=false:=(by simpa using og);have e:=Za dv;rw[if_neg (by decide)] at e;subst e;have an:=Za ku;rw[if_neg (by decide)] at an;have kv:=Zb an;clear an;obtain⟨-,-,t2,tl⟩:=kc3 pz;go_wp2_with fail;have ob:∀ x∈K,LkAt wr x:=λx hx=>(HS.lks x (.inl hx)).1.later du;obtain⟨wq,rc,rfl,_,_⟩:=Yr HS.rest ob;have HA:Hid (A2 w w5 Y.heap.size w5 (F wq K.length rc) K):=⟨(Gr.of (S:=λ_=>False) bu).own HS.rest (λ_ _ q=>q),λx hx=>(HS.lks x (.inl hx)).1,Below.refl _ _⟩;have gq:Hid ((K.map (·.1)).Perm (K.map (·.1))/\Srt (K.map (·.1))):=⟨List.Perm.refl _,HS.srt⟩;obtain⟨rf,rh⟩:=kh2 ((Gr.of (S:=λ_=>False) bu).own HS.spent (λ_ _ q=>q)) (ZE bu HS.box);have re:Hid (∀ x∈SK,LkAt w x):=λx hx=>(HS.lks x (.inr hx)).1;have qr:Hid (Yp name ht wm 0 (O.drop 0) (K.map (·.1))=(x4,M4)):=Za H4;have qv:Hid (K.length<=720+0):=Za dx;have vs:w.heap.size+1+1+1<=w5.heap.size:=(by rw[<-nf];exact aO HS.gr.size bu.size);clear ob BU BT t2 tl
    go_loopw [14,142] (λrv i wr=>∃ (j:Nat) (K2:List CV) (G:List Zi),j<=no/\i = E J j/\Hid (K2.length<=720+j)/\Hid (A2 w w5 Y.heap.size wr rv K2)/\Hid ((K2.map (·.1)).Perm G/\Srt G)/\Hid (Yp name ht wm j (O.drop j) G=(x4,M4))) (λ_ i _=>no - (intOf i).toNat)
    case atStart=>exact⟨0,K,K.map (·.1),aI _,rfl,qv,HA,gq,qr⟩
    case round=>
     obtain⟨j,K2,G,hj,rfl,cc,ax,HP,gn⟩:=hrel;obtain⟨db,js⟩:=kh2 (Zf kh ax.bel) (ZE ax.bel jq);have fx:∀ x∈K2,LkAt wr x:=λx hx=>(ax.lks x hx).later db;obtain⟨wq,rc,rfl,cl,ow⟩:=Yr ax.own fx;by_cases fw:j<no
     ·have iv:j<O.length:=(by rw[Za ky];exact fw);obtain⟨wv,xj,rfl,_,oj⟩:=ra.2 (by omega);have ol:=oj j iv;obtain⟨q,hq⟩:=ZF (O[j]);have GA:=Zb (λL hf=>Fm (name:=name) (h:=ht) (r:=wm) iv L hf);have GN:=Zb (λL hf=>Fl (name:=name) (h:=ht) (r:=wm) iv L hf);rw[hq] at ol GA;obtain⟨wn,ct⟩:=q;obtain⟨g0,la,ln,lc,g1,lO,lS⟩:=ol;simp only at g0 g1 lO;have e0:=Ze db g0;have e1:=Ze db g1;have xi:=aC _ _ e0;have LK:Hid (LkAt w (((name,(j:Int),wn,ct,ht,wm):Zi),la,ln,lc)):=⟨lO,lS⟩;obtain⟨W1,br⟩:=ZG ((wr.alloc (dA #[E J wn,F la ln lc] 92)).alloc (dA #[E J name,E J j] 87));have cg:ZD wr W1:=(by rw[br];exact Zf (Zh _ _) (Zh _ _));obtain⟨z,hz⟩:=ZF (plc (name,(j:Int)) (K2.map (·.1)) 0);have CP:=Zb (Ln wq K2.length rc (K2.map (·.1)) (name,(j:Int)) z W1 (by have:=Za cc;omega) (cl.later cg) hz)
      have p0:W1.heap[wr.heap.size+1]? = dG (dA [E J name,E J j].toArray 87 (0,0)):=by
       rw[br];have:=aG (wr.alloc (dA #[E J wn,F la ln lc] 92)) (dA #[E J name,E J j] 87);rw[show (wr.alloc (dA #[E J wn,F la ln lc] 92)).heap.size=wr.heap.size+1 by simp] at this;exact this
      have p1:W1.heap[wr.heap.size]? = dG (dA [E J wn,F la ln lc].toArray 92 (0,0)):=by
       rw[br,Below.heap_alloc _ _ _ (by simp)];exact aG _ _
      obtain⟨tg,ti,pl⟩:=kc2 p0;obtain⟨gj,gq,rb⟩:=kh3 cg p0 p1;clear cg oj lO g0 g1 p0 p1 cl;go_wp2_with fail;rw[<-br];(try go_wp2_with fail);refine CP.mono ?_;rintro e W2 ⟨rfl,aw⟩;have bo:=Zb (Zf gj aw);obtain⟨ri,fb,PB,OB⟩:=kh4 (Zf db bo) (ZE bo js) (ZE aw gq) (ZE aw rb);clear aw br tg ti pl e0 e1
      rcases Lv (name,(j:Int)) (K2.map (·.1)) 0 with ⟨am,be⟩|⟨i2,so,am,be,fy⟩
      ·obtain rfl:z = -1:=hz.symm.trans am;have HF:Hid (We (name,(j:Int)) G=false):=(by show _=_;rw[<-Fk HP.1];exact be);have fl:=Zb ((Gr.of (S:=λ_=>False) bo).own ax.own (λ_ _ q=>q));have KS:Hid (∀ W,ZD W2 W->SAo W2 wr.heap.size wn la ln lc name j W):=λW hb=>⟨Ze hb (Zd OB 0 _ rfl),Ze hb (Zd OB 1 _ rfl),Ze hb (Zd PB 0 _ rfl),Ze hb (Zd PB 1 _ rfl),aF (aA PB) hb.size,hb⟩;obtain⟨i0,hi,jc,vf,vg⟩:=bX Tryz.infoCoin;clear hz am be;go_wp2_with fail;refine bC (S:=SAo W2 wr.heap.size wn la ln lc name j) (by kernel_rfl) (KS _ (Zj _)) (λae=>?_);refine tkL 0 rfl ae ?_;refine tkL 2 rfl ae ?_;refine tkL 3 rfl ae ?_;refine tkL 4 rfl ae ?_;refine tkL 5 rfl ae ?_;refine tkL 6 rfl ae ?_;refine wpAnyH_ready (rs:=[1,7]) (by kernel_rfl) (by simp) ?_;refine rdC rfl (λK0 hK=>?_) (rdC rfl (λK0 hK=>?_) AllReadyH.nil)
       focus
        refine Zq (by kernel_rfl) 98 #[F wq K2.length rc] (by kernel_rfl) (Qw (F wq K2.length rc) K2 W2.drew (by have:=Za cc;omega) ((Gr.of (S:=λ_=>False) (Zj W2)).own fl (λ_ _ q=>q))) ?_;rintro e WA ⟨wz,rfl,oi,di⟩;refine⟨_,rfl,?_⟩;have cz:Hid (ZD W2 WA):=Zf (Zj W2) di;have qy:Hid (WA.ownsRow W2.heap.size 162 6 wz K2.length (Zl K2)):=oi;clear oi di;refine hK.out _ _ (KS _ cz) (λhHeld2=>?_);clear hK K0 ae;have ae:=hHeld2;clear hHeld2;(try simp only[Act.put,ZA,ZB,ZC]);refine rdY 7 rfl (λK0 hK=>?_);go_simp;obtain⟨WZ,fv⟩:=ZG (WA.alloc (dA #[E J name,E J j,E J wn,F la ln lc,E J ht,dF wm] 162));rw[<-fv];obtain⟨mz,cm⟩:=ZG (WA.heap.size);have MZ:Hid (WZ.heap[mz]? = dG (dA #[E J name,E J j,E J wn,F la ln lc,E J ht,dF wm] 162 (0,0))):=(by show _=_;rw[fv,cm];exact aG _ _);have cj:ZD WA WZ:=(by rw[fv];exact Zh _ _);obtain⟨OZ,BZ⟩:=kh2 ((Gr.of (S:=λ_=>False) cj).own qy (λ_ _ q=>q)) (Zf cz cj);rw[<-cm];clear cj fv cm
       rotate_left
       focus
        go_simp;obtain⟨WA,en⟩:=ZG (W2.drew.alloc (dA #[E J name,E J j,E J wn,F la ln lc,E J ht,dF wm] 162))
        (first|rw[<-en]|(rw[show (W2.alloc (dA #[E J name,E J j,E J wn,F la ln lc,E J ht,dF wm] 162)).drew=WA from en.symm]))
        have di:ZD W2 WA:=(by rw[en];exact Zf (Zj W2) (Zh _ _));obtain⟨mz,cm⟩:=ZG (W2.heap.size);have ma:WA.heap[mz]? = dG (dA #[E J name,E J j,E J wn,F la ln lc,E J ht,dF wm] 162 (0,0)):=(by rw[en,cm];exact aG W2.drew _);rw[<-cm];have lr:=(Gr.of (S:=λ_=>False) di).own fl (λ_ _ q=>q);obtain⟨MA,cz⟩:=kh2 ma di;clear en cm ma di;refine hK.out _ _ (KS _ cz) (λhHeld2=>?_);clear hK K0 ae;have ae:=hHeld2;clear hHeld2;(try simp only[Act.put,ZA,ZB,ZC]);refine rdY 1 rfl (λK0 hK=>?_);refine Zq (by kernel_rfl) 98 #[F wq K2.length rc] (by kernel_rfl) (Qw (F wq K2.length rc) K2 WA (by have:=Za cc;omega) lr) ?_;rintro e WZ ⟨wz,rfl,oq,cj⟩;refine⟨_,rfl,?_⟩;obtain⟨BZ,OZ,MZ⟩:=kh3 (Zf cz cj) (L0 oq cz.size) (ZE cj MA);clear oq cj lr MA
       all_goals
        refine hK.out _ _ (KS _ BZ) (λhHeld2=>?_);clear hK K0 ae;have ae:=hHeld2;clear hHeld2;(try simp only[Act.put,ZA,ZB,ZC]);refine rdY 8 rfl (λK0 hK=>?_);refine step_append_lies _ (by rfl) _ _ _ (by rfl) W2.heap.size 162 i0 zeroC 6 64 cH hi jc vf vg rfl (by decide) wz K2.length (Zl K2) (by rfl) OZ ⟨mz,0,aD⟩ 1 1 [E J name,E J j,E J wn,F la ln lc,E J ht,dF wm] (by rfl) (by rfl) (bI (cs:=#[E J name,E J j,E J wn,F la ln lc,E J ht,dF wm]) MZ) (λu hu=>by simp at hu;rcases hu with rfl|rfl|rfl|rfl|rfl|rfl <;> rfl) (by decide) (by have:=Za cc;unfold aT;omega) (by have:=Za cc;omega) BZ.size _ rfl ?_;intro g8 sa w8 oo ny _ _;have kf:Hid (ZD W2 w8):=BZ.grown ny BZ.size (Xz OZ);have qx:=Zb oo;clear oo ny OZ MZ BZ;refine hK.out _ _ (KS _ kf) (λhHeld2=>?_);clear hK K0 ae;have ae:=hHeld2;clear hHeld2;refine tkL 9 rfl ae ?_;refine bZ (by kernel_rfl) ?_ _;clear ae
        have AS:Hid (A2 w w5 Y.heap.size w8 (F (dG ⟨g8,0,aD⟩) (K2.length+1) sa) (K2++[(((name,(j:Int),wn,ct,ht,wm):Zi),la,ln,lc)])):=by
         refine⟨?_,λx hx=>?_,Zf (Zf ax.bel bo) kf⟩
         ·rw[bL,Yi];exact L0 qx (by have:=bo.size;have:=ax.bel.size;rw[nf];omega)
         ·rcases bM.1 hx with hx|hx
          ·exact ax.lks x hx
          ·rw[cT.1 hx];exact Za LK
        have L3:Hid ((K2++[(((name,(j:Int),wn,ct,ht,wm):Zi),la,ln,lc)]).length<=720+(j+1)):=by show _<=_;rw[bL];have:=Za cc;simp;omega
        have P3:Hid (((K2++[(((name,(j:Int),wn,ct,ht,wm):Zi),la,ln,lc)]).map (·.1)).Perm (J2 (R6 name j (wn,ct) ht wm) G)/\Srt (J2 (R6 name j (wn,ct) ht wm) G)):=by
         refine⟨?_,J8 HP.2⟩;rw[bN];exact Zhb HP.1 HF
        have E3:Hid (Yp name ht wm (j+1) (O.drop (j+1)) (J2 (R6 name j (wn,ct) ht wm) G)=(x4,M4)):=(GA G HF).symm.trans gn;go_wp2;go_roundw
        case rel=>first|exact⟨j+1,_,_,by omega,by go_num,L3,AS,P3,E3⟩|((repeat apply Exists.intro);refine⟨?_,rfl⟩;exact⟨j+1,_,_,by omega,by go_num,L3,AS,P3,E3⟩)
        case measure=>simp[intOf];omega
      ·have iu:z=(i2:Int):=(by rw[<-hz,am];simp);subst iu
       have aq:Hid ((x,M,S)=((6:Int),([]:List Zi),([]:List Zi))):=by
        have e:=GN G (by rw[<-Fk HP.1];exact fy);rw[Za gn] at e;obtain⟨rfl,_⟩:=cA e;exact kv.symm.trans (if_pos (by decide))
       have vt:¬((i2:Int)<0):=(by omega);clear hz am be fy so;go_wp2_with fail;refine (Vj 6 fb ri aq).mono ?_;rintro e wf ⟨rfl,cu,cw,cx,hE⟩;go_wp2;(try simp only[bQ,Exit.then]);refine aL (v:=dC #[F aD 0 0,.agg #[F aD 0 0],E J 6]) ?_ rfl (hE _);rw[Yc rfl];go_simp
     ·obtain rfl:j=no:=(by omega);have e:=Za gn;rw[Ms (by rw[Za ky];exact aE _)] at e;obtain⟨e0,e1⟩:=cA e;subst e0 e1;clear e;have an:=Za kv;rw[if_neg (by decide)] at an;have kw:=Zb an;clear an;have qf:=Zb (Zbx wq K2.length rc K2 w wr (by have:=Za cc;omega) rfl ax.own ax.lks db);clear cl fx;go_wp2_with fail;refine qf.mono ?_;rintro e w6 ⟨a6,c6,L6,rfl,jb,sx,ot,ox,nj⟩;have e6:L6=G:=Zfv ox (ot.trans HP.1) HP.2;subst e6;have ns:CoinsAt w6 a6 K2.length L6:=jb w6 (Gr.refl _ _);obtain⟨jw,rg,qn⟩:=kh3 (Lr a6 K2.length c6 L6 x5 w6 ns H5) jb nj;clear jb ot ox nj ns;go_wp2_with fail;refine jw.mono ?_;rintro e w7 ⟨rfl,il⟩;obtain⟨qo,gv⟩:=kh2 il (Zf qn il);obtain⟨gu,jr⟩:=kh2 (Zf db gv) (ZE gv js);clear il jw;by_cases e5:x5=0
      ·subst e5;have an:=Za kw;rw[if_neg (by decide)] at an;obtain⟨rfl,e2⟩:=cA an;obtain⟨rfl,rfl⟩:=cA e2;have ke:=Zb (Zf ax.bel gv);obtain⟨lu,ib⟩:=kh2 (ZE ke rh) ((Gr.of (S:=λ_=>False) ke).own rf (λ_ _ q=>q))
       have kk:Hid (∀ W,Gr w7 W (λq=>q=w.heap.size+1)->ApR w W 0 L6 (SK.map (·.1)) (dB (dC #[F a6 K2.length c6,.agg #[F ww SK.length sc],E J 0]))):=by
        intro W hg;have nk:ZD w W:=hg.below gu gu.size (λk q=>by omega);have wb:=ax.bel.size;have td:=hg.own ib (λk q e=>by have:=Xz ib k q;omega);obtain⟨tq,tr,e,sl,tb⟩:=Yr td (λx hx=>(re x hx).later nk);obtain⟨rfl,rfl⟩:ww=tq/\sc=tr:=(by injection e with e1 e2 e3;exact⟨e1,e3⟩);exact⟨a6,K2.length,c6,ww,SK.length,sc,rfl,rg W ((Gr.of qo).trans (hg.mono (λk _ q=>⟨by omega,by omega⟩))),sx,sl,tb,nk⟩
       obtain⟨u0,ul⟩:=kc1 lu;obtain⟨r0,xk,xa⟩:=kf1 jr;clear e2 ib lu;go_wp2
       go_region
       go_wp2;(try simp only[bQ,Exit.then])
       all_goals (refine aL (v:=dC #[F a6 K2.length c6,.agg #[F ww SK.length sc],E J 0]) ?_ rfl ?_)
       ·rw[Yc rfl];go_simp
       ·first|exact kk _ (((Gr.refl w7 (λq=>q=w.heap.size+1)).draw).set (p:=⟨w.heap.size+1,0,aD⟩) (.inl rfl) _)|exact kk _ (((Gr.refl w7 (λq=>q=w.heap.size+1)).set (p:=⟨w.heap.size+1,0,aD⟩) (.inl rfl) _).draw)
      ·have aq:Hid ((x,M,S)=((x5:Int),([]:List Zi),([]:List Zi))):=kw.symm.trans (if_pos e5);have g9:(x5 != 0)=true:=(by simp[e5]);go_wp2_with fail;refine (Vj x5 jr gu aq).mono ?_;rintro e wf ⟨rfl,cu,cw,cx,hE⟩;go_wp2;(try simp only[bQ,Exit.then]);refine aL (v:=dC #[F aD 0 0,.agg #[F aD 0 0],E J x5]) ?_ rfl (hE _);rw[Yc rfl];go_simp
theorem Zhx(r:Int)(T S)(k:Nat):Y8 r T S k=r+Y8 0 T S k:=by unfold Y8;omega
theorem Zhw{r:Int}{T}{S:List (List Zi)}{k j:Nat}(s)(h:k<=j):Y8 r T (S.set j s) k=Y8 r T S k:=by
 unfold Y8;rw[List.take_set_of_le h]
def Uu(T:List TxD)(S:List (List Zi))(m k:Nat)(aa:Int):Prop:=
 k<m->S.getD 0 []=[]/\aa=Y8 0 T S (k+1)+Yk (T.getD 0 Uv).2.2/\-(6000000000*(k:Int))<=aa/\aa<=6000000000*(k:Int)
theorem Zdl{T:List TxD}{m:Nat}(hT:T.length=m):Uu T (bP m []) m 0 0:=by
 intro h;refine⟨by simp[List.getD,h],?_,by omega,by omega⟩;rw[Tx 0 T _ 0 (by omega) (by simp;omega),Mj];simp[Zm,List.getD,hT,h];omega
theorem Zie{T:List TxD}{S:List (List Zi)}{m k:Nat}{aa:Int}{s}(hF:Uu T S m k aa)(hk:k+1<m)(hT:T.length=m)(hS:S.length=m){t:TxD}(ht:T.getD (k+1) Uv=t)(b1 : -6000000000<=Zm s - Yk t.2.2)(b2:Zm s - Yk t.2.2<=6000000000):Uu T (S.set (k+1) s) m (k+1) (aa+(Zm s - Yk t.2.2)):=by
 intro _;obtain⟨h0,h1,h2,h3⟩:=hF (by omega);refine⟨?_,?_,by omega,by omega⟩
 ·rw[cM,List.getElem?_set_ne (by omega),<-cM];exact h0
 ·rw[Tx 0 T _ (k+1) (by omega) (by rw[List.length_set];omega),Zhw s (aE _)];have e1:(S.set (k+1) s)[k+1]'(by rw[List.length_set];omega)=s:=by simp
  have e2:T[k+1]'(by omega)=t:=by rw[<-ht,cM,bR (by omega)];rfl
  rw[e1,e2];omega
theorem Zmu{T:List TxD}{S}{m k:Nat}{aa r:Int}(hF:Uu T S m k aa)(hk:k+1=m):Y8 r T S m<0↔r+aa<Yk (T.getD 0 Uv).2.2:=by
 obtain⟨_,h1,_,_⟩:=hF (by omega);rw[Zhx,<-hk];omega
theorem Zif{T S}{m:Nat}{aa:Int}:Uu T S m m aa:=λh=>absurd h (Nat.lt_irrefl _)
theorem Zfm{T S}{m k:Nat}{aa:Int}(hF:Uu T S m k aa)(hk:k<m)(hm:m<=4) : -24000000000<=aa/\aa<=24000000000:=by
 obtain⟨_,_,h2,h3⟩:=hF hk;omega
theorem Bz{O:List Yd}(h:O.length<=6)(hb:∀ x∈O,0<=x.1/\x.1<=1000000000):0<=Yk O/\Yk O<=6000000000:=by
 have:∀ (O:List Yd),(∀ x∈O,0<=x.1/\x.1<=1000000000)->0<=Yk O/\Yk O<=1000000000*(O.length:Int):=by
  intro O
  induction O with
  | nil=>intro _;simp[Yk]
  | cons a t ih=>
   intro hb;have h1:=hb a (cN ..);have h2:=ih (λx hx=>hb x (List.mem_cons_of_mem _ hx));have e:Yk (a :: t)=a.1+Yk t:=(by simp[Yk]);rw[e,cK];omega
 have:=this O hb;omega
theorem Zjw{S:List Zi}(h:S.length<=6)(hb:∀ x∈S,0<=cv x/\cv x<=1000000000):0<=Zm S/\Zm S<=6000000000:=by
 have:∀ (O:List Zi),(∀ x∈O,0<=cv x/\cv x<=1000000000)->0<=Zm O/\Zm O<=1000000000*(O.length:Int):=by
  intro O
  induction O with
  | nil=>intro _;simp[Zm]
  | cons a t ih=>
   intro hb;have h1:=hb a (cN ..);have h2:=ih (λx hx=>hb x (List.mem_cons_of_mem _ hx));have e:Zm (a :: t)=cv a+Zm t:=(by simp[Zm]);rw[e,cK];omega
 have:=this S hb;omega
def CoS(g0:Nat)(W Y:World)(bx:Nat)(am:Option Addr)(nm cm:Nat)(M:List Zi)(sa:Option Addr)(ns cs:Nat)(s:List Zi):Prop:=
 ZD W Y/\CoinsAt Y am nm M/\SlOk am nm cm/\CoinsAt Y sa ns s/\SlOk sa ns cs/\bx≠g0/\Y.heap[bx]? = dG (dA [F sa ns cs].toArray 123 (0,0))
theorem Zni{g0:Nat}{W w6:World}{bx:Nat}{am nm cm M sa ns cs s}(hb:ZD W w6)(al:W.heap.size<=bx)(aq:g0<W.heap.size)(ag:w6.heap[bx]? = dG (dA [F aD 0 0].toArray 123 (0,0)))(hM:CoinsAt w6 am nm M)(sM:SlOk am nm cm)(hS:CoinsAt w6 sa ns s)(sS:SlOk sa ns cs):CoS g0 W (w6.setCell ⟨bx,0,aD⟩ (F sa ns cs)) bx am nm cm M sa ns cs s:=by
 have ok:UsOk 123 bx 1 w6:=⟨[F aD 0 0],ag,rfl,λv hv=>by rw[cT.1 hv];exact⟨_,_,_,rfl⟩⟩;have g:=(Gr.refl w6 (λq=>q=bx)).one bx 0 (.inl rfl) (F sa ns cs);exact⟨hb.setCell al _,Uo hM ok g,sM,Uo hS ok g,sS,by omega,Zbs ag 0 _⟩
theorem Zrx{h r:Int}(e:rwD h=(r,0)):0<=r/\r<=64:=by
 unfold rwD at e;split at e
 ·injection e with e _;have:=Tp ((h - 1).toNat / 8);omega
 ·injection e with _ e;exact absurd e (by decide)
def upL(k:Nat):List Int:=(List.range k).map λj=>((j+1:Nat):Int)
theorem Ab(k:Nat):(upL k).length=k:=by simp[upL]
theorem Zjj(k:Nat):upL (k+1)=upL k++[(k:Int)+1]:=by simp[upL,List.range_succ]
theorem Zrv{m i:Nat}(h:i<m):(upL (m - 1)++[0]).getD i 0=(((i+1) % m:Nat):Int):=by
 rw[cM];by_cases q:i<m - 1
 ·rw[List.getElem?_append_left (by rw[Ab];exact q)];rw[Nat.mod_eq_of_lt (by omega)];simp[upL,q]
 ·obtain rfl:i=m - 1:=by omega
  rw[List.getElem?_append_right (by rw[Ab];exact aE _),Ab,Nat.sub_self,show m - 1+1=m by omega,Nat.mod_self];rfl
theorem Zgw(ka kn kc K qe ln qg C0)(p ht k0 n:Int)(a m c T X1)(jy:Int)(N)(r:Int)(x:Int)(C' S' w)(hE:EnvF w)(hK:Bk.TextsAt w ka kn K)(sK:Bk.SlOk ka kn kc)(hR:Bk.Right K)(hC:CoinsAt w qe ln C0)(sC:SlOk qe ln qg)(iq:Zy C0)(hT:TxsAt w a m T)(sT:SlOk a m c)(bo:Xk K (p,ht,k0,n,T)=(X1,jy,N,0))(hr:rwD ht=(r,0))(hx:Ws ht r T N m 0 C0 (bP m [])=(x,C',S')) :
  Calls aB 52 #[F ka kn kc,F qe ln qg,.agg #[.int .i64 p,.int .i64 ht,.int .i64 k0,.int .i64 n,F a m c]] w λe w'=>Zjb w w' x C' S' e:=by
 obtain⟨X,hX,bv,fu⟩:=ka00 w [.int .i64 p,.int .i64 ht,.int .i64 k0,.int .i64 n,F a m c] 33;have NF:=Zb (P7 ka kn kc K p ht k0 n a m c T X1 jy N 0 X (hE.later bv) (hK.later bv) sK hR (hT.later bv) bo);have fw:=(Pi bo).1;obtain⟨cm,ga,jc,jd⟩:=Q9 fw;have zT:T.length=m:=hT.1;rw[show (p,ht,k0,n,T).2.2.2.2=T from rfl,zT] at cm ga;have zN:N.length=m:=by rw[(Pi bo).2.2.2.2.1];simpa using zT
 have cg:∀ t∈T,Zp t=0:=(Vi fw).2.2.2.2;obtain⟨i0,hi,gg,gh,gi⟩:=bX Tryz.infoInt;obtain⟨i1,qj,ju,jv,jw⟩:=bX Tryz.infoUndo;obtain⟨tb,am,rfl,_,nv⟩:=hT.2 cm;obtain⟨x0,x1,x2,x3,x4,xl⟩:=kc5 fu;obtain⟨dn,lm,HC,HT,ks,la,HX,ZT⟩:=kh8 bv fu (hC.later bv) (hT.later bv) cg iq hx zT;obtain⟨ZN,ig⟩:=kh2 zN hr;have pm:m<=c:=sT.1;have pd:c<=aT:=sT.2.1;have HH:=Zb (And.intro jc jd);clear hE hK sK hR hC iq hT bo hx bv fu fw cg zT zN hr jc jd nv sT;go_enter func52,ntmps52;go_wp2_with fail;rw[<-hX];clear hX;(try go_wp2_with fail);refine (Za NF).mono ?_;rintro e w1 ⟨a',n',c',na,nn,nc,rfl,_,_,hN,fx⟩;have y4:=Ze fx x4;have yl:=aC _ _ y4;obtain⟨HN,dl⟩:=kh2 hN fx;have oc:((1:Int)<=(m:Int)):=by omega
 clear hN fx x0 x1 x2 x3 x4 xl
 go_wp2_with (at_make;refine wpList_make_full _ rfl _ _ 111 rfl w1.heap.size 123 i1 (.agg #[F aD 0 0]) 1 underlying111 qj ju jv .i64 .i64 _ _ m rfl rfl rfl rfl (by rw[jw];omega) (by unfold aT;omega) (aE _) ?_;intro w2 jk jb;have cf:ZD w1 w2:=(Below.refl _ _).grown jb (aE _) (λk h=>by cases h);have z4:=Ze cf y4;have zl:=aC _ _ z4;have kk:=Zb cf;have cw:Hid (UsAt 123 w1.heap.size (bP m []) w2):=Zji (base:=w1.heap.size) (by rw[<-Fa];exact jk);clear jk jb cf)
 all_goals
  obtain⟨V3,ee⟩:∃ V,V=w2.alloc (dA #[] 3):=⟨_,rfl⟩;rw[<-ee];have iv:ZD w2 V3:=by rw[ee];exact Zh _ _
  have iu:V3.heap[w2.heap.size]? = dG (dA #[] 3 (0,0)):=by rw[ee];exact aG _ _
  have OW:Hid (V3.ownsRow w2.heap.size 3 1 (F (dG ⟨w2.heap.size,0,aD⟩) 0 0) 0 ((upL 0).map (aU .i64))):=by
   show cP _ _ _ _ _ _ _;exact⟨rfl,.inr ⟨w2.heap.size,0,_,rfl,aE _,iu,aE _,by unfold aT;omega,rfl,rfl⟩⟩
  have km:=Zb iv;clear ee iu iv z4 zl y4 yl oc
  go_loopw [15,45] (λov qd wr=>∃ (k:Nat) (qb:Nat) (g:Nat),k<=m - 1/\ov = F (dG ⟨g,0,aD⟩) k qb/\qd = .int .i64 (k:Int)/\Hid (wr.ownsRow w2.heap.size 3 1 (F (dG ⟨g,0,aD⟩) k qb) k ((upL k).map (aU .i64)))/\Hid (ZD w2 wr)) (λ_ qd _=>m - 1 - (intOf qd).toNat)
  case atStart=>exact⟨0,0,w2.heap.size,aI _,rfl,rfl,OW,km⟩
  case round=>
   obtain⟨k,qb,g,hk,rfl,rfl,HO,HB⟩:=hrel;by_cases cl:k<m - 1
   ·first
    | (exfalso;omega)
    |skip
     have nj:(k:Int)<((m - 1:Nat):Int):=(by omega);have bw:=Zh wr (dA #[.int .i64 ((k:Int)+1)] 3);obtain⟨cd,dx,aw⟩:=kh3 ((Gr.of (S:=λ_=>False) bw).own (Za HO) (λ_ _ q=>q)) (bI (aG wr (dA #[.int .i64 ((k:Int)+1)] 3))) (Zf (Za HB) bw);have nw:IntKind.i64.wrap ((k:Int)+1)=((k:Int)+1):=(by rw[aP];omega);clear bw
     go_wp2_with (at_builtin;refine wpList_append_lies _ rfl _ _ 25 rfl w2.heap.size 3 i0 (.int .i64 0) 1 8 cR hi gg gh gi rfl (by decide) _ _ _ rfl (Za cd) ⟨wr.heap.size,0,aD⟩ 1 1 [.int .i64 ((k:Int)+1)] rfl rfl (Za dx) (λu hu=>by simp at hu;subst hu;rfl) (by decide) (by unfold aT;omega) (by omega) (Za aw).size _ rfl ?_;intro g7 eb w7 cn dd gb _)
     have cy:Hid (w7.ownsRow w2.heap.size 3 1 (F (dG ⟨g7,0,aD⟩) (k+1) eb) (k+1) ((upL (k+1)).map (aU .i64))):=by
      show cP _ _ _ _ _ _ _;rw[Zjj,bN];exact cn
     have ko:=Zb ((Za aw).grown dd (Za aw).size (λk hk=>((Za cd).lt k hk).1));clear cn dd gb;go_wp2;go_roundw
     case rel=>exact⟨k+1,eb,g7,by omega,rfl,by go_num,cy,ko⟩
     case measure=>simp[intOf];omega
   ·obtain rfl:k=m - 1:=(by omega);clear hk cl;have bw:=Zh wr (dA #[.int .i64 0] 3);obtain⟨cd,dx,aw⟩:=kh3 ((Gr.of (S:=λ_=>False) bw).own (Za HO) (λ_ _ q=>q)) (bI (aG wr (dA #[.int .i64 0] 3))) (Zf (Za HB) bw);have ji:m - 1+1=m:=(by omega);clear bw
    go_wp2_with (at_builtin;refine wpList_append_lies _ rfl _ _ 25 rfl w2.heap.size 3 i0 (.int .i64 0) 1 8 cR hi gg gh gi rfl (by decide) _ _ _ rfl (Za cd) ⟨wr.heap.size,0,aD⟩ 1 1 [.int .i64 0] rfl rfl (Za dx) (λu hu=>by simp at hu;subst hu;rfl) (by decide) (by unfold aT;omega) (by omega) (Za aw).size _ rfl ?_;intro g7 eb Z cn dd gb _;rw[ji] at cn ⊢)
    have cy:Z.ownsRow w2.heap.size 3 1 (F (dG ⟨g7,0,aD⟩) m eb) m ((upL (m - 1)++[0]).map (aU .i64)):=by
     rw[bN];exact cn
    have eg:ZD w2 Z:=(Za aw).grown dd (Za aw).size (λk hk=>((Za cd).lt k hk).1);obtain⟨ra,pw,gc,jo⟩:=Lo cy;cases gc;obtain⟨rb,ro,gc,jn⟩:=jo.2.2 cm;cases gc;have ox:w1.heap.size<w2.heap.size:=(Za cw).ok.lt
    have oy:w2.heap.size<=g7:=by
     obtain⟨_,_,e,_,q⟩:=Lz cy;cases e;obtain⟨g,e,q,_⟩:=q cm;cases e;exact q
    have lr:Hid (∀ V,Gr Z V (λq=>q=w1.heap.size)->∀ i,i<m->V.cell? ⟨g7,i,aD⟩=dG (.int .i64 (((i+1) % m:Nat):Int))):=λV hg i hi=>by
     have q:=jn i hi;rw[bO,Zrv hi] at q;exact (World.cell?_of_block (a:=⟨g7,i,aD⟩) (hg.block g7 (aC _ _ q) (by omega))).trans q
    have du:=Zb ((Za cw).later eg);have GB:Hid (∀ V,Gr Z V (λq=>q=w1.heap.size)->ZD w1 V):=λV g=>g.below (Zf (Za kk) eg) (by have:=eg.size;omega) (λq e=>by rw[e];exact aE _);have ki:=Zb (Zdl (Za ZT));have kr:Hid (CoinsAt Z qe ln C0):=(Za HC).later (Zf (Za dl) ((Za GB) Z (Gr.refl _ _)));have ou:Hid (∀ s∈bP m ([]:List Zi),s.length<=6/\∀ x∈s,0<=cv x/\cv x<=1000000000):=λs hs=>by rw[(List.mem_replicate.1 hs).2];exact⟨by simp,λx hx=>by cases hx⟩
    clear cn cy dd gb jo jn eg cd dx hi gg gh gi qj ju jv jw ji HO
    go_loopw [1,14,58] (λlv qi qd V=>∃ (k:Nat) (qc:Option Addr) (au qb:Nat) (C:List Zi) (S:List (List Zi)) (aq:Int),k<=m/\lv = F qc au qb/\qi = .int .i64 aq/\qd = .int .i64 k/\Hid (CoinsAt V qc au C/\SlOk qc au qb/\Zy C)/\Hid (UsAt 123 w1.heap.size S V)/\Hid (S.length=m)/\Hid (Uu T S m k aq)/\Hid (Ws ht r T N (m - k) k C S=(x,C',S'))/\Hid (Gr Z V (λq=>q=w1.heap.size))) (λ_ _ qd _=>m - (intOf qd).toNat)
    case atStart=>exact⟨0,qe,ln,qg,C0,bP m [],0,aI _,rfl,rfl,rfl,(⟨Za kr,sC,Za la⟩:CoinsAt Z qe ln C0/\SlOk qe ln qg/\Zy C0),du,(List.length_replicate:(bP m ([]:List Zi)).length=m),ki,HX,(Gr.refl _ _:Gr Z Z (λq=>q=w1.heap.size))⟩
    case round=>
     obtain⟨k,qc,au,qb,C,S,aq,hk,rfl,rfl,rfl,HO,HU,dt,HF,HQ,HG⟩:=hrel;by_cases cl:k<m
     ·have en:(k+1) % m<m:=Nat.mod_lt _ cm;have nj:(k:Int)<(m:Int):=(by omega);have ok:=(Za lr) wr (Za HG) k cl;have pr:=aC _ _ ok;obtain⟨i,hi⟩:=ZF ((k+1) % m);rw[hi] at en ok;have jj:m - k=(m - (k+1))+1:=(by omega);have fz:i<T.length:=(by rw[Za ZT];exact en);have je:i<N.length:=(by rw[Za ZN];exact en);obtain⟨t1,I,O,gf⟩:∃ t1 I O,T[i]=(t1,I,O):=⟨_,_,_,rfl⟩;obtain⟨nm,bo⟩:=ZF (N[i]);obtain⟨y,M,s,fv⟩:∃ y M s,apD C (t1,I,O) nm ht=(y,M,s):=⟨_,_,_,rfl⟩;have fd:Hid (T.getD i Uv=(t1,I,O)):=(by show _=_;rw[cM,bR fz];exact gf);have cb:=Za HQ;rw[jj,M5 (i:=i) (by rw[Za ZT];exact hi) (t:=(t1,I,O)) (Za fd) (nm:=nm) (by rw[cM,bR je];exact bo) fv,Za ZT] at cb;have cb:=Zb cb;have ev:Hid (∀ V,Gr Z V (λq=>q=w1.heap.size)->ZD X V):=λV g=>Zf (Za dl) ((Za GB) V g);have fp:=(Za ev) wr (Za HG);obtain⟨py,pz,e,_,jp⟩:=(Za HT).2 cm;cases e;have tc:=TxAt.kept _ _ _ _ _ fp (jp i fz);have cg:=(Za ks) T[i] (aQ fz);rw[gf] at tc cg;obtain⟨c0,⟨ai,ni,ci,c1,fs,og⟩,ao,ae,co,c2,ft,oh⟩:=tc;have nr:nn=m:=(Za HN).1.symm.trans (Za ZN);obtain⟨qk,no,rfl,iz⟩:=(Za HN).2 (by omega);have c4:=Ze ((Za GB) wr (Za HG)) (iz i je);rw[bo] at c4;simp only at c0 c1 c2 fs ft;have jr:=ZE fp (Za lm);obtain⟨-,v1,-,-,v4,-⟩:=kc5 jr;obtain⟨eu,bg,HI⟩:=kh3 fv cg hi;have ku:Hid (InsAt wr ai ni I):=fs;have ds:Hid (OutsAt wr ao ae O):=ft;have pf:(i:Int)<(m:Int):=(by omega);have pe:¬((i:Int)<0):=by omega
      have ly:w1.heap.size<wr.heap.size:=(Za HU).ok.lt;subst nr;clear fv cg hi fs ft fp jp iz jr gf bo og oh jj;have ca:=Zb (And.intro c0 (And.intro c1 (And.intro c2 (And.intro c4 (And.intro v1 v4)))))
      go_upto_if 63 with fail
      go_cut [19,21] from 63 to 85 (λu1 u2 V=>Hid (¬(i=0/\Y8 r T S nn<0))/\Hid (ZD wr V))
      case first=>
       by_cases bf:i=0
       ·have pi:((i:Int) == 0)=true:=(by simp[bf]);have nf:¬((0:Int)<(i:Int)):=(by omega);have pk:(0:Int)<(nn:Int):=(by omega);have d2:wr.cell? ⟨tb,am+2,aD⟩=dG (F ao ae co):=(by have:=c2;rw[bf,Nat.zero_mul,Nat.add_zero] at this;exact this);have oi:=aC _ _ d2;have vl:=aC _ _ v4;have gz:=Zb bf;have lh:Hid ((T.getD 0 Uv).2.2=O):=(by show _=_;have:=Za fd;rw[bf] at this;rw[this]);have ff:Hid (O.length=ae):=(Za ds).1;have fa:Hid (∀ j,0<=Yk (O.take j)/\Yk (O.take j)<=6000000000):=λj=>Bz (aO (by rw[aV];exact Nat.min_le_right _ _) (Xc (Za bg)).2.1) (λx hx=>Jn (Za bg) x (List.mem_of_mem_take hx));have ep:ae<=6:=(by rw[<-Za ff];exact (Xc (Za bg)).2.1);clear bf c0 c1 c2 c4;obtain⟨V0,lz⟩:=ZG (wr);subst lz;go_wp2
        go_loopw [19,70] (λsv qd V=>∃ (j:Nat) (d:Int),j<=ae/\sv = .int .i64 d/\qd = .int .i64 j/\Hid (d=Yk (O.take j))/\Hid (ZD V0 V)) (λ_ qd _=>ae - (intOf qd).toNat)
        case atStart=>exact⟨0,0,aI _,rfl,rfl,rfl,(Below.refl _ _:ZD V0 V0)⟩
        case round=>
         obtain⟨j,d,hj,rfl,rfl,D,HD⟩:=hrel;have eh:=Za HD;by_cases nh:j<ae
         ·have jh:j<O.length:=(by rw[Za ff];exact nh);obtain⟨b,off,rfl,pb,iy⟩:=(Za ds).2 (by omega);have jg:=OutAt.kept _ _ _ _ _ eh (iy j jh);have d1:=(Za fa) j;have d3:=(Za fa) (j+1);have eq:=Rp O j jh;obtain⟨o,hc⟩:=ZF (O[j]);rw[hc] at jg eq;obtain⟨q1,q2⟩:=o;obtain⟨g0,ny,oa,nz,g1,_,_⟩:=jg;simp only at g0 g1 eq;have hd:d=Yk (O.take j):=Za D;have A3:Hid (d+q1=Yk (O.take (j+1))):=(by show _=_;rw[eq];omega);have ag:=Zb (Zf (Za HD) (Zh wr (dA #[.int .i64 q1,F ny oa nz] 92)));have nw:IntKind.i64.wrap (d+q1)=d+q1:=(by rw[aP];omega);clear hc eq D hd d1 d3 eh iy;go_wp2;go_roundw
          case rel=>exact⟨j+1,d+q1,by omega,rfl,by go_num,A3,ag⟩
          case measure=>simp[intOf];omega
         ·have e:ae=j:=(by omega);subst e
          have hd:d=Yk O:=by
           have:=Za D;rw[aM (by rw[Za ff];exact aE _)] at this;exact this
          have ja:=(Za fa) ae;rw[<-Za D] at ja;have e1:=Ze eh v1;have ql:=aC _ _ e1;have RW:=Zb (Zcd ht r wr (Za HH).1 (Za HH).2 (Za ig));have nt:0<=r/\r<=64:=Zrx (Za ig);have fq:=Zfm (Za HF) cl ga;have po:IntKind.i64.wrap (r+aq)=r+aq:=by rw[aP];omega
          have eo:k+1=nn:=by
           have e:=Za HI;by_cases q:k+1<nn
           ·rw[Nat.mod_eq_of_lt q] at e;have:=Za gz;omega
           ·omega
          have jf:Y8 r T S nn<0↔r+aq<d:=(by rw[Zmu (Za HF) eo,Za lh,hd]);have ia:=Zb jf;clear hd ja nt fq jf eo D v1 v4 oi vl d2 eh;go_wp2_with fail;refine (Za RW).mono ?_;rintro e V2 ⟨rfl,cf⟩;have ag:=Zb (Zf (Za HD) cf);clear cf e1 ql;by_cases hq:r+aq<d
          ·have ct:Hid (((9:Int),([]:List Zi),([]:List (List Zi)))=(x,C',S')):=(by have e:=Za cb;rw[if_pos ⟨Za gz,(Za ia).2 hq⟩] at e;exact e);have cx:=Zb (Zf (Za dn) (Zf ((Za ev) V0 (Za HG)) (Za ag)));go_wp2;(try simp only[bQ,Exit.then]);refine aL (v:=dC #[F aD 0 0,F aD 0 0,.int .i64 9]) ?_ rfl (Ry (Za ct) (Za cx));simp[results,Tryz.f52,go_sem]
          ·have dw:Hid (¬(i=0/\Y8 r T S nn<0)):=λq=>hq ((Za ia).1 q.2);go_wp2_with fail;go_meet
           case rel=>exact⟨dw,ag⟩
       ·have ph:((i:Int) == 0)=false:=by simp[bf]
        first
        | (exfalso;omega)
        |skip
         go_wp2_with fail;go_meet
         case rel=>exact⟨λq=>bf q.1,Below.refl _ _⟩
      obtain⟨dw,ag⟩:=hcut;obtain⟨V2,rfl⟩:=ZG (wc);clear c0 c1 c2 c4 v1 v4;have fb:Hid (CoinsAt V2 qc au C/\SlOk qc au qb/\Zy C):=⟨(Za HO).1.later (Za ag),(Za HO).2⟩;have li:=Zb ((Za HU).later (Za ag));have gx:Hid (Gr Z V2 (λq=>q=w1.heap.size)):=(Za HG).on (Za ag);obtain⟨kv,id⟩:=kh2 ((Za ku).later (Za ag)) ((Za ds).later (Za ag));have kj:Hid (w1.heap.size<V2.heap.size):=aF ly (Za ag).size;have c0:=Ze (Za ag) (Za ca).1;have c1:=Ze (Za ag) (Za ca).2.1;have c2:=Ze (Za ag) (Za ca).2.2.1;have c4:=Ze (Za ag) (Za ca).2.2.2.1;have v1:=Ze (Za ag) (Za ca).2.2.2.2.1;have v4:=Ze (Za ag) (Za ca).2.2.2.2.2
      have AP:Hid (∀ U,ZD V2 U->Calls aB 59 #[F qc au qb,.agg #[.int .i64 t1,F ai ni ci,F ao ae co],.int .i64 nm,.int .i64 ht] U λe w'=>ApR U w' y M s e):=λU hb=>
       Hu qc au qb C t1 ai ao ni ci ae co I O nm ht y M s U ((Za fb).1.later hb) (Za fb).2.1 ((Za kv).later hb) ((Za id).later hb) (Za fb).2.2 (Za bg) (Za eu)
      have KS:Hid (∀ U,ZD V2 U->ZD V2 U/\U.cell? ⟨w.heap.size,1,aD⟩=dG (.int .i64 ht)/\U.cell? ⟨w.heap.size,4,aD⟩=dG (F (dG ⟨tb,am,aD⟩) nn c)/\U.cell? ⟨tb,am+i*3,aD⟩=dG (.int .i64 t1)/\U.cell? ⟨tb,am+i*3+1,aD⟩=dG (F ai ni ci)/\U.cell? ⟨tb,am+i*3+2,aD⟩=dG (F ao ae co)/\U.cell? ⟨qk,no+i,aD⟩=dG (.int .i64 nm)):=λU hb=>
       ⟨hb,Ze hb v1,Ze hb v4,Ze hb c0,Ze hb c1,Ze hb c2,Ze hb c4⟩
      clear c0 c1 c2 c4 v1 v4;go_wp2_with fail;refine bC (S:=λU=>ZD V2 U/\U.cell? ⟨w.heap.size,1,aD⟩=dG (.int .i64 ht)/\U.cell? ⟨w.heap.size,4,aD⟩=dG (F (dG ⟨tb,am,aD⟩) nn c)/\U.cell? ⟨tb,am+i*3,aD⟩=dG (.int .i64 t1)/\U.cell? ⟨tb,am+i*3+1,aD⟩=dG (F ai ni ci)/\U.cell? ⟨tb,am+i*3+2,aD⟩=dG (F ao ae co)/\U.cell? ⟨qk,no+i,aD⟩=dG (.int .i64 nm)) (by kernel_rfl) ((Za KS) _ (Zj _)) (λaa=>?_);refine tkL 0 rfl aa ?_;refine tkL 1 rfl aa ?_;refine tkL 2 rfl aa ?_;refine tkL 3 rfl aa ?_;refine tkL 4 rfl aa ?_;refine tkL 5 rfl aa ?_;refine tkL 6 rfl aa ?_;refine tkL 7 rfl aa ?_;refine tkL 8 rfl aa ?_;refine tkL 9 rfl aa ?_;refine tkL 10 rfl aa ?_;refine tkL 11 rfl aa ?_;refine wpAnyH_ready (rs:=[12,17]) (by kernel_rfl) (by simp) ?_;refine rdC rfl (λK hK=>?_) (rdC rfl (λK hK=>?_) AllReadyH.nil)
      focus
       refine Jg (by kernel_rfl) 59 #[F qc au qb,.agg #[.int .i64 t1,F ai ni ci,F ao ae co],.int .i64 nm,.int .i64 ht] (by kernel_rfl) ((Za AP) _ aa.1) ?_;rintro e w6 ⟨qf,es,qh,sa,ns,cs,rfl,da,dg,db,dh,bd⟩;refine⟨_,rfl,?_⟩;obtain⟨aw,kx,ld,fg,fh⟩:=kh5 (Zf aa.1 bd) da db dg dh;clear da db dg dh bd;clear aa;refine hK.out _ _ ((Za KS) _ (Za aw)) (λaa=>?_);clear hK K;refine tkL 13 rfl aa ?_;refine tkL 14 rfl aa ?_;refine tkL 15 rfl aa ?_;refine tkL 16 rfl aa ?_;refine rdY 17 rfl (λK hK=>?_);go_simp;obtain⟨WZ,ef⟩:=ZG (w6.alloc (dA #[F aD 0 0] 123));rw[<-ef];obtain⟨bx,be⟩:=ZG (w6.heap.size);have MZ:Hid (WZ.heap[bx]? = dG (dA [F aD 0 0].toArray 123 (0,0))):=(by show _=_;rw[ef,be];exact aG _ _);have ei:ZD w6 WZ:=(by rw[ef];exact Zh _ _);obtain⟨BZ,ez,fc⟩:=kh3 (Zf (Za aw) ei) ((Za kx).later ei) ((Za ld).later ei);have dp:Hid (V2.heap.size<=bx):=(by show _<=_;rw[be];exact (Za aw).size);rw[<-be];clear ei ef be;clear aa;refine hK.out _ _ ((Za KS) _ (Za BZ)) (λaa=>?_);clear hK K
      rotate_left
      focus
       go_simp;obtain⟨WA,dc⟩:=ZG (V2.drew.alloc (dA #[F aD 0 0] 123))
       (first|rw[<-dc]|(rw[show (V2.alloc (dA #[F aD 0 0] 123)).drew=WA from dc.symm]))
       have iw:ZD V2 WA:=(by rw[dc];exact Zf (Zj V2) (Zh _ _));obtain⟨bx,be⟩:=ZG (V2.heap.size);have MA:Hid (WA.heap[bx]? = dG (dA [F aD 0 0].toArray 123 (0,0))):=(by show _=_;rw[dc,be];exact aG V2.drew _);have dp:Hid (V2.heap.size<=bx):=(by show _<=_;rw[be];exact aE _);rw[<-be];have gu:=Zb iw;clear dc be iw;clear aa;refine hK.out _ _ ((Za KS) _ (Za gu)) (λaa=>?_);clear hK K;(try simp only[Act.put,ZA,ZB,ZC]);refine rdY 12 rfl (λK hK=>?_);refine Jg (by kernel_rfl) 59 #[F qc au qb,.agg #[.int .i64 t1,F ai ni ci,F ao ae co],.int .i64 nm,.int .i64 ht] (by kernel_rfl) ((Za AP) _ aa.1) ?_;rintro e WZ ⟨qf,es,qh,sa,ns,cs,rfl,da,dg,db,dh,bd⟩;refine⟨_,rfl,?_⟩;obtain⟨BZ,ez,fc,fg,fh,MZ⟩:=kh6 (Zf (Za gu) bd) da db dg dh (ZE bd (Za MA));clear da db dg dh bd MA;clear aa;refine hK.out _ _ ((Za KS) _ (Za BZ)) (λaa=>?_);clear hK K;refine tkL 13 rfl aa ?_;refine tkL 14 rfl aa ?_;refine tkL 15 rfl aa ?_;refine Zt 16 ⟨dG 102,.extract (.tmp 86) 2,35, "second.go:274",#[⟨13,.data⟩,⟨19,.gcOnly .lateStores⟩],aD⟩ ?_ rfl ?_ aa ?_;rotate_left
       ·(intro W oz;go_simp;first|done|with_reducible rfl)
      all_goals
       refine tkL 18 rfl aa ?_;obtain⟨z6,gn,gp⟩:=kf1 (Za MZ);refine rdY 19 rfl (λK hK=>?_);go_simp;clear aa;refine hK.out _ _ ((Za KS) _ ((Za BZ).setCell (Za dp) _)) (λaa=>?_);clear hK K;refine tkL 20 rfl aa ?_;refine bZ (by kernel_rfl) ?_ _;have CS:=Zb (Zni (g0:=w1.heap.size) (Za BZ) (Za dp) (Za kj) (Za MZ) (Za ez) (Za fg) (Za fc) (Za fh));obtain⟨Y,hY⟩:=ZG (WZ.setCell ⟨bx,0,aD⟩ (F sa ns cs));rw[<-hY] at CS ⊢;have dr:=Zb ((Za KS) Y (Za CS).1);clear hY aa z6 gn gp BZ dp MZ ez fg fc fh;by_cases ey:y=0
       ·subst ey;have ce:=Bj (Za eu);have kz:=Zb (Rm (Za eu)).2.1;have ep:ae<=6:=(by rw[<-(Za ds).1];exact (Xc (Za bg)).2.1);have gd:ns<=6:=by rw[<-(Za CS).2.2.2.1.1];exact ce.1
        go_upto_if 107 with fail
        go_cut [14] from 107 to 117 (λqi U=>∃ F2:Int,qi = .int .i64 F2/\Hid (Uu T (S.set i s) nn (k+1) F2)/\Hid (ZD Y U))
        case first=>
         by_cases bf:i=0
         ·have nf:¬((0:Int)<(i:Int)):=by omega
          have eo:k+1=nn:=by
           have e:=Za HI;by_cases q:k+1<nn
           ·rw[Nat.mod_eq_of_lt q] at e;omega
           ·omega
          have cu:Hid (Uu T (S.set i s) nn (k+1) aq):=(by show Uu _ _ _ _ _;rw[eo];exact Zif);clear bf;go_wp2_with fail;go_meet
          case rel=>exact⟨aq,rfl,cu,Below.refl _ _⟩
         ·first
          | (exfalso;omega)
          |skip
           have pg:(0:Int)<(i:Int):=(by omega);obtain⟨f,hf⟩:=ZF (Zm s - Yk O)
           have nb : -6000000000<=f/\f<=6000000000:=by
            have q1:=Zjw ce.1 ce.2;have q2:=Bz (Xc (Za bg)).2.1 (Jn (Za bg));simp only at q2;omega
           have fq:=Zfm (Za HF) cl ga;have hw:IntKind.i64.wrap (aq+f)=aq+f:=by rw[aP];omega
           have el:k+1=i:=by
            have e:=Za HI;by_cases q:k+1<nn
            ·rw[Nat.mod_eq_of_lt q] at e;exact e
            ·rw[show k+1=nn by omega,Nat.mod_self] at e;omega
           have cu:Hid (Uu T (S.set i s) nn (k+1) (aq+f)):=by
            have q:=Zie (s:=s) (Za HF) (by omega) (Za ZT) (Za dt) (t:=(t1,I,O)) (by rw[el];exact Za fd) (by simp only;omega) (by simp only;omega);rw[el] at q;simp only at q;rw[hf] at q;show Uu _ _ _ _ _;rw[el];exact q
           have FE:Hid (∀ U,ZD Y U->Calls aB 60 #[.agg #[.int .i64 t1,F ai ni ci,F ao ae co],F sa ns cs] U λe w'=>e = dB (.int .i64 f)/\ZD U w'):=λU hb=>
            Af sa ns cs s t1 ai ao ni ci ae co O f U gd ep ((Za CS).2.2.2.1.later hb) ((Za id).later (Zf (Za CS).1 hb)) ce.2 (Jn (Za bg)) hf
           have ih:Hid (∀ U,ZD Y U->ZD Y U/\U.cell? ⟨w.heap.size,4,aD⟩=dG (F (dG ⟨tb,am,aD⟩) nn c)/\U.cell? ⟨tb,am+i*3,aD⟩=dG (.int .i64 t1)/\U.cell? ⟨tb,am+i*3+1,aD⟩=dG (F ai ni ci)/\U.cell? ⟨tb,am+i*3+2,aD⟩=dG (F ao ae co)/\U.cell? ⟨bx,0,aD⟩=dG (F sa ns cs)):=λU hb=>
            ⟨hb,Ze hb (Za dr).2.2.1,Ze hb (Za dr).2.2.2.1,Ze hb (Za dr).2.2.2.2.1,Ze hb (Za dr).2.2.2.2.2.1,Ze hb (Zd (Za CS).2.2.2.2.2.2 0 _ rfl)⟩
           clear ce gd ep fq nb el hf;go_wp2_with fail;refine bC (S:=λU=>ZD Y U/\U.cell? ⟨w.heap.size,4,aD⟩=dG (F (dG ⟨tb,am,aD⟩) nn c)/\U.cell? ⟨tb,am+i*3,aD⟩=dG (.int .i64 t1)/\U.cell? ⟨tb,am+i*3+1,aD⟩=dG (F ai ni ci)/\U.cell? ⟨tb,am+i*3+2,aD⟩=dG (F ao ae co)/\U.cell? ⟨bx,0,aD⟩=dG (F sa ns cs)) (by kernel_rfl) ((Za ih) _ (Zj _)) (λaa=>?_);refine tkL 0 rfl aa ?_;refine tkL 1 rfl aa ?_;refine tkL 2 rfl aa ?_;refine tkL 3 rfl aa ?_;refine tkL 4 rfl aa ?_;refine tkL 5 rfl aa ?_;refine tkL 6 rfl aa ?_;refine tkL 7 rfl aa ?_;refine rdY 8 rfl (λK hK=>?_);refine Jg (by kernel_rfl) 60 #[.agg #[.int .i64 t1,F ai ni ci,F ao ae co],F sa ns cs] (by kernel_rfl) ((Za FE) _ aa.1) ?_;rintro e Y2 ⟨rfl,bd⟩;refine⟨_,rfl,?_⟩;have bq:=Zb (Zf aa.1 bd);clear bd;clear aa;refine hK.out _ _ ((Za ih) _ (Za bq)) (λaa=>?_);clear hK K;refine tkL 9 rfl aa ?_;refine tkL 10 rfl aa ?_;refine bZ (by kernel_rfl) ?_ _;clear aa;go_wp2_with fail;go_meet
           case rel=>exact⟨aq+f,rfl,cu,bq⟩
        obtain⟨F2,rfl,cu,bq⟩:=hcut;obtain⟨Y2,rfl⟩:=ZG (wc)
        have ky:Hid (Ws ht r T N (nn - (k+1)) (k+1) M (S.set i s)=(x,C',S')):=by
         have e:=Za cb;rw[if_neg (Za dw),if_neg (by decide)] at e;exact e
        clear ce gd ep;obtain⟨gv,kw,lc⟩:=kh3 (Zf (Za CS).1 (Za bq)) ((Za CS).2.1.later (Za bq)) ((Za CS).2.2.2.1.later (Za bq));have cw:=Zb ((Za li).later (Za gv));have UO:Hid (UsOk 123 w1.heap.size nn Y2):=by have:=(Za cw).ok;rw[Za dt] at this;exact this
        have ii:Hid (∀ U,Gr Y2 U (λq=>q=w1.heap.size)->UsOk 123 w1.heap.size nn U->Gr Y2 U (λq=>q=w1.heap.size)/\U.cell? ⟨bx,0,aD⟩=dG (F sa ns cs)/\UsOk 123 w1.heap.size nn U):=λU hg ho=>
         have hb:=((Za bq).block _ (aA (Za CS).2.2.2.2.2.2)).trans (Za CS).2.2.2.2.2.2
         ⟨hg,Zd ((hg.block bx (aA hb) (Za CS).2.2.2.2.2.1).trans hb) 0 _ rfl,ho⟩
        obtain⟨zz,z6⟩:=(Za UO).cell en;have gn:=(Za UO).free i;have gp:=(Za UO).lt;go_wp2_with fail;refine bC (S:=λU=>Gr Y2 U (λq=>q=w1.heap.size)/\U.cell? ⟨bx,0,aD⟩=dG (F sa ns cs)/\UsOk 123 w1.heap.size nn U) (by kernel_rfl) ((Za ii) _ (Gr.refl _ _).draw ((Za UO).later (Zj _))) (λaa=>?_);refine tkL 0 rfl aa ?_;refine tkL 1 rfl aa ?_;refine tkL 2 rfl aa ?_;refine tkL 3 rfl aa ?_;refine tkL 4 rfl aa ?_;refine tkL 5 rfl aa ?_;refine rdY 6 rfl (λK hK=>?_);go_simp;clear aa;refine hK.out _ _ ((Za ii) _ ((Gr.refl Y2 (λq=>q=w1.heap.size)).draw.one w1.heap.size i (.inl rfl) _) (UsOk.put ((Za UO).later (Zj _)) i _ _ _)) (λaa=>?_);clear hK K;(try simp only[Act.put,ZA,ZB,ZC]);refine bZ (by kernel_rfl) ?_ _;clear aa z6 gn gp;have dm:=Zb (Zj Y2);obtain⟨du,ib,gw⟩:=kh3 (((Za cw).later (Za dm)).put i ((Za lc).later (Za dm)) (Za CS).2.2.2.2.1) (Uo ((Za kw).later (Za dm)) ((Za UO).later (Za dm)) ((Gr.refl Y2.drew (λq=>q=w1.heap.size)).one w1.heap.size i (.inl rfl) (F sa ns cs))) ((((Za gx).trans (Gr.of (Za gv))).draw).one w1.heap.size i (.inl rfl) (F sa ns cs));have lf:Hid ((S.set i s).length=nn):=(by show _=_;rw[List.length_set];exact Za dt);obtain⟨Q,hQ⟩:=ZG (Y2.drew.setCell ⟨w1.heap.size,i,aD⟩ (F sa ns cs));rw[<-hQ] at ib du gw
        (first|rw[<-hQ]|(rw[show (Y2.setCell ⟨w1.heap.size,i,aD⟩ (F sa ns cs)).drew=Q from hQ.symm]))
        have lu:=Zb (Za CS).2.2.1;clear hQ UO CS;go_wp2;go_roundw
        case rel=>exact⟨k+1,qf,es,qh,M,S.set i s,F2,by omega,rfl,rfl,by go_num,(⟨Za ib,Za lu,Za kz⟩:CoinsAt Q qf es M/\SlOk qf es qh/\Zy M),du,lf,cu,ky,gw⟩
        case measure=>simp[intOf];omega
       ·have g:(y != 0)=true:=(by simp[ey]);have ct:Hid ((y,([]:List Zi),([]:List (List Zi)))=(x,C',S')):=(by have e:=Za cb;rw[if_neg (Za dw),if_pos ey] at e;exact e);have cx:=Zb (Zf (Za dn) (Zf ((Za ev) V2 (Za gx)) (Za CS).1));clear CS;go_wp2;(try simp only[bQ,Exit.then]);refine aL (v:=dC #[F aD 0 0,F aD 0 0,.int .i64 y]) ?_ rfl (Ry (Za ct) (Za cx));simp[results,Tryz.f52,go_sem]
     ·have nk:m=k:=(by omega);subst nk;have ct:Hid ((0,C,S)=(x,C',S')):=(by have e:=Za HQ;rw[Nat.sub_self] at e;exact e);have cx:=Zb (Zf (Za dn) (Zf (Za dl) ((Za GB) wr (Za HG))));have jq:UndosAt wr (dG ⟨w1.heap.size,0,aD⟩) m S:=by have q:=(Za HU).undos;rw[Za dt] at q;exact q
      have kt:Hid (Zjb w wr x C' S' (dB (dC #[F qc au qb,F (dG ⟨w1.heap.size,0,aD⟩) m m,.int .i64 0]))):=by
       obtain⟨e1,e2⟩:=cA (Za ct);obtain⟨e2,e3⟩:=cA e2;subst e1 e2 e3;exact⟨qc,au,qb,dG ⟨w1.heap.size,0,aD⟩,m,m,rfl,(Za HO).1,(Za HO).2.1,jq,⟨aE _,by unfold aT;omega,λh=>by cases h⟩,Za cx,λad e=>by cases e;exact aO (Za dn).size (Za dl).size⟩
      clear cl jq;go_wp2;(try simp only[bQ,Exit.then]);refine aL (v:=dC #[F qc au qb,F (dG ⟨w1.heap.size,0,aD⟩) m m,.int .i64 0]) ?_ rfl (Za kt);simp[results,Tryz.f52,go_sem]
theorem Zle(ka kn kc K la ln lc C0)(p ht k0 n:Int)(a m c T)(x:Int)(C' S' w)(hE:EnvF w)(hK:Bk.TextsAt w ka kn K)(sK:Bk.SlOk ka kn kc)(hR:Bk.Right K)(hC:CoinsAt w la ln C0)(sC:SlOk la ln lc)(ap:Zy C0)(hT:TxsAt w a m T)(sT:SlOk a m c)(hx:Xf K C0 (p,ht,k0,n,T)=(x,C',S')) :
  Calls aB 52 #[F ka kn kc,F la ln lc,.agg #[E J p,E J ht,E J k0,E J n,F a m c]] w λe w'=>Zjb w w' x C' S' e:=by
 obtain⟨⟨X1,aq,N,z⟩,af⟩:=ZF (Xk K (p,ht,k0,n,T));have bf:Zz C0=0:=(Z6 _).2 ap;have bg:nfD K C0 (p,ht,k0,n,T)=(N,z):=by unfold nfD;rw[if_neg (λq=>q bf),af]
 unfold Xf at hx;rw[bg] at hx;have zT:T.length=m:=hT.1;by_cases hz:z=0
 ·subst hz;rw[if_neg (λq=>q rfl)] at hx;obtain⟨_,_,h1,h2⟩:=Q9 (Pi af).1;simp only at h1 h2
  have hr:rwD ht=((rwD ht).1,0):=by
   have e:(rwD ht).2=0:=by
    unfold rwD;rw[if_pos (by simp only[aX,decide_eq_true_eq];omega)]
   rw[<-e]
  refine Zgw ka kn kc K la ln lc C0 p ht k0 n a m c T X1 aq N (rwD ht).1 x C' S' w hE hK sK hR hC sC ap hT sT af hr ?_;rw[<-zT];exact hx
 ·rw[if_pos hz] at hx;have HE:Hid ((z,([]:List Zi),([]:List (List Zi)))=(x,C',S')):=hx;obtain⟨X,hX,ae,bd⟩:=ka00 w [E J p,E J ht,E J k0,E J n,F a m c] 33;have NF:=Zb (P7 ka kn kc K p ht k0 n a m c T X1 aq N z X (hE.later ae) (hK.later ae) sK hR (hT.later ae) af);obtain⟨x0,x1,x2,x3,x4,xl⟩:=kc5 bd;have av:=Zb ae;have gm:(z != 0)=true:=by simp[hz]
  go_enter func52,ntmps52;go_wp2_with fail;rw[<-hX];(try go_wp2_with fail);refine (Za NF).mono ?_;rintro e w1 ⟨a',n',c',na,nn,nc,rfl,_,_,hN,be⟩;have au:=Zb (Zf (Za av) be);go_wp2;refine aL (v:=dC #[F aD 0 0,F aD 0 0,E J z]) ?_ rfl (Ry (Za HE) (Za au));simp[results,Tryz.f52,go_sem]
namespace Tr
open Go.RowKit
theorem Zlp(w:World)(B:Nat)(e:aY)(sz:Nat):w.ownsRow B e sz (F aD 0 0) 0 []:=⟨by simp,.inl ⟨rfl,rfl⟩⟩
theorem Zcf(a b n c e)(w:World) :
  Calls aB 51 #[.agg #[F a n c,F b n e],E J 0] w λr w'=>r = dB (dC #[F aD 0 0,dF true])/\ZD w w':=by
 have HB:=Zb (Zh w (dA #[F a n c,F b n e] 28));go_enter func51,ntmps51;go_wp2;go_ret2;exact⟨rfl,Za HB⟩
theorem Zcg(a b)(n c e:Nat)(N:List Int)(T:List Zk)(x y:Int)(P:List Int)(d:Nat)(w:World)(hn:n<=aT)(hN:IntsAt w a n N)(hT:BlksAt w b n T)(hl:N.length=T.length)(h0:x≠0)(hx:x∈N)(hy:(fnd x N T).1=y)(hd:d<=1000)
  (ih:∀ W,ZD w W->Calls aB 51 #[.agg #[F a n c,F b n e],E J y] W λr w'=>∃ v,r = dB (dC #[v,dF true])/\w'.ownsRow W.heap.size 3 1 v d (P.map (aU .i64))/\ZD W w') :
  Calls aB 51 #[.agg #[F a n c,F b n e],E J x] w λr w'=>∃ v,r = dB (dC #[v,dF true])/\w'.ownsRow w.heap.size 3 1 v (d+1) ((P++[x]).map (aU .i64))/\ZD w w':=by
 obtain⟨i0,bg,bq,br,bs⟩:=bX Tryz.infoIntC;obtain⟨X,hX,aa,ag⟩:=ka00 w [F a n c,F b n e] 28
 rcases idxI_fnd x N T 0 hl with ⟨_,q,_⟩|⟨i,hi,k1,_,k3⟩
 ·exact absurd hx q
 rw[bO] at k1;have cf:i<n:=by rw[<-hT.1];exact hi
 obtain⟨cu,oq,rfl,cd,be⟩:=(hT.later aa).2 (by omega);have cq:=(be i hi).1;rw[<-k3,hy] at cq;have C1:=Zb (indexInt_is a n c N x (i:Nat) X hn (hN.later aa) k1);have IH:=Zb (λW (hb:ZD X W)=>ih W (Zf aa hb));obtain⟨x0,x1,xl⟩:=kc2 ag;obtain⟨HB,bx⟩:=kh2 aa ag;have g:(x == 0)=false:=by simp[h0]
 have gi:¬(i:Int)<0:=by omega
 have cc:(i:Int)<(n:Int):=by omega
 go_enter func51,ntmps51;go_wp2_with fail;rw[<-hX];clear hX;refine C1.mono ?_;rintro r w1 ⟨rfl,rfl⟩;go_wp2_with fail
 go_region_with (go_at_call 51;refine (IH _ (Zj _)).mono ?_;rintro r w3 ⟨v,rfl,ak,ah⟩;have ad:=Zb ak;have ap:=Zb ah;clear ak ah)
 all_goals
  obtain⟨ct,cv,rfl,sv,-⟩:=ints_of_own ad;have aj:=Zh w3 (dA #[E J x] 3);have bd:=Zf (Zf HB (Zj _)) ap;obtain⟨ae,au,ab⟩:=kh3 ((Gr.of (S:=λ_=>False) aj).own (Xy ad HB.size) (λ_ _ q=>q)) (bI (aG w3 (dA #[E J x] 3))) (Zf bd aj)
  go_wp2_with (at_builtin;refine wpList_append_lies _ rfl _ _ 25 rfl w.heap.size 3 i0 (E J 0) 1 8 cR bg bq br bs rfl (by decide) _ _ _ rfl ae ⟨w3.heap.size,0,aD⟩ 1 1 [E J x] rfl rfl au (λu hu=>by simp at hu;subst hu;rfl) (by decide) (by unfold aT;omega) (by omega) ab.size _ rfl ?_;intro g7 aw w7 bj bf cg _)
  obtain⟨av,aq⟩:=kh2 bj (ab.grown bf ab.size (λk hk=>(ae.lt k hk).1));go_wp2;go_ret2;exact⟨F (dG ⟨g7,0,aD⟩) (d+1) aw,rfl,Za av,Za aq⟩
theorem Zkw(a b)(n c e:Nat)(N T)(aa:TrOk N T)(hn:n<=aT):∀ (d:Nat) (x:Int) (w:World),IntsAt w a n N->BlksAt w b n T->(x=0\/x∈N)->(fnd x N T).2.1.toNat=d ->
  Calls aB 51 #[.agg #[F a n c,F b n e],E J x] w λr w'=>∃ v,r = dB (dC #[v,dF true])/\w'.ownsRow w.heap.size 3 1 v d ((Y7 N T x).map (aU .i64))/\ZD w w':=by
 intro d
 induction d with
 | zero=>
  intro x w _ _ hx hd
  have h0:x=0:=by
   rcases hx with h|h
   ·exact h
   ·have:=(aa.heads _ (Zmp aa.len h)).1;omega
  subst h0;rw[aa.pth_zero];exact (Zcf a b n c e w).mono λr w' ⟨h1,h2⟩=>⟨_,h1,Zlp _ _ _ _,h2⟩
 | succ d ih=>
  intro x w hN hT hx hd
  have ac:x∈N:=by
   rcases hx with rfl|hx
   ·rw[fnd_out aa.len aa.zero] at hd;simp[Y6] at hd
   ·exact hx
  have e1:=aa.hgt x ac;have h1:=Us aa.heads (fnd x N T).1 N;have h2:=Us aa.heads x N;rw[aa.pth_step ac];exact Zcg a b n c e N T x _ _ d w hn hN hT aa.len (λq=>aa.zero (q ▸ ac)) ac rfl (by omega) (λW hb=>ih _ W (hN.later hb) (hT.later hb) (aa.par x ac) (by omega))
theorem rpath_is(a b)(n c e:Nat)(N T)(x:Int)(P:List Int)(pn:Nat)(w:World)(ab:TrOk N T)(hn:n<=aT)(hN:IntsAt w a n N)(hT:BlksAt w b n T)(hx:x=0\/x∈N)(hP:Y7 N T x=P)(ac:P.length=pn) :
  Calls aB 51 #[.agg #[F a n c,F b n e],E J x] w λr w'=>∃ v,r = dB (dC #[v,dF true])/\w'.ownsRow w.heap.size 3 1 v pn (P.map (aU .i64))/\ZD w w':=by
 subst hP ac;have:=Zkw a b n c e N T ab hn _ x w hN hT hx rfl;rw[<-pth_length] at this;exact this
theorem Zkp(a b)(n c d:Nat)(N T)(x z:Int)(w:World)(ad:TrOk N T)(hn:n<=24)(hN:IntsAt w a n N)(hT:BlksAt w b n T)(hx:x=0\/x∈N)(hz:Xr N T x=z) :
  Calls aB 48 #[.agg #[F a n c,F b n d],E J x] w λr w'=>r = dB (E J z)/\ZD w w':=by
 obtain⟨X,hX,ab,am⟩:=ka00 w [F a n c,F b n d] 28;have cb:n<=aT:=by unfold aT;omega
 obtain⟨P,hP⟩:=ZF (Y7 N T x);obtain⟨pn,au⟩:=ZF (P.length);have cp:pn<=1000:=by rw[<-au,<-hP];exact pth_len ad.heads x
 obtain⟨C1,HB,bo,HN,HT,al,bq,HH⟩:=kh8 (rpath_is a b n c d N T x P pn X ad cb (hN.later ab) (hT.later ab) hx hP au) ab am (hN.later ab) (hT.later ab) hN.1 hT.1 ad.heads;have HX:Hid (Vs P 0 (N.drop 0) (T.drop 0)=z):=by show _=_;rw[<-hz,<-ad.rw_wrk hx,hP];rfl
 obtain⟨x0,x1,xl⟩:=kc2 am;go_enter func48,ntmps48;go_wp2_with fail;rw[<-hX];refine C1.mono ?_;rintro r w1 ⟨v,rfl,cc,an⟩;obtain⟨pa,pc,rfl,sp,hp⟩:=ints_of_own cc;have HP:=Zb hp;have ap:=ZE an bo;have be:=Zb ap;obtain⟨y0,yl⟩:=kc1 ap;have ak:=Zb an;go_wp2
 go_loopw [5,19] (λsv i wr=>∃ (k:Nat) (s:Int),k<=n/\sv = E J s/\i = E J k/\Hid (Vs P s (N.drop k) (T.drop k)=z)/\Hid (0<=s/\s<=1000*k)/\Hid (ZD w1 wr)) (λ_ i _=>n - (intOf i).toNat)
 case atStart=>exact⟨0,0,aI _,rfl,rfl,HX,(⟨by omega,by omega⟩:(0:Int)<=0/\(0:Int)<=1000*(0:Nat)),(Below.refl _ _:ZD w1 w1)⟩
 case round=>
  obtain⟨k,s,hk,rfl,rfl,A,BD,aa⟩:=hrel;by_cases aq:k<n
  ·have h1:k<N.length:=(by rw[Za al];exact aq);have h2:k<T.length:=(by rw[Za bq];exact aq);have ac:=Zf ak aa;obtain⟨b1,cw,rfl,bz,bv⟩:=HN.2 (by omega);obtain⟨b2,cx,rfl,ca,bw⟩:=HT.2 (by omega);have f1:=Ze ac (bv k h1);have f2:=Ze ac (bw k h2).2.2.1;have AT:=Zb (Zpf P s N T k h1 h2);have hq:=HH _ (aQ h2);obtain⟨y,hy⟩:=ZF (N[k]);obtain⟨v,hv⟩:=ZF (T[k].2.2.1);obtain⟨o,ho⟩:=ZF (decide (y∈P));rw[hy,hv,ho] at AT;rw[hy] at f1;rw[hv] at f2 hq;have ct:=aF bz ac.size;have cu:=aF ca ac.size;have bx:=ZE aa be;obtain⟨t0,t1,tl⟩:=kc2 bx;have CC:=Zb (Vp pa pn pc P y o wr (by unfold aT;omega) (HP.later aa) ho);have cl:=Za BD;have cq:IntKind.i64.wrap (s+v)=s+v:=(by rw[aP];omega);have cn:(k:Int)<(n:Int):=(by omega);cases o with
   | true=>
    have R:Hid (Vs P (s+v) (N.drop (k+1)) (T.drop (k+1))=z):=by
     show _=_;have:=Za AT;rw[if_pos rfl] at this;rw[<-Za A,this]
    have af:Hid (0<=s+v/\s+v<=1000*((k+1:Nat):Int)):=(by show _/\_;omega);go_wp2_with fail;refine CC.mono ?_;rintro r w5 ⟨rfl,rfl⟩;go_wp2;go_roundw
    case rel=>exact⟨k+1,s+v,by omega,rfl,by go_num,R,af,aa⟩
    case measure=>simp[intOf];omega
   | false=>
    have R:Hid (Vs P s (N.drop (k+1)) (T.drop (k+1))=z):=by
     show _=_;have:=Za AT;rw[if_neg (by decide)] at this;rw[<-Za A,this]
    have af:Hid (0<=s/\s<=1000*((k+1:Nat):Int)):=(by show _/\_;omega);go_wp2_with fail;refine CC.mono ?_;rintro r w5 ⟨rfl,rfl⟩;go_wp2;go_roundw
    case rel=>exact⟨k+1,s,by omega,rfl,by go_num,R,af,aa⟩
    case measure=>simp[intOf];omega
  ·have R:Hid (s=z):=(by show _=_;rw[<-Za A,Zkr P s N T k (by rw[Za al];omega)]);have bd:=Zb (Zf HB (Zf ak aa));go_wp2;go_ret;exact⟨by rw[Za R];rfl,Za bd⟩
end Tr
open Go.RowKit
def UnV(B:Nat)(w:World)(v:Value)(S:List (List Zi)):Prop:=∃ a n c,v = F a n c/\UndosAt w a n S/\∀ ad,a=dG ad->B<=ad.block
def UnC(B:Nat)(w:World)(cs:List Value)(U:List (List (List Zi))):Prop:=cs.length=24/\∀ i,i<24->∃ v,cs[i]? = dG v/\UnV B w v (U.getD i [])
theorem UnV.later{B:Nat}{w w':World}{v S}(h:UnV B w v S)(hb:ZD w w'):UnV B w' v S:=by
 obtain⟨a,n,c,e,h,h2⟩:=h;exact⟨a,n,c,e,h.later hb,h2⟩
theorem UnC.later{B:Nat}{w w':World}{cs U}(h:UnC B w cs U)(hb:ZD w w'):UnC B w' cs U:=
 ⟨h.1,λi hi=>by obtain⟨v,e,hv⟩:=h.2 i hi;exact⟨v,e,hv.later hb⟩⟩
theorem UnC.nil(B:Nat)(w):UnC B w (bP 24 (F aD 0 0)) []:=
 ⟨by simp,λi hi=>⟨F aD 0 0,by rw[List.getElem?_replicate,if_pos hi],aD,0,0,rfl,⟨by simp[List.getD],λh=>absurd h (by omega)⟩,λad e=>by cases e⟩⟩
theorem UnC.slices{B:Nat}{w cs U}(h:UnC B w cs U):∀ v∈cs,∃ a n c,v = F a n c:=by
 intro v hv;obtain⟨i,hi,rfl⟩:=List.getElem_of_mem hv;obtain⟨v,e,a,n,c,e2,_⟩:=h.2 i (by rw[<-h.1];exact hi);rw[bR hi] at e;injection e with e;exact⟨a,n,c,e.trans e2⟩
theorem Zjl{ty:aY}{g m:Nat}{w w' a n S}(h:UndosAt w a n S)(ho:UsOk ty g m w)(hn:∀ ad,a=dG ad->ad.block≠g)(hg:Gr w w' (λq=>q=g)):UndosAt w' a n S:=by
 refine⟨h.1,λh0=>?_⟩;obtain⟨b,off,rfl,hb,hc⟩:=h.2 h0;refine⟨b,off,rfl,aF hb hg.size,λi hi=>?_⟩;have ah:b≠g:=hn _ rfl;obtain⟨ca,cn,cc,h1,h2,h3⟩:=hc i hi;exact⟨ca,cn,cc,hg.cell h1 ah,Uo h2 ho hg,h3⟩
theorem UnC.gr{ty:aY}{B g m:Nat}{w w' cs U}(h:UnC B w cs U)(ho:UsOk ty g m w)(hB:g<B)(hg:Gr w w' (λq=>q=g)):UnC B w' cs U:=
 ⟨h.1,λi hi=>by
  obtain⟨v,e,a,n,c,e2,h1,h2⟩:=h.2 i hi;exact⟨v,e,a,n,c,e2,Zjl h1 ho (λad q=>by have:=h2 ad q;omega) hg,h2⟩⟩
theorem UnC.less{B B':Nat}{w cs U}(h:UnC B' w cs U)(hb:B<=B'):UnC B w cs U:=
 ⟨h.1,λi hi=>by obtain⟨v,e,a,n,c,e2,h1,h2⟩:=h.2 i hi;exact⟨v,e,a,n,c,e2,h1,λad q=>aO hb (h2 ad q)⟩⟩
theorem UnC.one{B:Nat}{w}{cs:List Value}{U}(h:UnC B w cs U):cs.toArray.all (·.oneCell')=true:=by
 rw[Array.all_eq_true_iff_forall_mem];intro v hv;obtain⟨a,n,c,rfl⟩:=h.slices v (by simpa using hv);rfl
def CnR(w w':World)(x:Int)(C:List Zi)(e:Ending):Prop:=∃ oa ab oc,e = dB (dC #[F oa ab oc,E J x])/\CoinsAt w' oa ab C/\SlOk oa ab oc/\ZD w w'
theorem Zte{w w':World}{x y:Int}{C}(h:((y:Int),([]:List Zi))=(x,C))(hb:ZD w w'):CnR w w' x C (dB (dC #[F aD 0 0,E J y])):=by
 injection h with h1 h2;subst h1 h2;exact⟨aD,0,0,rfl,⟨rfl,λh=>absurd h (by omega)⟩,Z5,hb⟩
open Tr (fnd Y7 chkTr TrOk)
theorem P8(ka kn kc K a b n c d N T)(s:Int)(x:Int)(C' w)(hE:EnvF w)(hK:Bk.TextsAt w ka kn K)(sK:Bk.SlOk ka kn kc)(hR:Bk.Right K)(hN:Tr.IntsAt w a n N)(hT:Tr.BlksAt w b n T)(hn:n<=aT)(ak:TrOk N T)(hs:s=0\/s∈N)(hx:Ur K N T (Y7 N T s) []=(x,C')) :
  Calls aB 24 #[F ka kn kc,.agg #[F a n c,F b n d],E J s] w λe w'=>CnR w w' x C' e:=by
 obtain⟨X,hX,ap,bg⟩:=ka00 w [F a n c,F b n d] 28;obtain⟨P,hP⟩:=ZF (Y7 N T s);obtain⟨pn,au⟩:=ZF (P.length);have ds:∀ y∈P,y∈N:=by rw[<-hP];exact ak.pth_sub hs
 have eq:pn<=1000:=by rw[<-au,<-hP];exact Tr.pth_len ak.heads s
 rw[hP] at hx;have C1:=Zb (Tr.rpath_is a b n c d N T s P pn X ak hn (hN.later ap) (hT.later ap) hs hP au);obtain⟨x0,x1,xl⟩:=kc2 bg;obtain⟨bx,cu,HE,HK,cn,HR,HN,HT⟩:=kh8 ap bg hE hK sK hR hN hT;obtain⟨eb,cp,ay,HX⟩:=kh4 ak ds au hx;go_enter func24,ntmps24;go_wp2_with fail;rw[<-hX];(try go_wp2_with fail);refine C1.mono ?_;rintro e w1 ⟨v,rfl,dp,bh⟩;obtain⟨fj,cv,rfl,sv,iv⟩:=Tr.ints_of_own dp;obtain⟨ax,cw,cd⟩:=kh3 (Zf bx bh) (ZE bh cu) iv;go_wp2_with fail
 go_loopw [8,24] (λcv i wr=>∃ (j:Nat) (ff:Option Addr) (fg fh:Nat) (C:List Zi),j<=pn/\i = E J j/\cv = F ff fg fh/\Hid (CoinsAt wr ff fg C/\SlOk ff fg fh/\Zy C)/\Hid (Ur K N T (P.drop j) C=(x,C'))/\Hid (ZD w1 wr)) (λ_ i _=>pn - (intOf i).toNat)
 case atStart=>exact⟨0,aD,0,0,[],aI _,rfl,rfl,⟨⟨rfl,λh=>absurd h (by omega)⟩,Z5,(Z6 _).1 rfl⟩,by show _=_;rw[List.drop_zero];exact Za HX,Below.refl _ _⟩
 case round=>
  obtain⟨j,ff,fg,fh,C,hj,rfl,rfl,HC,HQ,HG⟩:=hrel;by_cases dn:j<pn
  ·have ar:j<P.length:=(by rw[Za ay];exact dn);have hq:=(Zph ar C).symm.trans HQ;obtain⟨pb,po,rfl,dq,dr⟩:=cd.2 (by omega);have f1:=Ze HG (dr j ar);have fl:=aF dq HG.size;have bj:=cp P[j] (aQ ar);obtain⟨y,hy⟩:=ZF (P[j]);rw[hy] at hq f1 bj;have ag:=Zf ax HG;have bf:=HN.later ag;have am:=HT.later ag
   rcases Tr.idxI_fnd y N T 0 (by rw[bf.1,am.1]) with ⟨_,q,_⟩|⟨i,hi,k1,_,k3⟩
   ·exact absurd bj q
   rw[bO] at k1;have en:i<n:=(by rw[<-am.1];exact hi);obtain⟨bq,oq,rfl,ek,dj⟩:=am.2 (by omega);have an:=dj i hi;rw[<-k3] at an;obtain⟨⟨bp,fi,bk,bn,L⟩,di⟩:=ZF (fnd y N T);rw[di] at an hq;obtain⟨g0,g1,g2,g3,ta,tn,tc,g4,ht,sT⟩:=an;simp only at g0 g1 g2 g3 ht;obtain⟨⟨x3,C3,S3⟩,aq⟩:=ZF (Xf K C (bp,fi,bk,bn,L));rw[aq] at hq;simp only at hq;have dl:=ZE HG cw;obtain⟨t0,t1,tl⟩:=kc2 dl;have CI:=Zb (λW (hw:ZD wr W)=>Tr.indexInt_is a n c N y (i:Nat) W hn (bf.later hw) k1);have CN:=Zb (λW (hw:ZD wr W)=>Zle ka kn kc K ff fg fh C bp fi bk bn ta tn tc L x3 C3 S3 W (HE.later (Zf ag hw)) (HK.later (Zf ag hw)) cn HR (HC.1.later hw) HC.2.1 HC.2.2 (ht.later hw) sT aq);have gi:¬(i:Int)<0:=(by omega);have eh:(i:Int)<(n:Int):=(by omega);have ep:(j:Int)<(pn:Int):=(by omega);obtain⟨bd,ca,bw⟩:=kh3 hq aq ag;go_wp2_with fail
   go_region_with (first
    | (go_at_call 53;refine (CI _ (Zj _)).mono ?_;rintro e w3 ⟨rfl,rfl⟩)
    | (go_at_call 52;refine (CN _ (Zj _)).mono ?_;rintro e w4 ⟨oa,dx,oc,ua,un,uc,rfl,dc,dy,ej,eu,dh,el⟩;have H4:=Zb (Zf (Zj _) dh);have bz:=Zb dc;have cm:=Zb dy;skip))
   all_goals
    by_cases av:x3=0
    ·subst av;have cg:Hid (Ur K N T (P.drop (j+1)) C3=(x,C')):=(by have:=Za bd;rw[if_neg (λq=>q rfl)] at this;exact this);obtain⟨af,cl⟩:=kh2 (Zf HG H4) (M6 ca);go_wp2;go_roundw
     case rel=>exact⟨j+1,oa,dx,oc,C3,by omega,by go_num,rfl,⟨Za bz,Za cm,Za cl⟩,cg,af⟩
     case measure=>simp[intOf];omega
    ·have al:Hid ((x3,([]:List Zi))=(x,C')):=(by have:=Za bd;rw[if_pos av] at this;exact this);have gx:(x3 != 0)=true:=(by simp[av]);have af:=Zb (Zf bw H4);go_wp2;refine aL (v:=dC #[F aD 0 0,E J x3]) ?_ rfl (Zte al af);simp[results,Tryz.f24,go_sem]
  ·have dm:j=pn:=(by omega);have al:Hid (((0:Int),C)=(x,C')):=(by have:=Za HQ;rw[List.drop_of_length_le (by rw[Za ay];omega)] at this;exact this);have af:=Zb (Zf ax HG)
   have cc:Hid (CnR w wr x C' (dB (dC #[F ff fg fh,E J 0]))):=by
    obtain⟨e1,e2⟩:=cA al;subst e1 e2;exact⟨ff,fg,fh,rfl,HC.1,HC.2.1,Za af⟩
   subst dm;go_wp2;refine aL (v:=dC #[F ff fg fh,E J 0]) ?_ rfl cc;simp[results,Tryz.f24,go_sem]
namespace Tr
open Go.RowKit
theorem Znx(w:World)(os:Array Obj):ZD w (Sort.grow w os):=
 ⟨rfl,rfl,rfl,by simp[Sort.grow],λk hk=>by simp[Sort.grow,Array.getElem?_append,hk]⟩
theorem Cb(base:Nat)(v)(n:Nat)(N:List Int)(w:World)(hn:n<=4096)(h:w.ownsRow base 3 1 v n (N.map (aU .i64)))(hb:base<=w.heap.size) :
  Calls aB 47 #[v] w λe w'=>e = dB (dC #[])/\w'.ownsRow base 3 1 v n ((srt N).map (aU .i64))/\Below base w w':=by
 by_cases hv:v = F aD 0 0
 ·subst hv
  have ak:n=0:=by
   rcases h.2 with ⟨_,h0⟩|⟨g,cap,al,e,_⟩
   ·exact h0
   ·cases e
  subst ak;have hN:N=[]:=by have:=h.1;simpa using this
  subst hN;exact (Tryz.sort_Ints_none aD 0 w).mono λe w' ⟨h1,h2⟩=>⟨h1,by rw[h2];simpa[srt] using h,by rw[h2];exact Below.refl _ _⟩
 ·obtain⟨g,cap,rfl,hg,aj,h1,h2,hl,hH⟩:=Lib.holds_of_ownsRow h hv;have C:=Tryz.sort_Ints g 0 cap N w hH aj (by omega);rw[hl] at C;refine C.mono ?_;rintro e w' ⟨rfl,q,os,rfl⟩;have hp:=Lib.ownsRow_putRow (q:=q) (k:=n) (ys:=srt N) h (by rw[Ke,hl]) (aE _);rw[aM (by rw[Ke,hl];exact aE _)] at hp;have ab:Below base w (Sort.putRow (aU .i64) (Sort.ahead w q) g 0 (srt N).toArray):=Lib.below_putRow (Below.refl _ _) hg;have ac:=Znx (Sort.putRow (aU .i64) (Sort.ahead w q) g 0 (srt N).toArray) os;exact⟨rfl,(Gr.of (S:=λ_=>False) ac).own hp (λ_ _ q=>q),ab.trans (ac.mono (aO hb ab.size))⟩
theorem rbest_is(a b)(n c d:Nat)(N T)(z:Int)(w:World)(bg:TrOk N T)(hn:n<=24)(hN:IntsAt w a n N)(hT:BlksAt w b n T)(sN:SlOk a n c)(hz:bstGo N T 0 0 N=z) :
  Calls aB 20 #[.agg #[F a n c,F b n d]] w λr w'=>r = dB (E J z)/\ZD w w':=by
 obtain⟨X,hX,af,ay⟩:=ka00 w [F a n c,F b n d] 28;obtain⟨S,hS⟩:=ZF (srt N);have cf:S.length=n:=by rw[<-hS,Ke];exact hN.1
 have cg:∀ x∈S,x∈N:=λx hx=>(Lc N).mem_iff.1 (hS ▸ hx);have C1:=Zb (U2 a n c N X (by omega) (hN.later af) sN);have CW:=Zb (λx y W (hb:ZD X W) (hx:x=0\/x∈N) (hy:Xr N T x=y)=>Zkp a b n c d N T x y W bg hn (hN.later (Zf af hb)) (hT.later (Zf af hb)) hx hy);obtain⟨HB,cc,aw,ca,HS⟩:=kh5 af ay cf cg hS;have HX:Hid (Hy (Xr N T) 0 (S.drop 0)=z):=by show _=_;rw[<-hz,<-bg.best_rb,hS];rfl
 obtain⟨x0,xl⟩:=kc1 ay;go_enter func20,ntmps20;go_wp2_with fail;rw[<-hX];refine C1.mono ?_;rintro r w1 ⟨v,rfl,ct,az⟩;obtain⟨C2,bv⟩:=kh2 (Cb X.heap.size v n N w1 (by omega) ct az.size) az;go_wp2_with fail;refine C2.mono ?_;rintro r w2 ⟨rfl,bf,cl⟩;rw[Za HS] at bf;obtain⟨sa,sc,rfl,ss,hs⟩:=ints_of_own bf;have bz:=Zb hs;have au:Hid (ZD X w2):=bv.trans cl;go_wp2
 go_loopw [4,14] (λdj i wr=>∃ (k:Nat) (bb:Int),k<=n/\dj = E J bb/\i = E J k/\Hid (Hy (Xr N T) bb (S.drop k)=z)/\Hid (bb=0\/bb∈N)/\Hid (ZD w2 wr)) (λ_ i _=>n - (intOf i).toNat)
 case atStart=>exact⟨0,0,aI _,rfl,rfl,HX,(.inl rfl:(0:Int)=0\/(0:Int)∈N),(Below.refl _ _:ZD w2 w2)⟩
 case round=>
  obtain⟨k,bb,hk,rfl,rfl,A,IN,ab⟩:=hrel;have al:ZD X wr:=au.trans (ab.mono au.size);by_cases cq:k<n
  ·have h1:k<S.length:=(by rw[Za aw];exact cq);obtain⟨b1,dd,rfl,cp,cm⟩:=bz.2 (by omega);have f1:=Ze ab (cm k h1);have AT:=Zb (Zpj (Xr N T) bb S k h1);have bh:=ca _ (aQ h1);obtain⟨y,hy⟩:=ZF (S[k]);rw[hy] at f1 AT bh;have ah:=Zb bh;have dc:=aF cp ab.size;have cn:=ZE al cc;obtain⟨t0,t1,tl⟩:=kc2 cn;have db:(k:Int)<(n:Int):=(by omega);have av:=Zb al;by_cases e0:bb=0
   ·subst e0
    have R:Hid (Hy (Xr N T) y (S.drop (k+1))=z):=by
     show _=_;have:=Za AT;rw[if_pos (.inl rfl)] at this;rw[<-Za A,this]
    have aj:Hid (y=0\/y∈N):=.inr ah;go_wp2_with fail
    go_quiet (fail)
    go_wp2;go_roundw
    case rel=>exact⟨k+1,y,by omega,rfl,by go_num,R,aj,Zf ab (Znw _ _)⟩
    case measure=>simp[intOf];omega
   ·obtain⟨ky,be⟩:=ZF (Xr N T y);obtain⟨kb,bd⟩:=ZF (Xr N T bb);rw[be,bd] at AT;have CY:=Zb (λW (hb:ZD wr W)=>CW y ky W (Zf av hb) (.inr ah) be);have CB:=Zb (λW (hb:ZD wr W)=>CW bb kb W (Zf av hb) IN bd);have gb:(bb == 0)=false:=(by simp[e0]);by_cases g:kb<ky
    ·have R:Hid (Hy (Xr N T) y (S.drop (k+1))=z):=by
      show _=_;have:=Za AT;rw[if_pos (.inr g)] at this;rw[<-Za A,this]
     have aj:Hid (y=0\/y∈N):=.inr ah;go_wp2_with fail
     go_region_held3 (λW=>ZD wr W/\W.cell? ⟨w.heap.size,0,aD⟩=dG (F a n c)/\W.cell? ⟨w.heap.size,1,aD⟩=dG (F b n d))
      (first|exact⟨Zj _,t0,t1⟩|(go_split_ands;refine⟨Zf (by assumption) aa,Ze aa (by assumption),Ze aa (by assumption)⟩))
      ((first|(go_at_call_of 48 (aU .i64 y);go_split_ands;refine (CY _ (by assumption)).mono ?_;rintro e w' ⟨rfl,aa⟩)|(go_at_call_of 48 (aU .i64 bb);go_split_ands;refine (CB _ (by assumption)).mono ?_;rintro e w' ⟨rfl,aa⟩)))
     rename_i hq;have HQ:=Zb (Zf ab hq.1);go_wp2;go_roundw
     case rel=>exact⟨k+1,y,by omega,rfl,by go_num,R,aj,HQ⟩
     case measure=>simp[intOf];omega
    ·have R:Hid (Hy (Xr N T) bb (S.drop (k+1))=z):=by
      show _=_;have:=Za AT;rw[if_neg (λq=>q.elim e0 g)] at this;rw[<-Za A,this]
     go_wp2_with fail
     go_region_held3 (λW=>ZD wr W/\W.cell? ⟨w.heap.size,0,aD⟩=dG (F a n c)/\W.cell? ⟨w.heap.size,1,aD⟩=dG (F b n d))
      (first|exact⟨Zj _,t0,t1⟩|(go_split_ands;refine⟨Zf (by assumption) aa,Ze aa (by assumption),Ze aa (by assumption)⟩))
      ((first|(go_at_call_of 48 (aU .i64 y);go_split_ands;refine (CY _ (by assumption)).mono ?_;rintro e w' ⟨rfl,aa⟩)|(go_at_call_of 48 (aU .i64 bb);go_split_ands;refine (CB _ (by assumption)).mono ?_;rintro e w' ⟨rfl,aa⟩)))
     rename_i hq;have HQ:=Zb (Zf ab hq.1);go_wp2;go_roundw
     case rel=>exact⟨k+1,bb,by omega,rfl,by go_num,R,IN,HQ⟩
     case measure=>simp[intOf];omega
  ·have R:Hid (bb=z):=(by show _=_;rw[<-Za A,Zlf _ _ S k (by rw[Za aw];omega)]);have bw:=Zb (Zf HB al);go_wp2;go_ret;exact⟨by rw[Za R];rfl,Za bw⟩
open Go.RowKit Go.Maps
theorem Zdb:Keyed aB 3:=int_keyed aN
theorem Dh(w):(zeroValue 3).run aB w = .ok (E J 0) w:=by kernel_rfl
theorem Ap{x y:Int}(h:x≠y):(Lit.int .i64 x)≠(Lit.int .i64 y):=by
 intro e;injection e with _ e;exact h e
structure HMap(bm:Nat)(N:List Int)(T:List Zk)(w:World):Prop where
 map:∃ D,w.ownsMap aB 3 (plainElem (H:=Unit) aB 3) bm (N.length+1) D/\IsMap D/\(∀ x:Int,Maps.has D (.int .i64 x)=decide (x=0\/x∈N))/\∀ x:Int,D.atKey (.int .i64 x) (.lit (.int .i64 0)) = .lit (.int .i64 (fnd x N T).2.1)
theorem HMap.keep{bm:Nat}{N T}{w w':World}(h:HMap bm N T w)(hb:ZD w w'):HMap bm N T w':=by
 obtain⟨D,⟨es,aa,h1,r⟩,r2⟩:=h.map;exact⟨D,⟨es,aa,(hb.block bm (aA h1)).trans h1,r⟩,r2⟩
theorem HMap.start{bm:Nat}{w:World}{D:DataW Unit}(hD:D=DataW.put (.map []) (.int .i64 0) (.lit (.int .i64 0)))(h:w.ownsMap aB 3 (plainElem (H:=Unit) aB 3) bm (0+1) D):HMap bm [] [] w:=by
 have hm:IsMap (DataW.map (H:=Unit) []):=⟨_,rfl⟩;refine⟨D,h,by rw[hD];exact⟨_,rfl⟩,λx=>?_,λx=>?_⟩
 ·by_cases e:x=0
  ·subst e;rw[hD,has_put_same hm (by simp[WideAt.IsKeyLit])];simp
  ·rw[hD,has_put_other (Ap e)];simp[e,Maps.has]
 ·by_cases e:x=0
  ·subst e;rw[hD,atKey_put_same hm (by simp[WideAt.IsKeyLit])];simp[fnd,Y6]
  ·rw[hD,atKey_put_other (Ap e)];simp[fnd,Y6];rfl
theorem HMap.put{bm:Nat}{N:List Int}{T:List Zk}{w:World}{D:DataW Unit}{s:Int}{b:Zk}(hl:N.length=T.length)(hs:s∉N)
  (hm:IsMap D) (hh:∀ x:Int,Maps.has D (.int .i64 x)=decide (x=0\/x∈N)) (ha:∀ x:Int,D.atKey (.int .i64 x) (.lit (.int .i64 0)) = .lit (.int .i64 (fnd x N T).2.1))
  (h:w.ownsMap aB 3 (plainElem (H:=Unit) aB 3) bm (N.length+1+1) (D.put (.int .i64 s) (.lit (.int .i64 b.2.1)))):HMap bm (N++[s]) (T++[b]) w:=by
 refine⟨_,by simpa using h,?_,λx=>?_,λx=>?_⟩
 ·obtain⟨es,rfl⟩:=hm;exact⟨_,rfl⟩
 ·by_cases e:x=s
  ·subst e;rw[has_put_same hm (by simp[WideAt.IsKeyLit])];simp
  ·rw[has_put_other (Ap e),hh];simp[e]
 ·by_cases e:x=s
  ·subst e;rw[atKey_put_same hm (by simp[WideAt.IsKeyLit]),Q6 hl hs,Zfk]
  ·rw[atKey_put_other (Ap e),ha];by_cases hx:x∈N
   ·rw[Fo hl hx]
   ·rw[Q6 hl hx,fnd_out hl hx];simp[fnd,e]
section
section
variable {w : World} {ops : Array Oper} {rest : List Oper} {o : Oper} {a : Act} {Q : Exit -> Act -> World -> Prop}
theorem Xn(hg:o.guard=aD)(m x:Operand)(ah:o.op=Op.lookup 103 m x true)(bm:Nat)(N T)(hm:a.eval m = .map (dG bm))(h:HMap bm N T w)(y:Int)(hx:a.eval x = .int .i64 y)
  (hy:(Lit.int .i64 y).wf=true) (z:Int) (t:Bool) (e1:(fnd y N T).2.1=z) (e2:decide (y=0\/y∈N)=t) (hK:wpList aB ops Q rest (a.put o.dst (.tuple #[.int .i64 z,.bool t])) w):wpList aB ops Q (o :: rest) a w:=by
 obtain⟨D,h1,h2,h3,h4⟩:=h.map;refine wpList_lookup_own_ok_int w hg m x 103 ah 3 3 .i64 Zdb underlying103 aN (Dh w) bm _ D hm h1 _ _ hx (keyOf_int_mk aN hy) λc aa _=>?_;rw[h4,e1] at aa;have ec:z=c:=by injection aa with q;injection q
 rw[h3,e2,<-ec];exact hK
theorem Hv(hg:o.guard=aD)(m x v:Operand)(ae:o.op=Op.mapUpdate 103 m x v)(bm:Nat)(N:List Int)(T:List Zk)(hm:a.eval m = .map (dG bm))(h:HMap bm N T w)(hl:N.length=T.length)(hn:N.length<=100)(s:Int)(hs:s∉N)(b:Zk)
  (hx:a.eval x = .int .i64 s) (hv:a.eval v = .int .i64 b.2.1) (h1:(Lit.int .i64 s).wf=true) (h2:(Lit.int .i64 b.2.1).wf=true)
  (hK:∀ w',HMap bm (N++[s]) (T++[b]) w'->w.grownBy w' (dG bm)->wpList aB ops Q rest (a.put o.dst undef) w'):wpList aB ops Q (o :: rest) a w:=by
 obtain⟨D,q1,q2,q3,q4⟩:=h.map;exact wpList_mapUpdate_own w hg m x v 103 ae 3 3 Zdb underlying103 _ bm _ D hm q1 (by unfold aT;omega) _ _ _ hx hv (keyOf_int_mk aN h1) _ [] (plainElem_int aN h2) λw' r1 r2=>hK w' (HMap.put hl hs q2 q3 q4 r1) r2
theorem Hw(hg:o.guard=aD)(m x v:Operand)(ag:o.op=Op.insert 103 m x v)(W:World)(bm:Nat)(ac:W.heap.size=bm)(hw:w=W.alloc (.map #[] 0))(hm:a.eval m = .map (dG bm))(hx:a.eval x = .int .i64 0)(hv:a.eval v = .int .i64 0)
  (hK:∀ w',HMap bm [] [] w'->ZD W w'->wpList aB ops Q rest (a.put o.dst undef) w'):wpList aB ops Q (o :: rest) a w:=by
 subst hw ac;have h0:=World.ownsMap_made W aB 3 (plainElem (H:=Unit) aB 3);obtain⟨w',ah,r1,r2⟩:=h0.update Zdb underlying103 (by unfold aT;omega) (keyOf_int_mk aN (q:=.i64) (a:=0) (by decide)) (plainElem_int aN (q:=.i64) (a:=0) (by decide));refine wpList_plain hg λK' ab=>?_;unfold Oper.wp;simp[execOp,ag,hm,hx,hv,ah,Result.andThen];exact ab _ _ (hK w' (HMap.start rfl r1) ((Zh W (.map #[] 0)).grown r2 (Zh W (.map #[] 0)).size (λj hj=>by cases hj;exact aE _)))
end
end
open Go.RowKit Go.Maps
theorem Qb{x:Int}(h0:0<=x)(h1:x<=1000000000):(Lit.int .i64 x).wf=true:=by
 simp[Lit.wf,IntKind.min,IntKind.max,IntKind.signed,IntKind.bits];omega
theorem Zbg{b:Zk}(h:Yu b=0):0<=b.1/\b.1<=120:=by
 unfold Yu at h;split at h
 ·cases h
 ·next q=>simp[Xp] at q;omega
theorem Jq{N T}{s:Int}{b:Zk}(h:s<1\/120<s):Yj N T s b=3:=by
 unfold Yj;rw[if_pos (by simp;omega)]
theorem Ev{N T}{s:Int}{b:Zk}(h0:¬s<1)(h1:¬120<s)(h:Yu b≠0):Yj N T s b=Yu b:=by
 unfold Yj;rw[if_neg (by simp;omega),if_pos h]
theorem Mb{N T}{s:Int}{b:Zk}(h0:¬s<1)(h1:¬120<s)(h:Yu b=0)(hs:s∈N):Yj N T s b=6:=by
 unfold Yj;rw[if_neg (by simp;omega),if_neg (by simp[h]),if_pos (by simp[hs])]
theorem Eu{N T}{s:Int}{b:Zk}(h0:¬s<1)(h1:¬120<s)(h:Yu b=0)(hs:s∉N)(hp:¬(b.1=0\/b.1∈N)):Yj N T s b=5:=by
 unfold Yj;rw[if_neg (by simp;omega),if_neg (by simp[h]),if_neg (by simp[hs]),if_pos (by simp;exact not_or.1 hp)]
theorem Ru{N T}{s:Int}{b:Zk}(h0:¬s<1)(h1:¬120<s)(h:Yu b=0)(hs:s∉N)(hp:b.1=0\/b.1∈N):Yj N T s b=if b.2.1≠(fnd b.1 N T).2.1+1 then 4 else 0:=by
 unfold Yj;rw[if_neg (by simp;omega),if_neg (by simp[h]),if_neg (by simp[hs]),if_neg (by rintro ⟨q1,q2⟩;rcases hp with q|q <;> simp_all)]
theorem rchkTree_any(a b n c m d N T)(x:Int)(w:World)(hN:IntsAt w a n N)(hT:BlksAt w b m T)(sN:SlOk a n c)(sT:SlOk b m d)(hx:chkTr N T=x) :
  ZH 19 #[.agg #[F a n c,F b m d]] w (.int .i64 x):=by
 subst hx;obtain⟨X,hX,cc,cm⟩:=ka00 w [F a n c,F b m d] 28;have HB:=Zb cc;have df:Hid (X.heap.size=w.heap.size+1):=by show _=_;rw[hX];simp
 have ed:=Zb cm;obtain⟨x0,x1,xl⟩:=kc2 cm;obtain⟨HN,HT,cj,dg⟩:=kh4 (hN.later cc) (hT.later cc) hN.1 hT.1;have hm:=sN.2.1;have ea:=sT.2.1;have ej:=sN.1;unfold aT at hm ea;by_cases e:n=m
 ·subst e;by_cases h24:24<n
  ·have R:Hid (chkTr N T=2):=(by show _=_;unfold chkTr;rw[hN.1,hT.1,if_neg (by simp),if_pos h24]);have g0:((n:Int) != (n:Int))=false:=(by simp);have g1:(24:Int)<(n:Int):=(by omega);go_enter func19,ntmps19;go_wp2_with fail;rw[<-hX];go_wp2;go_ret;exact⟨by rw[Za R];rfl,Za HB⟩
  ·have R:Hid (chkTr N T=Yy (N.take 0) (T.take 0) (N.drop 0) (T.drop 0)):=(by show _=_;unfold chkTr;rw[hN.1,hT.1,if_neg (by simp),if_neg h24];rfl);have g0:((n:Int) != (n:Int))=false:=(by simp);have g1:¬(24:Int)<(n:Int):=(by omega);have ek:=@run_makeMap aB;go_enter func19,ntmps19
   go_wp2_with (refine Hw rfl _ _ _ rfl _ (w.heap.size+1) ?_ rfl rfl rfl rfl ?_;(· simp);intro w1 dz bd;rw[<-hX] at bd;have v0:=Ze bd x0;have v1:=Ze bd x1;have vl:=aF xl bd.size)
   have db:Hid (HMap (w.heap.size+1) (N.take 0) (T.take 0) w1):=(by show HMap _ _ _ _;rw[List.take_zero,List.take_zero];exact dz);have cy:=Zb bd
   go_loopw [28] (λi wr=>∃ j:Nat,j<=n/\i = .int .i64 j/\Hid (chkTr N T=Yy (N.take j) (T.take j) (N.drop j) (T.drop j))/\Hid (Xv (T.take j))/\Hid (ZD X wr)/\Hid (HMap (w.heap.size+1) (N.take j) (T.take j) wr)) (λi _=>n - (intOf i).toNat)
   case atStart=>exact⟨0,aI _,rfl,R,(λb hb=>(by simp at hb):Xv (T.take 0)),cy,db⟩
   case round=>
    obtain⟨j,hj,rfl,A,HH,ag,bz⟩:=hrel;by_cases cq:j<n
    ·have h1:j<N.length:=(by rw[Za cj];exact cq);have h2:j<T.length:=(by rw[Za dg];exact cq);obtain⟨b1,eo,rfl,dw,dt⟩:=HN.2 (by omega);obtain⟨b2,ep,rfl,dx,du⟩:=HT.2 (by omega);have f1:=Ze ag (dt j h1);have cp:=BlkAt.kept _ _ _ _ _ ag (du j h2);obtain⟨AT,cg,TK⟩:=kh3 (Zbf N T j h1 h2) (Mo h2 HH) (And.intro (aH h1) (aH h2));obtain⟨s,hs⟩:=ZF (N[j]);obtain⟨t,ht⟩:=ZF (T[j]);rw[hs] at f1 AT TK;rw[ht] at cp AT cg TK;obtain⟨p,h,k,o,L⟩:=t;obtain⟨dl,dm,g2,g3,ta,tn,tc,g4,hL,_⟩:=cp;simp only at dl dm g2 g3 hL;have w0:=Ze ag x0;have w1:=Ze ag x1;have wl:=aF xl ag.size;have el:=aF dw ag.size;have en:=aF dx ag.size;have bh:Hid ((N.take j).length=(T.take j).length/\(N.take j).length<=100):=(by show _/\_;rw[aV,aV];omega);obtain⟨M,hM⟩:=ZF (N.take j);obtain⟨U,hU⟩:=ZF (T.take j);rw[hM] at A AT bz TK bh;rw[hU] at A AT bz TK HH bh;obtain⟨Y,hY,cd,cn⟩:=ka00 wr [.int .i64 p,.int .i64 h,.int .i64 k,.int .i64 o,F ta tn tc] 33;obtain⟨ax,am⟩:=kh2 cn (Zf ag cd);obtain⟨cf,aw⟩:=kh2 (Zf HB am) (bz.keep cd);obtain⟨y0,y1,y2,y3,y4,yl⟩:=kc5 cn;obtain⟨x,hx⟩:=ZF (Yu (p,h,k,o,L));obtain⟨CT,HX⟩:=kh2 (rchkBlock_any p h k o ta tn tc L x Y (hL.later cd) hx) hx;by_cases s1:s<1
     ·have R:Hid (chkTr N T=3):=(by show _=_;rw[Za A,Za AT,Jq (.inl s1),if_pos (by decide)]);go_wp2_with fail;rw[<-hY];go_wp2;go_ret;exact⟨by rw[Za R];rfl,Za cf⟩
     by_cases s2:120<s
     ·have R:Hid (chkTr N T=3):=(by show _=_;rw[Za A,Za AT,Jq (.inr s2),if_pos (by decide)]);go_wp2_with fail;rw[<-hY];go_wp2;go_ret;exact⟨by rw[Za R];rfl,Za cf⟩
     by_cases br:x=0
     ·subst br;have WS:Hid ((Lit.int .i64 s).wf=true):=Qb (by omega) (by omega);have hp:=Zbg HX;have hq:=Rz HX;simp only at hp hq;have WP:Hid ((Lit.int .i64 p).wf=true):=Qb hp.1 (by omega);have WH:Hid ((Lit.int .i64 h).wf=true):=Qb (by omega) (by omega);have da:=Zb (cg HX);by_cases i3:s∈M
      ·have R:Hid (chkTr N T=6):=(by show _=_;rw[Za A,Za AT,Mb s1 s2 HX i3,if_pos (by decide)]);obtain⟨z3,bs⟩:∃ z,(fnd s M U).2.1=z:=⟨_,rfl⟩;have D3:Hid (decide (s=0\/s∈M)=true):=(by show _=_;simp[i3]);have Z3:=Zb bs;go_wp2_with fail;rw[<-hY];go_wp2_with fail;refine CT.mono ?_;rintro e w2 ⟨rfl,aa⟩;have aj:=ZE aa ax;obtain⟨ad,ac⟩:=kh2 (Zf am aa) (aw.keep aa);obtain⟨z0,z1,bw⟩:=kc2 aj;have ae:=Zb (Zf HB ad)
       go_wp2_with (at_lookup;refine Xn rfl _ _ rfl (w.heap.size+1) M U rfl ac s rfl WS z3 true Z3 D3 ?_)
       go_ret;exact⟨by rw[Za R];rfl,Za ae⟩
      ·have I3:=Zb i3;obtain⟨z3,bs⟩:∃ z,(fnd s M U).2.1=z:=⟨_,rfl⟩;have D3:Hid (decide (s=0\/s∈M)=false):=(by show _=_;simp[i3];omega);have Z3:=Zb bs;obtain⟨z,hz⟩:=ZF ((fnd p M U).2.1);have Z4:=Zb hz;have zb:=Us HH p M;rw[hz] at zb;have zl:=zb.1;have zh:=zb.2.1;clear bs zb;by_cases i4:p=0\/p∈M
       ·have D4:Hid (decide (p=0\/p∈M)=true):=(by show _=_;simp[i4]);by_cases e5:h=z+1
        ·have R:Hid (chkTr N T=Yy (N.take (j+1)) (T.take (j+1)) (N.drop (j+1)) (T.drop (j+1))):=(by show _=_;rw[Za A,Za AT,Ru s1 s2 HX i3 i4];simp only;rw[hz];simp[e5]);have g5:(z+1 != h)=false:=(by simp[e5]);clear A AT hp hq i3 i4 hz e5;go_wp2_with fail;rw[<-hY];go_wp2_with fail;refine CT.mono ?_;rintro e w2 ⟨rfl,aa⟩;have aj:=ZE aa ax;obtain⟨ad,ac⟩:=kh2 (Zf am aa) (aw.keep aa);obtain⟨z0,z1,bw⟩:=kc2 aj;have ae:=Zb (Zf HB ad)
         go_wp2_with (first|(at_lookup;refine Xn rfl _ _ rfl (w.heap.size+1) M U rfl ac s rfl WS z3 false Z3 D3 ?_)|(at_lookup;refine Xn rfl _ _ rfl (w.heap.size+1) M U rfl ac p rfl WP z true Z4 D4 ?_)|(at_mapUpdate;refine Hv rfl _ _ _ rfl (w.heap.size+1) M U rfl ac bh.1 bh.2 s I3 (p,h,k,o,L) rfl rfl WS WH ?_;intro w3 ct dv;rw[<-(Za TK).1,<-(Za TK).2] at ct;have dc:=Zb ct;have cz:=Zb (ad.grown dv ad.size (λq hq=>by cases hq;exact Nat.le_of_eq df))) )
         go_roundw
         case rel=>exact⟨j+1,by omega,by go_num,R,da,cz,dc⟩
         case measure=>simp[intOf];omega
        ·have R:Hid (chkTr N T=4):=(by show _=_;rw[Za A,Za AT,Ru s1 s2 HX i3 i4];simp only;rw[hz];simp[e5]);have g5:(z+1 != h)=true:=(by simp;omega);go_wp2_with fail;rw[<-hY];go_wp2_with fail;refine CT.mono ?_;rintro e w2 ⟨rfl,aa⟩;have aj:=ZE aa ax;obtain⟨ad,ac⟩:=kh2 (Zf am aa) (aw.keep aa);obtain⟨z0,z1,bw⟩:=kc2 aj;have ae:=Zb (Zf HB ad)
         go_wp2_with (first|(at_lookup;refine Xn rfl _ _ rfl (w.heap.size+1) M U rfl ac s rfl WS z3 false Z3 D3 ?_)|(at_lookup;refine Xn rfl _ _ rfl (w.heap.size+1) M U rfl ac p rfl WP z true Z4 D4 ?_) )
         go_ret;exact⟨by rw[Za R];rfl,Za ae⟩
       ·have D4:Hid (decide (p=0\/p∈M)=false):=(by show _=_;simp[i4]);have R:Hid (chkTr N T=5):=(by show _=_;rw[Za A,Za AT,Eu s1 s2 HX i3 i4,if_pos (by decide)]);go_wp2_with fail;rw[<-hY];go_wp2_with fail;refine CT.mono ?_;rintro e w2 ⟨rfl,aa⟩;have aj:=ZE aa ax;obtain⟨ad,ac⟩:=kh2 (Zf am aa) (aw.keep aa);obtain⟨z0,z1,bw⟩:=kc2 aj;have ae:=Zb (Zf HB ad)
        go_wp2_with (first|(at_lookup;refine Xn rfl _ _ rfl (w.heap.size+1) M U rfl ac s rfl WS z3 false Z3 D3 ?_)|(at_lookup;refine Xn rfl _ _ rfl (w.heap.size+1) M U rfl ac p rfl WP z false Z4 D4 ?_) )
        go_ret;exact⟨by rw[Za R];rfl,Za ae⟩
     ·have R:Hid (chkTr N T=x):=(by show _=_;rw[Za A,Za AT,Ev s1 s2 (by rw[Za HX];exact br),Za HX,if_pos br]);have gx:(x != 0)=true:=(by simp[br]);go_wp2_with fail;rw[<-hY];go_wp2_with fail;refine CT.mono ?_;rintro e w2 ⟨rfl,aa⟩;have aj:=ZE aa ax;obtain⟨ad,ac⟩:=kh2 (Zf am aa) (aw.keep aa);obtain⟨z0,z1,bw⟩:=kc2 aj;have ae:=Zb (Zf HB ad);go_wp2;go_ret;exact⟨by rw[Za R];rfl,Za ae⟩
    ·have R:Hid (chkTr N T=0):=(by show _=_;rw[Za A,Fy N T j (by rw[Za cj];omega)]);have ae:=Zb (Zf HB ag);go_wp2;go_ret;exact⟨by rw[Za R];rfl,Za ae⟩
 ·have R:Hid (chkTr N T=4):=by show _=_;unfold chkTr;rw[hN.1,hT.1,if_pos e]
  have g0:((n:Int) != (m:Int))=true:=by simp;omega
  go_enter func19,ntmps19;go_wp2_with fail;rw[<-hX];go_wp2;go_ret;exact⟨by rw[Za R];rfl,Za HB⟩
end Tr
open Go.RowKit
theorem Lq(ka kn kc K la ln lc C a)(m c:Nat)(T:List TxD)(h x:Int)(w:World)(hK:Bk.TextsAt w ka kn K)(hC:CoinsAt w la ln C)(hT:T.length=m)(hx:swE K C T h=x) :
  ZH 27 #[.agg #[F ka kn kc],F la ln lc,F a m c,E J h] w (E J x):=by
 obtain⟨X,hX,ad,aw⟩:=ka00 w [F ka kn kc] 24;obtain⟨y,hy⟩:=ZF (Bk.bkChk K);obtain⟨z,hz⟩:=ZF (Zz C);have C1:=Zb (Bk.rcheck_is ka kn kc K X (hK.later ad) y hy);have C2:=Zb (λV (hv:ZD X V)=>Lr la ln lc C z V (hC.later (Zf ad hv)) hz)
 have HX:Hid (x=if (if y≠0 then y else if z≠0 then z else if (decide (1<=h) && decide (h<=1000))=false then 3 else 0)≠0 then (if y≠0 then y else if z≠0 then z else if (decide (1<=h) && decide (h<=1000))=false then 3 else 0) else if 8<m then 2 else 0):=by
  show _=_;rw[<-hx];unfold swE Rb;rw[hy,hz,hT]
 have HB:=Zb ad;obtain⟨c0,cl⟩:=kc1 aw;go_enter func27,ntmps27;go_wp2_with fail;rw[<-hX];(try go_wp2_with fail);refine C1.mono ?_;rintro e w1 ⟨rfl,aj⟩;obtain⟨ah,D2⟩:=kh2 (Zf HB aj) (C2 w1 aj);by_cases y0:y=0
 ·subst y0;go_wp2_with fail;refine D2.mono ?_;rintro e w2 ⟨rfl,ax⟩;have ac:=Zb (Zf ah ax);by_cases z0:z=0
  ·subst z0;by_cases h1:h<1
   ·have HE:Hid (x=3):=(by have q:=Za HX;show x=_;simpa[show ¬(1<=h) by omega] using q);go_wp2;go_ret;exact⟨by rw[Za HE];rfl,Za ac⟩
   ·by_cases h2:1000<h
    ·have HE:Hid (x=3):=(by have q:=Za HX;show x=_;simpa[show ¬(h<=1000) by omega] using q);go_wp2;go_ret;exact⟨by rw[Za HE];rfl,Za ac⟩
    ·by_cases m8:8<m
     ·have ay:(8:Int)<(m:Int):=(by omega);have HE:Hid (x=2):=(by have q:=Za HX;show x=_;simpa[show 1<=h by omega,show h<=1000 by omega,m8] using q);go_wp2;go_ret;exact⟨by rw[Za HE];rfl,Za ac⟩
     ·have ay:¬((8:Int)<(m:Int)):=(by omega);have HE:Hid (x=0):=(by have q:=Za HX;show x=_;simpa[show 1<=h by omega,show h<=1000 by omega,m8] using q);go_wp2;go_ret;exact⟨by rw[Za HE];rfl,Za ac⟩
  ·have HE:Hid (x=z):=(by have q:=Za HX;simp only[z0,ne_eq,not_true_eq_false,not_false_eq_true,if_true,if_false] at q;exact q);have zb:(z != 0)=true:=(by simp[z0]);go_wp2;go_ret;exact⟨by rw[Za HE];rfl,Za ac⟩
 ·have HE:Hid (x=y):=by have q:=Za HX;simp only[y0,ne_eq,not_false_eq_true,if_true] at q;exact q
  have yb:(y != 0)=true:=by simp[y0]
  go_wp2;go_ret;exact⟨by rw[Za HE];rfl,Za ah⟩
def Shp(sh:Nat->Value->Prop)(size:Nat)(e:aY)(w:World)(v:Value):Prop:=
 ∀ g,v.ownBlock=dG g->∃ aa:Array Value,w.heap[g]? = dG (dA aa e (0,0))/\∀ (j:Nat) (u:Value),aa[j]? = dG u->sh (j % size) u
theorem Zkn{sh:Nat->Value->Prop}{z:Array Value}{n:Nat}(hz:∀ (j:Nat) (u:Value),z[j]? = dG u->sh j u)(j:Nat)(u)(h:(Builtin.zeroCells z n)[j]? = dG u):sh (j % z.size) u:=by
 unfold Builtin.zeroCells at h;rw[Array.getElem?_map,Array.getElem?_range] at h;split at h
 ·rename_i q
  have hs:0<z.size:=by
   rcases Nat.eq_zero_or_pos z.size with e|e
   ·rw[e,Nat.mul_zero] at q;omega
   ·exact e
  have hj:=Nat.mod_lt j hs;simp only[Option.map_some,aZ] at h;refine hz _ _ ?_;rw[<-h,Array.getElem?_eq_getElem hj,getElem!_pos z _ hj]
 ·simp at h
theorem Kh{sh:Nat->Value->Prop}{size n:Nat}{A B:Array Value}(hA:∀ (j:Nat) (u:Value),A[j]? = dG u->sh (j % size) u)(hB:∀ (j:Nat) (u:Value),B[j]? = dG u->sh (j % size) u)(hn:A.size=n*size)(j:Nat)(u)(h:(A++B)[j]? = dG u):sh (j % size) u:=by
 rw[Array.getElem?_append] at h;split at h
 ·exact hA j u h
 ·rename_i q;have:=hB _ u h
  have e:j % size=(j - A.size) % size:=by
   obtain⟨k,hk⟩:∃ k,j=k+n*size:=⟨j - n*size,by omega⟩;rw[hn,hk,Nat.add_sub_cancel,Nat.add_mul_mod_self_right]
  rw[e];exact this
theorem Bi{P:Program}{w:World}{sh:Nat->Value->Prop}(t ty:aY)(base:Nat)(e:aY)(i:TypeInfo)(z:Value)(size bytes:Nat)(ht:P.underlying t=dG (.slice e))(hi:P.info? e=dG i)(hz:i.zero=dG z)
  (bj:i.size=size) (bf:i.bytes=bytes) (bq:z.cells.size=size) (v) (n:Nat) (xs) (aa:w.ownsRow base e size v n xs)
  (ad:Addr) (m c:Nat) (news:List Value) (hl:news.length=m*size) (am:∀ j u,news[j]? = dG u->w.cell? (ad.add j)=dG u) (h1:∀ u∈news,u.oneCell'=true)
  (hm:0<m) (h63:n+m<=aT) (aq:(n+m)*bytes<=140737488355328)
  (hS:Shp sh size e w v) (hN:∀ (j:Nat) (u:Value),news[j]? = dG u->sh (j % size) u) (hZ:∀ (j:Nat) (u:Value),z.cells[j]? = dG u->sh j u)
  {v' w'} (hr:(Builtin.append_ #[t,t] ty #[v,F (dG ad) m c]).run P w = .ok v' w'):Shp sh size e w' v':=by
 subst bj;subst bf;have bw:n+m<=9223372036854775807:=by simp only[aT] at h63;omega
 have ak:∀ (j:Nat) (u:Value),news.toArray[j]? = dG u->sh (j % i.size) u:=λj u h=>hN j u (by simpa using h)
 have ap:∀ (k j:Nat) (u:Value),(Builtin.zeroCells z.cells k)[j]? = dG u->sh (j % i.size) u:=λk j u h=>by
  have:=Zkn hZ j u h;rw[bq] at this;exact this
 rcases aa.2 with ⟨rfl,rfl⟩|⟨g,cap,aj,rfl,bs,hg,bv,bu,bg,aw⟩
 ·have hx:xs=[]:=List.eq_nil_of_length_eq_zero (by simpa using aa.1);subst hx;rw[run_append_nil (P:=P) w t ty e i z ht hi hz ad m c news hl am hm (by omega) (by have hb:=aq;simp only[bO] at hb;omega)] at hr;injection hr with e1 e2;subst e1 e2;intro g au;simp only[Value.ownBlock,aZ] at au;subst au;exact⟨_,aG w.drew _,Kh (n:=m) ak (ap _) (by simpa using hl)⟩
 ·obtain⟨br,ab,ar⟩:=hS g rfl;rw[hg] at ab;injection ab with ab;injection ab with ab;subst ab
  have ax:∀ (j:Nat) (u:Value),xs.toArray[j]? = dG u->sh (j % i.size) u:=λj u h=>by
   refine ar j u ?_;have h:xs[j]? = dG u:=(by simpa using h);rw[<-aw,List.getElem?_take] at h;split at h
   ·simpa using h
   ·cases h
  by_cases av:n+m<=cap
  ·have bh:n*i.size+news.length<=aj.size:=(by rw[hl,bg,<-Nat.add_mul];exact Nat.mul_le_mul_right _ av);rw[run_append_room (P:=P) w t ty e i ht hi g n cap aj hg ad m c news hl am h1 av bh] at hr;injection hr with e1 e2;subst e1 e2;intro q hq;simp only[Value.ownBlock,aZ] at hq;subst hq;refine⟨_,setRow_heap w g aj _ e _ hg,λj u h=>?_⟩;rw[aw] at h;have h:(xs++news++aj.toList.drop (n*i.size+news.length))[j]? = dG u:=by simpa using h
   rcases Nat.lt_or_ge j (xs++news).length with q|q
   ·rw[List.getElem?_append_left q] at h;exact Kh (n:=n) ax ak (by simpa using aa.1) j u (by simpa using h)
   ·rw[List.getElem?_append_right q,List.getElem?_drop] at h;refine ar j u ?_;rw[bL,aa.1] at h q;rw[show n*i.size+news.length+(j - (n*i.size+news.length))=j by omega] at h;simpa using h
  ·have holds:∀ j u,xs[j]? = dG u->w.cell? ((⟨g,0,aD⟩:Addr).add j)=dG u:=aa.cells (g:=g) rfl;rw[run_append_grow (P:=P) w t ty e i z ht hi hz ⟨g,0,aD⟩ n cap xs aa.1 holds ad m c news hl am (by omega) (by omega) (growslice_fits (by omega) aq)] at hr;injection hr with e1 e2;subst e1 e2;intro q hq;simp only[Value.ownBlock,aZ] at hq;subst hq;exact⟨_,aG w.drew _,Kh (n:=n+m) (Kh (n:=n) ax ak (by simpa using aa.1)) (ap _) (by rw[Array.size_append,List.size_toArray,List.size_toArray,aa.1,hl,Nat.add_mul])⟩
theorem Sp{P:Program}{w:World}{sh:Nat->Value->Prop}{ops}{o:Oper}{a:Act}{K:Act->World->Prop}{Q:Exit->Act->World->Prop}{an:Prop}(au:o.guard=aD)(s x:Operand)(t:aY)
  (ho:o.op = .call { callee:=.builtin .append,args:=#[s,x],argTypes:=#[t,t] })
  (base:Nat) (e:aY) (i:TypeInfo) (z:Value) (size bytes:Nat) (ht:P.underlying t=dG (.slice e)) (hi:P.info? e=dG i) (hz:i.zero=dG z)
  (aj:i.size=size) (ab:i.bytes=bytes) (am:z.cells.size=size) (ay:0<size)
  (v:Value) (n:Nat) (xs) (hs:a.eval s=v) (ag:w.ownsRow base e size v n xs)
  (ad:Addr) (m c:Nat) (news:List Value) (hx:a.eval x = F (dG ad) m c) (hl:news.length=m*size) (af:∀ j u,news[j]? = dG u->w.cell? (ad.add j)=dG u) (h1:∀ u∈news,u.oneCell'=true)
  (hm:0<m) (h63:n+m<=aT) (ac:(n+m)*bytes<=140737488355328) (ar:base<=w.heap.size)
  (hS:Shp sh size e w v) (hN:∀ (j:Nat) (u:Value),news[j]? = dG u->sh (j % size) u) (hZ:∀ (j:Nat) (u:Value),z.cells[j]? = dG u->sh j u)
  (h:∀ g cap w',w'.ownsRow base e size (F (dG ⟨g,0,aD⟩) (n+m) cap) (n+m) (xs++news)->w.grownBy w' v.ownBlock->(v.ownBlock=dG g\/g=w.heap.size)->Shp sh size e w' (F (dG ⟨g,0,aD⟩) (n+m) cap)->K (a.put o.dst (F (dG ⟨g,0,aD⟩) (n+m) cap)) w') :
  if Region.wanted o (yielded ops a.tmps)=true then Oper.wp P o a w K Q else an:=by
 have hw:Region.wanted o (yielded ops a.tmps)=true:=by simp[Region.wanted,au]
 rw[if_pos hw];obtain⟨g,cap,w',hr,h2,h3,h4,h5⟩:=run_append_lies (P:=P) w t o.type base e i z size bytes ht hi hz aj ab am ay v n xs ag ad m c news hl af h1 hm h63 ac ar w.heap.size rfl;have ax:=Bi t o.type base e i z size bytes ht hi hz aj ab am v n xs ag ad m c news hl af h1 hm h63 ac hS hN hZ hr;unfold Oper.wp execOp;simp only[ho,resolve,invoke,builtin,Sem.run_bind,Sem.run_pure,Result.andThen_ok,List.map_toArray,List.map_cons,List.map_nil,hs,hx,hr];exact h g cap w' h2 h3 h4 ax
