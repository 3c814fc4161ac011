import Derived.Test.YtmomfkikogbdeaaGreatDoorH
import Derived.Test.YtmomfkikogbdeaaGreatDoorG42
open Go.Proofs.Tryz
open Go renaming bodyPost_ret->bB,lt_of_block->aA,heap_alloc_new->aG
open Go.Ending renaming returned->dF
open Go.IntKind renaming i64->J
open Go.Obj renaming cells->dE
open Go.Proofs.Tryz renaming prog->aB
open Go.Value renaming slice->bO,int->E,slice->F,tuple->dG,pointer->dH
open List renaming length_set->cR,getElem_mem->bE
open Nat renaming le_trans->aN,zero_le->aI,le_refl->aF
set_option maxHeartbeats 12800000
set_option maxRecDepth 10000
namespace Go.Proofs.YtmomfkikogbdeaaGreatDoor
open Go.RowKit
theorem Zih(ka kn kc na ba pa nn nc bn bc pn pc K N T)(P:List TxD)(tip:Int)(kd fr:Int)(ti:Nat)(nm bp bh df dg:Int)(la ln lc L)(th:Int)(ai ao ni ci no co)(mb:Nat)(x nn':Int)(D:Dsk)(w:World)(hE:Env w)(hK:Bk.TextsAt w ka kn K)(hN:Tr.IntsAt w na nn N)(hT:Tr.BlksAt w ba bn T)(hP:TxsAt w pa pn P)(sN:SlOk na nn nc)(sT:SlOk ba bn bc)(sP:SlOk pa pn pc)(hp:P.length<=2513169434916)(hq:∀ t∈P,Tr.TxSmall t)
  (hm:w.heap[mb]? = some (dE [E J kd,E J fr,E J ti,E J nm,E J bp,E J bh,E J df,E J dg,F la ln lc,E J th,F ai ni ci,F ao no co].toArray 106 (0,0))) (hL:TxsAt w la ln L) (sL:SlOk la ln lc) (hx:ntR K N T P tip (bp,bh,df,dg,L)=(x,nn',D)) :
  Calls aB 301 #[.agg #[F ka kn kc],.agg #[F na nn nc,F ba bn bc,F pa pn pc,E J tip],dH (some ⟨mb,0,none⟩)] w λe w'=>Ak w w' x D e/\ZD w w':=by
 obtain⟨X,hX⟩:=ZG (Yv w [dE #[F ka kn kc] 24,dE #[F na nn nc,F ba bn bc,F pa pn pc,E J tip] 67,dE #[F none 0 0] 24,dE #[F none 0 0,F none 0 0,F none 0 0,E J 0] 67]);have av:X=(((w.alloc (dE #[F ka kn kc] 24)).alloc (dE #[F na nn nc,F ba bn bc,F pa pn pc,E J tip] 67)).alloc (dE #[F none 0 0] 24)).alloc (dE #[F none 0 0,F none 0 0,F none 0 0,E J 0] 67):=hX;have ab:ZD w X:=by rw[hX];exact Zs _ _
 have aw:X.heap.size=w.heap.size+4:=by rw[hX];exact Z0 _ _
 have bi:=kl0 hX _ _ rfl;have bj:=kl hX 1 _ _ rfl;have bk:X.heap[w.heap.size+1+1]? = some (dE [F none 0 0].toArray 24 (0,0)):=by rw[hX];exact Zl _ w 2 _ rfl
 have bo:X.heap[w.heap.size+1+1+1]? = some (dE [F none 0 0,F none 0 0,F none 0 0,E J 0].toArray 67 (0,0)):=by rw[hX];exact Zl _ w 3 _ rfl
 have C1:=Zd (Ch ka kn kc K na ba pa nn nc bn bc pn pc N T P tip X (hE.later ab) (hK.later ab) (hN.later ab) (hT.later ab) (hP.later ab) sN sT sP (by rw[<-hP.1];exact hp) hq bp bh df dg la ln lc L (hL.later ab) sL x nn' D hx);have az:=ZE ab hm;obtain⟨bs,ae,aq,ar⟩:=kh4 ab aw bk bo;obtain⟨t0,tl⟩:=cl1 (Zd bi);obtain⟨t1,t2,t3,t4,ce⟩:=cl4 (Zd bj);obtain⟨-,-,-,-,m4,m5,m6,m7,m8,ml⟩:=kc9 az;clear hE hK hN hT hP sN sT sP hp hq hm hL sL hx ab aw bi bj bk bo hX az;go_enter func301,ntmps301
 go_upto_region 1 with fail
 rw[<-av];clear av;(try go_wp2_with fail);refine C1.mono ?_;rintro e w1 ⟨k1,k1n,k1c,n1,n1n,n1c,b1,b1n,b1c,p1,p1n,p1c,rfl,hF,s1,s2,s3,s4,ad⟩;have h2:=ZE ad aq;have h3:=ZE ad ar
 have aj:Hid (∀ W,Gr w1 W (λq=>w.heap.size<=q/\q<w.heap.size+4)->Ak w W x D (dF (dG #[.agg #[F k1 k1n k1c],.agg #[F n1 n1n n1c,F b1 b1n b1c,F p1 p1n p1c,E J D.tip],E J x]))/\ZD w W):=λW g=>by
  have ct:=Za ae;have ax:=Zf bs ad;exact⟨⟨k1,k1n,k1c,n1,n1n,n1c,b1,b1n,b1c,p1,p1n,p1c,rfl,λW2 g2=>hF W2 ((g.mono (λq _ e=>by omega)).trans (g2.mono (λq _ e=>by omega))),s1,s2,s3,s4⟩,g.below ax ax.size (λq e=>e.1)⟩
 obtain⟨Y,hY⟩:=ZG ((w1.alloc (dE #[F k1 k1n k1c] 24)).alloc (dE #[F n1 n1n n1c,F b1 b1n b1c,F p1 p1n p1c,E J D.tip] 67));have ag:ZD w1 Y:=by rw[hY];exact Zf (Zh _ _) (Zh _ _)
 have aj:=Zd (λW (g:Gr Y W (λq=>w.heap.size<=q/\q<w.heap.size+4))=>aj W ((Gr.of ag).trans g));have h2:=ZE ag h2;have h3:=ZE ag h3;have y0:Y.heap[w1.heap.size]? = some (dE [F k1 k1n k1c].toArray 24 (0,0)):=by rw[hY];exact Zl [dE #[F k1 k1n k1c] 24,dE #[F n1 n1n n1c,F b1 b1n b1c,F p1 p1n p1c,E J D.tip] 67] w1 0 _ rfl
 have y1:Y.heap[w1.heap.size+1]? = some (dE [F n1 n1n n1c,F b1 b1n b1c,F p1 p1n p1c,E J D.tip].toArray 67 (0,0)):=by rw[hY];exact Zl [dE #[F k1 k1n k1c] 24,dE #[F n1 n1n n1c,F b1 b1n b1c,F p1 p1n p1c,E J D.tip] 67] w1 1 _ rfl
 obtain⟨u0,ul⟩:=cl1 (Zd y0);obtain⟨u1,u2,u3,u4,de⟩:=cl4 (Zd y1);have e1:w1.heap.size≠w.heap.size+1+1:=by have:=ad.size;have:=Za ae;omega
 have e2:w1.heap.size+1≠w.heap.size+1+1:=by have:=ad.size;have:=Za ae;omega
 have e3:w1.heap.size≠w.heap.size+1+1+1:=by have:=ad.size;have:=Za ae;omega
 have e4:w1.heap.size+1≠w.heap.size+1+1+1:=by have:=ad.size;have:=Za ae;omega
 obtain⟨cu,cx⟩:=cl1 (Zd h2);have cw:=Zg h2 0;obtain⟨cy,cz,da,db,dc⟩:=cl4 (Zd h3);have cm:=Zg h3 0;have cn:=Zg h3 1;have cp:=Zg h3 2;have cq:=Zg h3 3;clear h2 h3 y0 y1 ag hF s1 s2 s3 s4 ad C1 t0 t1 t2 t3 t4 tl ce m4 m5 m6 m7 m8 ml aq ar;go_wp2_with fail;rw[<-hY];clear hY
 go_region
 all_goals
  go_wp2;(try simp only[Exit.inBlock,Exit.then]);refine bB (v:=dG #[.agg #[F k1 k1n k1c],.agg #[F n1 n1n n1c,F b1 b1n b1c,F p1 p1n p1c,E J D.tip],E J x]) ?_ rfl ?_
  ·rw[Xm rfl];go_simp
  ·refine aj _ ?_
   repeat' first|exact Gr.refl _ _|refine Gr.draw ?_|refine Gr.new ?_ _|refine Gr.one ?_ _ _ ?_ _
   all_goals first|exact .inl ⟨by omega,by omega⟩|exact .inr (by simp)|exact .inr (by omega)
def WD.told(W:WD)(i:Nat)(fr:Int)(b:Zk):WD:=
 if h:i<W.n.length then
  let y:=W.n[i]
  let r:=ntR W.k y.1 y.2.1 y.2.2.1 y.2.2.2 b
  if r.1=0 then W.put i r.2.2 else if r.1=5 then W.sent (2,i,fr,b.1,Yx,Wm) else W
 else W
theorem Zmn(Z:Nat->Prop)(s:Nat)(W:WD)(kd fr:Int)(ti:Nat)(nm bp cb cc bo:Int)(la ln lc L)(th:Int)(ai ao ni ci no co w)(hE:Env w)(hS:Sc Z s W w)(hi:ti<W.n.length)(aw:Qo W.n[ti])(hL:TxsAt w la ln L)(sL:SlOk la ln lc) :
  Calls aB 271 #[dH (some ⟨s,0,none⟩),.agg #[E J kd,E J fr,E J ti,E J nm,E J bp,E J cb,E J cc,E J bo,F la ln lc,E J th,F ai ni ci,F ao no co]] w λe w'=>e = dF (dG #[])/\Sc Z s (W.told ti fr (bp,cb,cc,bo,L)) w'/\Gr w w' (λq=>¬Z q):=by
 obtain⟨X,hX,av,ar⟩:=ka00 w [E J kd,E J fr,E J ti,E J nm,E J bp,E J cb,E J cc,E J bo,F la ln lc,E J th,F ai ni ci,F ao no co] 106;have bu:X.heap.size=w.heap.size+1:=by rw[hX];simp
 obtain⟨y,hy⟩:=ZF (W.n[ti]);obtain⟨⟨x,n',D⟩,hx⟩:=ZF (ntR W.k y.1 y.2.1 y.2.2.1 y.2.2.2 (bp,cb,cc,bo,L))
 have eT:W.told ti fr (bp,cb,cc,bo,L)=if x=0 then W.put ti D else if x=5 then W.sent (2,ti,fr,bp,Yx,Wm) else W:=by
  unfold WD.told;rw[dif_pos hi];simp only[hy,hx]
 have DO:DoN w X 301 #[dH (some ⟨w.heap.size,0,none⟩)] W.k W.n[ti] x D (λ_ bj V=>X.heap.size<=bj/\V.heap[w.heap.size]? = some (dE [E J kd,E J fr,E J ti,E J nm,E J bp,E J cb,E J cc,E J bo,F la ln lc,E J th,F ai ni ci,F ao no co].toArray 106 (0,0))):=by
  refine⟨enters_of (fn:=Tryz.f301) (by kernel_rfl) (by kernel_rfl) rfl,λlo bj V V' h g=>⟨h.1,g.heap h.2 (λe=>by have:=h.1;omega)⟩,λV hv ka kn kc na nn nc ba bn bc pa pn pc h1 h2 h3 h4 h5 h6 h7 h8=>?_⟩;have hw:=Zf av hv;have bk:=ZE hv ar;refine (Zih ka kn kc na ba pa nn nc bn bc pn pc W.k _ _ _ _ kd fr ti nm bp cb cc bo la ln lc L th ai ao ni ci no co w.heap.size x n' D V (hE.later hw) h1 h3 h4 h5 h6 h7 h8 aw.1 aw.2 bk (hL.later hw) sL (by rw[hy];exact hx)).mono ?_;rintro e V' ⟨hc,hb⟩;exact⟨hc,Gr.of hb,aN hv.size hb.size,ZE hb bk⟩
 obtain⟨C1,bs,HE⟩:=kh3 (Hz Z s W ti 301 #[dH (some ⟨w.heap.size,0,none⟩)] x D _ w X hS av hi DO) hS.nz eT;obtain⟨-,-,m2,ml⟩:=kc3 ar;clear hE hS aw hL sL av ar bu hx hy DO eT;go_enter func271,ntmps271
 go_upto_region 1 with fail
 rw[<-hX];clear hX;(try go_wp2_with fail);refine C1.mono ?_;rintro e w1 ⟨rfl,ad,bh,⟨lo,hh,⟨_,ah⟩,_,_⟩,_⟩;have an:=Zd bh;clear bh C1 m2 ml;by_cases h0:x=0
 ·subst h0;rw[if_pos rfl] at ad;have af:Hid (Sc Z s (W.told ti fr (bp,cb,cc,bo,L)) w1):=by rw[Za HE,if_pos rfl];exact ad
  clear ad ah;go_wp2;go_end0;exact⟨rfl,Za af,Za an⟩
 rw[if_neg h0] at ad;by_cases h5:x=5;rotate_left
 ·have af:Hid (Sc Z s (W.told ti fr (bp,cb,cc,bo,L)) w1):=by rw[Za HE,if_neg h0,if_neg h5];exact ad
  have g5:(x == 5)=false:=by simp[h5]
  clear ad ah;go_wp2;go_end0;exact⟨rfl,Za af,Za an⟩
 subst h5;have C2:=Zd (Zdm Z s W 2 ti fr bp 0 0 0 0 none 0 0 [] 0 none none 0 0 0 0 [] [] w1 ad (RowsAt.nil _ _) Zu (RowsAt.nil _ _) (RowsAt.nil _ _) Zu Zu ⟨⟨aI _,by simp⟩,aI _,aI _,by simp,by simp⟩);have HN:=Zd (λq (hq:W7 w1 s q)=>(ad.net_lt hq).1);obtain⟨-,m1,m2,-,m4,ml⟩:=kc5 ah;clear ad ah;go_wp2_with fail;refine C2.mono ?_;rintro e w2 ⟨rfl,bg,bi,_⟩;have af:Hid (Sc Z s (W.told ti fr (bp,cb,cc,bo,L)) w2):=by rw[Za HE,if_neg (by decide),if_pos (by first|trivial|rfl)];exact bg
 have br:Hid (Gr w w2 (λq=>¬Z q)):=an.trans (bi.mono (λq _ e=>by
  rcases e with e|e
  ·rw[e];exact Za bs
  ·exact HN q e))
 clear bg bi C2 m1 m2 m4 ml;go_wp2;go_end0;exact⟨rfl,Za af,Za br⟩
def WD.sendAll(W:WD)(kd fr nm:Int)(b:Zk)(t:TxD):Nat->WD
 | 0=>W
 | j+1=>if (j:Int)=fr then W.sendAll kd fr nm b t j else (W.sendAll kd fr nm b t j).sent (kd,fr,j,nm,b,t)
theorem Mi(Z:Nat->Prop)(s:Nat)(W:WD)(kd fr tq nm bp bh dh bn:Int)(ba bm bc L)(th:Int)(ai ao ni ci no co I O w)(hS:Sc Z s W w)(db:W.n.length<=4)(hD:∀ V,Gr w V (λq=>q=s\/W7 w s q)->TxsAt V ba bm L/\InsAt V ai ni I/\OutsAt V ao no O)(sL:SlOk ba bm bc)(sI:SlOk ai ni ci)(sO:SlOk ao no co)(hz:J3 (kd,fr,tq,nm,(bp,bh,dh,bn,L),th,I,O)) :
  Calls aB 268 #[dH (some ⟨s,0,none⟩),.agg #[E J kd,E J fr,E J tq,E J nm,E J bp,E J bh,E J dh,E J bn,F ba bm bc,E J th,F ai ni ci,F ao no co]] w λe w'=>e = dF (dG #[])/\Sc Z s (W.sendAll kd fr nm (bp,bh,dh,bn,L) (th,I,O) W.n.length) w'/\Gr w w' (λq=>q=s\/W7 w s q):=by
 obtain⟨X,hX,ak,bk⟩:=ka00 w [E J kd,E J fr,E J tq,E J nm,E J bp,E J bh,E J dh,E J bn,F ba bm bc,E J th,F ai ni ci,F ao no co] 106;have cx:X.heap.size=w.heap.size+1:=by rw[hX];simp
 have dc:=hS.lt;have dd:∀ q,W7 w s q->q<w.heap.size:=λq e=>(hS.net_lt e).2.1;obtain⟨n,hn⟩:=ZF (W.n.length);obtain⟨T,hT⟩:∃ T:Nat->WD,T=W.sendAll kd fr nm (bp,bh,dh,bn,L) (th,I,O):=⟨_,rfl⟩
 have cj:Hid (∀ V (j:Nat),Sc (λq=>Z q\/q=w.heap.size) s (T j) V->Gr w V (λq=>q=s\/W7 w s q)->(∀ q,W7 V s q->W7 w s q\/w.heap.size<q)->V.heap[w.heap.size]? = some (dE [E J kd,E J fr,E J (j:Int),E J nm,E J bp,E J bh,E J dh,E J bn,F ba bm bc,E J th,F ai ni ci,F ao no co].toArray 106 (0,0)) ->
   Calls aB 275 #[dH (some ⟨s,0,none⟩),.agg #[E J kd,E J fr,E J (j:Int),E J nm,E J bp,E J bh,E J dh,E J bn,F ba bm bc,E J th,F ai ni ci,F ao no co]] V λe V'=>e = dF (dG #[])/\Sc (λq=>Z q\/q=w.heap.size) s ((T j).sent (kd,fr,j,nm,(bp,bh,dh,bn,L),th,I,O)) V'/\Gr w V' (λq=>q=s\/W7 w s q)/\(∀ q,W7 V' s q->W7 w s q\/w.heap.size<q)/\V'.heap[w.heap.size]? = some (dE [E J kd,E J fr,E J (j:Int),E J nm,E J bp,E J bh,E J dh,E J bn,F ba bm bc,E J th,F ai ni ci,F ao no co].toArray 106 (0,0))):=λV j h1 h2 h3 h4=>by
  obtain⟨d1,d2,d3⟩:=hD V h2;refine (Zdm _ s _ kd fr j nm bp bh dh bn ba bm bc L th ai ao ni ci no co I O V h1 d1 sL d2 d3 sI sO hz).mono ?_;rintro e V' ⟨rfl,k1,k2,k3⟩;have cq:=aA h4;refine⟨rfl,k1,h2.far k2 (λq e=>?_),λq e=>?_,k2.heap h4 (λe=>?_)⟩
  ·rcases e with e|e
   ·exact .inr (.inl e)
   ·rcases h3 q e with e|e
    ·exact .inr (.inr e)
    ·exact .inl (Nat.le_of_lt e)
  ·rcases k3 q e with e|e
   ·exact h3 q e
   ·exact .inr (Nat.lt_of_lt_of_le cq e)
  ·rcases e with e|e
   ·omega
   ·exact (h1.net_lt e).1 (.inr rfl)
 have bj:Hid (Sc (λq=>Z q\/q=w.heap.size) s (T 0) X):=by rw[hT];exact hS.widen ak w.heap.size (aF _) (by omega)
 have G0:Hid (Gr w X (λq=>q=s\/W7 w s q)):=Gr.of ak
 have N0:Hid (∀ q,W7 X s q->W7 w s q\/w.heap.size<q):=λq hq=>by
  obtain⟨ka,kn,kc,vn,vm,Kn,Km,hA⟩:=hS;exact .inl ((hA.nb q).1 (((hA.later ak).nb q).2 hq))
 have bf:=Zd bk
 obtain⟨c1,aw⟩:∃ v,X.cell? ⟨s,1,none⟩=some v/\∃ a c,v = F a n c:=by
  obtain⟨ka,kn,kc,vn,vm,Kn,Km,hA⟩:=hS.later ak;obtain⟨na,nc,ma,mc,rfl,rfl,_⟩:=hA.on.read;exact⟨_,Zb hA.box 1 _ rfl,na,nc,by rw[hn]⟩
 obtain⟨aw,sa,sc,rfl⟩:=aw;have xl:s<X.heap.size:=by omega
 have TS:Hid (∀ j:Nat,T (j+1)=if (j:Int)=fr then T j else (T j).sent (kd,fr,j,nm,(bp,bh,dh,bn,L),th,I,O)):=λj=>by rw[hT];rfl
 have ca:Hid (W.sendAll kd fr nm (bp,bh,dh,bn,L) (th,I,O) W.n.length=T n):=by rw[hT,hn];rfl
 clear hS hD sL sI sO hz ak bk hT;go_enter func268,ntmps268
 go_upto_region 1 with fail
 rw[<-hX];clear hX;(try go_wp2_with fail)
 go_loopw [11] (λi wr=>∃ j:Nat,∃ tt:Int,j<=n/\i = E J j/\Hid (Sc (λq=>Z q\/q=w.heap.size) s (T j) wr)/\Hid (Gr w wr (λq=>q=s\/W7 w s q))/\Hid (∀ q,W7 wr s q->W7 w s q\/w.heap.size<q)/\Hid (wr.heap[w.heap.size]? = some (dE [E J kd,E J fr,E J tt,E J nm,E J bp,E J bh,E J dh,E J bn,F ba bm bc,E J th,F ai ni ci,F ao no co].toArray 106 (0,0)))) (λi _=>n - (intOf i).toNat)
 case atStart=>exact⟨0,tq,aI _,rfl,bj,G0,N0,bf⟩
 case round=>
  obtain⟨j,tt,hj,rfl,HS,HG,HN,HM⟩:=hrel;clear bj G0 N0 bf aw;by_cases da:j<n
  ·have cz:(j:Int)<(n:Int):=(by omega);have h4:=Za HM;obtain⟨-,-,a2,-,-,f2,al⟩:=kf3 h4;obtain⟨wj,ah⟩:∃ v,v=wr.setCell ⟨w.heap.size,2,none⟩ (E J (j:Int)):=⟨_,rfl⟩;have ax:wj.heap[w.heap.size]? = some (dE [E J kd,E J fr,E J (j:Int),E J nm,E J bp,E J bh,E J dh,E J bn,F ba bm bc,E J th,F ai ni ci,F ao no co].toArray 106 (0,0)):=(by rw[ah];exact Tr.set_cells h4 2 _);have gj:Gr wr wj (λq=>q=w.heap.size):=(by rw[ah];exact (Gr.refl wr (λq=>q=w.heap.size)).one w.heap.size 2 (.inl rfl) _);have an:Hid (Sc (λq=>Z q\/q=w.heap.size) s (T j) wj):=HS.write (gj.mono (λq _ e=>.inr e));have bb:Hid (Gr w wj (λq=>q=s\/W7 w s q)):=HG.far gj (λq e=>.inl (by have e:q=w.heap.size:=e;omega))
   have be:Hid (∀ q,W7 wj s q->W7 w s q\/w.heap.size<q):=λq hq=>HN q (by
    obtain⟨ka,kn,kc,vn,vm,Kn,Km,hA⟩:=Za HS;obtain⟨v,h1,h2⟩:=hq;rw[gj.cell (Zb hA.box 2 _ rfl) (by show ¬s=w.heap.size;omega)] at h1;exact⟨v,by rw[<-h1];exact Zb hA.box 2 _ rfl,h2⟩)
   obtain⟨m0,m1,m2,m3,m4,m5,m6,m7,m8,m9,m10,m11,ml⟩:=kc12 ax;have bd:=Zd ax;clear gj ax h4;by_cases hf:(j:Int)=fr
   ·have gf:((j:Int) != fr)=false:=(by simp[hf]);have eS:T (j+1)=T j:=(by rw[(Za TS) j,if_pos hf]);have an:Hid (Sc (λq=>Z q\/q=w.heap.size) s (T (j+1)) wj):=(by rw[eS];exact an);clear eS hf
    go_upto_region 5 with fail
    rw[<-ah];clear ah;go_wp2;go_roundw
    case rel=>exact⟨j+1,j,by omega,by go_num,an,bb,be,bd⟩
    case measure=>simp[intOf];omega
   ·have gf:((j:Int) != fr)=true:=(by simp[hf]);have eS:T (j+1)=(T j).sent (kd,fr,j,nm,(bp,bh,dh,bn,L),th,I,O):=(by rw[(Za TS) j,if_neg hf]);obtain⟨C,ES⟩:=kh2 (cj wj j an bb be bd) eS;clear eS hf
    go_upto_region 5 with fail
    rw[<-ah];clear ah;go_wp2_with fail;refine C.mono ?_;rintro e w5 ⟨rfl,k1,k2,k3,k4⟩;have K1:Hid (Sc (λq=>Z q\/q=w.heap.size) s (T (j+1)) w5):=(by rw[Za ES];exact k1);obtain⟨K2,K3,K4⟩:=kh3 k2 k3 k4;clear k1 k2 k3 k4 C m0 m1 m2 m3 m4 m5 m6 m7 m8 m9 m10 m11 ml;go_wp2;go_roundw
    case rel=>exact⟨j+1,j,by omega,by go_num,K1,K2,K3,K4⟩
    case measure=>simp[intOf];omega
  ·have e:j=n:=(by omega);subst e;have bz:Hid (Sc Z s (W.sendAll kd fr nm (bp,bh,dh,bn,L) (th,I,O) W.n.length) wr):=(by rw[Za ca];exact HS.less (λq e=>.inl e));go_wp2;go_end0;exact⟨rfl,Za bz,Za HG⟩
theorem Zkk(ka kn kc na ba pa nn nc bn bc pn pc K N T)(P:List TxD)(tip:Int)(xk xn xt xi xw xN th:Int)(ai ao ni ci no co)(hb ob ek:Nat)(la ln lc l)(x:Int)(b:Zk)(D:Dsk)(w:World)(hE:Env w)(hK:Bk.TextsAt w ka kn K)(hN:Tr.IntsAt w na nn N)(hT:Tr.BlksAt w ba bn T)(hP:TxsAt w pa pn P)(sN:SlOk na nn nc)(sT:SlOk ba bn bc)(sP:SlOk pa pn pc)(hp:P.length<=2513169434916)(hq:∀ t∈P,Tr.TxSmall t)
  (hm:w.heap[hb]? = some (dE [E J xk,E J xn,E J xt,E J xi,E J xw,E J xN,E J th,F ai ni ci,F ao no co].toArray 103 (0,0))) (ho:w.heap[ob]? = some (dE [F la ln lc].toArray 48 (0,0))) (am:w.heap[ek]? = some (dE [E J 0,E J 0,E J 0,E J 0,F none 0 0].toArray 39 (0,0))) (hl:OpsAt w la ln l) (sl:SlOk la ln lc) (hn:ln<=8796093022208) (hx:nmR K N T P tip xw xi l=(x,b,D)) :
  Calls aB 267 #[.agg #[F ka kn kc],.agg #[F na nn nc,F ba bn bc,F pa pn pc,E J tip],dH (some ⟨hb,0,none⟩),dH (some ⟨ob,0,none⟩),dH (some ⟨ek,0,none⟩)] w λe w'=>Ak w w' x D e/\Gr w w' (λq=>q=ek)/\∃ a n c,w'.heap[ek]? = some (dE [E J b.1,E J b.2.1,E J b.2.2.1,E J b.2.2.2.1,F a n c].toArray 39 (0,0))/\(∀ W2,Gr w' W2 (λq=>q<w.heap.size\/w'.heap.size<=q)->TxsAt W2 a n b.2.2.2.2)/\SlOk a n c:=by
 obtain⟨X,hX⟩:=ZG (Yv w [dE #[F ka kn kc] 24,dE #[F na nn nc,F ba bn bc,F pa pn pc,E J tip] 67,dE #[F none 0 0] 24,dE #[F none 0 0,F none 0 0,F none 0 0,E J 0] 67]);have av:X=(((w.alloc (dE #[F ka kn kc] 24)).alloc (dE #[F na nn nc,F ba bn bc,F pa pn pc,E J tip] 67)).alloc (dE #[F none 0 0] 24)).alloc (dE #[F none 0 0,F none 0 0,F none 0 0,E J 0] 67):=hX;have ab:ZD w X:=by rw[hX];exact Zs _ _
 have aw:X.heap.size=w.heap.size+4:=by rw[hX];exact Z0 _ _
 have br:=kl0 hX _ _ rfl;have bs:=kl hX 1 _ _ rfl;have bt:X.heap[w.heap.size+1+1]? = some (dE [F none 0 0].toArray 24 (0,0)):=by rw[hX];exact Zl _ w 2 _ rfl
 have bu:X.heap[w.heap.size+1+1+1]? = some (dE [F none 0 0,F none 0 0,F none 0 0,E J 0].toArray 67 (0,0)):=by rw[hX];exact Zl _ w 3 _ rfl
 have C1:=Zd (Zkf ka kn kc K na ba pa nn nc bn bc pn pc N T P tip X (hE.later ab) (hK.later ab) (hN.later ab) (hT.later ab) (hP.later ab) sN sT sP (by rw[<-hP.1];exact hp) hq xw xi la ln lc l (hl.later ab) sl hn x b D hx);have bb:=ZE ab hm;have bf:=ZE ab ho;have aq:Hid (X.heap[ek]? = some (dE [E J 0,E J 0,E J 0,E J 0,F none 0 0].toArray 39 (0,0))):=ZE ab am;have dx:=aA am;obtain⟨bz,ca,ar,au⟩:=kh4 ab aw bt bu;obtain⟨t0,tl⟩:=cl1 (Zd br);obtain⟨t1,t2,t3,t4,dr⟩:=cl4 (Zd bs);obtain⟨-,-,-,m3,m4,ml⟩:=kc5 bb;obtain⟨o0,ol⟩:=cl1 (Zd bf);clear hE hK hN hT hP sN sT sP hp hq hm ho am hl sl hn hx ab aw br bs bt bu hX bb bf;go_enter func267,ntmps267
 go_upto_region 1 with fail
 rw[<-av];clear av;(try go_wp2_with fail);refine C1.mono ?_;rintro e w1 ⟨k1,k1n,k1c,n1,n1n,n1c,b1,b1n,b1c,p1,p1n,p1c,a,n,c,rfl,hF,s1,s2,s3,s4,s5,af⟩;dsimp only[Rn];have dg:=Za ca;have df:=af.size;have h2:=ZE af ar;have h3:=ZE af au;have h4:=ZE af aq;obtain⟨Y,hY⟩:=ZG (((((((((((w1.setCell ⟨w.heap.size+1+1,0,none⟩ (F k1 k1n k1c)).setCell ⟨w.heap.size+1+1+1,0,none⟩ (F n1 n1n n1c)).setCell ⟨w.heap.size+1+1+1,1,none⟩ (F b1 b1n b1c)).setCell ⟨w.heap.size+1+1+1,2,none⟩ (F p1 p1n p1c)).setCell ⟨w.heap.size+1+1+1,3,none⟩ (E J D.tip)).setCell ⟨ek,0,none⟩ (E J b.1)).setCell ⟨ek,1,none⟩ (E J b.2.1)).setCell ⟨ek,2,none⟩ (E J b.2.2.1)).setCell ⟨ek,3,none⟩ (E J b.2.2.2.1)).setCell ⟨ek,4,none⟩ (F a n c)))
 have gY:Gr w1 Y (λq=>q=ek\/q=w.heap.size+2\/q=w.heap.size+3):=by
  rw[hY]
  repeat' first|refine Gr.one ?_ _ _ ?_ _|exact Gr.refl _ _
  all_goals (refine Or.inl ?_;omega)
 have y2:Y.heap[w.heap.size+1+1]? = some (dE [F k1 k1n k1c].toArray 24 (0,0)):=by
  rw[hY];have g:=Tr.set_cells h2 0 (F k1 k1n k1c);refine Gr.heap (S:=λq=>q=ek\/q=w.heap.size+3) ?_ g (by intro e;rcases e with e|e <;> omega)
  iterate 9 refine Gr.one ?_ _ _ ?_ _
  exact Gr.refl _ _
  all_goals (refine Or.inl ?_;omega)
 have y3:Y.heap[w.heap.size+1+1+1]? = some (dE [F n1 n1n n1c,F b1 b1n b1c,F p1 p1n p1c,E J D.tip].toArray 67 (0,0)):=by
  rw[hY];have g:=((Gr.refl w1 (λq=>q=w.heap.size+2)).one (w.heap.size+1+1) 0 (.inl rfl) (F k1 k1n k1c)).heap h3 (by show ¬w.heap.size+1+1+1=w.heap.size+2;omega);refine Gr.heap (S:=λq=>q=ek) ?_ (Tr.set_cells (Tr.set_cells (Tr.set_cells (Tr.set_cells g 0 (F n1 n1n n1c)) 1 (F b1 b1n b1c)) 2 (F p1 p1n p1c)) 3 (E J D.tip)) (by show ¬w.heap.size+1+1+1=ek;omega)
  iterate 5 refine Gr.one ?_ _ _ ?_ _
  exact Gr.refl _ _
  all_goals exact Or.inl rfl
 have y4:Y.heap[ek]? = some (dE [E J b.1,E J b.2.1,E J b.2.2.1,E J b.2.2.2.1,F a n c].toArray 39 (0,0)):=by
  rw[hY]
  have g:(((((w1.setCell ⟨w.heap.size+1+1,0,none⟩ (F k1 k1n k1c)).setCell ⟨w.heap.size+1+1+1,0,none⟩ (F n1 n1n n1c)).setCell ⟨w.heap.size+1+1+1,1,none⟩ (F b1 b1n b1c)).setCell ⟨w.heap.size+1+1+1,2,none⟩ (F p1 p1n p1c)).setCell ⟨w.heap.size+1+1+1,3,none⟩ (E J D.tip)).heap[ek]? = some (dE [E J 0,E J 0,E J 0,E J 0,F none 0 0].toArray 39 (0,0)):=by
   refine Gr.heap (S:=λq=>q=w.heap.size+2\/q=w.heap.size+3) ?_ h4 (by intro e;rcases e with e|e <;> omega)
   iterate 5 refine Gr.one ?_ _ _ ?_ _
   exact Gr.refl _ _
   all_goals (refine Or.inl ?_;omega)
  exact Tr.set_cells (Tr.set_cells (Tr.set_cells (Tr.set_cells (Tr.set_cells g 0 _) 1 _) 2 _) 3 _) 4 _
 have bx:Hid (∀ W,Gr Y W (λq=>q=w.heap.size+2\/q=w.heap.size+3)->Ak w W x D (dF (dG #[.agg #[F k1 k1n k1c],.agg #[F n1 n1n n1c,F b1 b1n b1c,F p1 p1n p1c,E J D.tip],E J x]))/\Gr w W (λq=>q=ek)/\∃ a n c,W.heap[ek]? = some (dE [E J b.1,E J b.2.1,E J b.2.2.1,E J b.2.2.2.1,F a n c].toArray 39 (0,0))/\(∀ W2,Gr W W2 (λq=>q<w.heap.size\/W.heap.size<=q)->TxsAt W2 a n b.2.2.2.2)/\SlOk a n c):=λW g=>by
  have g1:Gr w1 W (λq=>q<X.heap.size):=(gY.mono (λq _ e=>by omega)).trans (g.mono (λq _ e=>by omega));refine⟨⟨k1,k1n,k1c,n1,n1n,n1c,b1,b1n,b1c,p1,p1n,p1c,rfl,λW2 g2=>(hF W2 (g1.trans (g2.mono (λq _ e=>by omega)))).1,s1,s2,s3,s4⟩,?_,a,n,c,g.heap y4 (by intro e;rcases e with e|e <;> omega),λW2 g2=>(hF W2 (g1.far g2 (λq e=>?_))).2,s5⟩
  ·exact ((Gr.of (Zf bz af)).far gY (λq e=>by rcases e with e|e|e;exact .inr e;exact .inl (by omega);exact .inl (by omega))).far g (λq e=>.inl (by omega))
  ·rcases e with e|e
   ·exact .inr (by omega)
   ·exact .inl (aN g1.size e)
 obtain⟨ec,ee⟩:=cl1 (Zd y2);have ed:=Zg y2 0;obtain⟨ef,eg,eh,ei,ej⟩:=cl4 (Zd y3);have dt:=Zg y3 0;have du:=Zg y3 1;have dv:=Zg y3 2;have dw:=Zg y3 3;obtain⟨cb,cd⟩:=cl1 (Zd h2);have cc:=Zg h2 0;obtain⟨ce,cf,cg,cj,cl⟩:=cl4 (Zd h3);have cw:=Zg h3 0;have cx:=Zg h3 1;have cy:=Zg h3 2;have cz:=Zg h3 3;obtain⟨cm,cn,cp,cq,ct,cu⟩:=cl5 (Zd h4);have da:=Zg h4 0;have db:=Zg h4 1;have dc:=Zg h4 2;have dd:=Zg h4 3;have de:=Zg h4 4;have q1:ek≠w.heap.size+1+1:=by omega
 have q2:ek≠w.heap.size+1+1+1:=by omega
 have q3:w.heap.size+1+1≠ek:=by omega
 have q4:w.heap.size+1+1+1≠ek:=by omega
 clear h2 h3 h4 y2 y3 y4 gY hF s1 s2 s3 s4 s5 af df dg C1 t0 t1 t2 t3 t4 tl dr m3 m4 ml o0 ol ar au aq;go_wp2_with fail;rw[<-hY];clear hY cb cc ce cf cg cj cw cx cy cz cm cn cp cq ct da db dc dd de cd cl cu
 go_region
 all_goals
  go_wp2;(try simp only[Exit.inBlock,Exit.then]);refine bB (v:=dG #[.agg #[F k1 k1n k1c],.agg #[F n1 n1n n1c,F b1 b1n b1c,F p1 p1n p1c,E J D.tip],E J x]) ?_ rfl ?_
  ·rw[Xm rfl];go_simp
  ·refine bx _ ?_
   repeat' first|refine Gr.one ?_ _ _ ?_ _|refine Gr.draw ?_|exact Gr.refl _ _
   all_goals (refine Or.inl ?_;omega)
def WD.mine(W:WD)(i:Nat)(wk no n:Int):Int×WD:=
 if h:i<W.n.length then
  let y:=W.n[i]
  let r:=nmR W.k y.1 y.2.1 y.2.2.1 y.2.2.2 wk no [(1,n),(7,0)]
  if r.1=0 then (0,(W.put i r.2.2).sendAll 1 i 0 r.2.1 Wm W.n.length) else (r.1,W)
 else (0,W)
theorem Znu(Z:Nat->Prop)(s:Nat)(W:WD)(xk:Int)(xn:Nat)(xt xi xw xN th:Int)(ai ao ni ci no co)(x:Int)(W':WD)(w)(hE:Env w)(hS:Sc Z s W w)(hi:xn<W.n.length)(cy:W.n.length<=4)(ax:Qo W.n[xn])(ak:Tr.BlkSmall (nmR W.k W.n[xn].1 W.n[xn].2.1 W.n[xn].2.2.1 W.n[xn].2.2.2 xw xi [(1,xN),(7,0)]).2.1)(hx:W.mine xn xw xi xN=(x,W')) :
  Calls aB 235 #[dH (some ⟨s,0,none⟩),.agg #[E J xk,E J xn,E J xt,E J xi,E J xw,E J xN,E J th,F ai ni ci,F ao no co]] w λe w'=>e = dF (E J x)/\(x=0->Sc Z s W' w')/\Gr w w' (λq=>¬Z q):=by
 obtain⟨X,hX⟩:=ZG (Yv w [dE #[E J xk,E J xn,E J xt,E J xi,E J xw,E J xN,E J th,F ai ni ci,F ao no co] 103,dE #[E J 1,E J xN,E J 7,E J 0] 164,dE #[F (some ⟨w.heap.size+1,0,none⟩) 2 2] 48,dE #[E J 0,E J 0,E J 0,E J 0,F none 0 0] 39]);have bo:X=(((w.alloc (dE #[E J xk,E J xn,E J xt,E J xi,E J xw,E J xN,E J th,F ai ni ci,F ao no co] 103)).alloc (dE #[E J 1,E J xN,E J 7,E J 0] 164)).alloc (dE #[F (some ⟨w.heap.size+1,0,none⟩) 2 2] 48)).alloc (dE #[E J 0,E J 0,E J 0,E J 0,F none 0 0] 39):=hX;have au:ZD w X:=by rw[hX];exact Zs _ _
 have bq:X.heap.size=w.heap.size+4:=by rw[hX];exact Z0 _ _
 have x0:=kl0 hX _ _ rfl;have x1:=kl hX 1 _ _ rfl;have x2:=kl hX 2 _ _ rfl;have x3:=kl hX 3 _ _ rfl;obtain⟨y,hy⟩:=ZF (W.n[xn]);obtain⟨⟨ah,b,D⟩,hr⟩:=ZF (nmR W.k y.1 y.2.1 y.2.2.1 y.2.2.2 xw xi [(1,xN),(7,0)]);have ak:Tr.BlkSmall b:=by rw[hy,hr] at ak;exact ak
 have eT:(x,W')=if ah=0 then (0,(W.put xn D).sendAll 1 xn 0 b Wm W.n.length) else (ah,W):=by
  rw[<-hx];unfold WD.mine;rw[dif_pos hi];simp only[hy,hr]
 have hl:OpsAt X (some ⟨w.heap.size+1,0,none⟩) 2 [(1,xN),(7,0)]:=⟨rfl,λ_=>⟨w.heap.size+1,0,rfl,λj hj=>by
  match j,hj with
  | 0,_=>exact⟨Zb x1 0 _ rfl,Zb x1 1 _ rfl⟩
  | 1,_=>exact⟨Zb x1 2 _ rfl,Zb x1 3 _ rfl⟩
  | j+2,h=>exact absurd h (by simp)⟩⟩
 have sl:SlOk (some ⟨w.heap.size+1,0,none⟩) 2 2:=⟨aF _,by unfold maxLen;omega,λe=>by cases e⟩
 have DO:DoN w X 267 #[dH (some ⟨w.heap.size,0,none⟩),dH (some ⟨w.heap.size+2,0,none⟩),dH (some ⟨w.heap.size+3,0,none⟩)] W.k W.n[xn] ah D (λlo aw V=>X.heap.size<=aw/\V.heap[w.heap.size]? = some (dE [E J xk,E J xn,E J xt,E J xi,E J xw,E J xN,E J th,F ai ni ci,F ao no co].toArray 103 (0,0))/\∃ a n c,V.heap[w.heap.size+3]? = some (dE [E J b.1,E J b.2.1,E J b.2.2.1,E J b.2.2.2.1,F a n c].toArray 39 (0,0))/\(∀ W2,Gr V W2 (λq=>q<w.heap.size\/(X.heap.size<=q/\q<lo)\/aw<=q)->TxsAt W2 a n b.2.2.2.2)/\SlOk a n c):=by
  refine⟨enters_of (fn:=Tryz.f267) (by kernel_rfl) (by kernel_rfl) rfl,λlo aw V V' h g=>?_,λV hv ka kn kc na nn nc ba bn bc pa pn pc h1 h2 h3 h4 h5 h6 h7 h8=>?_⟩
  ·obtain⟨k0,k1,a,n,c,k2,k3,k4⟩:=h;exact⟨k0,g.heap k1 (λe=>by omega),a,n,c,g.heap k2 (λe=>by omega),λW2 g2=>k3 W2 (g.trans g2),k4⟩
  have hw:=Zf au hv;have m0:=ZE hv x0;have m2:=ZE hv x2;have m3:=ZE hv x3;refine (Zkk ka kn kc na ba pa nn nc bn bc pn pc W.k _ _ _ _ xk xn xt xi xw xN th ai ao ni ci no co w.heap.size (w.heap.size+2) (w.heap.size+3) _ 2 2 _ ah b D V (hE.later hw) h1 h3 h4 h5 h6 h7 h8 ax.1 ax.2 m0 m2 m3 (hl.later hv) sl (by omega) (by rw[hy];exact hr)).mono ?_;rintro e V' ⟨hc,hg,a,n,c,k2,k3,k4⟩;have dh:=hv.size;exact⟨hc,hg.mono (λq _ e=>by have e:q=w.heap.size+3:=e;omega),aN hv.size hg.size,hg.heap m0 (by show ¬w.heap.size=w.heap.size+3;omega),a,n,c,k2,λW2 g2=>k3 W2 (g2.mono (λq _ e=>by omega)),k4⟩
 obtain⟨C1,cf,cj,HE,cd,cl⟩:=kh6 (Hz Z s W xn 267 #[dH (some ⟨w.heap.size,0,none⟩),dH (some ⟨w.heap.size+2,0,none⟩),dH (some ⟨w.heap.size+3,0,none⟩)] ah D _ w X hS au hi DO) hS.lt hS.nz eT ak bq;have da:w.heap.size+5=w.heap.size+5:=rfl;obtain⟨-,m1,-,-,-,m5,ml⟩:=kc6 x0;have w0:(w.alloc (dE #[E J xk,E J xn,E J xt,E J xi,E J xw,E J xN,E J th,F ai ni ci,F ao no co] 103)).heap[w.heap.size]? = some (dE [E J xk,E J xn,E J xt,E J xi,E J xw,E J xN,E J th,F ai ni ci,F ao no co].toArray 103 (0,0)):=aG _ _;obtain⟨-,-,-,-,-,w5,wl⟩:=kc6 w0;clear hE hS ax au x0 x1 x2 x3 bq hr hy DO eT hl sl ak hX hx da w0;go_enter func235,ntmps235
 go_upto_region 3 with fail
 rw[<-bo];clear bo w5 wl;(try go_wp2_with fail);refine C1.mono ?_;rintro e w1 ⟨rfl,aj,br,⟨lo,hh,⟨k0,k1,a,n,c,k2,k3,k4⟩,dg,df⟩,bu⟩;have bg:=Zd br;clear br C1 m1 m5 ml;by_cases h0:ah=0;rotate_left
 ·have e:=Za HE;rw[if_neg h0] at e;injection e with e1 e2;subst e1;have gx:(x == 0)=false:=by simp[h0]
  have gy:(x != 0)=true:=by simp[h0]
  clear aj k1 k2 k3 k4;go_wp2;go_ret;exact⟨rfl,λe=>absurd e h0,Za bg⟩
 subst h0;have e:=Za HE;rw[if_pos rfl] at e;injection e with e1 e2;subst e1 e2;rw[if_pos rfl] at aj;have di:=Za cl
 have C2:=Zd (Mi Z s (W.put xn D) 1 xn 0 0 b.1 b.2.1 b.2.2.1 b.2.2.2.1 a n c b.2.2.2.2 0 none none 0 0 0 0 [] [] w1 aj (by show (W.n.set xn _).length<=4;rw[cR];exact cy) (λV g=>⟨k3 V (g.mono (λq _ e=>.inl (by
   rcases e with e|e
   ·rw[e];exact Za cf
   ·exact bu q e))),RowsAt.nil _ _,RowsAt.nil _ _⟩) k4 Zu Zu ⟨Za cd,aI _,aI _,by simp,by simp⟩)
 have HN:=Zd (λq (hq:W7 w1 s q)=>(aj.net_lt hq).1);obtain⟨-,m1,ml⟩:=kc2 k1;obtain⟨d0,d1,d2,d3,d4,dl⟩:=cl5 (Zd k2);have eL:(W.put xn D).n.length=W.n.length:=by show (W.n.set xn _).length=_;rw[cR]
 have EL:=Zd eL;clear aj k1 k2 k3 k4 bu eL;go_wp2_with fail;refine C2.mono ?_;rintro e w2 ⟨rfl,bk,bs⟩;have be:Hid (Sc Z s ((W.put xn D).sendAll 1 xn 0 b Wm W.n.length) w2):=by rw[<-Za EL];exact bk
 have ce:Hid (Gr w w2 (λq=>¬Z q)):=bg.trans (bs.mono (λq _ e=>by
  rcases e with e|e
  ·rw[e];exact Za cj
  ·exact HN q e))
 clear bk bs C2 m1 ml d0 d1 d2 d3 d4 dl;go_wp2;go_ret;exact⟨rfl,by first|exact λ_=>Za be|exact Za be,Za ce⟩
theorem Zhu(Z:Nat->Prop)(s:Nat)(W:WD)(xk xn xt:Int)(xi:Nat)(xw xN th:Int)(ai ao ni ci no co w)(hE:∀ V,Gr w V (λq=>¬Z q)->Env V)(hS:Sc Z s W w)(hl:xi<W.m.length)(hm:W.m.length<=20)(ti:Nat)(hz:W.m[xi].1=1/\W.m[xi].2.2.1=ti)(dn:ti<W.n.length)(cw:Qo W.n[ti])(W':WD)(hx:(W.lost xi).told ti W.m[xi].2.1 W.m[xi].2.2.2.2.1=W') :
  Calls aB 238 #[dH (some ⟨s,0,none⟩),.agg #[E J xk,E J xn,E J xt,E J xi,E J xw,E J xN,E J th,F ai ni ci,F ao no co]] w λe w'=>e = dF (E J 0)/\Sc Z s W' w'/\Gr w w' (λq=>¬Z q):=by
 obtain⟨ka,kn,kc,vn,vm,Kn,Km,hA⟩:=hS;have hw:=hA.on;obtain⟨na,nc,ma,mc,rfl,rfl,_,_,_,sm⟩:=hw.read;have hb:=hA.box
 obtain⟨g,rfl⟩:∃ g,ma=some ⟨g,0,none⟩:=by
  rcases hw.rm.2 with ⟨_,e⟩|⟨g,cap,ep,e,_⟩
  ·omega
  ·injection e with e;exact⟨g,e⟩
 have er:=(hw.rm.lt g rfl).2;have hk:xi<Km.length:=by rw[hw.now.2.2.1];exact hl
 obtain⟨y,hy⟩:=ZF (W.m[xi])
 have hC:∀ V,Gr w V (λq=>(Z q\/q=s)\/(bO na W.n.length nc).ownBlock=some q\/(bO (some ⟨g,0,none⟩) W.m.length mc).ownBlock=some q)->Tr.msgR.C V Km[xi] y:=λV gV=>by
  have:=(hw.dat V gV).2.2.2 xi hl hk;rw[hy] at this;exact this
 rw[hy] at hz hx;obtain⟨x0,x1,x2,x3,⟨y0,y1,y2,y3,y4⟩,z0,z1,z2⟩:=y;obtain⟨pa,pn,pc,ia,im,ic,oa,om,oc,eK,hT,sT,hI,sI,hO,sO⟩:=hC w (Gr.refl _ _);simp only at eK hT hI hO;obtain⟨X,hX,aw,bg⟩:=ka00 w [E J xk,E J xn,E J xt,E J xi,E J xw,E J xN,E J th,F ai ni ci,F ao no co] 103;have cm:X.heap.size=w.heap.size+1:=by rw[hX];simp
 have cn:=ZE aw hb;have rc:=λj (hj:j<12)=>(World.ownsRow.cellAt (hw.later aw).rm (xi*12+j) (by have:(xi+1)*12<=W.m.length*12:=Nat.mul_le_mul_right _ hl;omega)).trans (Tr.wid_at hw.now.2.2.wid xi hk j hj);rw[eK] at rc;have r0:X.cell? ⟨g,xi*12,none⟩=some (E J x0):=rc 0 (by decide);have r1:X.cell? ⟨g,xi*12+1,none⟩=some (E J x1):=rc 1 (by decide);have r2:X.cell? ⟨g,xi*12+2,none⟩=some (E J x2):=rc 2 (by decide);have r3:X.cell? ⟨g,xi*12+3,none⟩=some (E J x3):=rc 3 (by decide);have r4:X.cell? ⟨g,xi*12+4,none⟩=some (E J y0):=rc 4 (by decide);have r5:X.cell? ⟨g,xi*12+5,none⟩=some (E J y1):=rc 5 (by decide);have r6:X.cell? ⟨g,xi*12+6,none⟩=some (E J y2):=rc 6 (by decide);have r7:X.cell? ⟨g,xi*12+7,none⟩=some (E J y3):=rc 7 (by decide);have r8:X.cell? ⟨g,xi*12+8,none⟩=some (F pa pn pc):=rc 8 (by decide);have r9:X.cell? ⟨g,xi*12+9,none⟩=some (E J z0):=rc 9 (by decide);have ds:X.cell? ⟨g,xi*12+10,none⟩=some (F ia im ic):=rc 10 (by decide);have dt:X.cell? ⟨g,xi*12+11,none⟩=some (F oa om oc):=rc 11 (by decide);have es:(xi:Int)<(W.m.length:Int):=by omega
 obtain⟨e1,e2⟩:=hz;simp only at e1 e2;subst e1 e2;have et:=aA hb;have CL:=Zd (λV (hv:ZD w V)=>Znx Z s W xk xn xt xi xw xN th ai ao ni ci no co V ⟨_,_,_,_,_,_,_,hA.later hv⟩ hl hm)
 have NB:Hid (∀ V,ZD w V->∀ q,W7 V s q->q<w.heap.size/\¬Z q/\(bO (some ⟨g,0,none⟩) W.m.length mc).ownBlock=some q):=λV hv q hq=>by
  have h:=((hA.later hv).nb q).2 hq;exact⟨(hw.rm.lt q h).2,λe=>(hA.zs q e).2.2.2 h,h⟩
 have NZ:Hid (¬Z s):=λe=>(hA.zs s e).2.1 rfl
 have CT:=Zd (λV (gw:Gr w V (λq=>q=s\/(bO (some ⟨g,0,none⟩) W.m.length mc).ownBlock=some q)) (dh:Sc Z s (W.lost xi) V)=>Zmn Z s (W.lost xi) 1 x1 ti x3 y0 y1 y2 y3 pa pn pc y4 z0 ia oa im ic om oc V (hE V (gw.mono (λq _ e=>by
   rcases e with e|e
   ·rw[e];exact Za NZ
   ·exact λz=>(hA.zs q z).2.2.2 e))) dh dn cw (by
  obtain⟨pa',pn',pc',eu,ew,ev,ey,fa,ez,bd,di,_⟩:=hC V (gw.mono (λq _ e=>e.elim (λe=>.inl (.inr e)) (λe=>.inr (.inr e))));rw[eK] at bd;simp only[List.cons.injEq,Value.slice.injEq,and_true,true_and] at bd;obtain⟨⟨rfl,rfl,rfl⟩,_⟩:=bd;exact di) sT)
 rw[hx] at CT;obtain⟨bt,bv,bx⟩:=kh3 aw bg cm;obtain⟨-,-,c2,fd⟩:=kc3 cn;obtain⟨-,-,-,m3,ml⟩:=kc4 bg;have dk:g<X.heap.size:=by omega
 clear hA hw hb hC eK hT sT hI sI hO sO aw cm bg cn rc hx hy hE cw;go_enter func238,ntmps238
 go_upto_region 1 with fail
 rw[<-hX];clear hX
 go_cut [5] from 6 to 14 (λs5 wx=>s5 = dH (some ⟨w.heap.size+1,0,none⟩)/\Hid (wx.heap[w.heap.size+1]? = some (dE [E J 1,E J x1,E J ti,E J x3,E J y0,E J y1,E J y2,E J y3,F pa pn pc,E J z0,F ia im ic,F oa om oc].toArray 106 (0,0))/\ZD X wx))
 case first=>
  have cx:=Za bx
  have ZB:Hid (∀ U,U=X\/U=X.drew->(U.alloc (dE #[E J 1,E J x1,E J ti,E J x3,E J y0,E J y1,E J y2,E J y3,F pa pn pc,E J z0,F ia im ic,F oa om oc] 106)).heap[w.heap.size+1]? = some (dE [E J 1,E J x1,E J ti,E J x3,E J y0,E J y1,E J y2,E J y3,F pa pn pc,E J z0,F ia im ic,F oa om oc].toArray 106 (0,0))/\ZD X (U.alloc (dE #[E J 1,E J x1,E J ti,E J x3,E J y0,E J y1,E J y2,E J y3,F pa pn pc,E J z0,F ia im ic,F oa om oc] 106))):=λU hU=>by
   rw[<-cx]
   rcases hU with rfl|rfl
   ·exact⟨aG _ _,Zh _ _⟩
   ·exact⟨aG X.drew _,Zf (Zi X) (Zh _ _)⟩
  go_region
  all_goals
   go_wp2_with fail;go_meet
   case rel=>exact⟨rfl,(ZB X (.inl rfl)).1,Zf (ZB X (.inl rfl)).2 (Zi _)⟩
 case rest=>
  obtain⟨rfl,HC⟩:=hcut;obtain⟨cu,bi⟩:=Za HC;have cx:=Za bx;have bj:=Zf bt bi;have ce:=ZE bi bv;obtain⟨C1,db,au⟩:=kh3 (CL wc bj) cu bj;obtain⟨v0,v1,v2,v3,v4,v5,v6,v7,v8,vl⟩:=kc9 ce;clear HC cu bi bj ce CL c2 fd m3 ml dk bv bt r0 r1 r2 r3 r4 r5 r6 r7 r8 r9 ds dt;go_wp2_with fail;refine C1.mono ?_;rintro e w2 ⟨rfl,cj,ax,_⟩;have cd:Gr w w2 (λq=>q=s\/(bO (some ⟨g,0,none⟩) W.m.length mc).ownBlock=some q):=(Gr.of au).trans (ax.mono (λq _ e=>e.imp id (λe=>(NB wc au q e).2.2)))
  have ct:=ax.heap db (λe=>by
   rcases e with e|e
   ·omega
   ·have:=(NB wc au _ e).1;omega)
  have C2:=Zd (CT w2 cd cj)
  have cz:Hid (Gr w w2 (λq=>¬Z q)):=(Gr.of au).trans (ax.mono (λq _ e=>by
   rcases e with e|e
   ·rw[e];exact Za NZ
   ·exact (NB wc au q e).2.1))
  obtain⟨u0,u1,u2,u3,u4,u5,u6,u7,u8,u9,u10,u11,ul⟩:=kc12 ct;clear cj ax cd ct C1 CT v0 v1 v2 v3 v4 v5 v6 v7 v8 vl;go_wp2_with fail;refine C2.mono ?_;rintro e w3 ⟨rfl,cl,cp⟩;obtain⟨dc,da⟩:=kh2 cl (cz.trans cp);clear cl cp C2 u0 u1 u2 u3 u4 u5 u6 u7 u8 u9 u10 u11 ul;go_wp2;go_ret;exact⟨rfl,Za dc,Za da⟩
theorem Kt{K}{y:Ye}(h:opN K y=0):Qo y:=⟨aN (Wh h).1 (by decide),(Wh h).2⟩
theorem Co{i n:Nat}(h:i<n):La (i:Int) (n:Int)=true:=by
 unfold La;simp;omega
section
variable {W : WD} {xt xw xN th : Int} {ai ao : Option Addr} {ni ci no co : Nat}
theorem Dc{xi:Int}{i:Nat}{y:Int}{W':WD}(hc:Ur W.k W.n W.m=0)(hi:i<W.n.length)(ae:Tr.BlkSmall (nmR W.k W.n[i].1 W.n[i].2.1 W.n[i].2.2.1 W.n[i].2.2.2 xw xi [(1,xN),(7,0)]).2.1)(hx:W.mine i xw xi xN=(y,W')):Zpg (.agg #[E J 1,E J i,E J xt,E J xi,E J xw,E J xN,E J th,F ai ni ci,F ao no co]) W y W':=λZ V s hE hS=>by
 obtain⟨_,q2,_,_,_,q6,_⟩:=Xi hc;refine Zby Z s i xt xi xw xN th ai ao ni ci no co y W' V (λU p q hU hb=>?_);exact Zcx Z s W 1 i xt xi xw xN th ai ao ni ci no co p q 235 #[dH (some ⟨s,0,none⟩)] #[] y W' true U hb.1 hb.2 (hS.later hU) (Co hi) (λ_=>⟨enters_of (fn:=Tryz.f235) (by kernel_rfl) (by kernel_rfl) rfl,λV2 h2=>Znu Z s W 1 i xt xi xw xN th ai ao ni ci no co y W' V2 (hE V2 (Gr.of (Zf hU h2))) (hS.later (Zf hU h2)) hi q2 (Kt (q6 _ (bE hi))) ae hx⟩) y (if_pos rfl)
theorem Zgq{xn xi:Int}{W':WD}(h:La xi W.m.length=false):Zpg (.agg #[E J 3,E J xn,E J xt,E J xi,E J xw,E J xN,E J th,F ai ni ci,F ao no co]) W 5 W':=λZ V s hE hS=>by
 refine Lh Z s xn xt xi xw xN th ai ao ni ci no co 5 W' V (λU p q hU hb=>?_);exact Nt Z s W 3 xn xt xi xw xN th ai ao ni ci no co p q 238 #[dH (some ⟨s,0,none⟩)] #[] 0 W' false U hb.1 hb.2 (hS.later hU) h (λe=>by cases e) 5 (if_neg (by decide))
theorem Cv{xn:Int}{k:Nat}{ti:Nat}{W':WD}(hc:Ur W.k W.n W.m=0)(hk:k<W.m.length)(hz:W.m[k].1=1/\W.m[k].2.2.1=ti)(ae:ti<W.n.length)(hx:(W.lost k).told ti W.m[k].2.1 W.m[k].2.2.2.2.1=W'):Zpg (.agg #[E J 3,E J xn,E J xt,E J k,E J xw,E J xN,E J th,F ai ni ci,F ao no co]) W 0 W':=λZ V s hE hS=>by
 obtain⟨_,q2,_,_,q5,q6,_⟩:=Xi hc;refine Lh Z s xn xt k xw xN th ai ao ni ci no co 0 W' V (λU p q hU hb=>?_);refine Nt Z s W 3 xn xt k xw xN th ai ao ni ci no co p q 238 #[dH (some ⟨s,0,none⟩)] #[] 0 W' true U hb.1 hb.2 (hS.later hU) (Co hk) (λ_=>⟨enters_of (fn:=Tryz.f238) (by kernel_rfl) (by kernel_rfl) rfl,λV2 h2=>?_⟩) 0 (if_pos rfl);refine (Zhu Z s W 3 xn xt k xw xN th ai ao ni ci no co V2 (λU2 g=>hE U2 ((Gr.of (Zf hU h2)).trans g)) (hS.later (Zf hU h2)) hk q5 ti hz ae (Kt (q6 _ (bE ae))) W' hx).mono ?_;rintro e V3 ⟨rfl,h3,h4⟩;exact⟨rfl,λ_=>h3,h4⟩
end
