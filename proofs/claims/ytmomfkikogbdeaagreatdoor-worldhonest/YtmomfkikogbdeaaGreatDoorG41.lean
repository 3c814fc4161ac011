import Derived.Test.YtmomfkikogbdeaaGreatDoorH
import Derived.Test.YtmomfkikogbdeaaGreatDoorG39
open Go.Proofs.Tryz
open Go renaming bodyPost_ret->aW,lt_of_block->aA,heap_alloc_new->aH
open Go.Ending renaming returned->dA
open Go.IntKind renaming i64->J
open Go.Obj renaming cells->cZ
open Go.Proofs.Tryz renaming prog->aB
open Go.Value renaming slice->aX,int->E,slice->F,tuple->dB,pointer->dC
open Nat renaming le_trans->aT,zero_le->aL,le_refl->aF
set_option maxHeartbeats 12800000
set_option maxRecDepth 10000
namespace Go.Proofs.YtmomfkikogbdeaaGreatDoor
open Go.RowKit
theorem Ziy(ka kn kc na ba pa nn nc bn bc pn pc K N T)(P:List TxD)(tip:Int)(kd fr:Int)(ti:Nat)(nm bp bh bk bo:Int)(la ln lc L)(th:Int)(ai ao ni ci no co)(mb:Nat)(x nn':Int)(D:Dsk)(w:World)(hE:Env w)(hK:Bk.TextsAt w ka kn K)(hN:Tr.IntsAt w na nn N)(hT:Tr.BlksAt w ba bn T)(hP:TxsAt w pa pn P)(sN:SlOk na nn nc)(sT:SlOk ba bn bc)(sP:SlOk pa pn pc)(hp:P.length<=2513169434916)(hq:∀ t∈P,Tr.TxSmall t)
  (hm:w.heap[mb]? = some (cZ [E J kd,E J fr,E J ti,E J nm,E J bp,E J bh,E J bk,E J bo,F la ln lc,E J th,F ai ni ci,F ao no co].toArray 106 (0,0))) (hL:TxsAt w la ln L) (sL:SlOk la ln lc) (hx:ntR K N T P tip (bp,bh,bk,bo,L)=(x,nn',D)) :
  Calls aB 301 #[.agg #[F ka kn kc],.agg #[F na nn nc,F ba bn bc,F pa pn pc,E J tip],dC (some ⟨mb,0,none⟩)] w λe w'=>Ph w w' x D e/\ZD w w':=by
 obtain⟨X,hX⟩:=ZG (Yw w [cZ #[F ka kn kc] 24,cZ #[F na nn nc,F ba bn bc,F pa pn pc,E J tip] 67,cZ #[F none 0 0] 24,cZ #[F none 0 0,F none 0 0,F none 0 0,E J 0] 67]);have be:X=(((w.alloc (cZ #[F ka kn kc] 24)).alloc (cZ #[F na nn nc,F ba bn bc,F pa pn pc,E J tip] 67)).alloc (cZ #[F none 0 0] 24)).alloc (cZ #[F none 0 0,F none 0 0,F none 0 0,E J 0] 67):=hX;have Q:ZD w X:=by rw[hX];exact Zs _ _
 have bf:X.heap.size=w.heap.size+4:=by rw[hX];exact Z3 _ _
 have bt:=kl0 hX _ _ rfl;have bu:=kl hX 1 _ _ rfl;have bv:X.heap[w.heap.size+1+1]? = some (cZ [F none 0 0].toArray 24 (0,0)):=by rw[hX];exact Zk _ w 2 _ rfl
 have bx:X.heap[w.heap.size+1+1+1]? = some (cZ [F none 0 0,F none 0 0,F none 0 0,E J 0].toArray 67 (0,0)):=by rw[hX];exact Zk _ w 3 _ rfl
 have C1:=Zd (Zkq ka kn kc K na ba pa nn nc bn bc pn pc N T P tip X (hE.later Q) (hK.later Q) (hN.later Q) (hT.later Q) (hP.later Q) sN sT sP (by rw[<-hP.1];exact hp) hq bp bh bk bo la ln lc L (hL.later Q) sL x nn' D hx);have bi:=ZE Q hm;obtain⟨cb,an,az,bb⟩:=kh4 Q bf bv bx;obtain⟨t0,tl⟩:=cl1 (Zd bt);obtain⟨t1,t2,t3,t4,cp⟩:=cl4 (Zd bu);obtain⟨-,-,-,-,m4,m5,m6,m7,m8,ml⟩:=kc9 bi;clear hE hK hN hT hP sN sT sP hp hq hm hL sL hx Q bf bt bu bv bx hX bi;go_enter func301,ntmps301
 go_upto_region 1 with fail
 rw[<-be];clear be;(try go_wp2_with fail);refine C1.mono ?_;rintro e z ⟨k1,ag,af,n1,aj,ah,b1,ad,ac,p1,am,al,rfl,hF,s1,s2,s3,s4,ab⟩;have h2:=ZE ab az;have h3:=ZE ab bb
 have au:Hid (∀ W,Gr z W (λq=>w.heap.size<=q/\q<w.heap.size+4)->Ph w W x D (dA (dB #[.agg #[F k1 ag af],.agg #[F n1 aj ah,F b1 ad ac,F p1 am al,E J D.tip],E J x]))/\ZD w W):=λW g=>by
  have db:=Za an;have bg:=Zf cb ab;exact⟨⟨k1,ag,af,n1,aj,ah,b1,ad,ac,p1,am,al,rfl,λW2 g2=>hF W2 ((g.mono (λq _ e=>by omega)).trans (g2.mono (λq _ e=>by omega))),s1,s2,s3,s4⟩,g.below bg bg.size (λq e=>e.1)⟩
 obtain⟨Y,hY⟩:=ZG ((z.alloc (cZ #[F k1 ag af] 24)).alloc (cZ #[F n1 aj ah,F b1 ad ac,F p1 am al,E J D.tip] 67));have aq:ZD z Y:=by rw[hY];exact Zf (Zh _ _) (Zh _ _)
 have au:=Zd (λW (g:Gr Y W (λq=>w.heap.size<=q/\q<w.heap.size+4))=>au W ((Gr.of aq).trans g));have h2:=ZE aq h2;have h3:=ZE aq h3;have y0:Y.heap[z.heap.size]? = some (cZ [F k1 ag af].toArray 24 (0,0)):=by rw[hY];exact Zk [cZ #[F k1 ag af] 24,cZ #[F n1 aj ah,F b1 ad ac,F p1 am al,E J D.tip] 67] z 0 _ rfl
 have y1:Y.heap[z.heap.size+1]? = some (cZ [F n1 aj ah,F b1 ad ac,F p1 am al,E J D.tip].toArray 67 (0,0)):=by rw[hY];exact Zk [cZ #[F k1 ag af] 24,cZ #[F n1 aj ah,F b1 ad ac,F p1 am al,E J D.tip] 67] z 1 _ rfl
 obtain⟨u0,ul⟩:=cl1 (Zd y0);obtain⟨u1,u2,u3,u4,dl⟩:=cl4 (Zd y1);have e1:z.heap.size≠w.heap.size+1+1:=by have:=ab.size;have:=Za an;omega
 have e2:z.heap.size+1≠w.heap.size+1+1:=by have:=ab.size;have:=Za an;omega
 have e3:z.heap.size≠w.heap.size+1+1+1:=by have:=ab.size;have:=Za an;omega
 have e4:z.heap.size+1≠w.heap.size+1+1+1:=by have:=ab.size;have:=Za an;omega
 obtain⟨dc,de⟩:=cl1 (Zd h2);have dd:=Zg h2 0;obtain⟨df,dg,dh,di,dj⟩:=cl4 (Zd h3);have cx:=Zg h3 0;have cy:=Zg h3 1;have cz:=Zg h3 2;have da:=Zg h3 3;clear h2 h3 y0 y1 aq hF s1 s2 s3 s4 ab C1 t0 t1 t2 t3 t4 tl cp m4 m5 m6 m7 m8 ml az bb;go_wp2_with fail;rw[<-hY];clear hY
 go_region
 all_goals
  go_wp2;(try simp only[Exit.inBlock,Exit.then]);refine aW (v:=dB #[.agg #[F k1 ag af],.agg #[F n1 aj ah,F b1 ad ac,F p1 am al,E J D.tip],E J x]) ?_ rfl ?_
  ·rw[Wa rfl];go_simp
  ·refine au _ ?_
   repeat' first|exact Gr.refl _ _|refine Gr.draw ?_|refine Gr.new ?_ _|refine Gr.one ?_ _ _ ?_ _
   all_goals first|exact .inl ⟨by omega,by omega⟩|exact .inr (by simp)|exact .inr (by omega)
def WD.told(W:WD)(i:Nat)(fr:Int)(b:Zl):WD:=
 if h:i<W.n.length then
  let y:=W.n[i]
  let r:=ntR W.k y.1 y.2.1 y.2.2.1 y.2.2.2 b
  if r.1=0 then W.put i r.2.2 else if r.1=5 then W.sent (2,i,fr,b.1,Ym,Yz) else W
 else W
theorem Zng(Z:Nat->Prop)(s:Nat)(W:WD)(kd fr:Int)(ti:Nat)(nm bp z Q bx:Int)(la ln lc L)(th:Int)(ai ao ni ci no co w)(hE:Env w)(hS:Sc Z s W w)(hi:ti<W.n.length)(ar:Js W.n[ti])(hL:TxsAt w la ln L)(sL:SlOk la ln lc) :
  Calls aB 271 #[dC (some ⟨s,0,none⟩),.agg #[E J kd,E J fr,E J ti,E J nm,E J bp,E J z,E J Q,E J bx,F la ln lc,E J th,F ai ni ci,F ao no co]] w λe w'=>e = dA (dB #[])/\Sc Z s (W.told ti fr (bp,z,Q,bx,L)) w'/\Gr w w' (λq=>¬Z q):=by
 obtain⟨X,hX,aq,an⟩:=ka00 w [E J kd,E J fr,E J ti,E J nm,E J bp,E J z,E J Q,E J bx,F la ln lc,E J th,F ai ni ci,F ao no co] 106;have br:X.heap.size=w.heap.size+1:=by rw[hX];simp
 obtain⟨y,hy⟩:=ZF (W.n[ti]);obtain⟨⟨x,n',D⟩,hx⟩:=ZF (ntR W.k y.1 y.2.1 y.2.2.1 y.2.2.2 (bp,z,Q,bx,L))
 have eT:W.told ti fr (bp,z,Q,bx,L)=if x=0 then W.put ti D else if x=5 then W.sent (2,ti,fr,bp,Ym,Yz) else W:=by
  unfold WD.told;rw[dif_pos hi];simp only[hy,hx]
 have DO:DoN w X 301 #[dC (some ⟨w.heap.size,0,none⟩)] W.k W.n[ti] x D (λ_ bg V=>X.heap.size<=bg/\V.heap[w.heap.size]? = some (cZ [E J kd,E J fr,E J ti,E J nm,E J bp,E J z,E J Q,E J bx,F la ln lc,E J th,F ai ni ci,F ao no co].toArray 106 (0,0))):=by
  refine⟨enters_of (fn:=Tryz.f301) (by kernel_rfl) (by kernel_rfl) rfl,λlo bg V V' h g=>⟨h.1,g.heap h.2 (λe=>by have:=h.1;omega)⟩,λV hv ka kn kc na nn nc ba bn bc pa pn pc h1 h2 h3 h4 h5 h6 h7 h8=>?_⟩;have hw:=Zf aq hv;have bh:=ZE hv an;refine (Ziy ka kn kc na ba pa nn nc bn bc pn pc W.k _ _ _ _ kd fr ti nm bp z Q bx la ln lc L th ai ao ni ci no co w.heap.size x n' D V (hE.later hw) h1 h3 h4 h5 h6 h7 h8 ar.1 ar.2 bh (hL.later hw) sL (by rw[hy];exact hx)).mono ?_;rintro e V' ⟨hc,hb⟩;exact⟨hc,Gr.of hb,aT hv.size hb.size,ZE hb bh⟩
 obtain⟨C1,bo,HE⟩:=kh3 (Tn Z s W ti 301 #[dC (some ⟨w.heap.size,0,none⟩)] x D _ w X hS aq hi DO) hS.nz eT;obtain⟨-,-,m2,ml⟩:=kc3 an;clear hE hS ar hL sL aq an br hx hy DO eT;go_enter func271,ntmps271
 go_upto_region 1 with fail
 rw[<-hX];clear hX;(try go_wp2_with fail);refine C1.mono ?_;rintro e w1 ⟨rfl,ab,be,⟨lo,hh,⟨_,af⟩,_,_⟩,_⟩;have ak:=Zd be;clear be C1 m2 ml;by_cases h0:x=0
 ·subst h0;rw[if_pos rfl] at ab;have ad:Hid (Sc Z s (W.told ti fr (bp,z,Q,bx,L)) w1):=by rw[Za HE,if_pos rfl];exact ab
  clear ab af;go_wp2;go_end0;exact⟨rfl,Za ad,Za ak⟩
 rw[if_neg h0] at ab;by_cases h5:x=5;rotate_left
 ·have ad:Hid (Sc Z s (W.told ti fr (bp,z,Q,bx,L)) w1):=by rw[Za HE,if_neg h0,if_neg h5];exact ab
  have g5:(x == 5)=false:=by simp[h5]
  clear ab af;go_wp2;go_end0;exact⟨rfl,Za ad,Za ak⟩
 subst h5;have C2:=Zd (Rm Z s W 2 ti fr bp 0 0 0 0 none 0 0 [] 0 none none 0 0 0 0 [] [] w1 ab (RowsAt.nil _ _) Zq (RowsAt.nil _ _) (RowsAt.nil _ _) Zq Zq ⟨⟨aL _,by simp⟩,aL _,aL _,by simp,by simp⟩);have HN:=Zd (λq (hq:Xt w1 s q)=>(ab.net_lt hq).1);obtain⟨-,m1,m2,-,m4,ml⟩:=kc5 af;clear ab af;go_wp2_with fail;refine C2.mono ?_;rintro e w2 ⟨rfl,bd,bf,_⟩;have ad:Hid (Sc Z s (W.told ti fr (bp,z,Q,bx,L)) w2):=by rw[Za HE,if_neg (by decide),if_pos (by first|trivial|rfl)];exact bd
 have bk:Hid (Gr w w2 (λq=>¬Z q)):=ak.trans (bf.mono (λq _ e=>by
  rcases e with e|e
  ·rw[e];exact Za bo
  ·exact HN q e))
 clear bd bf C2 m1 m2 m4 ml;go_wp2;go_end0;exact⟨rfl,Za ad,Za bk⟩
def WD.sendAll(W:WD)(z fr nm:Int)(b:Zl)(t:TxD):Nat->WD
 | 0=>W
 | j+1=>if (j:Int)=fr then W.sendAll z fr nm b t j else (W.sendAll z fr nm b t j).sent (z,fr,j,nm,b,t)
theorem Zjj(W:WD)(m:Jt):(W.sent m).n=W.n/\(W.sent m).k=W.k:=by
 unfold WD.sent;by_cases h:W.m.length<20
 ·rw[if_pos h];exact⟨rfl,rfl⟩
 ·rw[if_neg h];exact⟨rfl,rfl⟩
theorem Nn(W:WD)(z fr nm:Int)(b:Zl)(t):∀ j,(W.sendAll z fr nm b t j).n=W.n/\(W.sendAll z fr nm b t j).k=W.k
 | 0=>⟨rfl,rfl⟩
 | j+1=>by
  have h:=Nn W z fr nm b t j;unfold WD.sendAll;by_cases e:(j:Int)=fr
  ·rw[if_pos e];exact h
  ·rw[if_neg e,(Zjj _ _).1,(Zjj _ _).2];exact h
theorem R4(Z:Nat->Prop)(s:Nat)(W:WD)(kd fr tq nm bp z Q bn:Int)(ba bm bc L)(th:Int)(ai ao ni ci no co I O w)(hS:Sc Z s W w)(da:W.n.length<=4)(hD:∀ V,Gr w V (λq=>q=s\/Xt w s q)->TxsAt V ba bm L/\InsAt V ai ni I/\OutsAt V ao no O)(sL:SlOk ba bm bc)(sI:SlOk ai ni ci)(sO:SlOk ao no co)(hz:Vf (kd,fr,tq,nm,(bp,z,Q,bn,L),th,I,O)) :
  Calls aB 268 #[dC (some ⟨s,0,none⟩),.agg #[E J kd,E J fr,E J tq,E J nm,E J bp,E J z,E J Q,E J bn,F ba bm bc,E J th,F ai ni ci,F ao no co]] w λe w'=>e = dA (dB #[])/\Sc Z s (W.sendAll kd fr nm (bp,z,Q,bn,L) (th,I,O) W.n.length) w'/\Gr w w' (λq=>q=s\/Xt w s q):=by
 obtain⟨X,hX,ah,bi⟩:=ka00 w [E J kd,E J fr,E J tq,E J nm,E J bp,E J z,E J Q,E J bn,F ba bm bc,E J th,F ai ni ci,F ao no co] 106;have cw:X.heap.size=w.heap.size+1:=by rw[hX];simp
 have db:=hS.lt;have dc:∀ q,Xt w s q->q<w.heap.size:=λq e=>(hS.net_lt e).2.1;obtain⟨n,hn⟩:=ZF (W.n.length);obtain⟨T,hT⟩:∃ T:Nat->WD,T=W.sendAll kd fr nm (bp,z,Q,bn,L) (th,I,O):=⟨_,rfl⟩
 have cf:Hid (∀ V (j:Nat),Sc (λq=>Z q\/q=w.heap.size) s (T j) V->Gr w V (λq=>q=s\/Xt w s q)->(∀ q,Xt V s q->Xt w s q\/w.heap.size<q)->V.heap[w.heap.size]? = some (cZ [E J kd,E J fr,E J (j:Int),E J nm,E J bp,E J z,E J Q,E J bn,F ba bm bc,E J th,F ai ni ci,F ao no co].toArray 106 (0,0)) ->
   Calls aB 275 #[dC (some ⟨s,0,none⟩),.agg #[E J kd,E J fr,E J (j:Int),E J nm,E J bp,E J z,E J Q,E J bn,F ba bm bc,E J th,F ai ni ci,F ao no co]] V λe V'=>e = dA (dB #[])/\Sc (λq=>Z q\/q=w.heap.size) s ((T j).sent (kd,fr,j,nm,(bp,z,Q,bn,L),th,I,O)) V'/\Gr w V' (λq=>q=s\/Xt w s q)/\(∀ q,Xt V' s q->Xt w s q\/w.heap.size<q)/\V'.heap[w.heap.size]? = some (cZ [E J kd,E J fr,E J (j:Int),E J nm,E J bp,E J z,E J Q,E J bn,F ba bm bc,E J th,F ai ni ci,F ao no co].toArray 106 (0,0))):=λV j h1 h2 h3 h4=>by
  obtain⟨d1,d2,d3⟩:=hD V h2;refine (Rm _ s _ kd fr j nm bp z Q bn ba bm bc L th ai ao ni ci no co I O V h1 d1 sL d2 d3 sI sO hz).mono ?_;rintro e V' ⟨rfl,k1,k2,k3⟩;have cn:=aA h4;refine⟨rfl,k1,h2.far k2 (λq e=>?_),λq e=>?_,k2.heap h4 (λe=>?_)⟩
  ·rcases e with e|e
   ·exact .inr (.inl e)
   ·rcases h3 q e with e|e
    ·exact .inr (.inr e)
    ·exact .inl (Nat.le_of_lt e)
  ·rcases k3 q e with e|e
   ·exact h3 q e
   ·exact .inr (Nat.lt_of_lt_of_le cn e)
  ·rcases e with e|e
   ·omega
   ·exact (h1.net_lt e).1 (.inr rfl)
 have bh:Hid (Sc (λq=>Z q\/q=w.heap.size) s (T 0) X):=by rw[hT];exact hS.widen ah w.heap.size (aF _) (by omega)
 have G0:Hid (Gr w X (λq=>q=s\/Xt w s q)):=Gr.of ah
 have N0:Hid (∀ q,Xt X s q->Xt w s q\/w.heap.size<q):=λq hq=>by
  obtain⟨ka,kn,kc,vn,vm,Kn,Km,hA⟩:=hS;exact .inl ((hA.nb q).1 (((hA.later ah).nb q).2 hq))
 have bd:=Zd bi
 obtain⟨c1,au⟩:∃ v,X.cell? ⟨s,1,none⟩=some v/\∃ a c,v = F a n c:=by
  obtain⟨ka,kn,kc,vn,vm,Kn,Km,hA⟩:=hS.later ah;obtain⟨na,nc,ma,mc,rfl,rfl,_⟩:=hA.on.read;exact⟨_,Zb hA.box 1 _ rfl,na,nc,by rw[hn]⟩
 obtain⟨au,sa,sc,rfl⟩:=au;have xl:s<X.heap.size:=by omega
 have TS:Hid (∀ j:Nat,T (j+1)=if (j:Int)=fr then T j else (T j).sent (kd,fr,j,nm,(bp,z,Q,bn,L),th,I,O)):=λj=>by rw[hT];rfl
 have bx:Hid (W.sendAll kd fr nm (bp,z,Q,bn,L) (th,I,O) W.n.length=T n):=by rw[hT,hn];rfl
 clear hS hD sL sI sO hz ah bi hT;go_enter func268,ntmps268
 go_upto_region 1 with fail
 rw[<-hX];clear hX;(try go_wp2_with fail)
 go_loopw [11] (λi wr=>∃ j:Nat,∃ tt:Int,j<=n/\i = E J j/\Hid (Sc (λq=>Z q\/q=w.heap.size) s (T j) wr)/\Hid (Gr w wr (λq=>q=s\/Xt w s q))/\Hid (∀ q,Xt wr s q->Xt w s q\/w.heap.size<q)/\Hid (wr.heap[w.heap.size]? = some (cZ [E J kd,E J fr,E J tt,E J nm,E J bp,E J z,E J Q,E J bn,F ba bm bc,E J th,F ai ni ci,F ao no co].toArray 106 (0,0)))) (λi _=>n - (intOf i).toNat)
 case atStart=>exact⟨0,tq,aL _,rfl,bh,G0,N0,bd⟩
 case round=>
  obtain⟨j,tt,hj,rfl,HS,HG,HN,HM⟩:=hrel;clear bh G0 N0 bd au;by_cases cz:j<n
  ·have cy:(j:Int)<(n:Int):=(by omega);have h4:=Za HM;obtain⟨-,-,a2,-,-,f2,al⟩:=kf3 h4;obtain⟨wj,af⟩:∃ v,v=wr.setCell ⟨w.heap.size,2,none⟩ (E J (j:Int)):=⟨_,rfl⟩;have av:wj.heap[w.heap.size]? = some (cZ [E J kd,E J fr,E J (j:Int),E J nm,E J bp,E J z,E J Q,E J bn,F ba bm bc,E J th,F ai ni ci,F ao no co].toArray 106 (0,0)):=(by rw[af];exact Tr.set_cells h4 2 _);have gj:Gr wr wj (λq=>q=w.heap.size):=(by rw[af];exact (Gr.refl wr (λq=>q=w.heap.size)).one w.heap.size 2 (.inl rfl) _);have ak:Hid (Sc (λq=>Z q\/q=w.heap.size) s (T j) wj):=HS.write (gj.mono (λq _ e=>.inr e));have ay:Hid (Gr w wj (λq=>q=s\/Xt w s q)):=HG.far gj (λq e=>.inl (by have e:q=w.heap.size:=e;omega))
   have bb:Hid (∀ q,Xt wj s q->Xt w s q\/w.heap.size<q):=λq hq=>HN q (by
    obtain⟨ka,kn,kc,vn,vm,Kn,Km,hA⟩:=Za HS;obtain⟨v,h1,h2⟩:=hq;rw[gj.cell (Zb hA.box 2 _ rfl) (by show ¬s=w.heap.size;omega)] at h1;exact⟨v,by rw[<-h1];exact Zb hA.box 2 _ rfl,h2⟩)
   obtain⟨m0,m1,m2,m3,m4,m5,m6,m7,m8,m9,m10,m11,ml⟩:=kc12 av;have az:=Zd av;clear gj av h4;by_cases hf:(j:Int)=fr
   ·have gf:((j:Int) != fr)=false:=(by simp[hf]);have eS:T (j+1)=T j:=(by rw[(Za TS) j,if_pos hf]);have ak:Hid (Sc (λq=>Z q\/q=w.heap.size) s (T (j+1)) wj):=(by rw[eS];exact ak);clear eS hf
    go_upto_region 5 with fail
    rw[<-af];clear af;go_wp2;go_roundw
    case rel=>exact⟨j+1,j,by omega,by go_num,ak,ay,bb,az⟩
    case measure=>simp[intOf];omega
   ·have gf:((j:Int) != fr)=true:=(by simp[hf]);have eS:T (j+1)=(T j).sent (kd,fr,j,nm,(bp,z,Q,bn,L),th,I,O):=(by rw[(Za TS) j,if_neg hf]);obtain⟨C,ES⟩:=kh2 (cf wj j ak ay bb az) eS;clear eS hf
    go_upto_region 5 with fail
    rw[<-af];clear af;go_wp2_with fail;refine C.mono ?_;rintro e w5 ⟨rfl,k1,k2,k3,k4⟩;have K1:Hid (Sc (λq=>Z q\/q=w.heap.size) s (T (j+1)) w5):=(by rw[Za ES];exact k1);obtain⟨K2,K3,K4⟩:=kh3 k2 k3 k4;clear k1 k2 k3 k4 C m0 m1 m2 m3 m4 m5 m6 m7 m8 m9 m10 m11 ml;go_wp2;go_roundw
    case rel=>exact⟨j+1,j,by omega,by go_num,K1,K2,K3,K4⟩
    case measure=>simp[intOf];omega
  ·have e:j=n:=(by omega);subst e;have bv:Hid (Sc Z s (W.sendAll kd fr nm (bp,z,Q,bn,L) (th,I,O) W.n.length) wr):=(by rw[Za bx];exact HS.less (λq e=>.inl e));go_wp2;go_end0;exact⟨rfl,Za bv,Za HG⟩
theorem Zkv(ka kn kc na ba pa nn nc bn bc pn pc K N T)(P:List TxD)(tip:Int)(xk xn xt xi xw xN th:Int)(ai ao ni ci no co)(hb ob z:Nat)(la ln lc l)(x:Int)(b:Zl)(D:Dsk)(w:World)(hE:Env w)(hK:Bk.TextsAt w ka kn K)(hN:Tr.IntsAt w na nn N)(hT:Tr.BlksAt w ba bn T)(hP:TxsAt w pa pn P)(sN:SlOk na nn nc)(sT:SlOk ba bn bc)(sP:SlOk pa pn pc)(hp:P.length<=2513169434916)(hq:∀ t∈P,Tr.TxSmall t)
  (hm:w.heap[hb]? = some (cZ [E J xk,E J xn,E J xt,E J xi,E J xw,E J xN,E J th,F ai ni ci,F ao no co].toArray 103 (0,0))) (ho:w.heap[ob]? = some (cZ [F la ln lc].toArray 48 (0,0))) (aw:w.heap[z]? = some (cZ [E J 0,E J 0,E J 0,E J 0,F none 0 0].toArray 39 (0,0))) (hl:OpsAt w la ln l) (sl:SlOk la ln lc) (hn:ln<=8796093022208) (hx:nmR K N T P tip xw xi l=(x,b,D)) :
  Calls aB 267 #[.agg #[F ka kn kc],.agg #[F na nn nc,F ba bn bc,F pa pn pc,E J tip],dC (some ⟨hb,0,none⟩),dC (some ⟨ob,0,none⟩),dC (some ⟨z,0,none⟩)] w λe w'=>Ph w w' x D e/\Gr w w' (λq=>q=z)/\∃ a n c,w'.heap[z]? = some (cZ [E J b.1,E J b.2.1,E J b.2.2.1,E J b.2.2.2.1,F a n c].toArray 39 (0,0))/\(∀ W2,Gr w' W2 (λq=>q<w.heap.size\/w'.heap.size<=q)->TxsAt W2 a n b.2.2.2.2)/\SlOk a n c:=by
 obtain⟨X,hX⟩:=ZG (Yw w [cZ #[F ka kn kc] 24,cZ #[F na nn nc,F ba bn bc,F pa pn pc,E J tip] 67,cZ #[F none 0 0] 24,cZ #[F none 0 0,F none 0 0,F none 0 0,E J 0] 67]);have be:X=(((w.alloc (cZ #[F ka kn kc] 24)).alloc (cZ #[F na nn nc,F ba bn bc,F pa pn pc,E J tip] 67)).alloc (cZ #[F none 0 0] 24)).alloc (cZ #[F none 0 0,F none 0 0,F none 0 0,E J 0] 67):=hX;have Q:ZD w X:=by rw[hX];exact Zs _ _
 have bf:X.heap.size=w.heap.size+4:=by rw[hX];exact Z3 _ _
 have ca:=kl0 hX _ _ rfl;have cb:=kl hX 1 _ _ rfl;have cc:X.heap[w.heap.size+1+1]? = some (cZ [F none 0 0].toArray 24 (0,0)):=by rw[hX];exact Zk _ w 2 _ rfl
 have cd:X.heap[w.heap.size+1+1+1]? = some (cZ [F none 0 0,F none 0 0,F none 0 0,E J 0].toArray 67 (0,0)):=by rw[hX];exact Zk _ w 3 _ rfl
 have C1:=Zd (Le ka kn kc K na ba pa nn nc bn bc pn pc N T P tip X (hE.later Q) (hK.later Q) (hN.later Q) (hT.later Q) (hP.later Q) sN sT sP (by rw[<-hP.1];exact hp) hq xw xi la ln lc l (hl.later Q) sl hn x b D hx);have bj:=ZE Q hm;have bq:=ZE Q ho;have az:Hid (X.heap[z]? = some (cZ [E J 0,E J 0,E J 0,E J 0,F none 0 0].toArray 39 (0,0))):=ZE Q aw;have ee:=aA aw;obtain⟨cg,cj,bb,bd⟩:=kh4 Q bf cc cd;obtain⟨t0,tl⟩:=cl1 (Zd ca);obtain⟨t1,t2,t3,t4,dy⟩:=cl4 (Zd cb);obtain⟨-,-,-,m3,m4,ml⟩:=kc5 bj;obtain⟨o0,ol⟩:=cl1 (Zd bq);clear hE hK hN hT hP sN sT sP hp hq hm ho aw hl sl hn hx Q bf ca cb cc cd hX bj bq;go_enter func267,ntmps267
 go_upto_region 1 with fail
 rw[<-be];clear be;(try go_wp2_with fail);refine C1.mono ?_;rintro e w1 ⟨k1,ae,ad,n1,aj,ah,b1,ag,af,p1,am,al,a,n,c,rfl,hF,s1,s2,s3,s4,s5,ap⟩;dsimp only[Jn];have dn:=Za cj;have dm:=ap.size;have h2:=ZE ap bb;have h3:=ZE ap bd;have h4:=ZE ap az;obtain⟨Y,hY⟩:=ZG (((((((((((w1.setCell ⟨w.heap.size+1+1,0,none⟩ (F k1 ae ad)).setCell ⟨w.heap.size+1+1+1,0,none⟩ (F n1 aj ah)).setCell ⟨w.heap.size+1+1+1,1,none⟩ (F b1 ag af)).setCell ⟨w.heap.size+1+1+1,2,none⟩ (F p1 am al)).setCell ⟨w.heap.size+1+1+1,3,none⟩ (E J D.tip)).setCell ⟨z,0,none⟩ (E J b.1)).setCell ⟨z,1,none⟩ (E J b.2.1)).setCell ⟨z,2,none⟩ (E J b.2.2.1)).setCell ⟨z,3,none⟩ (E J b.2.2.2.1)).setCell ⟨z,4,none⟩ (F a n c)))
 have gY:Gr w1 Y (λq=>q=z\/q=w.heap.size+2\/q=w.heap.size+3):=by
  rw[hY]
  repeat' first|refine Gr.one ?_ _ _ ?_ _|exact Gr.refl _ _
  all_goals (refine Or.inl ?_;omega)
 have y2:Y.heap[w.heap.size+1+1]? = some (cZ [F k1 ae ad].toArray 24 (0,0)):=by
  rw[hY];have g:=Tr.set_cells h2 0 (F k1 ae ad);refine Gr.heap (S:=λq=>q=z\/q=w.heap.size+3) ?_ g (by intro e;rcases e with e|e <;> omega)
  iterate 9 refine Gr.one ?_ _ _ ?_ _
  exact Gr.refl _ _
  all_goals (refine Or.inl ?_;omega)
 have y3:Y.heap[w.heap.size+1+1+1]? = some (cZ [F n1 aj ah,F b1 ag af,F p1 am al,E J D.tip].toArray 67 (0,0)):=by
  rw[hY];have g:=((Gr.refl w1 (λq=>q=w.heap.size+2)).one (w.heap.size+1+1) 0 (.inl rfl) (F k1 ae ad)).heap h3 (by show ¬w.heap.size+1+1+1=w.heap.size+2;omega);refine Gr.heap (S:=λq=>q=z) ?_ (Tr.set_cells (Tr.set_cells (Tr.set_cells (Tr.set_cells g 0 (F n1 aj ah)) 1 (F b1 ag af)) 2 (F p1 am al)) 3 (E J D.tip)) (by show ¬w.heap.size+1+1+1=z;omega)
  iterate 5 refine Gr.one ?_ _ _ ?_ _
  exact Gr.refl _ _
  all_goals exact Or.inl rfl
 have y4:Y.heap[z]? = some (cZ [E J b.1,E J b.2.1,E J b.2.2.1,E J b.2.2.2.1,F a n c].toArray 39 (0,0)):=by
  rw[hY]
  have g:(((((w1.setCell ⟨w.heap.size+1+1,0,none⟩ (F k1 ae ad)).setCell ⟨w.heap.size+1+1+1,0,none⟩ (F n1 aj ah)).setCell ⟨w.heap.size+1+1+1,1,none⟩ (F b1 ag af)).setCell ⟨w.heap.size+1+1+1,2,none⟩ (F p1 am al)).setCell ⟨w.heap.size+1+1+1,3,none⟩ (E J D.tip)).heap[z]? = some (cZ [E J 0,E J 0,E J 0,E J 0,F none 0 0].toArray 39 (0,0)):=by
   refine Gr.heap (S:=λq=>q=w.heap.size+2\/q=w.heap.size+3) ?_ h4 (by intro e;rcases e with e|e <;> omega)
   iterate 5 refine Gr.one ?_ _ _ ?_ _
   exact Gr.refl _ _
   all_goals (refine Or.inl ?_;omega)
  exact Tr.set_cells (Tr.set_cells (Tr.set_cells (Tr.set_cells (Tr.set_cells g 0 _) 1 _) 2 _) 3 _) 4 _
 have cf:Hid (∀ W,Gr Y W (λq=>q=w.heap.size+2\/q=w.heap.size+3)->Ph w W x D (dA (dB #[.agg #[F k1 ae ad],.agg #[F n1 aj ah,F b1 ag af,F p1 am al,E J D.tip],E J x]))/\Gr w W (λq=>q=z)/\∃ a n c,W.heap[z]? = some (cZ [E J b.1,E J b.2.1,E J b.2.2.1,E J b.2.2.2.1,F a n c].toArray 39 (0,0))/\(∀ W2,Gr W W2 (λq=>q<w.heap.size\/W.heap.size<=q)->TxsAt W2 a n b.2.2.2.2)/\SlOk a n c):=λW g=>by
  have g1:Gr w1 W (λq=>q<X.heap.size):=(gY.mono (λq _ e=>by omega)).trans (g.mono (λq _ e=>by omega));refine⟨⟨k1,ae,ad,n1,aj,ah,b1,ag,af,p1,am,al,rfl,λW2 g2=>(hF W2 (g1.trans (g2.mono (λq _ e=>by omega)))).1,s1,s2,s3,s4⟩,?_,a,n,c,g.heap y4 (by intro e;rcases e with e|e <;> omega),λW2 g2=>(hF W2 (g1.far g2 (λq e=>?_))).2,s5⟩
  ·exact ((Gr.of (Zf cg ap)).far gY (λq e=>by rcases e with e|e|e;exact .inr e;exact .inl (by omega);exact .inl (by omega))).far g (λq e=>.inl (by omega))
  ·rcases e with e|e
   ·exact .inr (by omega)
   ·exact .inl (aT g1.size e)
 obtain⟨ej,el⟩:=cl1 (Zd y2);have ek:=Zg y2 0;obtain⟨en,eo,ep,eq,er⟩:=cl4 (Zd y3);have ea:=Zg y3 0;have eb:=Zg y3 1;have ec:=Zg y3 2;have ed:=Zg y3 3;obtain⟨cl,cn⟩:=cl1 (Zd h2);have cm:=Zg h2 0;obtain⟨cp,cq,ct,cu,cw⟩:=cl4 (Zd h3);have dd:=Zg h3 0;have de:=Zg h3 1;have df:=Zg h3 2;have dg:=Zg h3 3;obtain⟨cx,cy,cz,da,db,dc⟩:=cl5 (Zd h4);have dh:=Zg h4 0;have di:=Zg h4 1;have dj:=Zg h4 2;have dk:=Zg h4 3;have dl:=Zg h4 4;have q1:z≠w.heap.size+1+1:=by omega
 have q2:z≠w.heap.size+1+1+1:=by omega
 have q3:w.heap.size+1+1≠z:=by omega
 have q4:w.heap.size+1+1+1≠z:=by omega
 clear h2 h3 h4 y2 y3 y4 gY hF s1 s2 s3 s4 s5 ap dm dn C1 t0 t1 t2 t3 t4 tl dy m3 m4 ml o0 ol bb bd az;go_wp2_with fail;rw[<-hY];clear hY cl cm cp cq ct cu dd de df dg cx cy cz da db dh di dj dk dl cn cw dc
 go_region
 all_goals
  go_wp2;(try simp only[Exit.inBlock,Exit.then]);refine aW (v:=dB #[.agg #[F k1 ae ad],.agg #[F n1 aj ah,F b1 ag af,F p1 am al,E J D.tip],E J x]) ?_ rfl ?_
  ·rw[Wa rfl];go_simp
  ·refine cf _ ?_
   repeat' first|refine Gr.one ?_ _ _ ?_ _|refine Gr.draw ?_|exact Gr.refl _ _
   all_goals (refine Or.inl ?_;omega)
def WD.mine(W:WD)(i:Nat)(wk no n:Int):Int×WD:=
 if h:i<W.n.length then
  let y:=W.n[i]
  let r:=nmR W.k y.1 y.2.1 y.2.2.1 y.2.2.2 wk no [(1,n),(7,0)]
  if r.1=0 then (0,(W.put i r.2.2).sendAll 1 i 0 r.2.1 Yz W.n.length) else (r.1,W)
 else (0,W)
theorem Zof(Z:Nat->Prop)(s:Nat)(W:WD)(xk:Int)(xn:Nat)(xt xi xw xN th:Int)(ai ao ni ci no co)(x:Int)(W':WD)(w)(hE:Env w)(hS:Sc Z s W w)(hi:xn<W.n.length)(cw:W.n.length<=4)(av:Js W.n[xn])(ah:Tr.BlkSmall (nmR W.k W.n[xn].1 W.n[xn].2.1 W.n[xn].2.2.1 W.n[xn].2.2.2 xw xi [(1,xN),(7,0)]).2.1)(hx:W.mine xn xw xi xN=(x,W')) :
  Calls aB 235 #[dC (some ⟨s,0,none⟩),.agg #[E J xk,E J xn,E J xt,E J xi,E J xw,E J xN,E J th,F ai ni ci,F ao no co]] w λe w'=>e = dA (E J x)/\(x=0->Sc Z s W' w')/\Gr w w' (λq=>¬Z q):=by
 obtain⟨X,z⟩:=ZG (Yw w [cZ #[E J xk,E J xn,E J xt,E J xi,E J xw,E J xN,E J th,F ai ni ci,F ao no co] 103,cZ #[E J 1,E J xN,E J 7,E J 0] 164,cZ #[F (some ⟨w.heap.size+1,0,none⟩) 2 2] 48,cZ #[E J 0,E J 0,E J 0,E J 0,F none 0 0] 39]);have bj:X=(((w.alloc (cZ #[E J xk,E J xn,E J xt,E J xi,E J xw,E J xN,E J th,F ai ni ci,F ao no co] 103)).alloc (cZ #[E J 1,E J xN,E J 7,E J 0] 164)).alloc (cZ #[F (some ⟨w.heap.size+1,0,none⟩) 2 2] 48)).alloc (cZ #[E J 0,E J 0,E J 0,E J 0,F none 0 0] 39):=z;have aq:ZD w X:=by rw[z];exact Zs _ _
 have bk:X.heap.size=w.heap.size+4:=by rw[z];exact Z3 _ _
 have x0:=kl0 z _ _ rfl;have x1:=kl z 1 _ _ rfl;have x2:=kl z 2 _ _ rfl;have x3:=kl z 3 _ _ rfl;obtain⟨y,hy⟩:=ZF (W.n[xn]);obtain⟨⟨af,b,D⟩,hr⟩:=ZF (nmR W.k y.1 y.2.1 y.2.2.1 y.2.2.2 xw xi [(1,xN),(7,0)]);have ah:Tr.BlkSmall b:=by rw[hy,hr] at ah;exact ah
 have eT:(x,W')=if af=0 then (0,(W.put xn D).sendAll 1 xn 0 b Yz W.n.length) else (af,W):=by
  rw[<-hx];unfold WD.mine;rw[dif_pos hi];simp only[hy,hr]
 have hl:OpsAt X (some ⟨w.heap.size+1,0,none⟩) 2 [(1,xN),(7,0)]:=⟨rfl,λ_=>⟨w.heap.size+1,0,rfl,λj hj=>by
  match j,hj with
  | 0,_=>exact⟨Zb x1 0 _ rfl,Zb x1 1 _ rfl⟩
  | 1,_=>exact⟨Zb x1 2 _ rfl,Zb x1 3 _ rfl⟩
  | j+2,h=>exact absurd h (by simp)⟩⟩
 have sl:SlOk (some ⟨w.heap.size+1,0,none⟩) 2 2:=⟨aF _,by unfold maxLen;omega,λe=>by cases e⟩
 have DO:DoN w X 267 #[dC (some ⟨w.heap.size,0,none⟩),dC (some ⟨w.heap.size+2,0,none⟩),dC (some ⟨w.heap.size+3,0,none⟩)] W.k W.n[xn] af D (λlo au V=>X.heap.size<=au/\V.heap[w.heap.size]? = some (cZ [E J xk,E J xn,E J xt,E J xi,E J xw,E J xN,E J th,F ai ni ci,F ao no co].toArray 103 (0,0))/\∃ a n c,V.heap[w.heap.size+3]? = some (cZ [E J b.1,E J b.2.1,E J b.2.2.1,E J b.2.2.2.1,F a n c].toArray 39 (0,0))/\(∀ W2,Gr V W2 (λq=>q<w.heap.size\/(X.heap.size<=q/\q<lo)\/au<=q)->TxsAt W2 a n b.2.2.2.2)/\SlOk a n c):=by
  refine⟨enters_of (fn:=Tryz.f267) (by kernel_rfl) (by kernel_rfl) rfl,λlo au V V' h g=>?_,λV Q ka kn kc na nn nc ba bn bc pa pn pc h1 h2 h3 h4 h5 h6 h7 h8=>?_⟩
  ·obtain⟨k0,k1,a,n,c,k2,k3,k4⟩:=h;exact⟨k0,g.heap k1 (λe=>by omega),a,n,c,g.heap k2 (λe=>by omega),λW2 g2=>k3 W2 (g.trans g2),k4⟩
  have hw:=Zf aq Q;have m0:=ZE Q x0;have m2:=ZE Q x2;have m3:=ZE Q x3;refine (Zkv ka kn kc na ba pa nn nc bn bc pn pc W.k _ _ _ _ xk xn xt xi xw xN th ai ao ni ci no co w.heap.size (w.heap.size+2) (w.heap.size+3) _ 2 2 _ af b D V (hE.later hw) h1 h3 h4 h5 h6 h7 h8 av.1 av.2 m0 m2 m3 (hl.later Q) sl (by omega) (by rw[hy];exact hr)).mono ?_;rintro e V' ⟨hc,hg,a,n,c,k2,k3,k4⟩;have df:=Q.size;exact⟨hc,hg.mono (λq _ e=>by have e:q=w.heap.size+3:=e;omega),aT Q.size hg.size,hg.heap m0 (by show ¬w.heap.size=w.heap.size+3;omega),a,n,c,k2,λW2 g2=>k3 W2 (g2.mono (λq _ e=>by omega)),k4⟩
 obtain⟨C1,cd,cf,HE,cb,cg⟩:=kh6 (Tn Z s W xn 267 #[dC (some ⟨w.heap.size,0,none⟩),dC (some ⟨w.heap.size+2,0,none⟩),dC (some ⟨w.heap.size+3,0,none⟩)] af D _ w X hS aq hi DO) hS.lt hS.nz eT ah bk;have cy:w.heap.size+5=w.heap.size+5:=rfl;obtain⟨-,m1,-,-,-,m5,ml⟩:=kc6 x0;have w0:(w.alloc (cZ #[E J xk,E J xn,E J xt,E J xi,E J xw,E J xN,E J th,F ai ni ci,F ao no co] 103)).heap[w.heap.size]? = some (cZ [E J xk,E J xn,E J xt,E J xi,E J xw,E J xN,E J th,F ai ni ci,F ao no co].toArray 103 (0,0)):=aH _ _;obtain⟨-,-,-,-,-,w5,wl⟩:=kc6 w0;clear hE hS av aq x0 x1 x2 x3 bk hr hy DO eT hl sl ah z hx cy w0;go_enter func235,ntmps235
 go_upto_region 3 with fail
 rw[<-bj];clear bj w5 wl;(try go_wp2_with fail);refine C1.mono ?_;rintro e w1 ⟨rfl,ag,bo,⟨lo,hh,⟨k0,k1,a,n,c,k2,k3,k4⟩,de,dd⟩,bs⟩;have be:=Zd bo;clear bo C1 m1 m5 ml;by_cases h0:af=0;rotate_left
 ·have e:=Za HE;rw[if_neg h0] at e;injection e with e1 e2;subst e1;have gx:(x == 0)=false:=by simp[h0]
  have gy:(x != 0)=true:=by simp[h0]
  clear ag k1 k2 k3 k4;go_wp2;go_ret;exact⟨rfl,λe=>absurd e h0,Za be⟩
 subst h0;have e:=Za HE;rw[if_pos rfl] at e;injection e with e1 e2;subst e1 e2;rw[if_pos rfl] at ag;have dg:=Za cg
 have C2:=Zd (R4 Z s (W.put xn D) 1 xn 0 0 b.1 b.2.1 b.2.2.1 b.2.2.2.1 a n c b.2.2.2.2 0 none none 0 0 0 0 [] [] w1 ag (by show (W.n.set xn _).length<=4;rw[List.length_set];exact cw) (λV g=>⟨k3 V (g.mono (λq _ e=>.inl (by
   rcases e with e|e
   ·rw[e];exact Za cd
   ·exact bs q e))),RowsAt.nil _ _,RowsAt.nil _ _⟩) k4 Zq Zq ⟨Za cb,aL _,aL _,by simp,by simp⟩)
 have HN:=Zd (λq (hq:Xt w1 s q)=>(ag.net_lt hq).1);obtain⟨-,m1,ml⟩:=kc2 k1;obtain⟨d0,d1,d2,d3,d4,dl⟩:=cl5 (Zd k2);have eL:(W.put xn D).n.length=W.n.length:=by show (W.n.set xn _).length=_;rw[List.length_set]
 have EL:=Zd eL;clear ag k1 k2 k3 k4 bs eL;go_wp2_with fail;refine C2.mono ?_;rintro e w2 ⟨rfl,bi,bq⟩;have bb:Hid (Sc Z s ((W.put xn D).sendAll 1 xn 0 b Yz W.n.length) w2):=by rw[<-Za EL];exact bi
 have cc:Hid (Gr w w2 (λq=>¬Z q)):=be.trans (bq.mono (λq _ e=>by
  rcases e with e|e
  ·rw[e];exact Za cf
  ·exact HN q e))
 clear bi bq C2 m1 ml d0 d1 d2 d3 d4 dl;go_wp2;go_ret;exact⟨rfl,by first|exact λ_=>Za bb|exact Za bb,Za cc⟩
theorem Zil(Z:Nat->Prop)(s:Nat)(W:WD)(xk xn xt:Int)(xi:Nat)(xw xN th:Int)(ai ao ni ci no co w)(hE:∀ V,Gr w V (λq=>¬Z q)->Env V)(hS:Sc Z s W w)(hl:xi<W.m.length)(hm:W.m.length<=20)(ti:Nat)(hz:W.m[xi].1=1/\W.m[xi].2.2.1=ti)(dk:ti<W.n.length)(cq:Js W.n[ti])(W':WD)(hx:(W.lost xi).told ti W.m[xi].2.1 W.m[xi].2.2.2.2.1=W') :
  Calls aB 238 #[dC (some ⟨s,0,none⟩),.agg #[E J xk,E J xn,E J xt,E J xi,E J xw,E J xN,E J th,F ai ni ci,F ao no co]] w λe w'=>e = dA (E J 0)/\Sc Z s W' w'/\Gr w w' (λq=>¬Z q):=by
 obtain⟨ka,kn,kc,vn,vm,Kn,Km,Q⟩:=hS;have z:=Q.on;obtain⟨na,nc,ma,mc,rfl,rfl,_,_,_,sm⟩:=z.read;have hb:=Q.box
 obtain⟨g,rfl⟩:∃ g,ma=some ⟨g,0,none⟩:=by
  rcases z.rm.2 with ⟨_,e⟩|⟨g,cap,en,e,_⟩
  ·omega
  ·injection e with e;exact⟨g,e⟩
 have eo:=(z.rm.lt g rfl).2;have hk:xi<Km.length:=by rw[z.now.2.2.1];exact hl
 obtain⟨y,hy⟩:=ZF (W.m[xi])
 have hC:∀ V,Gr w V (λq=>(Z q\/q=s)\/(aX na W.n.length nc).ownBlock=some q\/(aX (some ⟨g,0,none⟩) W.m.length mc).ownBlock=some q)->Tr.msgR.C V Km[xi] y:=λV gV=>by
  have:=(z.dat V gV).2.2.2 xi hl hk;rw[hy] at this;exact this
 rw[hy] at hz hx;obtain⟨x0,x1,x2,x3,⟨y0,y1,y2,y3,y4⟩,z0,z1,z2⟩:=y;obtain⟨pa,pn,pc,ia,im,ic,oa,om,oc,eK,hT,sT,hI,sI,hO,sO⟩:=hC w (Gr.refl _ _);simp only at eK hT hI hO;obtain⟨X,hX,ar,bd⟩:=ka00 w [E J xk,E J xn,E J xt,E J xi,E J xw,E J xN,E J th,F ai ni ci,F ao no co] 103;have cg:X.heap.size=w.heap.size+1:=by rw[hX];simp
 have cj:=ZE ar hb;have rc:=λj (hj:j<12)=>(World.ownsRow.cellAt (z.later ar).rm (xi*12+j) (by have:(xi+1)*12<=W.m.length*12:=Nat.mul_le_mul_right _ hl;omega)).trans (Tr.wid_at z.now.2.2.wid xi hk j hj);rw[eK] at rc;have r0:X.cell? ⟨g,xi*12,none⟩=some (E J x0):=rc 0 (by decide);have r1:X.cell? ⟨g,xi*12+1,none⟩=some (E J x1):=rc 1 (by decide);have r2:X.cell? ⟨g,xi*12+2,none⟩=some (E J x2):=rc 2 (by decide);have r3:X.cell? ⟨g,xi*12+3,none⟩=some (E J x3):=rc 3 (by decide);have r4:X.cell? ⟨g,xi*12+4,none⟩=some (E J y0):=rc 4 (by decide);have r5:X.cell? ⟨g,xi*12+5,none⟩=some (E J y1):=rc 5 (by decide);have r6:X.cell? ⟨g,xi*12+6,none⟩=some (E J y2):=rc 6 (by decide);have r7:X.cell? ⟨g,xi*12+7,none⟩=some (E J y3):=rc 7 (by decide);have r8:X.cell? ⟨g,xi*12+8,none⟩=some (F pa pn pc):=rc 8 (by decide);have r9:X.cell? ⟨g,xi*12+9,none⟩=some (E J z0):=rc 9 (by decide);have dp:X.cell? ⟨g,xi*12+10,none⟩=some (F ia im ic):=rc 10 (by decide);have dq:X.cell? ⟨g,xi*12+11,none⟩=some (F oa om oc):=rc 11 (by decide);have ep:(xi:Int)<(W.m.length:Int):=by omega
 obtain⟨e1,e2⟩:=hz;simp only at e1 e2;subst e1 e2;have eq:=aA hb;have CL:=Zd (λV (hv:ZD w V)=>Hq Z s W xk xn xt xi xw xN th ai ao ni ci no co V ⟨_,_,_,_,_,_,_,Q.later hv⟩ hl hm)
 have NB:Hid (∀ V,ZD w V->∀ q,Xt V s q->q<w.heap.size/\¬Z q/\(aX (some ⟨g,0,none⟩) W.m.length mc).ownBlock=some q):=λV hv q hq=>by
  have h:=((Q.later hv).nb q).2 hq;exact⟨(z.rm.lt q h).2,λe=>(Q.zs q e).2.2.2 h,h⟩
 have NZ:Hid (¬Z s):=λe=>(Q.zs s e).2.1 rfl
 have CT:=Zd (λV (gw:Gr w V (λq=>q=s\/(aX (some ⟨g,0,none⟩) W.m.length mc).ownBlock=some q)) (de:Sc Z s (W.lost xi) V)=>Zng Z s (W.lost xi) 1 x1 ti x3 y0 y1 y2 y3 pa pn pc y4 z0 ia oa im ic om oc V (hE V (gw.mono (λq _ e=>by
   rcases e with e|e
   ·rw[e];exact Za NZ
   ·exact λfb=>(Q.zs q fb).2.2.2 e))) de dk cq (by
  obtain⟨pa',pn',pc',er,et,es,eu,ew,ev,ay,df,_⟩:=hC V (gw.mono (λq _ e=>e.elim (λe=>.inl (.inr e)) (λe=>.inr (.inr e))));rw[eK] at ay;simp only[List.cons.injEq,Value.slice.injEq,and_true,true_and] at ay;obtain⟨⟨rfl,rfl,rfl⟩,_⟩:=ay;exact df) sT)
 rw[hx] at CT;obtain⟨bq,bs,bt⟩:=kh3 ar bd cg;obtain⟨-,-,c2,fa⟩:=kc3 cj;obtain⟨-,-,-,m3,ml⟩:=kc4 bd;have dh:g<X.heap.size:=by omega
 clear Q z hb hC eK hT sT hI sI hO sO ar cg bd cj rc hx hy hE cq;go_enter func238,ntmps238
 go_upto_region 1 with fail
 rw[<-hX];clear hX
 go_cut [5] from 6 to 14 (λs5 wx=>s5 = dC (some ⟨w.heap.size+1,0,none⟩)/\Hid (wx.heap[w.heap.size+1]? = some (cZ [E J 1,E J x1,E J ti,E J x3,E J y0,E J y1,E J y2,E J y3,F pa pn pc,E J z0,F ia im ic,F oa om oc].toArray 106 (0,0))/\ZD X wx))
 case first=>
  have ct:=Za bt
  have ZB:Hid (∀ U,U=X\/U=X.drew->(U.alloc (cZ #[E J 1,E J x1,E J ti,E J x3,E J y0,E J y1,E J y2,E J y3,F pa pn pc,E J z0,F ia im ic,F oa om oc] 106)).heap[w.heap.size+1]? = some (cZ [E J 1,E J x1,E J ti,E J x3,E J y0,E J y1,E J y2,E J y3,F pa pn pc,E J z0,F ia im ic,F oa om oc].toArray 106 (0,0))/\ZD X (U.alloc (cZ #[E J 1,E J x1,E J ti,E J x3,E J y0,E J y1,E J y2,E J y3,F pa pn pc,E J z0,F ia im ic,F oa om oc] 106))):=λU hU=>by
   rw[<-ct]
   rcases hU with rfl|rfl
   ·exact⟨aH _ _,Zh _ _⟩
   ·exact⟨aH X.drew _,Zf (Zi X) (Zh _ _)⟩
  go_region
  all_goals
   go_wp2_with fail;go_meet
   case rel=>exact⟨rfl,(ZB X (.inl rfl)).1,Zf (ZB X (.inl rfl)).2 (Zi _)⟩
 case rest=>
  obtain⟨rfl,HC⟩:=hcut;obtain⟨cp,bf⟩:=Za HC;have ct:=Za bt;have bg:=Zf bq bf;have cb:=ZE bf bs;obtain⟨C1,cy,ap⟩:=kh3 (CL wc bg) cp bg;obtain⟨v0,v1,v2,v3,v4,v5,v6,v7,v8,vl⟩:=kc9 cb;clear HC cp bf bg cb CL c2 fa m3 ml dh bs bq r0 r1 r2 r3 r4 r5 r6 r7 r8 r9 dp dq;go_wp2_with fail;refine C1.mono ?_;rintro e w2 ⟨rfl,ce,au,_⟩;have ca:Gr w w2 (λq=>q=s\/(aX (some ⟨g,0,none⟩) W.m.length mc).ownBlock=some q):=(Gr.of ap).trans (au.mono (λq _ e=>e.imp id (λe=>(NB wc ap q e).2.2)))
  have cn:=au.heap cy (λe=>by
   rcases e with e|e
   ·omega
   ·have:=(NB wc ap _ e).1;omega)
  have C2:=Zd (CT w2 ca ce)
  have cw:Hid (Gr w w2 (λq=>¬Z q)):=(Gr.of ap).trans (au.mono (λq _ e=>by
   rcases e with e|e
   ·rw[e];exact Za NZ
   ·exact (NB wc ap q e).2.1))
  obtain⟨u0,u1,u2,u3,u4,u5,u6,u7,u8,u9,u10,u11,ul⟩:=kc12 cn;clear ce au ca cn C1 CT v0 v1 v2 v3 v4 v5 v6 v7 v8 vl;go_wp2_with fail;refine C2.mono ?_;rintro e w3 ⟨rfl,cf,cl⟩;obtain⟨cz,cx⟩:=kh2 cf (cw.trans cl);clear cf cl C2 u0 u1 u2 u3 u4 u5 u6 u7 u8 u9 u10 u11 ul;go_wp2;go_ret;exact⟨rfl,Za cz,Za cx⟩
