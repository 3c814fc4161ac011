import Derived.Test.YtmomfkikogbdeaaGreatDoorH
import Derived.Test.YtmomfkikogbdeaaGreatDoorG40
import Derived.Test.YtmomfkikogbdeaaGreatDoorG41
open Go.Proofs.Tryz
open Decidable renaming not_not->aK
open Go renaming lt_of_block->aA,wpAnyH_ready->cI
open Go.Act renaming put->aM
open Go.Ending renaming returned->dA
open Go.IntKind renaming i64->J
open Go.Obj renaming cells->cZ
open Go.Value renaming int->E,slice->F,tuple->dB,pointer->dC
open List renaming getElem_mem->aQ,length_append->bW
open Nat renaming le_trans->aT,lt_of_lt_of_le->aD
open Prod renaming fst->bI
open Prod.mk renaming injEq->aN
set_option maxHeartbeats 12800000
set_option maxRecDepth 10000
namespace Go.Proofs.YtmomfkikogbdeaaGreatDoor
open Go.RowKit
theorem Zhr(Z:Nat->Prop)(s:Nat)(W:WD)(xk xn xt:Int)(xi:Nat)(xw xN th:Int)(ai ao ni ci no co w)(hS:Sc Z s W w)(hl:xi<W.m.length)(hz:Vf W.m[xi])(W':WD)(hx:W.sent W.m[xi]=W') :
  Calls Tryz.prog 241 #[dC (some ⟨s,0,none⟩),.agg #[E J xk,E J xn,E J xt,E J xi,E J xw,E J xN,E J th,F ai ni ci,F ao no co]] w λe w'=>e = dA (E J 0)/\He Z s W' w w':=by
 obtain⟨ka,kn,kc,vn,vm,Kn,Km,hA⟩:=hS;have Q:=hA.on;obtain⟨na,nc,ma,mc,rfl,rfl,_,_,_,sm⟩:=Q.read;have hb:=hA.box
 obtain⟨g,rfl⟩:∃ g,ma=some ⟨g,0,none⟩:=by
  rcases Q.rm.2 with ⟨_,e⟩|⟨g,cap,cd,e,_⟩
  ·omega
  ·injection e with e;exact⟨g,e⟩
 have cf:=(Q.rm.lt g rfl).2;have hk:xi<Km.length:=by rw[Q.now.2.2.1];exact hl
 obtain⟨y,hy⟩:=ZF (W.m[xi])
 have hC:∀ V,Gr w V (λq=>(Z q\/q=s)\/(Value.slice na W.n.length nc).ownBlock=some q\/(Value.slice (some ⟨g,0,none⟩) W.m.length mc).ownBlock=some q)->Tr.msgR.C V Km[xi] y:=λV gV=>by
  have:=(Q.dat V gV).2.2.2 xi hl hk;rw[hy] at this;exact this
 rw[hy] at hz hx;obtain⟨x0,x1,x2,x3,⟨y0,y1,y2,y3,y4⟩,z0,z1,z2⟩:=y;obtain⟨pa,pn,pc,ia,im,ic,oa,om,oc,eK,hT,sT,hI,sI,hO,sO⟩:=hC w (Gr.refl _ _);simp only at eK hT hI hO;obtain⟨X,hX,z,bg⟩:=ka00 w [E J xk,E J xn,E J xt,E J xi,E J xw,E J xN,E J th,F ai ni ci,F ao no co] 103;have bu:X.heap.size=w.heap.size+1:=by rw[hX];simp
 have bi:=ZE z hb;have rc:=λj (hj:j<12)=>(World.ownsRow.cellAt (Q.later z).rm (xi*12+j) (by have:(xi+1)*12<=W.m.length*12:=Nat.mul_le_mul_right _ hl;omega)).trans (Tr.wid_at Q.now.2.2.wid xi hk j hj);rw[eK] at rc;have r0:X.cell? ⟨g,xi*12,none⟩=some (E J x0):=rc 0 (by decide);have r1:X.cell? ⟨g,xi*12+1,none⟩=some (E J x1):=rc 1 (by decide);have r2:X.cell? ⟨g,xi*12+2,none⟩=some (E J x2):=rc 2 (by decide);have r3:X.cell? ⟨g,xi*12+3,none⟩=some (E J x3):=rc 3 (by decide);have r4:X.cell? ⟨g,xi*12+4,none⟩=some (E J y0):=rc 4 (by decide);have r5:X.cell? ⟨g,xi*12+5,none⟩=some (E J y1):=rc 5 (by decide);have r6:X.cell? ⟨g,xi*12+6,none⟩=some (E J y2):=rc 6 (by decide);have r7:X.cell? ⟨g,xi*12+7,none⟩=some (E J y3):=rc 7 (by decide);have r8:X.cell? ⟨g,xi*12+8,none⟩=some (F pa pn pc):=rc 8 (by decide);have r9:X.cell? ⟨g,xi*12+9,none⟩=some (E J z0):=rc 9 (by decide);have cn:X.cell? ⟨g,xi*12+10,none⟩=some (F ia im ic):=rc 10 (by decide);have cp:X.cell? ⟨g,xi*12+11,none⟩=some (F oa om oc):=rc 11 (by decide);have cg:(xi:Int)<(W.m.length:Int):=by omega
 have C1:=Zd (Rm Z s W x0 x1 x2 x3 y0 y1 y2 y3 pa pn pc y4 z0 ia oa im ic om oc z1 z2 X.drew ⟨_,_,_,_,_,_,_,hA.later (Zf z (Zi X))⟩ (hT.later (Zf z (Zi X))) sT (hI.later (Zf z (Zi X))) (hO.later (Zf z (Zi X))) sI sO hz);rw[hx] at C1;have NB:Hid (∀ q,Xt X.drew s q->Xt w s q):=λq hq=>(hA.nb q).1 (((hA.later (Zf z (Zi X))).nb q).2 hq);have ab:=Zd (Zf z (Zi X));obtain⟨-,-,c2,cl⟩:=kc3 bi;obtain⟨-,-,-,m3,ml⟩:=kc4 bg;have ce:g<X.heap.size:=by omega
 clear hA Q hb hC eK hT sT hI sI hO sO z bu bg bi rc hz hx hy;go_enter func241,ntmps241
 go_upto_region 1 with fail
 rw[<-hX];clear hX
 go_region_law (first
  | (refine Yo (by rfl) 275 #[dC (some ⟨s,0,none⟩),.agg #[E J x0,E J x1,E J x2,E J x3,E J y0,E J y1,E J y2,E J y3,F pa pn pc,E J z0,F ia im ic,F oa om oc]] (by kernel_rfl) C1 ?_;rintro e w4 ⟨rfl,h1,h2,h3⟩;refine⟨_,rfl,?_⟩;have br:Hid (He Z s W' w w4):=⟨h1,(Gr.of ab).trans (h2.mono (λq _ e=>e.imp id (NB q))),λq e=>(h3 q e).imp (NB q) (aT ab.size)⟩;clear h1 h2 h3))
 all_goals
  clear C1 NB ab;go_wp2;go_ret;exact⟨rfl,Za br⟩
theorem Kx{K N T}{P:List TxD}{tip:Int}(h:opE K N T P tip=0):P.length<=8/\∀ t∈P,Tr.TxSmall t:=by
 have z:=(Yg h).2.2.2;unfold poE at z;split at z
 ·rename_i q;have e:P=[]:=List.eq_nil_of_length_eq_zero q;subst e;exact⟨by simp,λt Q=>by cases Q⟩
 split at z
 ·cases z
 rename_i q1;split at z
 ·rename_i q;exact absurd z q
 rename_i q2;refine⟨(Ut (aK.1 q2)).2,λt Q=>?_⟩;have hk:P.all (knT K)=true:=by simpa using q1
 have:=List.all_eq_true.1 hk t Q;unfold knT at this;simp only[Bool.and_eq_true,decide_eq_true_eq] at this;exact Tr.tx_small this.1
theorem Ux{K}{y:U9}(h:opN K y=0):Js y:=⟨aT (Kx h).1 (by decide),(Kx h).2⟩
theorem Xg{i n:Nat}(h:i<n):Xu (i:Int) (n:Int)=true:=by
 unfold Xu;simp;omega
section
variable {W : WD} {xt xw xN th : Int} {ai ao : Option Addr} {ni ci no co : Nat}
theorem Gc{xi:Int}{i:Nat}{y:Int}{W':WD}(hc:Xp W.k W.n W.m=0)(hi:i<W.n.length)(ac:Tr.BlkSmall (nmR W.k W.n[i].1 W.n[i].2.1 W.n[i].2.2.1 W.n[i].2.2.2 xw xi [(1,xN),(7,0)]).2.1)(hx:W.mine i xw xi xN=(y,W')):Zdd (.agg #[E J 1,E J i,E J xt,E J xi,E J xw,E J xN,E J th,F ai ni ci,F ao no co]) W y W':=λZ V s hE hS=>by
 obtain⟨_,q2,_,_,_,q6,_⟩:=Ye hc;refine Lz Z s i xt xi xw xN th ai ao ni ci no co y W' V (λU p q z hb=>?_);exact Y8 Z s W 1 i xt xi xw xN th ai ao ni ci no co p q 235 #[dC (some ⟨s,0,none⟩)] #[] y W' true U hb.1 hb.2 (hS.later z) (Xg hi) (λ_=>⟨enters_of (fn:=Tryz.f235) (by kernel_rfl) (by kernel_rfl) rfl,λQ h2=>Zof Z s W 1 i xt xi xw xN th ai ao ni ci no co y W' Q (hE Q (Gr.of (Zf z h2))) (hS.later (Zf z h2)) hi q2 (Ux (q6 _ (aQ hi))) ac hx⟩) y (if_pos rfl)
theorem Zha{xn xi:Int}{W':WD}(h:Xu xi W.m.length=false):Zdd (.agg #[E J 3,E J xn,E J xt,E J xi,E J xw,E J xN,E J th,F ai ni ci,F ao no co]) W 5 W':=λZ V s hE Q=>by
 refine U1 Z s xn xt xi xw xN th ai ao ni ci no co 5 W' V (λU p q hU z=>?_);exact Wh Z s W 3 xn xt xi xw xN th ai ao ni ci no co p q 238 #[dC (some ⟨s,0,none⟩)] #[] 0 W' false U z.1 z.2 (Q.later hU) h (λe=>by cases e) 5 (if_neg (by decide))
theorem Gw{xn:Int}{k:Nat}{ti:Nat}{W':WD}(hc:Xp W.k W.n W.m=0)(hk:k<W.m.length)(hz:W.m[k].1=1/\W.m[k].2.2.1=ti)(ac:ti<W.n.length)(hx:(W.lost k).told ti W.m[k].2.1 W.m[k].2.2.2.2.1=W'):Zdd (.agg #[E J 3,E J xn,E J xt,E J k,E J xw,E J xN,E J th,F ai ni ci,F ao no co]) W 0 W':=λZ V s hE Q=>by
 obtain⟨_,q2,_,_,q5,q6,_⟩:=Ye hc;refine U1 Z s xn xt k xw xN th ai ao ni ci no co 0 W' V (λU p q z hb=>?_);refine Wh Z s W 3 xn xt k xw xN th ai ao ni ci no co p q 238 #[dC (some ⟨s,0,none⟩)] #[] 0 W' true U hb.1 hb.2 (Q.later z) (Xg hk) (λ_=>⟨enters_of (fn:=Tryz.f238) (by kernel_rfl) (by kernel_rfl) rfl,λV2 h2=>?_⟩) 0 (if_pos rfl);refine (Zil Z s W 3 xn xt k xw xN th ai ao ni ci no co V2 (λU2 g=>hE U2 ((Gr.of (Zf z h2)).trans g)) (Q.later (Zf z h2)) hk q5 ti hz ac (Ux (q6 _ (aQ ac))) W' hx).mono ?_;rintro e V3 ⟨rfl,h3,h4⟩;exact⟨rfl,λ_=>h3,h4⟩
theorem Kh{Z:Nat->Prop}{s:Nat}{W W':WD}{w w'}(z:Sc Z s W w)(h:He Z s W' w w'):Sc Z s W' w'/\Gr w w' (λq=>¬Z q):=
 ⟨h.1,h.2.1.mono (λq _ e=>by
  rcases e with e|e
  ·rw[e];exact z.nz
  ·exact (z.net_lt e).1)⟩
theorem Zhb{xn:Int}{k:Nat}(hc:Xp W.k W.n W.m=0)(hk:k<W.m.length):Zdd (.agg #[E J 4,E J xn,E J xt,E J k,E J xw,E J xN,E J th,F ai ni ci,F ao no co]) W 0 (W.lost k):=λZ V s hE z=>by
 obtain⟨_,q2,_,_,q5,q6,_⟩:=Ye hc;refine Lx Z s xn xt k xw xN th ai ao ni ci no co 0 (W.lost k) V (λU p q Q hb=>?_);refine Wh Z s W 4 xn xt k xw xN th ai ao ni ci no co p q 239 #[dC (some ⟨s,0,none⟩)] #[] 0 (W.lost k) true U hb.1 hb.2 (z.later Q) (Xg hk) (λ_=>⟨enters_of (fn:=Tryz.f239) (by kernel_rfl) (by kernel_rfl) rfl,λV2 h2=>?_⟩) 0 (if_pos rfl);refine (Hq Z s W 4 xn xt k xw xN th ai ao ni ci no co V2 (z.later (Zf Q h2)) hk q5).mono ?_;rintro e V3 ⟨rfl,h3⟩;have h4:=Kh (z.later (Zf Q h2)) h3;exact⟨rfl,λ_=>h4.1,h4.2⟩
theorem Co{xn:Int}{k:Nat}{y:Int}(hk:k<W.m.length)(hz:Vf W.m[k])(hy:(if W.m.length=20 then 12 else 0)=y):Zdd (.agg #[E J 5,E J xn,E J xt,E J k,E J xw,E J xN,E J th,F ai ni ci,F ao no co]) W y (W.sent W.m[k]):=λZ V s hE hS=>by
 refine Lw Z s xn xt k xw xN th ai ao ni ci no co y (W.sent W.m[k]) V (λU p q p' q' hU z ac=>?_);refine Wh Z s W 5 xn xt k xw xN th ai ao ni ci no co p' q' 274 #[] #[dC (some ⟨p,0,none⟩),dC (some ⟨q,0,none⟩)] y (W.sent W.m[k]) true U ac.1 ac.2 (hS.later hU) (Xg hk) (λ_=>⟨enters_of (fn:=Tryz.f274) (by kernel_rfl) (by kernel_rfl) rfl,λV2 h2=>?_⟩) y (if_pos rfl);have Q:=hS.later (Zf hU h2);refine Qz Z s W 5 xn xt k xw xN th ai ao ni ci no co p q 241 #[dC (some ⟨s,0,none⟩)] #[] 0 (W.sent W.m[k]) V2 ((h2.block _ (aA z.1)).trans z.1) ((h2.block _ (aA z.2)).trans z.2) Q (λ_=>⟨enters_of (fn:=Tryz.f241) (by kernel_rfl) (by kernel_rfl) rfl,λV3 h3=>?_⟩) y hy;refine (Zhr Z s W 5 xn xt k xw xN th ai ao ni ci no co V3 (Q.later h3) hk hz _ rfl).mono ?_;rintro e V4 ⟨rfl,h4⟩;have h5:=Kh (Q.later h3) h4;exact⟨rfl,λ_=>h5.1,h5.2⟩
end
theorem Cp{K}{N:List Int}{T P}{tip:Int}{b:Zl}{nm:Int}{D:Dsk}(h:ntR K N T P tip b=(0,nm,D)) :
  opE K N T P tip=0/\opE D.k D.n D.t D.p D.tip=0/\Tr.blockE D.n D.t nm=(b,0)/\(∃ v u,Tr.workE N T tip=(v,0)/\Tr.workE D.n D.t D.tip=(u,0)/\v<=u)/\kbD D.k nm b=true/\nm≠0/\D.n.length=N.length+1/\D.n.take N.length=N:=by
 unfold ntR at h;split at h
 ·rename_i q;exact absurd (congrArg bI h) q
 rename_i z;have z:=aK.1 z;split at h
 ·rename_i q;exact absurd (congrArg bI h) q
 rename_i Q;have Q:=aK.1 Q;simp only[aN,true_and] at h;have e:tkR ⟨K,N,T,P,tip,(Z0 K N T noB).2⟩ b=(0,nm,D):=Prod.ext Q (Prod.ext h.1 h.2);obtain⟨t1,_,t3,t4,t5,_,t7⟩:=Rk z e;obtain⟨_,o2,_,_⟩:=Yg z;obtain⟨_,p2,_,_⟩:=Yg t1;obtain⟨m,n,v,u,own,up,aw,g1,g2,g3,g4,_,_,_,_,g9,_,_,_,_,_,_,_,_,ah,aj⟩:=Tr.grow_facts t7;rw[o2] at g1;rw[p2] at g2;simp only[aN,and_true] at g1 g2;subst g1 g2;have hc:=(Yb p2).1;have ok:=Tr.TrOk.of hc;have okN:=Tr.TrOk.of (Yb o2).1;have hm:nm∈D.n:=by rw[t3];simp
 have av:=(ok.nm nm hm).1;have ad:=ok.nd
 have an:nm∉N:=by
  rw[t3] at ad;intro q;exact (List.nodup_append.1 ad).2.2 nm q nm (by simp) rfl
 refine⟨z,t1,?_,⟨v,u,g3,g4,g9⟩,t5,by omega,aj,ah⟩;unfold Tr.blockE;rw[if_neg (λq=>q hc),if_pos (by simpa using hm),t3,t4,Tr.fnd_app_r okN.len an];simp[Tr.fnd]
section
variable {Z : Nat -> Prop} {w : World} {d bm m : Nat} {ka na ba pa : Option Addr} {kn kc nn nc bn bc pn pc : Nat} {K : List ByteArray} {N : List Int} {T : List Zl} {P : List TxD} {tip : Int} {f : Int -> Value} {β : Int -> List Zj}
theorem Zhu(h:DeskAt Z w d bm m ka kn kc K na nn nc N ba bn bc T pa pn pc P tip f β)(hE:Env w)(ht:(Lit.int .i64 tip).wf=true)(h1:0<=Yh N T tip)(h2:Yh N T tip<=1000)(th:Int)(ai ao ni ci no co I O)(hI:InsAt w ai ni I)(hO:OutsAt w ao no O)(sI:SlOk ai ni ci)(sO:SlOk ao no co)(K1 P1)(x:Int)(hx:acE K (β tip) P (th,I,O) (Yh N T tip+1)=(x,K1,P1)) :
  Calls Tryz.prog 111 #[.pointer (some ⟨d,0,none⟩),.agg #[.int .i64 th,F ai ni ci,F ao no co]] w λe w'=>e = dA (.int .i64 x)/\Zpq Z w w' d bm m K1 na nn nc N ba bn bc T P1 tip f β:=by
 obtain⟨dq,hz⟩:=ZF (Yh N T tip);rw[hz] at hx h1 h2;have dk:IntKind.i64.wrap (dq+1)=dq+1:=by rw[IntKind.wrap_i64];omega
 obtain⟨ca,cn,dr,az,_,sC⟩:=h.c tip;obtain⟨X,hX,ay,au⟩:=ka00 w [.int .i64 th,F ai ni ci,F ao no co] 59;have CC:=Zd (λV (hv:ZD w V)=>Qs (h.later hv) ht);rw[az] at CC;have CH:=Zd (λV (hv:ZD w V)=>Jk (h.later hv) dq hz);have CS:=Zd (λV (hv:ZD w V)=>Zas ka kn kc K ca cn dr (β tip) pa pn pc P th ai ao ni ci no co I O (dq+1) x K1 P1 V (hE.later hv) (h.later hv).now.k (by obtain⟨a2,n2,c2,q1,q2,_⟩:=(h.later hv).c tip;rw[az] at q1;injection q1 with e1 e2 e3;subst e1 e2 e3;exact q2) sC (h.later hv).now.p (hI.later hv) (hO.later hv) sI sO hx);obtain⟨c0,-,-,c3,dl⟩:=kc4 h.box;have KS:Hid (∀ U:World,Gr X U (λq=>q=d)->(d<U.heap.size/\U.cell? ⟨w.heap.size,0,none⟩=some (.int .i64 th)/\U.cell? ⟨w.heap.size,1,none⟩=some (F ai ni ci)/\U.cell? ⟨w.heap.size,2,none⟩=some (F ao no co)/\w.heap.size<U.heap.size)):=λU hu=>⟨aD dl (aT ay.size hu.size),hu.cell (Zb au 0 _ rfl) (by simp;omega),hu.cell (Zb au 1 _ rfl) (by simp;omega),hu.cell (Zb au 2 _ rfl) (by simp;omega),aD (aA au) hu.size⟩;have KC:Hid (∀ U:World,ZD w U->(U.cell? ⟨d,0,none⟩=some (F ka kn kc)/\U.cell? ⟨d,3,none⟩=some (F pa pn pc)/\d<U.heap.size)):=λU hu=>⟨Ze hu c0,Ze hu c3,aD dl hu.size⟩;obtain⟨H,cf⟩:=kh2 h ay;clear h hE ht h1 h2 hI hO sI sO hx hz az sC ay au c0 c3 dl;go_enter func111,ntmps111
 go_upto_region 1 with fail
 rw[<-hX];clear hX
 go_cut [4] from 5 to 31 (λs4 wx=>s4 = .int .i64 x/\Hid (Zpq Z w wx d bm m K1 na nn nc N ba bn bc T P1 tip f β))
 case first=>
  refine wp_region_held_drew (S:=λU=>(d<U.heap.size/\U.cell? ⟨w.heap.size,0,none⟩=some (.int .i64 th)/\U.cell? ⟨w.heap.size,1,none⟩=some (F ai ni ci)/\U.cell? ⟨w.heap.size,2,none⟩=some (F ao no co)/\w.heap.size<U.heap.size)) (by kernel_rfl) (KS _ (Gr.of (Zi X))) (λz=>?_);refine tkL 0 rfl z ?_;refine tkL 1 rfl z ?_;refine tkL 2 rfl z ?_;refine tkL 3 rfl z ?_;refine tkL 4 rfl z ?_;refine tkL 6 rfl z ?_;refine tkL 8 rfl z ?_;refine tkL 9 rfl z ?_;refine tkL 10 rfl z ?_;refine tkL 11 rfl z ?_;refine tkL 13 rfl z ?_;refine tkL 14 rfl z ?_;have Q:=Zi X;have hb:=Zf cf Q;refine cI (rs:=[5,7,12]) (by kernel_rfl) (by simp) ?_;refine rdC rfl (λKQ hK=>?_) (rdC rfl (λKQ hK=>?_) (rdC rfl (λKQ hK=>?_) AllReadyH.nil));obtain⟨l0,l3,ll⟩:=KC X.drew hb;go_simp;clear l0 l3 ll;clear z;refine hK.out _ _ (KS _ (Gr.of Q)) (λz=>?_);clear hK KQ;(try simp only[aM,ZA,ZB,ZC]);refine cI (rs:=[7,12]) (by kernel_rfl) (by simp) ?_;refine rdC rfl (λKQ hK=>?_) (rdC rfl (λKQ hK=>?_) AllReadyH.nil);refine Zo (by kernel_rfl) 108 #[.pointer (some ⟨d,0,none⟩)] (by kernel_rfl) (CC X.drew hb) ?_;rintro e v1 ⟨rfl,ac⟩;refine⟨_,rfl,?_⟩;have hb:=Zf hb ac;have Q:=Zf Q ac;clear z;refine hK.out _ _ (KS _ (Gr.of Q)) (λz=>?_);clear hK KQ;(try simp only[aM,ZA,ZB,ZC]);refine cI (rs:=[12,15]) (by kernel_rfl) (by simp) ?_;refine rdC rfl (λKQ hK=>?_) (rdC rfl (λKQ hK=>?_) AllReadyH.nil);obtain⟨l0,l3,ll⟩:=KC v1 hb;go_simp;clear l0 l3 ll;clear z
  refine hK.out _ _ (KS _ (Gr.of Q)) (λz=>?_);clear hK KQ;(try simp only[aM,ZA,ZB,ZC]);refine rdS 15 rfl (CH v1 hb) ?_;rintro e v2 ⟨rfl,ac⟩;have hb:=Zf hb ac;have Q:=Zf Q ac;clear z;refine⟨_,rfl,(KS _ (Gr.of Q)),λz=>?_⟩;refine tkL 16 (v:=.int .i64 (dq+1)) rfl z ?_;obtain⟨vz,ah⟩:∃ dq,dq=v2:=⟨_,rfl⟩;subst ah;rotate_left;refine Zo (by kernel_rfl) 165 #[.pointer (some ⟨d,0,none⟩)] (by kernel_rfl) (CH v1 hb) ?_;rintro e v3 ⟨rfl,ac⟩;refine⟨_,rfl,?_⟩;have hb:=Zf hb ac;have Q:=Zf Q ac;clear z;refine hK.out _ _ (KS _ (Gr.of Q)) (λz=>?_);clear hK KQ;refine tkL 16 (v:=.int .i64 (dq+1)) rfl z ?_;refine rdY 12 rfl (λKQ hK=>?_);obtain⟨l0,l3,ll⟩:=KC v3 hb;go_simp;clear l0 l3 ll;clear z;refine hK.out _ _ (KS _ (Gr.of Q)) (λz=>?_);clear hK KQ;(try simp only[aM,ZA,ZB,ZC]);obtain⟨vz,ah⟩:∃ dq,dq=v3:=⟨_,rfl⟩;subst ah;rotate_left;obtain⟨l0,l3,ll⟩:=KC X.drew hb;go_simp;clear l0 l3 ll;clear z;refine hK.out _ _ (KS _ (Gr.of Q)) (λz=>?_);clear hK KQ;(try simp only[aM,ZA,ZB,ZC]);refine rdS 7 rfl (CC X.drew hb) ?_;rintro e v4 ⟨rfl,ac⟩;have hb:=Zf hb ac;have Q:=Zf Q ac;clear z;refine⟨_,rfl,(KS _ (Gr.of Q)),λz=>?_⟩;(try simp only[aM,ZA,ZB,ZC]);refine rdS 15 rfl (CH v4 hb) ?_;rintro e v5 ⟨rfl,ac⟩;have hb:=Zf hb ac;have Q:=Zf Q ac;clear z;refine⟨_,rfl,(KS _ (Gr.of Q)),λz=>?_⟩;refine tkL 16 (v:=.int .i64 (dq+1)) rfl z ?_;obtain⟨vz,ah⟩:∃ dq,dq=v5:=⟨_,rfl⟩;subst ah;rotate_left
  refine Zo (by kernel_rfl) 108 #[.pointer (some ⟨d,0,none⟩)] (by kernel_rfl) (CC X.drew hb) ?_;rintro e v6 ⟨rfl,ac⟩;refine⟨_,rfl,?_⟩;have hb:=Zf hb ac;have Q:=Zf Q ac;clear z;refine hK.out _ _ (KS _ (Gr.of Q)) (λz=>?_);clear hK KQ;(try simp only[aM,ZA,ZB,ZC]);refine cI (rs:=[5,12,15]) (by kernel_rfl) (by simp) ?_;refine rdC rfl (λKQ hK=>?_) (rdC rfl (λKQ hK=>?_) (rdC rfl (λKQ hK=>?_) AllReadyH.nil));obtain⟨l0,l3,ll⟩:=KC v6 hb;go_simp;clear l0 l3 ll;clear z;refine hK.out _ _ (KS _ (Gr.of Q)) (λz=>?_);clear hK KQ;(try simp only[aM,ZA,ZB,ZC]);refine cI (rs:=[12,15]) (by kernel_rfl) (by simp) ?_;refine rdC rfl (λKQ hK=>?_) (rdC rfl (λKQ hK=>?_) AllReadyH.nil);obtain⟨l0,l3,ll⟩:=KC v6 hb;go_simp;clear l0 l3 ll;clear z;refine hK.out _ _ (KS _ (Gr.of Q)) (λz=>?_);clear hK KQ;(try simp only[aM,ZA,ZB,ZC]);refine rdS 15 rfl (CH v6 hb) ?_;rintro e v7 ⟨rfl,ac⟩;have hb:=Zf hb ac;have Q:=Zf Q ac;clear z;refine⟨_,rfl,(KS _ (Gr.of Q)),λz=>?_⟩;refine tkL 16 (v:=.int .i64 (dq+1)) rfl z ?_;obtain⟨vz,ah⟩:∃ dq,dq=v7:=⟨_,rfl⟩;subst ah;rotate_left;refine Zo (by kernel_rfl) 165 #[.pointer (some ⟨d,0,none⟩)] (by kernel_rfl) (CH v6 hb) ?_;rintro e v8 ⟨rfl,ac⟩;refine⟨_,rfl,?_⟩;have hb:=Zf hb ac;have Q:=Zf Q ac;clear z;refine hK.out _ _ (KS _ (Gr.of Q)) (λz=>?_);clear hK KQ;refine tkL 16 (v:=.int .i64 (dq+1)) rfl z ?_;refine rdY 12 rfl (λKQ hK=>?_);obtain⟨l0,l3,ll⟩:=KC v8 hb;go_simp;clear l0 l3 ll;clear z
  refine hK.out _ _ (KS _ (Gr.of Q)) (λz=>?_);clear hK KQ;(try simp only[aM,ZA,ZB,ZC]);obtain⟨vz,ah⟩:∃ dq,dq=v8:=⟨_,rfl⟩;subst ah;rotate_left;obtain⟨l0,l3,ll⟩:=KC v6 hb;go_simp;clear l0 l3 ll;clear z;refine hK.out _ _ (KS _ (Gr.of Q)) (λz=>?_);clear hK KQ;(try simp only[aM,ZA,ZB,ZC]);refine cI (rs:=[5,15]) (by kernel_rfl) (by simp) ?_;refine rdC rfl (λKQ hK=>?_) (rdC rfl (λKQ hK=>?_) AllReadyH.nil);obtain⟨l0,l3,ll⟩:=KC v6 hb;go_simp;clear l0 l3 ll;clear z;refine hK.out _ _ (KS _ (Gr.of Q)) (λz=>?_);clear hK KQ;(try simp only[aM,ZA,ZB,ZC]);refine rdS 15 rfl (CH v6 hb) ?_;rintro e v9 ⟨rfl,ac⟩;have hb:=Zf hb ac;have Q:=Zf Q ac;clear z;refine⟨_,rfl,(KS _ (Gr.of Q)),λz=>?_⟩;refine tkL 16 (v:=.int .i64 (dq+1)) rfl z ?_;obtain⟨vz,ah⟩:∃ dq,dq=v9:=⟨_,rfl⟩;subst ah;rotate_left;refine Zo (by kernel_rfl) 165 #[.pointer (some ⟨d,0,none⟩)] (by kernel_rfl) (CH v6 hb) ?_;rintro e cb ⟨rfl,ac⟩;refine⟨_,rfl,?_⟩;have hb:=Zf hb ac;have Q:=Zf Q ac;clear z;refine hK.out _ _ (KS _ (Gr.of Q)) (λz=>?_);clear hK KQ;refine tkL 16 (v:=.int .i64 (dq+1)) rfl z ?_;refine rdY 5 rfl (λKQ hK=>?_);obtain⟨l0,l3,ll⟩:=KC cb hb;go_simp;clear l0 l3 ll;clear z;refine hK.out _ _ (KS _ (Gr.of Q)) (λz=>?_);clear hK KQ;(try simp only[aM,ZA,ZB,ZC]);obtain⟨vz,ah⟩:∃ dq,dq=cb:=⟨_,rfl⟩;subst ah;rotate_left;refine Zo (by kernel_rfl) 165 #[.pointer (some ⟨d,0,none⟩)] (by kernel_rfl) (CH v6 hb) ?_;rintro e ar ⟨rfl,ac⟩;refine⟨_,rfl,?_⟩;have hb:=Zf hb ac;have Q:=Zf Q ac
  clear z;refine hK.out _ _ (KS _ (Gr.of Q)) (λz=>?_);clear hK KQ;refine tkL 16 (v:=.int .i64 (dq+1)) rfl z ?_;refine cI (rs:=[5,12]) (by kernel_rfl) (by simp) ?_;refine rdC rfl (λKQ hK=>?_) (rdC rfl (λKQ hK=>?_) AllReadyH.nil);obtain⟨l0,l3,ll⟩:=KC ar hb;go_simp;clear l0 l3 ll;clear z;refine hK.out _ _ (KS _ (Gr.of Q)) (λz=>?_);clear hK KQ;(try simp only[aM,ZA,ZB,ZC]);refine rdY 12 rfl (λKQ hK=>?_);obtain⟨l0,l3,ll⟩:=KC ar hb;go_simp;clear l0 l3 ll;clear z;refine hK.out _ _ (KS _ (Gr.of Q)) (λz=>?_);clear hK KQ;(try simp only[aM,ZA,ZB,ZC]);obtain⟨vz,ah⟩:∃ dq,dq=ar:=⟨_,rfl⟩;subst ah;rotate_left;obtain⟨l0,l3,ll⟩:=KC ar hb;go_simp;clear l0 l3 ll;clear z;refine hK.out _ _ (KS _ (Gr.of Q)) (λz=>?_);clear hK KQ;(try simp only[aM,ZA,ZB,ZC]);refine rdY 5 rfl (λKQ hK=>?_);obtain⟨l0,l3,ll⟩:=KC ar hb;go_simp;clear l0 l3 ll;clear z;refine hK.out _ _ (KS _ (Gr.of Q)) (λz=>?_);clear hK KQ;(try simp only[aM,ZA,ZB,ZC]);obtain⟨vz,ah⟩:∃ dq,dq=ar:=⟨_,rfl⟩;subst ah;rotate_left;obtain⟨l0,l3,ll⟩:=KC X.drew hb;go_simp;clear l0 l3 ll;clear z;refine hK.out _ _ (KS _ (Gr.of Q)) (λz=>?_);clear hK KQ;(try simp only[aM,ZA,ZB,ZC]);refine cI (rs:=[5,7]) (by kernel_rfl) (by simp) ?_;refine rdC rfl (λKQ hK=>?_) (rdC rfl (λKQ hK=>?_) AllReadyH.nil);obtain⟨l0,l3,ll⟩:=KC X.drew hb;go_simp;clear l0 l3 ll;clear z;refine hK.out _ _ (KS _ (Gr.of Q)) (λz=>?_);clear hK KQ;(try simp only[aM,ZA,ZB,ZC])
  refine rdS 7 rfl (CC X.drew hb) ?_;rintro e da ⟨rfl,ac⟩;have hb:=Zf hb ac;have Q:=Zf Q ac;clear z;refine⟨_,rfl,(KS _ (Gr.of Q)),λz=>?_⟩;(try simp only[aM,ZA,ZB,ZC]);refine rdS 15 rfl (CH da hb) ?_;rintro e db ⟨rfl,ac⟩;have hb:=Zf hb ac;have Q:=Zf Q ac;clear z;refine⟨_,rfl,(KS _ (Gr.of Q)),λz=>?_⟩;refine tkL 16 (v:=.int .i64 (dq+1)) rfl z ?_;obtain⟨vz,ah⟩:∃ dq,dq=db:=⟨_,rfl⟩;subst ah;rotate_left;refine Zo (by kernel_rfl) 108 #[.pointer (some ⟨d,0,none⟩)] (by kernel_rfl) (CC X.drew hb) ?_;rintro e bd ⟨rfl,ac⟩;refine⟨_,rfl,?_⟩;have hb:=Zf hb ac;have Q:=Zf Q ac;clear z;refine hK.out _ _ (KS _ (Gr.of Q)) (λz=>?_);clear hK KQ;(try simp only[aM,ZA,ZB,ZC]);refine cI (rs:=[5,15]) (by kernel_rfl) (by simp) ?_;refine rdC rfl (λKQ hK=>?_) (rdC rfl (λKQ hK=>?_) AllReadyH.nil);obtain⟨l0,l3,ll⟩:=KC bd hb;go_simp;clear l0 l3 ll;clear z;refine hK.out _ _ (KS _ (Gr.of Q)) (λz=>?_);clear hK KQ;(try simp only[aM,ZA,ZB,ZC]);refine rdS 15 rfl (CH bd hb) ?_;rintro e dc ⟨rfl,ac⟩;have hb:=Zf hb ac;have Q:=Zf Q ac;clear z;refine⟨_,rfl,(KS _ (Gr.of Q)),λz=>?_⟩;refine tkL 16 (v:=.int .i64 (dq+1)) rfl z ?_;obtain⟨vz,ah⟩:∃ dq,dq=dc:=⟨_,rfl⟩;subst ah;rotate_left;refine Zo (by kernel_rfl) 165 #[.pointer (some ⟨d,0,none⟩)] (by kernel_rfl) (CH bd hb) ?_;rintro e cc ⟨rfl,ac⟩;refine⟨_,rfl,?_⟩;have hb:=Zf hb ac;have Q:=Zf Q ac;clear z;refine hK.out _ _ (KS _ (Gr.of Q)) (λz=>?_);clear hK KQ;refine tkL 16 (v:=.int .i64 (dq+1)) rfl z ?_
  refine rdY 5 rfl (λKQ hK=>?_);obtain⟨l0,l3,ll⟩:=KC cc hb;go_simp;clear l0 l3 ll;clear z;refine hK.out _ _ (KS _ (Gr.of Q)) (λz=>?_);clear hK KQ;(try simp only[aM,ZA,ZB,ZC]);obtain⟨vz,ah⟩:∃ dq,dq=cc:=⟨_,rfl⟩;subst ah;rotate_left
  all_goals
   refine rdS 17 rfl (CS vz hb) ?_;rintro e vy ⟨k5,bs,br,sa,sn,sc,rfl,ct,cy,cz,ac⟩;have cu:=Zf hb ac;have bk:=Zf Q ac;have bg:Gr X vy (λq=>q=d):=Gr.of bk;clear z;refine⟨_,rfl,(KS _ (Gr.of bk)),λz=>?_⟩;refine tkL 18 rfl z ?_;refine tkL 19 rfl z ?_;refine tkL 20 rfl z ?_;refine tkL 21 rfl z ?_;refine tkL 22 rfl z ?_;refine tkL 23 rfl z ?_;have Q:=ZE cu H.box;obtain⟨y0,-,-,y3,g0,-,-,g3,yl⟩:=kf4 Q;refine rdY 24 rfl (λKQ hK=>?_);go_simp;clear z;refine hK.out _ _ (KS _ (bg.one d 0 (.inl rfl) _)) (λz=>?_);clear hK KQ;(try simp only[aM]);refine tkL 25 rfl z ?_;refine tkL 26 rfl z ?_;refine tkL 27 rfl z ?_;refine rdY 28 rfl (λKQ hK=>?_);go_simp;clear z;refine hK.out _ _ (KS _ ((bg.one d 0 (.inl rfl) _).one d 3 (.inl rfl) _)) (λz=>?_);clear hK KQ;(try simp only[aM]);refine tkL 29 rfl z ?_;refine wpAnyH_done (by kernel_rfl) ?_ _;clear z;go_wp2_with fail;go_meet
   case rel=>
    exact⟨rfl,k5,bs,br,sa,sn,sc,H.swept hb ac ct cy cz (((Gr.refl vy (λq=>q=d)).one d 0 (.inl rfl) (F k5 bs br)).one d 3 (.inl rfl) (F sa sn sc)) (Tr.set_cells (Tr.set_cells Q 0 _) 3 _)⟩
 case rest=>
  obtain⟨rfl,HD⟩:=hcut;clear KS KC CC CH CS H;go_wp2;go_ret;exact⟨rfl,Za HD⟩
end
theorem Zkh(w:World)(b1:Nat)(th:Int)(ai ao ni ci no co I O K N T P)(tip:Int)(β : Int->List Zj)(x:Int)(z Q)(hE:Env w)(hI:InsAt w ai ni I)(hO:OutsAt w ao no O)(sI:SlOk ai ni ci)(sO:SlOk ao no co)(ht:(Lit.int .i64 tip).wf=true)(h1:0<=Yh N T tip)(h2:Yh N T tip<=1000)
  (ad:w.heap[b1]? = some (cZ [.int .i64 th,F ai ni ci,F ao no co].toArray 59 (0,0))) (hx:acE K (β tip) P (th,I,O) (Yh N T tip+1)=(x,z,Q)) :
  DoC 110 #[.pointer (some ⟨b1,0,none⟩)] w (λ_=>False) ⟨K,N,T,P,tip,β⟩ x ⟨z,N,T,Q,tip,β⟩ (λ_ _=>True) where
 enters:=enters_of (fn:=Tryz.f110) (by kernel_rfl) (by kernel_rfl) rfl
 old q e:=e.elim
 on B V V':=λh _=>h
 call B V d bm m hB hV hD hd hbm hm:=by
  obtain⟨k1,av,au,n1,bb,az,t1,bo,bk,p1,bf,be,f,hq⟩:=hD;have C1:=Zd (Zhu hq (hE.later hV) ht h1 h2 th ai ao ni ci no co I O (hI.later hV) (hO.later hV) sI sO z Q x hx);have ae:=ZE hV ad;obtain⟨q0,q1,q2,ql⟩:=kc3 ae;clear hq hE hI hO sI sO hx ad ae ht h1 h2;show Calls Tryz.prog 110 #[.pointer (some ⟨d,0,none⟩),.pointer (some ⟨b1,0,none⟩)] V _;go_enter func110,ntmps110;go_wp2_with fail;refine C1.mono ?_;rintro e w1 ⟨rfl,k2,ay,ax,p2,bi,bh,aa,g2⟩;have HK:Hid (KeptOn (λq=>q<B) w1 d bm ⟨z,N,T,Q,tip,β⟩):=DeskOn.kept (m:=m) ⟨_,_,_,_,_,_,_,_,_,_,_,_,_,aa⟩;have HG:Hid (Gr V w1 (λq=>q=d\/q=bm\/False)):=g2.mono (λq _ e=>.inl e);clear aa g2 C1 q0 q1 q2 ql;go_wp2;go_ret;exact⟨rfl,Za HG,λ_=>Za HK,trivial⟩
def noR(K:List ByteArray)(N:List Int)(T:List Zl)(P:List TxD)(tip:Int)(t:TxD):Int×Dsk:=
 if opE K N T P tip≠0 then (opE K N T P tip,Dsk.none) else
 if (acE K ((Z0 K N T noB).2 tip) P t (Yh N T tip+1)).1≠0 then ((acE K ((Z0 K N T noB).2 tip) P t (Yh N T tip+1)).1,Dsk.none) else
 (0,⟨(acE K ((Z0 K N T noB).2 tip) P t (Yh N T tip+1)).2.1,N,T,(acE K ((Z0 K N T noB).2 tip) P t (Yh N T tip+1)).2.2,tip,(Z0 K N T noB).2⟩)
theorem Zgm(ka kn kc K na ba pa nn nc bn bc pn pc N T P)(tip:Int)(w:World)(hE:Env w)(hK:Bk.TextsAt w ka kn K)(hN:Tr.IntsAt w na nn N)(hT:Tr.BlksAt w ba bn T)(hP:TxsAt w pa pn P)(sN:SlOk na nn nc)(sT:SlOk ba bn bc)(sP:SlOk pa pn pc)(hp:pn<=2513169434916)(hq:∀ t∈P,Tr.TxSmall t)
  (th:Int) (ai ao ni ci no co I O) (hI:InsAt w ai ni I) (hO:OutsAt w ao no O) (sI:SlOk ai ni ci) (sO:SlOk ao no co) (x:Int) (D:Dsk) (hx:noR K N T P tip (th,I,O)=(x,D)) :
  Calls Tryz.prog 42 #[.agg #[F ka kn kc],.agg #[F na nn nc,F ba bn bc,F pa pn pc,E J tip],.agg #[E J th,F ai ni ci,F ao no co]] w λe w'=>Ph w w' x D e/\ZD w w':=by
 obtain⟨X,hX⟩:=ZG (Yw w [cZ #[F ka kn kc] 24,cZ #[F na nn nc,F ba bn bc,F pa pn pc,E J tip] 67,cZ #[E J th,F ai ni ci,F ao no co] 59,cZ #[F none 0 0] 24,cZ #[F none 0 0,F none 0 0,F none 0 0,E J 0] 67]);have bo:X=((((w.alloc (cZ #[F ka kn kc] 24)).alloc (cZ #[F na nn nc,F ba bn bc,F pa pn pc,E J tip] 67)).alloc (cZ #[E J th,F ai ni ci,F ao no co] 59)).alloc (cZ #[F none 0 0] 24)).alloc (cZ #[F none 0 0,F none 0 0,F none 0 0,E J 0] 67):=hX;have z:ZD w X:=by rw[hX];exact Zs _ _
 have bq:X.heap.size=w.heap.size+5:=by rw[hX];exact Z3 _ _
 have ay:=kl0 hX _ _ rfl;have az:=kl hX 1 _ _ rfl;have ca:=kl hX 2 _ _ rfl;have cb:=kl hX 3 _ _ rfl;have cc:=kl hX 4 _ _ rfl;obtain⟨x0,ag⟩:=ZF (opE K N T P tip);obtain⟨⟨x1,K1,P1⟩,al⟩:=ZF (acE K ((Z0 K N T noB).2 tip) P (th,I,O) (Yh N T tip+1));unfold noR at hx;simp only[ag,al] at hx
 have C1:=Zd (Tv ka kn kc K na ba pa nn nc bn bc pn pc N T P tip x0 X (hE.later z) (hK.later z) (hN.later z) (hT.later z) (hP.later z) sN sT sP hp hq ag 110 #[dC (some ⟨w.heap.size+2,0,none⟩)] (λ_=>False) x1 ⟨K1,N,T,P1,tip,(Z0 K N T noB).2⟩ (λ_ _=>True) (λe=>by
  have bw:=Rw (Yg (ag.trans e)).2.1;exact Zkh X (w.heap.size+2) th ai ao ni ci no co I O K N T P tip _ x1 K1 P1 (hE.later z) (hI.later z) (hO.later z) sI sO bw.1 bw.2.1 bw.2.2 ca al))
 obtain⟨HX,bb,bg,be,bf⟩:=kh5 hx z bq cb cc;have t0:=Zb ay 0 _ rfl;obtain⟨t1,t2,t3,t4,-⟩:=kc4 az;have tl:=aA ay;have cp:=aA az;clear hE hK hN hT hP sN sT sP hp hq hx hI hO sI sO ag al z bq ay az ca cb cc hX;go_enter func42,ntmps42;go_wp2_with fail;rw[<-bo];clear bo;(try go_wp2_with fail);refine C1.mono ?_;intro e w1 hr
 obtain⟨⟨k5,ap,an,n5,au,ar,b5,ak,aj,p5,ax,aw,rfl,hF,s1,s2,s3,s4⟩,ae⟩:Ph X w1 x D e/\ZD X w1:=by
  have Q:=Za HX
  rcases hr with ⟨h0,hc,hb⟩|⟨h0,g,-,hr⟩
  ·rw[if_pos h0] at Q;simp only[aN] at Q;obtain⟨rfl,rfl⟩:=Q;exact⟨hc,hb⟩
  ·rw[if_neg (λq=>q h0)] at Q;have hb:ZD X w1:=g.below (Below.refl _ _) (Nat.le_refl _) (λ_ q=>q.elim)
   rcases hr with ⟨h1,hc⟩|⟨h1,hc⟩
   ·rw[if_pos h1] at Q;simp only[aN] at Q;obtain⟨rfl,rfl⟩:=Q;exact⟨hc,hb⟩
   ·rw[if_neg (λq=>q h1)] at Q;simp only[aN] at Q;obtain⟨rfl,rfl⟩:=Q;exact⟨hc,hb⟩
 have h3:=ZE ae be;have h4:=ZE ae bf;obtain⟨o0,of,ol⟩:=kf1 h3;obtain⟨p0,p1,p2,p3,db,dc,dd,de,pl⟩:=kf4 h4
 have cd:Hid (∀ W,Gr w1 W (λq=>q=w.heap.size+3\/q=w.heap.size+4)->Ph w W x D (dA (dB #[.agg #[F k5 ap an],.agg #[F n5 au ar,F b5 ak aj,F p5 ax aw,E J D.tip],E J x]))/\ZD w W):=λW g=>by
  have ct:=Za bg;refine⟨⟨k5,ap,an,n5,au,ar,b5,ak,aj,p5,ax,aw,rfl,λW2 g2=>hF W2 ((g.mono (λq _ e=>?_)).trans (g2.mono (λq _ e=>?_))),s1,s2,s3,s4⟩,?_⟩
  ·show q<X.heap.size;omega
  ·have e:q<w.heap.size:=e;show q<X.heap.size;omega
  ·have b1:=Zf bb ae;exact g.below b1 b1.size (λq e=>by omega)
 clear hr hF s1 s2 s3 s4 ae h3 h4 HX be bf C1 t0 t1 t2 t3 t4 tl cp bg bb;go_wp2;(try simp only[Exit.inBlock,Exit.then]);refine bodyPost_ret (v:=dB #[.agg #[F k5 ap an],.agg #[F n5 au ar,F b5 ak aj,F p5 ax aw,E J D.tip],E J x]) ?_ rfl ?_
 ·rw[Wa rfl];go_simp
 ·exact cd _ (((Gr.refl w1 (λq=>q=w.heap.size+3\/q=w.heap.size+4)).one (w.heap.size+3) 0 (.inl (.inl rfl)) _).four (w.heap.size+4) (.inl (.inr rfl)) _ _ _ _)
theorem Zju{K C C'}{ah:List TxD}{h:Int}(hK:Bk.Right K)(hC:Ys C)(h1:1<=h)(h2:h<=1000)(hl:ah.length<=8)(e:Zv h ah (K,C)=(ah,K,C')){N T}{t:Int}{β : Int->List Zj}(hB : β t=C)(hh:Yh N T t+1=h):poE K N T ah t β = 0:=by
 have ck:=Dk (Ka hK ah C C' e);have ac:=(Jx ah K C hK hC (h:=h)).2.2;rw[e] at ac;unfold poE;split
 ·rfl
 have ae:ah.all (knT K)=true:=List.all_eq_true.2 (λx hx=>by
  have c1:=(ac x hx).1;have Q:=ck x hx;have c3:=Bk.nm_place Q.2;rw[Q.1] at c3;unfold knT;rw[Us c1];have:=c3.2.1;simp[c1];omega)
 have af:swE K C ah h=0:=by
  unfold swE;rw[Sm hK hC h1 h2];simp;omega
 rw[if_neg (by rw[ae];decide),hB,hh,e,if_neg (by rw[af];decide)];simp
theorem Zmq{K C P t}{h:Int}{z Q}(e:acE K C P t h=(0,z,Q)):swE K C P h=0/\(∃ C2,doD h (Zv h P (K,C)).2 t=(0,z,C2))/\(Zv h P (K,C)).1.length≠8/\Q=(Zv h P (K,C)).1++[t]:=by
 unfold acE at e;split at e
 ·rename_i q;exact absurd (congrArg bI e) q
 rename_i q1;split at e
 ·exact absurd (congrArg bI e) (by simp)
 split at e
 ·rename_i q;exact absurd (congrArg bI e) q
 rename_i q3;split at e
 ·exact absurd (congrArg bI e) (by simp)
 rename_i q4;simp only[aN,true_and] at e;exact⟨aK.1 q1,⟨_,Prod.ext (aK.1 q3) (Prod.ext e.1 rfl)⟩,q4,e.2.symm⟩
theorem Zau{K N T P}{tip:Int}{t}{D:Dsk}(h:noR K N T P tip t=(0,D)) :
  opE K N T P tip=0/\opE D.k D.n D.t D.p D.tip=0/\D.p.length≠0/\noR D.k D.n D.t D.p D.tip t=(6,Dsk.none)/\D.n=N/\D.t=T/\D.tip=tip/\(∃ M,D.k=K++M)/\Zu t=0:=by
 unfold noR at h;split at h
 ·rename_i q;exact absurd (congrArg bI h) q
 rename_i q1;have q1:=aK.1 q1;split at h
 ·rename_i q;exact absurd (congrArg bI h) q
 rename_i q2;have q2:=aK.1 q2;obtain⟨⟨x,Q,P1⟩,hr⟩:=ZF (acE K ((Z0 K N T noB).2 tip) P t (Yh N T tip+1));rw[hr] at h q2;have q2:x=0:=q2;subst q2;simp only[aN,true_and] at h;subst h;simp only;obtain⟨C,ae⟩:=ZF ((Z0 K N T noB).2 tip);rw[ae] at hr;obtain⟨z,hz⟩:=ZF (Yh N T tip+1);rw[hz] at hr;obtain⟨a1,⟨C2,a2⟩,a3,rfl⟩:=Zmq hr;obtain⟨o,hl⟩:=Ut a1;obtain⟨hK,hC,h1,h2⟩:=Vm o;have ac:=Zpp hK a2;obtain⟨s1,M1,s2⟩:=W4 P K C hK (h:=z);have av:doD z ((Zv z P (K,C)).2.1,(Zv z P (K,C)).2.2) t=(0,Q,C2):=a2;obtain⟨d1,⟨M2,d2⟩,_,_,d5⟩:=S8 s1 av;have hM:Q=K++(M1++M2):=by rw[d2,s2,List.append_assoc]
 obtain⟨o1,o2,o3,_⟩:=Yg q1;have ok:=Tr.TrOk.of (Yb o2).1;have bb:∀ x∈N,x≠0:=λx hx=>by have:=(ok.nm x hx).1;omega
 have cb:Z0 Q N T noB=Z0 K N T noB:=by
  rw[hM];exact Rg hK (hM ▸ d1) N T noB bb o3
 have bk:(Zv z P (K,C)).1.length<=P.length:=by
  have e2:=congrArg List.length (Qa z P (K,C));have:=Rl z P (K,C);rw[List.length_map] at e2;omega
 have az:((Zv z P (K,C)).1++[t]).length<=8:=by rw[bW,List.length_singleton];omega
 have po:=Zju d1 hC h1 h2 az ac (N:=N) (T:=T) (t:=tip) (β:=(Z0 K N T noB).2) ae hz
 have op:opE Q N T ((Zv z P (K,C)).1++[t]) tip=0:=by
  unfold opE;rw[if_neg (by rw[(Bk.right_iff _).2 d1];decide),o2];simp only[ne_eq,not_true_eq_false,if_false,cb,o3];exact po
 refine⟨q1,op,by rw[bW,List.length_singleton];omega,?_,trivial,trivial,trivial,⟨_,hM⟩,d5⟩
 have bd:swE Q C ((Zv z P (K,C)).1++[t]) z=0:=by
  unfold swE;rw[Sm d1 hC h1 h2];simp only[ne_eq,not_true_eq_false,if_false];rw[if_neg (by omega)]
 have h6:acE Q C ((Zv z P (K,C)).1++[t]) t z=(6,[],[]):=by
  unfold acE;rw[if_neg (by rw[bd];decide),ac,if_pos (by rw[List.any_append];simp[Zai])]
 unfold noR;rw[if_neg (by rw[op];decide),cb,ae,hz,h6,if_pos (by simp)]
theorem Zab{K N T P}{tip s:Int}{b:Zl}(h:opE K N T P tip=0)(Q:kbD K s b=true)(hs:s∈N):ntR K N T P tip b=(6,0,Dsk.none):=by
 obtain⟨o1,o2,_,_⟩:=Yg h;have z:=(Yb o2).1;have ok:=Tr.TrOk.of z;have ad:=ok.nm s hs;have hn:=Rq ((Bk.right_iff K).1 o1) (by omega) Q
 have ha:Tr.addE N T s b=([],[],6):=by
  have hx:Tr.nextD N T s b=6:=by
   unfold Tr.nextD;rw[if_neg (by simp[ad]),if_neg (by simp[(Wc Q).1]),if_pos (by simpa using hs)]
  unfold Tr.addE;rw[if_neg (λq=>q z),hx,if_pos (by decide)]
 have e:tkR ⟨K,N,T,P,tip,(Z0 K N T noB).2⟩ b=(6,0,⟨K,N,T,P,tip,(Z0 K N T noB).2⟩):=by
  unfold tkR;simp only[hn,ha];rw[if_neg (λq=>q rfl),if_pos (by decide)]
 unfold ntR;rw[if_neg (by rw[h];decide),e,if_pos (by simp)]
theorem Lg{K N T P}{tip wk no:Int}{l}{b:Zl}{D:Dsk}(h:nmR K N T P tip wk no l=(0,b,D)) :
  opE K N T P tip=0/\opE D.k D.n D.t D.p D.tip=0/\ntR D.k D.n D.t D.p D.tip b=(6,0,Dsk.none)/\Tr.blockE D.n D.t D.tip=(b,0)/\b.1=tip/\∃ nm,tkR ⟨K,N,T,P,tip,(Z0 K N T noB).2⟩ b=(0,nm,D):=by
 unfold nmR at h;split at h
 ·rename_i q;exact absurd (congrArg bI h) q
 rename_i q1;have q1:=aK.1 q1;split at h
 ·rename_i q;exact absurd (congrArg bI h) q
 rename_i q2;have q2:=aK.1 q2;simp only[aN,true_and] at h;have z:mnR ⟨K,N,T,P,tip,(Z0 K N T noB).2⟩ wk no l=(0,b,D):=Prod.ext q2 (Prod.ext h.1 h.2);unfold mnR at z;simp only at z;obtain⟨⟨y,b2⟩,Q⟩:=ZF (mkE K ((Z0 K N T noB).2 tip) P tip (Yh N T tip+1) wk no l);rw[Q] at z;simp only at z;split at z
 ·rename_i q;exact absurd (congrArg bI z) q
 rename_i q3;have q3:=aK.1 q3;subst q3;split at z
 ·rename_i q;exact absurd (congrArg bI z) q
 rename_i q4;have q4:=aK.1 q4;simp only[aN,true_and] at z;obtain⟨rfl,hD⟩:=z
 have ap:b2.1=tip:=by
  unfold mkE at Q;split at Q
  ·rename_i q;exact absurd (congrArg bI Q) q
  split at Q
  ·exact absurd (congrArg bI Q) (by simp)
  split at Q
  ·rename_i q;exact absurd (congrArg bI Q) q
  rw[<-(Prod.mk.inj Q).2]
 obtain⟨nm,bb⟩:=ZF ((tkR ⟨K,N,T,P,tip,(Z0 K N T noB).2⟩ b2).2.1);have e:tkR ⟨K,N,T,P,tip,(Z0 K N T noB).2⟩ b2=(0,nm,D):=Prod.ext q4 (Prod.ext bb hD);obtain⟨t1,_,t3,t4,t5,_,t7⟩:=Rk q1 e;have aq:nm∈D.n:=by rw[t3];simp
 obtain⟨_,o2,_,_⟩:=Yg q1;obtain⟨_,p2,_,_⟩:=Yg t1;obtain⟨a1,a2,a3,_,_⟩:=Tr.addE_ok t7;have okN:=Tr.TrOk.of a1;have af:=(Yb p2).1;have bh:=Tr.TrOk.of af
 have ay:Tr.bstGo N T 0 0 N=tip:=by
  unfold Tr.bstD at o2;rw[if_neg (λq=>q a1)] at o2;exact congrArg bI o2
 have az:Tr.bstGo (N++[nm]) (T++[b2]) 0 0 (N++[nm])=D.tip:=by
  unfold Tr.bstD at p2;rw[if_neg (λq=>q af),t3,t4] at p2;exact congrArg bI p2
 obtain⟨f1,f2,_,_,f5⟩:=Tr.best_more okN a2 _ _ ay az;obtain⟨g1,g2,g3,_,_⟩:=Tr.nextD_ok a2
 have hD:D.tip=nm:=by
  rcases f2 with q|q
  ·have w1:=okN.wrk_same (b:=b2) g1.1 f1;have w2:=okN.wrk_new a2;have w3:=Tr.chkB_head g2;rw[q,w1,w2,ap] at f5;omega
  ·exact q
 refine⟨q1,t1,Zab t1 t5 aq,?_,ap,nm,e⟩;unfold Tr.blockE;rw[hD,if_neg (λq=>q af),if_pos (by simpa using aq),t3,t4,Tr.fnd_app_r okN.len g3];simp[Tr.fnd]
theorem nt_tk{K N T P}{tip:Int}{b:Zl}{s:Int}{D:Dsk}(h:ntR K N T P tip b=(0,s,D)):opE K N T P tip=0/\tkR ⟨K,N,T,P,tip,(Z0 K N T noB).2⟩ b=(0,s,D):=by
 unfold ntR at h;split at h
 ·rename_i q;exact absurd (congrArg bI h) q
 rename_i z;have z:=aK.1 z;split at h
 ·rename_i q;exact absurd (congrArg bI h) q
 rename_i Q;have Q:=aK.1 Q;simp only[aN,true_and] at h;exact⟨z,Prod.ext Q (Prod.ext h.1 h.2)⟩
