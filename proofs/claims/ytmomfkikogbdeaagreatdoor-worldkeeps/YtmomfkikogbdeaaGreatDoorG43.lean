import Derived.Test.YtmomfkikogbdeaaGreatDoorH
import Derived.Test.YtmomfkikogbdeaaGreatDoorG41
import Derived.Test.YtmomfkikogbdeaaGreatDoorG42
open Go.Proofs.Tryz
open Decidable renaming not_not->aQ
open Go renaming heap_alloc_new->aJ,wpAnyH_ready->bP
open Go.Act renaming put->aE
open Go.Ending renaming returned->cS
open Go.IntKind renaming i64->J
open Go.Obj renaming cells->cR
open Go.Value renaming int->E,slice->F,tuple->cT,pointer->cU
open Nat renaming le_trans->aT,lt_of_lt_of_le->aC
open Prod.mk renaming injEq->aP
set_option maxHeartbeats 12800000
set_option maxRecDepth 10000
namespace Go.Proofs.YtmomfkikogbdeaaGreatDoor
open Go.RowKit
theorem Zdz(Z:Nat->Prop)(s:Nat)(W:WD)(xk xn xt:Int)(xi:Nat)(xw xN th:Int)(ai ao ni ci no co w)(hS:Sc Z s W w)(hl:xi<W.m.length)(hz:Uv W.m[xi])(W':WD)(hx:W.sent W.m[xi]=W') :
  Calls Tryz.prog 241 #[cU (some ⟨s,0,none⟩),.agg #[E J xk,E J xn,E J xt,E J xi,E J xw,E J xN,E J th,F ai ni ci,F ao no co]] w λe w'=>e = cS (E J 0)/\Pw Z s W' w w':=by
 obtain⟨ka,kn,kc,vn,vm,Kn,Km,hA⟩:=hS;have Q:=hA.on;obtain⟨na,nc,ma,mc,rfl,rfl,_,_,_,sm⟩:=Q.read;have hb:=hA.box
 obtain⟨g,rfl⟩:∃ g,ma=some ⟨g,0,none⟩:=by
  rcases Q.rm.2 with ⟨_,e⟩|⟨g,cap,cc,e,_⟩
  ·omega
  ·injection e with e;exact⟨g,e⟩
 have ce:=(Q.rm.lt g rfl).2;have hk:xi<Km.length:=by rw[Q.now.2.2.1];exact hl
 obtain⟨y,hy⟩:=ZF (W.m[xi])
 have hC:∀ V,Gr w V (λq=>(Z q\/q=s)\/(Value.slice na W.n.length nc).ownBlock=some q\/(Value.slice (some ⟨g,0,none⟩) W.m.length mc).ownBlock=some q)->Tr.msgR.C V Km[xi] y:=λV gV=>by
  have:=(Q.dat V gV).2.2.2 xi hl hk;rw[hy] at this;exact this
 rw[hy] at hz hx;obtain⟨x0,x1,x2,x3,⟨y0,y1,y2,y3,y4⟩,z0,z1,z2⟩:=y;obtain⟨pa,pn,pc,ia,im,ic,oa,om,oc,eK,hT,sT,hI,sI,hO,sO⟩:=hC w (Gr.refl _ _);simp only at eK hT hI hO;obtain⟨X,hX⟩:=ZG (w.alloc (cR #[E J xk,E J xn,E J xt,E J xi,E J xw,E J xN,E J th,F ai ni ci,F ao no co] 103));have z:ZD w X:=by rw[hX];exact Zh _ _
 have bt:X.heap.size=w.heap.size+1:=by rw[hX];simp
 have ah:X.heap[w.heap.size]? = some (cR [E J xk,E J xn,E J xt,E J xi,E J xw,E J xN,E J th,F ai ni ci,F ao no co].toArray 103 (0,0)):=by rw[hX];exact aJ _ _
 have aj:=ZE z hb;have rc:=λj (hj:j<12)=>(World.ownsRow.cellAt (Q.later z).rm (xi*12+j) (by have:(xi+1)*12<=W.m.length*12:=Nat.mul_le_mul_right _ hl;omega)).trans (Tr.wid_at Q.now.2.2.wid xi hk j hj);rw[eK] at rc;have r0:X.cell? ⟨g,xi*12,none⟩=some (E J x0):=rc 0 (by decide);have r1:X.cell? ⟨g,xi*12+1,none⟩=some (E J x1):=rc 1 (by decide);have r2:X.cell? ⟨g,xi*12+2,none⟩=some (E J x2):=rc 2 (by decide);have r3:X.cell? ⟨g,xi*12+3,none⟩=some (E J x3):=rc 3 (by decide);have r4:X.cell? ⟨g,xi*12+4,none⟩=some (E J y0):=rc 4 (by decide);have r5:X.cell? ⟨g,xi*12+5,none⟩=some (E J y1):=rc 5 (by decide);have r6:X.cell? ⟨g,xi*12+6,none⟩=some (E J y2):=rc 6 (by decide);have r7:X.cell? ⟨g,xi*12+7,none⟩=some (E J y3):=rc 7 (by decide);have r8:X.cell? ⟨g,xi*12+8,none⟩=some (F pa pn pc):=rc 8 (by decide);have r9:X.cell? ⟨g,xi*12+9,none⟩=some (E J z0):=rc 9 (by decide);have cm:X.cell? ⟨g,xi*12+10,none⟩=some (F ia im ic):=rc 10 (by decide);have cn:X.cell? ⟨g,xi*12+11,none⟩=some (F oa om oc):=rc 11 (by decide);have cf:(xi:Int)<(W.m.length:Int):=by omega
 have C1:=Zd (J3 Z s W x0 x1 x2 x3 y0 y1 y2 y3 pa pn pc y4 z0 ia oa im ic om oc z1 z2 X.drew ⟨_,_,_,_,_,_,_,hA.later (Zf z (Zi X))⟩ (hT.later (Zf z (Zi X))) sT (hI.later (Zf z (Zi X))) (hO.later (Zf z (Zi X))) sI sO hz);rw[hx] at C1;have NB:Hid (∀ q,Xe X.drew s q->Xe w s q):=λq hq=>(hA.nb q).1 (((hA.later (Zf z (Zi X))).nb q).2 hq);have ac:=Zd (Zf z (Zi X));have c2:=Zb aj 2 _ rfl;have cl:=lt_of_block aj;have m3:=Zb ah 3 _ rfl;have ml:=lt_of_block ah;have cd:g<X.heap.size:=by omega
 clear hA Q hb hC eK hT sT hI sI hO sO z bt ah aj rc hz hx hy;go_enter func241,ntmps241
 go_upto_region 1 with fail
 rw[<-hX];clear hX
 go_region_law (first
  | (refine Yg (by rfl) 275 #[cU (some ⟨s,0,none⟩),.agg #[E J x0,E J x1,E J x2,E J x3,E J y0,E J y1,E J y2,E J y3,F pa pn pc,E J z0,F ia im ic,F oa om oc]] (by kernel_rfl) C1 ?_;rintro e w4 ⟨rfl,h1,h2,h3⟩;refine⟨_,rfl,?_⟩;have bq:Hid (Pw Z s W' w w4):=⟨h1,(Gr.of ac).trans (h2.mono (λq _ e=>e.imp id (NB q))),λq e=>(h3 q e).imp (NB q) (aT ac.size)⟩;clear h1 h2 h3))
 all_goals
  clear C1 NB ac;go_wp2;go_ret;exact⟨rfl,Za bq⟩
theorem Hh{K N T}{P:List TxD}{tip:Int}(h:opE K N T P tip=0):P.length<=8/\∀ t∈P,Tr.TxSmall t:=by
 have z:=(Yp h).2.2.2;unfold poE at z;split at z
 ·rename_i q;have e:P=[]:=List.eq_nil_of_length_eq_zero q;subst e;exact⟨by simp,λt Q=>by cases Q⟩
 split at z
 ·cases z
 rename_i q1;split at z
 ·rename_i q;exact absurd z q
 rename_i q2;refine⟨(Ua (aQ.1 q2)).2,λt Q=>?_⟩;have hk:P.all (knT K)=true:=by simpa using q1
 have:=List.all_eq_true.1 hk t Q;unfold knT at this;simp only[Bool.and_eq_true,decide_eq_true_eq] at this;exact Tr.tx_small this.1
theorem Qc{K}{y:Vo}(h:opN K y=0):Vr y:=⟨aT (Hh h).1 (by decide),(Hh h).2⟩
theorem Y5{i n:Nat}(h:i<n):Xf (i:Int) (n:Int)=true:=by
 unfold Xf;simp;omega
section
variable {W : WD} {xt xw xN th : Int} {ai ao : Option Addr} {ni ci no co : Nat}
theorem Ss{xi:Int}{i:Nat}{y:Int}{W':WD}(hc:Xl W.k W.n W.m=0)(hi:i<W.n.length)(ac:Tr.BlkSmall (nmR W.k W.n[i].1 W.n[i].2.1 W.n[i].2.2.1 W.n[i].2.2.2 xw xi [(1,xN),(7,0)]).2.1)(hx:W.mine i xw xi xN=(y,W')):Di (.agg #[E J 1,E J i,E J xt,E J xi,E J xw,E J xN,E J th,F ai ni ci,F ao no co]) W y W':=λZ V s hE hS=>by
 obtain⟨_,q2,_,_,_,q6,_⟩:=Yc hc;refine Kj Z s i xt xi xw xN th ai ao ni ci no co y W' V (λU p q z hb=>?_);exact Yx Z s W 1 i xt xi xw xN th ai ao ni ci no co p q 235 #[cU (some ⟨s,0,none⟩)] #[] y W' true U hb.1 hb.2 (hS.later z) (Y5 hi) (λ_=>⟨enters_of (fn:=Tryz.f235) (by kernel_rfl) (by kernel_rfl) rfl,λQ h2=>Zkf Z s W 1 i xt xi xw xN th ai ao ni ci no co y W' Q (hE Q (Gr.of (Zf z h2))) (hS.later (Zf z h2)) hi q2 (Qc (q6 _ (List.getElem_mem hi))) ac hx⟩) y (if_pos rfl)
theorem Zdf{xn xi:Int}{W':WD}(h:Xf xi W.m.length=false):Di (.agg #[E J 3,E J xn,E J xt,E J xi,E J xw,E J xN,E J th,F ai ni ci,F ao no co]) W 5 W':=λZ V s hE Q=>by
 refine Uh Z s xn xt xi xw xN th ai ao ni ci no co 5 W' V (λU p q hU z=>?_);exact Xo Z s W 3 xn xt xi xw xN th ai ao ni ci no co p q 238 #[cU (some ⟨s,0,none⟩)] #[] 0 W' false U z.1 z.2 (Q.later hU) h (λe=>by cases e) 5 (if_neg (by decide))
theorem Pk{xn:Int}{k:Nat}{ti:Nat}{W':WD}(hc:Xl W.k W.n W.m=0)(hk:k<W.m.length)(hz:W.m[k].1=1/\W.m[k].2.2.1=ti)(ac:ti<W.n.length)(hx:(W.lost k).told ti W.m[k].2.1 W.m[k].2.2.2.2.1=W'):Di (.agg #[E J 3,E J xn,E J xt,E J k,E J xw,E J xN,E J th,F ai ni ci,F ao no co]) W 0 W':=λZ V s hE Q=>by
 obtain⟨_,q2,_,_,q5,q6,_⟩:=Yc hc;refine Uh Z s xn xt k xw xN th ai ao ni ci no co 0 W' V (λU p q z hb=>?_);refine Xo Z s W 3 xn xt k xw xN th ai ao ni ci no co p q 238 #[cU (some ⟨s,0,none⟩)] #[] 0 W' true U hb.1 hb.2 (Q.later z) (Y5 hk) (λ_=>⟨enters_of (fn:=Tryz.f238) (by kernel_rfl) (by kernel_rfl) rfl,λV2 h2=>?_⟩) 0 (if_pos rfl);refine (Zes Z s W 3 xn xt k xw xN th ai ao ni ci no co V2 (λU2 g=>hE U2 ((Gr.of (Zf z h2)).trans g)) (Q.later (Zf z h2)) hk q5 ti hz ac (Qc (q6 _ (List.getElem_mem ac))) W' hx).mono ?_;rintro e V3 ⟨rfl,h3,h4⟩;exact⟨rfl,λ_=>h3,h4⟩
theorem G5{Z:Nat->Prop}{s:Nat}{W W':WD}{w w'}(z:Sc Z s W w)(h:Pw Z s W' w w'):Sc Z s W' w'/\Gr w w' (λq=>¬Z q):=
 ⟨h.1,h.2.1.mono (λq _ e=>by
  rcases e with e|e
  ·rw[e];exact z.nz
  ·exact (z.net_lt e).1)⟩
theorem Zdg{xn:Int}{k:Nat}(hc:Xl W.k W.n W.m=0)(hk:k<W.m.length):Di (.agg #[E J 4,E J xn,E J xt,E J k,E J xw,E J xN,E J th,F ai ni ci,F ao no co]) W 0 (W.lost k):=λZ V s hE z=>by
 obtain⟨_,q2,_,_,q5,q6,_⟩:=Yc hc;refine Kh Z s xn xt k xw xN th ai ao ni ci no co 0 (W.lost k) V (λU p q Q hb=>?_);refine Xo Z s W 4 xn xt k xw xN th ai ao ni ci no co p q 239 #[cU (some ⟨s,0,none⟩)] #[] 0 (W.lost k) true U hb.1 hb.2 (z.later Q) (Y5 hk) (λ_=>⟨enters_of (fn:=Tryz.f239) (by kernel_rfl) (by kernel_rfl) rfl,λV2 h2=>?_⟩) 0 (if_pos rfl);refine (Gh Z s W 4 xn xt k xw xN th ai ao ni ci no co V2 (z.later (Zf Q h2)) hk q5).mono ?_;rintro e V3 ⟨rfl,h3⟩;have h4:=G5 (z.later (Zf Q h2)) h3;exact⟨rfl,λ_=>h4.1,h4.2⟩
theorem Ag{xn:Int}{k:Nat}{y:Int}(hk:k<W.m.length)(hz:Uv W.m[k])(hy:(if W.m.length=20 then 12 else 0)=y):Di (.agg #[E J 5,E J xn,E J xt,E J k,E J xw,E J xN,E J th,F ai ni ci,F ao no co]) W y (W.sent W.m[k]):=λZ V s hE hS=>by
 refine Kg Z s xn xt k xw xN th ai ao ni ci no co y (W.sent W.m[k]) V (λU p q p' q' hU z ac=>?_);refine Xo Z s W 5 xn xt k xw xN th ai ao ni ci no co p' q' 274 #[] #[cU (some ⟨p,0,none⟩),cU (some ⟨q,0,none⟩)] y (W.sent W.m[k]) true U ac.1 ac.2 (hS.later hU) (Y5 hk) (λ_=>⟨enters_of (fn:=Tryz.f274) (by kernel_rfl) (by kernel_rfl) rfl,λV2 h2=>?_⟩) y (if_pos rfl);have Q:=hS.later (Zf hU h2);refine Qk Z s W 5 xn xt k xw xN th ai ao ni ci no co p q 241 #[cU (some ⟨s,0,none⟩)] #[] 0 (W.sent W.m[k]) V2 ((h2.block _ (lt_of_block z.1)).trans z.1) ((h2.block _ (lt_of_block z.2)).trans z.2) Q (λ_=>⟨enters_of (fn:=Tryz.f241) (by kernel_rfl) (by kernel_rfl) rfl,λV3 h3=>?_⟩) y hy;refine (Zdz Z s W 5 xn xt k xw xN th ai ao ni ci no co V3 (Q.later h3) hk hz _ rfl).mono ?_;rintro e V4 ⟨rfl,h4⟩;have h5:=G5 (Q.later h3) h4;exact⟨rfl,λ_=>h5.1,h5.2⟩
end
theorem Ah{K}{N:List Int}{T P}{tip:Int}{b:Zl}{nm:Int}{D:Dsk}(h:ntR K N T P tip b=(0,nm,D)) :
  opE K N T P tip=0/\opE D.k D.n D.t D.p D.tip=0/\Tr.blockE D.n D.t nm=(b,0)/\(∃ v u,Tr.workE N T tip=(v,0)/\Tr.workE D.n D.t D.tip=(u,0)/\v<=u)/\kbD D.k nm b=true/\nm≠0/\D.n.length=N.length+1/\D.n.take N.length=N:=by
 unfold ntR at h;split at h
 ·rename_i q;exact absurd (congrArg Prod.fst h) q
 rename_i z;have z:=aQ.1 z;split at h
 ·rename_i q;exact absurd (congrArg Prod.fst h) q
 rename_i Q;have Q:=aQ.1 Q;simp only[aP,true_and] at h;have e:tkR ⟨K,N,T,P,tip,(Z3 K N T noB).2⟩ b=(0,nm,D):=Prod.ext Q (Prod.ext h.1 h.2);obtain⟨t1,_,t3,t4,t5,_,t7⟩:=Jz z e;obtain⟨_,o2,_,_⟩:=Yp z;obtain⟨_,p2,_,_⟩:=Yp t1;obtain⟨m,n,v,u,own,up,aw,g1,g2,g3,g4,_,_,_,_,g9,_,_,_,_,_,_,_,_,ah,aj⟩:=Tr.grow_facts t7;rw[o2] at g1;rw[p2] at g2;simp only[aP,and_true] at g1 g2;subst g1 g2;have hc:=(Yn p2).1;have ok:=Tr.TrOk.of hc;have okN:=Tr.TrOk.of (Yn o2).1;have hm:nm∈D.n:=by rw[t3];simp
 have av:=(ok.nm nm hm).1;have ad:=ok.nd
 have an:nm∉N:=by
  rw[t3] at ad;intro q;exact (List.nodup_append.1 ad).2.2 nm q nm (by simp) rfl
 refine⟨z,t1,?_,⟨v,u,g3,g4,g9⟩,t5,by omega,aj,ah⟩;unfold Tr.blockE;rw[if_neg (λq=>q hc),if_pos (by simpa using hm),t3,t4,Tr.fnd_app_r okN.len an];simp[Tr.fnd]
section
variable {Z : Nat -> Prop} {w : World} {d bm m : Nat} {ka na ba pa : Option Addr} {kn kc nn nc bn bc pn pc : Nat} {K : List ByteArray} {N : List Int} {T : List Zl} {P : List TxD} {tip : Int} {f : Int -> Value} {β : Int -> List Zj}
theorem Zec(h:DeskAt Z w d bm m ka kn kc K na nn nc N ba bn bc T pa pn pc P tip f β)(hE:Env w)(ht:(Lit.int .i64 tip).wf=true)(h1:0<=Yt N T tip)(h2:Yt N T tip<=1000)(th:Int)(ai ao ni ci no co I O)(hI:InsAt w ai ni I)(hO:OutsAt w ao no O)(sI:SlOk ai ni ci)(sO:SlOk ao no co)(K1 P1)(x:Int)(hx:acE K (β tip) P (th,I,O) (Yt N T tip+1)=(x,K1,P1)) :
  Calls Tryz.prog 111 #[.pointer (some ⟨d,0,none⟩),.agg #[.int .i64 th,F ai ni ci,F ao no co]] w λe w'=>e = cS (.int .i64 x)/\Zlh Z w w' d bm m K1 na nn nc N ba bn bc T P1 tip f β:=by
 obtain⟨dq,hz⟩:=ZF (Yt N T tip);rw[hz] at hx h1 h2;have dk:IntKind.i64.wrap (dq+1)=dq+1:=by rw[IntKind.wrap_i64];omega
 obtain⟨ca,cn,dr,bb,_,sC⟩:=h.c tip;obtain⟨X,hX⟩:=ZG (w.alloc (cR #[.int .i64 th,F ai ni ci,F ao no co] 59));have az:ZD w X:=by rw[hX];exact Zh _ _
 have au:X.heap[w.heap.size]? = some (cR [.int .i64 th,F ai ni ci,F ao no co].toArray 59 (0,0)):=by rw[hX];exact aJ w _
 have CC:=Zd (λV (hv:ZD w V)=>Rb (h.later hv) ht);rw[bb] at CC;have CH:=Zd (λV (hv:ZD w V)=>Qu (h.later hv) dq hz);have CS:=Zd (λV (hv:ZD w V)=>Ci ka kn kc K ca cn dr (β tip) pa pn pc P th ai ao ni ci no co I O (dq+1) x K1 P1 V (hE.later hv) (h.later hv).now.k (by obtain⟨a2,n2,c2,q1,q2,_⟩:=(h.later hv).c tip;rw[bb] at q1;injection q1 with e1 e2 e3;subst e1 e2 e3;exact q2) sC (h.later hv).now.p (hI.later hv) (hO.later hv) sI sO hx);have c0:=Zb h.box 0 _ rfl;have c3:=Zb h.box 3 _ rfl;have dl:=lt_of_block h.box;have KS:Hid (∀ U:World,Gr X U (λq=>q=d)->(d<U.heap.size/\U.cell? ⟨w.heap.size,0,none⟩=some (.int .i64 th)/\U.cell? ⟨w.heap.size,1,none⟩=some (F ai ni ci)/\U.cell? ⟨w.heap.size,2,none⟩=some (F ao no co)/\w.heap.size<U.heap.size)):=λU hu=>⟨aC dl (aT az.size hu.size),hu.cell (Zb au 0 _ rfl) (by simp;omega),hu.cell (Zb au 1 _ rfl) (by simp;omega),hu.cell (Zb au 2 _ rfl) (by simp;omega),aC (lt_of_block au) hu.size⟩;have KC:Hid (∀ U:World,ZD w U->(U.cell? ⟨d,0,none⟩=some (F ka kn kc)/\U.cell? ⟨d,3,none⟩=some (F pa pn pc)/\d<U.heap.size)):=λU hu=>⟨Ze hu c0,Ze hu c3,aC dl hu.size⟩;have H:=Zd h;have cf:=Zd az;clear h hE ht h1 h2 hI hO sI sO hx hz bb sC az au c0 c3 dl;go_enter func111,ntmps111
 go_upto_region 1 with fail
 rw[<-hX];clear hX
 go_cut [4] from 5 to 31 (λs4 wx=>s4 = .int .i64 x/\Hid (Zlh Z w wx d bm m K1 na nn nc N ba bn bc T P1 tip f β))
 case first=>
  refine wp_region_held_drew (S:=λU=>(d<U.heap.size/\U.cell? ⟨w.heap.size,0,none⟩=some (.int .i64 th)/\U.cell? ⟨w.heap.size,1,none⟩=some (F ai ni ci)/\U.cell? ⟨w.heap.size,2,none⟩=some (F ao no co)/\w.heap.size<U.heap.size)) (by kernel_rfl) (KS _ (Gr.of (Zi X))) (λz=>?_);refine tkL 0 rfl z ?_;refine tkL 1 rfl z ?_;refine tkL 2 rfl z ?_;refine tkL 3 rfl z ?_;refine tkL 4 rfl z ?_;refine tkL 6 rfl z ?_;refine tkL 8 rfl z ?_;refine tkL 9 rfl z ?_;refine tkL 10 rfl z ?_;refine tkL 11 rfl z ?_;refine tkL 13 rfl z ?_;refine tkL 14 rfl z ?_;have Q:=Zi X;have hb:=Zf cf Q;refine bP (rs:=[5,7,12]) (by kernel_rfl) (by simp) ?_;refine rdC rfl (λKQ hK=>?_) (rdC rfl (λKQ hK=>?_) (rdC rfl (λKQ hK=>?_) AllReadyH.nil));obtain⟨l0,l3,ll⟩:=KC X.drew hb;go_simp;clear l0 l3 ll;clear z;refine hK.out _ _ (KS _ (Gr.of Q)) (λz=>?_);clear hK KQ;(try simp only[aE,ZA,ZB,ZC]);refine bP (rs:=[7,12]) (by kernel_rfl) (by simp) ?_;refine rdC rfl (λKQ hK=>?_) (rdC rfl (λKQ hK=>?_) AllReadyH.nil);refine Zn (by kernel_rfl) 108 #[.pointer (some ⟨d,0,none⟩)] (by kernel_rfl) (CC X.drew hb) ?_;rintro e v1 ⟨rfl,ac⟩;refine⟨_,rfl,?_⟩;have hb:=Zf hb ac;have Q:=Zf Q ac;clear z;refine hK.out _ _ (KS _ (Gr.of Q)) (λz=>?_);clear hK KQ;(try simp only[aE,ZA,ZB,ZC]);refine bP (rs:=[12,15]) (by kernel_rfl) (by simp) ?_;refine rdC rfl (λKQ hK=>?_) (rdC rfl (λKQ hK=>?_) AllReadyH.nil);obtain⟨l0,l3,ll⟩:=KC v1 hb;go_simp;clear l0 l3 ll;clear z
  refine hK.out _ _ (KS _ (Gr.of Q)) (λz=>?_);clear hK KQ;(try simp only[aE,ZA,ZB,ZC]);refine rdS 15 rfl (CH v1 hb) ?_;rintro e v2 ⟨rfl,ac⟩;have hb:=Zf hb ac;have Q:=Zf Q ac;clear z;refine⟨_,rfl,(KS _ (Gr.of Q)),λz=>?_⟩;refine tkL 16 (v:=.int .i64 (dq+1)) rfl z ?_;obtain⟨vz,ah⟩:∃ dq,dq=v2:=⟨_,rfl⟩;subst ah;rotate_left;refine Zn (by kernel_rfl) 165 #[.pointer (some ⟨d,0,none⟩)] (by kernel_rfl) (CH v1 hb) ?_;rintro e v3 ⟨rfl,ac⟩;refine⟨_,rfl,?_⟩;have hb:=Zf hb ac;have Q:=Zf Q ac;clear z;refine hK.out _ _ (KS _ (Gr.of Q)) (λz=>?_);clear hK KQ;refine tkL 16 (v:=.int .i64 (dq+1)) rfl z ?_;refine rdY 12 rfl (λKQ hK=>?_);obtain⟨l0,l3,ll⟩:=KC v3 hb;go_simp;clear l0 l3 ll;clear z;refine hK.out _ _ (KS _ (Gr.of Q)) (λz=>?_);clear hK KQ;(try simp only[aE,ZA,ZB,ZC]);obtain⟨vz,ah⟩:∃ dq,dq=v3:=⟨_,rfl⟩;subst ah;rotate_left;obtain⟨l0,l3,ll⟩:=KC X.drew hb;go_simp;clear l0 l3 ll;clear z;refine hK.out _ _ (KS _ (Gr.of Q)) (λz=>?_);clear hK KQ;(try simp only[aE,ZA,ZB,ZC]);refine rdS 7 rfl (CC X.drew hb) ?_;rintro e v4 ⟨rfl,ac⟩;have hb:=Zf hb ac;have Q:=Zf Q ac;clear z;refine⟨_,rfl,(KS _ (Gr.of Q)),λz=>?_⟩;(try simp only[aE,ZA,ZB,ZC]);refine rdS 15 rfl (CH v4 hb) ?_;rintro e v5 ⟨rfl,ac⟩;have hb:=Zf hb ac;have Q:=Zf Q ac;clear z;refine⟨_,rfl,(KS _ (Gr.of Q)),λz=>?_⟩;refine tkL 16 (v:=.int .i64 (dq+1)) rfl z ?_;obtain⟨vz,ah⟩:∃ dq,dq=v5:=⟨_,rfl⟩;subst ah;rotate_left
  refine Zn (by kernel_rfl) 108 #[.pointer (some ⟨d,0,none⟩)] (by kernel_rfl) (CC X.drew hb) ?_;rintro e v6 ⟨rfl,ac⟩;refine⟨_,rfl,?_⟩;have hb:=Zf hb ac;have Q:=Zf Q ac;clear z;refine hK.out _ _ (KS _ (Gr.of Q)) (λz=>?_);clear hK KQ;(try simp only[aE,ZA,ZB,ZC]);refine bP (rs:=[5,12,15]) (by kernel_rfl) (by simp) ?_;refine rdC rfl (λKQ hK=>?_) (rdC rfl (λKQ hK=>?_) (rdC rfl (λKQ hK=>?_) AllReadyH.nil));obtain⟨l0,l3,ll⟩:=KC v6 hb;go_simp;clear l0 l3 ll;clear z;refine hK.out _ _ (KS _ (Gr.of Q)) (λz=>?_);clear hK KQ;(try simp only[aE,ZA,ZB,ZC]);refine bP (rs:=[12,15]) (by kernel_rfl) (by simp) ?_;refine rdC rfl (λKQ hK=>?_) (rdC rfl (λKQ hK=>?_) AllReadyH.nil);obtain⟨l0,l3,ll⟩:=KC v6 hb;go_simp;clear l0 l3 ll;clear z;refine hK.out _ _ (KS _ (Gr.of Q)) (λz=>?_);clear hK KQ;(try simp only[aE,ZA,ZB,ZC]);refine rdS 15 rfl (CH v6 hb) ?_;rintro e v7 ⟨rfl,ac⟩;have hb:=Zf hb ac;have Q:=Zf Q ac;clear z;refine⟨_,rfl,(KS _ (Gr.of Q)),λz=>?_⟩;refine tkL 16 (v:=.int .i64 (dq+1)) rfl z ?_;obtain⟨vz,ah⟩:∃ dq,dq=v7:=⟨_,rfl⟩;subst ah;rotate_left;refine Zn (by kernel_rfl) 165 #[.pointer (some ⟨d,0,none⟩)] (by kernel_rfl) (CH v6 hb) ?_;rintro e v8 ⟨rfl,ac⟩;refine⟨_,rfl,?_⟩;have hb:=Zf hb ac;have Q:=Zf Q ac;clear z;refine hK.out _ _ (KS _ (Gr.of Q)) (λz=>?_);clear hK KQ;refine tkL 16 (v:=.int .i64 (dq+1)) rfl z ?_;refine rdY 12 rfl (λKQ hK=>?_);obtain⟨l0,l3,ll⟩:=KC v8 hb;go_simp;clear l0 l3 ll;clear z
  refine hK.out _ _ (KS _ (Gr.of Q)) (λz=>?_);clear hK KQ;(try simp only[aE,ZA,ZB,ZC]);obtain⟨vz,ah⟩:∃ dq,dq=v8:=⟨_,rfl⟩;subst ah;rotate_left;obtain⟨l0,l3,ll⟩:=KC v6 hb;go_simp;clear l0 l3 ll;clear z;refine hK.out _ _ (KS _ (Gr.of Q)) (λz=>?_);clear hK KQ;(try simp only[aE,ZA,ZB,ZC]);refine bP (rs:=[5,15]) (by kernel_rfl) (by simp) ?_;refine rdC rfl (λKQ hK=>?_) (rdC rfl (λKQ hK=>?_) AllReadyH.nil);obtain⟨l0,l3,ll⟩:=KC v6 hb;go_simp;clear l0 l3 ll;clear z;refine hK.out _ _ (KS _ (Gr.of Q)) (λz=>?_);clear hK KQ;(try simp only[aE,ZA,ZB,ZC]);refine rdS 15 rfl (CH v6 hb) ?_;rintro e v9 ⟨rfl,ac⟩;have hb:=Zf hb ac;have Q:=Zf Q ac;clear z;refine⟨_,rfl,(KS _ (Gr.of Q)),λz=>?_⟩;refine tkL 16 (v:=.int .i64 (dq+1)) rfl z ?_;obtain⟨vz,ah⟩:∃ dq,dq=v9:=⟨_,rfl⟩;subst ah;rotate_left;refine Zn (by kernel_rfl) 165 #[.pointer (some ⟨d,0,none⟩)] (by kernel_rfl) (CH v6 hb) ?_;rintro e cb ⟨rfl,ac⟩;refine⟨_,rfl,?_⟩;have hb:=Zf hb ac;have Q:=Zf Q ac;clear z;refine hK.out _ _ (KS _ (Gr.of Q)) (λz=>?_);clear hK KQ;refine tkL 16 (v:=.int .i64 (dq+1)) rfl z ?_;refine rdY 5 rfl (λKQ hK=>?_);obtain⟨l0,l3,ll⟩:=KC cb hb;go_simp;clear l0 l3 ll;clear z;refine hK.out _ _ (KS _ (Gr.of Q)) (λz=>?_);clear hK KQ;(try simp only[aE,ZA,ZB,ZC]);obtain⟨vz,ah⟩:∃ dq,dq=cb:=⟨_,rfl⟩;subst ah;rotate_left;refine Zn (by kernel_rfl) 165 #[.pointer (some ⟨d,0,none⟩)] (by kernel_rfl) (CH v6 hb) ?_;rintro e ar ⟨rfl,ac⟩;refine⟨_,rfl,?_⟩;have hb:=Zf hb ac;have Q:=Zf Q ac
  clear z;refine hK.out _ _ (KS _ (Gr.of Q)) (λz=>?_);clear hK KQ;refine tkL 16 (v:=.int .i64 (dq+1)) rfl z ?_;refine bP (rs:=[5,12]) (by kernel_rfl) (by simp) ?_;refine rdC rfl (λKQ hK=>?_) (rdC rfl (λKQ hK=>?_) AllReadyH.nil);obtain⟨l0,l3,ll⟩:=KC ar hb;go_simp;clear l0 l3 ll;clear z;refine hK.out _ _ (KS _ (Gr.of Q)) (λz=>?_);clear hK KQ;(try simp only[aE,ZA,ZB,ZC]);refine rdY 12 rfl (λKQ hK=>?_);obtain⟨l0,l3,ll⟩:=KC ar hb;go_simp;clear l0 l3 ll;clear z;refine hK.out _ _ (KS _ (Gr.of Q)) (λz=>?_);clear hK KQ;(try simp only[aE,ZA,ZB,ZC]);obtain⟨vz,ah⟩:∃ dq,dq=ar:=⟨_,rfl⟩;subst ah;rotate_left;obtain⟨l0,l3,ll⟩:=KC ar hb;go_simp;clear l0 l3 ll;clear z;refine hK.out _ _ (KS _ (Gr.of Q)) (λz=>?_);clear hK KQ;(try simp only[aE,ZA,ZB,ZC]);refine rdY 5 rfl (λKQ hK=>?_);obtain⟨l0,l3,ll⟩:=KC ar hb;go_simp;clear l0 l3 ll;clear z;refine hK.out _ _ (KS _ (Gr.of Q)) (λz=>?_);clear hK KQ;(try simp only[aE,ZA,ZB,ZC]);obtain⟨vz,ah⟩:∃ dq,dq=ar:=⟨_,rfl⟩;subst ah;rotate_left;obtain⟨l0,l3,ll⟩:=KC X.drew hb;go_simp;clear l0 l3 ll;clear z;refine hK.out _ _ (KS _ (Gr.of Q)) (λz=>?_);clear hK KQ;(try simp only[aE,ZA,ZB,ZC]);refine bP (rs:=[5,7]) (by kernel_rfl) (by simp) ?_;refine rdC rfl (λKQ hK=>?_) (rdC rfl (λKQ hK=>?_) AllReadyH.nil);obtain⟨l0,l3,ll⟩:=KC X.drew hb;go_simp;clear l0 l3 ll;clear z;refine hK.out _ _ (KS _ (Gr.of Q)) (λz=>?_);clear hK KQ;(try simp only[aE,ZA,ZB,ZC])
  refine rdS 7 rfl (CC X.drew hb) ?_;rintro e da ⟨rfl,ac⟩;have hb:=Zf hb ac;have Q:=Zf Q ac;clear z;refine⟨_,rfl,(KS _ (Gr.of Q)),λz=>?_⟩;(try simp only[aE,ZA,ZB,ZC]);refine rdS 15 rfl (CH da hb) ?_;rintro e db ⟨rfl,ac⟩;have hb:=Zf hb ac;have Q:=Zf Q ac;clear z;refine⟨_,rfl,(KS _ (Gr.of Q)),λz=>?_⟩;refine tkL 16 (v:=.int .i64 (dq+1)) rfl z ?_;obtain⟨vz,ah⟩:∃ dq,dq=db:=⟨_,rfl⟩;subst ah;rotate_left;refine Zn (by kernel_rfl) 108 #[.pointer (some ⟨d,0,none⟩)] (by kernel_rfl) (CC X.drew hb) ?_;rintro e be ⟨rfl,ac⟩;refine⟨_,rfl,?_⟩;have hb:=Zf hb ac;have Q:=Zf Q ac;clear z;refine hK.out _ _ (KS _ (Gr.of Q)) (λz=>?_);clear hK KQ;(try simp only[aE,ZA,ZB,ZC]);refine bP (rs:=[5,15]) (by kernel_rfl) (by simp) ?_;refine rdC rfl (λKQ hK=>?_) (rdC rfl (λKQ hK=>?_) AllReadyH.nil);obtain⟨l0,l3,ll⟩:=KC be hb;go_simp;clear l0 l3 ll;clear z;refine hK.out _ _ (KS _ (Gr.of Q)) (λz=>?_);clear hK KQ;(try simp only[aE,ZA,ZB,ZC]);refine rdS 15 rfl (CH be hb) ?_;rintro e dc ⟨rfl,ac⟩;have hb:=Zf hb ac;have Q:=Zf Q ac;clear z;refine⟨_,rfl,(KS _ (Gr.of Q)),λz=>?_⟩;refine tkL 16 (v:=.int .i64 (dq+1)) rfl z ?_;obtain⟨vz,ah⟩:∃ dq,dq=dc:=⟨_,rfl⟩;subst ah;rotate_left;refine Zn (by kernel_rfl) 165 #[.pointer (some ⟨d,0,none⟩)] (by kernel_rfl) (CH be hb) ?_;rintro e cc ⟨rfl,ac⟩;refine⟨_,rfl,?_⟩;have hb:=Zf hb ac;have Q:=Zf Q ac;clear z;refine hK.out _ _ (KS _ (Gr.of Q)) (λz=>?_);clear hK KQ;refine tkL 16 (v:=.int .i64 (dq+1)) rfl z ?_
  refine rdY 5 rfl (λKQ hK=>?_);obtain⟨l0,l3,ll⟩:=KC cc hb;go_simp;clear l0 l3 ll;clear z;refine hK.out _ _ (KS _ (Gr.of Q)) (λz=>?_);clear hK KQ;(try simp only[aE,ZA,ZB,ZC]);obtain⟨vz,ah⟩:∃ dq,dq=cc:=⟨_,rfl⟩;subst ah;rotate_left
  all_goals
   refine rdS 17 rfl (CS vz hb) ?_;rintro e vy ⟨k5,bs,br,sa,sn,sc,rfl,ct,cy,cz,ac⟩;have cu:=Zf hb ac;have bk:=Zf Q ac;have bh:Gr X vy (λq=>q=d):=Gr.of bk;clear z;refine⟨_,rfl,(KS _ (Gr.of bk)),λz=>?_⟩;refine tkL 18 rfl z ?_;refine tkL 19 rfl z ?_;refine tkL 20 rfl z ?_;refine tkL 21 rfl z ?_;refine tkL 22 rfl z ?_;refine tkL 23 rfl z ?_;have Q:=ZE cu H.box;have y0:=Zb Q 0 _ rfl;have y3:=Zb Q 3 _ rfl;have g0:=Zg Q 0;have g3:=Zg Q 3;have yl:=lt_of_block Q;refine rdY 24 rfl (λKQ hK=>?_);go_simp;clear z;refine hK.out _ _ (KS _ (bh.one d 0 (.inl rfl) _)) (λz=>?_);clear hK KQ;(try simp only[aE]);refine tkL 25 rfl z ?_;refine tkL 26 rfl z ?_;refine tkL 27 rfl z ?_;refine rdY 28 rfl (λKQ hK=>?_);go_simp;clear z;refine hK.out _ _ (KS _ ((bh.one d 0 (.inl rfl) _).one d 3 (.inl rfl) _)) (λz=>?_);clear hK KQ;(try simp only[aE]);refine tkL 29 rfl z ?_;refine wpAnyH_done (by kernel_rfl) ?_ _;clear z;go_wp2_with fail;go_meet
   case rel=>
    exact⟨rfl,k5,bs,br,sa,sn,sc,H.swept hb ac ct cy cz (((Gr.refl vy (λq=>q=d)).one d 0 (.inl rfl) (F k5 bs br)).one d 3 (.inl rfl) (F sa sn sc)) (Tr.set_cells (Tr.set_cells Q 0 _) 3 _)⟩
 case rest=>
  obtain⟨rfl,HD⟩:=hcut;clear KS KC CC CH CS H;go_wp2;go_ret;exact⟨rfl,Za HD⟩
end
theorem Zgl(w:World)(b1:Nat)(th:Int)(ai ao ni ci no co I O K N T P)(tip:Int)(β : Int->List Zj)(x:Int)(Q P1)(hE:Env w)(hI:InsAt w ai ni I)(hO:OutsAt w ao no O)(sI:SlOk ai ni ci)(sO:SlOk ao no co)(ht:(Lit.int .i64 tip).wf=true)(h1:0<=Yt N T tip)(h2:Yt N T tip<=1000)
  (ae:w.heap[b1]? = some (cR [.int .i64 th,F ai ni ci,F ao no co].toArray 59 (0,0))) (hx:acE K (β tip) P (th,I,O) (Yt N T tip+1)=(x,Q,P1)) :
  DoC 110 #[.pointer (some ⟨b1,0,none⟩)] w (λ_=>False) ⟨K,N,T,P,tip,β⟩ x ⟨Q,N,T,P1,tip,β⟩ (λ_ _=>True) where
 enters:=enters_of (fn:=Tryz.f110) (by kernel_rfl) (by kernel_rfl) rfl
 old q e:=e.elim
 on B V V':=λh _=>h
 call B V d bm m hB hV hD hd hbm hm:=by
  obtain⟨k1,av,au,n1,bb,az,t1,bo,bk,p1,bf,be,f,hq⟩:=hD;have C1:=Zd (Zec hq (hE.later hV) ht h1 h2 th ai ao ni ci no co I O (hI.later hV) (hO.later hV) sI sO Q P1 x hx);have z:=ZE hV ae;have q0:=Zb z 0 _ rfl;have q1:=Zb z 1 _ rfl;have q2:=Zb z 2 _ rfl;have ql:=lt_of_block z;clear hq hE hI hO sI sO hx ae z ht h1 h2;show Calls Tryz.prog 110 #[.pointer (some ⟨d,0,none⟩),.pointer (some ⟨b1,0,none⟩)] V _;go_enter func110,ntmps110;go_wp2_with fail;refine C1.mono ?_;rintro e w1 ⟨rfl,k2,ay,ax,p2,bi,bh,ab,g2⟩;have HK:Hid (KeptOn (λq=>q<B) w1 d bm ⟨Q,N,T,P1,tip,β⟩):=DeskOn.kept (m:=m) ⟨_,_,_,_,_,_,_,_,_,_,_,_,_,ab⟩;have HG:Hid (Gr V w1 (λq=>q=d\/q=bm\/False)):=g2.mono (λq _ e=>.inl e);clear ab g2 C1 q0 q1 q2 ql;go_wp2;go_ret;exact⟨rfl,Za HG,λ_=>Za HK,trivial⟩
def noR(K:List ByteArray)(N:List Int)(T:List Zl)(P:List TxD)(tip:Int)(t:TxD):Int×Dsk:=
 if opE K N T P tip≠0 then (opE K N T P tip,Dsk.none) else
 if (acE K ((Z3 K N T noB).2 tip) P t (Yt N T tip+1)).1≠0 then ((acE K ((Z3 K N T noB).2 tip) P t (Yt N T tip+1)).1,Dsk.none) else
 (0,⟨(acE K ((Z3 K N T noB).2 tip) P t (Yt N T tip+1)).2.1,N,T,(acE K ((Z3 K N T noB).2 tip) P t (Yt N T tip+1)).2.2,tip,(Z3 K N T noB).2⟩)
theorem Zcp(ka kn kc K na ba pa nn nc bn bc pn pc N T P)(tip:Int)(w:World)(hE:Env w)(hK:Bk.TextsAt w ka kn K)(hN:Tr.IntsAt w na nn N)(hT:Tr.BlksAt w ba bn T)(hP:TxsAt w pa pn P)(sN:SlOk na nn nc)(sT:SlOk ba bn bc)(sP:SlOk pa pn pc)(hp:pn<=2513169434916)(hq:∀ t∈P,Tr.TxSmall t)
  (th:Int) (ai ao ni ci no co I O) (hI:InsAt w ai ni I) (hO:OutsAt w ao no O) (sI:SlOk ai ni ci) (sO:SlOk ao no co) (x:Int) (D:Dsk) (hx:noR K N T P tip (th,I,O)=(x,D)) :
  Calls Tryz.prog 42 #[.agg #[F ka kn kc],.agg #[F na nn nc,F ba bn bc,F pa pn pc,E J tip],.agg #[E J th,F ai ni ci,F ao no co]] w λe w'=>Sh w w' x D e/\ZD w w':=by
 obtain⟨X,hX⟩:=ZG (Yr w [cR #[F ka kn kc] 24,cR #[F na nn nc,F ba bn bc,F pa pn pc,E J tip] 67,cR #[E J th,F ai ni ci,F ao no co] 59,cR #[F none 0 0] 24,cR #[F none 0 0,F none 0 0,F none 0 0,E J 0] 67]);have bo:X=((((w.alloc (cR #[F ka kn kc] 24)).alloc (cR #[F na nn nc,F ba bn bc,F pa pn pc,E J tip] 67)).alloc (cR #[E J th,F ai ni ci,F ao no co] 59)).alloc (cR #[F none 0 0] 24)).alloc (cR #[F none 0 0,F none 0 0,F none 0 0,E J 0] 67):=hX;have z:ZD w X:=by rw[hX];exact Zs _ _
 have bq:X.heap.size=w.heap.size+5:=by rw[hX];exact Zy _ _
 have az:X.heap[w.heap.size]? = some (cR [F ka kn kc].toArray 24 (0,0)):=by rw[hX];exact Zk _ w 0 _ rfl
 have ab:X.heap[w.heap.size+1]? = some (cR [F na nn nc,F ba bn bc,F pa pn pc,E J tip].toArray 67 (0,0)):=by rw[hX];exact Zk _ w 1 _ rfl
 have ca:X.heap[w.heap.size+2]? = some (cR [E J th,F ai ni ci,F ao no co].toArray 59 (0,0)):=by rw[hX];exact Zk _ w 2 _ rfl
 have cb:X.heap[w.heap.size+3]? = some (cR [F none 0 0].toArray 24 (0,0)):=by rw[hX];exact Zk _ w 3 _ rfl
 have cc:X.heap[w.heap.size+4]? = some (cR [F none 0 0,F none 0 0,F none 0 0,E J 0].toArray 67 (0,0)):=by rw[hX];exact Zk _ w 4 _ rfl
 obtain⟨x0,ah⟩:=ZF (opE K N T P tip);obtain⟨⟨x1,K1,P1⟩,am⟩:=ZF (acE K ((Z3 K N T noB).2 tip) P (th,I,O) (Yt N T tip+1));unfold noR at hx;simp only[ah,am] at hx
 have C1:=Zd (R6 ka kn kc K na ba pa nn nc bn bc pn pc N T P tip x0 X (hE.later z) (hK.later z) (hN.later z) (hT.later z) (hP.later z) sN sT sP hp hq ah 110 #[cU (some ⟨w.heap.size+2,0,none⟩)] (λ_=>False) x1 ⟨K1,N,T,P1,tip,(Z3 K N T noB).2⟩ (λ_ _=>True) (λe=>by
  have bw:=Gk (Yp (ah.trans e)).2.1;exact Zgl X (w.heap.size+2) th ai ao ni ci no co I O K N T P tip _ x1 K1 P1 (hE.later z) (hI.later z) (hO.later z) sI sO bw.1 bw.2.1 bw.2.2 ca am))
 have HX:=Zd hx;have bb:=Zd z;have bg:=Zd bq;have be:=Zd cb;have bf:=Zd cc;have t0:=Zb az 0 _ rfl;have t1:=Zb ab 0 _ rfl;have t2:=Zb ab 1 _ rfl;have t3:=Zb ab 2 _ rfl;have t4:=Zb ab 3 _ rfl;have tl:=lt_of_block az;have cp:=lt_of_block ab;clear hE hK hN hT hP sN sT sP hp hq hx hI hO sI sO ah am z bq az ab ca cb cc hX;go_enter func42,ntmps42;go_wp2_with fail;rw[<-bo];clear bo;(try go_wp2_with fail);refine C1.mono ?_;intro e w1 hr
 obtain⟨⟨k5,aq,ap,n5,av,au,b5,al,ak,p5,ay,ax,rfl,hF,s1,s2,s3,s4⟩,af⟩:Sh X w1 x D e/\ZD X w1:=by
  have Q:=Za HX
  rcases hr with ⟨h0,hc,hb⟩|⟨h0,g,-,hr⟩
  ·rw[if_pos h0] at Q;simp only[aP] at Q;obtain⟨rfl,rfl⟩:=Q;exact⟨hc,hb⟩
  ·rw[if_neg (λq=>q h0)] at Q;have hb:ZD X w1:=g.below (Below.refl _ _) (Nat.le_refl _) (λ_ q=>q.elim)
   rcases hr with ⟨h1,hc⟩|⟨h1,hc⟩
   ·rw[if_pos h1] at Q;simp only[aP] at Q;obtain⟨rfl,rfl⟩:=Q;exact⟨hc,hb⟩
   ·rw[if_neg (λq=>q h1)] at Q;simp only[aP] at Q;obtain⟨rfl,rfl⟩:=Q;exact⟨hc,hb⟩
 have h3:=ZE af be;have h4:=ZE af bf;have o0:=Zb h3 0 _ rfl;have of:=Zg h3 0;have ol:=lt_of_block h3;have p0:=Zb h4 0 _ rfl;have p1:=Zb h4 1 _ rfl;have p2:=Zb h4 2 _ rfl;have p3:=Zb h4 3 _ rfl;have db:=Zg h4 0;have dc:=Zg h4 1;have dd:=Zg h4 2;have de:=Zg h4 3;have pl:=lt_of_block h4
 have cd:Hid (∀ W,Gr w1 W (λq=>q=w.heap.size+3\/q=w.heap.size+4)->Sh w W x D (cS (cT #[.agg #[F k5 aq ap],.agg #[F n5 av au,F b5 al ak,F p5 ay ax,E J D.tip],E J x]))/\ZD w W):=λW g=>by
  have ct:=Za bg;refine⟨⟨k5,aq,ap,n5,av,au,b5,al,ak,p5,ay,ax,rfl,λW2 g2=>hF W2 ((g.mono (λq _ e=>?_)).trans (g2.mono (λq _ e=>?_))),s1,s2,s3,s4⟩,?_⟩
  ·show q<X.heap.size;omega
  ·have e:q<w.heap.size:=e;show q<X.heap.size;omega
  ·have b1:=Zf bb af;exact g.below b1 b1.size (λq e=>by omega)
 clear hr hF s1 s2 s3 s4 af h3 h4 HX be bf C1 t0 t1 t2 t3 t4 tl cp bg bb;go_wp2;(try simp only[Exit.inBlock,Exit.then]);refine bodyPost_ret (v:=cT #[.agg #[F k5 aq ap],.agg #[F n5 av au,F b5 al ak,F p5 ay ax,E J D.tip],E J x]) ?_ rfl ?_
 ·rw[Xi rfl];go_simp
 ·exact cd _ (((Gr.refl w1 (λq=>q=w.heap.size+3\/q=w.heap.size+4)).one (w.heap.size+3) 0 (.inl (.inl rfl)) _).four (w.heap.size+4) (.inl (.inr rfl)) _ _ _ _)
