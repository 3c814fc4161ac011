import Derived.Test.YtmomfkikogbdeaaGreatDoorH
import Derived.Test.YtmomfkikogbdeaaGreatDoorG41
open Go renaming bodyPost_ret->bA
open Go.Ending renaming returned->cY
open Go.Exit renaming inBlock->aV
open Go.IntKind renaming i64->J
open Go.Obj renaming cells->cW
open Go.Proofs.Tryz renaming prog->aB
open Go.Value renaming int->E,slice->F,tuple->cZ,pointer->dA
set_option maxHeartbeats 12800000
set_option maxRecDepth 10000
namespace Go.Proofs.YtmomfkikogbdeaaGreatDoor
open Go.RowKit
theorem Yc{W:WD}(h:Vv W.k W.n W.m=0):1<=W.n.length/\W.n.length<=4/\Bk.bkChk W.k=0/\W.k.length<=120/\W.m.length<=20/\(∀ y∈W.n,opN W.k y=0)/\∀ m∈W.m,Ta m W.n.length=0:=by
 unfold Vv at h;by_cases h1:1<=W.n.length/\W.n.length<=4;rotate_left
 ·rw[if_pos h1] at h;exact absurd h (by decide)
 rw[if_neg (λq=>q h1)] at h;by_cases h2:Bk.bkChk W.k=0;rotate_left
 ·rw[if_pos h2] at h;exact absurd h h2
 rw[if_neg (λq=>q h2)] at h;by_cases h3:20<W.m.length
 ·rw[if_pos h3] at h;exact absurd h (by decide)
 rw[if_neg h3] at h;by_cases h4:We W.k W.n=0;rotate_left
 ·rw[if_pos h4] at h;exact absurd h h4
 rw[if_neg (λq=>q h4)] at h
 have n0:∀ L,We W.k L=0->∀ y∈L,opN W.k y=0:=by
  intro L
  induction L with
  | nil=>intro _ y z;cases z
  | cons x L ih=>
   intro h y z;rw[We] at h;by_cases e:opN W.k x=0
   ·rw[if_neg (λq=>q e)] at h
    rcases List.mem_cons.1 z with rfl|z
    ·exact e
    ·exact ih h y z
   ·rw[if_pos e] at h;exact absurd h e
 have m0:∀ L,Uk W.n.length L=0->∀ y∈L,Ta y W.n.length=0:=by
  intro L
  induction L with
  | nil=>intro _ y z;cases z
  | cons x L ih=>
   intro h y z;rw[Uk] at h;by_cases e:Ta x W.n.length=0
   ·rw[if_neg (λq=>q e)] at h
    rcases List.mem_cons.1 z with rfl|z
    ·exact e
    ·exact ih h y z
   ·rw[if_pos e] at h;exact absurd h e
 refine⟨h1.1,h1.2,h2,?_,by omega,n0 _ h4,m0 _ h⟩;unfold Bk.bkChk at h2;by_cases e:120<W.k.length
 ·rw[if_pos e] at h2;exact absurd h2 (by decide)
 ·omega
theorem Zdr{K:List ByteArray}{y:Vu}(h:opN K y=0)(hs:Qb y):Zij y:=by
 obtain⟨_,Q,_⟩:=Wx h;have z:=Vk (Xr Q).1;exact⟨z.1,Nat.le_trans z.2.1 (by decide),z.2.2.2.2.1,hs⟩
def WorldAt(w:World)(W:WD)(ka:Option Addr)(kn:Nat)(na:Option Addr)(nn:Nat)(ma:Option Addr)(mn:Nat):Prop:=Bk.TextsAt w ka kn W.k/\NodsAt w na nn W.n/\MsgsAt w ma mn W.m
def Ci(w w':World)(x:Int)(W:WD)(e:Ending):Prop:=Below w.heap.size w w'/\((x≠0/\e = cY (cZ #[.agg #[F none 0 0,F none 0 0,F none 0 0],E J x])) \/
 (x=0/\∃ ka kn kc na nn nc ma mn mc,e = cY (cZ #[.agg #[F ka kn kc,F na nn nc,F ma mn mc],E J 0])/\Fresh w.heap.size w' (λw2=>WorldAt w2 W ka kn na nn ma mn)/\SlOk ka kn kc/\SlOk na nn nc/\SlOk ma mn mc))
theorem Sc.fresh{B s:Nat}{W:WD}{w:World}(h:Sc (λq=>q<B) s W w):∃ ka kn kc na nn nc ma mn mc,w.heap[s]? = some (cW [F ka kn kc,F na nn nc,F ma mn mc].toArray 287 (0,0))/\Fresh B w (λw2=>WorldAt w2 W ka kn na nn ma mn)/\SlOk ka kn kc/\SlOk na nn nc/\SlOk ma mn mc:=by
 obtain⟨ka,kn,kc,vn,vm,Kn,Km,z⟩:=h;obtain⟨na,nc,ma,mc,rfl,rfl,_,_,s1,s2⟩:=z.on.read;refine⟨ka,kn,kc,na,_,nc,ma,_,mc,z.box,λV g=>?_,z.on.sk,s1,s2⟩;have d:=z.on.dat V (g.mono (λq _ e=>.inl (.inl e)));obtain⟨a1,c1,Q,r1,_⟩:=Tr.rows_of_own Tr.nodR (g.own z.on.rn (λq hq e=>(z.zs q e).2.2.1 hq)) d.2.1 rfl;obtain⟨a2,c2,e2,r2,_⟩:=Tr.rows_of_own Tr.msgR (g.own z.on.rm (λq hq e=>(z.zs q e).2.2.2 hq)) d.2.2 rfl;cases Q;cases e2;exact⟨d.1,r1,r2⟩
theorem Aa(ka:Option Addr)(kn kc:Nat)(na:Option Addr)(nn nc:Nat)(ma:Option Addr)(mn mc:Nat)(W:WD)(Q y x:Int)(W':WD)(f:Nat)(caps:Array Value)(w:World)(hE:Env w)(hK:Bk.TextsAt w ka kn W.k)(hN:NodsAt w na nn W.n)(hM:MsgsAt w ma mn W.m)(sK:SlOk ka kn kc)(sN:SlOk na nn nc)(sM:SlOk ma mn mc)(az:∀ y∈W.n,Qb y)(cc:∀ m∈W.m,V8 m)(h0:Vv W.k W.n W.m=Q)
  (hf:Q=0->(∀ args w,(callFunc f args).run aB w = .ok (.enter f args) w)/\∀ Z V s,(∀ q,q<w.heap.size->Z q)->Below w.heap.size w V->Sc Z s W V->Calls aB f (#[dA (some ⟨s,0,none⟩)]++caps) V λe V'=>Qx Z s y W' V V' e) (hx:(if Q=0 then y else Q)=x) :
  Calls aB 119 #[.agg #[F ka kn kc,F na nn nc,F ma mn mc],.func (.func f) #[] caps] w λe w'=>Ci w w' x W' e:=by
 obtain⟨X,hX⟩:=ZG (Yp w [cW #[F ka kn kc,F na nn nc,F ma mn mc] 90,cW #[F none 0 0,F none 0 0,F none 0 0] 90]);have bx:X=(w.alloc (cW #[F ka kn kc,F na nn nc,F ma mn mc] 90)).alloc (cW #[F none 0 0,F none 0 0,F none 0 0] 90):=hX;have ad:Below w.heap.size w X:=by rw[hX];exact Zs _ _
 have bz:X.heap.size=w.heap.size+2:=by rw[hX];exact Z4 _ _
 have bo:X.heap[w.heap.size]? = some (cW [F ka kn kc,F na nn nc,F ma mn mc].toArray 90 (0,0)):=by rw[hX];exact Zk _ w 0 _ rfl
 have ct:X.heap[w.heap.size+1]? = some (cW [F none 0 0,F none 0 0,F none 0 0].toArray 90 (0,0)):=by rw[hX];exact Zk _ w 1 _ rfl
 have C1:=Zd (Kf ka kn kc W.k na nn nc W.n ma mn mc W.m Q X (hE.later ad) (hK.later ad) (hN.later ad) (hM.later ad) az h0)
 have C2:Hid (Q=0->∀ V,Below w.heap.size w V->_):=λe V hv=>by
  obtain⟨q1,q2,q3,q4,q5,q6,q7⟩:=Yc (W:=W) (h0.trans e);exact B8 ka kn kc W.k na nn nc W.n ma mn mc W.m V (hK.later hv) (hN.later hv) (hM.later hv) sK sN sM (by rw[<-hK.1];omega) (by rw[<-hN.1];omega) (by rw[<-hM.1];omega) (λy hy=>Zdr (q6 y hy) (az y hy)) cc
 have HF:=Zd hf;have bt:=Zd ad;have cw:=Zd bz;have aj:=Zd bo;have z:=Zd ct;have aw:=Zd hx;obtain⟨m0,m1,m2,ml⟩:=cl3 (Zd bo);clear hE hK hN hM sK sN sM az cc h0 hf hx ad bz bo ct hX;go_enter Tryz.func119,Tryz.ntmps119
 go_upto_region 1 with fail
 rw[<-bx];clear bx;go_wp2_with fail;refine C1.mono ?_;rintro e w1 ⟨rfl,ak⟩;have cu:=Zd ak;have ah:=onb bt ak;have aj:=mvd ak aj;have z:=mvd ak z;clear ak C1 bt m0 m1 m2 ml;by_cases hz:Q=0;rotate_left
 ·have e:Q=x:=by have:=Za aw;rw[if_neg hz] at this;exact this
  subst e;have gx:(Q != 0)=true:=by simp[hz]
  obtain⟨r0,r1,r2,rl⟩:=cl3 z;have f0:=Zg z 0;have f1:=Zg z 1;have f2:=Zg z 2;have ag:Hid (∀ V,Gr w1 V (λq=>q=w.heap.size+1)->Ci w V Q W' (cY (cZ #[.agg #[F none 0 0,F none 0 0,F none 0 0],E J Q]))):=λV g=>⟨g.below ah ah.size (λq e=>by have e:q=w.heap.size+1:=e;omega),.inl ⟨hz,rfl⟩⟩;clear C2 HF aj z;go_wp2;(try simp only[aV,Exit.then]);refine bA (v:=cZ #[.agg #[F none 0 0,F none 0 0,F none 0 0],E J Q]) ?_ rfl ?_
  ·rw[Zo rfl];go_simp
  ·refine ag _ ?_
   repeat' first|refine Gr.one ?_ _ _ ?_ _|exact Gr.refl _ _
   all_goals exact Or.inl rfl
 subst hz;have ey:y=x:=by have:=Za aw;rw[if_pos rfl] at this;exact this
 subst ey;obtain⟨eg,ca⟩:=HF rfl;have bu:=Zd ca;have C3:=Zd (C2 rfl w1 ah);obtain⟨m0,m1,m2,ml⟩:=cl3 aj;clear ca C2 HF aw;go_wp2_with fail;refine C3.mono ?_;rintro e w2 ⟨ka',kc',vn,vm,Kn,Km,rfl,ae,o1,o2,al⟩;obtain⟨na',nc',cd,ce,rfl,rfl,_⟩:=ae.read;have bs:=onb ah al;have z:=mvd al z;obtain⟨w3,aq⟩:∃ v,v=w2.alloc (cW #[F ka' kn kc',F na' W.n.length nc',F cd W.m.length ce] 287):=⟨_,rfl⟩;have aa:Below w2.heap.size w2 w3:=by rw[aq];exact Zh _ _
 have h3:w3.heap[w2.heap.size]? = some (cW [F ka' kn kc',F na' W.n.length nc',F cd W.m.length ce].toArray 287 (0,0)):=by rw[aq];exact heap_alloc_new _ _
 have dp:=ah.size;have dq:=bs.size;have ds:=Za cw;have dd:=cu.size;have dr:=Nat.le_trans dd al.size
 have bv:Sc (λq=>q<w.heap.size+2) w2.heap.size W w3:=by
  refine⟨ka',kn,kc',_,_,Kn,Km,h3,λq e=>?_,(ae.later aa).rn,(ae.later aa).rm,λV gV=>ae.dat V ((Gr.of aa).far gV (λq e=>?_)),ae.sk⟩
  ·have e:q<w.heap.size+2:=e;have:=al.size;have:=aa.size;exact⟨by omega,by omega,λh=>by have:=o1 q h;omega,λh=>by have:=o2 q h;omega⟩
  ·rcases e with (e|e)|e
   ·exact .inr (.inl (by have e:q<w.heap.size+2:=e;omega))
   ·exact .inl (Nat.le_of_eq (Eq.symm e))
   ·exact .inr (.inr e)
 have am:=onb bs aa;have z:=mvd aa z;have C4:=Zd (bu (λq=>q<w.heap.size+2) w3 w2.heap.size (λq e=>by show q<w.heap.size+2;omega) am bv);clear ae o1 o2 al aa h3 bv C3 bu m0 m1 m2 ml aj
 go_upto_region 5 with fail
 rw[<-aq];clear aq;go_wp2_with fail;refine C4.mono ?_;rintro e w4 ⟨rfl,ax,ay⟩;have an:Hid (Below w.heap.size w w4):=ay.below am am.size (λq e=>by have e:¬q<w.heap.size+2:=e;omega);have ab:Hid (w4.heap[w.heap.size+1]? = some (cW [F none 0 0,F none 0 0,F none 0 0].toArray 90 (0,0))):=ay.heap z (λe=>e (by omega));obtain⟨r0,r1,r2,rl⟩:=cl3 ab;have f0:=Zg ab 0;have f1:=Zg ab 1;have f2:=Zg ab 2;clear ay C4 z am;by_cases hy:y=0;rotate_left
 ·have gx:(y != 0)=true:=by simp[hy]
  have ag:Hid (∀ V,Gr w4 V (λq=>q=w.heap.size+1)->Ci w V y W' (cY (cZ #[.agg #[F none 0 0,F none 0 0,F none 0 0],E J y]))):=λV g=>⟨g.below an an.size (λq e=>by have e:q=w.heap.size+1:=e;omega),.inl ⟨hy,rfl⟩⟩;clear ax ab;go_wp2;(try simp only[aV,Exit.then]);refine bA (v:=cZ #[.agg #[F none 0 0,F none 0 0,F none 0 0],E J y]) ?_ rfl ?_
  ·rw[Zo rfl];go_simp
  ·refine ag _ ?_
   repeat' first|refine Gr.one ?_ _ _ ?_ _|exact Gr.refl _ _
   all_goals exact Or.inl rfl
 ·subst hy;obtain⟨k1,bf,be,n1,bk,bj,m1,bh,bg,h4,hF,s1,s2,s3⟩:=Sc.fresh (ax rfl);have ag:Hid (∀ V,Gr w4 V (λq=>q=w.heap.size+1)->Ci w V 0 W' (cY (cZ #[.agg #[F k1 bf be,F n1 bk bj,F m1 bh bg],E J 0]))):=λV g=>⟨g.below an an.size (λq e=>by have e:q=w.heap.size+1:=e;omega),.inr ⟨rfl,k1,bf,be,n1,bk,bj,m1,bh,bg,rfl,(hF.on (g.mono (λq _ e=>by have e:q=w.heap.size+1:=e;omega))).less (by omega),s1,s2,s3⟩⟩;obtain⟨d0,d1,d2,dl⟩:=cl3 (Zd h4);have nd:w2.heap.size≠w.heap.size+1:=by omega
  clear ax ab h4 hF s1 s2 s3;go_wp2;(try simp only[aV,Exit.then]);refine bA (v:=cZ #[.agg #[F k1 bf be,F n1 bk bj,F m1 bh bg],E J 0]) ?_ rfl ?_
  ·rw[Zo rfl];go_simp
  ·refine ag _ ?_
   repeat' first|refine Gr.one ?_ _ _ ?_ _|exact Gr.refl _ _
   all_goals exact Or.inl rfl
def Hp(z:Value)(W:WD)(y:Int)(W':WD):Prop:=∀ Z V s,(∀ U,Gr V U (λq=>¬Z q)->Env U)->Sc Z s W V->Calls aB 129 #[dA (some ⟨s,0,none⟩),z] V λe V'=>Qx Z s y W' V V' e
theorem Zfy(Z:Nat->Prop)(s b:Nat)(xk xn xt xi xw xN th:Int)(ai ao:Option Addr)(ni ci no co:Nat)(W:WD)(y:Int)(W':WD)(w:World)(hE:∀ U,Gr w U (λq=>¬Z q)->Env U)(hS:Sc Z s W w)(z:w.heap[b]? = some (cW [E J xk,E J xn,E J xt,E J xi,E J xw,E J xN,E J th,F ai ni ci,F ao no co].toArray 103 (0,0)))(Q:Hp (.agg #[E J xk,E J xn,E J xt,E J xi,E J xw,E J xN,E J th,F ai ni ci,F ao no co]) W y W') :
  Calls aB 128 #[dA (some ⟨s,0,none⟩),dA (some ⟨b,0,none⟩)] w λe w'=>Qx Z s y W' w w' e:=by
 have C1:=Zd (Q Z w s hE hS);have m0:=Zb z 0 _ rfl;have m1:=Zb z 1 _ rfl;have m2:=Zb z 2 _ rfl;have m3:=Zb z 3 _ rfl;have m4:=Zb z 4 _ rfl;have m5:=Zb z 5 _ rfl;have m6:=Zb z 6 _ rfl;have m7:=Zb z 7 _ rfl;have m8:=Zb z 8 _ rfl;have ml:=lt_of_block z;clear hE hS z Q;go_enter Tryz.func128,Tryz.ntmps128;go_wp2_with fail;refine C1.mono ?_;rintro e w1 ⟨rfl,h1,h2⟩;have H1:=Zd h1;have H2:=Zd h2;clear h1 h2 C1;go_wp2;go_ret;exact⟨rfl,Za H1,Za H2⟩
theorem Te(ka:Option Addr)(kn kc:Nat)(na:Option Addr)(nn nc:Nat)(ma:Option Addr)(mn mc:Nat)(xk xn xt xi xw xN th:Int)(ai ao:Option Addr)(ni ci no co:Nat)(W:WD)(x0 y x:Int)(W':WD)(w:World)(hE:Env w)(hK:Bk.TextsAt w ka kn W.k)(hN:NodsAt w na nn W.n)(hM:MsgsAt w ma mn W.m)(sK:SlOk ka kn kc)(sN:SlOk na nn nc)(sM:SlOk ma mn mc)(ax:∀ y∈W.n,Qb y)(aw:∀ m∈W.m,V8 m)(h0:Vv W.k W.n W.m=x0)
  (hH:x0=0->Hp (.agg #[E J xk,E J xn,E J xt,E J xi,E J xw,E J xN,E J th,F ai ni ci,F ao no co]) W y W') (hx:(if x0=0 then y else x0)=x) :
  Calls aB 53 #[.agg #[F ka kn kc,F na nn nc,F ma mn mc],.agg #[E J xk,E J xn,E J xt,E J xi,E J xw,E J xN,E J th,F ai ni ci,F ao no co]] w λe w'=>Ci w w' x W' e:=by
 obtain⟨X,Q⟩:=ZG (Yp w [cW #[F ka kn kc,F na nn nc,F ma mn mc] 90,cW #[E J xk,E J xn,E J xt,E J xi,E J xw,E J xN,E J th,F ai ni ci,F ao no co] 103,cW #[F none 0 0,F none 0 0,F none 0 0] 90]);have av:X=((w.alloc (cW #[F ka kn kc,F na nn nc,F ma mn mc] 90)).alloc (cW #[E J xk,E J xn,E J xt,E J xi,E J xw,E J xN,E J th,F ai ni ci,F ao no co] 103)).alloc (cW #[F none 0 0,F none 0 0,F none 0 0] 90):=Q;have aa:Below w.heap.size w X:=by rw[Q];exact Zs _ _
 have bu:X.heap.size=w.heap.size+3:=by rw[Q];exact Z4 _ _
 have bg:X.heap[w.heap.size]? = some (cW [F ka kn kc,F na nn nc,F ma mn mc].toArray 90 (0,0)):=by rw[Q];exact Zk _ w 0 _ rfl
 have bh:X.heap[w.heap.size+1]? = some (cW [E J xk,E J xn,E J xt,E J xi,E J xw,E J xN,E J th,F ai ni ci,F ao no co].toArray 103 (0,0)):=by rw[Q];exact Zk _ w 1 _ rfl
 have bi:X.heap[w.heap.size+1+1]? = some (cW [F none 0 0,F none 0 0,F none 0 0].toArray 90 (0,0)):=by rw[Q];exact Zk _ w 2 _ rfl
 have C1:=Zd (Aa ka kn kc na nn nc ma mn mc W x0 y x W' 128 #[dA (some ⟨w.heap.size+1,0,none⟩)] X (hE.later aa) (hK.later aa) (hN.later aa) (hM.later aa) sK sN sM ax aw h0 (λe=>⟨enters_of (fn:=Tryz.f128) (by kernel_rfl) (by kernel_rfl) rfl,λZ V s hZ hV hS=>Zfy Z s (w.heap.size+1) xk xn xt xi xw xN th ai ao ni ci no co W y W' V (λU g=>hE.later (Zf aa (g.below hV hV.size (λq h=>by
  rcases Nat.lt_or_ge q X.heap.size with k|k
  ·exact absurd (hZ q k) h
  ·exact k)))) hS ((hV.block _ (by omega)).trans bh) (hH e)⟩) hx)
 have aq:=Zd aa;have z:=Zd bi;obtain⟨m0,m1,m2,ml⟩:=cl3 (Zd bg);clear hE hK hN hM sK sN sM ax aw h0 hH hx aa bg bh bi Q;go_enter Tryz.func53,Tryz.ntmps53
 go_upto_region 1 with fail
 rw[<-av];clear av;go_wp2_with fail;refine C1.mono ?_;rintro e w1 ⟨ag,hr⟩;have ad:=onb aq ag;have z:=mvd ag z;obtain⟨r0,r1,r2,rl⟩:=cl3 z;have f0:=Zg z 0;have f1:=Zg z 1;have f2:=Zg z 2;clear ag C1 aq m0 m1 m2 ml z
 rcases hr with ⟨hx,rfl⟩|⟨rfl,k1,ak,aj,n1,ap,an,m1,am,al,rfl,hF,s1,s2,s3⟩
 ·have ae:Hid (∀ V,Gr w1 V (λq=>q=w.heap.size+2)->Ci w V x W' (cY (cZ #[.agg #[F none 0 0,F none 0 0,F none 0 0],E J x]))):=λV g=>⟨g.below ad ad.size (λq e=>by have e:q=w.heap.size+2:=e;omega),.inl ⟨hx,rfl⟩⟩;go_wp2;(try simp only[aV,Exit.then]);refine bA (v:=cZ #[.agg #[F none 0 0,F none 0 0,F none 0 0],E J x]) ?_ rfl ?_
  ·rw[Zo rfl];go_simp
  ·refine ae _ ?_
   repeat' first|refine Gr.one ?_ _ _ ?_ _|exact Gr.refl _ _
   all_goals exact Or.inl rfl
 ·have ae:Hid (∀ V,Gr w1 V (λq=>q=w.heap.size+2)->Ci w V 0 W' (cY (cZ #[.agg #[F k1 ak aj,F n1 ap an,F m1 am al],E J 0]))):=λV g=>⟨g.below ad ad.size (λq e=>by have e:q=w.heap.size+2:=e;omega),.inr ⟨rfl,k1,ak,aj,n1,ap,an,m1,am,al,rfl,(hF.on (g.mono (λq _ e=>by have e:q=w.heap.size+2:=e;omega))).less (by omega),s1,s2,s3⟩⟩;clear hF s1 s2 s3;go_wp2;(try simp only[aV,Exit.then]);refine bA (v:=cZ #[.agg #[F k1 ak aj,F n1 ap an,F m1 am al],E J 0]) ?_ rfl ?_
  ·rw[Zo rfl];go_simp
  ·refine ae _ ?_
   repeat' first|refine Gr.one ?_ _ _ ?_ _|exact Gr.refl _ _
   all_goals exact Or.inl rfl
