import Derived.Test.YtmomfkikogbdeaaGreatDoorH
import Derived.Test.YtmomfkikogbdeaaGreatDoorG31
import Derived.Test.YtmomfkikogbdeaaGreatDoorG32
open Go renaming lt_of_block->aA,wpAnyH_ready->aG,heap_alloc_new->aR
open Go.Act renaming put->aC
open Go.Callee renaming value->aP
open Go.Ending renaming returned->cY
open Go.IntKind renaming i64->J
open Go.Obj renaming cells->cW
open Go.RowKit renaming Below->aD
open Go.Value renaming int->E,slice->F,tuple->cZ,pointer->dA
open Nat renaming lt_of_lt_of_le->aE,le_refl->aH
open Prod.mk renaming injEq->aU
set_option maxHeartbeats 12800000
set_option maxRecDepth 10000
namespace Go.Proofs.YtmomfkikogbdeaaGreatDoor
open Go.RowKit
theorem Vk{N:List Int}{T:List Zl}(z:Tr.chkTr N T=0):N.length=T.length/\N.length<=24/\(∀ x∈N,(Lit.int .i64 x).wf=true)/\(∀ b∈T,(Lit.int .i64 b.1).wf=true)/\(∀ b∈T,Tr.BlkSmall b)/\∀ s,0<=Y8 N T s/\Y8 N T s<=1000:=by
 have ok:=Tr.TrOk.of z
 have h24:N.length<=24:=by
  unfold Tr.chkTr at z;split at z
  ·cases z
  split at z
  ·cases z
  omega
 refine⟨ok.len,h24,λx hx=>?_,λb Q=>?_,λb Q=>Tr.blk_small (ok.chk b Q),λs=>?_⟩
 ·have:=ok.nm x hx;exact Pd (by omega) (by omega)
 ·have h1:=ok.chk b Q;obtain⟨p,h,k,n,L⟩:=b;have h2:=(Vg h1).1;simp[Wk] at h2;exact Pd (by simp only;omega) (by simp only;omega)
 ·unfold Y8 Tr.blockE;rw[if_neg (λq=>q z)];split
  ·rename_i q;have:=Zfe (ok.chk _ (Tr.fnd_at ok.len (by simpa using q)));simp only;omega
  ·exact⟨Int.le_refl _,by decide⟩
theorem Xr{N:List Int}{T:List Zl}{z:Int}(h:Tr.bstD N T=(z,0)):Tr.chkTr N T=0/\(z=0\/z∈N):=by
 unfold Tr.bstD at h;split at h
 ·rename_i q;injection h with _ h;exact absurd h q
 ·rename_i q;injection h with h _;have Q:=Decidable.not_not.1 q;exact⟨Q,h ▸ (Tr.best_max (Tr.TrOk.of Q)).1⟩
theorem Zan(w:World):(Instr.makeMap 252 none).run Tryz.prog w = .ok (.map (some w.heap.size)) (w.alloc (.map #[] 0)):=by kernel_rfl
def Zfq(Z:Nat->Prop)(w:World)(d bm m:Nat)(K:List ByteArray)(N:List Int)(T:List Zl)(P:List TxD)(tip:Int)(β : Int->List Zj):Prop:=
 ∃ ka kn kc na nn nc ba bn bc pa pn pc f,DeskAt Z w d bm m ka kn kc K na nn nc N ba bn bc T pa pn pc P tip f β
theorem Ff{V w6 z:World}{d bm B A:Nat}{ka na ba pa:Option Addr}{kn kc nn nc bn bc pn pc:Nat}{K:List ByteArray}{N:List Int}{T:List Zl}{P:List TxD}{tip:Int}(hK:Fresh A V (λw2=>Bk.TextsAt w2 ka kn K))(sk:SlOk ka kn kc)(hb:aD V.heap.size V w6)(hF:Fresh B w6 (λw2=>Tr.IntsAt w2 na nn N/\Tr.BlksAt w2 ba bn T/\TxsAt w2 pa pn P))(sn:SlOk na nn nc)(sb:SlOk ba bn bc)(sp:SlOk pa pn pc)
  (h67:aD w6.heap.size w6 z) (box:z.heap[d]? = some (cW [F ka kn kc,F na nn nc,F ba bn bc,F pa pn pc,E J tip,.map (some bm)].toArray 254 (0,0))) (hm:BMap bm 0 (λ_=>Dl) z) (h1:V.heap.size<=bm) (h2:w6.heap.size<=d) (h3:bm<B\/w6.heap.size<=bm) (h4:d≠bm) (hA:A<=B) (hA2:A<=V.heap.size) :
  DeskAt (λq=>q<A) z d bm 0 ka kn kc K na nn nc N ba bn bc T pa pn pc P tip (λ_=>Dl) noB:=by
 have hs:=hb.size;have ag:=h67.size;refine⟨box,λW g=>?_,λW _ x=>⟨none,0,0,rfl,RowsAt.nil _ _,Zr⟩,sk,sn,sb,sp,hm,h4,λq e=>by have e:q<A:=e;omega⟩
 have gV:Gr V W (λq=>q<A):=((Gr.of (Zf hb h67)):Gr V z (λq=>q<A)).far g (λq e=>by
  rcases e with e|e|e
  ·exact .inl (by omega)
  ·exact .inl (by omega)
  ·exact .inr e)
 have g6:Gr w6 W (λq=>q<B):=((Gr.of h67):Gr w6 z (λq=>q<B)).far g (λq e=>by
  rcases e with e|e|e
  ·omega
  ·omega
  ·exact .inr (aE e hA))
 have Q:=hF W g6;exact⟨hK W gV,Q.1,Q.2.1,Q.2.2⟩
def OpnR(w w':World)(x:Int)(K:List ByteArray)(N:List Int)(T:List Zl)(P:List TxD)(tip:Int)(β : Int->List Zj)(e:Ending):Prop:=
 aD w.heap.size w w'/\((x≠0/\e = cY (cZ #[dA none,E J x]))\/(x=0/\∃ d bm m,e = cY (cZ #[dA (some ⟨d,0,none⟩),E J 0])/\Zfq (λq=>q<w.heap.size) w' d bm m K N T P tip β/\w.heap.size<=d/\w.heap.size<=bm/\m<=24))
theorem Dp(ka:Option Addr)(kn kc:Nat)(K:List ByteArray)(na ba pa:Option Addr)(nn nc bn bc pn pc:Nat)(N:List Int)(T:List Zl)(P:List TxD)(tip x:Int)(w:World)(hE:Env w)(hK:Bk.TextsAt w ka kn K)(hN:Tr.IntsAt w na nn N)(hT:Tr.BlksAt w ba bn T)(hP:TxsAt w pa pn P)(sN:SlOk na nn nc)(sT:SlOk ba bn bc)(sP:SlOk pa pn pc)(hp:pn<=2513169434916)(hq:∀ t∈P,Tr.TxSmall t)(hx:opE K N T P tip=x) :
  Calls Tryz.prog 107 #[.agg #[F ka kn kc],.agg #[F na nn nc,F ba bn bc,F pa pn pc,.int .i64 tip]] w λe w'=>OpnR w w' x K N T P tip (Ye K N T noB).2 e:=by
 obtain⟨X,hX⟩:=ZG (Yp w [cW #[F ka kn kc] 24,cW #[F na nn nc,F ba bn bc,F pa pn pc,.int .i64 tip] 67]);have dy:X=(w.alloc (cW #[F ka kn kc] 24)).alloc (cW #[F na nn nc,F ba bn bc,F pa pn pc,.int .i64 tip] 67):=hX;have cj:aD w.heap.size w X:=by rw[hX];exact Zs _ _
 have dz:X.heap.size=w.heap.size+2:=by rw[hX];exact Z4 _ _
 have x0:X.heap[w.heap.size]? = some (cW [F ka kn kc].toArray 24 (0,0)):=by rw[hX];exact Zk _ w 0 _ rfl
 have x1:X.heap[w.heap.size+1]? = some (cW [F na nn nc,F ba bn bc,F pa pn pc,.int .i64 tip].toArray 67 (0,0)):=by rw[hX];exact Zk _ w 1 _ rfl
 obtain⟨⟨M,Z,gq⟩,hz⟩:=ZF (Bk.allR K [])
 have ct:gq=Bk.bkChk K/\(gq=0->M=K):=by
  unfold Bk.allR at hz;split at hz
  ·rename_i q;rw[Bk.nmGo] at hz;simp only[aU] at hz;exact⟨by rw[<-hz.2.2,q],λ_=>hz.1.symm⟩
  ·rename_i q;simp only[aU] at hz;exact⟨hz.2.2.symm,λe=>absurd (hz.2.2.trans e) q⟩
 have C1:=Zd (Bk.all_isF ka none kn kc 0 0 K [] M Z gq X (hK.later cj) ⟨rfl,λh=>absurd h (by omega)⟩ (by omega) hz);obtain⟨⟨b,y⟩,hy⟩:=ZF (Tr.bstD N T);have C2:=Zd (λV (hv:aD w.heap.size w V)=>Tr.best_is na ba nn nc bn bc N T b y V (hN.later hv) (hT.later hv) sN sT hy);obtain⟨⟨u,γ⟩,hu⟩:=ZF (Ye K N T noB);unfold opE at hx;rw[<-ct.1,hy,hu] at hx;simp only at hx;rw[hu];simp only;have HX:=Zd hx;have fi:=Zd ct;have di:=Zd cj;have dq:=Zd dz;have ff:=Zd x0;have fg:=Zd x1;have HY:=Zd hy;have HU:=Zd hu;have HE:=Zd hE;have HN:=Zd hN;have HT:=Zd hT;have HP:=Zd hP;have ew:=Zd sN;have ez:=Zd sT;have ey:=Zd sP;have eu:=Zd hp;have HQ:=Zd hq;have t0:=Zb x0 0 _ rfl;have tl:=aA x0;clear hE hK hN hT hP sN sT sP hp hq hx cj dz x0 x1 hX hz ct hy hu;go_enter Tryz.func107,Tryz.ntmps107;go_wp2_with fail;rw[<-dy];clear dy;(try go_wp2_with fail);refine C1.mono ?_;rintro e w1 ⟨⟨a',n',c',a2,n2,c2,rfl,dw,ej,_,_,_⟩,ay⟩;have h10:=ZE ay ff;have h11:=ZE ay fg;have y0:=Zb h10 0 _ rfl;have yf:=Zg h10 0;have yl:=aA h10;obtain⟨V,hV⟩:=ZG (w1.setCell ⟨w.heap.size,0,none⟩ (F a' n' c'));have g1:Gr w1 V (λq=>q=w.heap.size):=by rw[hV];exact (Gr.refl w1 (λq=>q=w.heap.size)).one w.heap.size 0 (.inl rfl) _
 have v0:V.heap[w.heap.size]? = some (cW #[F a' n' c'] 24 (0,0)):=by rw[hV];exact Wo h10
 have v1:=g1.heap h11 (by omega);have cg:aD w.heap.size w V:=g1.below (Zf di ay) (Zf di ay).size (λq e=>by have e:q=w.heap.size:=e;omega);have dm:Hid (Fresh w.heap.size V (λw2=>Bk.TextsAt w2 a' n' M)):=λW g=>dw W ((g1.mono (λq _ e=>by have e:q=w.heap.size:=e;have:=Za dq;omega)).trans (g.mono (λq _ e=>by have e:q<w.heap.size:=e;have:=Za dq;omega)));have bh:=Zd cg;have fb:=Zd v0;have fc:=Zd v1;have dn:=Zd ej;have q0:=Zb v1 0 _ rfl;have q1:=Zb v1 1 _ rfl;have q3:=Zb v1 3 _ rfl;have ql:=aA v1;have p0:=Zb h11 0 _ rfl;have p1:=Zb h11 1 _ rfl;have pl:=aA h11;have D2:=Zd (C2 V cg);clear ay h10 h11 g1 v0 v1 cg dw ej C1 C2 t0 tl;by_cases z0:gq=0
 ·subst z0;obtain rfl:=fi.2 rfl;go_wp2_with fail;rw[<-hV];clear hV y0 yf yl p0 p1 pl;(try go_wp2_with fail);refine D2.mono ?_;rintro e w2 ⟨rfl,az⟩;have ae:=Zd (Zf bh az);have bi:=Zd az;have h20:=ZE az fb;have h21:=ZE az fc;have gb:=Zd h20;have gc:=Zd h21;have r0:=Zb h20 0 _ rfl;have s0:=Zb h21 0 _ rfl;have s1:=Zb h21 1 _ rfl;have s2:=Zb h21 2 _ rfl;have s3:=Zb h21 3 _ rfl;have rl:=aA h20;have sl:=aA h21;clear az h20 h21 D2 q0 q1 q3 ql;by_cases bt:y=0
  ·subst bt;by_cases cz:b=tip
   ·subst cz;have cp:=Za HX;rw[if_neg (λq=>q rfl),if_neg (λq=>q rfl),if_neg (λq=>q rfl)] at cp;have bj:=Zd cp;clear cp HX;obtain⟨hc,ee⟩:=Xr HY;obtain⟨f1,f2,f3,f4,f5,f6⟩:=Vk hc;have fj:bn=nn:=(by have q1:=HN.1;have q2:=HT.1;omega);subst fj;have gm:bn<=24:=(by have q1:=HN.1;omega);have CN:=Zd (λU (hv:aD w.heap.size w U)=>Li na ba pa bn nc bc pn pc N T P b U (HN.later hv) (HT.later hv) (HP.later hv) ew ez ey (by omega) f5 eu HQ);have fe:Hid ((Lit.int .i64 b).wf=true):=(by rcases ee with q|q;exact Pd (by omega) (by omega);exact f3 b q);have eq:=Zd f1;have dk:=Zd f2;have er:=Zd f3;have es:=Zd f4;have dl:=Zd (f6 b);have fk:=Zan;clear hc ee f1 f2 f3 f4 f5 f6;have KS:Hid (∀ U:World,aD w2.heap.size w2 U->((U.cell? ⟨w.heap.size,0,none⟩=some (F a' n' c')/\w.heap.size<U.heap.size)/\U.cell? ⟨w.heap.size+1,0,none⟩=some (F na bn nc)/\U.cell? ⟨w.heap.size+1,1,none⟩=some (F ba bn bc)/\U.cell? ⟨w.heap.size+1,2,none⟩=some (F pa pn pc)/\U.cell? ⟨w.heap.size+1,3,none⟩=some (.int .i64 b)/\w.heap.size+1<U.heap.size)):=λU hu=>⟨⟨Ze hu r0,aE rl hu.size⟩,Ze hu s0,Ze hu s1,Ze hu s2,Ze hu s3,aE sl hu.size⟩
    go_upto_region 9 with fail
    clear r0 s0 s1 s2 s3 rl sl
    go_cut [9] from 34 to 39 (λs9 wx=>∃ d bm:Nat,s9 = .pointer (some ⟨d,0,none⟩)/\Hid (∃ na' nc' ba' bc' pa' pc',DeskAt (λq=>q<w.heap.size) wx d bm 0 a' n' c' M na' bn nc' N ba' bn bc' T pa' pn pc' P b (λ_=>Dl) noB)/\Hid (aD w.heap.size w wx/\w.heap.size<=d/\w.heap.size<=bm))
    case first=>
     refine wp_region_held_drew (S:=λU=>(U.cell? ⟨w.heap.size,0,none⟩=some (F a' n' c')/\w.heap.size<U.heap.size)/\U.cell? ⟨w.heap.size+1,0,none⟩=some (F na bn nc)/\U.cell? ⟨w.heap.size+1,1,none⟩=some (F ba bn bc)/\U.cell? ⟨w.heap.size+1,2,none⟩=some (F pa pn pc)/\U.cell? ⟨w.heap.size+1,3,none⟩=some (.int .i64 b)/\w.heap.size+1<U.heap.size) (by kernel_rfl) (KS _ (Zi _)) (λz=>?_);refine tk 0 ⟨some 34,.load 24 (.tmp 2),24, "desk.go:32",#[],none⟩ ?_ rfl ?_ z ?_;rotate_left
     ·(intro U aq;obtain⟨⟨u1,u2⟩,u3,u4,u5,u6,u7⟩:=aq;go_simp;first|done|with_reducible rfl)
     (try simp only[aC,ZA,ZB,ZC]);refine tk 1 ⟨some 35,.load 67 (.tmp 3),67, "desk.go:32",#[],none⟩ ?_ rfl ?_ z ?_;rotate_left
     ·(intro U aq;obtain⟨⟨u1,u2⟩,u3,u4,u5,u6,u7⟩:=aq;go_simp;first|done|with_reducible rfl)
     (try simp only[aC,ZA,ZB,ZC]);refine aG (rs:=[2,3]) (by kernel_rfl) (by simp) ?_;refine AllReadyH.cons (o:=⟨some 36,.call { callee:=aP (.func 171),args:=#[.tmp 35],argTypes:=#[67] },67, "desk.go:32",#[⟨1,.data⟩],none⟩) rfl (λKQ hK=>?_) (AllReadyH.cons (o:=⟨some 37,.makeMap 252 none,252, "desk.go:32",#[],none⟩) rfl (λKQ hK=>?_) AllReadyH.nil)
     ·have hb:=Zi w2;refine Zm (by kernel_rfl) 171 #[.agg #[F na bn nc,F ba bn bc,F pa pn pc,.int .i64 b]] (by kernel_rfl) (CN w2.drew (Zf ae hb)) ?_;rintro e w5 ⟨na',nc',ba',bc',pa',pc',rfl,ce,cx,cw,cy,bb⟩;refine⟨_,rfl,?_⟩;have ac:=Zf hb bb;refine hK.out _ _ (KS _ ac) (λQ=>?_);clear hK KQ z;have z:=Q;clear Q;(try simp only[aC,ZA,ZB,ZC]);refine aG (rs:=[3]) (by kernel_rfl) (by simp) ?_;refine AllReadyH.cons (o:=⟨some 37,.makeMap 252 none,252, "desk.go:32",#[],none⟩) rfl (λKQ hK=>?_) AllReadyH.nil;go_simp;obtain⟨w6,be⟩:=ZG (w5.alloc (.map #[] 0));rw[<-be];have bo:aD w5.heap.size w5 w6:=(by rw[be];exact Zh _ _);have cn:BMap w5.heap.size 0 (λ_=>Dl) w6:=(by rw[be];exact BMap.made w5);have ed:w6.heap.size=w5.heap.size+1:=(by rw[be];simp);clear be;refine hK.out _ _ (KS _ (Zf ac bo)) (λQ=>?_);clear hK KQ z;have z:=Q;clear Q;(try simp only[aC,ZA,ZB,ZC]);refine tk 4 ⟨some 38,.build 254 #[(0,.tmp 34),(1,.tmp 36),(2,.tmp 37)],254, "desk.go:32",#[⟨0,.data⟩,⟨2,.data⟩,⟨3,.data⟩],none⟩ ?_ rfl ?_ z ?_;rotate_left
      ·(intro U aq;go_simp;first|done|with_reducible rfl)
      (try simp only[aC,ZA,ZB,ZC]);refine aG (rs:=[5]) (by kernel_rfl) (by simp) ?_;refine AllReadyH.cons (o:=⟨some 39,.box 254 (.tmp 38),181, "desk.go:32",#[⟨4,.data⟩],none⟩) rfl (λKQ hK=>?_) AllReadyH.nil;go_simp;obtain⟨w7,ak⟩:=ZG (w6.alloc (cW #[F a' n' c',F na' bn nc',F ba' bn bc',F pa' pn pc',.int .i64 b,.map (some w5.heap.size)] 254));rw[<-ak];have aj:aD w6.heap.size w6 w7:=(by rw[ak];exact Zh _ _);have ca:w7.heap[w6.heap.size]? = some (cW [F a' n' c',F na' bn nc',F ba' bn bc',F pa' pn pc',.int .i64 b,.map (some w5.heap.size)].toArray 254 (0,0)):=(by rw[ak];exact aR _ _);clear ak;refine hK.out _ _ (KS _ (Zf (Zf ac bo) aj)) (λQ=>?_);clear hK KQ z;have z:=Q;clear Q;(try simp only[aC,ZA,ZB,ZC]);refine tk 6 ⟨some 9,.assign (.tmp 39),181, "desk.go:32",#[⟨5,.data⟩,⟨2,.chain⟩,⟨0,.phase⟩,⟨1,.phase⟩,⟨2,.phase⟩,⟨3,.phase⟩,⟨4,.phase⟩,⟨5,.phase⟩],none⟩ ?_ rfl ?_ z ?_;rotate_left
      ·(intro U aq;go_simp;first|done|with_reducible rfl)
      (try simp only[aC,ZA,ZB,ZC]);refine wpAnyH_done (by kernel_rfl) ?_ _;clear z;go_wp2_with fail;go_meet
      case rel=>
       have s2:=ae.size;have s5:=ac.size;have sV:=bi.size;exact⟨w6.heap.size,w5.heap.size,(by first|rfl|rw[ed]),⟨na',nc',ba',bc',pa',pc',Ff (V:=V) (B:=w2.drew.heap.size) dm dn (Zf bi ac) ce cx cw cy (Zf bo aj) ca (cn.keep aj) (by omega) (by omega) (.inr (aH _)) (by omega) (by have:=ae.size;show w.heap.size<=w2.heap.size;omega) bh.size⟩,Zf (Zf ae ac) (Zf bo aj),by omega,by omega⟩
     ·go_simp;obtain⟨v6,bd⟩:=ZG ((w2.alloc (.map #[] 0)).drew);rw[<-bd];have hb:aD w2.heap.size w2 v6:=(by rw[bd];exact Zf (Zh _ _) (Zi _));have cn:BMap w2.heap.size 0 (λ_=>Dl) v6:=(by rw[bd];exact (BMap.made w2).heap rfl);have ed:v6.heap.size=w2.heap.size+1:=(by rw[bd];simp);clear bd;refine hK.out _ _ (KS _ hb) (λQ=>?_);clear hK KQ z;have z:=Q;clear Q;(try simp only[aC,ZA,ZB,ZC]);refine aG (rs:=[2]) (by kernel_rfl) (by simp) ?_;refine AllReadyH.cons (o:=⟨some 36,.call { callee:=aP (.func 171),args:=#[.tmp 35],argTypes:=#[67] },67, "desk.go:32",#[⟨1,.data⟩],none⟩) rfl (λKQ hK=>?_) AllReadyH.nil;refine Zm (by kernel_rfl) 171 #[.agg #[F na bn nc,F ba bn bc,F pa pn pc,.int .i64 b]] (by kernel_rfl) (CN v6 (Zf ae hb)) ?_;rintro e w5 ⟨na',nc',ba',bc',pa',pc',rfl,ce,cx,cw,cy,bb⟩;refine⟨_,rfl,?_⟩;have ac:=Zf hb bb;refine hK.out _ _ (KS _ ac) (λQ=>?_);clear hK KQ z;have z:=Q;clear Q;(try simp only[aC,ZA,ZB,ZC]);refine tk 4 ⟨some 38,.build 254 #[(0,.tmp 34),(1,.tmp 36),(2,.tmp 37)],254, "desk.go:32",#[⟨0,.data⟩,⟨2,.data⟩,⟨3,.data⟩],none⟩ ?_ rfl ?_ z ?_;rotate_left
      ·(intro U aq;go_simp;first|done|with_reducible rfl)
      (try simp only[aC,ZA,ZB,ZC]);refine aG (rs:=[5]) (by kernel_rfl) (by simp) ?_;refine AllReadyH.cons (o:=⟨some 39,.box 254 (.tmp 38),181, "desk.go:32",#[⟨4,.data⟩],none⟩) rfl (λKQ hK=>?_) AllReadyH.nil;go_simp;obtain⟨w7,ak⟩:=ZG (w5.alloc (cW #[F a' n' c',F na' bn nc',F ba' bn bc',F pa' pn pc',.int .i64 b,.map (some w2.heap.size)] 254));rw[<-ak];have aj:aD w5.heap.size w5 w7:=(by rw[ak];exact Zh _ _);have ca:w7.heap[w5.heap.size]? = some (cW [F a' n' c',F na' bn nc',F ba' bn bc',F pa' pn pc',.int .i64 b,.map (some w2.heap.size)].toArray 254 (0,0)):=(by rw[ak];exact aR _ _);clear ak;refine hK.out _ _ (KS _ (Zf ac aj)) (λQ=>?_);clear hK KQ z;have z:=Q;clear Q;(try simp only[aC,ZA,ZB,ZC]);refine tk 6 ⟨some 9,.assign (.tmp 39),181, "desk.go:32",#[⟨5,.data⟩,⟨2,.chain⟩,⟨0,.phase⟩,⟨1,.phase⟩,⟨2,.phase⟩,⟨3,.phase⟩,⟨4,.phase⟩,⟨5,.phase⟩],none⟩ ?_ rfl ?_ z ?_;rotate_left
      ·(intro U aq;go_simp;first|done|with_reducible rfl)
      (try simp only[aC,ZA,ZB,ZC]);refine wpAnyH_done (by kernel_rfl) ?_ _;clear z;go_wp2_with fail;go_meet
      case rel=>
       have s2:=ae.size;have s5:=bb.size;have sV:=bi.size;exact⟨w5.heap.size,w2.heap.size,rfl,⟨na',nc',ba',bc',pa',pc',Ff (V:=V) (B:=v6.heap.size) dm dn (Zf bi ac) ce cx cw cy aj ca ((cn.keep bb).keep aj) (by omega) (aH _) (.inl (by omega)) (by omega) (by have:=ae.size;omega) bh.size⟩,Zf (Zf ae ac) aj,by omega,by omega⟩
    case rest=>
     obtain⟨d,bm,rfl,hD,hL⟩:=hcut;obtain⟨na',nc',ba',bc',pa',pc',hD⟩:=Za hD;obtain⟨cm,hd,cl⟩:=Za hL;have E1:=Zd (Bu hD w cm cl HE eq dk er es u γ HU);have dh:=Zd cm;have en:=Zd hd;have dg:=Zd cl;clear hD hL cm hd cl KS CN fk;go_wp2_with fail;refine E1.mono ?_;rintro e w8 ⟨rfl,ec,cc⟩;have bq:aD w.heap.size w w8:=ec.below dh dh.size (λq e=>by have e:q=bm:=e;have:=Za dg;omega);have de:=Zd bq;clear ec E1;by_cases u0:u=0
     ·subst u0;obtain⟨f',cd⟩:=cc rfl;have cq:=Za bj;rw[if_neg (λq=>q rfl)] at cq;have E2:=Zd (Zes cd (HE.later bq) fe dl.1 dl.2 x cq);have ep:=Zd cd;clear cc cd bq bj cq;go_wp2_with fail;refine E2.mono ?_;rintro e w9 ⟨rfl,cf⟩;have df:=Zd (Zf de cf);have eo:=Zd (ep.later cf);clear cf E2;by_cases x0:x=0
      ·subst x0;go_wp2;go_ret2;exact⟨Za df,.inr ⟨rfl,d,bm,_,rfl,⟨_,_,_,_,_,_,_,_,_,_,_,_,_,Za eo⟩,Za en,Za dg,Za dk⟩⟩
      ·have gx:(x != 0)=true:=(by simp[x0]);go_wp2;go_ret2;exact⟨Za df,.inl ⟨x0,rfl⟩⟩
     ·have gu:(u != 0)=true:=(by simp[u0]);have ap:Hid (x=u):=(by have q:=Za bj;rw[if_pos u0] at q;exact q.symm);clear bj cc bq;go_wp2;go_ret2;rw[Za ap];exact⟨Za de,.inl ⟨u0,rfl⟩⟩
   ·have gt:(b != tip)=true:=(by simp[cz]);have ap:Hid (x=4):=(by have q:=Za HX;rw[if_neg (λq=>q rfl),if_neg (λq=>q rfl),if_pos cz] at q;exact q.symm);clear HX;go_wp2;go_ret2;rw[Za ap];exact⟨Za ae,.inl ⟨by decide,rfl⟩⟩
  ·have gy:(y != 0)=true:=(by simp[bt]);have ap:Hid (x=y):=(by have q:=Za HX;rw[if_neg (λq=>q rfl),if_pos bt] at q;exact q.symm);clear HX;go_wp2;go_ret2;rw[Za ap];exact⟨Za ae,.inl ⟨bt,rfl⟩⟩
 ·have gz:(gq != 0)=true:=by simp[z0]
  have ap:Hid (x=gq):=by have q:=Za HX;rw[if_pos z0] at q;exact q.symm
  have fd:=Zd hV;clear HX hV D2;go_wp2;rw[<-Za fd];go_ret2;rw[Za ap];exact⟨Za bh,.inl ⟨z0,rfl⟩⟩
section
variable {Z : Nat -> Prop} {w w' : World} {d bm m : Nat} {ka na ba pa ka' na' ba' pa' : Option Addr} {kn kc nn nc bn bc pn pc kn' kc' nn' nc' bn' bc' pn' pc' : Nat} {K K' : List ByteArray} {N N' : List Int} {T T' : List Zl} {P P' : List TxD} {tip tip' : Int} {f : Int -> Value} {β : Int -> List Zj}
theorem DeskAt.set(h:DeskAt Z w d bm m ka kn kc K na nn nc N ba bn bc T pa pn pc P tip f β)(g:Gr w w' (λq=>q=d))
  (box:w'.heap[d]? = some (cW [F ka' kn' kc',F na' nn' nc',F ba' bn' bc',F pa' pn' pc',E J tip',.map (some bm)].toArray 254 (0,0)))
  (D:∀ W,Gr w' W (λq=>q=d\/q=bm\/Z q)->Qw W ka kn K na nn N ba bn T pa pn P->Bk.TextsAt W ka' kn' K'/\Tr.IntsAt W na' nn' N'/\Tr.BlksAt W ba' bn' T'/\TxsAt W pa' pn' P')
  (Q:SlOk ka' kn' kc') (s2:SlOk na' nn' nc') (s3:SlOk ba' bn' bc') (s4:SlOk pa' pn' pc'):DeskAt Z w' d bm m ka' kn' kc' K' na' nn' nc' N' ba' bn' bc' T' pa' pn' pc' P' tip' f β:=by
 refine⟨box,λW z=>?_,λW z=>h.coi W ((g.mono (λq _ e=>.inl e)).trans z),Q,s2,s3,s4,h.mp.gr g (λe=>h.ne (by have e:bm=d:=e;exact e.symm)),h.ne,λq e=>aE (h.zb q e) g.size⟩;have D0:=h.dat W ((g.mono (λq _ e=>.inl e)).trans z);obtain⟨h1,h2,h3,h4⟩:=D W z D0;exact⟨h1,h2,h3,h4⟩
theorem DeskAt.swept(h:DeskAt Z w d bm m ka kn kc K na nn nc N ba bn bc T pa pn pc P tip f β){V z:World}(hv:aD w.heap.size w V)(h1:aD V.heap.size V z)(hF:Fresh V.heap.size z (λw2=>Bk.TextsAt w2 ka' kn' K'/\TxsAt w2 pa' pn' P'))(s1:SlOk ka' kn' kc')(s4:SlOk pa' pn' pc')
  (g:Gr z w' (λq=>q=d)) (box:w'.heap[d]? = some (cW [F ka' kn' kc',F na nn nc,F ba bn bc,F pa' pn' pc',E J tip,.map (some bm)].toArray 254 (0,0))) :
  DeskAt Z w' d bm m ka' kn' kc' K' na nn nc N ba bn bc T pa' pn' pc' P' tip f β/\Gr w w' (λq=>q=d):=by
 have gw:Gr w w' (λq=>q=d):=(Gr.of (Zf hv h1)).trans g;have l1:=aA h.box;have l2:=h.mp.lt;have l3:=hv.size;refine⟨h.set gw box (λW gW D0=>?_) s1 h.sn h.sb s4,gw⟩;have Q:=hF W ((g.mono (λq _ e=>by have e:q=d:=e;omega)).trans (gW.mono (λq _ e=>e.elim (λe=>by omega) (λe=>e.elim (λe=>by omega) (λe=>aE (h.zb q e) l3)))));exact⟨Q.1,D0.n,D0.b,Q.2⟩
end
def Zcp(K:List ByteArray)(C:List Zj)(P:List TxD)(h:Int):List ByteArray×List TxD×Int:=
 if 1000<h then (K,P,0) else ((swF K C P h (swE K C P h)).1,(swF K C P h (swE K C P h)).2.1,swE K C P h)
def SwpR(Z:Nat->Prop)(w w':World)(d bm m:Nat)(K:List ByteArray)(na:Option Addr)(nn nc:Nat)(N:List Int)(ba:Option Addr)(bn bc:Nat)(T:List Zl)(P:List TxD)(tip:Int)(f:Int->Value)(β : Int->List Zj):Prop:=
 ∃ ka kn kc pa pn pc,DeskAt Z w' d bm m ka kn kc K na nn nc N ba bn bc T pa pn pc P tip f β/\Gr w w' (λq=>q=d)
section
variable {Z : Nat -> Prop} {w : World} {d bm m : Nat} {ka na ba pa : Option Addr} {kn kc nn nc bn bc pn pc : Nat} {K : List ByteArray} {N : List Int} {T : List Zl} {P : List TxD} {tip : Int} {f : Int -> Value} {β : Int -> List Zj}
theorem Zbj(h:DeskAt Z w d bm m ka kn kc K na nn nc N ba bn bc T pa pn pc P tip f β)(hE:Env w)(ht:(Lit.int .i64 tip).wf=true)(dd:Int)(K1:List ByteArray)(P1:List TxD)(x:Int)(hx:Zcp K (β tip) P dd=(K1,P1,x)) :
  Calls Tryz.prog 164 #[.pointer (some ⟨d,0,none⟩),.int .i64 dd] w λe w'=>e = cY (.int .i64 x)/\SwpR Z w w' d bm m K1 na nn nc N ba bn bc T P1 tip f β:=by
 unfold Zcp at hx;by_cases hz:1000<dd
 ·rw[if_pos hz] at hx;simp only[aU] at hx;obtain⟨rfl,rfl,rfl⟩:=hx;have H:=Zd h;clear h hE ht;go_enter Tryz.func164,Tryz.ntmps164;go_wp2;go_ret;exact⟨rfl,ka,kn,kc,pa,pn,pc,Za H,Gr.refl _ _⟩
 ·rw[if_neg hz] at hx;obtain⟨y,hy⟩:=ZF (swE K (β tip) P dd);rw[hy] at hx;obtain⟨⟨K2,P2,C2,F2⟩,hr⟩:=ZF (swF K (β tip) P dd y);rw[hr] at hx;simp only[aU] at hx;obtain⟨rfl,rfl,rfl⟩:=hx;obtain⟨ca,df,de,ax,_,sC⟩:=h.c tip;have CC:=Zd (λV (hv:aD w.heap.size w V)=>Tx (h.later hv) ht);rw[ax] at CC;have CS:=Zd (λV (hv:aD w.heap.size w V)=>Kz ka kn kc K ca df de (β tip) pa pn pc P dd y K2 P2 C2 F2 V (hE.later hv) (h.later hv).now.k (by obtain⟨a2,n2,c2,q1,q2,_⟩:=(h.later hv).c tip;rw[ax] at q1;injection q1 with e1 e2 e3;subst e1 e2 e3;exact q2) sC (h.later hv).now.p hy hr);have c0:=Zb h.box 0 _ rfl;have c3:=Zb h.box 3 _ rfl;have dl:=aA h.box;have KS:Hid (∀ U:World,w.heap.size<=U.heap.size->d<U.heap.size):=λU hu=>aE dl hu;have KC:Hid (∀ U:World,aD w.heap.size w U->(U.cell? ⟨d,0,none⟩=some (F ka kn kc)/\U.cell? ⟨d,3,none⟩=some (F pa pn pc)/\d<U.heap.size)):=λU hu=>⟨Ze hu c0,Ze hu c3,aE dl hu.size⟩;have H:=Zd h;clear h hE ht ax sC c0 c3 dl hy hr;go_enter Tryz.func164,Tryz.ntmps164
  go_upto_region 3 with fail
  go_cut [4] from 7 to 32 (λs4 wx=>s4 = .int .i64 y/\Hid (SwpR Z w wx d bm m K2 na nn nc N ba bn bc T P2 tip f β))
  case first=>
   refine wp_region_held_drew (S:=λU=>d<U.heap.size) (by kernel_rfl) (KS _ (aH _)) (λz=>?_);refine tk 0 ⟨some 8,.move (.tmp 0),181, "desk.go:84",#[],none⟩ ?_ rfl ?_ z ?_;rotate_left
   ·(intro U ac;go_simp;first|done|with_reducible rfl)
   (try simp only[aC,ZA,ZB,ZC]);refine tk 1 ⟨some 9,.move (.tmp 0),181, "desk.go:84",#[⟨23,.gcOnly .lateStores⟩],none⟩ ?_ rfl ?_ z ?_;rotate_left
   ·(intro U ac;go_simp;first|done|with_reducible rfl)
   (try simp only[aC,ZA,ZB,ZC]);refine tk 2 ⟨some 10,.move (.tmp 0),181, "desk.go:84",#[],none⟩ ?_ rfl ?_ z ?_;rotate_left
   ·(intro U ac;go_simp;first|done|with_reducible rfl)
   (try simp only[aC,ZA,ZB,ZC]);refine tk 3 ⟨some 11,.nilCheck (.tmp 10),0, "desk.go:84",#[⟨2,.data⟩],none⟩ ?_ rfl ?_ z ?_;rotate_left
   ·(intro U ac;go_simp;first|done|with_reducible rfl)
   (try simp only[aC,ZA,ZB,ZC]);refine tk 4 ⟨some 12,.fieldAddr 254 (.tmp 11) 0,0, "desk.go:84",#[⟨3,.data⟩],none⟩ ?_ rfl ?_ z ?_;rotate_left
   ·(intro U ac;go_simp;first|done|with_reducible rfl)
   (try simp only[aC,ZA,ZB,ZC]);refine tk 6 ⟨some 14,.move (.tmp 0),181, "desk.go:84",#[],none⟩ ?_ rfl ?_ z ?_;rotate_left
   ·(intro U ac;go_simp;first|done|with_reducible rfl)
   (try simp only[aC,ZA,ZB,ZC]);refine tk 8 ⟨some 16,.move (.tmp 0),181, "desk.go:84",#[],none⟩ ?_ rfl ?_ z ?_;rotate_left
   ·(intro U ac;go_simp;first|done|with_reducible rfl)
   (try simp only[aC,ZA,ZB,ZC]);refine tk 9 ⟨some 17,.nilCheck (.tmp 16),0, "desk.go:84",#[⟨8,.data⟩],none⟩ ?_ rfl ?_ z ?_;rotate_left
   ·(intro U ac;go_simp;first|done|with_reducible rfl)
   (try simp only[aC,ZA,ZB,ZC]);refine tk 10 ⟨some 18,.fieldAddr 254 (.tmp 17) 1,0, "desk.go:84",#[⟨9,.data⟩],none⟩ ?_ rfl ?_ z ?_;rotate_left
   ·(intro U ac;go_simp;first|done|with_reducible rfl)
   (try simp only[aC,ZA,ZB,ZC]);refine tk 11 ⟨some 19,.fieldAddr 67 (.tmp 18) 1,0, "desk.go:84",#[⟨10,.data⟩],none⟩ ?_ rfl ?_ z ?_;rotate_left
   ·(intro U ac;go_simp;first|done|with_reducible rfl)
   (try simp only[aC,ZA,ZB,ZC]);refine tk 13 ⟨some 21,.move (.tmp 1),3, "desk.go:84",#[],none⟩ ?_ rfl ?_ z ?_;rotate_left
   ·(intro U ac;go_simp;first|done|with_reducible rfl)
   (try simp only[aC,ZA,ZB,ZC]);have hb:=Zi w;refine aG (rs:=[5,7,12]) (by kernel_rfl) (by simp) ?_;refine AllReadyH.cons (o:=⟨some 13,.load 24 (.tmp 12),24, "desk.go:84",#[⟨4,.data⟩],none⟩) rfl (λKQ hK=>?_) (AllReadyH.cons (o:=⟨some 15,.call { callee:=aP (.func 108),args:=#[.tmp 14],argTypes:=#[181] },29, "desk.go:84",#[⟨6,.data⟩],none⟩) rfl (λKQ hK=>?_) (AllReadyH.cons (o:=⟨some 20,.load 37 (.tmp 19),37, "desk.go:84",#[⟨11,.data⟩],none⟩) rfl (λKQ hK=>?_) AllReadyH.nil));obtain⟨l0,l3,ll⟩:=KC w.drew hb;go_simp;clear l0 l3 ll;refine hK.out _ _ (KS _ hb.size) (λQ=>?_);clear hK KQ z;have z:=Q;clear Q;(try simp only[aC,ZA,ZB,ZC]);refine aG (rs:=[7,12]) (by kernel_rfl) (by simp) ?_;refine AllReadyH.cons (o:=⟨some 15,.call { callee:=aP (.func 108),args:=#[.tmp 14],argTypes:=#[181] },29, "desk.go:84",#[⟨6,.data⟩],none⟩) rfl (λKQ hK=>?_) (AllReadyH.cons (o:=⟨some 20,.load 37 (.tmp 19),37, "desk.go:84",#[⟨11,.data⟩],none⟩) rfl (λKQ hK=>?_) AllReadyH.nil);refine Zm (by kernel_rfl) 108 #[.pointer (some ⟨d,0,none⟩)] (by kernel_rfl) (CC w.drew hb) ?_;rintro e v1 ⟨rfl,ah⟩;refine⟨_,rfl,?_⟩;have hb:=Zf hb ah;refine hK.out _ _ (KS _ hb.size) (λQ=>?_);clear hK KQ z;have z:=Q;clear Q;(try simp only[aC,ZA,ZB,ZC]);refine aG (rs:=[12]) (by kernel_rfl) (by simp) ?_;refine AllReadyH.cons (o:=⟨some 20,.load 37 (.tmp 19),37, "desk.go:84",#[⟨11,.data⟩],none⟩) rfl (λKQ hK=>?_) AllReadyH.nil
   obtain⟨l0,l3,ll⟩:=KC v1 hb;go_simp;clear l0 l3 ll;refine hK.out _ _ (KS _ hb.size) (λQ=>?_);clear hK KQ z;have z:=Q;clear Q;(try simp only[aC,ZA,ZB,ZC]);obtain⟨vz,ak⟩:∃ dd,dd=v1:=⟨_,rfl⟩;subst ak;rotate_left;obtain⟨l0,l3,ll⟩:=KC w.drew hb;go_simp;clear l0 l3 ll;refine hK.out _ _ (KS _ hb.size) (λQ=>?_);clear hK KQ z;have z:=Q;clear Q;(try simp only[aC,ZA,ZB,ZC]);refine aG (rs:=[7]) (by kernel_rfl) (by simp) ?_;refine AllReadyH.cons (o:=⟨some 15,.call { callee:=aP (.func 108),args:=#[.tmp 14],argTypes:=#[181] },29, "desk.go:84",#[⟨6,.data⟩],none⟩) rfl (λKQ hK=>?_) AllReadyH.nil;refine Zm (by kernel_rfl) 108 #[.pointer (some ⟨d,0,none⟩)] (by kernel_rfl) (CC w.drew hb) ?_;rintro e v2 ⟨rfl,ah⟩;refine⟨_,rfl,?_⟩;have hb:=Zf hb ah;refine hK.out _ _ (KS _ hb.size) (λQ=>?_);clear hK KQ z;have z:=Q;clear Q;(try simp only[aC,ZA,ZB,ZC]);obtain⟨vz,ak⟩:∃ dd,dd=v2:=⟨_,rfl⟩;subst ak;rotate_left;refine Zm (by kernel_rfl) 108 #[.pointer (some ⟨d,0,none⟩)] (by kernel_rfl) (CC w.drew hb) ?_;rintro e v3 ⟨rfl,ah⟩;refine⟨_,rfl,?_⟩;have hb:=Zf hb ah;refine hK.out _ _ (KS _ hb.size) (λQ=>?_);clear hK KQ z;have z:=Q;clear Q;(try simp only[aC,ZA,ZB,ZC]);refine aG (rs:=[5,12]) (by kernel_rfl) (by simp) ?_;refine AllReadyH.cons (o:=⟨some 13,.load 24 (.tmp 12),24, "desk.go:84",#[⟨4,.data⟩],none⟩) rfl (λKQ hK=>?_) (AllReadyH.cons (o:=⟨some 20,.load 37 (.tmp 19),37, "desk.go:84",#[⟨11,.data⟩],none⟩) rfl (λKQ hK=>?_) AllReadyH.nil)
   obtain⟨l0,l3,ll⟩:=KC v3 hb;go_simp;clear l0 l3 ll;refine hK.out _ _ (KS _ hb.size) (λQ=>?_);clear hK KQ z;have z:=Q;clear Q;(try simp only[aC,ZA,ZB,ZC]);refine aG (rs:=[12]) (by kernel_rfl) (by simp) ?_;refine AllReadyH.cons (o:=⟨some 20,.load 37 (.tmp 19),37, "desk.go:84",#[⟨11,.data⟩],none⟩) rfl (λKQ hK=>?_) AllReadyH.nil;obtain⟨l0,l3,ll⟩:=KC v3 hb;go_simp;clear l0 l3 ll;refine hK.out _ _ (KS _ hb.size) (λQ=>?_);clear hK KQ z;have z:=Q;clear Q;(try simp only[aC,ZA,ZB,ZC]);obtain⟨vz,ak⟩:∃ dd,dd=v3:=⟨_,rfl⟩;subst ak;rotate_left;obtain⟨l0,l3,ll⟩:=KC v3 hb;go_simp;clear l0 l3 ll;refine hK.out _ _ (KS _ hb.size) (λQ=>?_);clear hK KQ z;have z:=Q;clear Q;(try simp only[aC,ZA,ZB,ZC]);refine aG (rs:=[5]) (by kernel_rfl) (by simp) ?_;refine AllReadyH.cons (o:=⟨some 13,.load 24 (.tmp 12),24, "desk.go:84",#[⟨4,.data⟩],none⟩) rfl (λKQ hK=>?_) AllReadyH.nil;obtain⟨l0,l3,ll⟩:=KC v3 hb;go_simp;clear l0 l3 ll;refine hK.out _ _ (KS _ hb.size) (λQ=>?_);clear hK KQ z;have z:=Q;clear Q;(try simp only[aC,ZA,ZB,ZC]);obtain⟨vz,ak⟩:∃ dd,dd=v3:=⟨_,rfl⟩;subst ak;rotate_left;obtain⟨l0,l3,ll⟩:=KC w.drew hb;go_simp;clear l0 l3 ll;refine hK.out _ _ (KS _ hb.size) (λQ=>?_);clear hK KQ z;have z:=Q;clear Q;(try simp only[aC,ZA,ZB,ZC]);refine aG (rs:=[5,7]) (by kernel_rfl) (by simp) ?_
   refine AllReadyH.cons (o:=⟨some 13,.load 24 (.tmp 12),24, "desk.go:84",#[⟨4,.data⟩],none⟩) rfl (λKQ hK=>?_) (AllReadyH.cons (o:=⟨some 15,.call { callee:=aP (.func 108),args:=#[.tmp 14],argTypes:=#[181] },29, "desk.go:84",#[⟨6,.data⟩],none⟩) rfl (λKQ hK=>?_) AllReadyH.nil);obtain⟨l0,l3,ll⟩:=KC w.drew hb;go_simp;clear l0 l3 ll;refine hK.out _ _ (KS _ hb.size) (λQ=>?_);clear hK KQ z;have z:=Q;clear Q;(try simp only[aC,ZA,ZB,ZC]);refine aG (rs:=[7]) (by kernel_rfl) (by simp) ?_;refine AllReadyH.cons (o:=⟨some 15,.call { callee:=aP (.func 108),args:=#[.tmp 14],argTypes:=#[181] },29, "desk.go:84",#[⟨6,.data⟩],none⟩) rfl (λKQ hK=>?_) AllReadyH.nil;refine Zm (by kernel_rfl) 108 #[.pointer (some ⟨d,0,none⟩)] (by kernel_rfl) (CC w.drew hb) ?_;rintro e v4 ⟨rfl,ah⟩;refine⟨_,rfl,?_⟩;have hb:=Zf hb ah;refine hK.out _ _ (KS _ hb.size) (λQ=>?_);clear hK KQ z;have z:=Q;clear Q;(try simp only[aC,ZA,ZB,ZC]);obtain⟨vz,ak⟩:∃ dd,dd=v4:=⟨_,rfl⟩;subst ak;rotate_left;refine Zm (by kernel_rfl) 108 #[.pointer (some ⟨d,0,none⟩)] (by kernel_rfl) (CC w.drew hb) ?_;rintro e v5 ⟨rfl,ah⟩;refine⟨_,rfl,?_⟩;have hb:=Zf hb ah;refine hK.out _ _ (KS _ hb.size) (λQ=>?_);clear hK KQ z;have z:=Q;clear Q;(try simp only[aC,ZA,ZB,ZC]);refine aG (rs:=[5]) (by kernel_rfl) (by simp) ?_;refine AllReadyH.cons (o:=⟨some 13,.load 24 (.tmp 12),24, "desk.go:84",#[⟨4,.data⟩],none⟩) rfl (λKQ hK=>?_) AllReadyH.nil;obtain⟨l0,l3,ll⟩:=KC v5 hb;go_simp
   clear l0 l3 ll;refine hK.out _ _ (KS _ hb.size) (λQ=>?_);clear hK KQ z;have z:=Q;clear Q;(try simp only[aC,ZA,ZB,ZC]);obtain⟨vz,ak⟩:∃ dd,dd=v5:=⟨_,rfl⟩;subst ak;rotate_left
   all_goals
    refine aG (rs:=[14]) (by kernel_rfl) (by simp) ?_;refine AllReadyH.cons (o:=⟨some 22,.call { callee:=aP (.func 23),args:=#[.tmp 13,.tmp 15,.tmp 20,.tmp 21],argTypes:=#[24,29,37,3] },49, "desk.go:84",#[⟨5,.data⟩,⟨7,.data⟩,⟨12,.data⟩,⟨13,.data⟩,⟨7,.chain⟩],none⟩) rfl (λKQ hK=>?_) AllReadyH.nil;refine Zm (by kernel_rfl) 23 #[.agg #[F ka kn kc],F ca df de,F pa pn pc,.int .i64 dd] (by kernel_rfl) (CS vz hb) ?_;rintro e vy ⟨k5,be,bt,sa,sn,sc,oa,on,oc,rfl,br,cn,cp,-,ah⟩;refine⟨_,rfl,?_⟩;have ar:=Zf hb ah;refine hK.out _ _ (KS _ ar.size) (λQ=>?_);clear hK KQ z;have z:=Q;clear Q;(try simp only[aC,ZA,ZB,ZC]);refine tk 15 ⟨some 7,.move (.tmp 22),49, "desk.go:84",#[⟨14,.data⟩],none⟩ ?_ rfl ?_ z ?_;rotate_left
    ·(intro U ac;go_simp;first|done|with_reducible rfl)
    (try simp only[aC,ZA,ZB,ZC]);refine tk 16 ⟨some 23,.extract (.tmp 7) 0,24, "desk.go:84",#[⟨15,.data⟩],none⟩ ?_ rfl ?_ z ?_;rotate_left
    ·(intro U ac;go_simp;first|done|with_reducible rfl)
    (try simp only[aC,ZA,ZB,ZC]);refine tk 17 ⟨some 24,.extract (.tmp 7) 1,37, "desk.go:84",#[⟨15,.data⟩,⟨23,.gcOnly .lateStores⟩],none⟩ ?_ rfl ?_ z ?_;rotate_left
    ·(intro U ac;go_simp;first|done|with_reducible rfl)
    (try simp only[aC,ZA,ZB,ZC]);refine tk 18 ⟨some 25,.extract (.tmp 7) 2,29, "desk.go:84",#[⟨15,.data⟩,⟨27,.gcOnly .lateStores⟩],none⟩ ?_ rfl ?_ z ?_;rotate_left
    ·(intro U ac;go_simp;first|done|with_reducible rfl)
    (try simp only[aC,ZA,ZB,ZC]);refine tk 19 ⟨some 26,.extract (.tmp 7) 3,3, "desk.go:84",#[⟨15,.data⟩,⟨27,.gcOnly .lateStores⟩],none⟩ ?_ rfl ?_ z ?_;rotate_left
    ·(intro U ac;go_simp;first|done|with_reducible rfl)
    (try simp only[aC,ZA,ZB,ZC]);refine tk 20 ⟨some 27,.extract (.tmp 7) 4,30, "desk.go:84",#[⟨15,.data⟩,⟨27,.gcOnly .lateStores⟩],none⟩ ?_ rfl ?_ z ?_;rotate_left
    ·(intro U ac;go_simp;first|done|with_reducible rfl)
    (try simp only[aC,ZA,ZB,ZC]);refine tk 21 ⟨some 28,.nilCheck (.tmp 8),0, "desk.go:84",#[⟨0,.data⟩,⟨0,.phase⟩,⟨1,.textOnly .lateStores⟩,⟨2,.phase⟩,⟨3,.phase⟩,⟨4,.phase⟩,⟨5,.phase⟩,⟨6,.phase⟩,⟨7,.phase⟩,⟨8,.phase⟩,⟨9,.phase⟩,⟨10,.phase⟩,⟨11,.phase⟩,⟨12,.phase⟩,⟨13,.phase⟩,⟨14,.phase⟩,⟨15,.phase⟩,⟨16,.phase⟩,⟨17,.textOnly .lateStores⟩,⟨18,.textOnly .lateStores⟩,⟨19,.textOnly .lateStores⟩,⟨20,.textOnly .lateStores⟩],none⟩ ?_ rfl ?_ z ?_;rotate_left
    ·(intro U ac;go_simp;first|done|with_reducible rfl)
    (try simp only[aC,ZA,ZB,ZC]);refine tk 22 ⟨some 29,.fieldAddr 254 (.tmp 28) 0,0, "desk.go:84",#[⟨21,.data⟩,⟨0,.phase⟩,⟨1,.textOnly .lateStores⟩,⟨2,.phase⟩,⟨3,.phase⟩,⟨4,.phase⟩,⟨5,.phase⟩,⟨6,.phase⟩,⟨7,.phase⟩,⟨8,.phase⟩,⟨9,.phase⟩,⟨10,.phase⟩,⟨11,.phase⟩,⟨12,.phase⟩,⟨13,.phase⟩,⟨14,.phase⟩,⟨15,.phase⟩,⟨16,.phase⟩,⟨17,.textOnly .lateStores⟩,⟨18,.textOnly .lateStores⟩,⟨19,.textOnly .lateStores⟩,⟨20,.textOnly .lateStores⟩],none⟩ ?_ rfl ?_ z ?_;rotate_left
    ·(intro U ac;go_simp;first|done|with_reducible rfl)
    (try simp only[aC,ZA,ZB,ZC]);have an:=ZE ar H.box;have y0:=Zb an 0 _ rfl;have y3:=Zb an 3 _ rfl;have g0:=Zg an 0;have g3:=Zg an 3;have yl:=aA an;refine aG (rs:=[23]) (by kernel_rfl) (by simp) ?_;refine AllReadyH.cons (o:=⟨none,.store 24 (.tmp 29) (.tmp 23),0, "desk.go:84",#[⟨22,.data⟩,⟨16,.data⟩,⟨14,.chain⟩,⟨0,.phase⟩,⟨1,.textOnly .lateStores⟩,⟨2,.phase⟩,⟨3,.phase⟩,⟨4,.phase⟩,⟨5,.phase⟩,⟨6,.phase⟩,⟨7,.phase⟩,⟨8,.phase⟩,⟨9,.phase⟩,⟨10,.phase⟩,⟨11,.phase⟩,⟨12,.phase⟩,⟨13,.phase⟩,⟨14,.phase⟩,⟨15,.phase⟩,⟨16,.phase⟩,⟨17,.textOnly .lateStores⟩,⟨18,.textOnly .lateStores⟩,⟨19,.textOnly .lateStores⟩,⟨20,.textOnly .lateStores⟩],none⟩) rfl (λKQ hK=>?_) AllReadyH.nil;go_simp;refine hK.out _ _ (KS _ (by simpa[World.setCell] using ar.size)) (λQ=>?_);clear hK KQ z;have z:=Q;clear Q;(try simp only[aC]);refine tk 24 ⟨some 30,.nilCheck (.tmp 9),0, "desk.go:84",#[⟨1,.data⟩,⟨0,.phase⟩,⟨1,.phase⟩,⟨2,.phase⟩,⟨3,.phase⟩,⟨4,.phase⟩,⟨5,.phase⟩,⟨6,.phase⟩,⟨7,.phase⟩,⟨8,.phase⟩,⟨9,.phase⟩,⟨10,.phase⟩,⟨11,.phase⟩,⟨12,.phase⟩,⟨13,.phase⟩,⟨14,.phase⟩,⟨15,.phase⟩,⟨16,.phase⟩,⟨17,.phase⟩,⟨18,.textOnly .lateStores⟩,⟨19,.textOnly .lateStores⟩,⟨20,.textOnly .lateStores⟩,⟨21,.phase⟩,⟨22,.phase⟩,⟨23,.phase⟩],none⟩ ?_ rfl ?_ z ?_;rotate_left
    ·(intro U ac;go_simp;first|done|with_reducible rfl)
    (try simp only[aC,ZA,ZB,ZC]);refine tk 25 ⟨some 31,.fieldAddr 254 (.tmp 30) 1,0, "desk.go:84",#[⟨24,.data⟩,⟨0,.phase⟩,⟨1,.phase⟩,⟨2,.phase⟩,⟨3,.phase⟩,⟨4,.phase⟩,⟨5,.phase⟩,⟨6,.phase⟩,⟨7,.phase⟩,⟨8,.phase⟩,⟨9,.phase⟩,⟨10,.phase⟩,⟨11,.phase⟩,⟨12,.phase⟩,⟨13,.phase⟩,⟨14,.phase⟩,⟨15,.phase⟩,⟨16,.phase⟩,⟨17,.phase⟩,⟨18,.textOnly .lateStores⟩,⟨19,.textOnly .lateStores⟩,⟨20,.textOnly .lateStores⟩,⟨21,.phase⟩,⟨22,.phase⟩,⟨23,.phase⟩],none⟩ ?_ rfl ?_ z ?_;rotate_left
    ·(intro U ac;go_simp;first|done|with_reducible rfl)
    (try simp only[aC,ZA,ZB,ZC]);refine tk 26 ⟨some 32,.fieldAddr 67 (.tmp 31) 1,0, "desk.go:84",#[⟨25,.data⟩,⟨0,.phase⟩,⟨1,.phase⟩,⟨2,.phase⟩,⟨3,.phase⟩,⟨4,.phase⟩,⟨5,.phase⟩,⟨6,.phase⟩,⟨7,.phase⟩,⟨8,.phase⟩,⟨9,.phase⟩,⟨10,.phase⟩,⟨11,.phase⟩,⟨12,.phase⟩,⟨13,.phase⟩,⟨14,.phase⟩,⟨15,.phase⟩,⟨16,.phase⟩,⟨17,.phase⟩,⟨18,.textOnly .lateStores⟩,⟨19,.textOnly .lateStores⟩,⟨20,.textOnly .lateStores⟩,⟨21,.phase⟩,⟨22,.phase⟩,⟨23,.phase⟩],none⟩ ?_ rfl ?_ z ?_;rotate_left
    ·(intro U ac;go_simp;first|done|with_reducible rfl)
    (try simp only[aC,ZA,ZB,ZC]);refine aG (rs:=[27]) (by kernel_rfl) (by simp) ?_;refine AllReadyH.cons (o:=⟨none,.store 37 (.tmp 32) (.tmp 24),0, "desk.go:84",#[⟨26,.data⟩,⟨17,.data⟩,⟨23,.chain⟩,⟨0,.phase⟩,⟨1,.phase⟩,⟨2,.phase⟩,⟨3,.phase⟩,⟨4,.phase⟩,⟨5,.phase⟩,⟨6,.phase⟩,⟨7,.phase⟩,⟨8,.phase⟩,⟨9,.phase⟩,⟨10,.phase⟩,⟨11,.phase⟩,⟨12,.phase⟩,⟨13,.phase⟩,⟨14,.phase⟩,⟨15,.phase⟩,⟨16,.phase⟩,⟨17,.phase⟩,⟨18,.textOnly .lateStores⟩,⟨19,.textOnly .lateStores⟩,⟨20,.textOnly .lateStores⟩,⟨21,.phase⟩,⟨22,.phase⟩,⟨23,.phase⟩],none⟩) rfl (λKQ hK=>?_) AllReadyH.nil;go_simp;refine hK.out _ _ (KS _ (by simpa[World.setCell] using ar.size)) (λQ=>?_);clear hK KQ z;have z:=Q;clear Q;(try simp only[aC]);refine tk 28 ⟨some 4,.assign (.tmp 27),30, "desk.go:84",#[⟨20,.data⟩,⟨27,.chain⟩,⟨0,.phase⟩,⟨1,.phase⟩,⟨2,.phase⟩,⟨3,.phase⟩,⟨4,.phase⟩,⟨5,.phase⟩,⟨6,.phase⟩,⟨7,.phase⟩,⟨8,.phase⟩,⟨9,.phase⟩,⟨10,.phase⟩,⟨11,.phase⟩,⟨12,.phase⟩,⟨13,.phase⟩,⟨14,.phase⟩,⟨15,.phase⟩,⟨16,.phase⟩,⟨17,.phase⟩,⟨18,.phase⟩,⟨19,.phase⟩,⟨20,.phase⟩,⟨21,.phase⟩,⟨22,.phase⟩,⟨23,.phase⟩,⟨24,.phase⟩,⟨25,.phase⟩,⟨26,.phase⟩,⟨27,.phase⟩],none⟩ ?_ rfl ?_ z ?_;rotate_left
    ·(intro U ac;go_simp;first|done|with_reducible rfl)
    (try simp only[aC,ZA,ZB,ZC]);refine wpAnyH_done (by kernel_rfl) ?_ _;clear z;go_wp2_with fail;go_meet
    case rel=>
     refine⟨rfl,k5,be,bt,sa,sn,sc,?_⟩;have cc:Fresh vz.heap.size vy (λw2=>Bk.TextsAt w2 k5 be K2/\TxsAt w2 sa sn P2):=λW g=>⟨(br W g).1,(br W g).2.1⟩;exact H.swept hb ah cc cn cp (((Gr.refl vy (λq=>q=d)).one d 0 (.inl rfl) (F k5 be bt)).one d 3 (.inl rfl) (F sa sn sc)) (Tr.set_cells (Tr.set_cells an 0 _) 3 _)
  case rest=>
   obtain⟨rfl,HD⟩:=hcut;clear KS KC CC CS H;go_wp2;go_ret;exact⟨rfl,Za HD⟩
end
