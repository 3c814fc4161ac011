import Derived.Test.YtmomfkikogbdeaaGreatDoorH
import Derived.Test.YtmomfkikogbdeaaGreatDoorG44
open Go.Proofs.Tryz
open Go renaming heap_alloc_new->aJ,bodyPost_ret->aW
open Go.Ending renaming returned->cS
open Go.IntKind renaming i64->J
open Go.Obj renaming cells->cR
open Go.Value renaming slice->aY,int->E,slice->F,tuple->cT,pointer->cU
open Go.World.ownsRow renaming cellAt->bA
set_option maxHeartbeats 12800000
set_option maxRecDepth 10000
namespace Go.Proofs.YtmomfkikogbdeaaGreatDoor
open Go.RowKit
theorem Rf(Z:Nat->Prop)(s:Nat)(W:WD)(xk xn xt xi xw xN th:Int)(ai ao ni ci no co)(b1 b2 n:Nat)(bd caps)(x:Int)(W':WD)(o:Bool)(w:World)(h1:w.heap[b1]? = some (cR [cU (some ⟨s,0,none⟩)].toArray 204 (0,0)))(h2:w.heap[b2]? = some (cR [.func (.func n) bd caps].toArray 292 (0,0)))(hS:Sc Z s W w)(ho:Xf xt W.n.length=o)(hd:o=true->xt≠xn->Zlk Z s (.agg #[E J xk,E J xn,E J xt,E J xi,E J xw,E J xN,E J th,F ai ni ci,F ao no co]) x W' w n bd caps)(y:Int)(hy:(if o=true then (if xt=xn then 6 else x) else 5)=y) :
  Calls Tryz.prog 276 #[.agg #[E J xk,E J xn,E J xt,E J xi,E J xw,E J xN,E J th,F ai ni ci,F ao no co],cU (some ⟨b1,0,none⟩),cU (some ⟨b2,0,none⟩)] w λe w'=>e = cS (E J y)/\(y=0->Sc Z s W' w')/\Gr w w' (λq=>¬Z q):=by
 obtain⟨X,hX⟩:=ZG (w.alloc (cR #[E J xk,E J xn,E J xt,E J xi,E J xw,E J xN,E J th,F ai ni ci,F ao no co] 103));have ac:ZD w X:=by rw[hX];exact Zh _ _
 have ag:X.heap[w.heap.size]? = some (cR [E J xk,E J xn,E J xt,E J xi,E J xw,E J xN,E J th,F ai ni ci,F ao no co].toArray 103 (0,0)):=by rw[hX];exact aJ _ _
 have k1:=ZE ac h1;have k2:=ZE ac h2;obtain⟨ln,aj⟩:∃ n,W.n.length=n:=⟨_,rfl⟩
 obtain⟨a,c,hc⟩:∃ a c,X.cell? ⟨s,1,none⟩=some (F a ln c):=by
  obtain⟨ka,kn,kc,vn,vm,Kn,Km,hA⟩:=hS.later ac;obtain⟨na,nc,ma,mc,rfl,rfl,_⟩:=hA.on.read;exact⟨_,_,by rw[<-aj];exact Zb hA.box 1 _ rfl⟩
 rw[aj] at ho;have br:s<X.heap.size:=Nat.lt_of_lt_of_le hS.lt ac.size;have C1:=Zd (Ud xt ln o X.drew ho);have ab:=Zd ac;have z:=Zd ag;have ay:=Zd k2;have HD:=Zd hd;obtain⟨c1,l1⟩:X.cell? ⟨b1,0,none⟩=some (cU (some ⟨s,0,none⟩))/\b1<X.heap.size:=⟨Zb k1 0 _ rfl,lt_of_block k1⟩;have m2:=Zb ag 2 _ rfl;have ml:=lt_of_block ag;clear h1 h2 hS ho hd ac ag k1 k2 aj;go_enter func276,ntmps276
 go_upto_region 1 with fail
 rw[<-hX];clear hX
 go_region_law (first
  | (refine Yg (by rfl) 175 #[E J xt,E J ln] (by kernel_rfl) C1 ?_;rintro e w4 ⟨rfl,rfl⟩;refine⟨_,rfl,?_⟩))
 all_goals
  cases o
  ·obtain rfl:(5:Int)=y:=hy;clear HD C1;go_wp2;go_ret
   first|exact⟨rfl,λe=>absurd e (by decide),Gr.of (Zf ab (Zi X))⟩|exact⟨rfl,Gr.of (Zf ab (Zi X))⟩
  ·have hy:(if xt=xn then 6 else x)=y:=hy;by_cases Q:xt=xn
   ·rw[if_pos Q] at hy;subst hy;have gt:(xt == xn)=true:=(by simp[Q]);have m1:=Zb z 1 _ rfl;clear HD C1 Q;go_wp2;go_ret
    first|exact⟨rfl,λe=>absurd e (by decide),Gr.of (Zf ab (Zi X))⟩|exact⟨rfl,Gr.of (Zf ab (Zi X))⟩
   rw[if_neg Q] at hy;subst hy;have gt:(xt == xn)=false:=(by simp[Q]);obtain⟨eg,au⟩:=HD rfl Q;have C2:=Zd (au X.drew (Zf ab (Zi X)));have k2:=Za ay;have d0:=Zb k2 0 _ rfl;have dl:=lt_of_block k2;have g0:=Zb z 0 _ rfl;have g1:=Zb z 1 _ rfl;have g2:=Zb z 2 _ rfl;have g3:=Zb z 3 _ rfl;have g4:=Zb z 4 _ rfl;have g5:=Zb z 5 _ rfl;have g6:=Zb z 6 _ rfl;have g7:=Zb z 7 _ rfl;have g8:=Zb z 8 _ rfl;clear HD C1 au k2 m2 Q;have m2:=Zb z 2 _ rfl;go_wp2_with fail;refine C2.mono ?_;rintro e w5 ⟨rfl,ar,aw⟩;have az:=Zd ar;have ax:Hid (Gr w w5 (λq=>¬Z q)):=(Gr.of (Zf ab (Zi X))).trans aw;clear ar aw C2;go_wp2;go_ret;exact⟨rfl,Za az,Za ax⟩
section
variable {W : WD} {xt xw xN th : Int} {ai ao : Option Addr} {ni ci no co : Nat}
theorem Af{P:World->Prop}{xi:Int}{i:Nat}(hi:i<W.n.length):HapP P (.agg #[E J 7,E J i,E J xt,E J xi,E J xw,E J xN,E J th,F ai ni ci,F ao no co]) W 0 (W.forget i):=λZ V s hE z=>by
 refine Ke Z s i xt xi xw xN th ai ao ni ci no co 0 (W.forget i) V (λU p q Q hb=>?_);refine Yx Z s W 7 i xt xi xw xN th ai ao ni ci no co p q 244 #[cU (some ⟨s,0,none⟩)] #[] 0 (W.forget i) true U hb.1 hb.2 (z.later Q) (Y5 hi) (λ_=>⟨enters_of (fn:=Tryz.f244) (by kernel_rfl) (by kernel_rfl) rfl,λV2 h2=>?_⟩) 0 (if_pos rfl);refine (Zdr Z s W 7 i xt xi xw xN th ai ao ni ci no co V2 (z.later (Zf Q h2)) hi).mono ?_;rintro e V3 ⟨rfl,h3,h4⟩;exact⟨rfl,λ_=>h3,h4⟩
theorem Ae{I O}{xi:Int}{i:Nat}{y:Int}{W':WD}(hc:Xl W.k W.n W.m=0)(hi:i<W.n.length)(sI:SlOk ai ni ci)(sO:SlOk ao no co)(hz:Tr.TxSmall (th,I,O))(hx:W.submit i (th,I,O)=(y,W')):HapP (λU=>Env U/\InsAt U ai ni I/\OutsAt U ao no O) (.agg #[E J 2,E J i,E J xt,E J xi,E J xw,E J xN,E J th,F ai ni ci,F ao no co]) W y W':=λZ V s hE hS=>by
 obtain⟨_,q2,_,_,_,q6,_⟩:=Yc hc;refine Ki Z s i xt xi xw xN th ai ao ni ci no co y W' V (λU p q z hb=>?_);exact Yx Z s W 2 i xt xi xw xN th ai ao ni ci no co p q 236 #[cU (some ⟨s,0,none⟩)] #[] y W' true U hb.1 hb.2 (hS.later z) (Y5 hi) (λ_=>⟨enters_of (fn:=Tryz.f236) (by kernel_rfl) (by kernel_rfl) rfl,λQ h2=>Zbo Z s W 2 i xt xi xw xN th ai ao ni ci no co I O y W' Q (hE Q (Gr.of (Zf z h2))).1 (hS.later (Zf z h2)) hi q2 (Qc (q6 _ (List.getElem_mem hi))) (λV g=>(hE V ((Gr.of (Zf z h2)).trans g)).2) sI sO hz hx⟩) y (if_pos rfl)
theorem Eh{P:World->Prop}{xi:Int}{i:Nat}{o:Bool}{x ar y:Int}{W':WD}(hi:i<W.n.length)(ho:Xf xt W.n.length=o)(hx:W.fetch i xt xi=(x,W'))(hz:(if W.m.length=20 then 12 else x)=ar)(hy:(if o=true then (if xt=i then 6 else ar) else 5)=y):HapP P (.agg #[E J 8,E J i,E J xt,E J xi,E J xw,E J xN,E J th,F ai ni ci,F ao no co]) W y W':=λZ V s hE hS=>by
 refine Kd Z s i xt xi xw xN th ai ao ni ci no co y W' V (λU p q p' q' ap aq hU z Q ae=>?_);refine Yx Z s W 8 i xt xi xw xN th ai ao ni ci no co ap aq 276 #[] #[cU (some ⟨p',0,none⟩),cU (some ⟨q',0,none⟩)] y W' true U ae.1 ae.2 (hS.later hU) (Y5 hi) (λ_=>⟨enters_of (fn:=Tryz.f276) (by kernel_rfl) (by kernel_rfl) rfl,λV2 h2=>?_⟩) y (if_pos rfl);have ab:=hS.later (Zf hU h2);refine Rf Z s W 8 i xt xi xw xN th ai ao ni ci no co p' q' 274 #[] #[cU (some ⟨p,0,none⟩),cU (some ⟨q,0,none⟩)] ar W' o V2 ((h2.block _ (lt_of_block Q.1)).trans Q.1) ((h2.block _ (lt_of_block Q.2)).trans Q.2) ab ho (λ_ _=>⟨enters_of (fn:=Tryz.f274) (by kernel_rfl) (by kernel_rfl) rfl,λV3 h3=>?_⟩) y hy;have h23:=Zf h2 h3;exact Qk Z s W 8 i xt xi xw xN th ai ao ni ci no co p q 245 #[cU (some ⟨s,0,none⟩)] #[] x W' V3 ((h23.block _ (lt_of_block z.1)).trans z.1) ((h23.block _ (lt_of_block z.2)).trans z.2) (ab.later h3) (λ_=>⟨enters_of (fn:=Tryz.f245) (by kernel_rfl) (by kernel_rfl) rfl,λV4 h4=>Zhq Z s W 8 i xt xi xw xN th ai ao ni ci no co x W' V4 ((ab.later h3).later h4) hx⟩) ar hz
theorem Ef{P:World->Prop}{xi:Int}{i:Nat}{o:Bool}{x au y:Int}{W':WD}(hi:i<W.n.length)(al:Tr.BlkSmall (Tr.blockE W.n[i].1 W.n[i].2.1 W.n[i].2.2.2).1)(ho:Xf xt W.n.length=o)(hx:W.share i xt=(x,W'))(hz:(if W.m.length=20 then 12 else x)=au)(hy:(if o=true then (if xt=i then 6 else au) else 5)=y):HapP P (.agg #[E J 6,E J i,E J xt,E J xi,E J xw,E J xN,E J th,F ai ni ci,F ao no co]) W y W':=λZ V s hE hS=>by
 refine Kf Z s i xt xi xw xN th ai ao ni ci no co y W' V (λU p q p' q' aq ar hU z Q ae=>?_);refine Yx Z s W 6 i xt xi xw xN th ai ao ni ci no co aq ar 276 #[] #[cU (some ⟨p',0,none⟩),cU (some ⟨q',0,none⟩)] y W' true U ae.1 ae.2 (hS.later hU) (Y5 hi) (λ_=>⟨enters_of (fn:=Tryz.f276) (by kernel_rfl) (by kernel_rfl) rfl,λV2 h2=>?_⟩) y (if_pos rfl);have ab:=hS.later (Zf hU h2);refine Rf Z s W 6 i xt xi xw xN th ai ao ni ci no co p' q' 274 #[] #[cU (some ⟨p,0,none⟩),cU (some ⟨q,0,none⟩)] au W' o V2 ((h2.block _ (lt_of_block Q.1)).trans Q.1) ((h2.block _ (lt_of_block Q.2)).trans Q.2) ab ho (λ_ _=>⟨enters_of (fn:=Tryz.f274) (by kernel_rfl) (by kernel_rfl) rfl,λV3 h3=>?_⟩) y hy;have h23:=Zf h2 h3;exact Qk Z s W 6 i xt xi xw xN th ai ao ni ci no co p q 243 #[cU (some ⟨s,0,none⟩)] #[] x W' V3 ((h23.block _ (lt_of_block z.1)).trans z.1) ((h23.block _ (lt_of_block z.2)).trans z.2) (ab.later h3) (λ_=>⟨enters_of (fn:=Tryz.f243) (by kernel_rfl) (by kernel_rfl) rfl,λV4 h4=>Zfn Z s W 6 i xt xi xw xN th ai ao ni ci no co x W' V4 ((ab.later h3).later h4) hi al hx⟩) au hz
end
namespace Tr
open Go.RowKit
def Zja(w w':World)(x:Zl)(y:Int)(e:Ending):Prop:=
 ∃ z Q tc,e = cS (cT #[.agg #[E J x.1,E J x.2.1,E J x.2.2.1,E J x.2.2.2.1,F z Q tc],E J y])/\(∀ W2,Gr w' W2 (λq=>q<w.heap.size)->TxsAt W2 z Q x.2.2.2.2)/\SlOk z Q tc/\ZD w w'
theorem Lc{w w':World}{y:Int}(z:ZD w w'):Zja w w' Yf y (cS (cT #[.agg #[E J 0,E J 0,E J 0,E J 0,F none 0 0],E J y])):=
 ⟨none,0,0,rfl,λ_ _=>RowsAt.nil _ _,⟨Nat.le_refl _,Nat.zero_le _,λ_=>⟨rfl,rfl⟩⟩,z⟩
theorem block_fresh(a b n c m d N T)(s:Int)(x:Zl)(y:Int)(w)(hN:IntsAt w a n N)(hT:BlksAt w b m T)(sN:SlOk a n c)(sT:SlOk b m d)(hx:blockE N T s=(x,y)) :
  Calls Tryz.prog 20 #[.agg #[F a n c,F b m d],E J s] w λe w'=>Zja w w' x y e:=by
 obtain⟨X,hX⟩:=ZG ((w.alloc (cR #[F a n c,F b m d] 28)).alloc (cR #[E J 0,E J 0,E J 0,E J 0,F none 0 0] 39));have ad:ZD w X:=by rw[hX];exact Zf (Zh _ _) (Zh _ _)
 have ae:X.heap[w.heap.size]? = some (cR [F a n c,F b m d].toArray 28 (0,0)):=by rw[hX,Below.heap_alloc _ _ _ (by simp)];exact Yu _ _ _ _
 have ay:X.heap[w.heap.size+1]? = some (cR [E J 0,E J 0,E J 0,E J 0,F none 0 0].toArray 39 (0,0)):=by
  rw[hX];have:=Zx (w.alloc (cR #[F a n c,F b m d] 28)) (E J 0) (E J 0) (E J 0) (E J 0) (F none 0 0) 39;rw[show (w.alloc (cR #[F a n c,F b m d] 28)).heap.size=w.heap.size+1 by simp] at this;exact this
 have HB:=Zd ad;have cj:=Zd ae;have bi:=Zd ay;obtain⟨dr,hz⟩:=ZF (chkTr N T);have C1:=Zd (Ve a b n c m d N T dr X (hN.later ad) (hT.later ad) sN sT hz);have x0:=Zb ae 0 _ rfl;have x1:=Zb ae 1 _ rfl;have xl:=lt_of_block ae;unfold blockE at hx;rw[hz] at hx;by_cases q:dr=0
 ·subst q;rw[if_neg (by simp)] at hx;obtain⟨hl,h24,hH,br⟩:=Xy hz;obtain rfl:n=m:=by rw[<-hN.1,<-hT.1,hl]
  have be:n<=maxLen:=sN.len;obtain⟨o,ho⟩:=ZF (decide (s∈N));rw[ho] at hx;have C2:=Zd (λW (hb:ZD X W)=>Kc a b n c n d N s o W be (hN.later (Zf ad hb)) ho);cases o with
  | false=>
   rw[if_neg (by simp)] at hx;obtain⟨rfl,rfl⟩:Yf=x/\5=y:=⟨congrArg Prod.fst hx,congrArg Prod.snd hx⟩;clear ad ae ay hN hT sN sT hz hx hl h24 hH br ho be;go_enter func20,ntmps20;go_wp2_with fail;rw[<-hX];clear hX;refine C1.mono ?_;rintro e w1 ⟨rfl,Q⟩;have CC:=Zd (C2 _ Q);have hc:=ZE Q cj;have ap:=ZE Q bi;have H0:=Zd hc;have H1:=Zd ap;have t0:=Zb hc 0 _ rfl;have t1:=Zb hc 1 _ rfl;have tl:=lt_of_block hc;have cd:=Zd Q;have aj:=Zd (Zf HB Q);clear Q x0 x1 xl hc ap C1 C2;go_wp2_with fail;refine CC.mono ?_;rintro e w2 ⟨rfl,ac⟩;have z:=ZE ac H1;have z0:=Zb z 0 _ rfl;have f0:=Zg z 0;have z1:=Zb z 1 _ rfl;have f1:=Zg z 1;have z2:=Zb z 2 _ rfl;have f2:=Zg z 2;have z3:=Zb z 3 _ rfl;have f3:=Zg z 3;have z4:=Zb z 4 _ rfl;have f4:=Zg z 4;have zl:=lt_of_block z;clear z;have bh:=Zd (Zf aj ac);clear ac t0 t1 tl;go_wp2;(try simp only[Exit.inBlock,Exit.then]);refine aW (v:=cT #[.agg #[E J 0,E J 0,E J 0,E J 0,F none 0 0],E J 5]) ?_ rfl (Lc ?_)
   ·rw[Zo rfl];go_simp
   ·exact (box5_gr _ _ _ _ _ _ _).below bh (by omega) (λk hk=>by omega)
  | true=>
   rw[if_pos rfl] at hx;obtain⟨bo,rfl⟩:fnd s N T=x/\0=y:=⟨congrArg Prod.fst hx,congrArg Prod.snd hx⟩;have cu:x∈T:=(by rw[<-bo];exact fnd_at hl (by simpa using ho));have cw:=blk_small (chkGo_blks N T [] [] hl br x cu);have C3:=Zd (λW (hb:ZD X W)=>T3 a b n c d N T s x W be (hN.later (Zf ad hb)) (hT.later (Zf ad hb)) bo);have cf:=Zd cw;clear ad ae ay hN hT sN sT hz hx hl h24 hH br ho be bo cu cw;obtain⟨p,h,k,r,L⟩:=x;go_enter func20,ntmps20;go_wp2_with fail;rw[<-hX];clear hX;refine C1.mono ?_;rintro e w1 ⟨rfl,Q⟩;have CC:=Zd (C2 _ Q);have hc:=ZE Q cj;have ap:=ZE Q bi;have H0:=Zd hc;have H1:=Zd ap;have t0:=Zb hc 0 _ rfl;have t1:=Zb hc 1 _ rfl;have tl:=lt_of_block hc;have cd:=Zd Q;have aj:=Zd (Zf HB Q);clear Q x0 x1 xl hc ap C1 C2;go_wp2_with fail;refine CC.mono ?_;rintro e w2 ⟨rfl,ac⟩;have C4:=Zd (C3 _ (Zf cd ac));have bd:=ZE ac H0;have z:=ZE ac H1;have HD:=Zd z;have u0:=Zb bd 0 _ rfl;have u1:=Zb bd 1 _ rfl;have ul:=lt_of_block bd;have dg:=Zd (Zf aj ac);clear ac bd z t0 t1 tl CC C3;go_wp2_with fail;refine C4.mono ?_;rintro e w3 ⟨ta,tn,tc,rfl,hL,sL,bb⟩;have hL:TxsAt w2 ta tn L:=hL;have C5:=Zd (clBlock_is p h k r ta tn tc L w3 (hL.later bb) sL (by rw[<-hL.1];exact cf.1) cf.2);have z:=ZE bb HD;have ce:=Zd z;have dh:=Zd (Zf dg bb);have dq:=Zd hL.1;clear bb z hL sL u0 u1 ul C4;unfold Jw;go_wp2_with fail;refine C5.mono ?_;rintro e w4 ⟨a',c',rfl,hf,bk⟩;have z:=ZE bk ce;have z0:=Zb z 0 _ rfl;have f0:=Zg z 0;have z1:=Zb z 1 _ rfl;have f1:=Zg z 1;have z2:=Zb z 2 _ rfl
   have f2:=Zg z 2;have z3:=Zb z 3 _ rfl;have f3:=Zg z 3;have z4:=Zb z 4 _ rfl;have f4:=Zg z 4;have zl:=lt_of_block z;clear z;have hg:=box5_gr w4 (w.heap.size+1) (E J p) (E J h) (E J k) (E J r) (F a' tn c');have dl:=lt_of_block ce;have HW:=Zd (λW2 (g2:Gr (((((w4.setCell ⟨w.heap.size+1,0,none⟩ (E J p)).setCell ⟨w.heap.size+1,1,none⟩ (E J h)).setCell ⟨w.heap.size+1,2,none⟩ (E J k)).setCell ⟨w.heap.size+1,3,none⟩ (E J r)).setCell ⟨w.heap.size+1,4,none⟩ (F a' tn c')) W2 (λq=>q<w.heap.size))=>hf W2 ((hg.mono λq _ e=>by omega).trans (g2.mono (λq _ e=>by omega))));have bh:Hid (ZD w (((((w4.setCell ⟨w.heap.size+1,0,none⟩ (E J p)).setCell ⟨w.heap.size+1,1,none⟩ (E J h)).setCell ⟨w.heap.size+1,2,none⟩ (E J k)).setCell ⟨w.heap.size+1,3,none⟩ (E J r)).setCell ⟨w.heap.size+1,4,none⟩ (F a' tn c'))):=hg.below (Zf dh bk) (by omega) (λk hk=>by omega);clear bk hf hg dl C5;go_wp2;(try simp only[Exit.inBlock,Exit.then]);refine aW (v:=cT #[.agg #[E J p,E J h,E J k,E J r,F a' tn c'],E J 0]) ?_ rfl ?_
   ·rw[Zo rfl];go_simp
   ·refine⟨a',tn,c',rfl,λW2 g2=>?_,?_,Za bh⟩
    ·obtain⟨a2,n2,c2,e2,f1,f2⟩:=HW W2 g2;cases e2;exact f1
    ·obtain⟨a2,n2,c2,e2,f1,f2⟩:=HW _ (Gr.refl _ _);cases e2;exact f2
 ·rw[if_pos q] at hx;obtain⟨rfl,rfl⟩:Yf=x/\dr=y:=⟨congrArg Prod.fst hx,congrArg Prod.snd hx⟩;have g:(dr != 0)=true:=by simp[q]
  clear ad ae ay hN hT sN sT hz hx q;go_enter func20,ntmps20;go_wp2_with fail;rw[<-hX];clear hX;refine C1.mono ?_;rintro e w1 ⟨rfl,Q⟩;have z:=ZE Q bi;have z0:=Zb z 0 _ rfl;have f0:=Zg z 0;have z1:=Zb z 1 _ rfl;have f1:=Zg z 1;have z2:=Zb z 2 _ rfl;have f2:=Zg z 2;have z3:=Zb z 3 _ rfl;have f3:=Zg z 3;have z4:=Zb z 4 _ rfl;have f4:=Zg z 4;have zl:=lt_of_block z;clear z;have aj:=Zd (Zf HB Q);clear Q x0 x1 xl C1;go_wp2;(try simp only[Exit.inBlock,Exit.then]);refine aW (v:=cT #[.agg #[E J 0,E J 0,E J 0,E J 0,F none 0 0],E J dr]) ?_ rfl (Lc ?_)
  ·rw[Zo rfl];go_simp
  ·exact (box5_gr _ _ _ _ _ _ _).below aj (by omega) (λk hk=>by omega)
end Tr
open Go.RowKit
def WD.asked(W:WD)(i:Nat)(fr nm:Int):WD:=
 if h:i<W.n.length then
  let r:=Tr.blockE W.n[i].1 W.n[i].2.1 nm
  if r.2=0 then W.sent (1,i,fr,0,r.1,Xt) else W
 else W
theorem Zip(Z:Nat->Prop)(s:Nat)(W:WD)(kd fr:Int)(xn:Nat)(nm bp ei bk bo:Int)(la ln lc)(th:Int)(ai ao ni ci no co)(W':WD)(w)(hS:Sc Z s W w)(hi:xn<W.n.length)(aj:Tr.BlkSmall (Tr.blockE W.n[xn].1 W.n[xn].2.1 nm).1)(hx:W.asked xn fr nm=W') :
  Calls Tryz.prog 272 #[cU (some ⟨s,0,none⟩),.agg #[E J kd,E J fr,E J xn,E J nm,E J bp,E J ei,E J bk,E J bo,F la ln lc,E J th,F ai ni ci,F ao no co]] w λe w'=>e = cS (cT #[])/\Sc Z s W' w'/\Gr w w' (λq=>¬Z q):=by
 obtain⟨ka,kn,kc,vn,vm,Kn,Km,hA⟩:=hS;have hw:=hA.on;obtain⟨ga,gc,ma,mc,rfl,rfl,_,_,sg,_⟩:=hw.read;have hb:=hA.box
 obtain⟨g,rfl⟩:∃ g,ga=some ⟨g,0,none⟩:=by
  rcases hw.rn.2 with ⟨_,e⟩|⟨g,cap,dr,e,_⟩
  ·omega
  ·injection e with e;exact⟨g,e⟩
 have ea:=(hw.rn.lt g rfl).2;have hk:xn<Kn.length:=by rw[hw.now.2.1.1];exact hi
 obtain⟨y,hy⟩:=ZF (W.n[xn])
 have hC:Tr.nodR.C w Kn[xn] y:=by
  have:=hw.now.2.1.2 xn hi hk;rw[hy] at this;exact this
 unfold WD.asked at hx;rw[dif_pos hi] at hx;rw[hy] at aj;simp only[hy] at hx;obtain⟨z0,z1,z2,z3⟩:=y;obtain⟨na,nn,nc,ba,bn,bc,pa,pn,pc,eK,hN,hT,hP,sN,sT,sP⟩:=hC;simp only at eK hN hT hP hx aj;obtain⟨⟨b,x1⟩,hr⟩:=ZF (Tr.blockE z0 z1 nm);rw[hr] at hx aj;simp only at hx aj;obtain⟨X,hX⟩:=ZG (w.alloc (cR #[E J kd,E J fr,E J xn,E J nm,E J bp,E J ei,E J bk,E J bo,F la ln lc,E J th,F ai ni ci,F ao no co] 106));have ag:ZD w X:=by rw[hX];exact Zh _ _
 have dg:X.heap.size=w.heap.size+1:=by rw[hX];simp
 have am:X.heap[w.heap.size]? = some (cR [E J kd,E J fr,E J xn,E J nm,E J bp,E J ei,E J bk,E J bo,F la ln lc,E J th,F ai ni ci,F ao no co].toArray 106 (0,0)):=by rw[hX];exact aJ _ _
 have bg:=ZE ag hb;have rc:=λj (hj:j<4)=>(bA (hw.later ag).rn (xn*4+j) (by have:(xn+1)*4<=W.n.length*4:=Nat.mul_le_mul_right _ hi;omega)).trans (Tr.wid_at hw.now.2.1.wid xn hk j hj);rw[eK] at rc;have r0:X.cell? ⟨g,xn*4,none⟩=some (F na nn nc):=rc 0 (by decide);have r1:X.cell? ⟨g,xn*4+1,none⟩=some (F ba bn bc):=rc 1 (by decide);have r2:X.cell? ⟨g,xn*4+2,none⟩=some (F pa pn pc):=rc 2 (by decide);have r3:X.cell? ⟨g,xn*4+3,none⟩=some (E J z3):=rc 3 (by decide);have eb:(xn:Int)<(W.n.length:Int):=by omega
 have ec:=lt_of_block hb;have CB:=Zd (λV (hv:ZD w V)=>Tr.block_fresh na ba nn nc bn bc z0 z1 nm b x1 V (hN.later hv) (hT.later hv) sN sT hr);have HS:=Zd (λV (hv:ZD w V)=>(⟨_,_,_,_,_,_,_,hA.later hv⟩:Sc Z s W V));have cp:=Zd aj;have HX:=Zd hx;have bu:=Zd ag;have cc:=Zd am;have c1:=Zb bg 1 _ rfl;have ej:=lt_of_block bg;have m2:=Zb am 2 _ rfl;have m3:=Zb am 3 _ rfl;have ml:=lt_of_block am;have dh:g<X.heap.size:=by omega
 have C1:=Zd (CB X.drew (Zf ag (Zi X)));have be:ZD X (X.alloc (cR #[E J 0,E J 0,E J 0,E J 0,F none 0 0] 39)).drew:=Zf (Zh _ _) (Zi _);have C2:=Zd (CB (X.alloc (cR #[E J 0,E J 0,E J 0,E J 0,F none 0 0] 39)).drew (Zf ag be));have aw:Hid ((X.alloc (cR #[E J 0,E J 0,E J 0,E J 0,F none 0 0] 39)).drew.heap[X.heap.size]? = some (cR [E J 0,E J 0,E J 0,E J 0,F none 0 0].toArray 39 (0,0))):=aJ _ _;have ca:Hid ((X.alloc (cR #[E J 0,E J 0,E J 0,E J 0,F none 0 0] 39)).drew.heap.size=X.heap.size+1):=by show (X.alloc _).heap.size=_;simp
 have RB:Hid (∀ w1 z Q tc,(∀ W2,Gr w1 W2 (λq=>q<(X.alloc (cR #[E J 0,E J 0,E J 0,E J 0,F none 0 0] 39)).drew.heap.size)->TxsAt W2 z Q b.2.2.2.2)->SlOk z Q tc->Below (X.alloc (cR #[E J 0,E J 0,E J 0,E J 0,F none 0 0] 39)).drew.heap.size (X.alloc (cR #[E J 0,E J 0,E J 0,E J 0,F none 0 0] 39)).drew w1->((((((w1.setCell ⟨X.heap.size,0,none⟩ (E J b.1)).setCell ⟨X.heap.size,1,none⟩ (E J b.2.1)).setCell ⟨X.heap.size,2,none⟩ (E J b.2.2.1)).setCell ⟨X.heap.size,3,none⟩ (E J b.2.2.2.1)).setCell ⟨X.heap.size,4,none⟩ (F z Q tc)).heap[X.heap.size]? = some (cR [E J b.1,E J b.2.1,E J b.2.2.1,E J b.2.2.2.1,F z Q tc].toArray 39 (0,0))/\TxsAt (((((w1.setCell ⟨X.heap.size,0,none⟩ (E J b.1)).setCell ⟨X.heap.size,1,none⟩ (E J b.2.1)).setCell ⟨X.heap.size,2,none⟩ (E J b.2.2.1)).setCell ⟨X.heap.size,3,none⟩ (E J b.2.2.2.1)).setCell ⟨X.heap.size,4,none⟩ (F z Q tc)) z Q b.2.2.2.2/\SlOk z Q tc/\ZD X (((((w1.setCell ⟨X.heap.size,0,none⟩ (E J b.1)).setCell ⟨X.heap.size,1,none⟩ (E J b.2.1)).setCell ⟨X.heap.size,2,none⟩ (E J b.2.2.1)).setCell ⟨X.heap.size,3,none⟩ (E J b.2.2.2.1)).setCell ⟨X.heap.size,4,none⟩ (F z Q tc)))):=λw1 z Q tc hL sL ad=>by
  have zb:=ZE ad aw;have ed:=Za ca;have dz:=ad.size;have ee:=ag.size;have hg:Gr w1 (((((w1.setCell ⟨X.heap.size,0,none⟩ (E J b.1)).setCell ⟨X.heap.size,1,none⟩ (E J b.2.1)).setCell ⟨X.heap.size,2,none⟩ (E J b.2.2.1)).setCell ⟨X.heap.size,3,none⟩ (E J b.2.2.2.1)).setCell ⟨X.heap.size,4,none⟩ (F z Q tc)) (λq=>q=X.heap.size):=Tr.box5_gr _ _ _ _ _ _ _;refine⟨Tr.set_cells (Tr.set_cells (Tr.set_cells (Tr.set_cells (Tr.set_cells zb 0 _) 1 _) 2 _) 3 _) 4 _,hL _ (hg.mono (λq _ e=>?_)),sL,hg.below (Zf be ad) (by omega) (λq e=>?_)⟩
  ·have e:q=X.heap.size:=e;omega
  ·have e:q=X.heap.size:=e;omega
 clear hA hw hb eK hN hT hP sN sT sP ag dg am bg rc hx hy hr aj r2 r3 be;go_enter func272,ntmps272
 go_upto_region 1 with fail
 rw[<-hX];clear hX CB
 go_cut [4,5] from 6 to 21 (λs4 s5 wx=>∃ p z Q tc,s4 = cU (some ⟨p,0,none⟩)/\s5 = E J x1/\Hid (wx.heap[p]? = some (cR [E J b.1,E J b.2.1,E J b.2.2.1,E J b.2.2.2.1,F z Q tc].toArray 39 (0,0))/\TxsAt wx z Q b.2.2.2.2/\SlOk z Q tc/\ZD X wx))
 case first=>
  go_region_law (first
   | (refine Yg (by rfl) 20 #[.agg #[F na nn nc,F ba bn bc],E J nm] (by kernel_rfl) C1 ?_;rintro e w1 ⟨z,Q,tc,rfl,hL,sL,ad⟩;refine⟨_,rfl,?_⟩;have ce:Hid ((w1.alloc (cR #[E J b.1,E J b.2.1,E J b.2.2.1,E J b.2.2.2.1,F z Q tc] 39)).heap[w1.heap.size]? = some (cR [E J b.1,E J b.2.1,E J b.2.2.1,E J b.2.2.2.1,F z Q tc].toArray 39 (0,0))/\TxsAt (w1.alloc (cR #[E J b.1,E J b.2.1,E J b.2.2.1,E J b.2.2.2.1,F z Q tc] 39)) z Q b.2.2.2.2/\SlOk z Q tc/\ZD X (w1.alloc (cR #[E J b.1,E J b.2.1,E J b.2.2.1,E J b.2.2.2.1,F z Q tc] 39))):=⟨aJ _ _,hL _ (Gr.of (Zh _ _)),sL,Zf (Zf (Zi X) ad) (Zh _ _)⟩;clear hL sL ad)
   | (refine Yg (by rfl) 20 #[.agg #[F na nn nc,F ba bn bc],E J nm] (by kernel_rfl) C2 ?_;rintro e w1 ⟨z,Q,tc,rfl,hL,sL,ad⟩;refine⟨_,rfl,?_⟩;have zb:=ZE ad aw;have ce:=Zd (RB w1 z Q tc hL sL ad);have f0:=Zg zb 0;have f1:=Zg zb 1;have f2:=Zg zb 2;have f3:=Zg zb 3;have f4:=Zg zb 4;have z0:=Zb zb 0 _ rfl;have z1:=Zb zb 1 _ rfl;have z2:=Zb zb 2 _ rfl;have z3:=Zb zb 3 _ rfl;have z4:=Zb zb 4 _ rfl;have zl:=lt_of_block zb;clear hL sL ad zb))
  all_goals
   go_wp2_with fail;go_meet
   case rel=>exact⟨_,_,_,_,rfl,rfl,Za ce⟩
 case rest=>
  obtain⟨p,z,Q,tc,rfl,rfl,HC⟩:=hcut;obtain⟨bi,hL,sL,bf⟩:=Za HC;have bh:=Zf bu bf;have h1:=ZE bf cc;have ah:Sc Z s W wc:=HS wc bh;have bx:Hid (Gr w wc (λq=>¬Z q)):=Gr.of bh;clear HC bf bh C1 C2 RB aw ca HS cc bu c1 ej m2 m3 ml dh r0 r1;by_cases h0:x1=0;rotate_left
  ·have e:=Za HX;rw[if_neg h0] at e;subst e;have av:=Zd ah;have gx:(x1 == 0)=false:=(by simp[h0]);clear ah h1 hL bi;go_wp2;go_end0;exact⟨rfl,Za av,Za bx⟩
  subst h0;have e:=Za HX;rw[if_pos rfl] at e;subst e;have HN:=Zd (λq (hq:Xe wc s q)=>(ah.net_lt hq).1);have cu:=Zd ah.nz;have C2:=Zd (J3 Z s W 1 xn fr 0 b.1 b.2.1 b.2.2.1 b.2.2.2.1 z Q tc b.2.2.2.2 0 none none 0 0 0 0 [] [] wc ah hL sL (RowsAt.nil _ _) (RowsAt.nil _ _) Zp Zp ⟨Za cp,Nat.zero_le _,Nat.zero_le _,by simp,by simp⟩);have m1:=Zb h1 1 _ rfl;have m2:=Zb h1 2 _ rfl;have ml:=lt_of_block h1;obtain⟨d0,d1,d2,d3,d4,dl⟩:=cl5 (Zd bi);clear ah h1 hL bi sL;go_wp2_with fail;refine C2.mono ?_;rintro e w2 ⟨rfl,cg,cl,_⟩;have av:Hid (Sc Z s (W.sent (1,xn,fr,0,b,Xt)) w2):=cg
  have cq:Hid (Gr w w2 (λq=>¬Z q)):=bx.trans (cl.mono (λq _ e=>by
   rcases e with e|e
   ·rw[e];exact Za cu
   ·exact HN q e))
  clear cg cl C2 m1 m2 ml d0 d1 d2 d3 d4 dl;go_wp2;go_end0;exact⟨rfl,Za av,Za cq⟩
theorem Zab(Z:Nat->Prop)(s:Nat)(W:WD)(xk xn xt:Int)(xi:Nat)(xw xN th:Int)(ai ao ni ci no co w)(hS:Sc Z s W w)(hl:xi<W.m.length)(hm:W.m.length<=20)(ti:Nat)(hz:W.m[xi].1=2/\W.m[xi].2.2.1=ti)(dg:ti<W.n.length)(bh:Tr.BlkSmall (Tr.blockE W.n[ti].1 W.n[ti].2.1 W.m[xi].2.2.2.1).1)(W':WD)(hx:(W.lost xi).asked ti W.m[xi].2.1 W.m[xi].2.2.2.1=W') :
  Calls Tryz.prog 238 #[cU (some ⟨s,0,none⟩),.agg #[E J xk,E J xn,E J xt,E J xi,E J xw,E J xN,E J th,F ai ni ci,F ao no co]] w λe w'=>e = cS (E J 0)/\Sc Z s W' w'/\Gr w w' (λq=>¬Z q):=by
 obtain⟨ka,kn,kc,vn,vm,Kn,Km,hA⟩:=hS;have hw:=hA.on;obtain⟨na,nc,ma,mc,rfl,rfl,_,_,_,sm⟩:=hw.read;have hb:=hA.box
 obtain⟨g,rfl⟩:∃ g,ma=some ⟨g,0,none⟩:=by
  rcases hw.rm.2 with ⟨_,e⟩|⟨g,cap,eg,e,_⟩
  ·omega
  ·injection e with e;exact⟨g,e⟩
 have ei:=(hw.rm.lt g rfl).2;have hk:xi<Km.length:=by rw[hw.now.2.2.1];exact hl
 obtain⟨y,hy⟩:=ZF (W.m[xi])
 have hC:∀ V,Gr w V (λq=>(Z q\/q=s)\/(aY na W.n.length nc).ownBlock=some q\/(aY (some ⟨g,0,none⟩) W.m.length mc).ownBlock=some q)->Tr.msgR.C V Km[xi] y:=λV gV=>by
  have:=(hw.dat V gV).2.2.2 xi hl hk;rw[hy] at this;exact this
 rw[hy] at hz hx bh;obtain⟨x0,x1,x2,x3,⟨y0,y1,y2,y3,y4⟩,z0,z1,z2⟩:=y;obtain⟨pa,pn,pc,ia,im,ic,oa,om,oc,eK,hT,sT,hI,sI,hO,sO⟩:=hC w (Gr.refl _ _);simp only at eK hT hI hO;obtain⟨X,hX⟩:=ZG (w.alloc (cR #[E J xk,E J xn,E J xt,E J xi,E J xw,E J xN,E J th,F ai ni ci,F ao no co] 103));have aw:ZD w X:=by rw[hX];exact Zh _ _
 have cf:X.heap.size=w.heap.size+1:=by rw[hX];simp
 have av:X.heap[w.heap.size]? = some (cR [E J xk,E J xn,E J xt,E J xi,E J xw,E J xN,E J th,F ai ni ci,F ao no co].toArray 103 (0,0)):=by rw[hX];exact aJ _ _
 have bf:=ZE aw hb;have rc:=λj (hj:j<12)=>(bA (hw.later aw).rm (xi*12+j) (by have:(xi+1)*12<=W.m.length*12:=Nat.mul_le_mul_right _ hl;omega)).trans (Tr.wid_at hw.now.2.2.wid xi hk j hj);rw[eK] at rc;have r0:X.cell? ⟨g,xi*12,none⟩=some (E J x0):=rc 0 (by decide);have r1:X.cell? ⟨g,xi*12+1,none⟩=some (E J x1):=rc 1 (by decide);have r2:X.cell? ⟨g,xi*12+2,none⟩=some (E J x2):=rc 2 (by decide);have r3:X.cell? ⟨g,xi*12+3,none⟩=some (E J x3):=rc 3 (by decide);have r4:X.cell? ⟨g,xi*12+4,none⟩=some (E J y0):=rc 4 (by decide);have r5:X.cell? ⟨g,xi*12+5,none⟩=some (E J y1):=rc 5 (by decide);have r6:X.cell? ⟨g,xi*12+6,none⟩=some (E J y2):=rc 6 (by decide);have r7:X.cell? ⟨g,xi*12+7,none⟩=some (E J y3):=rc 7 (by decide);have r8:X.cell? ⟨g,xi*12+8,none⟩=some (F pa pn pc):=rc 8 (by decide);have r9:X.cell? ⟨g,xi*12+9,none⟩=some (E J z0):=rc 9 (by decide);have dk:X.cell? ⟨g,xi*12+10,none⟩=some (F ia im ic):=rc 10 (by decide);have dl:X.cell? ⟨g,xi*12+11,none⟩=some (F oa om oc):=rc 11 (by decide);have ej:(xi:Int)<(W.m.length:Int):=by omega
 obtain⟨e1,e2⟩:=hz;simp only at e1 e2;subst e1 e2;have ek:=lt_of_block hb;have CL:=Zd (λV (hv:ZD w V)=>Gh Z s W xk xn xt xi xw xN th ai ao ni ci no co V ⟨_,_,_,_,_,_,_,hA.later hv⟩ hl hm)
 have NB:Hid (∀ V,ZD w V->∀ q,Xe V s q->q<w.heap.size/\¬Z q/\(aY (some ⟨g,0,none⟩) W.m.length mc).ownBlock=some q):=λV hv q hq=>by
  have h:=((hA.later hv).nb q).2 hq;exact⟨(hw.rm.lt q h).2,λe=>(hA.zs q e).2.2.2 h,h⟩
 have NZ:Hid (¬Z s):=λe=>(hA.zs s e).2.1 rfl;have CT:=Zd (λV (gw:Gr w V (λq=>q=s\/(aY (some ⟨g,0,none⟩) W.m.length mc).ownBlock=some q)) (db:Sc Z s (W.lost xi) V)=>Zip Z s (W.lost xi) 2 x1 ti x3 y0 y1 y2 y3 pa pn pc z0 ia oa im ic om oc W' V db dg bh hx);have br:=Zd aw;have bt:=Zd av;have bu:=Zd cf;have c2:=Zb bf 2 _ rfl;have ep:=lt_of_block bf;have m3:=Zb av 3 _ rfl;have ml:=lt_of_block av;have dd:g<X.heap.size:=by omega
 clear hA hw hb hC eK hT sT hI sI hO sO aw cf av bf rc hx hy bh;go_enter func238,ntmps238
 go_upto_region 1 with fail
 rw[<-hX];clear hX
 go_cut [5] from 6 to 14 (λs5 wx=>s5 = cU (some ⟨w.heap.size+1,0,none⟩)/\Hid (wx.heap[w.heap.size+1]? = some (cR [E J 2,E J x1,E J ti,E J x3,E J y0,E J y1,E J y2,E J y3,F pa pn pc,E J z0,F ia im ic,F oa om oc].toArray 106 (0,0))/\ZD X wx))
 case first=>
  have cm:=Za bu
  have ZB:Hid (∀ U,U=X\/U=X.drew->(U.alloc (cR #[E J 2,E J x1,E J ti,E J x3,E J y0,E J y1,E J y2,E J y3,F pa pn pc,E J z0,F ia im ic,F oa om oc] 106)).heap[w.heap.size+1]? = some (cR [E J 2,E J x1,E J ti,E J x3,E J y0,E J y1,E J y2,E J y3,F pa pn pc,E J z0,F ia im ic,F oa om oc].toArray 106 (0,0))/\ZD X (U.alloc (cR #[E J 2,E J x1,E J ti,E J x3,E J y0,E J y1,E J y2,E J y3,F pa pn pc,E J z0,F ia im ic,F oa om oc] 106))):=λU hU=>by
   rw[<-cm]
   rcases hU with rfl|rfl
   ·exact⟨aJ _ _,Zh _ _⟩
   ·exact⟨aJ X.drew _,Zf (Zi X) (Zh _ _)⟩
  go_region
  all_goals
   go_wp2_with fail;go_meet
   case rel=>exact⟨rfl,(ZB X (.inl rfl)).1,Zf (ZB X (.inl rfl)).2 (Zi _)⟩
 case rest=>
  obtain⟨rfl,HC⟩:=hcut;obtain⟨cl,be⟩:=Za HC;have cm:=Za bu;have bg:=Zf br be;have Q:=ZE be bt;have C1:=Zd (CL wc bg);have ct:=Zd cl;have ar:=Zd bg;have v0:=Zb Q 0 _ rfl;have v1:=Zb Q 1 _ rfl;have v2:=Zb Q 2 _ rfl;have v3:=Zb Q 3 _ rfl;have v4:=Zb Q 4 _ rfl;have v5:=Zb Q 5 _ rfl;have v6:=Zb Q 6 _ rfl;have v7:=Zb Q 7 _ rfl;have v8:=Zb Q 8 _ rfl;have vl:=lt_of_block Q;clear HC cl be bg Q CL c2 ep m3 ml dd bt br r0 r1 r2 r3 r4 r5 r6 r7 r8 r9 dk dl;go_wp2_with fail;refine C1.mono ?_;rintro e w2 ⟨rfl,cd,ax,_⟩;have bz:Gr w w2 (λq=>q=s\/(aY (some ⟨g,0,none⟩) W.m.length mc).ownBlock=some q):=(Gr.of ar).trans (ax.mono (λq _ e=>e.imp id (λe=>(NB wc ar q e).2.2)))
  have z:=ax.heap ct (λe=>by
   rcases e with e|e
   ·omega
   ·have:=(NB wc ar _ e).1;omega)
  have C2:=Zd (CT w2 bz cd)
  have cp:Hid (Gr w w2 (λq=>¬Z q)):=(Gr.of ar).trans (ax.mono (λq _ e=>by
   rcases e with e|e
   ·rw[e];exact Za NZ
   ·exact (NB wc ar q e).2.1))
  have u0:=Zb z 0 _ rfl;have u1:=Zb z 1 _ rfl;have u2:=Zb z 2 _ rfl;have u3:=Zb z 3 _ rfl;have u4:=Zb z 4 _ rfl;have u5:=Zb z 5 _ rfl;have u6:=Zb z 6 _ rfl;have u7:=Zb z 7 _ rfl;have u8:=Zb z 8 _ rfl;have u9:=Zb z 9 _ rfl;have u10:=Zb z 10 _ rfl;have u11:=Zb z 11 _ rfl;have ul:=lt_of_block z;clear cd ax bz z C1 CT v0 v1 v2 v3 v4 v5 v6 v7 v8 vl;go_wp2_with fail;refine C2.mono ?_;rintro e w3 ⟨rfl,ce,cg⟩;have cu:=Zd ce;have cq:=Zd (cp.trans cg);clear ce cg C2 u0 u1 u2 u3 u4 u5 u6 u7 u8 u9 u10 u11 ul;go_wp2;go_ret;exact⟨rfl,Za cu,Za cq⟩
theorem Zaa(Z:Nat->Prop)(s:Nat)(W:WD)(xk xn xt:Int)(xi:Nat)(xw xN th:Int)(ai ao ni ci no co w)(hE:∀ V,Gr w V (λq=>¬Z q)->Env V)(hS:Sc Z s W w)(hl:xi<W.m.length)(hm:W.m.length<=20)(ti:Nat)(hz:W.m[xi].1=3/\W.m[xi].2.2.1=ti)(dq:ti<W.n.length)(cu:Vr W.n[ti])(x:Int)(W':WD)(hx:(W.lost xi).offer ti W.m[xi].2.2.2.2.2=(x,W')) :
  Calls Tryz.prog 238 #[cU (some ⟨s,0,none⟩),.agg #[E J xk,E J xn,E J xt,E J xi,E J xw,E J xN,E J th,F ai ni ci,F ao no co]] w λe w'=>e = cS (E J 0)/\Sc Z s W' w'/\Gr w w' (λq=>¬Z q):=by
 obtain⟨ka,kn,kc,vn,vm,Kn,Km,hA⟩:=hS;have hw:=hA.on;obtain⟨na,nc,ma,mc,rfl,rfl,_,_,_,sm⟩:=hw.read;have hb:=hA.box
 obtain⟨g,rfl⟩:∃ g,ma=some ⟨g,0,none⟩:=by
  rcases hw.rm.2 with ⟨_,e⟩|⟨g,cap,fb,e,_⟩
  ·omega
  ·injection e with e;exact⟨g,e⟩
 have fc:=(hw.rm.lt g rfl).2;have hk:xi<Km.length:=by rw[hw.now.2.2.1];exact hl
 obtain⟨y,hy⟩:=ZF (W.m[xi])
 have hC:∀ V,Gr w V (λq=>(Z q\/q=s)\/(aY na W.n.length nc).ownBlock=some q\/(aY (some ⟨g,0,none⟩) W.m.length mc).ownBlock=some q)->Tr.msgR.C V Km[xi] y:=λV gV=>by
  have:=(hw.dat V gV).2.2.2 xi hl hk;rw[hy] at this;exact this
 rw[hy] at hz hx;obtain⟨x0,x1,x2,x3,⟨y0,y1,y2,y3,y4⟩,z0,z1,z2⟩:=y;obtain⟨pa,pn,pc,ia,im,ic,oa,om,oc,eK,hT,sT,hI,sI,hO,sO⟩:=hC w (Gr.refl _ _);simp only at eK hT hI hO;obtain⟨X,hX⟩:=ZG (w.alloc (cR #[E J xk,E J xn,E J xt,E J xi,E J xw,E J xN,E J th,F ai ni ci,F ao no co] 103));have ay:ZD w X:=by rw[hX];exact Zh _ _
 have cn:X.heap.size=w.heap.size+1:=by rw[hX];simp
 have ax:X.heap[w.heap.size]? = some (cR [E J xk,E J xn,E J xt,E J xi,E J xw,E J xN,E J th,F ai ni ci,F ao no co].toArray 103 (0,0)):=by rw[hX];exact aJ _ _
 have bh:=ZE ay hb;have rc:=λj (hj:j<12)=>(bA (hw.later ay).rm (xi*12+j) (by have:(xi+1)*12<=W.m.length*12:=Nat.mul_le_mul_right _ hl;omega)).trans (Tr.wid_at hw.now.2.2.wid xi hk j hj);rw[eK] at rc;have r0:X.cell? ⟨g,xi*12,none⟩=some (E J x0):=rc 0 (by decide);have r1:X.cell? ⟨g,xi*12+1,none⟩=some (E J x1):=rc 1 (by decide);have r2:X.cell? ⟨g,xi*12+2,none⟩=some (E J x2):=rc 2 (by decide);have r3:X.cell? ⟨g,xi*12+3,none⟩=some (E J x3):=rc 3 (by decide);have r4:X.cell? ⟨g,xi*12+4,none⟩=some (E J y0):=rc 4 (by decide);have r5:X.cell? ⟨g,xi*12+5,none⟩=some (E J y1):=rc 5 (by decide);have r6:X.cell? ⟨g,xi*12+6,none⟩=some (E J y2):=rc 6 (by decide);have r7:X.cell? ⟨g,xi*12+7,none⟩=some (E J y3):=rc 7 (by decide);have r8:X.cell? ⟨g,xi*12+8,none⟩=some (F pa pn pc):=rc 8 (by decide);have r9:X.cell? ⟨g,xi*12+9,none⟩=some (E J z0):=rc 9 (by decide);have ea:X.cell? ⟨g,xi*12+10,none⟩=some (F ia im ic):=rc 10 (by decide);have eb:X.cell? ⟨g,xi*12+11,none⟩=some (F oa om oc):=rc 11 (by decide);have fd:(xi:Int)<(W.m.length:Int):=by omega
 obtain⟨e1,e2⟩:=hz;simp only at e1 e2;subst e1 e2;have fe:=lt_of_block hb;have CL:=Zd (λV (hv:ZD w V)=>Gh Z s W xk xn xt xi xw xN th ai ao ni ci no co V ⟨_,_,_,_,_,_,_,hA.later hv⟩ hl hm)
 have NB:Hid (∀ V,ZD w V->∀ q,Xe V s q->q<w.heap.size/\¬Z q/\(aY (some ⟨g,0,none⟩) W.m.length mc).ownBlock=some q):=λV hv q hq=>by
  have h:=((hA.later hv).nb q).2 hq;exact⟨(hw.rm.lt q h).2,λe=>(hA.zs q e).2.2.2 h,h⟩
 have NZ:Hid (¬Z s):=λe=>(hA.zs s e).2.1 rfl
 have CT:=Zd (λV (gw:Gr w V (λq=>q=s\/(aY (some ⟨g,0,none⟩) W.m.length mc).ownBlock=some q)) (dj:Sc Z s (W.lost xi) V)=>(have gE:=gw.mono (T:=λq=>¬Z q) (λq _ e=>by
   rcases e with e|e
   ·rw[e];exact Za NZ
   ·exact λfh=>(hA.zs q fh).2.2.2 e)
  have gC:=hC V (gw.mono (λq _ e=>e.elim (λe=>.inl (.inr e)) (λe=>.inr (.inr e))))
  Fu Z s (W.lost xi) ti z0 ia oa im ic om oc z1 z2 x W' V (hE V gE) dj dq cu (by
   obtain⟨pa',pn',pc',dr,dt,ds,dv,dx,dw,ac,dk,eo,cf,el,cj,en⟩:=gC;rw[eK] at ac;simp only[List.cons.injEq,Value.slice.injEq,and_true,true_and] at ac;obtain⟨_,⟨rfl,rfl,rfl⟩,rfl,rfl,rfl⟩:=ac;exact cf) (by
   obtain⟨pa',pn',pc',dr,dt,ds,dv,dx,dw,ac,dk,eo,cf,el,cj,en⟩:=gC;rw[eK] at ac;simp only[List.cons.injEq,Value.slice.injEq,and_true,true_and] at ac;obtain⟨_,⟨rfl,rfl,rfl⟩,rfl,rfl,rfl⟩:=ac;exact cj) sI sO hx))
 have bs:=Zd ay;have bu:=Zd ax;have bv:=Zd cn;have c2:=Zb bh 2 _ rfl;have fg:=lt_of_block bh;have m3:=Zb ax 3 _ rfl;have ml:=lt_of_block ax;have dm:g<X.heap.size:=by omega
 clear hA hw hb hC eK hT sT hI sI hO sO ay cn ax bh rc hx hy hE cu;go_enter func238,ntmps238
 go_upto_region 1 with fail
 rw[<-hX];clear hX
 go_cut [5] from 6 to 14 (λs5 wx=>s5 = cU (some ⟨w.heap.size+1,0,none⟩)/\Hid (wx.heap[w.heap.size+1]? = some (cR [E J 3,E J x1,E J ti,E J x3,E J y0,E J y1,E J y2,E J y3,F pa pn pc,E J z0,F ia im ic,F oa om oc].toArray 106 (0,0))/\ZD X wx))
 case first=>
  have cw:=Za bv
  have ZB:Hid (∀ U,U=X\/U=X.drew->(U.alloc (cR #[E J 3,E J x1,E J ti,E J x3,E J y0,E J y1,E J y2,E J y3,F pa pn pc,E J z0,F ia im ic,F oa om oc] 106)).heap[w.heap.size+1]? = some (cR [E J 3,E J x1,E J ti,E J x3,E J y0,E J y1,E J y2,E J y3,F pa pn pc,E J z0,F ia im ic,F oa om oc].toArray 106 (0,0))/\ZD X (U.alloc (cR #[E J 3,E J x1,E J ti,E J x3,E J y0,E J y1,E J y2,E J y3,F pa pn pc,E J z0,F ia im ic,F oa om oc] 106))):=λU hU=>by
   rw[<-cw]
   rcases hU with rfl|rfl
   ·exact⟨aJ _ _,Zh _ _⟩
   ·exact⟨aJ X.drew _,Zf (Zi X) (Zh _ _)⟩
  go_region
  all_goals
   go_wp2_with fail;go_meet
   case rel=>exact⟨rfl,(ZB X (.inl rfl)).1,Zf (ZB X (.inl rfl)).2 (Zi _)⟩
 case rest=>
  obtain⟨rfl,HC⟩:=hcut;obtain⟨ct,bg⟩:=Za HC;have cw:=Za bv;have bi:=Zf bs bg;have Q:=ZE bg bu;have C1:=Zd (CL wc bi);have dc:=Zd ct;have al:=Zd bi;have v0:=Zb Q 0 _ rfl;have v1:=Zb Q 1 _ rfl;have v2:=Zb Q 2 _ rfl;have v3:=Zb Q 3 _ rfl;have v4:=Zb Q 4 _ rfl;have v5:=Zb Q 5 _ rfl;have v6:=Zb Q 6 _ rfl;have v7:=Zb Q 7 _ rfl;have v8:=Zb Q 8 _ rfl;have vl:=lt_of_block Q;clear HC ct bg bi Q CL c2 fg m3 ml dm bu bs r0 r1 r2 r3 r4 r5 r6 r7 r8 r9 ea eb;go_wp2_with fail;refine C1.mono ?_;rintro e w2 ⟨rfl,cl,az,_⟩;have cd:Gr w w2 (λq=>q=s\/(aY (some ⟨g,0,none⟩) W.m.length mc).ownBlock=some q):=(Gr.of al).trans (az.mono (λq _ e=>e.imp id (λe=>(NB wc al q e).2.2)))
  have z:=az.heap dc (λe=>by
   rcases e with e|e
   ·omega
   ·have:=(NB wc al _ e).1;omega)
  have C2:=Zd (CT w2 cd cl)
  have da:Hid (Gr w w2 (λq=>¬Z q)):=(Gr.of al).trans (az.mono (λq _ e=>by
   rcases e with e|e
   ·rw[e];exact Za NZ
   ·exact (NB wc al q e).2.1))
  have u0:=Zb z 0 _ rfl;have u1:=Zb z 1 _ rfl;have u2:=Zb z 2 _ rfl;have u3:=Zb z 3 _ rfl;have u4:=Zb z 4 _ rfl;have u5:=Zb z 5 _ rfl;have u6:=Zb z 6 _ rfl;have u7:=Zb z 7 _ rfl;have u8:=Zb z 8 _ rfl;have u9:=Zb z 9 _ rfl;have u10:=Zb z 10 _ rfl;have u11:=Zb z 11 _ rfl;have ul:=lt_of_block z;clear cl az cd z C1 CT v0 v1 v2 v3 v4 v5 v6 v7 v8 vl;go_wp2_with fail;refine C2.mono ?_;rintro e w3 ⟨rfl,cm,cp⟩;have dd:=Zd cm;have db:=Zd (da.trans cp);clear cm cp C2 u0 u1 u2 u3 u4 u5 u6 u7 u8 u9 u10 u11 ul;go_wp2;go_ret;exact⟨rfl,Za dd,Za db⟩
