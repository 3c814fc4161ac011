import Derived.Test.YtmomfkikogbdeaaGreatDoorH
import Derived.Test.YtmomfkikogbdeaaGreatDoorG31
open Go.Proofs.Tryz
open Go renaming wp_region_held_drew->dD,wpAnyH_ready->cM,lt_of_block->aA,maxLen->cK
open Go.Act renaming put->aQ
open Go.Ending renaming returned->dF
open Go.IntKind renaming i64->J
open Go.Obj renaming cells->dE
open Go.Value renaming int->E,slice->F,tuple->dG,bool->dI
open Go.World renaming setCell->cT
open List renaming getElem_mem->bE,take_succ_eq_append_getElem->bA,take_of_length_le->aS,length_eq_zero_iff->aL
open Nat renaming zero_le->aI,le_refl->aF,lt_of_lt_of_le->aD
set_option maxHeartbeats 6400000
set_option maxRecDepth 10000
namespace Go.Proofs.YtmomfkikogbdeaaGreatDoor
open Go.RowKit
section
variable {Z : Nat -> Prop} {w : World} {d bm : Nat} {ka na ba pa : Option Addr} {kn kc nn nc bn bc pn pc : Nat} {K : List ByteArray} {N : List Int} {T : List Zk} {P : List TxD} {tip : Int}
structure CbS(Z:Nat->Prop)(w wr:World)(d bm:Nat)(ka:Option Addr)(kn kc:Nat)(K:List ByteArray)(na:Option Addr)(nn nc:Nat)(N:List Int)(ba:Option Addr)(bn bc:Nat)(T:List Zk)(pa:Option Addr)(pn pc:Nat)(P:List TxD)(tip:Int)(β : Int->List Zj)(k:Nat):Prop where
 gr:Gr w wr (λq=>q=bm)
 all:∃ f γ,DeskAt Z wr d bm k ka kn kc K na nn nc N ba bn bc T pa pn pc P tip f γ/\Z1 K N T β = Z1 K (N.drop k) (T.drop k) γ
theorem Zcf{f:Int->Value}{β : Int->List Zj}(h:DeskAt Z w d bm 0 ka kn kc K na nn nc N ba bn bc T pa pn pc P tip f β)(au:World)(cn:ZD au w)(dz:au.heap.size<=bm)(hE:Env au)(hl:N.length=T.length)(h24:N.length<=24)(hN:∀ x∈N,(Lit.int .i64 x).wf=true)(hT:∀ b∈T,(Lit.int .i64 b.1).wf=true)(x:Int)(γ : Int->List Zj)(hx:Z1 K N T β = (x,γ)) :
  Calls Tryz.prog 172 #[.pointer (some ⟨d,0,none⟩)] w λe w'=>e = dF (.int .i64 x)/\Gr w w' (λq=>q=bm)/\(x=0->∃ f',DeskAt Z w' d bm N.length ka kn kc K na nn nc N ba bn bc T pa pn pc P tip f' γ):=by
 have cl:N.length=nn:=h.now.n.1;have ce:T.length=bn:=h.now.b.1;have ST:Hid (CbS Z w w d bm ka kn kc K na nn nc N ba bn bc T pa pn pc P tip β 0):=⟨Gr.refl _ _,f,β,h,rfl⟩;obtain⟨HX,HE,ca,ay,bu,HL,HN,cy⟩:=kh8 hx hE cn cl ce hl hN hT;obtain⟨-,d1,dl⟩:=kc2 h.box;have ec:=h.ne;have ed:nn<=24:=by omega
 clear h hx hE cn cl ce hN hT;go_enter func172,ntmps172;go_wp2
 go_loopw [14] (λi wr=>∃ k:Nat,k<=nn/\i = .int .i64 k/\Hid (CbS Z w wr d bm ka kn kc K na nn nc N ba bn bc T pa pn pc P tip β k)) (λi _=>nn - (intOf i).toNat)
 case atStart=>exact⟨0,aI _,rfl,ST⟩
 case round=>
  obtain⟨k,hk,rfl,HS⟩:=hrel;by_cases dk:k<nn
  ·obtain⟨hg,g,δ,hD,hC⟩:=Za HS;have ap:k<N.length:=(by rw[Za ay];exact dk);have aq:k<T.length:=(by rw[<-Za HL];exact ap);have eb:k<bn:=(by rw[<-Za bu];exact aq);have be:ZD au wr:=hg.below ca ca.size (λq e=>by have e:q=bm:=e;omega);obtain⟨nb,no,rfl,_,cj⟩:=hD.now.n.2 (by omega);obtain⟨ef,bo,rfl,dy,cf⟩:=hD.now.b.2 (by rw[<-Za bu];omega);have n0:=cj k ap;obtain⟨b0,b1,b2,b3,ta,tn,tc,b4,ah,cq⟩:=cf k aq;have bh:=HN _ (bE ap);have ar:=cy _ (bE aq);rw[cb_at ap aq] at hC;obtain⟨s,hs⟩:=ZF (N[k]);obtain⟨⟨bp,ee,bw,ag,bT⟩,hb⟩:=ZF (T[k]);rw[hs] at n0 bh hC;rw[hb] at b0 b1 b2 b3 ah ar hC;simp only at b0 b1 b2 b3 ah ar hC;obtain⟨y,hy⟩:=ZF (kbD K s (bp,ee,bw,ag,bT));obtain⟨⟨z,C',U'⟩,hz⟩:=ZF (Xw K (δ bp) (bp,ee,bw,ag,bT));rw[hy,hz] at hC;simp only at hC;have nl:=World.block_lt_of_cell? _ _ n0;obtain⟨-,-,df,dv⟩:=kc3 hD.box;obtain⟨Y,hY,aj,bb⟩:=ka00 wr [.int .i64 bp,.int .i64 ee,.int .i64 bw,.int .i64 ag,F ta tn tc] 39;have CK:=Zd (Zgk d K s bp ee bw ag ta tn tc bT y Y (HE.later (Zf be aj)) (hD.later aj).book (ah.later aj) cq hy);have CC:=Zd (λV (hv:ZD wr V)=>Gj (hD.later hv) s bp ee bw ag ta tn tc bT z C' U' (HE.later (Zf be hv)) (ah.later hv) (by omega) bh ar hz);obtain⟨y0,y1,y2,y3,y4,yl⟩:=kc5 bb;obtain⟨HG,ct,cz,HC⟩:=kh4 hg aj bb hC;clear hg hD hC be cj cf ah cq bh ar hs hb hy hz aj bb HS;go_wp2_with fail;rw[<-hY];clear hY;(try go_wp2_with fail);refine CK.mono ?_;rintro e w2 ⟨rfl,bd⟩;have bg:=Zf ct bd;have D2:=Zd (CC w2 bg);have cp:=ZE bd cz
   obtain⟨y0,y1,y2,y3,y4,yl⟩:=kc5 cp;have bz:=Zd (HG.on bg);clear bd bg CK CC cp n0 b0 b1 b2 b3 b4 df;cases y
   ·have ac:Hid (x=5):=(by have q:=Za HC;rw[if_pos rfl,Za HX] at q;injection q with q _);clear HC;go_wp2;go_ret;exact⟨by rw[Za ac];rfl,Za bz,λq=>absurd (ac.symm.trans q) (by decide)⟩
   ·go_wp2_with fail;refine D2.mono ?_;rintro e w3 ⟨rfl,g',cb,cg⟩;obtain⟨ax,bv⟩:=kh2 (bz.trans cg) cb;clear cb cg D2;by_cases z0:z=0
    ·have da:Hid (CbS Z w w3 d bm ka kn kc K (some ⟨nb,no,none⟩) nn nc N (some ⟨ef,bo,none⟩) bn bc T pa pn pc P tip β (k+1)):=by
      refine⟨Za ax,g',Uz δ s C',Za bv,?_⟩;have q:=Za HC;rw[if_neg (by decide),if_neg (λr=>r z0)] at q;exact q
     subst z0;clear HC ax bv;go_wp2;go_roundw
     case rel=>exact⟨k+1,by omega,by go_num,da⟩
     case measure=>simp[intOf];omega
    ·have gz:(z != 0)=true:=(by simp[z0]);have ac:Hid (x=z):=(by have q:=Za HC;rw[if_neg (by decide),if_pos z0,Za HX] at q;injection q with q _);clear HC;go_wp2;go_ret;exact⟨by rw[Za ac];rfl,Za ax,λq=>absurd (ac.symm.trans q) z0⟩
  ·have ek:k=nn:=(by omega);subst ek;obtain⟨hg,g,δ,hD,hC⟩:=Za HS;rw[Zrj (by rw[Za ay];exact aF _),Za HX] at hC;have ac:Hid (x=0 /\ γ = δ):=(by injection hC with q1 q2;exact⟨q1,q2⟩);obtain⟨HG,HD⟩:=kh2 hg hD;clear hg hD hC HS;go_wp2;go_ret;refine⟨by rw[(Za ac).1];rfl,Za HG,λ_=>⟨g,?_⟩⟩;rw[(Za ac).2,Za ay];exact Za HD
end
section
variable {Z : Nat -> Prop} {w : World} {d bm m : Nat} {ka na ba pa : Option Addr} {kn kc nn nc bn bc pn pc : Nat} {K : List ByteArray} {N : List Int} {T : List Zk} {P : List TxD} {tip : Int} {f : Int -> Value} {β : Int -> List Zj}
theorem Zlf(h:DeskAt Z w d bm m ka kn kc K na nn nc N ba bn bc T pa pn pc P tip f β)(hE:Env w)(ht:(Lit.int .i64 tip).wf=true)(h1:0<=Xz N T tip)(h2:Xz N T tip<=1000)(x:Int)(hx:poE K N T P tip β = x) :
  ZH 173 #[.pointer (some ⟨d,0,none⟩)] w (.int .i64 x):=by
 have cz:P.length=pn:=h.now.p.1;obtain⟨z,hz⟩:=ZF (Xz N T tip);obtain⟨g,hg⟩:=ZF (P.all (knT K));obtain⟨y,hy⟩:=ZF (swE K (β tip) P (z+1));obtain⟨⟨K1,S1,C1,F1⟩,hr⟩:=ZF (swF K (β tip) P (z+1) y);obtain⟨n1,br⟩:=ZF (S1.length)
 have HX:Hid ((if pn=0 then 0 else if g=false then 5 else if y≠0 then y else if n1<pn then 7 else 0)=x):=by
  show _=_;rw[<-hx];unfold poE;rw[cz,hg,hz,hy];by_cases e:y=0
  ·subst e;unfold swF at hr;rw[if_pos rfl] at hr;simp only[Prod.mk.injEq] at hr;rw[hr.2.1,br]
  ·rw[if_pos e];split
   ·rfl
   ·split
    ·rfl
    ·first|rfl|rw[if_pos e]
 obtain⟨ca,cn,eg,bo,_,sC⟩:=h.c tip;rw[hz] at h1 h2;have CA:=Zd (λV (hv:ZD w V)=>Nz d K pa pn pc P g V (hE.later hv) (h.later hv).book (h.later hv).now.p h.sp.len hg);have CC:=Zd (λV (hv:ZD w V)=>Rj (h.later hv) ht);rw[bo] at CC;have CH:=Zd (λV (hv:ZD w V)=>Tl (h.later hv) z hz);have CS:=Zd (λV (hv:ZD w V)=>Nq ka kn kc K ca cn eg (β tip) pa pn pc P (z+1) y K1 S1 C1 F1 V (hE.later hv) (h.later hv).now.k (by obtain⟨a2,n2,c2,q1,q2,_⟩:=(h.later hv).c tip;rw[bo] at q1;injection q1 with e1 e2 e3;subst e1 e2 e3;exact q2) sC (h.later hv).now.p hy hr);obtain⟨c0,-,-,c3,dl⟩:=kc4 h.box;have KS:Hid (∀ U:World,ZD w U->(U.cell? ⟨d,0,none⟩=some (F ka kn kc)/\U.cell? ⟨d,3,none⟩=some (F pa pn pc)/\d<U.heap.size)):=λU hu=>⟨Ze hu c0,Ze hu c3,aD dl hu.size⟩;have ea:IntKind.i64.wrap (z+1)=z+1:=by rw[IntKind.wrap_i64];omega
 have dz:pn<=9223372036854775807:=h.sp.len;have bf:=Zd br;clear h hE ht hx cz hz hg hy hr br bo sC;go_enter func173,ntmps173;by_cases e0:pn=0
 ·subst e0;have am:Hid (x=0):=by have q:=Za HX;rw[if_pos rfl] at q;exact q.symm
  clear HX;go_wp2;go_ret;exact⟨by rw[Za am];rfl,Below.refl _ _⟩
 ·have g0:((pn:Int) == 0)=false:=by simp;omega
  have dx:¬((pn:Int)=0):=by omega
  have D1:=Zd (CA w (Below.refl _ _));clear CA;go_wp2_with fail;refine D1.mono ?_;rintro e w1 ⟨rfl,cy⟩;have av:=Zd cy;clear cy D1 c0 c3 dl;cases g
  ·have am:Hid (x=5):=(by have q:=Za HX;rw[if_neg e0,if_pos rfl] at q;exact q.symm);clear HX;go_wp2;go_ret;exact⟨by rw[Za am];rfl,Za av⟩
  ·have bs:=Za HX;rw[if_neg e0,if_neg (by decide)] at bs;have ax:=Zd bs;clear bs HX;have d1:=KS w1 av;have di:=d1.1;have cu:=d1.2.1;have cw:=d1.2.2;clear d1
   go_upto_region 5 with fail
   clear di cu cw
   go_cut [3,4,5,6,7] from 23 to 43 (λs3 s4 s5 s6 s7 wx=>s7 = .int .i64 y/\(∃ a c,s4 = F a n1 c)/\Hid (ZD w wx))
   case first=>
    refine dD (S:=λU=>(U.cell? ⟨d,0,none⟩=some (F ka kn kc)/\U.cell? ⟨d,3,none⟩=some (F pa pn pc)/\d<U.heap.size)) (by kernel_rfl) (KS _ (Zf av (Zi _))) (λaa=>?_);refine tkL 0 rfl aa ?_;refine tkL 1 rfl aa ?_;refine tkL 2 rfl aa ?_;refine tkL 3 rfl aa ?_;refine tkL 4 rfl aa ?_;refine tkL 6 rfl aa ?_;refine tkL 7 rfl aa ?_;refine tkL 8 rfl aa ?_;refine tkL 9 rfl aa ?_;refine tkL 10 rfl aa ?_;refine tkL 11 rfl aa ?_;have hb:=Zf av (Zi w1);refine cM (rs:=[5,21]) (by kernel_rfl) (by simp) ?_;refine rdC rfl (λKQ hK=>?_) (rdC rfl (λKQ hK=>?_) AllReadyH.nil);refine Zm (by kernel_rfl) 108 #[.pointer (some ⟨d,0,none⟩)] (by kernel_rfl) (CC w1.drew hb) ?_;rintro e v1 ⟨rfl,ad⟩;refine⟨_,rfl,?_⟩;have hb:=Zf hb ad;clear aa;refine hK.out _ _ (KS _ hb) (λaa=>?_);clear hK KQ;(try simp only[aQ,ZA,ZB,ZC]);refine cM (rs:=[12,21]) (by kernel_rfl) (by simp) ?_;refine rdC rfl (λKQ hK=>?_) (rdC rfl (λKQ hK=>?_) AllReadyH.nil);refine Zm (by kernel_rfl) 165 #[.pointer (some ⟨d,0,none⟩)] (by kernel_rfl) (CH v1 hb) ?_;rintro e v2 ⟨rfl,ad⟩;refine⟨_,rfl,?_⟩;have hb:=Zf hb ad;clear aa;refine hK.out _ _ (KS _ hb) (λaa=>?_);clear hK KQ;refine tkL 13 (v:=.int .i64 (z+1)) rfl aa ?_;refine cM (rs:=[14,21]) (by kernel_rfl) (by simp) ?_;refine rdC rfl (λKQ hK=>?_) (rdC rfl (λKQ hK=>?_) AllReadyH.nil)
    refine Zm (by kernel_rfl) 23 #[.agg #[F ka kn kc],F ca cn eg,F pa pn pc,.int .i64 (z+1)] (by kernel_rfl) (CS v2 hb) ?_;rintro e v3 ⟨k5,bx,bv,sa,sn,sc,oa,on,oc,rfl,aq,-,-,-,ad⟩;refine⟨_,rfl,?_⟩;have hb:=Zf hb ad;have bg:sn=n1:=((aq v3 (Gr.refl _ _)).2.1.1).symm.trans bf;clear aa;refine hK.out _ _ (KS _ hb) (λaa=>?_);clear hK KQ;refine tkL 15 rfl aa ?_;refine tkL 16 rfl aa ?_;refine tkL 17 rfl aa ?_;refine tkL 18 rfl aa ?_;refine tkL 19 rfl aa ?_;refine tkL 20 rfl aa ?_;refine rdY 21 rfl (λKQ hK=>?_);go_simp;obtain⟨cd,ae⟩:∃ w6,w6=v3.alloc (dE #[F none 0 0] 24):=⟨_,rfl⟩;rw[<-ae];have hu:cd.heap[v3.heap.size]? = some (dE #[F none 0 0] 24 (0,0)):=(by rw[ae];exact Yp _ _ _);have an:w.heap.size<=v3.heap.size:=hb.size;have hb:ZD w cd:=(by rw[ae];exact Zf hb (Zh _ _));clear ae;have u0:=Zb (X:=[F none 0 0]) hu 0 _ rfl;have uf:=Zg hu 0;have ul:=aA hu;clear aa;refine hK.out _ _ (KS _ hb) (λaa=>?_);clear hK KQ;(try simp only[aQ,ZA,ZB,ZC]);generalize v3.heap.size=uz at hu an u0 uf ul ⊢;obtain⟨vz,ar⟩:∃ z,z=cd:=⟨_,rfl⟩;subst ar;rotate_left;go_simp;obtain⟨cc,ae⟩:∃ w6,w6=v2.alloc (dE #[F none 0 0] 24):=⟨_,rfl⟩;rw[<-ae];have hu:cc.heap[v2.heap.size]? = some (dE #[F none 0 0] 24 (0,0)):=(by rw[ae];exact Yp _ _ _);have an:w.heap.size<=v2.heap.size:=hb.size;have hb:ZD w cc:=(by rw[ae];exact Zf hb (Zh _ _));clear ae;have u0:=Zb (X:=[F none 0 0]) hu 0 _ rfl;have uf:=Zg hu 0;have ul:=aA hu;clear aa
    refine hK.out _ _ (KS _ hb) (λaa=>?_);clear hK KQ;(try simp only[aQ,ZA,ZB,ZC]);refine rdS 14 rfl (CS cc hb) ?_;rintro e v4 ⟨k5,bx,bv,sa,sn,sc,oa,on,oc,rfl,aq,-,-,-,ad⟩;have hu:=ZE ad hu;have u0:=Zb (X:=[F none 0 0]) hu 0 _ rfl;have uf:=Zg hu 0;have ul:=aA hu;have hb:=Zf hb ad;have bg:sn=n1:=((aq v4 (Gr.refl _ _)).2.1.1).symm.trans bf;clear aa;refine⟨_,rfl,(KS _ hb),λaa=>?_⟩;refine tkL 15 rfl aa ?_;refine tkL 16 rfl aa ?_;refine tkL 17 rfl aa ?_;refine tkL 18 rfl aa ?_;refine tkL 19 rfl aa ?_;refine tkL 20 rfl aa ?_;generalize v2.heap.size=uz at hu an u0 uf ul ⊢;obtain⟨vz,ar⟩:∃ z,z=v4:=⟨_,rfl⟩;subst ar;rotate_left;go_simp;obtain⟨cb,ae⟩:∃ w6,w6=v1.alloc (dE #[F none 0 0] 24):=⟨_,rfl⟩;rw[<-ae];have hu:cb.heap[v1.heap.size]? = some (dE #[F none 0 0] 24 (0,0)):=(by rw[ae];exact Yp _ _ _);have an:w.heap.size<=v1.heap.size:=hb.size;have hb:ZD w cb:=(by rw[ae];exact Zf hb (Zh _ _));clear ae;have u0:=Zb (X:=[F none 0 0]) hu 0 _ rfl;have uf:=Zg hu 0;have ul:=aA hu;clear aa;refine hK.out _ _ (KS _ hb) (λaa=>?_);clear hK KQ;(try simp only[aQ,ZA,ZB,ZC]);refine rdS 12 rfl (CH cb hb) ?_;rintro e v5 ⟨rfl,ad⟩;have hu:=ZE ad hu;have u0:=Zb (X:=[F none 0 0]) hu 0 _ rfl;have uf:=Zg hu 0;have ul:=aA hu;have hb:=Zf hb ad;clear aa;refine⟨_,rfl,(KS _ hb),λaa=>?_⟩;refine tkL 13 (v:=.int .i64 (z+1)) rfl aa ?_;refine rdS 14 rfl (CS v5 hb) ?_;rintro e v6 ⟨k5,bx,bv,sa,sn,sc,oa,on,oc,rfl,aq,-,-,-,ad⟩;have hu:=ZE ad hu
    have u0:=Zb (X:=[F none 0 0]) hu 0 _ rfl;have uf:=Zg hu 0;have ul:=aA hu;have hb:=Zf hb ad;have bg:sn=n1:=((aq v6 (Gr.refl _ _)).2.1.1).symm.trans bf;clear aa;refine⟨_,rfl,(KS _ hb),λaa=>?_⟩;refine tkL 15 rfl aa ?_;refine tkL 16 rfl aa ?_;refine tkL 17 rfl aa ?_;refine tkL 18 rfl aa ?_;refine tkL 19 rfl aa ?_;refine tkL 20 rfl aa ?_;generalize v1.heap.size=uz at hu an u0 uf ul ⊢;obtain⟨vz,ar⟩:∃ z,z=v6:=⟨_,rfl⟩;subst ar;rotate_left;go_simp;obtain⟨cf,ae⟩:∃ w6,w6=(w1.alloc (dE #[F none 0 0] 24)).drew:=⟨_,rfl⟩;rw[<-ae];have hu:cf.heap[w1.heap.size]? = some (dE #[F none 0 0] 24 (0,0)):=(by rw[ae];exact Yp _ _ _);have an:w.heap.size<=w1.heap.size:=av.size;have hb:ZD w cf:=(by rw[ae];exact Zf (Zf av (Zh _ _)) (Zi _));clear ae;have u0:=Zb (X:=[F none 0 0]) hu 0 _ rfl;have uf:=Zg hu 0;have ul:=aA hu;clear aa;refine hK.out _ _ (KS _ hb) (λaa=>?_);clear hK KQ;(try simp only[aQ,ZA,ZB,ZC]);refine rdS 5 rfl (CC cf hb) ?_;rintro e v7 ⟨rfl,ad⟩;have hu:=ZE ad hu;have u0:=Zb (X:=[F none 0 0]) hu 0 _ rfl;have uf:=Zg hu 0;have ul:=aA hu;have hb:=Zf hb ad;clear aa;refine⟨_,rfl,(KS _ hb),λaa=>?_⟩;(try simp only[aQ,ZA,ZB,ZC]);refine rdS 12 rfl (CH v7 hb) ?_;rintro e v8 ⟨rfl,ad⟩;have hu:=ZE ad hu;have u0:=Zb (X:=[F none 0 0]) hu 0 _ rfl;have uf:=Zg hu 0;have ul:=aA hu;have hb:=Zf hb ad;clear aa;refine⟨_,rfl,(KS _ hb),λaa=>?_⟩;refine tkL 13 (v:=.int .i64 (z+1)) rfl aa ?_;refine rdS 14 rfl (CS v8 hb) ?_
    rintro e v9 ⟨k5,bx,bv,sa,sn,sc,oa,on,oc,rfl,aq,-,-,-,ad⟩;have hu:=ZE ad hu;have u0:=Zb (X:=[F none 0 0]) hu 0 _ rfl;have uf:=Zg hu 0;have ul:=aA hu;have hb:=Zf hb ad;have bg:sn=n1:=((aq v9 (Gr.refl _ _)).2.1.1).symm.trans bf;clear aa;refine⟨_,rfl,(KS _ hb),λaa=>?_⟩;refine tkL 15 rfl aa ?_;refine tkL 16 rfl aa ?_;refine tkL 17 rfl aa ?_;refine tkL 18 rfl aa ?_;refine tkL 19 rfl aa ?_;refine tkL 20 rfl aa ?_;generalize w1.heap.size=uz at hu an u0 uf ul ⊢;obtain⟨vz,ar⟩:∃ z,z=v9:=⟨_,rfl⟩;subst ar;rotate_left
    all_goals
     refine rdY 22 rfl (λKQ hK=>?_);go_simp;clear aa;refine hK.out _ _ (KS _ (hb.setCell (p:=⟨uz,0,none⟩) an _)) (λaa=>?_);clear hK KQ;(try simp only[aQ]);refine tkL 23 rfl aa ?_;refine tkL 24 rfl aa ?_;refine tkL 25 rfl aa ?_;refine tkL 26 rfl aa ?_;refine wpAnyH_done (by kernel_rfl) ?_ _;clear aa;go_wp2_with fail;go_meet
     case rel=>exact⟨rfl,⟨sa,sc,by first|rfl|rw[bg]⟩,hb.setCell (p:=⟨uz,0,none⟩) an _⟩
   case rest=>
    obtain⟨rfl,⟨ra,rc,rfl⟩,HB⟩:=hcut;have d1:=KS wc HB;have cu:=d1.2.1;have cw:=d1.2.2;clear d1 KS CC CH CS;by_cases y0:y=0
    ·subst y0;by_cases l0:n1<pn
     ·have gl:(n1:Int)<(pn:Int):=(by omega);have am:Hid (x=7):=(by have q:=Za ax;rw[if_neg (λr=>r rfl),if_pos l0] at q;exact q.symm);clear ax;go_wp2;go_ret;exact⟨by rw[Za am];rfl,Za HB⟩
     ·have gl:¬(n1:Int)<(pn:Int):=(by omega);have am:Hid (x=0):=(by have q:=Za ax;rw[if_neg (λr=>r rfl),if_neg l0] at q;exact q.symm);clear ax;go_wp2;go_ret;exact⟨by rw[Za am];rfl,Za HB⟩
    ·have gy:(y == 0)=false:=(by simp[y0]);have am:Hid (x=y):=(by have q:=Za ax;rw[if_pos y0] at q;exact q.symm);clear ax;go_wp2;go_ret;exact⟨by rw[Za am];rfl,Za HB⟩
end
theorem Qp{fn:Func}{p:Tmp}{ty:TypeId}(h:fn.results=#[.cell p ty])(tmps:Array Value)(P:Program)(w) :
  (results fn tmps).run P w=((asAddr (tmps.getD p undef)).run P w).andThen λa w₁=>(loadVar ty a).run P w₁:=Yf h tmps P w
theorem Gr.four{w w1:World}{S:Nat->Prop}(h:Gr w w1 S)(b:Nat)(hb:S b\/w.heap.size<=b)(a0 a1 a2 a3):Gr w ((((w1.setCell ⟨b,0,none⟩ a0).setCell ⟨b,1,none⟩ a1).setCell ⟨b,2,none⟩ a2).setCell ⟨b,3,none⟩ a3) S:=
 (((h.one b 0 hb a0).one b 1 hb a1).one b 2 hb a2).one b 3 hb a3
def ClnR(w w':World)(N:List Int)(T:List Zk)(P:List TxD)(nn pn:Nat)(tip:Int)(e:Ending):Prop:=
 ∃ na nc ba bc pa pc,e = dF (.agg #[F na nn nc,F ba nn bc,F pa pn pc,E J tip])/\Fresh w.heap.size w' (λw2=>Tr.IntsAt w2 na nn N/\Tr.BlksAt w2 ba nn T/\TxsAt w2 pa pn P)/\SlOk na nn nc/\SlOk ba nn bc/\SlOk pa pn pc/\ZD w w'
theorem Ps(na ba pa nn nc bc pn pc N T P)(tip:Int)(w)(hN:Tr.IntsAt w na nn N)(hT:Tr.BlksAt w ba nn T)(hP:TxsAt w pa pn P)(sN:SlOk na nn nc)(sT:SlOk ba nn bc)(sP:SlOk pa pn pc)(hn:nn<=4096)(hs:∀ t∈T,Tr.BlkSmall t)(hp:pn<=2513169434916)(hq:∀ t∈P,Tr.TxSmall t) :
  Calls Tryz.prog 171 #[.agg #[F na nn nc,F ba nn bc,F pa pn pc,E J tip]] w λe w'=>ClnR w w' N T P nn pn tip e:=by
 obtain⟨X,hX⟩:=ZG (Yv w [dE #[F na nn nc,F ba nn bc,F pa pn pc,E J tip] 67,dE #[F none 0 0,F none 0 0,F none 0 0,E J 0] 67]);have ce:X=(w.alloc (dE #[F na nn nc,F ba nn bc,F pa pn pc,E J tip] 67)).alloc (dE #[F none 0 0,F none 0 0,F none 0 0,E J 0] 67):=hX;have br:ZD w X:=by rw[hX];exact Zs _ _
 have cf:X.heap.size=w.heap.size+2:=by rw[hX];exact Z0 _ _
 have x0:=kl0 hX _ _ rfl;have x1:=kl hX 1 _ _ rfl;have C1:=Zd (Tr.clTree_is na ba nn nc bc N T X.drew (hN.later (Zf br (Zi X))) (hT.later (Zf br (Zi X))) sN sT hn hs);have C2:=Zd (λV (hv:ZD w V)=>Tr.clTxs_is pa pn pc P V (hP.later hv) sP hp hq);obtain⟨bh,bq,bs,bz⟩:=kh4 br cf x0 x1;obtain⟨t0,t1,t2,tl⟩:=kc3 x0;have KS:Hid (∀ U:World,X.heap.size<=U.heap.size->w.heap.size<U.heap.size):=λU hu=>aD tl hu;have KC:Hid (∀ U:World,ZD X U->(U.cell? ⟨w.heap.size,0,none⟩=some (F na nn nc)/\U.cell? ⟨w.heap.size,1,none⟩=some (F ba nn bc)/\U.cell? ⟨w.heap.size,2,none⟩=some (F pa pn pc)/\w.heap.size<U.heap.size)):=λU hu=>⟨Ze hu t0,Ze hu t1,Ze hu t2,aD tl hu.size⟩;clear hN hT hP sN sT sP hn hs hp hq br cf x0 x1 hX;go_enter func171,ntmps171
 go_upto_region 1 with fail
 rw[<-ce];clear ce
 go_cut [] from 3 to 10 (λwx=>Hid (∃ v1 v2 v3,wx.heap[w.heap.size]? = some (dE [v1,v2,v3,E J tip].toArray 67 (0,0))/\∃ a1 c1 a2 c2 a3 c3,v1 = F a1 nn c1/\v2 = F a2 nn c2/\v3 = F a3 pn c3/\Fresh X.heap.size wx (λw2=>Tr.IntsAt w2 a1 nn N/\Tr.BlksAt w2 a2 nn T/\TxsAt w2 a3 pn P)/\SlOk a1 nn c1/\SlOk a2 nn c2/\SlOk a3 pn c3/\Gr X wx (λq=>q=w.heap.size)))
 case first=>
  refine dD (S:=λU=>w.heap.size<U.heap.size) (by kernel_rfl) (KS _ (aF _)) (λaa=>?_);refine tkL 0 rfl aa ?_;refine tkL 3 rfl aa ?_;have hb:=Zi X;refine cM (rs:=[1,4]) (by kernel_rfl) (by simp) ?_;refine rdC rfl (λKQ hK=>?_) (rdC rfl (λKQ hK=>?_) AllReadyH.nil)
  ·obtain⟨l0,l1,l2,ll⟩:=KC X.drew hb;go_simp;clear l0 l1 l2 ll;clear aa;refine hK.out _ _ (KS _ hb.size) (λaa=>?_);clear hK KQ;(try simp only[aQ,ZA,ZB,ZC]);refine cM (rs:=[2,4]) (by kernel_rfl) (by simp) ?_;refine rdC rfl (λKQ hK=>?_) (rdC rfl (λKQ hK=>?_) AllReadyH.nil)
   ·refine Zm (by kernel_rfl) 135 #[.agg #[F na nn nc,F ba nn bc]] (by kernel_rfl) C1 ?_;rintro e w5 ⟨v1,v2,rfl,ax,bi⟩;obtain⟨a1,c1,a2,c2,rfl,rfl,-,s1,-,s2⟩:=ax.read;refine⟨_,rfl,?_⟩;have hb:=Zf (Zi X) bi;clear aa;refine hK.out _ _ (KS _ hb.size) (λaa=>?_);clear hK KQ;(try simp only[aQ,ZA,ZB,ZC]);refine rdY 4 rfl (λKQ hK=>?_);obtain⟨l0,l1,l2,ll⟩:=KC w5 hb;go_simp;clear l0 l1 l2 ll;clear aa;refine hK.out _ _ (KS _ hb.size) (λaa=>?_);clear hK KQ;refine tkL 6 rfl aa ?_;refine rdS 5 rfl (C2 w5 (Zf bh hb)) ?_;rintro e w6 ⟨a3,c3,rfl,aw,ay⟩;have af:=Zf hb ay;clear aa;refine⟨_,rfl,(KS _ af.size),λaa=>?_⟩;(try simp only[aQ,ZA,ZB,ZC]);have hz:=ZE af bs;obtain⟨y0,y1,y2,g0,g1,g2,yl⟩:=kf3 hz;have cl:(w6.setCell ⟨w.heap.size,0,none⟩ (F a1 nn c1)).heap.size=w6.heap.size:=(by simp[cT]);refine rdY 7 rfl (λKQ hK=>?_);go_simp;clear aa;refine hK.out _ _ (KS _ (by simpa[cT] using af.size)) (λaa=>?_);clear hK KQ;(try simp only[aQ]);refine tkL 8 rfl aa ?_;refine rdY 9 rfl (λKQ hK=>?_);go_simp;clear aa;refine hK.out _ _ (KS _ (by simpa[cT] using af.size)) (λaa=>?_);clear hK KQ;(try simp only[aQ]);refine wpAnyH_done (by kernel_rfl) ?_ _;clear aa;go_wp2_with fail;go_meet
    case rel=>
     have gg:Gr w6 (((w6.setCell ⟨w.heap.size,0,none⟩ (F a1 nn c1)).setCell ⟨w.heap.size,1,none⟩ (F a2 nn c2)).setCell ⟨w.heap.size,2,none⟩ (F a3 pn c3)) (λq=>q=w.heap.size):=(((Gr.refl w6 (λq=>q=w.heap.size)).one w.heap.size 0 (.inl rfl) _).one w.heap.size 1 (.inl rfl) _).one w.heap.size 2 (.inl rfl) _;have bv:=Za bq;have cd:=hb.size;have cm:X.drew.heap.size=X.heap.size:=rfl;refine⟨_,_,_,Tr.set_cells (Tr.set_cells (Tr.set_cells hz 0 _) 1 _) 2 _,a1,c1,a2,c2,a3,c3,rfl,rfl,rfl,λW2 g2=>?_,s1,s2,(aw w6 (Gr.refl _ _)).2,(Gr.of af).trans gg⟩;have k1:=(ax.gr ((Gr.of ay).trans ((gg.mono (λq _ e=>by have e:q=w.heap.size:=e;omega)).trans (g2.mono (λq _ e=>by omega))))).read;obtain⟨b1,d1,b2,d2,q1,q2,i1,-,i2,-⟩:=k1;injection q1 with q1 _ _;injection q2 with q2 _ _;subst q1 q2;exact⟨i1,i2,(aw W2 ((gg.mono (λq _ e=>by have e:q=w.heap.size:=e;omega)).trans (g2.mono (λq _ e=>by omega)))).1⟩
   ·obtain⟨l0,l1,l2,ll⟩:=KC X.drew hb;go_simp;clear l0 l1 l2 ll;clear aa;refine hK.out _ _ (KS _ hb.size) (λaa=>?_);clear hK KQ;(try simp only[aQ,ZA,ZB,ZC]);refine rdY 2 rfl (λKQ hK=>?_);refine Zm (by kernel_rfl) 135 #[.agg #[F na nn nc,F ba nn bc]] (by kernel_rfl) C1 ?_;rintro e w5 ⟨v1,v2,rfl,ax,bi⟩;obtain⟨a1,c1,a2,c2,rfl,rfl,-,s1,-,s2⟩:=ax.read;refine⟨_,rfl,?_⟩;have hb:=Zf (Zi X) bi;clear aa;refine hK.out _ _ (KS _ hb.size) (λaa=>?_);clear hK KQ;refine tkL 6 rfl aa ?_;refine rdS 5 rfl (C2 w5 (Zf bh hb)) ?_;rintro e w6 ⟨a3,c3,rfl,aw,ay⟩;have af:=Zf hb ay;clear aa;refine⟨_,rfl,(KS _ af.size),λaa=>?_⟩;(try simp only[aQ,ZA,ZB,ZC]);have hz:=ZE af bs;obtain⟨y0,y1,y2,g0,g1,g2,yl⟩:=kf3 hz;have cl:(w6.setCell ⟨w.heap.size,0,none⟩ (F a1 nn c1)).heap.size=w6.heap.size:=(by simp[cT]);refine rdY 7 rfl (λKQ hK=>?_);go_simp;clear aa;refine hK.out _ _ (KS _ (by simpa[cT] using af.size)) (λaa=>?_);clear hK KQ;(try simp only[aQ]);refine tkL 8 rfl aa ?_;refine rdY 9 rfl (λKQ hK=>?_);go_simp;clear aa;refine hK.out _ _ (KS _ (by simpa[cT] using af.size)) (λaa=>?_);clear hK KQ;(try simp only[aQ]);refine wpAnyH_done (by kernel_rfl) ?_ _;clear aa;go_wp2_with fail;go_meet
    case rel=>
     have gg:Gr w6 (((w6.setCell ⟨w.heap.size,0,none⟩ (F a1 nn c1)).setCell ⟨w.heap.size,1,none⟩ (F a2 nn c2)).setCell ⟨w.heap.size,2,none⟩ (F a3 pn c3)) (λq=>q=w.heap.size):=(((Gr.refl w6 (λq=>q=w.heap.size)).one w.heap.size 0 (.inl rfl) _).one w.heap.size 1 (.inl rfl) _).one w.heap.size 2 (.inl rfl) _;have bv:=Za bq;have cd:=hb.size;have cm:X.drew.heap.size=X.heap.size:=rfl;refine⟨_,_,_,Tr.set_cells (Tr.set_cells (Tr.set_cells hz 0 _) 1 _) 2 _,a1,c1,a2,c2,a3,c3,rfl,rfl,rfl,λW2 g2=>?_,s1,s2,(aw w6 (Gr.refl _ _)).2,(Gr.of af).trans gg⟩;have k1:=(ax.gr ((Gr.of ay).trans ((gg.mono (λq _ e=>by have e:q=w.heap.size:=e;omega)).trans (g2.mono (λq _ e=>by omega))))).read;obtain⟨b1,d1,b2,d2,q1,q2,i1,-,i2,-⟩:=k1;injection q1 with q1 _ _;injection q2 with q2 _ _;subst q1 q2;exact⟨i1,i2,(aw W2 ((gg.mono (λq _ e=>by have e:q=w.heap.size:=e;omega)).trans (g2.mono (λq _ e=>by omega)))).1⟩
  ·obtain⟨l0,l1,l2,ll⟩:=KC X.drew hb;go_simp;clear l0 l1 l2 ll;clear aa;refine hK.out _ _ (KS _ hb.size) (λaa=>?_);clear hK KQ;(try simp only[aQ,ZA,ZB,ZC]);refine rdY 1 rfl (λKQ hK=>?_);obtain⟨l0,l1,l2,ll⟩:=KC X.drew hb;go_simp;clear l0 l1 l2 ll;clear aa;refine hK.out _ _ (KS _ hb.size) (λaa=>?_);clear hK KQ;(try simp only[aQ,ZA,ZB,ZC]);refine rdY 2 rfl (λKQ hK=>?_);refine Zm (by kernel_rfl) 135 #[.agg #[F na nn nc,F ba nn bc]] (by kernel_rfl) C1 ?_;rintro e w5 ⟨v1,v2,rfl,ax,bi⟩;obtain⟨a1,c1,a2,c2,rfl,rfl,-,s1,-,s2⟩:=ax.read;refine⟨_,rfl,?_⟩;have hb:=Zf (Zi X) bi;clear aa;refine hK.out _ _ (KS _ hb.size) (λaa=>?_);clear hK KQ;refine tkL 6 rfl aa ?_;refine rdS 5 rfl (C2 w5 (Zf bh hb)) ?_;rintro e w6 ⟨a3,c3,rfl,aw,ay⟩;have af:=Zf hb ay;clear aa;refine⟨_,rfl,(KS _ af.size),λaa=>?_⟩;(try simp only[aQ,ZA,ZB,ZC]);have hz:=ZE af bs;obtain⟨y0,y1,y2,g0,g1,g2,yl⟩:=kf3 hz;have cl:(w6.setCell ⟨w.heap.size,0,none⟩ (F a1 nn c1)).heap.size=w6.heap.size:=(by simp[cT]);refine rdY 7 rfl (λKQ hK=>?_);go_simp;clear aa;refine hK.out _ _ (KS _ (by simpa[cT] using af.size)) (λaa=>?_);clear hK KQ;(try simp only[aQ]);refine tkL 8 rfl aa ?_;refine rdY 9 rfl (λKQ hK=>?_);go_simp;clear aa;refine hK.out _ _ (KS _ (by simpa[cT] using af.size)) (λaa=>?_);clear hK KQ;(try simp only[aQ]);refine wpAnyH_done (by kernel_rfl) ?_ _;clear aa;go_wp2_with fail;go_meet
   case rel=>
    have gg:Gr w6 (((w6.setCell ⟨w.heap.size,0,none⟩ (F a1 nn c1)).setCell ⟨w.heap.size,1,none⟩ (F a2 nn c2)).setCell ⟨w.heap.size,2,none⟩ (F a3 pn c3)) (λq=>q=w.heap.size):=(((Gr.refl w6 (λq=>q=w.heap.size)).one w.heap.size 0 (.inl rfl) _).one w.heap.size 1 (.inl rfl) _).one w.heap.size 2 (.inl rfl) _;have bv:=Za bq;have cd:=hb.size;have cm:X.drew.heap.size=X.heap.size:=rfl;refine⟨_,_,_,Tr.set_cells (Tr.set_cells (Tr.set_cells hz 0 _) 1 _) 2 _,a1,c1,a2,c2,a3,c3,rfl,rfl,rfl,λW2 g2=>?_,s1,s2,(aw w6 (Gr.refl _ _)).2,(Gr.of af).trans gg⟩;have k1:=(ax.gr ((Gr.of ay).trans ((gg.mono (λq _ e=>by have e:q=w.heap.size:=e;omega)).trans (g2.mono (λq _ e=>by omega))))).read;obtain⟨b1,d1,b2,d2,q1,q2,i1,-,i2,-⟩:=k1;injection q1 with q1 _ _;injection q2 with q2 _ _;subst q1 q2;exact⟨i1,i2,(aw W2 ((gg.mono (λq _ e=>by have e:q=w.heap.size:=e;omega)).trans (g2.mono (λq _ e=>by omega)))).1⟩
 case rest=>
  obtain⟨v1,v2,v3,hb,a1,c1,a2,c2,a3,c3,rfl,rfl,rfl,hF,s1,s2,s3,hg⟩:=Za hcut;obtain⟨e0,e1,e2,e3,el⟩:=kc4 hb;have hz:=(hg.block _ (aA bz) (λe=>by have e:w.heap.size+1=w.heap.size:=e;omega)).trans bz;obtain⟨z0,z1,z2,z3,f0,f1,f2,f3,zl⟩:=kf4 hz;have bt:ZD w wc:=hg.below bh bh.size (λq e=>by have e:q=w.heap.size:=e;omega)
  have cy:Hid (∀ W,Gr wc W (λq=>q=w.heap.size+1)->ClnR w W N T P nn pn tip (dF (.agg #[F a1 nn c1,F a2 nn c2,F a3 pn c3,E J tip]))):=λW g=>by
   have bv:=Za bq;refine⟨a1,c1,a2,c2,a3,c3,rfl,λW2 g2=>hF W2 ((g.mono (λq _ e=>by have e:q=w.heap.size+1:=e;omega)).trans (g2.mono (λq _ e=>by omega))),s1,s2,s3,g.below bt bt.size (λq e=>by have e:q=w.heap.size+1:=e;omega)⟩
  clear hcut hb hF s1 s2 s3 hg hz bt KS KC C1 C2;go_wp2;(try simp only[Exit.inBlock,Exit.then]);refine bodyPost_ret (v:=.agg #[F a1 nn c1,F a2 nn c2,F a3 pn c3,E J tip]) ?_ rfl ?_
  ·rw[Qp rfl];go_simp
  ·exact cy _ ((Gr.refl wc (λq=>q=w.heap.size+1)).four (w.heap.size+1) (.inl rfl) _ _ _ _)
namespace Tr
open Go.RowKit
theorem below_dn(w:World)(n:Nat):ZD w (w.drewN n):=⟨rfl,rfl,rfl,aF _,λ_ _=>rfl⟩
theorem J5{α : Type}{L M:List α}{j:Nat}(h1:j<L.length)(h2:j<M.length)(h:L.take j=M.take j)(e:L[j]=M[j]):L.take (j+1)=M.take (j+1):=by
 rw[bA h1,bA h2,h,e]
theorem T3{α : Type}{L M:List α}{j:Nat}(h1:j<L.length)(h2:j<M.length)(e:L[j]≠M[j]):L≠M:=by
 intro h;subst h;exact e rfl
theorem Tk(b off b2 aq n c d:Nat)(L M:List Int)(o:Bool)(w:World)(hn:n<=cK)(hz:L.length=n)(ap:M.length=n)
  (hc:∀ i (h:i<L.length),w.cell? ⟨b,off+i,none⟩=some (E J L[i])) (aj:∀ i (h:i<M.length),w.cell? ⟨b2,aq+i,none⟩=some (E J M[i])) (ho:decide (L=M)=o) :
  ZH 38 #[F (some ⟨b,off,none⟩) n c,F (some ⟨b2,aq,none⟩) n d] w (dI o):=by
 obtain⟨HC,au,HZ,ag,HO⟩:=kh5 hc aj hz ap ho;have g0:((n:Int) != (n:Int))=false:=by simp
 unfold cK at hn;clear hc aj hz ap ho;go_enter func38,ntmps38;go_wp2
 go_loopw [13] (λi wr=>∃ j m:Nat,j<=n/\i = E J j/\wr=w.drewN m/\Hid (L.take j=M.take j)) (λi _=>n - (intOf i).toNat)
 case atStart=>exact⟨0,0,aI _,rfl,rfl,rfl⟩
 case round=>
  obtain⟨j,m,hk,rfl,rfl,A⟩:=hrel;by_cases ak:j<n
  ·have h1:j<L.length:=(by rw[Za HZ];exact ak);have h2:j<M.length:=(by rw[Za ag];exact ak);have f1:=HC j h1;have f2:=au j h2;obtain⟨TM,TN⟩:=kh2 (J5 h1 h2 A) (T3 h1 h2);obtain⟨s,hs⟩:=ZF (L[j]);obtain⟨t,ht⟩:=ZF (M[j]);rw[hs] at f1;rw[ht] at f2;rw[hs,ht] at TM TN;clear hs ht A;by_cases e:s=t
   ·subst e;have R:=Zd (TM rfl);have g:(s != s)=false:=(by simp);clear TM TN;go_wp2
    go_quiet (fail)
    go_wp2;go_roundw
    case rel=>exact⟨j+1,m+nq,by omega,by go_num,rfl,R⟩
    case measure=>simp[intOf];omega
   ·have R:Hid (o=false):=(by show _=_;rw[<-Za HO];exact decide_eq_false (TN e));have g:(s != t)=true:=(by simp[e]);clear TM TN;go_wp2
    go_quiet (fail)
    go_wp2;go_ret;exact⟨by rw[Za R];rfl,by simp only[World.drewN_drewN];exact below_dn _ _⟩
  ·have R:Hid (o=true):=by
    have h:=Za A;rw[aS (by rw[Za HZ];omega),aS (by rw[Za ag];omega)] at h;show _=_;rw[<-Za HO];exact decide_eq_true h
   clear A;go_wp2;go_ret;exact⟨by rw[Za R];rfl,below_dn _ _⟩
theorem Tj(a a2 c d)(w:World) :
  ZH 38 #[F a 0 c,F a2 0 d] w (dI true):=by
 go_enter func38,ntmps38;go_wp2;refine wp_loop_rounds 1 ?_;rw[rounds_succ];go_wp2;go_ret;exact⟨rfl,Below.refl _ _⟩
theorem Pr(a a2)(n m c d:Nat)(w:World)(h:n≠m) :
  ZH 38 #[F a n c,F a2 m d] w (dI false):=by
 have g:((n:Int) != (m:Int))=true:=by simp;omega
 go_enter func38,ntmps38;go_wp2;go_ret;exact⟨rfl,Below.refl _ _⟩
theorem eqInt_is(a a2)(n m c d:Nat)(L M)(o:Bool)(w:World)(hn:n<=cK)(h:IntsAt w a n L)(h2:IntsAt w a2 m M)(ho:decide (L=M)=o) :
  ZH 38 #[F a n c,F a2 m d] w (dI o):=by
 by_cases e:n=m
 ·subst e;by_cases h0:n=0
  ·subst h0;have e1:L=[]:=aL.1 h.1;have e2:M=[]:=aL.1 h2.1;subst e1 e2;have:o=true:=(by rw[<-ho];rfl);subst this;exact Tj a a2 c d w
  ·obtain⟨b,off,rfl,_,hc⟩:=h.2 (by omega);obtain⟨b2,ah,rfl,_,af⟩:=h2.2 (by omega);exact Tk b off b2 ah n c d L M o w hn h.1 h2.1 hc af ho
 ·have:o=false:=by
   rw[<-ho];exact decide_eq_false (λe2=>e (by rw[<-h.1,<-h2.1,e2]))
  subst this;exact Pr a a2 n m c d w e
theorem best_is(a b n c m d N T)(z x:Int)(w:World)(hN:IntsAt w a n N)(hT:BlksAt w b m T)(sN:SlOk a n c)(sT:SlOk b m d)(hx:bstD N T=(z,x)) :
  ZH 163 #[.agg #[F a n c,F b m d]] w (dG #[E J z,E J x]):=by
 obtain⟨X,hX,ac,aq⟩:=ka00 w [F a n c,F b m d] 28;obtain⟨HB,bg⟩:=kh2 ac aq;obtain⟨y,hy⟩:=ZF (chkTr N T);have C1:=Zd (Us a b n c m d N T y X (hN.later ac) (hT.later ac) sN sT hy);obtain⟨x0,x1,xl⟩:=kc2 aq;unfold bstD at hx;rw[hy] at hx;by_cases q:y=0
 ·subst q;rw[if_neg (by simp)] at hx;obtain⟨hl,h24,hH,_⟩:=Wz hy;obtain rfl:n=m:=by rw[<-hN.1,<-hT.1,hl]
  have dd:n<=24:=by rw[<-hN.1];exact h24
  have ax:n<=cK:=sN.len;obtain⟨hz,rfl⟩:bstGo N T 0 0 N=z/\0=x:=⟨congrArg Prod.fst hx,congrArg Prod.snd hx⟩;obtain⟨HN,bi,HH⟩:=kh3 (hN.later ac) hN.1 hH;have CP:=Zd (λs P pn W (hb:ZD X W) (h1:Vv N T s=P) (h2:P.length=pn)=>Nn a b n c d N T s P pn W ax (hN.later (Zf ac hb)) (hT.later (Zf ac hb)) hH h1 h2);have CW:=Zd (λpa pc pn P v W (hb:ZD X W) (aw:IntsAt W pa pn P) (ar:pn<=1000) (hv:W4 N T 0 P=v)=>M7 a b pa n c d pn pc N T P v W ax (hN.later (Zf ac hb)) (hT.later (Zf ac hb)) aw ar hH hv);have HZ:Hid (bstGo N T 0 0 (N.drop 0)=z):=hz;clear ac aq hN hT sN sT hx hy hl h24 hH ax hz;go_enter func163,ntmps163;go_wp2_with fail;rw[<-hX];clear hX;refine C1.mono ?_;rintro e w1 ⟨rfl,ag⟩;have hc:=ZE ag bg;obtain⟨t0,tl⟩:=kc1 hc;have av:=Zd ag;clear ag x0 x1 xl hc C1;go_wp2
  go_loopw [5,6,18] (λbv mv i wr=>∃ (k:Nat) (bb mm:Int),k<=n/\bv = E J bb/\mv = E J mm/\i = E J k/\Hid (bstGo N T bb mm (N.drop k)=z)/\Hid (ZD X wr)) (λ_ _ i _=>n - (intOf i).toNat)
  case atStart=>exact⟨0,0,0,aI _,rfl,rfl,rfl,HZ,av⟩
  case round=>
   obtain⟨k,bb,mm,hk,rfl,rfl,rfl,A,af⟩:=hrel;clear t0 tl HZ;by_cases cp:k<n
   ·have h1:k<N.length:=(by rw[Za bi];exact cp);obtain⟨b1,de,rfl,bs,bo⟩:=HN.2 (by omega);have f1:=Ze af (bo k h1);have AT:=Zd (Zlo N T bb mm N k h1);obtain⟨s,hs⟩:=ZF (N[k]);rw[hs] at f1 AT;have ll:=aD bs af.size;have bq:=ZE af bg;obtain⟨t0,t1,tl⟩:=kc2 bq;obtain⟨P,hP⟩:=ZF (Vv N T s);obtain⟨pn,ay⟩:=ZF (P.length);obtain⟨v,hv⟩:=ZF (W4 N T 0 P);have bx:Xc N T s=v:=(by unfold Xc;rw[hP,hv]);rw[bx] at AT;have ar:pn<=1000:=(by rw[<-ay,<-hP];exact Fa HH s);have CC:=Zd (CP s P pn wr.drew (Zf af (Zi _)) hP ay);have CV:=Zd (λpa pc W hb aw=>CW pa pc pn P v W hb aw ar hv);have dc:(k:Int)<(n:Int):=(by omega);clear bo bq hs hP ay hv bx bs ar;go_wp2_with fail
    go_region_with (first
     | (go_at_call 131;refine CC.mono ?_;rintro e w5 ⟨vv,rfl,bt,ah⟩;obtain⟨pa,pc,rfl,_,bu⟩:=ints_of_own bt;have e0:=Ze ah (Ze (Zi _) t0);have e1:=Ze ah (Ze (Zi _) t1);have el:=aD tl ah.size;have H5:=Zd (Zf af (Zf (Zi _) ah));have C5:=Zd (CV pa pc _ H5 bu);clear bt bu ah)
     | (go_at_call 102;refine C5.mono ?_;rintro e w6 ⟨rfl,bj⟩;have H6:=Zd (Zf H5 bj);clear bj C5 H5))
    all_goals
     by_cases q1:mm<v
     ·have R:Hid (bstGo N T s v (N.drop (k+1))=z):=(by show _=_;rw[<-Za A,Za AT,if_pos (.inl q1)]);clear A AT;go_wp2;go_roundw
      case rel=>exact⟨k+1,s,v,by omega,rfl,rfl,by go_num,R,H6⟩
      case measure=>simp[intOf];omega
     ·by_cases q2:v=mm
      ·subst q2;by_cases q3:s<bb
       ·have R:Hid (bstGo N T s v (N.drop (k+1))=z):=(by show _=_;rw[<-Za A,Za AT,if_pos (.inr ⟨rfl,q3⟩)]);clear A AT;go_wp2;go_roundw
        case rel=>exact⟨k+1,s,v,by omega,rfl,rfl,by go_num,R,H6⟩
        case measure=>simp[intOf];omega
       ·have R:Hid (bstGo N T bb v (N.drop (k+1))=z):=by
         show _=_;rw[<-Za A,Za AT,if_neg (by omega)]
        clear A AT;go_wp2;go_roundw
        case rel=>exact⟨k+1,bb,v,by omega,rfl,rfl,by go_num,R,H6⟩
        case measure=>simp[intOf];omega
      ·have R:Hid (bstGo N T bb mm (N.drop (k+1))=z):=by
        show _=_;rw[<-Za A,Za AT,if_neg (by omega)]
       have g2:(v == mm)=false:=(by simp[q2]);clear A AT q2;go_wp2;go_roundw
       case rel=>exact⟨k+1,bb,mm,by omega,rfl,rfl,by go_num,R,H6⟩
       case measure=>simp[intOf];omega
   ·have R:Hid (bb=z):=(by show _=_;rw[<-Za A,Zhq N T bb mm N k (by rw[Za bi];omega)]);have cg:=Zd (Zf HB af);clear A;go_wp2;go_ret2;exact⟨by rw[<-Za R];rfl,Za cg⟩
 ·rw[if_pos q] at hx;obtain⟨rfl,rfl⟩:0=z/\y=x:=⟨congrArg Prod.fst hx,congrArg Prod.snd hx⟩;have g:(y != 0)=true:=by simp[q]
  clear ac aq hN hT sN sT hy hx q;go_enter func163,ntmps163;go_wp2_with fail;rw[<-hX];clear hX;refine C1.mono ?_;rintro e w1 ⟨rfl,ag⟩;have av:=Zd (Zf HB ag);clear ag x0 x1 xl;go_wp2;go_ret2;exact⟨rfl,Za av⟩
theorem fnd_in{N:List Int}{T:List Zk}{x:Int}(hl:N.length=T.length)(h:x∈N):fnd x N T∈T:=by
 rcases Jv x N T 0 hl with ⟨_,h1,_⟩|⟨i,hi,_,_,h3⟩
 ·exact absurd h h1
 ·rw[h3];exact bE hi
theorem fnd_out{N:List Int}{T:List Zk}{x:Int}(hl:N.length=T.length)(h:x∉N):fnd x N T=Yx:=by
 rcases Jv x N T 0 hl with ⟨_,_,h3⟩|⟨i,hi,_,h2,_⟩
 ·exact h3
 ·exact absurd h2 h
