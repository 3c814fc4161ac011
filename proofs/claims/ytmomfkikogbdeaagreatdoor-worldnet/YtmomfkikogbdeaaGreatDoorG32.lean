import Derived.Test.YtmomfkikogbdeaaGreatDoorH
import Derived.Test.YtmomfkikogbdeaaGreatDoorG27
open Go.Proofs.Tryz
open Classical renaming not_not->bY
open Go renaming lt_of_block->aA,wpAnyH_ready->aG,maxLen->bP
open Go.Act renaming put->aC
open Go.Callee renaming value->aP
open Go.Ending renaming returned->cY
open Go.IntKind renaming i64->J
open Go.Obj renaming cells->cW
open Go.RowKit renaming Below->aD,intOf->cE
open Go.Value renaming int->E,slice->F,tuple->cZ,bool->dB
open Go.World renaming setCell->cI
open List renaming take_succ_eq_append_getElem->aW,take_of_length_le->aL,length_eq_zero_iff->aI,mem_cons->bC,mem_append->cH,drop_eq_getElem_cons->aN,length_take->bL,getElem_mem->bB
open Nat renaming lt_of_lt_of_le->aE,le_refl->aH,zero_le->aQ
set_option maxHeartbeats 6400000
set_option maxRecDepth 10000
namespace Go.Proofs.YtmomfkikogbdeaaGreatDoor
open Go.RowKit
theorem Ut{fn:Func}{p:Tmp}{ty:TypeId}(h:fn.results=#[.cell p ty])(tmps:Array Value)(P:Program)(w:World) :
  (results fn tmps).run P w=((asAddr (tmps.getD p undef)).run P w).andThen λa z=>(loadVar ty a).run P z:=Ya h tmps P w
theorem Gr.four{w w1:World}{S:Nat->Prop}(h:Gr w w1 S)(b:Nat)(z:S b\/w.heap.size<=b)(Q a1 a2 a3:Value):Gr w ((((w1.setCell ⟨b,0,none⟩ Q).setCell ⟨b,1,none⟩ a1).setCell ⟨b,2,none⟩ a2).setCell ⟨b,3,none⟩ a3) S:=
 (((h.one b 0 z Q).one b 1 z a1).one b 2 z a2).one b 3 z a3
def ClnR(w w':World)(N:List Int)(T:List Zl)(P:List TxD)(nn pn:Nat)(tip:Int)(e:Ending):Prop:=
 ∃ na nc ba bc pa pc,e = cY (.agg #[F na nn nc,F ba nn bc,F pa pn pc,E J tip])/\Fresh w.heap.size w' (λw2=>Tr.IntsAt w2 na nn N/\Tr.BlksAt w2 ba nn T/\TxsAt w2 pa pn P)/\SlOk na nn nc/\SlOk ba nn bc/\SlOk pa pn pc/\aD w.heap.size w w'
theorem Li(na ba pa:Option Addr)(nn nc bc pn pc:Nat)(N:List Int)(T:List Zl)(P:List TxD)(tip:Int)(w:World)(hN:Tr.IntsAt w na nn N)(hT:Tr.BlksAt w ba nn T)(hP:TxsAt w pa pn P)(sN:SlOk na nn nc)(sT:SlOk ba nn bc)(sP:SlOk pa pn pc)(hn:nn<=4096)(hs:∀ t∈T,Tr.BlkSmall t)(hp:pn<=2513169434916)(hq:∀ t∈P,Tr.TxSmall t) :
  Calls Tryz.prog 171 #[.agg #[F na nn nc,F ba nn bc,F pa pn pc,E J tip]] w λe w'=>ClnR w w' N T P nn pn tip e:=by
 obtain⟨X,hX⟩:=ZG (Yp w [cW #[F na nn nc,F ba nn bc,F pa pn pc,E J tip] 67,cW #[F none 0 0,F none 0 0,F none 0 0,E J 0] 67]);have cf:X=(w.alloc (cW #[F na nn nc,F ba nn bc,F pa pn pc,E J tip] 67)).alloc (cW #[F none 0 0,F none 0 0,F none 0 0,E J 0] 67):=hX;have bs:aD w.heap.size w X:=by rw[hX];exact Zs _ _
 have cg:X.heap.size=w.heap.size+2:=by rw[hX];exact Z4 _ _
 have x0:X.heap[w.heap.size]? = some (cW [F na nn nc,F ba nn bc,F pa pn pc,E J tip].toArray 67 (0,0)):=by rw[hX];exact Zk _ w 0 _ rfl
 have x1:X.heap[w.heap.size+1]? = some (cW [F none 0 0,F none 0 0,F none 0 0,E J 0].toArray 67 (0,0)):=by rw[hX];exact Zk _ w 1 _ rfl
 have C1:=Zd (Tr.clTree_is na ba nn nc bc N T X.drew (hN.later (Zf bs (Zi X))) (hT.later (Zf bs (Zi X))) sN sT hn hs);have C2:=Zd (λV (hv:aD w.heap.size w V)=>Tr.clTxs_is pa pn pc P V (hP.later hv) sP hp hq);have bh:=Zd bs;have br:=Zd cg;have bt:=Zd x0;have bz:=Zd x1;have t0:=Zb x0 0 _ rfl;have t1:=Zb x0 1 _ rfl;have t2:=Zb x0 2 _ rfl;have tl:=aA x0;have KS:Hid (∀ U:World,X.heap.size<=U.heap.size->w.heap.size<U.heap.size):=λU hu=>aE tl hu;have KC:Hid (∀ U:World,aD X.heap.size X U->(U.cell? ⟨w.heap.size,0,none⟩=some (F na nn nc)/\U.cell? ⟨w.heap.size,1,none⟩=some (F ba nn bc)/\U.cell? ⟨w.heap.size,2,none⟩=some (F pa pn pc)/\w.heap.size<U.heap.size)):=λU hu=>⟨Ze hu t0,Ze hu t1,Ze hu t2,aE tl hu.size⟩;clear hN hT hP sN sT sP hn hs hp hq bs cg x0 x1 hX;go_enter func171,ntmps171
 go_upto_region 1 with fail
 rw[<-cf];clear cf
 go_cut [] from 3 to 10 (λwx=>Hid (∃ v1 v2 v3,wx.heap[w.heap.size]? = some (cW [v1,v2,v3,E J tip].toArray 67 (0,0))/\∃ a1 c1 a2 c2 a3 c3,v1 = F a1 nn c1/\v2 = F a2 nn c2/\v3 = F a3 pn c3/\Fresh X.heap.size wx (λw2=>Tr.IntsAt w2 a1 nn N/\Tr.BlksAt w2 a2 nn T/\TxsAt w2 a3 pn P)/\SlOk a1 nn c1/\SlOk a2 nn c2/\SlOk a3 pn c3/\Gr X wx (λq=>q=w.heap.size)))
 case first=>
  refine wp_region_held_drew (S:=λU=>w.heap.size<U.heap.size) (by kernel_rfl) (KS _ (aH _)) (λQ=>?_);refine tk 0 ⟨some 3,.fieldAddr 67 (.tmp 1) 0,0, "clone.go:64",#[],none⟩ ?_ rfl ?_ Q ?_;rotate_left
  ·(intro U bb;go_simp;first|done|with_reducible rfl)
  (try simp only[aC,ZA,ZB,ZC]);refine tk 3 ⟨some 6,.fieldAddr 67 (.tmp 1) 1,0, "clone.go:64",#[],none⟩ ?_ rfl ?_ Q ?_;rotate_left
  ·(intro U bb;go_simp;first|done|with_reducible rfl)
  (try simp only[aC,ZA,ZB,ZC]);have hb:=Zi X;refine aG (rs:=[1,4]) (by kernel_rfl) (by simp) ?_;refine AllReadyH.cons (o:=⟨some 4,.load 28 (.tmp 3),28, "clone.go:64",#[⟨0,.data⟩],none⟩) rfl (λKQ hK=>?_) (AllReadyH.cons (o:=⟨some 7,.load 37 (.tmp 6),37, "clone.go:64",#[⟨3,.data⟩],none⟩) rfl (λKQ hK=>?_) AllReadyH.nil)
  ·obtain⟨l0,l1,l2,ll⟩:=KC X.drew hb;go_simp;clear l0 l1 l2 ll;refine hK.out _ _ (KS _ hb.size) (λz=>?_);clear hK KQ Q;have Q:=z;clear z;(try simp only[aC,ZA,ZB,ZC]);refine aG (rs:=[2,4]) (by kernel_rfl) (by simp) ?_;refine AllReadyH.cons (o:=⟨some 5,.call { callee:=aP (.func 135),args:=#[.tmp 4],argTypes:=#[28] },28, "clone.go:64",#[⟨1,.data⟩],none⟩) rfl (λKQ hK=>?_) (AllReadyH.cons (o:=⟨some 7,.load 37 (.tmp 6),37, "clone.go:64",#[⟨3,.data⟩],none⟩) rfl (λKQ hK=>?_) AllReadyH.nil)
   ·refine Zm (by kernel_rfl) 135 #[.agg #[F na nn nc,F ba nn bc]] (by kernel_rfl) C1 ?_;rintro e w5 ⟨v1,v2,rfl,av,bi⟩;obtain⟨a1,c1,a2,c2,rfl,rfl,-,s1,-,s2⟩:=av.read;refine⟨_,rfl,?_⟩;have hb:=Zf (Zi X) bi;refine hK.out _ _ (KS _ hb.size) (λz=>?_);clear hK KQ Q;have Q:=z;clear z;(try simp only[aC,ZA,ZB,ZC]);refine aG (rs:=[4]) (by kernel_rfl) (by simp) ?_;refine AllReadyH.cons (o:=⟨some 7,.load 37 (.tmp 6),37, "clone.go:64",#[⟨3,.data⟩],none⟩) rfl (λKQ hK=>?_) AllReadyH.nil;obtain⟨l0,l1,l2,ll⟩:=KC w5 hb;go_simp;clear l0 l1 l2 ll;refine hK.out _ _ (KS _ hb.size) (λz=>?_);clear hK KQ Q;have Q:=z;clear z;(try simp only[aC,ZA,ZB,ZC]);refine tk 6 ⟨some 9,.fieldAddr 67 (.tmp 1) 0,0, "clone.go:64",#[⟨0,.phase⟩,⟨1,.phase⟩,⟨2,.phase⟩,⟨3,.phase⟩,⟨4,.phase⟩,⟨5,.textOnly .lateStoresUnsure⟩],none⟩ ?_ rfl ?_ Q ?_;rotate_left
    ·(intro U bb;go_simp;first|done|with_reducible rfl)
    (try simp only[aC,ZA,ZB,ZC]);refine aG (rs:=[5]) (by kernel_rfl) (by simp) ?_;refine AllReadyH.cons (o:=⟨some 8,.call { callee:=aP (.func 142),args:=#[.tmp 7],argTypes:=#[37] },37, "clone.go:64",#[⟨4,.data⟩,⟨2,.chain⟩],none⟩) rfl (λKQ hK=>?_) AllReadyH.nil;refine Zm (by kernel_rfl) 142 #[F pa pn pc] (by kernel_rfl) (C2 w5 (Zf bh hb)) ?_;rintro e w6 ⟨a3,c3,rfl,au,aw⟩;refine⟨_,rfl,?_⟩;have af:=Zf hb aw;refine hK.out _ _ (KS _ af.size) (λz=>?_);clear hK KQ Q;have Q:=z;clear z;(try simp only[aC,ZA,ZB,ZC]);have hz:=ZE af bt;have y0:=Zb hz 0 _ rfl;have y1:=Zb hz 1 _ rfl;have y2:=Zb hz 2 _ rfl;have g0:=Zg hz 0;have g1:=Zg hz 1;have g2:=Zg hz 2;have yl:=aA hz;have cm:(w6.setCell ⟨w.heap.size,0,none⟩ (F a1 nn c1)).heap.size=w6.heap.size:=(by simp[cI]);refine aG (rs:=[7]) (by kernel_rfl) (by simp) ?_;refine AllReadyH.cons (o:=⟨none,.store 28 (.tmp 9) (.tmp 5),0, "clone.go:64",#[⟨6,.data⟩,⟨2,.data⟩,⟨5,.chain⟩,⟨0,.phase⟩,⟨1,.phase⟩,⟨2,.phase⟩,⟨3,.phase⟩,⟨4,.phase⟩,⟨5,.textOnly .lateStoresUnsure⟩],none⟩) rfl (λKQ hK=>?_) AllReadyH.nil;go_simp;refine hK.out _ _ (KS _ (by simpa[cI] using af.size)) (λz=>?_);clear hK KQ Q;have Q:=z;clear z;(try simp only[aC]);refine tk 8 ⟨some 10,.fieldAddr 67 (.tmp 1) 1,0, "clone.go:64",#[⟨0,.phase⟩,⟨1,.phase⟩,⟨2,.phase⟩,⟨3,.phase⟩,⟨4,.phase⟩,⟨5,.phase⟩,⟨6,.phase⟩,⟨7,.phase⟩],none⟩ ?_ rfl ?_ Q ?_;rotate_left
    ·(intro U bb;go_simp;first|done|with_reducible rfl)
    (try simp only[aC,ZA,ZB,ZC]);refine aG (rs:=[9]) (by kernel_rfl) (by simp) ?_;refine AllReadyH.cons (o:=⟨none,.store 37 (.tmp 10) (.tmp 8),0, "clone.go:64",#[⟨8,.data⟩,⟨5,.data⟩,⟨7,.chain⟩,⟨0,.phase⟩,⟨1,.phase⟩,⟨2,.phase⟩,⟨3,.phase⟩,⟨4,.phase⟩,⟨5,.phase⟩,⟨6,.phase⟩,⟨7,.phase⟩],none⟩) rfl (λKQ hK=>?_) AllReadyH.nil;go_simp;refine hK.out _ _ (KS _ (by simpa[cI] using af.size)) (λz=>?_);clear hK KQ Q;have Q:=z;clear z;(try simp only[aC]);refine wpAnyH_done (by kernel_rfl) ?_ _;clear Q;go_wp2_with fail;go_meet
    case rel=>
     have gg:Gr w6 (((w6.setCell ⟨w.heap.size,0,none⟩ (F a1 nn c1)).setCell ⟨w.heap.size,1,none⟩ (F a2 nn c2)).setCell ⟨w.heap.size,2,none⟩ (F a3 pn c3)) (λq=>q=w.heap.size):=(((Gr.refl w6 (λq=>q=w.heap.size)).one w.heap.size 0 (.inl rfl) _).one w.heap.size 1 (.inl rfl) _).one w.heap.size 2 (.inl rfl) _;have bx:=Za br;have ce:=hb.size;have cn:X.drew.heap.size=X.heap.size:=rfl;refine⟨_,_,_,Tr.set_cells (Tr.set_cells (Tr.set_cells hz 0 _) 1 _) 2 _,a1,c1,a2,c2,a3,c3,rfl,rfl,rfl,λW2 g2=>?_,s1,s2,(au w6 (Gr.refl _ _)).2,(Gr.of af).trans gg⟩;have k1:=(av.gr ((Gr.of aw).trans ((gg.mono (λq _ e=>by have e:q=w.heap.size:=e;omega)).trans (g2.mono (λq _ e=>by omega))))).read;obtain⟨b1,d1,b2,d2,q1,q2,i1,-,i2,-⟩:=k1;injection q1 with q1 _ _;injection q2 with q2 _ _;subst q1 q2;exact⟨i1,i2,(au W2 ((gg.mono (λq _ e=>by have e:q=w.heap.size:=e;omega)).trans (g2.mono (λq _ e=>by omega)))).1⟩
   ·obtain⟨l0,l1,l2,ll⟩:=KC X.drew hb;go_simp;clear l0 l1 l2 ll;refine hK.out _ _ (KS _ hb.size) (λz=>?_);clear hK KQ Q;have Q:=z;clear z;(try simp only[aC,ZA,ZB,ZC]);refine aG (rs:=[2]) (by kernel_rfl) (by simp) ?_;refine AllReadyH.cons (o:=⟨some 5,.call { callee:=aP (.func 135),args:=#[.tmp 4],argTypes:=#[28] },28, "clone.go:64",#[⟨1,.data⟩],none⟩) rfl (λKQ hK=>?_) AllReadyH.nil;refine Zm (by kernel_rfl) 135 #[.agg #[F na nn nc,F ba nn bc]] (by kernel_rfl) C1 ?_;rintro e w5 ⟨v1,v2,rfl,av,bi⟩;obtain⟨a1,c1,a2,c2,rfl,rfl,-,s1,-,s2⟩:=av.read;refine⟨_,rfl,?_⟩;have hb:=Zf (Zi X) bi;refine hK.out _ _ (KS _ hb.size) (λz=>?_);clear hK KQ Q;have Q:=z;clear z;(try simp only[aC,ZA,ZB,ZC]);refine tk 6 ⟨some 9,.fieldAddr 67 (.tmp 1) 0,0, "clone.go:64",#[⟨0,.phase⟩,⟨1,.phase⟩,⟨2,.phase⟩,⟨3,.phase⟩,⟨4,.phase⟩,⟨5,.textOnly .lateStoresUnsure⟩],none⟩ ?_ rfl ?_ Q ?_;rotate_left
    ·(intro U bb;go_simp;first|done|with_reducible rfl)
    (try simp only[aC,ZA,ZB,ZC]);refine aG (rs:=[5]) (by kernel_rfl) (by simp) ?_;refine AllReadyH.cons (o:=⟨some 8,.call { callee:=aP (.func 142),args:=#[.tmp 7],argTypes:=#[37] },37, "clone.go:64",#[⟨4,.data⟩,⟨2,.chain⟩],none⟩) rfl (λKQ hK=>?_) AllReadyH.nil;refine Zm (by kernel_rfl) 142 #[F pa pn pc] (by kernel_rfl) (C2 w5 (Zf bh hb)) ?_;rintro e w6 ⟨a3,c3,rfl,au,aw⟩;refine⟨_,rfl,?_⟩;have af:=Zf hb aw;refine hK.out _ _ (KS _ af.size) (λz=>?_);clear hK KQ Q;have Q:=z;clear z;(try simp only[aC,ZA,ZB,ZC]);have hz:=ZE af bt;have y0:=Zb hz 0 _ rfl;have y1:=Zb hz 1 _ rfl;have y2:=Zb hz 2 _ rfl;have g0:=Zg hz 0;have g1:=Zg hz 1;have g2:=Zg hz 2;have yl:=aA hz;have cm:(w6.setCell ⟨w.heap.size,0,none⟩ (F a1 nn c1)).heap.size=w6.heap.size:=(by simp[cI]);refine aG (rs:=[7]) (by kernel_rfl) (by simp) ?_;refine AllReadyH.cons (o:=⟨none,.store 28 (.tmp 9) (.tmp 5),0, "clone.go:64",#[⟨6,.data⟩,⟨2,.data⟩,⟨5,.chain⟩,⟨0,.phase⟩,⟨1,.phase⟩,⟨2,.phase⟩,⟨3,.phase⟩,⟨4,.phase⟩,⟨5,.textOnly .lateStoresUnsure⟩],none⟩) rfl (λKQ hK=>?_) AllReadyH.nil;go_simp;refine hK.out _ _ (KS _ (by simpa[cI] using af.size)) (λz=>?_);clear hK KQ Q;have Q:=z;clear z;(try simp only[aC]);refine tk 8 ⟨some 10,.fieldAddr 67 (.tmp 1) 1,0, "clone.go:64",#[⟨0,.phase⟩,⟨1,.phase⟩,⟨2,.phase⟩,⟨3,.phase⟩,⟨4,.phase⟩,⟨5,.phase⟩,⟨6,.phase⟩,⟨7,.phase⟩],none⟩ ?_ rfl ?_ Q ?_;rotate_left
    ·(intro U bb;go_simp;first|done|with_reducible rfl)
    (try simp only[aC,ZA,ZB,ZC]);refine aG (rs:=[9]) (by kernel_rfl) (by simp) ?_;refine AllReadyH.cons (o:=⟨none,.store 37 (.tmp 10) (.tmp 8),0, "clone.go:64",#[⟨8,.data⟩,⟨5,.data⟩,⟨7,.chain⟩,⟨0,.phase⟩,⟨1,.phase⟩,⟨2,.phase⟩,⟨3,.phase⟩,⟨4,.phase⟩,⟨5,.phase⟩,⟨6,.phase⟩,⟨7,.phase⟩],none⟩) rfl (λKQ hK=>?_) AllReadyH.nil;go_simp;refine hK.out _ _ (KS _ (by simpa[cI] using af.size)) (λz=>?_);clear hK KQ Q;have Q:=z;clear z;(try simp only[aC]);refine wpAnyH_done (by kernel_rfl) ?_ _;clear Q;go_wp2_with fail;go_meet
    case rel=>
     have gg:Gr w6 (((w6.setCell ⟨w.heap.size,0,none⟩ (F a1 nn c1)).setCell ⟨w.heap.size,1,none⟩ (F a2 nn c2)).setCell ⟨w.heap.size,2,none⟩ (F a3 pn c3)) (λq=>q=w.heap.size):=(((Gr.refl w6 (λq=>q=w.heap.size)).one w.heap.size 0 (.inl rfl) _).one w.heap.size 1 (.inl rfl) _).one w.heap.size 2 (.inl rfl) _;have bx:=Za br;have ce:=hb.size;have cn:X.drew.heap.size=X.heap.size:=rfl;refine⟨_,_,_,Tr.set_cells (Tr.set_cells (Tr.set_cells hz 0 _) 1 _) 2 _,a1,c1,a2,c2,a3,c3,rfl,rfl,rfl,λW2 g2=>?_,s1,s2,(au w6 (Gr.refl _ _)).2,(Gr.of af).trans gg⟩;have k1:=(av.gr ((Gr.of aw).trans ((gg.mono (λq _ e=>by have e:q=w.heap.size:=e;omega)).trans (g2.mono (λq _ e=>by omega))))).read;obtain⟨b1,d1,b2,d2,q1,q2,i1,-,i2,-⟩:=k1;injection q1 with q1 _ _;injection q2 with q2 _ _;subst q1 q2;exact⟨i1,i2,(au W2 ((gg.mono (λq _ e=>by have e:q=w.heap.size:=e;omega)).trans (g2.mono (λq _ e=>by omega)))).1⟩
  ·obtain⟨l0,l1,l2,ll⟩:=KC X.drew hb;go_simp;clear l0 l1 l2 ll;refine hK.out _ _ (KS _ hb.size) (λz=>?_);clear hK KQ Q;have Q:=z;clear z;(try simp only[aC,ZA,ZB,ZC]);refine aG (rs:=[1]) (by kernel_rfl) (by simp) ?_;refine AllReadyH.cons (o:=⟨some 4,.load 28 (.tmp 3),28, "clone.go:64",#[⟨0,.data⟩],none⟩) rfl (λKQ hK=>?_) AllReadyH.nil;obtain⟨l0,l1,l2,ll⟩:=KC X.drew hb;go_simp;clear l0 l1 l2 ll;refine hK.out _ _ (KS _ hb.size) (λz=>?_);clear hK KQ Q;have Q:=z;clear z;(try simp only[aC,ZA,ZB,ZC]);refine aG (rs:=[2]) (by kernel_rfl) (by simp) ?_;refine AllReadyH.cons (o:=⟨some 5,.call { callee:=aP (.func 135),args:=#[.tmp 4],argTypes:=#[28] },28, "clone.go:64",#[⟨1,.data⟩],none⟩) rfl (λKQ hK=>?_) AllReadyH.nil;refine Zm (by kernel_rfl) 135 #[.agg #[F na nn nc,F ba nn bc]] (by kernel_rfl) C1 ?_;rintro e w5 ⟨v1,v2,rfl,av,bi⟩;obtain⟨a1,c1,a2,c2,rfl,rfl,-,s1,-,s2⟩:=av.read;refine⟨_,rfl,?_⟩;have hb:=Zf (Zi X) bi;refine hK.out _ _ (KS _ hb.size) (λz=>?_);clear hK KQ Q;have Q:=z;clear z;(try simp only[aC,ZA,ZB,ZC]);refine tk 6 ⟨some 9,.fieldAddr 67 (.tmp 1) 0,0, "clone.go:64",#[⟨0,.phase⟩,⟨1,.phase⟩,⟨2,.phase⟩,⟨3,.phase⟩,⟨4,.phase⟩,⟨5,.textOnly .lateStoresUnsure⟩],none⟩ ?_ rfl ?_ Q ?_;rotate_left
   ·(intro U bb;go_simp;first|done|with_reducible rfl)
   (try simp only[aC,ZA,ZB,ZC]);refine aG (rs:=[5]) (by kernel_rfl) (by simp) ?_;refine AllReadyH.cons (o:=⟨some 8,.call { callee:=aP (.func 142),args:=#[.tmp 7],argTypes:=#[37] },37, "clone.go:64",#[⟨4,.data⟩,⟨2,.chain⟩],none⟩) rfl (λKQ hK=>?_) AllReadyH.nil;refine Zm (by kernel_rfl) 142 #[F pa pn pc] (by kernel_rfl) (C2 w5 (Zf bh hb)) ?_;rintro e w6 ⟨a3,c3,rfl,au,aw⟩;refine⟨_,rfl,?_⟩;have af:=Zf hb aw;refine hK.out _ _ (KS _ af.size) (λz=>?_);clear hK KQ Q;have Q:=z;clear z;(try simp only[aC,ZA,ZB,ZC]);have hz:=ZE af bt;have y0:=Zb hz 0 _ rfl;have y1:=Zb hz 1 _ rfl;have y2:=Zb hz 2 _ rfl;have g0:=Zg hz 0;have g1:=Zg hz 1;have g2:=Zg hz 2;have yl:=aA hz;have cm:(w6.setCell ⟨w.heap.size,0,none⟩ (F a1 nn c1)).heap.size=w6.heap.size:=(by simp[cI]);refine aG (rs:=[7]) (by kernel_rfl) (by simp) ?_;refine AllReadyH.cons (o:=⟨none,.store 28 (.tmp 9) (.tmp 5),0, "clone.go:64",#[⟨6,.data⟩,⟨2,.data⟩,⟨5,.chain⟩,⟨0,.phase⟩,⟨1,.phase⟩,⟨2,.phase⟩,⟨3,.phase⟩,⟨4,.phase⟩,⟨5,.textOnly .lateStoresUnsure⟩],none⟩) rfl (λKQ hK=>?_) AllReadyH.nil;go_simp;refine hK.out _ _ (KS _ (by simpa[cI] using af.size)) (λz=>?_);clear hK KQ Q;have Q:=z;clear z;(try simp only[aC]);refine tk 8 ⟨some 10,.fieldAddr 67 (.tmp 1) 1,0, "clone.go:64",#[⟨0,.phase⟩,⟨1,.phase⟩,⟨2,.phase⟩,⟨3,.phase⟩,⟨4,.phase⟩,⟨5,.phase⟩,⟨6,.phase⟩,⟨7,.phase⟩],none⟩ ?_ rfl ?_ Q ?_;rotate_left
   ·(intro U bb;go_simp;first|done|with_reducible rfl)
   (try simp only[aC,ZA,ZB,ZC]);refine aG (rs:=[9]) (by kernel_rfl) (by simp) ?_;refine AllReadyH.cons (o:=⟨none,.store 37 (.tmp 10) (.tmp 8),0, "clone.go:64",#[⟨8,.data⟩,⟨5,.data⟩,⟨7,.chain⟩,⟨0,.phase⟩,⟨1,.phase⟩,⟨2,.phase⟩,⟨3,.phase⟩,⟨4,.phase⟩,⟨5,.phase⟩,⟨6,.phase⟩,⟨7,.phase⟩],none⟩) rfl (λKQ hK=>?_) AllReadyH.nil;go_simp;refine hK.out _ _ (KS _ (by simpa[cI] using af.size)) (λz=>?_);clear hK KQ Q;have Q:=z;clear z;(try simp only[aC]);refine wpAnyH_done (by kernel_rfl) ?_ _;clear Q;go_wp2_with fail;go_meet
   case rel=>
    have gg:Gr w6 (((w6.setCell ⟨w.heap.size,0,none⟩ (F a1 nn c1)).setCell ⟨w.heap.size,1,none⟩ (F a2 nn c2)).setCell ⟨w.heap.size,2,none⟩ (F a3 pn c3)) (λq=>q=w.heap.size):=(((Gr.refl w6 (λq=>q=w.heap.size)).one w.heap.size 0 (.inl rfl) _).one w.heap.size 1 (.inl rfl) _).one w.heap.size 2 (.inl rfl) _;have bx:=Za br;have ce:=hb.size;have cn:X.drew.heap.size=X.heap.size:=rfl;refine⟨_,_,_,Tr.set_cells (Tr.set_cells (Tr.set_cells hz 0 _) 1 _) 2 _,a1,c1,a2,c2,a3,c3,rfl,rfl,rfl,λW2 g2=>?_,s1,s2,(au w6 (Gr.refl _ _)).2,(Gr.of af).trans gg⟩;have k1:=(av.gr ((Gr.of aw).trans ((gg.mono (λq _ e=>by have e:q=w.heap.size:=e;omega)).trans (g2.mono (λq _ e=>by omega))))).read;obtain⟨b1,d1,b2,d2,q1,q2,i1,-,i2,-⟩:=k1;injection q1 with q1 _ _;injection q2 with q2 _ _;subst q1 q2;exact⟨i1,i2,(au W2 ((gg.mono (λq _ e=>by have e:q=w.heap.size:=e;omega)).trans (g2.mono (λq _ e=>by omega)))).1⟩
 case rest=>
  obtain⟨v1,v2,v3,hb,a1,c1,a2,c2,a3,c3,rfl,rfl,rfl,hF,s1,s2,s3,hg⟩:=Za hcut;have e0:=Zb hb 0 _ rfl;have e1:=Zb hb 1 _ rfl;have e2:=Zb hb 2 _ rfl;have e3:=Zb hb 3 _ rfl;have el:=aA hb;have hz:=(hg.block _ (aA bz) (λe=>by have e:w.heap.size+1=w.heap.size:=e;omega)).trans bz;have z0:=Zb hz 0 _ rfl;have z1:=Zb hz 1 _ rfl;have z2:=Zb hz 2 _ rfl;have z3:=Zb hz 3 _ rfl;have f0:=Zg hz 0;have f1:=Zg hz 1;have f2:=Zg hz 2;have f3:=Zg hz 3;have zl:=aA hz;have bu:aD w.heap.size w wc:=hg.below bh bh.size (λq e=>by have e:q=w.heap.size:=e;omega)
  have cz:Hid (∀ W,Gr wc W (λq=>q=w.heap.size+1)->ClnR w W N T P nn pn tip (cY (.agg #[F a1 nn c1,F a2 nn c2,F a3 pn c3,E J tip]))):=λW g=>by
   have bx:=Za br;refine⟨a1,c1,a2,c2,a3,c3,rfl,λW2 g2=>hF W2 ((g.mono (λq _ e=>by have e:q=w.heap.size+1:=e;omega)).trans (g2.mono (λq _ e=>by omega))),s1,s2,s3,g.below bu bu.size (λq e=>by have e:q=w.heap.size+1:=e;omega)⟩
  clear hcut hb hF s1 s2 s3 hg hz bu KS KC C1 C2;go_wp2;(try simp only[Exit.inBlock,Exit.then]);refine bodyPost_ret (v:=.agg #[F a1 nn c1,F a2 nn c2,F a3 pn c3,E J tip]) ?_ rfl ?_
  ·rw[Ut rfl];go_simp
  ·exact cz _ ((Gr.refl wc (λq=>q=w.heap.size+1)).four (w.heap.size+1) (.inl rfl) _ _ _ _)
namespace Tr
open Go.RowKit
theorem below_dn(w:World)(n:Nat):aD w.heap.size w (w.drewN n):=⟨rfl,rfl,rfl,aH _,λ_ _=>rfl⟩
theorem Qz{α : Type}{L M:List α}{j:Nat}(h1:j<L.length)(h2:j<M.length)(h:L.take j=M.take j)(e:L[j]=M[j]):L.take (j+1)=M.take (j+1):=by
 rw[aW h1,aW h2,h,e]
theorem Rh{α : Type}{L M:List α}{j:Nat}(h1:j<L.length)(h2:j<M.length)(e:L[j]≠M[j]):L≠M:=by
 intro h;subst h;exact e rfl
theorem J5(b off b2 an n c d:Nat)(L M:List Int)(o:Bool)(w:World)(hn:n<=bP)(hz:L.length=n)(am:M.length=n)
  (hc:∀ i (h:i<L.length),w.cell? ⟨b,off+i,none⟩=some (E J L[i])) (ah:∀ i (h:i<M.length),w.cell? ⟨b2,an+i,none⟩=some (E J M[i])) (ho:decide (L=M)=o) :
  ZH 38 #[F (some ⟨b,off,none⟩) n c,F (some ⟨b2,an,none⟩) n d] w (dB o):=by
 have HC:=Zd hc;have aq:=Zd ah;have HZ:=Zd hz;have ae:=Zd am;have HO:=Zd ho;have g0:((n:Int) != (n:Int))=false:=by simp
 unfold bP at hn;clear hc ah hz am ho;go_enter func38,ntmps38;go_wp2
 go_loopw [13] (λi wr=>∃ j m:Nat,j<=n/\i = E J j/\wr=w.drewN m/\Hid (L.take j=M.take j)) (λi _=>n - (cE i).toNat)
 case atStart=>exact⟨0,0,aQ _,rfl,rfl,rfl⟩
 case round=>
  obtain⟨j,m,hk,rfl,rfl,A⟩:=hrel;by_cases aj:j<n
  ·have h1:j<L.length:=(by rw[Za HZ];exact aj);have h2:j<M.length:=(by rw[Za ae];exact aj);have f1:=HC j h1;have f2:=aq j h2;have z:=Zd (Qz h1 h2 A);have Q:=Zd (Rh h1 h2);obtain⟨s,hs⟩:=ZF (L[j]);obtain⟨t,ht⟩:=ZF (M[j]);rw[hs] at f1;rw[ht] at f2;rw[hs,ht] at z Q;clear hs ht A;by_cases e:s=t
   ·subst e;have R:=Zd (z rfl);have g:(s != s)=false:=(by simp);clear z Q;go_wp2
    go_quiet (fail)
    go_wp2;go_roundw
    case rel=>exact⟨j+1,m+nq,by omega,by go_num,rfl,R⟩
    case measure=>simp[cE];omega
   ·have R:Hid (o=false):=(by show _=_;rw[<-Za HO];exact decide_eq_false (Q e));have g:(s != t)=true:=(by simp[e]);clear z Q;go_wp2
    go_quiet (fail)
    go_wp2;go_ret;exact⟨by rw[Za R];rfl,by simp only[World.drewN_drewN];exact below_dn _ _⟩
  ·have R:Hid (o=true):=by
    have h:=Za A;rw[aL (by rw[Za HZ];omega),aL (by rw[Za ae];omega)] at h;show _=_;rw[<-Za HO];exact decide_eq_true h
   clear A;go_wp2;go_ret;exact⟨by rw[Za R];rfl,below_dn _ _⟩
theorem J4(a z:Option Addr)(c d:Nat)(w:World) :
  ZH 38 #[F a 0 c,F z 0 d] w (dB true):=by
 go_enter func38,ntmps38;go_wp2;refine wp_loop_rounds 1 ?_;rw[rounds_succ];go_wp2;go_ret;exact⟨rfl,Below.refl _ _⟩
theorem Tw(a z:Option Addr)(n m c d:Nat)(w:World)(h:n≠m) :
  ZH 38 #[F a n c,F z m d] w (dB false):=by
 have g:((n:Int) != (m:Int))=true:=by simp;omega
 go_enter func38,ntmps38;go_wp2;go_ret;exact⟨rfl,Below.refl _ _⟩
theorem eqInt_is(a z:Option Addr)(n m c d:Nat)(L M:List Int)(o:Bool)(w:World)(hn:n<=bP)(h:IntsAt w a n L)(h2:IntsAt w z m M)(ho:decide (L=M)=o) :
  ZH 38 #[F a n c,F z m d] w (dB o):=by
 by_cases e:n=m
 ·subst e;by_cases h0:n=0
  ·subst h0;have e1:L=[]:=aI.1 h.1;have Q:M=[]:=aI.1 h2.1;subst e1 Q;have:o=true:=(by rw[<-ho];rfl);subst this;exact J4 a z c d w
  ·obtain⟨b,off,rfl,_,hc⟩:=h.2 (by omega);obtain⟨b2,ag,rfl,_,ae⟩:=h2.2 (by omega);exact J5 b off b2 ag n c d L M o w hn h.1 h2.1 hc ae ho
 ·have:o=false:=by
   rw[<-ho];exact decide_eq_false (λQ=>e (by rw[<-h.1,<-h2.1,Q]))
  subst this;exact Tw a z n m c d w e
theorem best_is(a b:Option Addr)(n c m d:Nat)(N:List Int)(T:List Zl)(de x:Int)(w:World)(hN:IntsAt w a n N)(hT:BlksAt w b m T)(sN:SlOk a n c)(sT:SlOk b m d)(hx:bstD N T=(de,x)) :
  ZH 163 #[.agg #[F a n c,F b m d]] w (cZ #[E J de,E J x]):=by
 obtain⟨X,hX⟩:=ZG (w.alloc (cW #[F a n c,F b m d] 28));have ab:aD w.heap.size w X:=by rw[hX];exact Zh _ _
 have ag:X.heap[w.heap.size]? = some (cW [F a n c,F b m d].toArray 28 (0,0)):=by rw[hX];exact Yt _ _ _ _
 have HB:=Zd ab;have bg:=Zd ag;obtain⟨y,hy⟩:=ZF (chkTr N T);have C1:=Zd (Qf a b n c m d N T y X (hN.later ab) (hT.later ab) sN sT hy);have x0:=Zb ag 0 _ rfl;have x1:=Zb ag 1 _ rfl;have xl:=aA ag;unfold bstD at hx;rw[hy] at hx;by_cases q:y=0
 ·subst q;rw[if_neg (by simp)] at hx;obtain⟨hl,h24,hH,_⟩:=Vt hy;obtain rfl:n=m:=by rw[<-hN.1,<-hT.1,hl]
  have db:n<=24:=by rw[<-hN.1];exact h24
  have ax:n<=bP:=sN.len;obtain⟨hz,rfl⟩:Xi N T 0 0 N=de/\0=x:=⟨congrArg Prod.fst hx,congrArg Prod.snd hx⟩;have HN:=Zd (hN.later ab);have bi:=Zd hN.1;have HH:=Zd hH;have CP:=Zd (λs P pn W (hb:aD X.heap.size X W) (h1:Tj N T s=P) (h2:P.length=pn)=>Zac a b n c d N T s P pn W ax (hN.later (Zf ab hb)) (hT.later (Zf ab hb)) hH h1 h2);have CW:=Zd (λpa pc pn P v W (hb:aD X.heap.size X W) (av:IntsAt W pa pn P) (aq:pn<=1000) (hv:Jw N T 0 P=v)=>Ej a b pa n c d pn pc N T P v W ax (hN.later (Zf ab hb)) (hT.later (Zf ab hb)) av aq hH hv);have HZ:Hid (Xi N T 0 0 (N.drop 0)=de):=hz;clear ab ag hN hT sN sT hx hy hl h24 hH ax hz;go_enter func163,ntmps163;go_wp2_with fail;rw[<-hX];clear hX;refine C1.mono ?_;rintro e w1 ⟨rfl,ah⟩;have hc:=ZE ah bg;have t0:=Zb hc 0 _ rfl;have tl:=aA hc;have au:=Zd ah;clear ah x0 x1 xl hc C1;go_wp2
  go_loopw [5,6,18] (λbv mv i wr=>∃ (k:Nat) (z mm:Int),k<=n/\bv = E J z/\mv = E J mm/\i = E J k/\Hid (Xi N T z mm (N.drop k)=de)/\Hid (aD X.heap.size X wr)) (λ_ _ i _=>n - (cE i).toNat)
  case atStart=>exact⟨0,0,0,aQ _,rfl,rfl,rfl,HZ,au⟩
  case round=>
   obtain⟨k,z,mm,hk,rfl,rfl,rfl,A,ae⟩:=hrel;clear t0 tl HZ;by_cases cm:k<n
   ·have h1:k<N.length:=(by rw[Za bi];exact cm);obtain⟨b1,dc,rfl,bq,bk⟩:=HN.2 (by omega);have f1:=Ze ae (bk k h1);have AT:=Zd (Zff N T z mm N k h1);obtain⟨s,hs⟩:=ZF (N[k]);rw[hs] at f1 AT;have ll:=aE bq ae.size;have ap:=ZE ae bg;have t0:=Zb ap 0 _ rfl;have t1:=Zb ap 1 _ rfl;have tl:=aA ap;obtain⟨P,hP⟩:=ZF (Tj N T s);obtain⟨pn,ay⟩:=ZF (P.length);obtain⟨v,hv⟩:=ZF (Jw N T 0 P);have bu:Wg N T s=v:=(by unfold Wg;rw[hP,hv]);rw[bu] at AT;have aq:pn<=1000:=(by rw[<-ay,<-hP];exact Zgp HH s);have CC:=Zd (CP s P pn wr.drew (Zf ae (Zi _)) hP ay);have CV:=Zd (λpa pc W hb av=>CW pa pc pn P v W hb av aq hv);have da:(k:Int)<(n:Int):=(by omega);clear bk ap hs hP ay hv bu bq aq;go_wp2_with fail
    go_region_with (first
     | (go_at_call 131;refine CC.mono ?_;rintro e w5 ⟨vv,rfl,br,aj⟩;obtain⟨pa,pc,rfl,_,bs⟩:=Qp br;have e0:=Ze aj (Ze (Zi _) t0);have e1:=Ze aj (Ze (Zi _) t1);have el:=aE tl aj.size;have H5:=Zd (Zf ae (Zf (Zi _) aj));have C5:=Zd (CV pa pc _ H5 bs);clear br bs aj)
     | (go_at_call 102;refine C5.mono ?_;rintro e w6 ⟨rfl,bj⟩;have H6:=Zd (Zf H5 bj);clear bj C5 H5))
    all_goals
     by_cases q1:mm<v
     ·have R:Hid (Xi N T s v (N.drop (k+1))=de):=(by show _=_;rw[<-Za A,Za AT,if_pos (.inl q1)]);clear A AT;go_wp2;go_roundw
      case rel=>exact⟨k+1,s,v,by omega,rfl,rfl,by go_num,R,H6⟩
      case measure=>simp[cE];omega
     ·by_cases q2:v=mm
      ·subst q2;by_cases q3:s<z
       ·have R:Hid (Xi N T s v (N.drop (k+1))=de):=(by show _=_;rw[<-Za A,Za AT,if_pos (.inr ⟨rfl,q3⟩)]);clear A AT;go_wp2;go_roundw
        case rel=>exact⟨k+1,s,v,by omega,rfl,rfl,by go_num,R,H6⟩
        case measure=>simp[cE];omega
       ·have R:Hid (Xi N T z v (N.drop (k+1))=de):=by
         show _=_;rw[<-Za A,Za AT,if_neg (by omega)]
        clear A AT;go_wp2;go_roundw
        case rel=>exact⟨k+1,z,v,by omega,rfl,rfl,by go_num,R,H6⟩
        case measure=>simp[cE];omega
      ·have R:Hid (Xi N T z mm (N.drop (k+1))=de):=by
        show _=_;rw[<-Za A,Za AT,if_neg (by omega)]
       have g2:(v == mm)=false:=(by simp[q2]);clear A AT q2;go_wp2;go_roundw
       case rel=>exact⟨k+1,z,mm,by omega,rfl,rfl,by go_num,R,H6⟩
       case measure=>simp[cE];omega
   ·have R:Hid (z=de):=(by show _=_;rw[<-Za A,Zby N T z mm N k (by rw[Za bi];omega)]);have ce:=Zd (Zf HB ae);clear A;go_wp2;go_ret2;exact⟨by rw[<-Za R];rfl,Za ce⟩
 ·rw[if_pos q] at hx;obtain⟨rfl,rfl⟩:0=de/\y=x:=⟨congrArg Prod.fst hx,congrArg Prod.snd hx⟩;have g:(y != 0)=true:=by simp[q]
  clear ab ag hN hT sN sT hy hx q;go_enter func163,ntmps163;go_wp2_with fail;rw[<-hX];clear hX;refine C1.mono ?_;rintro e w1 ⟨rfl,ah⟩;have au:=Zd (Zf HB ah);clear ah x0 x1 xl;go_wp2;go_ret2;exact⟨rfl,Za au⟩
theorem fnd_out{N:List Int}{T:List Zl}{x:Int}(z:N.length=T.length)(h:x∉N):fnd x N T=Yq:=by
 rcases Rw x N T 0 z with ⟨_,_,h3⟩|⟨i,hi,_,h2,_⟩
 ·exact h3
 ·exact absurd h2 h
theorem Gd{N:List Int}{T:List Zl}{x:Int}{b:Zl}(h:nextD N T x b=0):(1<=x/\x<=120)/\Yn b=0/\x∉N/\(b.1=0\/b.1∈N)/\b.2.1=(fnd b.1 N T).2.1+1:=by
 unfold nextD at h;split at h
 ·cases h
 ·next q1=>
  split at h
  ·next q2=>exact absurd h q2
  ·next q2=>
   split at h
   ·cases h
   ·next q3=>
    split at h
    ·cases h
    ·next q4=>
     split at h
     ·cases h
     ·next q5=>
      refine⟨by simpa using q1,bY.1 q2,by simpa using q3,?_,bY.1 q5⟩;by_cases e:b.1=0
      ·exact .inl e
      ·right
       by_cases z:b.1∈N
       ·exact z
       ·exact absurd ⟨e,by simp[z]⟩ q4
theorem Zdu{N:List Int}{T:List Zl}{x:Int}{b:Zl}(h1:1<=x/\x<=120)(h2:Yn b=0)(h3:x∉N)(h4:b.1=0\/b.1∈N)(h5:b.2.1=(fnd b.1 N T).2.1+1):nextD N T x b=0:=by
 unfold nextD
 rw[if_neg (by simp[h1]),if_neg (by simp[h2]),if_neg (by simp[h3]),if_neg (by
  rintro ⟨e,z⟩
  rcases h4 with h|h
  ·exact e h
  ·simp[h] at z),if_neg (by simp[h5])]
theorem Zba{N M:List Int}{T U:List Zl}{y:Int}:N.length=T.length->y∈N->fnd y (N++M) (T++U)=fnd y N T:=by
 induction N generalizing T with
 | nil=>intro _ h;cases h
 | cons a N ih=>
  intro z h;cases T with
  | nil=>cases z
  | cons b T=>
   simp only[List.cons_append,fnd];by_cases e:y=a
   ·simp[e]
   ·rw[if_neg e,if_neg e];refine ih (by simpa using z) ?_
    rcases bC.1 h with h|h
    ·exact absurd h e
    ·exact h
theorem Tu{N M:List Int}{T U:List Zl}{y:Int}:N.length=T.length->y∉N->fnd y (N++M) (T++U)=fnd y M U:=by
 induction N generalizing T with
 | nil=>
  intro z _;cases T with
  | nil=>rfl
  | cons _ _=>cases z
 | cons a N ih=>
  intro z h;cases T with
  | nil=>cases z
  | cons b T=>
   simp only[List.cons_append,fnd];rw[if_neg (λe=>h (by simp[e]))];exact ih (by simpa using z) (λq=>h (by simp[q]))
theorem Zhn(x:Int)(b:Zl):fnd x [x] [b]=b:=by simp[fnd]
structure TrOk(N:List Int)(T:List Zl):Prop where
 len:N.length=T.length
 nd:N.Nodup
 nm:∀ x∈N,1<=x/\x<=120
 par:∀ x∈N,(fnd x N T).1=0\/(fnd x N T).1∈N
 hgt:∀ x∈N,(fnd x N T).2.1=(fnd (fnd x N T).1 N T).2.1+1
 chk:∀ b∈T,Yn b=0
theorem TrOk.nil:TrOk [] []:=⟨rfl,List.nodup_nil,λ_ h=>(by cases h),λ_ h=>(by cases h),λ_ h=>(by cases h),λ_ h=>(by cases h)⟩
theorem TrOk.zero{N:List Int}{T:List Zl}(h:TrOk N T):(0:Int)∉N:=λq=>by have:=(h.nm 0 q).1;omega
theorem TrOk.heads{N:List Int}{T:List Zl}(h:TrOk N T):Xg T:=λb z=>Ty (h.chk b z)
theorem TrOk.same{N:List Int}{T:List Zl}{x:Int}{b:Zl}(h:TrOk N T)(hx:1<=x){y:Int}(z:y=0\/y∈N):fnd y (N++[x]) (T++[b])=fnd y N T:=by
 by_cases e:y∈N
 ·exact Zba h.len e
 ·have Q:y=0:=by rcases z with q|q;exact q;exact absurd q e
  rw[Tu h.len e,fnd_out h.len e];unfold fnd;rw[if_neg (by omega)];unfold fnd;rfl
theorem TrOk.new{N:List Int}{T:List Zl}{x:Int}{b:Zl}(h:TrOk N T)(hx:x∉N):fnd x (N++[x]) (T++[b])=b:=by
 rw[Tu h.len hx,Zhn]
theorem TrOk.add{N:List Int}{T:List Zl}{x:Int}{b:Zl}(h:TrOk N T)(hn:nextD N T x b=0):TrOk (N++[x]) (T++[b]):=by
 obtain⟨h1,h2,h3,h4,h5⟩:=Gd hn;refine⟨by simp[h.len],?_,λy z=>?_,λy z=>?_,λy z=>?_,λc Q=>?_⟩
 ·rw[List.nodup_append];exact⟨h.nd,by simp,λa ha c Q=>by rw[List.mem_singleton.1 Q];exact λe=>h3 (e ▸ ha)⟩
 ·rcases cH.1 z with q|q
  ·exact h.nm y q
  ·rw[List.mem_singleton.1 q];exact h1
 ·rcases cH.1 z with q|q
  ·rw[h.same h1.1 (.inr q)]
   rcases h.par y q with e|e
   ·exact .inl e
   ·exact .inr (by simp[e])
  ·rw[List.mem_singleton.1 q,h.new h3]
   rcases h4 with e|e
   ·exact .inl e
   ·exact .inr (by simp[e])
 ·rcases cH.1 z with q|q
  ·rw[h.same h1.1 (.inr q),h.same h1.1 (h.par y q)];exact h.hgt y q
  ·rw[List.mem_singleton.1 q,h.new h3,h.same h1.1 h4];exact h5
 ·rcases cH.1 Q with q|q
  ·exact h.chk c q
  ·rw[List.mem_singleton.1 q];exact h2
theorem Ha:∀ (M:List Int) (U:List Zl) (N:List Int) (T:List Zl),M.length=U.length->TrOk N T->Y5 N T M U=0->TrOk (N++M) (T++U)
 | [],[],N,T,_,h,_=>by simpa using h
 | [],_ :: _,_,_,h,_,_=>by cases h
 | _ :: _,[],_,_,h,_,_=>by cases h
 | x :: M,b :: U,N,T,hl,h,hc=>by
  rw[Y5] at hc;split at hc
  ·next q=>exact absurd hc q
  ·next q=>
   have:=Ha M U _ _ (by simpa using hl) (h.add (bY.1 q)) hc;simpa using this
theorem TrOk.of{N:List Int}{T:List Zl}(h:chkTr N T=0):TrOk N T:=by
 obtain⟨h1,_,_,h4⟩:=Vt h;simpa using Ha N T [] [] h1 TrOk.nil h4
theorem Hb:∀ (M:List Int) (U:List Zl) (N:List Int) (T:List Zl) (x:Int) (b:Zl),M.length=U.length->Y5 N T M U=0->nextD (N++M) (T++U) x b=0->Y5 N T (M++[x]) (U++[b])=0
 | [],[],N,T,x,b,_,_,h=>by
  rw[List.append_nil,List.append_nil] at h;simp[Y5,h]
 | [],_ :: _,_,_,_,_,h,_,_=>by cases h
 | _ :: _,[],_,_,_,_,h,_,_=>by cases h
 | y :: M,c :: U,N,T,x,b,h,hc,hn=>by
  rw[Y5] at hc;split at hc
  ·next q=>exact absurd hc q
  ·next q=>
   rw[List.cons_append,List.cons_append,Y5,if_neg q];exact Hb M U _ _ x b (by simpa using h) hc (by simpa using hn)
theorem chkTr_snoc{N:List Int}{T:List Zl}{x:Int}{b:Zl}(h:chkTr N T=0)(z:nextD N T x b=0)(Q:N.length≠24):chkTr (N++[x]) (T++[b])=0:=by
 obtain⟨h1,h2,_,h4⟩:=Vt h;unfold chkTr;rw[if_neg (by simp[h1]),if_neg (by simp;omega)];exact Hb N T [] [] x b h1 h4 (by simpa using z)
theorem TrOk.up{N:List Int}{T:List Zl}(h:TrOk N T)(y:Int):(fnd y N T).1=0\/(fnd y N T).1∈N:=by
 by_cases e:y∈N
 ·exact h.par y e
 ·rw[fnd_out h.len e];exact .inl rfl
def Jh(N:List Int)(T:List Zl)(q:Int×Int)(P:List Int):Int×Int:=P.foldl (λq x=>if q.2<Wg N T x\/Wg N T x=q.2/\x<q.1 then (x,Wg N T x) else q) q
theorem Mw(N:List Int)(T:List Zl):∀ (P:List Int) (b m:Int),Xi N T b m P=(Jh N T (b,m) P).1
 | [],_,_=>rfl
 | x :: P,b,m=>by
  rw[Xi];unfold Jh;rw[List.foldl_cons];split
  ·rw[Mw N T P];rfl
  ·rw[Mw N T P];rfl
theorem Hg(N:List Int)(T:List Zl):∀ (P:List Int) (q:Int×Int),q.2=Wg N T q.1->(Jh N T q P).2=Wg N T (Jh N T q P).1
 | [],_,h=>h
 | x :: P,q,h=>by
  unfold Jh;rw[List.foldl_cons];split
  ·exact Hg N T P _ rfl
  ·exact Hg N T P _ h
theorem Hh(N:List Int)(T:List Zl):∀ (P:List Int) (q:Int×Int),(Jh N T q P).1=q.1\/(Jh N T q P).1∈P
 | [],_=>.inl rfl
 | x :: P,q=>by
  unfold Jh;rw[List.foldl_cons];split
  ·rcases Hh N T P (x,Wg N T x) with h|h
   ·exact .inr (by unfold Jh at h;rw[h];simp)
   ·exact .inr (by unfold Jh at h;simp[h])
  ·rcases Hh N T P q with h|h
   ·exact .inl h
   ·exact .inr (by unfold Jh at h;simp[h])
theorem TrOk.wrk_zero{N:List Int}{T:List Zl}(h:TrOk N T):Wg N T 0=0:=by
 unfold Wg Tj;rw[fnd_out h.len h.zero];rfl
theorem addE_ok{N:List Int}{T:List Zl}{x:Int}{b:Zl}{N':List Int}{T':List Zl}(h:addE N T x b=(N',T',0)):chkTr N T=0/\nextD N T x b=0/\N.length≠24/\N'=N++[x]/\T'=T++[b]:=by
 unfold addE at h;split at h
 ·next q=>exact absurd (congrArg (·.2.2) h) q
 ·next q=>
  split at h
  ·next q2=>exact absurd (congrArg (·.2.2) h) q2
  ·next q2=>
   split at h
   ·next q3=>have:=congrArg (·.2.2) h;simp at this
   ·next q3=>exact⟨bY.1 q,bY.1 q2,q3,(congrArg (·.1) h).symm,(congrArg (·.2.1) h).symm⟩
theorem L4:∀ (U N:List Int),U.Nodup->(∀ x∈U,x∈N)->U.length<=N.length
 | [],_,_,_=>aQ _
 | x :: U,N,h,hs=>by
  have hx:x∈N:=hs x (by simp);have z:=List.nodup_cons.1 h;have h1:=L4 U (N.erase x) z.2 (λy Q=>(List.mem_erase_of_ne (λ(e:y=x)=>z.1 (e ▸ Q))).2 (hs y (by simp[Q])));rw[List.length_erase_of_mem hx] at h1;have:0<N.length:=List.length_pos_of_mem hx;simp only[List.length_cons];omega
theorem Hc:∀ (M:List Int) (U:List Zl) (N:List Int) (T:List Zl),M.length=U.length->Y5 N T M U=0->∀ i (h:i<M.length) (h':i<U.length),nextD (N++M.take i) (T++U.take i) M[i] U[i]=0
 | [],_,_,_,_,_,_,h,_=>absurd h (by simp)
 | _ :: _,[],_,_,h,_,_,_,_=>by cases h
 | x :: M,b :: U,N,T,hl,hc,0,_,_=>by
  rw[Y5] at hc;split at hc
  ·next q=>exact absurd hc q
  ·next q=>simpa using bY.1 q
 | x :: M,b :: U,N,T,hl,hc,i+1,h,h'=>by
  rw[Y5] at hc;split at hc
  ·next q=>exact absurd hc q
  ·next q=>
   have:=Hc M U _ _ (by simpa using hl) hc i (by simpa using h) (by simpa using h');simpa using this
theorem ahead{N:List Int}{T:List Zl}(hc:chkTr N T=0)(i:Nat)(h:i<N.length)(h':i<T.length):fnd N[i] N T=T[i]/\(T[i].1=0\/T[i].1∈N.take i):=by
 obtain⟨hl,_,_,ab⟩:=Vt hc;have h1:=Hc N T [] [] hl ab i h h';simp only[List.nil_append] at h1;obtain⟨_,_,q3,q4,_⟩:=Gd h1;refine⟨?_,q4⟩;have z:N=N.take i++(N[i] :: N.drop (i+1)):=by rw[<-aN h,List.take_append_drop]
 have Q:T=T.take i++(T[i] :: T.drop (i+1)):=by rw[<-aN h',List.take_append_drop]
 have:=Tu (N:=N.take i) (M:=N[i] :: N.drop (i+1)) (T:=T.take i) (U:=T[i] :: T.drop (i+1)) (by rw[bL,bL];omega) q3;rw[<-z,<-Q] at this;rw[this];simp[fnd]
structure Sub(U:List Int)(V:List Zl)(N:List Int)(T:List Zl):Prop where
 chk:chkTr U V=0
 mem:∀ y∈U,y∈N
 same:∀ y∈U,fnd y U V=fnd y N T
theorem Sub.nil(N:List Int)(T:List Zl):Sub [] [] N T:=⟨rfl,λ_ h=>(by cases h),λ_ h=>(by cases h)⟩
theorem Sub.all{U:List Int}{V:List Zl}{N:List Int}{T:List Zl}(h:Sub U V N T)(z:chkTr N T=0){y:Int}(Q:y=0\/y∈U):fnd y U V=fnd y N T:=by
 by_cases e:y∈U
 ·exact h.same y e
 ·have aa:y=0:=by rcases Q with q|q;exact q;exact absurd q e
  subst aa;rw[fnd_out (TrOk.of h.chk).len e,fnd_out (TrOk.of z).len (TrOk.of z).zero]
theorem Sub.step{U:List Int}{V:List Zl}{N:List Int}{T:List Zl}(h:Sub U V N T)(hc:chkTr N T=0){k:Nat}(hk:k<N.length)(ae:k<T.length){z:List Int}{V':List Zl}(ha:addE U V N[k] T[k]=(z,V',0)):Sub z V' N T/\z=U++[N[k]]:=by
 obtain⟨h1,h2,h3,rfl,rfl⟩:=addE_ok ha;have ok:=TrOk.of h1;obtain⟨g1,_,g3,_,_⟩:=Gd h2;refine⟨⟨chkTr_snoc h1 h2 h3,λy Q=>?_,λy Q=>?_⟩,rfl⟩
 ·rcases cH.1 Q with q|q
  ·exact h.mem y q
  ·rw[List.mem_singleton.1 q];exact bB hk
 ·rcases cH.1 Q with q|q
  ·rw[ok.same g1.1 (.inr q)];exact h.same y q
  ·rw[List.mem_singleton.1 q,ok.new g3,(ahead hc k hk ae).1]
theorem Sub.must{U:List Int}{V:List Zl}{N:List Int}{T:List Zl}(h:Sub U V N T)(z:chkTr N T=0){i:Nat}(hi:i<N.length)(ac:i<T.length)(ha:∀ j (hj:j<N.length),j<i->N[j]∈U)(hn:N[i]∉U):∃ U' V',addE U V N[i] T[i]=(U',V',0):=by
 have okN:=TrOk.of z;have an:=TrOk.of h.chk;obtain⟨e1,e2⟩:=ahead z i hi ac;have Q:N[i]∈N:=bB hi
 have af:T[i].1=0\/T[i].1∈U:=by
  rcases e2 with q|q
  ·exact .inl q
  ·obtain⟨j,hj,ej⟩:=List.getElem_of_mem q;rw[bL] at hj;rw[List.getElem_take] at ej;rw[<-ej];exact .inr (ha j (by omega) (by omega))
 have hh:=okN.hgt _ Q;rw[e1,<-h.all z af] at hh;have am:nextD U V N[i] T[i]=0:=Zdu (okN.nm _ Q) (okN.chk _ (bB ac)) hn af hh
 have al:U.length≠24:=by
  have h1:=L4 (N[i] :: U) N (List.nodup_cons.2 ⟨hn,an.nd⟩) (λx hx=>by
   rcases bC.1 hx with rfl|hx
   ·exact Q
   ·exact h.mem x hx)
  have h2:=(Vt z).2.1;simp only[List.length_cons] at h1;omega
 refine⟨U++[N[i]],V++[T[i]],?_⟩;unfold addE;rw[if_neg (by simp[h.chk]),if_neg (by simp[am]),if_neg al]
theorem Sub.full{U:List Int}{V:List Zl}{N:List Int}{T:List Zl}(h:Sub U V N T)(hc:chkTr N T=0)(ha:∀ j (z:j<N.length),N[j]∈U):U.length=N.length/\∀ y∈N,y∈U:=by
 have Q:∀ y∈N,y∈U:=λy hy=>by
  obtain⟨j,z,rfl⟩:=List.getElem_of_mem hy;exact ha j z
 have h1:=L4 U N (TrOk.of h.chk).nd h.mem;have h2:=L4 N U (TrOk.of hc).nd Q;exact⟨by omega,Q⟩
theorem Sub.up{U:List Int}{V:List Zl}{N:List Int}{T:List Zl}(h:Sub U V N T)(z:chkTr N T=0):∀ (d:Nat) (y:Int),(y=0\/y∈U)->upD U V d y=upD N T d y
 | 0,_,_=>rfl
 | d+1,y,hy=>by
  rw[upD,upD,<-h.all z hy,h.up z d _ ((TrOk.of h.chk).up y)]
theorem Sub.wk{U:List Int}{V:List Zl}{N:List Int}{T:List Zl}(h:Sub U V N T)(Q:chkTr N T=0):∀ (P:List Int) (s:Int),(∀ z∈P,z=0\/z∈U)->Jw U V s P=Jw N T s P
 | [],_,_=>rfl
 | y :: P,s,hP=>by
  rw[Jw,Jw,h.all Q (hP y (by simp)),h.wk Q P _ (λz hz=>hP z (by simp[hz]))]
theorem Fx(N:List Int)(T:List Zl):∀ (P D:List Int) (q:Int×Int),(∀ y∈D,Wg N T y<q.2\/Wg N T y=q.2/\q.1<=y)->∀ y,y∈D\/y∈P->Wg N T y<(Jh N T q P).2\/Wg N T y=(Jh N T q P).2/\(Jh N T q P).1<=y
 | [],D,q,h,y,z=>by
  rcases z with z|z
  ·exact h y z
  ·cases z
 | x :: P,D,q,h,y,z=>by
  have aa:Jh N T q (x :: P)=Jh N T (if q.2<Wg N T x\/Wg N T x=q.2/\x<q.1 then (x,Wg N T x) else q) P:=rfl;rw[aa]
  refine Fx N T P (x :: D) _ (λac Q=>?_) y (by
   rcases z with z|z
   ·exact .inl (by simp[z])
   ·rcases bC.1 z with rfl|z
    ·exact .inl (by simp)
    ·exact .inr z)
  rcases bC.1 Q with rfl|Q
  ·split
   ·exact .inr ⟨rfl,Int.le_refl _⟩
   ·next q1=>omega
  ·have:=h ac Q;split
   ·next q1=>simp only;omega
   ·exact this
theorem best_max{N:List Int}{T:List Zl}(h:TrOk N T):(Xi N T 0 0 N=0\/Xi N T 0 0 N∈N)/\(∀ y∈N,Wg N T y<Wg N T (Xi N T 0 0 N)\/Wg N T y=Wg N T (Xi N T 0 0 N)/\Xi N T 0 0 N<=y):=by
 rw[Mw];have z:=Hg N T N (0,0) h.wrk_zero.symm;rw[<-z];exact⟨Hh N T N (0,0),λy Q=>Fx N T N [] (0,0) (λ_ q=>by cases q) y (.inr Q)⟩
