import Derived.Test.YtmomfkikogbdeaaGreatDoorH
import Derived.Test.YtmomfkikogbdeaaGreatDoorG28
import Derived.Test.YtmomfkikogbdeaaGreatDoorG29
open Go.Proofs.Tryz
open Go renaming lt_of_block->aA,wpAnyH_ready->aG
open Go.Act renaming put->aC
open Go.Ending renaming returned->cY
open Go.IntKind renaming i64->J
open Go.Obj renaming cells->cW
open Go.RowKit renaming Below->aD
open Go.Value renaming int->E,slice->F,pointer->dA
open List renaming drop_eq_getElem_cons->aN,getElem_mem->bB
open Nat renaming lt_of_lt_of_le->aE
set_option maxHeartbeats 6400000
set_option maxRecDepth 10000
namespace Go.Proofs.YtmomfkikogbdeaaGreatDoor
open Go.RowKit
def Y8(N:List Int)(T:List Zl)(tip:Int):Int:=(Tr.blockE N T tip).1.2.1
section
variable {Z : Nat -> Prop} {w : World} {d bm m : Nat} {ka na ba pa : Option Addr} {kn kc nn nc bn bc pn pc : Nat} {K : List ByteArray} {N : List Int} {T : List Zl} {P : List TxD} {tip : Int} {f : Int -> Value} {β : Int -> List Zj}
theorem Tx(h:DeskAt Z w d bm m ka kn kc K na nn nc N ba bn bc T pa pn pc P tip f β)(z:(Lit.int .i64 tip).wf=true) :
  ZH 108 #[.pointer (some ⟨d,0,none⟩)] w (f tip):=by
 have hl:=h.mp.drew_look tip z;have c4:=Zb h.box 4 _ rfl;have c5:=Zb h.box 5 _ rfl;have dl:=aA h.box;have HB:=Zd (Zi w);obtain⟨v,Q⟩:=ZF (f tip);rw[Q] at hl ⊢;clear h z Q;go_enter func108,ntmps108;go_wp2
 go_region
 go_wp2;go_ret;exact⟨rfl,Za HB⟩
theorem J6(h:DeskAt Z w d bm m ka kn kc K na nn nc N ba bn bc T pa pn pc P tip f β)(bt:Int)(hz:Y8 N T tip=bt) :
  ZH 165 #[dA (some ⟨d,0,none⟩)] w (E J bt):=by
 obtain⟨⟨⟨bp,bu,bw,bv,bT⟩,y⟩,hx⟩:=ZF (Tr.blockE N T tip);have bd:bt=bu:=by rw[<-hz];unfold Y8;rw[hx]
 subst bd;have CB:=Zd (λV (hv:aD w.heap.size w V)=>Tr.block_is na ba nn nc bn bc N T tip (bp,bt,bw,bv,bT) y V (h.later hv).now.n (h.later hv).now.b h.sn h.sb hx);have c1:=Zb h.box 1 _ rfl;have c2:=Zb h.box 2 _ rfl;have c4:=Zb h.box 4 _ rfl;have dl:=aA h.box;have KS:Hid (∀ U:World,aD w.heap.size w U->(U.cell? ⟨d,1,none⟩=some (F na nn nc)/\U.cell? ⟨d,2,none⟩=some (F ba bn bc)/\U.cell? ⟨d,4,none⟩=some (E J tip)/\d<U.heap.size)):=λU z=>⟨Ze z c1,Ze z c2,Ze z c4,aE dl z.size⟩;clear h hx hz c1 c2 c4 dl;go_enter func165,ntmps165;go_wp2_with fail
 go_cut [3,4] from 5 to 18 (λs3 s4 wx=>∃ u,s3 = dA (some ⟨u,0,none⟩)/\Hid (wx.cell? ⟨u,1,none⟩=some (E J bt)/\u<wx.heap.size)/\Hid (aD w.heap.size w wx))
 case first=>
  refine wp_region_held_drew (S:=λU=>(U.cell? ⟨d,1,none⟩=some (F na nn nc)/\U.cell? ⟨d,2,none⟩=some (F ba bn bc)/\U.cell? ⟨d,4,none⟩=some (E J tip)/\d<U.heap.size)) (by kernel_rfl) (KS _ (Zi _)) (λQ=>?_);refine tk 0 ⟨some 6,.move (.tmp 0),181, "desk.go:53",#[],none⟩ ?_ rfl ?_ Q ?_;rotate_left
  ·(intro U aa;obtain⟨s1,s2,s3,s4⟩:=aa;go_simp;first|done|with_reducible rfl)
  (try simp only[aC,ZA,ZB,ZC]);refine tk 1 ⟨some 7,.nilCheck (.tmp 6),0, "desk.go:53",#[⟨0,.data⟩],none⟩ ?_ rfl ?_ Q ?_;rotate_left
  ·(intro U aa;obtain⟨s1,s2,s3,s4⟩:=aa;go_simp;first|done|with_reducible rfl)
  (try simp only[aC,ZA,ZB,ZC]);refine tk 2 ⟨some 8,.fieldAddr 254 (.tmp 7) 1,0, "desk.go:53",#[⟨1,.data⟩],none⟩ ?_ rfl ?_ Q ?_;rotate_left
  ·(intro U aa;obtain⟨s1,s2,s3,s4⟩:=aa;go_simp;first|done|with_reducible rfl)
  (try simp only[aC,ZA,ZB,ZC]);refine tk 3 ⟨some 9,.fieldAddr 67 (.tmp 8) 0,0, "desk.go:53",#[⟨2,.data⟩],none⟩ ?_ rfl ?_ Q ?_;rotate_left
  ·(intro U aa;obtain⟨s1,s2,s3,s4⟩:=aa;go_simp;first|done|with_reducible rfl)
  (try simp only[aC,ZA,ZB,ZC]);refine tk 4 ⟨some 10,.load 28 (.tmp 9),28, "desk.go:53",#[⟨3,.data⟩],none⟩ ?_ rfl ?_ Q ?_;rotate_left
  ·(intro U aa;obtain⟨s1,s2,s3,s4⟩:=aa;go_simp;first|done|with_reducible rfl)
  (try simp only[aC,ZA,ZB,ZC]);refine tk 5 ⟨some 11,.move (.tmp 0),181, "desk.go:53",#[],none⟩ ?_ rfl ?_ Q ?_;rotate_left
  ·(intro U aa;obtain⟨s1,s2,s3,s4⟩:=aa;go_simp;first|done|with_reducible rfl)
  (try simp only[aC,ZA,ZB,ZC]);refine tk 6 ⟨some 12,.nilCheck (.tmp 11),0, "desk.go:53",#[⟨5,.data⟩],none⟩ ?_ rfl ?_ Q ?_;rotate_left
  ·(intro U aa;obtain⟨s1,s2,s3,s4⟩:=aa;go_simp;first|done|with_reducible rfl)
  (try simp only[aC,ZA,ZB,ZC]);refine tk 7 ⟨some 13,.fieldAddr 254 (.tmp 12) 1,0, "desk.go:53",#[⟨6,.data⟩],none⟩ ?_ rfl ?_ Q ?_;rotate_left
  ·(intro U aa;obtain⟨s1,s2,s3,s4⟩:=aa;go_simp;first|done|with_reducible rfl)
  (try simp only[aC,ZA,ZB,ZC]);refine tk 8 ⟨some 14,.fieldAddr 67 (.tmp 13) 2,0, "desk.go:53",#[⟨7,.data⟩],none⟩ ?_ rfl ?_ Q ?_;rotate_left
  ·(intro U aa;obtain⟨s1,s2,s3,s4⟩:=aa;go_simp;first|done|with_reducible rfl)
  (try simp only[aC,ZA,ZB,ZC]);refine tk 9 ⟨some 15,.load 3 (.tmp 14),3, "desk.go:53",#[⟨8,.data⟩],none⟩ ?_ rfl ?_ Q ?_;rotate_left
  ·(intro U aa;obtain⟨s1,s2,s3,s4⟩:=aa;go_simp;first|done|with_reducible rfl)
  (try simp only[aC,ZA,ZB,ZC]);refine aG (rs:=[10,14]) (by kernel_rfl) (by simp) ?_;refine AllReadyH.cons (o:=⟨some 16,.call { callee:=Callee.value (.func 20),args:=#[.tmp 10,.tmp 15],argTypes:=#[28,3] },40, "desk.go:53",#[⟨4,.data⟩,⟨9,.data⟩],none⟩) rfl (λKQ hK=>?_) (AllReadyH.cons (o:=⟨some 3,.alloc 39,0, "desk.go:53",#[],none⟩) rfl (λKQ hK=>?_) AllReadyH.nil)
  ·refine Zm (by kernel_rfl) 20 #[.agg #[F na nn nc,F ba bn bc],E J tip] (by kernel_rfl) (CB w.drew (Zi w)) ?_;rintro e w5 ⟨ta,tn,tc,rfl,-,-,an⟩;refine⟨_,rfl,?_⟩;have hb:aD w.heap.size w w5:=Zf (Zi w) an;refine hK.out _ _ (KS _ hb) (λab=>?_);clear hK KQ Q;have Q:=ab;clear ab;(try simp only[aC,ZA,ZB,ZC]);refine tk 11 ⟨some 5,.move (.tmp 16),40, "desk.go:53",#[⟨10,.data⟩],none⟩ ?_ rfl ?_ Q ?_;rotate_left
   ·(intro U aa;go_simp;first|done|with_reducible rfl)
   (try simp only[aC,ZA,ZB,ZC]);refine tk 12 ⟨some 17,.extract (.tmp 5) 0,39, "desk.go:53",#[⟨11,.data⟩],none⟩ ?_ rfl ?_ Q ?_;rotate_left
   ·(intro U aa;go_simp;first|done|with_reducible rfl)
   (try simp only[aC,ZA,ZB,ZC]);refine tk 13 ⟨some 18,.extract (.tmp 5) 1,30, "desk.go:53",#[⟨11,.data⟩,⟨15,.gcOnly .lateStores⟩],none⟩ ?_ rfl ?_ Q ?_;rotate_left
   ·(intro U aa;go_simp;first|done|with_reducible rfl)
   (try simp only[aC,ZA,ZB,ZC]);refine aG (rs:=[14]) (by kernel_rfl) (by simp) ?_;refine AllReadyH.cons (o:=⟨some 3,.alloc 39,0, "desk.go:53",#[],none⟩) rfl (λKQ hK=>?_) AllReadyH.nil;go_simp;obtain⟨w6,ah⟩:=ZG (w5.alloc (cW #[E J 0,E J 0,E J 0,E J 0,F none 0 0] 39));rw[<-ah];have ag:aD w.heap.size w w6:=(by rw[ah];exact Zf hb (Zh _ _));have z:w6.heap[w5.heap.size]? = some (cW [E J 0,E J 0,E J 0,E J 0,F none 0 0].toArray 39 (0,0)):=(by rw[ah];exact Zu _ _ _ _ _ _ _);clear ah;have br:=hb.size;have u50:=Zb z 0 _ rfl;have bh:=Zg z 0;have u51:=Zb z 1 _ rfl;have bi:=Zg z 1;have u52:=Zb z 2 _ rfl;have bj:=Zg z 2;have u53:=Zb z 3 _ rfl;have bk:=Zg z 3;have u54:=Zb z 4 _ rfl;have bo:=Zg z 4;have bq:=aA z;refine hK.out _ _ (KS _ ag) (λab=>?_);clear hK KQ Q;have Q:=ab;clear ab;(try simp only[aC,ZA,ZB,ZC]);refine aG (rs:=[15]) (by kernel_rfl) (by simp) ?_;refine AllReadyH.cons (o:=⟨none,.store 39 (.tmp 3) (.tmp 17),0, "desk.go:53",#[⟨14,.data⟩,⟨12,.data⟩,⟨10,.chain⟩,⟨0,.phase⟩,⟨1,.phase⟩,⟨2,.phase⟩,⟨3,.phase⟩,⟨4,.phase⟩,⟨5,.phase⟩,⟨6,.phase⟩,⟨7,.phase⟩,⟨8,.phase⟩,⟨9,.phase⟩,⟨10,.phase⟩,⟨11,.phase⟩,⟨12,.phase⟩,⟨13,.textOnly .lateStores⟩,⟨14,.phase⟩],none⟩) rfl (λKQ hK=>?_) AllReadyH.nil;go_simp
   refine hK.out _ _ (KS _ (Gr.below (S:=λq=>q=w5.heap.size) ((Gr.refl _ (λq=>q=w5.heap.size)).five w5.heap.size (.inl rfl) _ _ _ _ _) ag (ag).size (λq e=>by have e:q=w5.heap.size:=e;omega))) (λab=>?_);clear hK KQ Q;have Q:=ab;clear ab;(try simp only[aC]);refine tk 16 ⟨some 4,.assign (.tmp 18),30, "desk.go:53",#[⟨13,.data⟩,⟨15,.chain⟩,⟨0,.phase⟩,⟨1,.phase⟩,⟨2,.phase⟩,⟨3,.phase⟩,⟨4,.phase⟩,⟨5,.phase⟩,⟨6,.phase⟩,⟨7,.phase⟩,⟨8,.phase⟩,⟨9,.phase⟩,⟨10,.phase⟩,⟨11,.phase⟩,⟨12,.phase⟩,⟨13,.phase⟩,⟨14,.phase⟩,⟨15,.phase⟩],none⟩ ?_ rfl ?_ Q ?_;rotate_left
   ·(intro U aa;go_simp;first|done|with_reducible rfl)
   (try simp only[aC,ZA,ZB,ZC]);refine wpAnyH_done (by kernel_rfl) ?_ _;clear Q;go_wp2_with fail;go_meet
   case rel=>exact⟨w5.heap.size,rfl,⟨Zb (Tr.set_cells (Tr.set_cells (Tr.set_cells (Tr.set_cells (Tr.set_cells z 0 _) 1 _) 2 _) 3 _) 4 _) 1 _ rfl,aA (Tr.set_cells (Tr.set_cells (Tr.set_cells (Tr.set_cells (Tr.set_cells z 0 _) 1 _) 2 _) 3 _) 4 _)⟩,Gr.below (S:=λq=>q=w5.heap.size) ((Gr.refl _ (λq=>q=w5.heap.size)).five w5.heap.size (.inl rfl) _ _ _ _ _) ag (ag).size (λq e=>by have e:q=w5.heap.size:=e;omega)⟩
  ·go_simp;obtain⟨w6,ah⟩:=ZG ((w.alloc (cW #[E J 0,E J 0,E J 0,E J 0,F none 0 0] 39)).drew);rw[<-ah];have ag:aD w.heap.size w w6:=(by rw[ah];exact Zf (Zh _ _) (Zi _));have bb:w6.heap[w.heap.size]? = some (cW [E J 0,E J 0,E J 0,E J 0,F none 0 0].toArray 39 (0,0)):=(by rw[ah];exact Zu _ _ _ _ _ _ _);clear ah;refine hK.out _ _ (KS _ ag) (λab=>?_);clear hK KQ Q;have Q:=ab;clear ab;(try simp only[aC,ZA,ZB,ZC]);refine aG (rs:=[10]) (by kernel_rfl) (by simp) ?_;refine AllReadyH.cons (o:=⟨some 16,.call { callee:=Callee.value (.func 20),args:=#[.tmp 10,.tmp 15],argTypes:=#[28,3] },40, "desk.go:53",#[⟨4,.data⟩,⟨9,.data⟩],none⟩) rfl (λKQ hK=>?_) AllReadyH.nil;refine Zm (by kernel_rfl) 20 #[.agg #[F na nn nc,F ba bn bc],E J tip] (by kernel_rfl) (CB w6 ag) ?_;rintro e w5 ⟨ta,tn,tc,rfl,-,-,an⟩;refine⟨_,rfl,?_⟩;have hb:aD w.heap.size w w5:=Zf ag an;have z:=ZE an bb;have u50:=Zb z 0 _ rfl;have bh:=Zg z 0;have u51:=Zb z 1 _ rfl;have bi:=Zg z 1;have u52:=Zb z 2 _ rfl;have bj:=Zg z 2;have u53:=Zb z 3 _ rfl;have bk:=Zg z 3;have u54:=Zb z 4 _ rfl;have bo:=Zg z 4;have bq:=aA z;refine hK.out _ _ (KS _ hb) (λab=>?_);clear hK KQ Q;have Q:=ab;clear ab;(try simp only[aC,ZA,ZB,ZC]);refine tk 11 ⟨some 5,.move (.tmp 16),40, "desk.go:53",#[⟨10,.data⟩],none⟩ ?_ rfl ?_ Q ?_;rotate_left
   ·(intro U aa;go_simp;first|done|with_reducible rfl)
   (try simp only[aC,ZA,ZB,ZC]);refine tk 12 ⟨some 17,.extract (.tmp 5) 0,39, "desk.go:53",#[⟨11,.data⟩],none⟩ ?_ rfl ?_ Q ?_;rotate_left
   ·(intro U aa;go_simp;first|done|with_reducible rfl)
   (try simp only[aC,ZA,ZB,ZC]);refine tk 13 ⟨some 18,.extract (.tmp 5) 1,30, "desk.go:53",#[⟨11,.data⟩,⟨15,.gcOnly .lateStores⟩],none⟩ ?_ rfl ?_ Q ?_;rotate_left
   ·(intro U aa;go_simp;first|done|with_reducible rfl)
   (try simp only[aC,ZA,ZB,ZC]);refine aG (rs:=[15]) (by kernel_rfl) (by simp) ?_;refine AllReadyH.cons (o:=⟨none,.store 39 (.tmp 3) (.tmp 17),0, "desk.go:53",#[⟨14,.data⟩,⟨12,.data⟩,⟨10,.chain⟩,⟨0,.phase⟩,⟨1,.phase⟩,⟨2,.phase⟩,⟨3,.phase⟩,⟨4,.phase⟩,⟨5,.phase⟩,⟨6,.phase⟩,⟨7,.phase⟩,⟨8,.phase⟩,⟨9,.phase⟩,⟨10,.phase⟩,⟨11,.phase⟩,⟨12,.phase⟩,⟨13,.textOnly .lateStores⟩,⟨14,.phase⟩],none⟩) rfl (λKQ hK=>?_) AllReadyH.nil;go_simp;refine hK.out _ _ (KS _ (Gr.below (S:=λq=>q=w.heap.size) ((Gr.refl _ (λq=>q=w.heap.size)).five w.heap.size (.inl rfl) _ _ _ _ _) hb (hb).size (λq e=>by have e:q=w.heap.size:=e;omega))) (λab=>?_);clear hK KQ Q;have Q:=ab;clear ab;(try simp only[aC]);refine tk 16 ⟨some 4,.assign (.tmp 18),30, "desk.go:53",#[⟨13,.data⟩,⟨15,.chain⟩,⟨0,.phase⟩,⟨1,.phase⟩,⟨2,.phase⟩,⟨3,.phase⟩,⟨4,.phase⟩,⟨5,.phase⟩,⟨6,.phase⟩,⟨7,.phase⟩,⟨8,.phase⟩,⟨9,.phase⟩,⟨10,.phase⟩,⟨11,.phase⟩,⟨12,.phase⟩,⟨13,.phase⟩,⟨14,.phase⟩,⟨15,.phase⟩],none⟩ ?_ rfl ?_ Q ?_;rotate_left
   ·(intro U aa;go_simp;first|done|with_reducible rfl)
   (try simp only[aC,ZA,ZB,ZC]);refine wpAnyH_done (by kernel_rfl) ?_ _;clear Q;go_wp2_with fail;go_meet
   case rel=>exact⟨w.heap.size,rfl,⟨Zb (Tr.set_cells (Tr.set_cells (Tr.set_cells (Tr.set_cells (Tr.set_cells z 0 _) 1 _) 2 _) 3 _) 4 _) 1 _ rfl,aA (Tr.set_cells (Tr.set_cells (Tr.set_cells (Tr.set_cells (Tr.set_cells z 0 _) 1 _) 2 _) 3 _) 4 _)⟩,Gr.below (S:=λq=>q=w.heap.size) ((Gr.refl _ (λq=>q=w.heap.size)).five w.heap.size (.inl rfl) _ _ _ _ _) hb (hb).size (λq e=>by have e:q=w.heap.size:=e;omega)⟩
 case rest=>
  obtain⟨u,rfl,z,hb⟩:=hcut;obtain⟨u1,ul⟩:=Za z;clear z KS CB;go_wp2;go_ret;exact⟨rfl,Za hb⟩
theorem Sh(h:DeskAt Z w d bm m ka kn kc K na nn nc N ba bn bc T pa pn pc P tip f β)(s p hh k o:Int)(a:Option Addr)(n c:Nat)(L:List TxD)(x:Int)(C':List Zj)(U':List (List Zj))(hE:Env w)(hL:TxsAt w a n L)(hm:m<1000000)(hs:(Lit.int .i64 s).wf=true)(hp:(Lit.int .i64 p).wf=true)(hx:Um K (β p) (p,hh,k,o,L)=(x,C',U')) :
  Calls Tryz.prog 162 #[.pointer (some ⟨d,0,none⟩),.int .i64 s,.agg #[.int .i64 p,.int .i64 hh,.int .i64 k,.int .i64 o,F a n c]] w λe w'=>e = cY (.int .i64 x)/\∃ f',DeskAt Z w' d bm (m+1) ka kn kc K na nn nc N ba bn bc T pa pn pc P tip f' (Sp β s C')/\Gr w w' (λq=>q=bm):=by
 obtain⟨X,hX⟩:=ZG (w.alloc (cW #[.int .i64 p,.int .i64 hh,.int .i64 k,.int .i64 o,F a n c] 39));have aq:aD w.heap.size w X:=by rw[hX];exact Zh _ _
 have ap:X.heap[w.heap.size]? = some (cW [.int .i64 p,.int .i64 hh,.int .i64 k,.int .i64 o,F a n c].toArray 39 (0,0)):=by rw[hX];exact Zu _ _ _ _ _ _ _
 obtain⟨df,dh,dg,bi,_,sC⟩:=h.c p;have an:=h.later (Zf aq (Zi X));have CC:=Zd (show Calls Tryz.prog 21 #[.agg #[F ka kn kc],F df dh dg,.agg #[.int .i64 p,.int .i64 hh,.int .i64 k,.int .i64 o,F a n c]] X.drew λe w'=>Zkk X.drew w' x C' U' e from Bw ka kn kc K df dh dg (β p) p hh k o a n c L x C' U' X.drew (hE.later (Zf aq (Zi X))) an.now.k (by obtain⟨a2,n2,c2,q1,q2,_⟩:=an.c p;rw[bi] at q1;injection q1 with e1 e2 e3;subst e1 e2 e3;exact q2) sC (hL.later (Zf aq (Zi X))) hx);have hl:=an.mp.look p hp;rw[bi] at hl;have bq:=Zd (λW (hw:aD X.drew.heap.size X.drew W) v=>(h.later (Zf (Zf aq (Zi X)) hw)).mp.put hm s hs v);have HH:=Zd h;have cn:=Zd aq;have da:=h.ne;have d0:=Zb an.box 0 _ rfl;have d5:=Zb an.box 5 _ rfl;have dl:=aA an.box;have cy:=an.mp.lt;have e0:=Zb ap 0 _ rfl;have e1:=Zb ap 1 _ rfl;have e2:=Zb ap 2 _ rfl;have e3:=Zb ap 3 _ rfl;have e4:=Zb ap 4 _ rfl;have el:=aA ap;have cz:bm<w.heap.size:=h.mp.lt
 have KS:Hid (∀ U:World,Gr X.drew U (λq=>q=bm)->((U.cell? ⟨d,0,none⟩=some (F ka kn kc)/\U.cell? ⟨d,5,none⟩=some (.map (some bm))/\d<U.heap.size)/\U.cell? ⟨w.heap.size,0,none⟩=some (.int .i64 p)/\U.cell? ⟨w.heap.size,1,none⟩=some (.int .i64 hh)/\U.cell? ⟨w.heap.size,2,none⟩=some (.int .i64 k)/\U.cell? ⟨w.heap.size,3,none⟩=some (.int .i64 o)/\U.cell? ⟨w.heap.size,4,none⟩=some (F a n c)/\w.heap.size<U.heap.size)):=λU hu=>⟨⟨hu.cell d0 (by simp;omega),hu.cell d5 (by simp;omega),aE dl hu.size⟩,hu.cell e0 (by simp;omega),hu.cell e1 (by simp;omega),hu.cell e2 (by simp;omega),hu.cell e3 (by simp;omega),hu.cell e4 (by simp;omega),aE el hu.size⟩;clear hE hL hx hs hp hm h aq ap an sC bi d0 d5 dl e0 e1 e2 e3 e4 el;go_enter func162,ntmps162
 go_upto_region 1 with fail
 rw[<-hX];clear hX;refine wp_region_held_drew (S:=λU=>(U.cell? ⟨d,0,none⟩=some (F ka kn kc)/\U.cell? ⟨d,5,none⟩=some (.map (some bm))/\d<U.heap.size)/\U.cell? ⟨w.heap.size,0,none⟩=some (.int .i64 p)/\U.cell? ⟨w.heap.size,1,none⟩=some (.int .i64 hh)/\U.cell? ⟨w.heap.size,2,none⟩=some (.int .i64 k)/\U.cell? ⟨w.heap.size,3,none⟩=some (.int .i64 o)/\U.cell? ⟨w.heap.size,4,none⟩=some (F a n c)/\w.heap.size<U.heap.size) (by kernel_rfl) (KS _ (Gr.refl _ _)) (λQ=>?_);refine tk 0 ⟨some 8,.move (.tmp 0),181, "desk.go:44",#[],none⟩ ?_ rfl ?_ Q ?_;rotate_left
 ·(intro U z;obtain⟨⟨s1,s2,s3⟩,s4,s5,s6,s7,s8,s9⟩:=z;go_simp;first|done|with_reducible rfl)
 (try simp only[aC,ZA,ZB,ZC]);refine tk 1 ⟨some 9,.nilCheck (.tmp 8),0, "desk.go:44",#[⟨0,.data⟩],none⟩ ?_ rfl ?_ Q ?_;rotate_left
 ·(intro U z;obtain⟨⟨s1,s2,s3⟩,s4,s5,s6,s7,s8,s9⟩:=z;go_simp;first|done|with_reducible rfl)
 (try simp only[aC,ZA,ZB,ZC]);refine tk 2 ⟨some 10,.fieldAddr 254 (.tmp 9) 2,0, "desk.go:44",#[⟨1,.data⟩],none⟩ ?_ rfl ?_ Q ?_;rotate_left
 ·(intro U z;obtain⟨⟨s1,s2,s3⟩,s4,s5,s6,s7,s8,s9⟩:=z;go_simp;first|done|with_reducible rfl)
 (try simp only[aC,ZA,ZB,ZC]);refine tk 3 ⟨some 11,.load 252 (.tmp 10),252, "desk.go:44",#[⟨2,.data⟩],none⟩ ?_ rfl ?_ Q ?_;rotate_left
 ·(intro U z;obtain⟨⟨s1,s2,s3⟩,s4,s5,s6,s7,s8,s9⟩:=z;go_simp;first|done|with_reducible rfl)
 (try simp only[aC,ZA,ZB,ZC]);refine tk 4 ⟨some 12,.move (.tmp 1),3, "desk.go:44",#[],none⟩ ?_ rfl ?_ Q ?_;rotate_left
 ·(intro U z;obtain⟨⟨s1,s2,s3⟩,s4,s5,s6,s7,s8,s9⟩:=z;go_simp;first|done|with_reducible rfl)
 (try simp only[aC,ZA,ZB,ZC]);refine tk 5 ⟨some 13,.move (.tmp 0),181, "desk.go:44",#[],none⟩ ?_ rfl ?_ Q ?_;rotate_left
 ·(intro U z;obtain⟨⟨s1,s2,s3⟩,s4,s5,s6,s7,s8,s9⟩:=z;go_simp;first|done|with_reducible rfl)
 (try simp only[aC,ZA,ZB,ZC]);refine tk 6 ⟨some 14,.nilCheck (.tmp 13),0, "desk.go:44",#[⟨5,.data⟩],none⟩ ?_ rfl ?_ Q ?_;rotate_left
 ·(intro U z;obtain⟨⟨s1,s2,s3⟩,s4,s5,s6,s7,s8,s9⟩:=z;go_simp;first|done|with_reducible rfl)
 (try simp only[aC,ZA,ZB,ZC]);refine tk 7 ⟨some 15,.fieldAddr 254 (.tmp 14) 0,0, "desk.go:44",#[⟨6,.data⟩],none⟩ ?_ rfl ?_ Q ?_;rotate_left
 ·(intro U z;obtain⟨⟨s1,s2,s3⟩,s4,s5,s6,s7,s8,s9⟩:=z;go_simp;first|done|with_reducible rfl)
 (try simp only[aC,ZA,ZB,ZC]);refine tk 8 ⟨some 16,.load 24 (.tmp 15),24, "desk.go:44",#[⟨7,.data⟩],none⟩ ?_ rfl ?_ Q ?_;rotate_left
 ·(intro U z;obtain⟨⟨s1,s2,s3⟩,s4,s5,s6,s7,s8,s9⟩:=z;go_simp;first|done|with_reducible rfl)
 (try simp only[aC,ZA,ZB,ZC]);refine tk 9 ⟨some 17,.move (.tmp 0),181, "desk.go:44",#[],none⟩ ?_ rfl ?_ Q ?_;rotate_left
 ·(intro U z;obtain⟨⟨s1,s2,s3⟩,s4,s5,s6,s7,s8,s9⟩:=z;go_simp;first|done|with_reducible rfl)
 (try simp only[aC,ZA,ZB,ZC]);refine tk 10 ⟨some 18,.nilCheck (.tmp 17),0, "desk.go:44",#[⟨9,.data⟩],none⟩ ?_ rfl ?_ Q ?_;rotate_left
 ·(intro U z;obtain⟨⟨s1,s2,s3⟩,s4,s5,s6,s7,s8,s9⟩:=z;go_simp;first|done|with_reducible rfl)
 (try simp only[aC,ZA,ZB,ZC]);refine tk 11 ⟨some 19,.fieldAddr 254 (.tmp 18) 2,0, "desk.go:44",#[⟨10,.data⟩],none⟩ ?_ rfl ?_ Q ?_;rotate_left
 ·(intro U z;obtain⟨⟨s1,s2,s3⟩,s4,s5,s6,s7,s8,s9⟩:=z;go_simp;first|done|with_reducible rfl)
 (try simp only[aC,ZA,ZB,ZC]);refine tk 12 ⟨some 20,.load 252 (.tmp 19),252, "desk.go:44",#[⟨11,.data⟩],none⟩ ?_ rfl ?_ Q ?_;rotate_left
 ·(intro U z;obtain⟨⟨s1,s2,s3⟩,s4,s5,s6,s7,s8,s9⟩:=z;go_simp;first|done|with_reducible rfl)
 (try simp only[aC,ZA,ZB,ZC]);refine tk 13 ⟨some 21,.fieldAddr 39 (.tmp 5) 0,0, "desk.go:44",#[],none⟩ ?_ rfl ?_ Q ?_;rotate_left
 ·(intro U z;obtain⟨⟨s1,s2,s3⟩,s4,s5,s6,s7,s8,s9⟩:=z;go_simp;first|done|with_reducible rfl)
 (try simp only[aC,ZA,ZB,ZC]);refine tk 14 ⟨some 22,.load 3 (.tmp 21),3, "desk.go:44",#[⟨13,.data⟩],none⟩ ?_ rfl ?_ Q ?_;rotate_left
 ·(intro U z;obtain⟨⟨s1,s2,s3⟩,s4,s5,s6,s7,s8,s9⟩:=z;go_simp;first|done|with_reducible rfl)
 (try simp only[aC,ZA,ZB,ZC]);refine tk 16 ⟨some 24,.load 39 (.tmp 5),39, "desk.go:44",#[],none⟩ ?_ rfl ?_ Q ?_;rotate_left
 ·(intro U z;obtain⟨⟨s1,s2,s3⟩,s4,s5,s6,s7,s8,s9⟩:=z;go_simp;first|done|with_reducible rfl)
 (try simp only[aC,ZA,ZB,ZC]);refine aG (rs:=[15]) (by kernel_rfl) (by simp) ?_;refine AllReadyH.cons (o:=⟨some 23,.lookup 252 (.tmp 20) (.tmp 22) false,29, "desk.go:44",#[⟨12,.data⟩,⟨14,.data⟩],none⟩) rfl (λKQ hK=>?_) AllReadyH.nil;go_simp;refine hK.out _ _ (KS _ (Gr.refl _ _)) (λam=>?_);clear hK KQ Q;have Q:=am;clear am;(try simp only[aC,ZA,ZB,ZC]);refine aG (rs:=[17]) (by kernel_rfl) (by simp) ?_;refine AllReadyH.cons (o:=⟨some 25,.call { callee:=Callee.value (.func 21),args:=#[.tmp 16,.tmp 23,.tmp 24],argTypes:=#[24,29,39] },43, "desk.go:44",#[⟨8,.data⟩,⟨15,.data⟩,⟨16,.data⟩],none⟩) rfl (λKQ hK=>?_) AllReadyH.nil;refine Zm (by kernel_rfl) 21 #[.agg #[F ka kn kc],F df dh dg,.agg #[.int .i64 p,.int .i64 hh,.int .i64 k,.int .i64 o,F a n c]] (by kernel_rfl) CC ?_;rintro e w5 ⟨ra,rn,rc,ua,un,uc,rfl,ca,cl,-,-,aw,-⟩;refine⟨_,rfl,?_⟩;refine hK.out _ _ (KS _ (Gr.of aw)) (λam=>?_);clear hK KQ Q;have Q:=am;clear am;(try simp only[aC,ZA,ZB,ZC]);refine tk 18 ⟨some 7,.move (.tmp 25),43, "desk.go:44",#[⟨17,.data⟩],none⟩ ?_ rfl ?_ Q ?_;rotate_left
 ·(intro U z;go_simp;first|done|with_reducible rfl)
 (try simp only[aC,ZA,ZB,ZC]);refine tk 19 ⟨some 26,.extract (.tmp 7) 0,29, "desk.go:44",#[⟨18,.data⟩],none⟩ ?_ rfl ?_ Q ?_;rotate_left
 ·(intro U z;go_simp;first|done|with_reducible rfl)
 (try simp only[aC,ZA,ZB,ZC]);refine tk 20 ⟨some 27,.extract (.tmp 7) 1,42, "desk.go:44",#[⟨18,.data⟩,⟨22,.gcOnly .lateStores⟩],none⟩ ?_ rfl ?_ Q ?_;rotate_left
 ·(intro U z;go_simp;first|done|with_reducible rfl)
 (try simp only[aC,ZA,ZB,ZC]);refine tk 21 ⟨some 28,.extract (.tmp 7) 2,30, "desk.go:44",#[⟨18,.data⟩,⟨22,.gcOnly .lateStores⟩],none⟩ ?_ rfl ?_ Q ?_;rotate_left
 ·(intro U z;go_simp;first|done|with_reducible rfl)
 (try simp only[aC,ZA,ZB,ZC]);obtain⟨w6,cp,bz,bd⟩:=bq w5 aw (F ra rn rc);have cc:Gr X.drew w6 (λq=>q=bm):=(Gr.of aw).grown bd (λq e=>.inl (by injection e with e;exact e.symm));refine aG (rs:=[22]) (by kernel_rfl) (by simp) ?_;refine AllReadyH.cons (o:=⟨none,.mapUpdate 252 (.tmp 11) (.tmp 12) (.tmp 26),0, "desk.go:44",#[⟨3,.data⟩,⟨4,.data⟩,⟨19,.data⟩,⟨17,.chain⟩,⟨0,.phase⟩,⟨1,.phase⟩,⟨2,.phase⟩,⟨3,.phase⟩,⟨4,.phase⟩,⟨5,.phase⟩,⟨6,.phase⟩,⟨7,.phase⟩,⟨8,.phase⟩,⟨9,.phase⟩,⟨10,.phase⟩,⟨11,.phase⟩,⟨12,.phase⟩,⟨13,.phase⟩,⟨14,.phase⟩,⟨15,.phase⟩,⟨16,.phase⟩,⟨17,.phase⟩,⟨18,.phase⟩,⟨19,.phase⟩,⟨20,.textOnly .lateStores⟩,⟨21,.textOnly .lateStores⟩],none⟩) rfl (λKQ hK=>?_) AllReadyH.nil;go_simp;refine hK.out _ _ (KS _ cc) (λam=>?_);clear hK KQ Q;have Q:=am;clear am;(try simp only[aC]);refine tk 23 ⟨some 6,.assign (.tmp 28),30, "desk.go:44",#[⟨21,.data⟩,⟨22,.chain⟩,⟨0,.phase⟩,⟨1,.phase⟩,⟨2,.phase⟩,⟨3,.phase⟩,⟨4,.phase⟩,⟨5,.phase⟩,⟨6,.phase⟩,⟨7,.phase⟩,⟨8,.phase⟩,⟨9,.phase⟩,⟨10,.phase⟩,⟨11,.phase⟩,⟨12,.phase⟩,⟨13,.phase⟩,⟨14,.phase⟩,⟨15,.phase⟩,⟨16,.phase⟩,⟨17,.phase⟩,⟨18,.phase⟩,⟨19,.phase⟩,⟨20,.phase⟩,⟨21,.phase⟩,⟨22,.phase⟩],none⟩ ?_ rfl ?_ Q ?_;rotate_left
 ·(intro U z;go_simp;first|done|with_reducible rfl)
 (try simp only[aC,ZA,ZB,ZC]);refine wpAnyH_done (by kernel_rfl) ?_ _;clear Q;have bj:=Zf (Zf cn (Zi X)) aw;have cm:Hid (∃ f',DeskAt Z w6 d bm (m+1) ka kn kc K na nn nc N ba bn bc T pa pn pc P tip f' (Sp β s C')/\Gr w w6 (λq=>q=bm)):=⟨_,HH.put bj ca cl bz bd,(Gr.of bj).grown bd (λq e=>.inl (by injection e with e;exact e.symm))⟩;clear ca cl aw cp bz bd cc bj bq HH CC KS hl;go_wp2;go_ret;obtain⟨f',h1,h2⟩:=Za cm;exact⟨rfl,f',h1,h2⟩
end
def Ye(K:List ByteArray):List Int->List Zl->(Int->List Zj)->Int×(Int->List Zj)
 | s :: N,b :: T,β=>if kbD K s b=false then (5,β) else if (Um K (β b.1) b).1≠0 then ((Um K (β b.1) b).1,β) else Ye K N T (Sp β s (Um K (β b.1) b).2.1)
 | [],_,β=>(0,β)
 | _ :: _,[],β=>(0,β)
theorem cb_at{K:List ByteArray}{N:List Int}{T:List Zl}{β : Int->List Zj}{k:Nat}(h1:k<N.length)(h2:k<T.length):Ye K (N.drop k) (T.drop k) β = if kbD K N[k] T[k]=false then (5,β) else if (Um K (β T[k].1) T[k]).1≠0 then ((Um K (β T[k].1) T[k]).1,β) else Ye K (N.drop (k+1)) (T.drop (k+1)) (Sp β N[k] (Um K (β T[k].1) T[k]).2.1):=by
 rw[aN h1,aN h2,Ye]
theorem Zkb{K:List ByteArray}{N:List Int}{T:List Zl}{β : Int->List Zj}{k:Nat}(h1:N.length<=k):Ye K (N.drop k) (T.drop k) β = (0,β):=by
 rw[List.drop_of_length_le h1];rfl
def poE(K:List ByteArray)(N:List Int)(T:List Zl)(P:List TxD)(tip:Int)(β : Int->List Zj):Int:=
 if P.length=0 then 0 else if P.all (knT K)=false then 5 else if swE K (β tip) P (Y8 N T tip+1)≠0 then swE K (β tip) P (Y8 N T tip+1) else
 if (Z0 (Y8 N T tip+1) P (K,β tip)).1.length<P.length then 7 else 0
def noB:Int->List Zj:=λ_=>[]
def opE(K:List ByteArray)(N:List Int)(T:List Zl)(P:List TxD)(tip:Int):Int:=
 if Bk.bkChk K≠0 then Bk.bkChk K else if (Tr.bstD N T).2≠0 then (Tr.bstD N T).2 else if (Tr.bstD N T).1≠tip then 4 else
 if (Ye K N T noB).1≠0 then (Ye K N T noB).1 else poE K N T P tip (Ye K N T noB).2
section
variable {Z : Nat -> Prop} {w : World} {d bm : Nat} {ka na ba pa : Option Addr} {kn kc nn nc bn bc pn pc : Nat} {K : List ByteArray} {N : List Int} {T : List Zl} {P : List TxD} {tip : Int}
structure CbS(Z:Nat->Prop)(w wr:World)(d bm:Nat)(ka:Option Addr)(kn kc:Nat)(K:List ByteArray)(na:Option Addr)(nn nc:Nat)(N:List Int)(ba:Option Addr)(bn bc:Nat)(T:List Zl)(pa:Option Addr)(pn pc:Nat)(P:List TxD)(tip:Int)(β : Int->List Zj)(k:Nat):Prop where
 gr:Gr w wr (λq=>q=bm)
 all:∃ f γ,DeskAt Z wr d bm k ka kn kc K na nn nc N ba bn bc T pa pn pc P tip f γ/\Ye K N T β = Ye K (N.drop k) (T.drop k) γ
theorem Bu{f:Int->Value}{β : Int->List Zj}(h:DeskAt Z w d bm 0 ka kn kc K na nn nc N ba bn bc T pa pn pc P tip f β)(ah:World)(cp:aD ah.heap.size ah w)(ea:ah.heap.size<=bm)(hE:Env ah)(hl:N.length=T.length)(h24:N.length<=24)(hN:∀ x∈N,(Lit.int .i64 x).wf=true)(hT:∀ b∈T,(Lit.int .i64 b.1).wf=true)(x:Int)(γ : Int->List Zj)(hx:Ye K N T β = (x,γ)) :
  Calls Tryz.prog 172 #[.pointer (some ⟨d,0,none⟩)] w λe w'=>e = cY (.int .i64 x)/\Gr w w' (λq=>q=bm)/\(x=0->∃ f',DeskAt Z w' d bm N.length ka kn kc K na nn nc N ba bn bc T pa pn pc P tip f' γ):=by
 have cm:N.length=nn:=h.now.n.1;have cf:T.length=bn:=h.now.b.1;have ST:Hid (CbS Z w w d bm ka kn kc K na nn nc N ba bn bc T pa pn pc P tip β 0):=⟨Gr.refl _ _,f,β,h,rfl⟩;have HX:=Zd hx;have HE:=Zd hE;have cc:=Zd cp;have be:=Zd cm;have bx:=Zd cf;have HL:=Zd hl;have HN:=Zd hN;have cy:=Zd hT;have d1:=Zb h.box 1 _ rfl;have eh:=aA h.box;have ed:=h.ne;have ee:nn<=24:=by omega
 clear h hx hE cp cm cf hN hT;go_enter func172,ntmps172;go_wp2
 go_loopw [14] (λi wr=>∃ k:Nat,k<=nn/\i = .int .i64 k/\Hid (CbS Z w wr d bm ka kn kc K na nn nc N ba bn bc T pa pn pc P tip β k)) (λi _=>nn - (intOf i).toNat)
 case atStart=>exact⟨0,Nat.zero_le _,rfl,ST⟩
 case round=>
  obtain⟨k,hk,rfl,HS⟩:=hrel;by_cases dl:k<nn
  ·obtain⟨hg,g,δ,Q,z⟩:=Za HS;have aq:k<N.length:=(by rw[Za be];exact dl);have ar:k<T.length:=(by rw[<-Za HL];exact aq);have ec:k<bn:=(by rw[<-Za bx];exact ar);have bj:aD ah.heap.size ah wr:=hg.below cc cc.size (λq e=>by have e:q=bm:=e;omega);obtain⟨nb,no,rfl,_,cl⟩:=Q.now.n.2 (by omega);obtain⟨bb,eg,rfl,dz,cg⟩:=Q.now.b.2 (by rw[<-Za bx];omega);have n0:=cl k aq;obtain⟨b0,b1,b2,b3,ta,tn,tc,b4,aj,cq⟩:=cg k ar;have bq:=HN _ (bB aq);have au:=cy _ (bB ar);rw[cb_at aq ar] at z;obtain⟨s,hs⟩:=ZF (N[k]);obtain⟨⟨bp,bh,bw,af,bT⟩,hb⟩:=ZF (T[k]);rw[hs] at n0 bq z;rw[hb] at b0 b1 b2 b3 aj au z;simp only at b0 b1 b2 b3 aj au z;obtain⟨y,hy⟩:=ZF (kbD K s (bp,bh,bw,af,bT));obtain⟨⟨ef,C',U'⟩,hz⟩:=ZF (Um K (δ bp) (bp,bh,bw,af,bT));rw[hy,hz] at z;simp only at z;have nl:=World.block_lt_of_cell? _ _ n0;have dg:=Zb Q.box 2 _ rfl;have dw:=aA Q.box;obtain⟨Y,hY⟩:=ZG (wr.alloc (cW #[.int .i64 bp,.int .i64 bh,.int .i64 bw,.int .i64 af,F ta tn tc] 39));have ak:aD wr.heap.size wr Y:=(by rw[hY];exact Zh _ _);have ab:Y.heap[wr.heap.size]? = some (cW [.int .i64 bp,.int .i64 bh,.int .i64 bw,.int .i64 af,F ta tn tc].toArray 39 (0,0)):=(by rw[hY];exact Zu _ _ _ _ _ _ _);have CK:=Zd (Zar d K s bp bh bw af ta tn tc bT y Y (HE.later (Zf bj ak)) (Q.later ak).book (aj.later ak) cq hy);have CC:=Zd (λV (hv:aD wr.heap.size wr V)=>Sh (Q.later hv) s bp bh bw af ta tn tc bT ef C' U' (HE.later (Zf bj hv)) (aj.later hv) (by omega) bq au hz)
   have y0:=Zb ab 0 _ rfl;have y1:=Zb ab 1 _ rfl;have y2:=Zb ab 2 _ rfl;have y3:=Zb ab 3 _ rfl;have y4:=Zb ab 4 _ rfl;have yl:=aA ab;have HG:=Zd hg;have ct:=Zd ak;have cz:=Zd ab;have HC:=Zd z;clear hg Q z bj cl cg aj cq bq au hs hb hy hz ak ab HS;go_wp2_with fail;rw[<-hY];clear hY;(try go_wp2_with fail);refine CK.mono ?_;rintro e w2 ⟨rfl,bi⟩;have bo:=Zf ct bi;have D2:=Zd (CC w2 bo);have ac:=ZE bi cz;have y0:=Zb ac 0 _ rfl;have y1:=Zb ac 1 _ rfl;have y2:=Zb ac 2 _ rfl;have y3:=Zb ac 3 _ rfl;have y4:=Zb ac 4 _ rfl;have yl:=aA ac;have cb:=Zd (HG.on bo);clear bi bo CK CC ac n0 b0 b1 b2 b3 b4 dg;cases y
   ·have aa:Hid (x=5):=(by have q:=Za HC;rw[if_pos rfl,Za HX] at q;injection q with q _);clear HC;go_wp2;go_ret;exact⟨by rw[Za aa];rfl,Za cb,λq=>absurd (aa.symm.trans q) (by decide)⟩
   ·go_wp2_with fail;refine D2.mono ?_;rintro e w3 ⟨rfl,g',cd,cj⟩;have bd:=Zd (cb.trans cj);have bz:=Zd cd;clear cd cj D2;by_cases z0:ef=0
    ·have da:Hid (CbS Z w w3 d bm ka kn kc K (some ⟨nb,no,none⟩) nn nc N (some ⟨bb,eg,none⟩) bn bc T pa pn pc P tip β (k+1)):=by
      refine⟨Za bd,g',Sp δ s C',Za bz,?_⟩;have q:=Za HC;rw[if_neg (by decide),if_neg (λr=>r z0)] at q;exact q
     subst z0;clear HC bd bz;go_wp2;go_roundw
     case rel=>exact⟨k+1,by omega,by go_num,da⟩
     case measure=>simp[intOf];omega
    ·have gz:(ef != 0)=true:=(by simp[z0]);have aa:Hid (x=ef):=(by have q:=Za HC;rw[if_neg (by decide),if_pos z0,Za HX] at q;injection q with q _);clear HC;go_wp2;go_ret;exact⟨by rw[Za aa];rfl,Za bd,λq=>absurd (aa.symm.trans q) z0⟩
  ·have ek:k=nn:=(by omega);subst ek;obtain⟨hg,g,δ,Q,z⟩:=Za HS;rw[Zkb (by rw[Za be];exact Nat.le_refl _),Za HX] at z;have aa:Hid (x=0 /\ γ = δ):=(by injection z with q1 q2;exact⟨q1,q2⟩);have HG:=Zd hg;have HD:=Zd Q;clear hg Q z HS;go_wp2;go_ret;refine⟨by rw[(Za aa).1];rfl,Za HG,λ_=>⟨g,?_⟩⟩;rw[(Za aa).2,Za be];exact Za HD
end
