import Derived.Test.YtmomfkikogbdeaaGreatDoorH
import Derived.Test.YtmomfkikogbdeaaGreatDoorG27
open Go renaming wpAnyH_ready->bP
open Go.Act renaming put->aE
open Go.Ending renaming returned->cS
open Go.IntKind renaming i64->J
open Go.Obj renaming cells->cR
open Go.Value renaming int->E,slice->F,bool->cV
namespace Go.Proofs.YtmomfkikogbdeaaGreatDoor
open Go.RowKit
def D9(b c:Zl):Bool:=(decide (b.1=c.1) && (decide (b.2.1=c.2.1) && (decide (b.2.2.1=c.2.2.1) && decide (b.2.2.2.1=c.2.2.2.1)))) && Wd b.2.2.2.2 c.2.2.2.2
theorem Md(b c:Zl):D9 b c=true↔b=c:=by
 obtain⟨p,h,k,n,T⟩:=b;obtain⟨p2,h2,z,Q,U⟩:=c;simp only[D9,Bool.and_eq_true,decide_eq_true_eq,Ql,Prod.mk.injEq];constructor
 ·rintro ⟨⟨h1,h2,h3,h4⟩,h5⟩;exact⟨h1,h2,h3,h4,h5⟩
 ·rintro ⟨h1,h2,h3,h4,h5⟩;exact⟨⟨h1,h2,h3,h4⟩,h5⟩
theorem Wc{P:Program}{z}{o:Oper}{a:Act}{w}{K:Act->World->Prop}{ah:Exit->Act->World->Prop}{aa:Prop}
  (hw:Region.wanted o (yielded z a.tmps)=true) (f:FuncId) (Q) (he:(execOp a.eval o).run P w = .ok (.enter f Q) w) {R:Ending->World->Prop} (hc:Calls P f Q w R) (h:∀ e w',R e w'->∃ v,e = cS v/\K (a.put o.dst v) w') :
  if Region.wanted o (yielded z a.tmps)=true then Oper.wp P o a w K ah else aa:=by
 rw[if_pos hw];unfold Oper.wp;rw[he,Oper.upon_enter];refine hc.mono ?_;intro e w' hr;obtain⟨v,rfl,hk⟩:=h e w' hr;exact hk
set_option maxRecDepth 10000 in
set_option maxHeartbeats 12800000 in
theorem E9(p h k n p2 h2 k2 n2:Int)(a a2)(m c m2 c2:Nat)(T U)(o:Bool)(w:World)(hm:m<=maxLen)(hT:TxsAt w a m T)(hU:TxsAt w a2 m2 U)(ho:D9 (p,h,k,n,T) (p2,h2,k2,n2,U)=o) :
  ZH 37 #[.agg #[E J p,E J h,E J k,E J n,F a m c],.agg #[E J p2,E J h2,E J k2,E J n2,F a2 m2 c2]] w (cV o):=by
 obtain⟨X,hX⟩:=ZG ((w.alloc (cR #[E J p,E J h,E J k,E J n,F a m c] 39)).alloc (cR #[E J p2,E J h2,E J k2,E J n2,F a2 m2 c2] 39));have aw:ZD w X:=by rw[hX];exact Zf (Zh _ _) (Zh _ _)
 have au:X.heap[w.heap.size]? = some (cR [E J p,E J h,E J k,E J n,F a m c].toArray 39 (0,0)):=by
  rw[hX,Below.heap_alloc _ _ _ (by simp)];exact Zx _ _ _ _ _ _ _
 have av:X.heap[w.heap.size+1]? = some (cR [E J p2,E J h2,E J k2,E J n2,F a2 m2 c2].toArray 39 (0,0)):=by
  rw[hX];have:=Zx (w.alloc (cR #[E J p,E J h,E J k,E J n,F a m c] 39)) (E J p2) (E J h2) (E J k2) (E J n2) (F a2 m2 c2) 39;rw[show (w.alloc (cR #[E J p,E J h,E J k,E J n,F a m c] 39)).heap.size=w.heap.size+1 by simp] at this;exact this
 have HB:=Zd aw
 have KS:Hid (∀ W,ZD X W->(λW=>ZD X W/\W.cell? ⟨w.heap.size,0,none⟩=some (E J p)/\W.cell? ⟨w.heap.size,1,none⟩=some (E J h)/\W.cell? ⟨w.heap.size,2,none⟩=some (E J k)/\W.cell? ⟨w.heap.size,3,none⟩=some (E J n)/\W.cell? ⟨w.heap.size,4,none⟩=some (F a m c)/\W.cell? ⟨w.heap.size+1,0,none⟩=some (E J p2)/\W.cell? ⟨w.heap.size+1,1,none⟩=some (E J h2)/\W.cell? ⟨w.heap.size+1,2,none⟩=some (E J k2)/\W.cell? ⟨w.heap.size+1,3,none⟩=some (E J n2)/\W.cell? ⟨w.heap.size+1,4,none⟩=some (F a2 m2 c2)) W):=λW hb=>by
  have h0:=ZE hb au;have h1:=ZE hb av;exact⟨hb,Zb h0 0 _ rfl,Zb h0 1 _ rfl,Zb h0 2 _ rfl,Zb h0 3 _ rfl,Zb h0 4 _ rfl,Zb h1 0 _ rfl,Zb h1 1 _ rfl,Zb h1 2 _ rfl,Zb h1 3 _ rfl,Zb h1 4 _ rfl⟩
 have C1:=Zd (λW=>J8 p h k n a m c W);have C2:=Zd (λW=>J8 p2 h2 k2 n2 a2 m2 c2 W);obtain⟨q,hq⟩:=ZF (Wd T U);have C3:=Zd (λW (hb:ZD X W)=>Aj a a2 m m2 c c2 T U q W hm (hT.later (Zf aw hb)) (hU.later (Zf aw hb)) hq);obtain⟨e1,an⟩:=ZF ((decide (p=p2) && (decide (h=h2) && (decide (k=k2) && decide (n=n2)))));have bf:(e1 && q)=o:=by rw[<-ho,<-an,<-hq];rfl
 have x0:=lt_of_block au;have x1:=lt_of_block av;clear hT hU ho au av hq;have EQ:∀ W,(binOp .eql 187 (.agg #[E J p,E J h,E J k,E J n]) (.agg #[E J p2,E J h2,E J k2,E J n2])).run Tryz.prog W = .ok (cV e1) W:=λW=>by rw[Zde,<-an];rfl
 cases e1 with
 | true=>
  clear an;go_enter Tryz.func37,Tryz.ntmps37;go_wp2_with fail;rw[<-hX];clear hX;refine wp_region_held_drew (S:=(λW=>ZD X W/\W.cell? ⟨w.heap.size,0,none⟩=some (E J p)/\W.cell? ⟨w.heap.size,1,none⟩=some (E J h)/\W.cell? ⟨w.heap.size,2,none⟩=some (E J k)/\W.cell? ⟨w.heap.size,3,none⟩=some (E J n)/\W.cell? ⟨w.heap.size,4,none⟩=some (F a m c)/\W.cell? ⟨w.heap.size+1,0,none⟩=some (E J p2)/\W.cell? ⟨w.heap.size+1,1,none⟩=some (E J h2)/\W.cell? ⟨w.heap.size+1,2,none⟩=some (E J k2)/\W.cell? ⟨w.heap.size+1,3,none⟩=some (E J n2)/\W.cell? ⟨w.heap.size+1,4,none⟩=some (F a2 m2 c2))) (by kernel_rfl) (KS _ (Zi _)) (λz=>?_);have ap:Hid (ZD X X.drew):=Zi _;refine Zt 0 ⟨some 5,.load 39 (.tmp 2),39, "block.go:65",#[],none⟩ ?_ rfl ?_ z ?_;rotate_left
  ·(intro W Q;go_simp;first|done|with_reducible rfl)
  (try simp only[aE,ZA,ZB,ZC]);refine Zt 2 ⟨some 7,.load 39 (.tmp 3),39, "block.go:65",#[],none⟩ ?_ rfl ?_ z ?_;rotate_left
  ·(intro W Q;go_simp;first|done|with_reducible rfl)
  (try simp only[aE,ZA,ZB,ZC]);refine bP (rs:=[1]) (by kernel_rfl) (by simp) ?_;refine AllReadyH.cons (o:=⟨some 6,.call { callee:=Callee.value (.func 104),args:=#[.tmp 5],argTypes:=#[39] },187, "block.go:65",#[⟨0,.data⟩],none⟩) rfl (λK hK=>?_) AllReadyH.nil;refine Wc (by kernel_rfl) 104 #[.agg #[E J p,E J h,E J k,E J n,F a m c]] (by kernel_rfl) (C1 _) ?_;rintro e w2 ⟨rfl,al⟩;refine⟨_,rfl,?_⟩;have ak:=Zd (Zf ap al);clear al;refine hK.out _ _ (KS _ ak) (λhHeld2=>?_);clear hK K z;have z:=hHeld2;clear hHeld2;(try simp only[aE,ZA,ZB,ZC]);refine bP (rs:=[3]) (by kernel_rfl) (by simp) ?_;refine AllReadyH.cons (o:=⟨some 8,.call { callee:=Callee.value (.func 104),args:=#[.tmp 7],argTypes:=#[39] },187, "block.go:65",#[⟨2,.data⟩,⟨1,.chain⟩],none⟩) rfl (λK hK=>?_) AllReadyH.nil;refine Wc (by kernel_rfl) 104 #[.agg #[E J p2,E J h2,E J k2,E J n2,F a2 m2 c2]] (by kernel_rfl) (C2 _) ?_;rintro e w3 ⟨rfl,am⟩;refine⟨_,rfl,?_⟩;have ah:=Zd (Zf ak am);clear am;refine hK.out _ _ (KS _ ah) (λhHeld2=>?_);clear hK K z;have z:=hHeld2;clear hHeld2;(try simp only[aE,ZA,ZB,ZC]);refine Zt 4 ⟨some 9,.binOp BinOp.eql 187 (.tmp 6) (.tmp 8) 187,4, "block.go:65",#[⟨1,.data⟩,⟨3,.data⟩],none⟩ ?_ rfl ?_ z ?_;rotate_left
  ·(intro W Q;go_simp;first|done|with_reducible rfl)
  (try simp only[aE,ZA,ZB,ZC]);refine Zt 5 ⟨some 10,.move (.tmp 9),4, "block.go:65",#[⟨4,.data⟩,⟨3,.chain⟩],none⟩ ?_ rfl ?_ z ?_;rotate_left
  ·(intro W Q;go_simp;first|done|with_reducible rfl)
  (try simp only[aE,ZA,ZB,ZC]);refine Zt 6 ⟨some 11,.fieldAddr 39 (.tmp 2) 4,0, "block.go:65",#[⟨5,.guard⟩],some (5,true)⟩ ?_ rfl ?_ z ?_;rotate_left
  ·(intro W Q;go_simp;first|done|with_reducible rfl)
  (try simp only[aE,ZA,ZB,ZC]);refine Zt 7 ⟨some 12,.load 37 (.tmp 11),37, "block.go:65",#[⟨6,.data⟩,⟨5,.guard⟩],some (5,true)⟩ ?_ rfl ?_ z ?_;rotate_left
  ·(intro W Q;go_simp;first|done|with_reducible rfl)
  (try simp only[aE,ZA,ZB,ZC]);refine Zt 8 ⟨some 13,.fieldAddr 39 (.tmp 3) 4,0, "block.go:65",#[⟨5,.guard⟩],some (5,true)⟩ ?_ rfl ?_ z ?_;rotate_left
  ·(intro W Q;go_simp;first|done|with_reducible rfl)
  (try simp only[aE,ZA,ZB,ZC]);refine Zt 9 ⟨some 14,.load 37 (.tmp 13),37, "block.go:65",#[⟨8,.data⟩,⟨5,.guard⟩],some (5,true)⟩ ?_ rfl ?_ z ?_;rotate_left
  ·(intro W Q;go_simp;first|done|with_reducible rfl)
  (try simp only[aE,ZA,ZB,ZC]);refine bP (rs:=[10]) (by kernel_rfl) (by simp) ?_;refine AllReadyH.cons (o:=⟨some 15,.call { callee:=Callee.value (.func 29),args:=#[.tmp 12,.tmp 14,.func 30],argTypes:=#[37,37,63] },4, "block.go:65",#[⟨7,.data⟩,⟨9,.data⟩,⟨5,.chain⟩,⟨5,.guard⟩],some (5,true)⟩) rfl (λK hK=>?_) AllReadyH.nil;refine Wc (by kernel_rfl) 29 #[F a m c,F a2 m2 c2,.func (.func 30) #[] #[]] (by kernel_rfl) (C3 _ ah) ?_;rintro e w4 ⟨rfl,bd⟩;refine⟨_,rfl,?_⟩;have az:=Zd (Zf ah bd);clear bd;refine hK.out _ _ (KS _ az) (λhHeld2=>?_);clear hK K z;have z:=hHeld2;clear hHeld2;(try simp only[aE,ZA,ZB,ZC]);refine Zt 11 ⟨some 16,.pick (.tmp 10) (.tmp 15) (.const (Value.bool false)),4, "block.go:65",#[⟨5,.data⟩,⟨10,.data⟩],none⟩ ?_ rfl ?_ z ?_;rotate_left
  ·(intro W Q;go_simp;first|done|with_reducible rfl)
  (try simp only[aE,ZA,ZB,ZC]);refine Zt 12 ⟨some 4,.assign (.tmp 16),4, "block.go:65",#[⟨11,.data⟩,⟨10,.chain⟩,⟨0,.phase⟩,⟨1,.phase⟩,⟨2,.phase⟩,⟨3,.phase⟩,⟨4,.phase⟩,⟨5,.phase⟩,⟨6,.phase⟩,⟨7,.phase⟩,⟨8,.phase⟩,⟨9,.phase⟩,⟨10,.phase⟩,⟨11,.phase⟩],none⟩ ?_ rfl ?_ z ?_;rotate_left
  ·(intro W Q;go_simp;first|done|with_reducible rfl)
  (try simp only[aE,ZA,ZB,ZC]);refine wpAnyH_done (by kernel_rfl) ?_ _;have aq:=Zd (Zf HB az);go_wp2;go_ret;exact⟨by rw[<-bf];rfl,Za aq⟩
 | false=>
  clear an;go_enter Tryz.func37,Tryz.ntmps37;go_wp2_with fail;rw[<-hX];clear hX;refine wp_region_held_drew (S:=(λW=>ZD X W/\W.cell? ⟨w.heap.size,0,none⟩=some (E J p)/\W.cell? ⟨w.heap.size,1,none⟩=some (E J h)/\W.cell? ⟨w.heap.size,2,none⟩=some (E J k)/\W.cell? ⟨w.heap.size,3,none⟩=some (E J n)/\W.cell? ⟨w.heap.size,4,none⟩=some (F a m c)/\W.cell? ⟨w.heap.size+1,0,none⟩=some (E J p2)/\W.cell? ⟨w.heap.size+1,1,none⟩=some (E J h2)/\W.cell? ⟨w.heap.size+1,2,none⟩=some (E J k2)/\W.cell? ⟨w.heap.size+1,3,none⟩=some (E J n2)/\W.cell? ⟨w.heap.size+1,4,none⟩=some (F a2 m2 c2))) (by kernel_rfl) (KS _ (Zi _)) (λz=>?_);have ap:Hid (ZD X X.drew):=Zi _;refine Zt 0 ⟨some 5,.load 39 (.tmp 2),39, "block.go:65",#[],none⟩ ?_ rfl ?_ z ?_;rotate_left
  ·(intro W Q;go_simp;first|done|with_reducible rfl)
  (try simp only[aE,ZA,ZB,ZC]);refine Zt 2 ⟨some 7,.load 39 (.tmp 3),39, "block.go:65",#[],none⟩ ?_ rfl ?_ z ?_;rotate_left
  ·(intro W Q;go_simp;first|done|with_reducible rfl)
  (try simp only[aE,ZA,ZB,ZC]);refine bP (rs:=[1]) (by kernel_rfl) (by simp) ?_;refine AllReadyH.cons (o:=⟨some 6,.call { callee:=Callee.value (.func 104),args:=#[.tmp 5],argTypes:=#[39] },187, "block.go:65",#[⟨0,.data⟩],none⟩) rfl (λK hK=>?_) AllReadyH.nil;refine Wc (by kernel_rfl) 104 #[.agg #[E J p,E J h,E J k,E J n,F a m c]] (by kernel_rfl) (C1 _) ?_;rintro e w2 ⟨rfl,al⟩;refine⟨_,rfl,?_⟩;have ak:=Zd (Zf ap al);clear al;refine hK.out _ _ (KS _ ak) (λhHeld2=>?_);clear hK K z;have z:=hHeld2;clear hHeld2;(try simp only[aE,ZA,ZB,ZC]);refine bP (rs:=[3]) (by kernel_rfl) (by simp) ?_;refine AllReadyH.cons (o:=⟨some 8,.call { callee:=Callee.value (.func 104),args:=#[.tmp 7],argTypes:=#[39] },187, "block.go:65",#[⟨2,.data⟩,⟨1,.chain⟩],none⟩) rfl (λK hK=>?_) AllReadyH.nil;refine Wc (by kernel_rfl) 104 #[.agg #[E J p2,E J h2,E J k2,E J n2,F a2 m2 c2]] (by kernel_rfl) (C2 _) ?_;rintro e w3 ⟨rfl,am⟩;refine⟨_,rfl,?_⟩;have ah:=Zd (Zf ak am);clear am;refine hK.out _ _ (KS _ ah) (λhHeld2=>?_);clear hK K z;have z:=hHeld2;clear hHeld2;(try simp only[aE,ZA,ZB,ZC]);refine Zt 4 ⟨some 9,.binOp BinOp.eql 187 (.tmp 6) (.tmp 8) 187,4, "block.go:65",#[⟨1,.data⟩,⟨3,.data⟩],none⟩ ?_ rfl ?_ z ?_;rotate_left
  ·(intro W Q;go_simp;first|done|with_reducible rfl)
  (try simp only[aE,ZA,ZB,ZC]);refine Zt 5 ⟨some 10,.move (.tmp 9),4, "block.go:65",#[⟨4,.data⟩,⟨3,.chain⟩],none⟩ ?_ rfl ?_ z ?_;rotate_left
  ·(intro W Q;go_simp;first|done|with_reducible rfl)
  (try simp only[aE,ZA,ZB,ZC]);refine wpAnyH_take (i:=6) (oi:=⟨some 11,.fieldAddr 39 (.tmp 2) 4,0, "block.go:65",#[⟨5,.guard⟩],some (5,true)⟩) (v:=undef) rfl (by kernel_rfl) (by kernel_rfl) (by kernel_rfl) (λ_ _ _ h=>h) (Or.inr ⟨by rfl,rfl⟩) z ?_;(try simp only[aE,ZA,ZB,ZC]);refine wpAnyH_take (i:=7) (oi:=⟨some 12,.load 37 (.tmp 11),37, "block.go:65",#[⟨6,.data⟩,⟨5,.guard⟩],some (5,true)⟩) (v:=undef) rfl (by kernel_rfl) (by kernel_rfl) (by kernel_rfl) (λ_ _ _ h=>h) (Or.inr ⟨by rfl,rfl⟩) z ?_;(try simp only[aE,ZA,ZB,ZC]);refine wpAnyH_take (i:=8) (oi:=⟨some 13,.fieldAddr 39 (.tmp 3) 4,0, "block.go:65",#[⟨5,.guard⟩],some (5,true)⟩) (v:=undef) rfl (by kernel_rfl) (by kernel_rfl) (by kernel_rfl) (λ_ _ _ h=>h) (Or.inr ⟨by rfl,rfl⟩) z ?_;(try simp only[aE,ZA,ZB,ZC]);refine wpAnyH_take (i:=9) (oi:=⟨some 14,.load 37 (.tmp 13),37, "block.go:65",#[⟨8,.data⟩,⟨5,.guard⟩],some (5,true)⟩) (v:=undef) rfl (by kernel_rfl) (by kernel_rfl) (by kernel_rfl) (λ_ _ _ h=>h) (Or.inr ⟨by rfl,rfl⟩) z ?_;(try simp only[aE,ZA,ZB,ZC]);refine wpAnyH_take (i:=10) (oi:=⟨some 15,.call { callee:=Callee.value (.func 29),args:=#[.tmp 12,.tmp 14,.func 30],argTypes:=#[37,37,63] },4, "block.go:65",#[⟨7,.data⟩,⟨9,.data⟩,⟨5,.chain⟩,⟨5,.guard⟩],some (5,true)⟩) (v:=undef) rfl (by kernel_rfl) (by kernel_rfl) (by kernel_rfl) (λ_ _ _ h=>h) (Or.inr ⟨by rfl,rfl⟩) z ?_;(try simp only[aE,ZA,ZB,ZC])
  refine Zt 11 ⟨some 16,.pick (.tmp 10) (.tmp 15) (.const (Value.bool false)),4, "block.go:65",#[⟨5,.data⟩,⟨10,.data⟩],none⟩ ?_ rfl ?_ z ?_;rotate_left
  ·(intro W Q;go_simp;first|done|with_reducible rfl)
  (try simp only[aE,ZA,ZB,ZC]);refine Zt 12 ⟨some 4,.assign (.tmp 16),4, "block.go:65",#[⟨11,.data⟩,⟨10,.chain⟩,⟨0,.phase⟩,⟨1,.phase⟩,⟨2,.phase⟩,⟨3,.phase⟩,⟨4,.phase⟩,⟨5,.phase⟩,⟨6,.phase⟩,⟨7,.phase⟩,⟨8,.phase⟩,⟨9,.phase⟩,⟨10,.phase⟩,⟨11,.phase⟩],none⟩ ?_ rfl ?_ z ?_;rotate_left
  ·(intro W Q;go_simp;first|done|with_reducible rfl)
  (try simp only[aE,ZA,ZB,ZC]);refine wpAnyH_done (by kernel_rfl) ?_ _;have aq:=Zd (Zf HB ah);go_wp2;go_ret;exact⟨by rw[<-bf];rfl,Za aq⟩
