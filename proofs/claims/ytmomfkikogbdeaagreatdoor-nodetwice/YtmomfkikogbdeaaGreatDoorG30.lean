import Derived.Test.YtmomfkikogbdeaaGreatDoorG29
namespace Go.Proofs.YtmomfkikogbdeaaGreatDoor
open Go.RowKit
def Zch(b c:Zk):Bool:=(decide (b.1=c.1) && (decide (b.2.1=c.2.1) && (decide (b.2.2.1=c.2.2.1) && decide (b.2.2.2.1=c.2.2.2.1)))) && Wj b.2.2.2.2 c.2.2.2.2
theorem Lc(b c:Zk):Zch b c=true↔b=c:=by
 obtain⟨p,h,k,n,T⟩:=b
 obtain⟨p2,h2,k2,n2,U⟩:=c
 simp only[Zch,Bool.and_eq_true,decide_eq_true_eq,Qh,Prod.mk.injEq]
 constructor
 ·rintro ⟨⟨h1,h2,h3,h4⟩,h5⟩
  exact⟨h1,h2,h3,h4,h5⟩
 ·rintro ⟨h1,h2,h3,h4,h5⟩
  exact⟨⟨h1,h2,h3,h4⟩,h5⟩
theorem Xv{P:Program}{ops:Array Oper}{o:Oper}{a:Act}{w:World}{K:Act→World→Prop}{Q:Exit→Act→World→Prop}{E:Prop}
  (hw:Region.wanted o (yielded ops a.tmps)=true) (f:FuncId) (vs:Array Value) (he:(execOp a.eval o).run P w = .ok (.enter f vs) w) {R:Ending→World→Prop} (hc:Calls P f vs w R) (h:∀ e w',R e w'→∃ v,e = .returned v∧K (a.put o.dst v) w') :
  if Region.wanted o (yielded ops a.tmps)=true then Oper.wp P o a w K Q else E:=by
 rw[if_pos hw]
 unfold Oper.wp
 rw[he,Oper.upon_enter]
 refine hc.mono ?_
 intro e w' hr
 obtain⟨v,rfl,hk⟩:=h e w' hr
 exact hk
set_option maxRecDepth 10000 in
set_option maxHeartbeats 12800000 in
theorem Hz(p h k n p2 h2 k2 n2:Int)(a a2:Option Addr)(m c m2 c2:Nat)(T U:List TxD)(o:Bool)(w:World)(hm:m≤maxLen)(hT:TxsAt w a m T)(hU:TxsAt w a2 m2 U)(ho:Zch (p,h,k,n,T) (p2,h2,k2,n2,U)=o) :
  Calls Tryz.prog 37 #[.agg #[.int .i64 p,.int .i64 h,.int .i64 k,.int .i64 n,.slice a m c],.agg #[.int .i64 p2,.int .i64 h2,.int .i64 k2,.int .i64 n2,.slice a2 m2 c2]] w fun e w'=>e = .returned (.bool o)∧Below w.heap.size w w':=by
 obtain⟨X,hX⟩:∃ X,X=(w.alloc (.cells #[.int .i64 p,.int .i64 h,.int .i64 k,.int .i64 n,.slice a m c] 39)).alloc (.cells #[.int .i64 p2,.int .i64 h2,.int .i64 k2,.int .i64 n2,.slice a2 m2 c2] 39):=⟨_,rfl⟩
 have hbX:Below w.heap.size w X:=by rw[hX];exact Zf (Zi _ _) (Zi _ _)
 have hX0:X.heap[w.heap.size]? = some (.cells [.int .i64 p,.int .i64 h,.int .i64 k,.int .i64 n,.slice a m c].toArray 39 (0,0)):=by
  rw[hX,Below.heap_alloc _ _ _ (by simp)];exact Zv _ _ _ _ _ _ _
 have hX1:X.heap[w.heap.size+1]? = some (.cells [.int .i64 p2,.int .i64 h2,.int .i64 k2,.int .i64 n2,.slice a2 m2 c2].toArray 39 (0,0)):=by
  rw[hX]
  have:=Zv (w.alloc (.cells #[.int .i64 p,.int .i64 h,.int .i64 k,.int .i64 n,.slice a m c] 39)) (.int .i64 p2) (.int .i64 h2) (.int .i64 k2) (.int .i64 n2) (.slice a2 m2 c2) 39
  rw[show (w.alloc (.cells #[.int .i64 p,.int .i64 h,.int .i64 k,.int .i64 n,.slice a m c] 39)).heap.size=w.heap.size+1 by simp] at this
  exact this
 have HB:=Zb hbX
 have KS:Hid (∀ W,Below X.heap.size X W→(fun W=>Below X.heap.size X W∧W.cell? ⟨w.heap.size,0,none⟩=some (.int .i64 p)∧W.cell? ⟨w.heap.size,1,none⟩=some (.int .i64 h)∧W.cell? ⟨w.heap.size,2,none⟩=some (.int .i64 k)∧W.cell? ⟨w.heap.size,3,none⟩=some (.int .i64 n)∧W.cell? ⟨w.heap.size,4,none⟩=some (.slice a m c)∧W.cell? ⟨w.heap.size+1,0,none⟩=some (.int .i64 p2)∧W.cell? ⟨w.heap.size+1,1,none⟩=some (.int .i64 h2)∧W.cell? ⟨w.heap.size+1,2,none⟩=some (.int .i64 k2)∧W.cell? ⟨w.heap.size+1,3,none⟩=some (.int .i64 n2)∧W.cell? ⟨w.heap.size+1,4,none⟩=some (.slice a2 m2 c2)) W):=fun W hb=>by
  have h0:=(hb.block _ (lt_of_block hX0)).trans hX0
  have h1:=(hb.block _ (lt_of_block hX1)).trans hX1
  exact⟨hb,Zd h0 0 _ rfl,Zd h0 1 _ rfl,Zd h0 2 _ rfl,Zd h0 3 _ rfl,Zd h0 4 _ rfl,Zd h1 0 _ rfl,Zd h1 1 _ rfl,Zd h1 2 _ rfl,Zd h1 3 _ rfl,Zd h1 4 _ rfl⟩
 have C1:=Zb (fun W=>Ju p h k n a m c W)
 have C2:=Zb (fun W=>Ju p2 h2 k2 n2 a2 m2 c2 W)
 obtain⟨q,hq⟩:∃ q,Wj T U=q:=⟨_,rfl⟩
 have C3:=Zb (fun W (hb:Below X.heap.size X W)=>Zdx a a2 m m2 c c2 T U q W hm (hT.later (Zf hbX hb)) (hU.later (Zf hbX hb)) hq)
 obtain⟨e1,he1⟩:∃ e1,(decide (p=p2) && (decide (h=h2) && (decide (k=k2) && decide (n=n2))))=e1:=⟨_,rfl⟩
 have hov:(e1 && q)=o:=by rw[←ho,←he1,←hq];rfl
 have x0:=lt_of_block hX0
 have x1:=lt_of_block hX1
 clear hT hU ho hX0 hX1 hq
 have EQ:∀ W,(binOp .eql 187 (.agg #[.int .i64 p,.int .i64 h,.int .i64 k,.int .i64 n]) (.agg #[.int .i64 p2,.int .i64 h2,.int .i64 k2,.int .i64 n2])).run Tryz.prog W = .ok (.bool e1) W:=fun W=>by rw[Zan,←he1];rfl
 cases e1 with
 | true=>
  clear he1
  go_enter Tryz.func37,Tryz.ntmps37
  go_wp2_with fail
  rw[←hX]
  clear hX
  refine wp_region_held_drew (S:=(fun W=>Below X.heap.size X W∧W.cell? ⟨w.heap.size,0,none⟩=some (.int .i64 p)∧W.cell? ⟨w.heap.size,1,none⟩=some (.int .i64 h)∧W.cell? ⟨w.heap.size,2,none⟩=some (.int .i64 k)∧W.cell? ⟨w.heap.size,3,none⟩=some (.int .i64 n)∧W.cell? ⟨w.heap.size,4,none⟩=some (.slice a m c)∧W.cell? ⟨w.heap.size+1,0,none⟩=some (.int .i64 p2)∧W.cell? ⟨w.heap.size+1,1,none⟩=some (.int .i64 h2)∧W.cell? ⟨w.heap.size+1,2,none⟩=some (.int .i64 k2)∧W.cell? ⟨w.heap.size+1,3,none⟩=some (.int .i64 n2)∧W.cell? ⟨w.heap.size+1,4,none⟩=some (.slice a2 m2 c2))) (by kernel_rfl) ((Za KS) _ (Zj _)) (fun Zjc=>?_)
  have HB1:Hid (Below X.heap.size X X.drew):=Zj _
  refine wpAnyH_take (i:=0) (oi:=⟨some 5,.load 39 (.tmp 2),39, "block.go:65",#[],none⟩) (v:=?_) rfl (by kernel_rfl) (by kernel_rfl) (by kernel_rfl) (fun _ _ _ h=>h) (Or.inl ⟨by rfl,?_⟩) Zjc ?_
  rotate_left
  ·(intro W hSw;(try dsimp only at hSw);go_simp;first|done|with_reducible rfl)
  (try simp only[Act.put,List.setIfInBounds_toArray,List.set_cons_zero,List.set_cons_succ])
  refine wpAnyH_take (i:=2) (oi:=⟨some 7,.load 39 (.tmp 3),39, "block.go:65",#[],none⟩) (v:=?_) rfl (by kernel_rfl) (by kernel_rfl) (by kernel_rfl) (fun _ _ _ h=>h) (Or.inl ⟨by rfl,?_⟩) Zjc ?_
  rotate_left
  ·(intro W hSw;(try dsimp only at hSw);go_simp;first|done|with_reducible rfl)
  (try simp only[Act.put,List.setIfInBounds_toArray,List.set_cons_zero,List.set_cons_succ])
  refine wpAnyH_ready (rs:=[1]) (by kernel_rfl) (by simp) ?_
  refine AllReadyH.cons (o:=⟨some 6,.call { callee:=Callee.value (.func 104),args:=#[.tmp 5],argTypes:=#[39] },187, "block.go:65",#[⟨0,.data⟩],none⟩) rfl (fun K hK=>?_) AllReadyH.nil
  refine Xv (by kernel_rfl) 104 #[.agg #[.int .i64 p,.int .i64 h,.int .i64 k,.int .i64 n,.slice a m c]] (by kernel_rfl) ((Za C1) _) ?_
  rintro e w2 ⟨rfl,hb2⟩
  refine⟨_,rfl,?_⟩
  have HB2:=Zb (Zf (Za HB1) hb2)
  clear hb2
  refine hK.out _ _ ((Za KS) _ (Za HB2)) (fun Zjd=>?_)
  clear hK K Zjc
  have Zjc:=Zjd
  clear Zjd
  (try simp only[Act.put,List.setIfInBounds_toArray,List.set_cons_zero,List.set_cons_succ])
  refine wpAnyH_ready (rs:=[3]) (by kernel_rfl) (by simp) ?_
  refine AllReadyH.cons (o:=⟨some 8,.call { callee:=Callee.value (.func 104),args:=#[.tmp 7],argTypes:=#[39] },187, "block.go:65",#[⟨2,.data⟩,⟨1,.chain⟩],none⟩) rfl (fun K hK=>?_) AllReadyH.nil
  refine Xv (by kernel_rfl) 104 #[.agg #[.int .i64 p2,.int .i64 h2,.int .i64 k2,.int .i64 n2,.slice a2 m2 c2]] (by kernel_rfl) ((Za C2) _) ?_
  rintro e w3 ⟨rfl,hb3⟩
  refine⟨_,rfl,?_⟩
  have HB3:=Zb (Zf (Za HB2) hb3)
  clear hb3
  refine hK.out _ _ ((Za KS) _ (Za HB3)) (fun Zjd=>?_)
  clear hK K Zjc
  have Zjc:=Zjd
  clear Zjd
  (try simp only[Act.put,List.setIfInBounds_toArray,List.set_cons_zero,List.set_cons_succ])
  refine wpAnyH_take (i:=4) (oi:=⟨some 9,.binOp BinOp.eql 187 (.tmp 6) (.tmp 8) 187,4, "block.go:65",#[⟨1,.data⟩,⟨3,.data⟩],none⟩) (v:=?_) rfl (by kernel_rfl) (by kernel_rfl) (by kernel_rfl) (fun _ _ _ h=>h) (Or.inl ⟨by rfl,?_⟩) Zjc ?_
  rotate_left
  ·(intro W hSw;(try dsimp only at hSw);go_simp;first|done|with_reducible rfl)
  (try simp only[Act.put,List.setIfInBounds_toArray,List.set_cons_zero,List.set_cons_succ])
  refine wpAnyH_take (i:=5) (oi:=⟨some 10,.move (.tmp 9),4, "block.go:65",#[⟨4,.data⟩,⟨3,.chain⟩],none⟩) (v:=?_) rfl (by kernel_rfl) (by kernel_rfl) (by kernel_rfl) (fun _ _ _ h=>h) (Or.inl ⟨by rfl,?_⟩) Zjc ?_
  rotate_left
  ·(intro W hSw;(try dsimp only at hSw);go_simp;first|done|with_reducible rfl)
  (try simp only[Act.put,List.setIfInBounds_toArray,List.set_cons_zero,List.set_cons_succ])
  refine wpAnyH_take (i:=6) (oi:=⟨some 11,.fieldAddr 39 (.tmp 2) 4,0, "block.go:65",#[⟨5,.guard⟩],some (5,true)⟩) (v:=?_) rfl (by kernel_rfl) (by kernel_rfl) (by kernel_rfl) (fun _ _ _ h=>h) (Or.inl ⟨by rfl,?_⟩) Zjc ?_
  rotate_left
  ·(intro W hSw;(try dsimp only at hSw);go_simp;first|done|with_reducible rfl)
  (try simp only[Act.put,List.setIfInBounds_toArray,List.set_cons_zero,List.set_cons_succ])
  refine wpAnyH_take (i:=7) (oi:=⟨some 12,.load 37 (.tmp 11),37, "block.go:65",#[⟨6,.data⟩,⟨5,.guard⟩],some (5,true)⟩) (v:=?_) rfl (by kernel_rfl) (by kernel_rfl) (by kernel_rfl) (fun _ _ _ h=>h) (Or.inl ⟨by rfl,?_⟩) Zjc ?_
  rotate_left
  ·(intro W hSw;(try dsimp only at hSw);go_simp;first|done|with_reducible rfl)
  (try simp only[Act.put,List.setIfInBounds_toArray,List.set_cons_zero,List.set_cons_succ])
  refine wpAnyH_take (i:=8) (oi:=⟨some 13,.fieldAddr 39 (.tmp 3) 4,0, "block.go:65",#[⟨5,.guard⟩],some (5,true)⟩) (v:=?_) rfl (by kernel_rfl) (by kernel_rfl) (by kernel_rfl) (fun _ _ _ h=>h) (Or.inl ⟨by rfl,?_⟩) Zjc ?_
  rotate_left
  ·(intro W hSw;(try dsimp only at hSw);go_simp;first|done|with_reducible rfl)
  (try simp only[Act.put,List.setIfInBounds_toArray,List.set_cons_zero,List.set_cons_succ])
  refine wpAnyH_take (i:=9) (oi:=⟨some 14,.load 37 (.tmp 13),37, "block.go:65",#[⟨8,.data⟩,⟨5,.guard⟩],some (5,true)⟩) (v:=?_) rfl (by kernel_rfl) (by kernel_rfl) (by kernel_rfl) (fun _ _ _ h=>h) (Or.inl ⟨by rfl,?_⟩) Zjc ?_
  rotate_left
  ·(intro W hSw;(try dsimp only at hSw);go_simp;first|done|with_reducible rfl)
  (try simp only[Act.put,List.setIfInBounds_toArray,List.set_cons_zero,List.set_cons_succ])
  refine wpAnyH_ready (rs:=[10]) (by kernel_rfl) (by simp) ?_
  refine AllReadyH.cons (o:=⟨some 15,.call { callee:=Callee.value (.func 29),args:=#[.tmp 12,.tmp 14,.func 30],argTypes:=#[37,37,63] },4, "block.go:65",#[⟨7,.data⟩,⟨9,.data⟩,⟨5,.chain⟩,⟨5,.guard⟩],some (5,true)⟩) rfl (fun K hK=>?_) AllReadyH.nil
  refine Xv (by kernel_rfl) 29 #[.slice a m c,.slice a2 m2 c2,.func (.func 30) #[] #[]] (by kernel_rfl) ((Za C3) _ (Za HB3)) ?_
  rintro e w4 ⟨rfl,hb4⟩
  refine⟨_,rfl,?_⟩
  have HB4:=Zb (Zf (Za HB3) hb4)
  clear hb4
  refine hK.out _ _ ((Za KS) _ (Za HB4)) (fun Zjd=>?_)
  clear hK K Zjc
  have Zjc:=Zjd
  clear Zjd
  (try simp only[Act.put,List.setIfInBounds_toArray,List.set_cons_zero,List.set_cons_succ])
  refine wpAnyH_take (i:=11) (oi:=⟨some 16,.pick (.tmp 10) (.tmp 15) (.const (Value.bool false)),4, "block.go:65",#[⟨5,.data⟩,⟨10,.data⟩],none⟩) (v:=?_) rfl (by kernel_rfl) (by kernel_rfl) (by kernel_rfl) (fun _ _ _ h=>h) (Or.inl ⟨by rfl,?_⟩) Zjc ?_
  rotate_left
  ·(intro W hSw;(try dsimp only at hSw);go_simp;first|done|with_reducible rfl)
  (try simp only[Act.put,List.setIfInBounds_toArray,List.set_cons_zero,List.set_cons_succ])
  refine wpAnyH_take (i:=12) (oi:=⟨some 4,.assign (.tmp 16),4, "block.go:65",#[⟨11,.data⟩,⟨10,.chain⟩,⟨0,.phase⟩,⟨1,.phase⟩,⟨2,.phase⟩,⟨3,.phase⟩,⟨4,.phase⟩,⟨5,.phase⟩,⟨6,.phase⟩,⟨7,.phase⟩,⟨8,.phase⟩,⟨9,.phase⟩,⟨10,.phase⟩,⟨11,.phase⟩],none⟩) (v:=?_) rfl (by kernel_rfl) (by kernel_rfl) (by kernel_rfl) (fun _ _ _ h=>h) (Or.inl ⟨by rfl,?_⟩) Zjc ?_
  rotate_left
  ·(intro W hSw;(try dsimp only at hSw);go_simp;first|done|with_reducible rfl)
  (try simp only[Act.put,List.setIfInBounds_toArray,List.set_cons_zero,List.set_cons_succ])
  refine wpAnyH_done (by kernel_rfl) ?_ _
  have HBF:=Zb (Zf (Za HB) (Za HB4))
  go_wp2
  go_ret
  exact⟨by rw[←hov];rfl,Za HBF⟩
 | false=>
  clear he1
  go_enter Tryz.func37,Tryz.ntmps37
  go_wp2_with fail
  rw[←hX]
  clear hX
  refine wp_region_held_drew (S:=(fun W=>Below X.heap.size X W∧W.cell? ⟨w.heap.size,0,none⟩=some (.int .i64 p)∧W.cell? ⟨w.heap.size,1,none⟩=some (.int .i64 h)∧W.cell? ⟨w.heap.size,2,none⟩=some (.int .i64 k)∧W.cell? ⟨w.heap.size,3,none⟩=some (.int .i64 n)∧W.cell? ⟨w.heap.size,4,none⟩=some (.slice a m c)∧W.cell? ⟨w.heap.size+1,0,none⟩=some (.int .i64 p2)∧W.cell? ⟨w.heap.size+1,1,none⟩=some (.int .i64 h2)∧W.cell? ⟨w.heap.size+1,2,none⟩=some (.int .i64 k2)∧W.cell? ⟨w.heap.size+1,3,none⟩=some (.int .i64 n2)∧W.cell? ⟨w.heap.size+1,4,none⟩=some (.slice a2 m2 c2))) (by kernel_rfl) ((Za KS) _ (Zj _)) (fun Zjc=>?_)
  have HB1:Hid (Below X.heap.size X X.drew):=Zj _
  refine wpAnyH_take (i:=0) (oi:=⟨some 5,.load 39 (.tmp 2),39, "block.go:65",#[],none⟩) (v:=?_) rfl (by kernel_rfl) (by kernel_rfl) (by kernel_rfl) (fun _ _ _ h=>h) (Or.inl ⟨by rfl,?_⟩) Zjc ?_
  rotate_left
  ·(intro W hSw;(try dsimp only at hSw);go_simp;first|done|with_reducible rfl)
  (try simp only[Act.put,List.setIfInBounds_toArray,List.set_cons_zero,List.set_cons_succ])
  refine wpAnyH_take (i:=2) (oi:=⟨some 7,.load 39 (.tmp 3),39, "block.go:65",#[],none⟩) (v:=?_) rfl (by kernel_rfl) (by kernel_rfl) (by kernel_rfl) (fun _ _ _ h=>h) (Or.inl ⟨by rfl,?_⟩) Zjc ?_
  rotate_left
  ·(intro W hSw;(try dsimp only at hSw);go_simp;first|done|with_reducible rfl)
  (try simp only[Act.put,List.setIfInBounds_toArray,List.set_cons_zero,List.set_cons_succ])
  refine wpAnyH_ready (rs:=[1]) (by kernel_rfl) (by simp) ?_
  refine AllReadyH.cons (o:=⟨some 6,.call { callee:=Callee.value (.func 104),args:=#[.tmp 5],argTypes:=#[39] },187, "block.go:65",#[⟨0,.data⟩],none⟩) rfl (fun K hK=>?_) AllReadyH.nil
  refine Xv (by kernel_rfl) 104 #[.agg #[.int .i64 p,.int .i64 h,.int .i64 k,.int .i64 n,.slice a m c]] (by kernel_rfl) ((Za C1) _) ?_
  rintro e w2 ⟨rfl,hb2⟩
  refine⟨_,rfl,?_⟩
  have HB2:=Zb (Zf (Za HB1) hb2)
  clear hb2
  refine hK.out _ _ ((Za KS) _ (Za HB2)) (fun Zjd=>?_)
  clear hK K Zjc
  have Zjc:=Zjd
  clear Zjd
  (try simp only[Act.put,List.setIfInBounds_toArray,List.set_cons_zero,List.set_cons_succ])
  refine wpAnyH_ready (rs:=[3]) (by kernel_rfl) (by simp) ?_
  refine AllReadyH.cons (o:=⟨some 8,.call { callee:=Callee.value (.func 104),args:=#[.tmp 7],argTypes:=#[39] },187, "block.go:65",#[⟨2,.data⟩,⟨1,.chain⟩],none⟩) rfl (fun K hK=>?_) AllReadyH.nil
  refine Xv (by kernel_rfl) 104 #[.agg #[.int .i64 p2,.int .i64 h2,.int .i64 k2,.int .i64 n2,.slice a2 m2 c2]] (by kernel_rfl) ((Za C2) _) ?_
  rintro e w3 ⟨rfl,hb3⟩
  refine⟨_,rfl,?_⟩
  have HB3:=Zb (Zf (Za HB2) hb3)
  clear hb3
  refine hK.out _ _ ((Za KS) _ (Za HB3)) (fun Zjd=>?_)
  clear hK K Zjc
  have Zjc:=Zjd
  clear Zjd
  (try simp only[Act.put,List.setIfInBounds_toArray,List.set_cons_zero,List.set_cons_succ])
  refine wpAnyH_take (i:=4) (oi:=⟨some 9,.binOp BinOp.eql 187 (.tmp 6) (.tmp 8) 187,4, "block.go:65",#[⟨1,.data⟩,⟨3,.data⟩],none⟩) (v:=?_) rfl (by kernel_rfl) (by kernel_rfl) (by kernel_rfl) (fun _ _ _ h=>h) (Or.inl ⟨by rfl,?_⟩) Zjc ?_
  rotate_left
  ·(intro W hSw;(try dsimp only at hSw);go_simp;first|done|with_reducible rfl)
  (try simp only[Act.put,List.setIfInBounds_toArray,List.set_cons_zero,List.set_cons_succ])
  refine wpAnyH_take (i:=5) (oi:=⟨some 10,.move (.tmp 9),4, "block.go:65",#[⟨4,.data⟩,⟨3,.chain⟩],none⟩) (v:=?_) rfl (by kernel_rfl) (by kernel_rfl) (by kernel_rfl) (fun _ _ _ h=>h) (Or.inl ⟨by rfl,?_⟩) Zjc ?_
  rotate_left
  ·(intro W hSw;(try dsimp only at hSw);go_simp;first|done|with_reducible rfl)
  (try simp only[Act.put,List.setIfInBounds_toArray,List.set_cons_zero,List.set_cons_succ])
  refine wpAnyH_take (i:=6) (oi:=⟨some 11,.fieldAddr 39 (.tmp 2) 4,0, "block.go:65",#[⟨5,.guard⟩],some (5,true)⟩) (v:=undef) rfl (by kernel_rfl) (by kernel_rfl) (by kernel_rfl) (fun _ _ _ h=>h) (Or.inr ⟨by rfl,rfl⟩) Zjc ?_
  (try simp only[Act.put,List.setIfInBounds_toArray,List.set_cons_zero,List.set_cons_succ])
  refine wpAnyH_take (i:=7) (oi:=⟨some 12,.load 37 (.tmp 11),37, "block.go:65",#[⟨6,.data⟩,⟨5,.guard⟩],some (5,true)⟩) (v:=undef) rfl (by kernel_rfl) (by kernel_rfl) (by kernel_rfl) (fun _ _ _ h=>h) (Or.inr ⟨by rfl,rfl⟩) Zjc ?_
  (try simp only[Act.put,List.setIfInBounds_toArray,List.set_cons_zero,List.set_cons_succ])
  refine wpAnyH_take (i:=8) (oi:=⟨some 13,.fieldAddr 39 (.tmp 3) 4,0, "block.go:65",#[⟨5,.guard⟩],some (5,true)⟩) (v:=undef) rfl (by kernel_rfl) (by kernel_rfl) (by kernel_rfl) (fun _ _ _ h=>h) (Or.inr ⟨by rfl,rfl⟩) Zjc ?_
  (try simp only[Act.put,List.setIfInBounds_toArray,List.set_cons_zero,List.set_cons_succ])
  refine wpAnyH_take (i:=9) (oi:=⟨some 14,.load 37 (.tmp 13),37, "block.go:65",#[⟨8,.data⟩,⟨5,.guard⟩],some (5,true)⟩) (v:=undef) rfl (by kernel_rfl) (by kernel_rfl) (by kernel_rfl) (fun _ _ _ h=>h) (Or.inr ⟨by rfl,rfl⟩) Zjc ?_
  (try simp only[Act.put,List.setIfInBounds_toArray,List.set_cons_zero,List.set_cons_succ])
  refine wpAnyH_take (i:=10) (oi:=⟨some 15,.call { callee:=Callee.value (.func 29),args:=#[.tmp 12,.tmp 14,.func 30],argTypes:=#[37,37,63] },4, "block.go:65",#[⟨7,.data⟩,⟨9,.data⟩,⟨5,.chain⟩,⟨5,.guard⟩],some (5,true)⟩) (v:=undef) rfl (by kernel_rfl) (by kernel_rfl) (by kernel_rfl) (fun _ _ _ h=>h) (Or.inr ⟨by rfl,rfl⟩) Zjc ?_
  (try simp only[Act.put,List.setIfInBounds_toArray,List.set_cons_zero,List.set_cons_succ])
  refine wpAnyH_take (i:=11) (oi:=⟨some 16,.pick (.tmp 10) (.tmp 15) (.const (Value.bool false)),4, "block.go:65",#[⟨5,.data⟩,⟨10,.data⟩],none⟩) (v:=?_) rfl (by kernel_rfl) (by kernel_rfl) (by kernel_rfl) (fun _ _ _ h=>h) (Or.inl ⟨by rfl,?_⟩) Zjc ?_
  rotate_left
  ·(intro W hSw;(try dsimp only at hSw);go_simp;first|done|with_reducible rfl)
  (try simp only[Act.put,List.setIfInBounds_toArray,List.set_cons_zero,List.set_cons_succ])
  refine wpAnyH_take (i:=12) (oi:=⟨some 4,.assign (.tmp 16),4, "block.go:65",#[⟨11,.data⟩,⟨10,.chain⟩,⟨0,.phase⟩,⟨1,.phase⟩,⟨2,.phase⟩,⟨3,.phase⟩,⟨4,.phase⟩,⟨5,.phase⟩,⟨6,.phase⟩,⟨7,.phase⟩,⟨8,.phase⟩,⟨9,.phase⟩,⟨10,.phase⟩,⟨11,.phase⟩],none⟩) (v:=?_) rfl (by kernel_rfl) (by kernel_rfl) (by kernel_rfl) (fun _ _ _ h=>h) (Or.inl ⟨by rfl,?_⟩) Zjc ?_
  rotate_left
  ·(intro W hSw;(try dsimp only at hSw);go_simp;first|done|with_reducible rfl)
  (try simp only[Act.put,List.setIfInBounds_toArray,List.set_cons_zero,List.set_cons_succ])
  refine wpAnyH_done (by kernel_rfl) ?_ _
  have HBF:=Zb (Zf (Za HB) (Za HB3))
  go_wp2
  go_ret
  exact⟨by rw[←hov];rfl,Za HBF⟩
end Go.Proofs.YtmomfkikogbdeaaGreatDoor
