import Derived.Test.YtmomfkikogbdeaaGreatDoorG31
import Derived.Test.YtmomfkikogbdeaaGreatDoorG33
set_option maxHeartbeats 6400000
set_option maxRecDepth 10000
namespace Go.Proofs.YtmomfkikogbdeaaGreatDoor
open Go.RowKit
def Ya(N:List Int)(T:List Zk)(tip:Int):Int:=(Tr.blockE N T tip).1.2.1
section
variable {Z : Nat → Prop} {w : World} {d bm m : Nat} {ka na ba pa : Option Addr} {kn kc nn nc bn bc pn pc : Nat} {K : List ByteArray} {N : List Int} {T : List Zk} {P : List TxD} {tip : Int} {f : Int → Value} {β : Int → List Zh}
theorem Qb(h:DeskAt Z w d bm m ka kn kc K na nn nc N ba bn bc T pa pn pc P tip f β)(ht:(Lit.int .i64 tip).wf=true) :
  Calls Tryz.prog 108 #[.pointer (some ⟨d,0,none⟩)] w fun e w'=>e = .returned (f tip)∧Below w.heap.size w w':=by
 have hl:=h.mp.drew_look tip ht
 have c4:=Zd h.box 4 _ rfl
 have c5:=Zd h.box 5 _ rfl
 have dl:=lt_of_block h.box
 have HB:=Zb (Zj w)
 obtain⟨v,hv⟩:∃ v,f tip=v:=⟨_,rfl⟩
 rw[hv] at hl ⊢
 clear h ht hv
 go_enter Tryz.func108,Tryz.ntmps108
 go_wp2
 go_region
 go_wp2
 go_ret
 exact⟨rfl,Za HB⟩
theorem Qr(h:DeskAt Z w d bm m ka kn kc K na nn nc N ba bn bc T pa pn pc P tip f β)(z:Int)(hz:Ya N T tip=z) :
  Calls Tryz.prog 165 #[.pointer (some ⟨d,0,none⟩)] w fun e w'=>e = .returned (.int .i64 z)∧Below w.heap.size w w':=by
 obtain⟨⟨⟨bp,bh,bw,bo,bT⟩,y⟩,hx⟩:∃ r,Tr.blockE N T tip=r:=⟨_,rfl⟩
 have hz0:z=bh:=by rw[←hz];unfold Ya;rw[hx]
 subst hz0
 have CB:=Zb (fun V (hv:Below w.heap.size w V)=>Tr.block_is na ba nn nc bn bc N T tip (bp,z,bw,bo,bT) y V (h.later hv).now.n (h.later hv).now.b h.sn h.sb hx)
 have c1:=Zd h.box 1 _ rfl
 have c2:=Zd h.box 2 _ rfl
 have c4:=Zd h.box 4 _ rfl
 have dl:=lt_of_block h.box
 have KS:Hid (∀ U:World,Below w.heap.size w U→(U.cell? ⟨d,1,none⟩=some (.slice na nn nc)∧U.cell? ⟨d,2,none⟩=some (.slice ba bn bc)∧U.cell? ⟨d,4,none⟩=some (.int .i64 tip)∧d<U.heap.size)):=fun U hu=>⟨Ze hu c1,Ze hu c2,Ze hu c4,Nat.lt_of_lt_of_le dl hu.size⟩
 clear h hx hz c1 c2 c4 dl
 go_enter Tryz.func165,Tryz.ntmps165
 go_wp2_with fail
 go_cut [3,4] from 5 to 18 (fun s3 s4 wx=>∃ u,s3 = .pointer (some ⟨u,0,none⟩)∧Hid (wx.cell? ⟨u,1,none⟩=some (.int .i64 z)∧u<wx.heap.size)∧Hid (Below w.heap.size w wx))
 case first=>
  refine wp_region_held_drew (S:=fun U=>(U.cell? ⟨d,1,none⟩=some (.slice na nn nc)∧U.cell? ⟨d,2,none⟩=some (.slice ba bn bc)∧U.cell? ⟨d,4,none⟩=some (.int .i64 tip)∧d<U.heap.size)) (by kernel_rfl) ((Za KS) _ (Zj _)) (fun Zjc=>?_)
  refine tk 0 ⟨some 6,.move (.tmp 0),181, "desk.go:53",#[],none⟩ ?_ rfl ?_ Zjc ?_
  rotate_left
  ·(intro U hSw;obtain⟨s1,s2,s3,s4⟩:=hSw;go_simp;first|done|with_reducible rfl)
  (try simp only[Act.put,ZA,ZB,ZC])
  refine tk 1 ⟨some 7,.nilCheck (.tmp 6),0, "desk.go:53",#[⟨0,.data⟩],none⟩ ?_ rfl ?_ Zjc ?_
  rotate_left
  ·(intro U hSw;obtain⟨s1,s2,s3,s4⟩:=hSw;go_simp;first|done|with_reducible rfl)
  (try simp only[Act.put,ZA,ZB,ZC])
  refine tk 2 ⟨some 8,.fieldAddr 254 (.tmp 7) 1,0, "desk.go:53",#[⟨1,.data⟩],none⟩ ?_ rfl ?_ Zjc ?_
  rotate_left
  ·(intro U hSw;obtain⟨s1,s2,s3,s4⟩:=hSw;go_simp;first|done|with_reducible rfl)
  (try simp only[Act.put,ZA,ZB,ZC])
  refine tk 3 ⟨some 9,.fieldAddr 67 (.tmp 8) 0,0, "desk.go:53",#[⟨2,.data⟩],none⟩ ?_ rfl ?_ Zjc ?_
  rotate_left
  ·(intro U hSw;obtain⟨s1,s2,s3,s4⟩:=hSw;go_simp;first|done|with_reducible rfl)
  (try simp only[Act.put,ZA,ZB,ZC])
  refine tk 4 ⟨some 10,.load 28 (.tmp 9),28, "desk.go:53",#[⟨3,.data⟩],none⟩ ?_ rfl ?_ Zjc ?_
  rotate_left
  ·(intro U hSw;obtain⟨s1,s2,s3,s4⟩:=hSw;go_simp;first|done|with_reducible rfl)
  (try simp only[Act.put,ZA,ZB,ZC])
  refine tk 5 ⟨some 11,.move (.tmp 0),181, "desk.go:53",#[],none⟩ ?_ rfl ?_ Zjc ?_
  rotate_left
  ·(intro U hSw;obtain⟨s1,s2,s3,s4⟩:=hSw;go_simp;first|done|with_reducible rfl)
  (try simp only[Act.put,ZA,ZB,ZC])
  refine tk 6 ⟨some 12,.nilCheck (.tmp 11),0, "desk.go:53",#[⟨5,.data⟩],none⟩ ?_ rfl ?_ Zjc ?_
  rotate_left
  ·(intro U hSw;obtain⟨s1,s2,s3,s4⟩:=hSw;go_simp;first|done|with_reducible rfl)
  (try simp only[Act.put,ZA,ZB,ZC])
  refine tk 7 ⟨some 13,.fieldAddr 254 (.tmp 12) 1,0, "desk.go:53",#[⟨6,.data⟩],none⟩ ?_ rfl ?_ Zjc ?_
  rotate_left
  ·(intro U hSw;obtain⟨s1,s2,s3,s4⟩:=hSw;go_simp;first|done|with_reducible rfl)
  (try simp only[Act.put,ZA,ZB,ZC])
  refine tk 8 ⟨some 14,.fieldAddr 67 (.tmp 13) 2,0, "desk.go:53",#[⟨7,.data⟩],none⟩ ?_ rfl ?_ Zjc ?_
  rotate_left
  ·(intro U hSw;obtain⟨s1,s2,s3,s4⟩:=hSw;go_simp;first|done|with_reducible rfl)
  (try simp only[Act.put,ZA,ZB,ZC])
  refine tk 9 ⟨some 15,.load 3 (.tmp 14),3, "desk.go:53",#[⟨8,.data⟩],none⟩ ?_ rfl ?_ Zjc ?_
  rotate_left
  ·(intro U hSw;obtain⟨s1,s2,s3,s4⟩:=hSw;go_simp;first|done|with_reducible rfl)
  (try simp only[Act.put,ZA,ZB,ZC])
  refine wpAnyH_ready (rs:=[10,14]) (by kernel_rfl) (by simp) ?_
  refine AllReadyH.cons (o:=⟨some 16,.call { callee:=Callee.value (.func 20),args:=#[.tmp 10,.tmp 15],argTypes:=#[28,3] },40, "desk.go:53",#[⟨4,.data⟩,⟨9,.data⟩],none⟩) rfl (fun KQ hK=>?_) (AllReadyH.cons (o:=⟨some 3,.alloc 39,0, "desk.go:53",#[],none⟩) rfl (fun KQ hK=>?_) AllReadyH.nil)
  ·refine Zl (by kernel_rfl) 20 #[.agg #[.slice na nn nc,.slice ba bn bc],.int .i64 tip] (by kernel_rfl) ((Za CB) w.drew (Zj w)) ?_
   rintro e w5 ⟨ta,tn,tc,rfl,-,-,hb5⟩
   refine⟨_,rfl,?_⟩
   have hb:Below w.heap.size w w5:=Zf (Zj w) hb5
   refine hK.out _ _ ((Za KS) _ hb) (fun Zjd=>?_)
   clear hK KQ Zjc
   have Zjc:=Zjd
   clear Zjd
   (try simp only[Act.put,ZA,ZB,ZC])
   refine tk 11 ⟨some 5,.move (.tmp 16),40, "desk.go:53",#[⟨10,.data⟩],none⟩ ?_ rfl ?_ Zjc ?_
   rotate_left
   ·(intro U hSw;(try dsimp only at hSw);go_simp;first|done|with_reducible rfl)
   (try simp only[Act.put,ZA,ZB,ZC])
   refine tk 12 ⟨some 17,.extract (.tmp 5) 0,39, "desk.go:53",#[⟨11,.data⟩],none⟩ ?_ rfl ?_ Zjc ?_
   rotate_left
   ·(intro U hSw;(try dsimp only at hSw);go_simp;first|done|with_reducible rfl)
   (try simp only[Act.put,ZA,ZB,ZC])
   refine tk 13 ⟨some 18,.extract (.tmp 5) 1,30, "desk.go:53",#[⟨11,.data⟩,⟨15,.gcOnly .lateStores⟩],none⟩ ?_ rfl ?_ Zjc ?_
   rotate_left
   ·(intro U hSw;(try dsimp only at hSw);go_simp;first|done|with_reducible rfl)
   (try simp only[Act.put,ZA,ZB,ZC])
   refine wpAnyH_ready (rs:=[14]) (by kernel_rfl) (by simp) ?_
   refine AllReadyH.cons (o:=⟨some 3,.alloc 39,0, "desk.go:53",#[],none⟩) rfl (fun KQ hK=>?_) AllReadyH.nil
   go_simp
   obtain⟨w6,hw6⟩:∃ w6,w6=w5.alloc (.cells #[.int .i64 0,.int .i64 0,.int .i64 0,.int .i64 0,.slice none 0 0] 39):=⟨_,rfl⟩
   rw[←hw6]
   have hb6:Below w.heap.size w w6:=by rw[hw6];exact Zf hb (Zi _ _)
   have hu:w6.heap[w5.heap.size]? = some (.cells [.int .i64 0,.int .i64 0,.int .i64 0,.int .i64 0,.slice none 0 0].toArray 39 (0,0)):=by rw[hw6];exact Zv _ _ _ _ _ _ _
   clear hw6
   have hle:=hb.size
   have u50:=Zd hu 0 _ rfl
   have u5f0:=Zg hu 0
   have u51:=Zd hu 1 _ rfl
   have u5f1:=Zg hu 1
   have u52:=Zd hu 2 _ rfl
   have u5f2:=Zg hu 2
   have u53:=Zd hu 3 _ rfl
   have u5f3:=Zg hu 3
   have u54:=Zd hu 4 _ rfl
   have u5f4:=Zg hu 4
   have u5l:=lt_of_block hu
   refine hK.out _ _ ((Za KS) _ hb6) (fun Zjd=>?_)
   clear hK KQ Zjc
   have Zjc:=Zjd
   clear Zjd
   (try simp only[Act.put,ZA,ZB,ZC])
   refine wpAnyH_ready (rs:=[15]) (by kernel_rfl) (by simp) ?_
   refine AllReadyH.cons (o:=⟨none,.store 39 (.tmp 3) (.tmp 17),0, "desk.go:53",#[⟨14,.data⟩,⟨12,.data⟩,⟨10,.chain⟩,⟨0,.phase⟩,⟨1,.phase⟩,⟨2,.phase⟩,⟨3,.phase⟩,⟨4,.phase⟩,⟨5,.phase⟩,⟨6,.phase⟩,⟨7,.phase⟩,⟨8,.phase⟩,⟨9,.phase⟩,⟨10,.phase⟩,⟨11,.phase⟩,⟨12,.phase⟩,⟨13,.textOnly .lateStores⟩,⟨14,.phase⟩],none⟩) rfl (fun KQ hK=>?_) AllReadyH.nil
   go_simp
   refine hK.out _ _ ((Za KS) _ (Gr.below (S:=fun q=>q=w5.heap.size) ((Gr.refl _ (fun q=>q=w5.heap.size)).five w5.heap.size (.inl rfl) _ _ _ _ _) hb6 (hb6).size (fun q e=>by have e:q=w5.heap.size:=e;omega))) (fun Zjd=>?_)
   clear hK KQ Zjc
   have Zjc:=Zjd
   clear Zjd
   (try simp only[Act.put])
   refine tk 16 ⟨some 4,.assign (.tmp 18),30, "desk.go:53",#[⟨13,.data⟩,⟨15,.chain⟩,⟨0,.phase⟩,⟨1,.phase⟩,⟨2,.phase⟩,⟨3,.phase⟩,⟨4,.phase⟩,⟨5,.phase⟩,⟨6,.phase⟩,⟨7,.phase⟩,⟨8,.phase⟩,⟨9,.phase⟩,⟨10,.phase⟩,⟨11,.phase⟩,⟨12,.phase⟩,⟨13,.phase⟩,⟨14,.phase⟩,⟨15,.phase⟩],none⟩ ?_ rfl ?_ Zjc ?_
   rotate_left
   ·(intro U hSw;(try dsimp only at hSw);go_simp;first|done|with_reducible rfl)
   (try simp only[Act.put,ZA,ZB,ZC])
   refine wpAnyH_done (by kernel_rfl) ?_ _
   clear Zjc
   go_wp2_with fail
   go_meet
   case rel=>exact⟨w5.heap.size,rfl,⟨Zd (Tr.set_cells (Tr.set_cells (Tr.set_cells (Tr.set_cells (Tr.set_cells hu 0 _) 1 _) 2 _) 3 _) 4 _) 1 _ rfl,lt_of_block (Tr.set_cells (Tr.set_cells (Tr.set_cells (Tr.set_cells (Tr.set_cells hu 0 _) 1 _) 2 _) 3 _) 4 _)⟩,Gr.below (S:=fun q=>q=w5.heap.size) ((Gr.refl _ (fun q=>q=w5.heap.size)).five w5.heap.size (.inl rfl) _ _ _ _ _) hb6 (hb6).size (fun q e=>by have e:q=w5.heap.size:=e;omega)⟩
  ·go_simp
   obtain⟨w6,hw6⟩:∃ w6,w6=(w.alloc (.cells #[.int .i64 0,.int .i64 0,.int .i64 0,.int .i64 0,.slice none 0 0] 39)).drew:=⟨_,rfl⟩
   rw[←hw6]
   have hb6:Below w.heap.size w w6:=by rw[hw6];exact Zf (Zi _ _) (Zj _)
   have hu6:w6.heap[w.heap.size]? = some (.cells [.int .i64 0,.int .i64 0,.int .i64 0,.int .i64 0,.slice none 0 0].toArray 39 (0,0)):=by rw[hw6];exact Zv _ _ _ _ _ _ _
   clear hw6
   refine hK.out _ _ ((Za KS) _ hb6) (fun Zjd=>?_)
   clear hK KQ Zjc
   have Zjc:=Zjd
   clear Zjd
   (try simp only[Act.put,ZA,ZB,ZC])
   refine wpAnyH_ready (rs:=[10]) (by kernel_rfl) (by simp) ?_
   refine AllReadyH.cons (o:=⟨some 16,.call { callee:=Callee.value (.func 20),args:=#[.tmp 10,.tmp 15],argTypes:=#[28,3] },40, "desk.go:53",#[⟨4,.data⟩,⟨9,.data⟩],none⟩) rfl (fun KQ hK=>?_) AllReadyH.nil
   refine Zl (by kernel_rfl) 20 #[.agg #[.slice na nn nc,.slice ba bn bc],.int .i64 tip] (by kernel_rfl) ((Za CB) w6 hb6) ?_
   rintro e w5 ⟨ta,tn,tc,rfl,-,-,hb5⟩
   refine⟨_,rfl,?_⟩
   have hb:Below w.heap.size w w5:=Zf hb6 hb5
   have hu:=(hb5.block _ (lt_of_block hu6)).trans hu6
   have u50:=Zd hu 0 _ rfl
   have u5f0:=Zg hu 0
   have u51:=Zd hu 1 _ rfl
   have u5f1:=Zg hu 1
   have u52:=Zd hu 2 _ rfl
   have u5f2:=Zg hu 2
   have u53:=Zd hu 3 _ rfl
   have u5f3:=Zg hu 3
   have u54:=Zd hu 4 _ rfl
   have u5f4:=Zg hu 4
   have u5l:=lt_of_block hu
   refine hK.out _ _ ((Za KS) _ hb) (fun Zjd=>?_)
   clear hK KQ Zjc
   have Zjc:=Zjd
   clear Zjd
   (try simp only[Act.put,ZA,ZB,ZC])
   refine tk 11 ⟨some 5,.move (.tmp 16),40, "desk.go:53",#[⟨10,.data⟩],none⟩ ?_ rfl ?_ Zjc ?_
   rotate_left
   ·(intro U hSw;(try dsimp only at hSw);go_simp;first|done|with_reducible rfl)
   (try simp only[Act.put,ZA,ZB,ZC])
   refine tk 12 ⟨some 17,.extract (.tmp 5) 0,39, "desk.go:53",#[⟨11,.data⟩],none⟩ ?_ rfl ?_ Zjc ?_
   rotate_left
   ·(intro U hSw;(try dsimp only at hSw);go_simp;first|done|with_reducible rfl)
   (try simp only[Act.put,ZA,ZB,ZC])
   refine tk 13 ⟨some 18,.extract (.tmp 5) 1,30, "desk.go:53",#[⟨11,.data⟩,⟨15,.gcOnly .lateStores⟩],none⟩ ?_ rfl ?_ Zjc ?_
   rotate_left
   ·(intro U hSw;(try dsimp only at hSw);go_simp;first|done|with_reducible rfl)
   (try simp only[Act.put,ZA,ZB,ZC])
   refine wpAnyH_ready (rs:=[15]) (by kernel_rfl) (by simp) ?_
   refine AllReadyH.cons (o:=⟨none,.store 39 (.tmp 3) (.tmp 17),0, "desk.go:53",#[⟨14,.data⟩,⟨12,.data⟩,⟨10,.chain⟩,⟨0,.phase⟩,⟨1,.phase⟩,⟨2,.phase⟩,⟨3,.phase⟩,⟨4,.phase⟩,⟨5,.phase⟩,⟨6,.phase⟩,⟨7,.phase⟩,⟨8,.phase⟩,⟨9,.phase⟩,⟨10,.phase⟩,⟨11,.phase⟩,⟨12,.phase⟩,⟨13,.textOnly .lateStores⟩,⟨14,.phase⟩],none⟩) rfl (fun KQ hK=>?_) AllReadyH.nil
   go_simp
   refine hK.out _ _ ((Za KS) _ (Gr.below (S:=fun q=>q=w.heap.size) ((Gr.refl _ (fun q=>q=w.heap.size)).five w.heap.size (.inl rfl) _ _ _ _ _) hb (hb).size (fun q e=>by have e:q=w.heap.size:=e;omega))) (fun Zjd=>?_)
   clear hK KQ Zjc
   have Zjc:=Zjd
   clear Zjd
   (try simp only[Act.put])
   refine tk 16 ⟨some 4,.assign (.tmp 18),30, "desk.go:53",#[⟨13,.data⟩,⟨15,.chain⟩,⟨0,.phase⟩,⟨1,.phase⟩,⟨2,.phase⟩,⟨3,.phase⟩,⟨4,.phase⟩,⟨5,.phase⟩,⟨6,.phase⟩,⟨7,.phase⟩,⟨8,.phase⟩,⟨9,.phase⟩,⟨10,.phase⟩,⟨11,.phase⟩,⟨12,.phase⟩,⟨13,.phase⟩,⟨14,.phase⟩,⟨15,.phase⟩],none⟩ ?_ rfl ?_ Zjc ?_
   rotate_left
   ·(intro U hSw;(try dsimp only at hSw);go_simp;first|done|with_reducible rfl)
   (try simp only[Act.put,ZA,ZB,ZC])
   refine wpAnyH_done (by kernel_rfl) ?_ _
   clear Zjc
   go_wp2_with fail
   go_meet
   case rel=>exact⟨w.heap.size,rfl,⟨Zd (Tr.set_cells (Tr.set_cells (Tr.set_cells (Tr.set_cells (Tr.set_cells hu 0 _) 1 _) 2 _) 3 _) 4 _) 1 _ rfl,lt_of_block (Tr.set_cells (Tr.set_cells (Tr.set_cells (Tr.set_cells (Tr.set_cells hu 0 _) 1 _) 2 _) 3 _) 4 _)⟩,Gr.below (S:=fun q=>q=w.heap.size) ((Gr.refl _ (fun q=>q=w.heap.size)).five w.heap.size (.inl rfl) _ _ _ _ _) hb (hb).size (fun q e=>by have e:q=w.heap.size:=e;omega)⟩
 case rest=>
  obtain⟨u,rfl,hu,hb⟩:=hcut
  obtain⟨u1,ul⟩:=Za hu
  clear hu KS CB
  go_wp2
  go_ret
  exact⟨rfl,Za hb⟩
theorem Pc(h:DeskAt Z w d bm m ka kn kc K na nn nc N ba bn bc T pa pn pc P tip f β)(s p hh k o:Int)(a:Option Addr)(n c:Nat)(L:List TxD)(x:Int)(C':List Zh)(U':List (List Zh))(hE:Env w)(hL:TxsAt w a n L)(hm:m<1000000)(hs:(Lit.int .i64 s).wf=true)(hp:(Lit.int .i64 p).wf=true)(hx:Wf K (β p) (p,hh,k,o,L)=(x,C',U')) :
  Calls Tryz.prog 162 #[.pointer (some ⟨d,0,none⟩),.int .i64 s,.agg #[.int .i64 p,.int .i64 hh,.int .i64 k,.int .i64 o,.slice a n c]] w fun e w'=>e = .returned (.int .i64 x)∧∃ f',DeskAt Z w' d bm (m+1) ka kn kc K na nn nc N ba bn bc T pa pn pc P tip f' (Xq β s C')∧Gr w w' (fun q=>q=bm):=by
 obtain⟨X,hX⟩:∃ X,X=w.alloc (.cells #[.int .i64 p,.int .i64 hh,.int .i64 k,.int .i64 o,.slice a n c] 39):=⟨_,rfl⟩
 have hbX:Below w.heap.size w X:=by rw[hX];exact Zi _ _
 have hX0:X.heap[w.heap.size]? = some (.cells [.int .i64 p,.int .i64 hh,.int .i64 k,.int .i64 o,.slice a n c].toArray 39 (0,0)):=by rw[hX];exact Zv _ _ _ _ _ _ _
 obtain⟨ca,cn,cc,hfp,_,sC⟩:=h.c p
 have hX2:=h.later (Zf hbX (Zj X))
 have CC:=Zb (show Calls Tryz.prog 21 #[.agg #[.slice ka kn kc],.slice ca cn cc,.agg #[.int .i64 p,.int .i64 hh,.int .i64 k,.int .i64 o,.slice a n c]] X.drew fun e w'=>Zja X.drew w' x C' U' e from Bj ka kn kc K ca cn cc (β p) p hh k o a n c L x C' U' X.drew (hE.later (Zf hbX (Zj X))) hX2.now.k (by obtain⟨a2,n2,c2,q1,q2,_⟩:=hX2.c p;rw[hfp] at q1;injection q1 with e1 e2 e3;subst e1 e2 e3;exact q2) sC (hL.later (Zf hbX (Zj X))) hx)
 have hl:=hX2.mp.look p hp
 rw[hfp] at hl
 have HPUT:=Zb (fun W (hw:Below X.drew.heap.size X.drew W) v=>(h.later (Zf (Zf hbX (Zj X)) hw)).mp.put hm s hs v)
 have HH:=Zb h
 have HBX:=Zb hbX
 have hne:=h.ne
 have d0:=Zd hX2.box 0 _ rfl
 have d5:=Zd hX2.box 5 _ rfl
 have dl:=lt_of_block hX2.box
 have hml:=hX2.mp.lt
 have e0:=Zd hX0 0 _ rfl
 have e1:=Zd hX0 1 _ rfl
 have e2:=Zd hX0 2 _ rfl
 have e3:=Zd hX0 3 _ rfl
 have e4:=Zd hX0 4 _ rfl
 have el:=lt_of_block hX0
 have hmlt:bm<w.heap.size:=h.mp.lt
 have KS:Hid (∀ U:World,Gr X.drew U (fun q=>q=bm)→((U.cell? ⟨d,0,none⟩=some (.slice ka kn kc)∧U.cell? ⟨d,5,none⟩=some (.map (some bm))∧d<U.heap.size)∧U.cell? ⟨w.heap.size,0,none⟩=some (.int .i64 p)∧U.cell? ⟨w.heap.size,1,none⟩=some (.int .i64 hh)∧U.cell? ⟨w.heap.size,2,none⟩=some (.int .i64 k)∧U.cell? ⟨w.heap.size,3,none⟩=some (.int .i64 o)∧U.cell? ⟨w.heap.size,4,none⟩=some (.slice a n c)∧w.heap.size<U.heap.size)):=fun U hu=>⟨⟨hu.cell d0 (by simp;omega),hu.cell d5 (by simp;omega),Nat.lt_of_lt_of_le dl hu.size⟩,hu.cell e0 (by simp;omega),hu.cell e1 (by simp;omega),hu.cell e2 (by simp;omega),hu.cell e3 (by simp;omega),hu.cell e4 (by simp;omega),Nat.lt_of_lt_of_le el hu.size⟩
 clear hE hL hx hs hp hm h hbX hX0 hX2 sC hfp d0 d5 dl e0 e1 e2 e3 e4 el
 go_enter Tryz.func162,Tryz.ntmps162
 go_upto_region 1 with fail
 rw[←hX]
 clear hX
 refine wp_region_held_drew (S:=fun U=>(U.cell? ⟨d,0,none⟩=some (.slice ka kn kc)∧U.cell? ⟨d,5,none⟩=some (.map (some bm))∧d<U.heap.size)∧U.cell? ⟨w.heap.size,0,none⟩=some (.int .i64 p)∧U.cell? ⟨w.heap.size,1,none⟩=some (.int .i64 hh)∧U.cell? ⟨w.heap.size,2,none⟩=some (.int .i64 k)∧U.cell? ⟨w.heap.size,3,none⟩=some (.int .i64 o)∧U.cell? ⟨w.heap.size,4,none⟩=some (.slice a n c)∧w.heap.size<U.heap.size) (by kernel_rfl) ((Za KS) _ (Gr.refl _ _)) (fun Zjc=>?_)
 refine tk 0 ⟨some 8,.move (.tmp 0),181, "desk.go:44",#[],none⟩ ?_ rfl ?_ Zjc ?_
 rotate_left
 ·(intro U hSw;obtain⟨⟨s1,s2,s3⟩,s4,s5,s6,s7,s8,s9⟩:=hSw;go_simp;first|done|with_reducible rfl)
 (try simp only[Act.put,ZA,ZB,ZC])
 refine tk 1 ⟨some 9,.nilCheck (.tmp 8),0, "desk.go:44",#[⟨0,.data⟩],none⟩ ?_ rfl ?_ Zjc ?_
 rotate_left
 ·(intro U hSw;obtain⟨⟨s1,s2,s3⟩,s4,s5,s6,s7,s8,s9⟩:=hSw;go_simp;first|done|with_reducible rfl)
 (try simp only[Act.put,ZA,ZB,ZC])
 refine tk 2 ⟨some 10,.fieldAddr 254 (.tmp 9) 2,0, "desk.go:44",#[⟨1,.data⟩],none⟩ ?_ rfl ?_ Zjc ?_
 rotate_left
 ·(intro U hSw;obtain⟨⟨s1,s2,s3⟩,s4,s5,s6,s7,s8,s9⟩:=hSw;go_simp;first|done|with_reducible rfl)
 (try simp only[Act.put,ZA,ZB,ZC])
 refine tk 3 ⟨some 11,.load 252 (.tmp 10),252, "desk.go:44",#[⟨2,.data⟩],none⟩ ?_ rfl ?_ Zjc ?_
 rotate_left
 ·(intro U hSw;obtain⟨⟨s1,s2,s3⟩,s4,s5,s6,s7,s8,s9⟩:=hSw;go_simp;first|done|with_reducible rfl)
 (try simp only[Act.put,ZA,ZB,ZC])
 refine tk 4 ⟨some 12,.move (.tmp 1),3, "desk.go:44",#[],none⟩ ?_ rfl ?_ Zjc ?_
 rotate_left
 ·(intro U hSw;obtain⟨⟨s1,s2,s3⟩,s4,s5,s6,s7,s8,s9⟩:=hSw;go_simp;first|done|with_reducible rfl)
 (try simp only[Act.put,ZA,ZB,ZC])
 refine tk 5 ⟨some 13,.move (.tmp 0),181, "desk.go:44",#[],none⟩ ?_ rfl ?_ Zjc ?_
 rotate_left
 ·(intro U hSw;obtain⟨⟨s1,s2,s3⟩,s4,s5,s6,s7,s8,s9⟩:=hSw;go_simp;first|done|with_reducible rfl)
 (try simp only[Act.put,ZA,ZB,ZC])
 refine tk 6 ⟨some 14,.nilCheck (.tmp 13),0, "desk.go:44",#[⟨5,.data⟩],none⟩ ?_ rfl ?_ Zjc ?_
 rotate_left
 ·(intro U hSw;obtain⟨⟨s1,s2,s3⟩,s4,s5,s6,s7,s8,s9⟩:=hSw;go_simp;first|done|with_reducible rfl)
 (try simp only[Act.put,ZA,ZB,ZC])
 refine tk 7 ⟨some 15,.fieldAddr 254 (.tmp 14) 0,0, "desk.go:44",#[⟨6,.data⟩],none⟩ ?_ rfl ?_ Zjc ?_
 rotate_left
 ·(intro U hSw;obtain⟨⟨s1,s2,s3⟩,s4,s5,s6,s7,s8,s9⟩:=hSw;go_simp;first|done|with_reducible rfl)
 (try simp only[Act.put,ZA,ZB,ZC])
 refine tk 8 ⟨some 16,.load 24 (.tmp 15),24, "desk.go:44",#[⟨7,.data⟩],none⟩ ?_ rfl ?_ Zjc ?_
 rotate_left
 ·(intro U hSw;obtain⟨⟨s1,s2,s3⟩,s4,s5,s6,s7,s8,s9⟩:=hSw;go_simp;first|done|with_reducible rfl)
 (try simp only[Act.put,ZA,ZB,ZC])
 refine tk 9 ⟨some 17,.move (.tmp 0),181, "desk.go:44",#[],none⟩ ?_ rfl ?_ Zjc ?_
 rotate_left
 ·(intro U hSw;obtain⟨⟨s1,s2,s3⟩,s4,s5,s6,s7,s8,s9⟩:=hSw;go_simp;first|done|with_reducible rfl)
 (try simp only[Act.put,ZA,ZB,ZC])
 refine tk 10 ⟨some 18,.nilCheck (.tmp 17),0, "desk.go:44",#[⟨9,.data⟩],none⟩ ?_ rfl ?_ Zjc ?_
 rotate_left
 ·(intro U hSw;obtain⟨⟨s1,s2,s3⟩,s4,s5,s6,s7,s8,s9⟩:=hSw;go_simp;first|done|with_reducible rfl)
 (try simp only[Act.put,ZA,ZB,ZC])
 refine tk 11 ⟨some 19,.fieldAddr 254 (.tmp 18) 2,0, "desk.go:44",#[⟨10,.data⟩],none⟩ ?_ rfl ?_ Zjc ?_
 rotate_left
 ·(intro U hSw;obtain⟨⟨s1,s2,s3⟩,s4,s5,s6,s7,s8,s9⟩:=hSw;go_simp;first|done|with_reducible rfl)
 (try simp only[Act.put,ZA,ZB,ZC])
 refine tk 12 ⟨some 20,.load 252 (.tmp 19),252, "desk.go:44",#[⟨11,.data⟩],none⟩ ?_ rfl ?_ Zjc ?_
 rotate_left
 ·(intro U hSw;obtain⟨⟨s1,s2,s3⟩,s4,s5,s6,s7,s8,s9⟩:=hSw;go_simp;first|done|with_reducible rfl)
 (try simp only[Act.put,ZA,ZB,ZC])
 refine tk 13 ⟨some 21,.fieldAddr 39 (.tmp 5) 0,0, "desk.go:44",#[],none⟩ ?_ rfl ?_ Zjc ?_
 rotate_left
 ·(intro U hSw;obtain⟨⟨s1,s2,s3⟩,s4,s5,s6,s7,s8,s9⟩:=hSw;go_simp;first|done|with_reducible rfl)
 (try simp only[Act.put,ZA,ZB,ZC])
 refine tk 14 ⟨some 22,.load 3 (.tmp 21),3, "desk.go:44",#[⟨13,.data⟩],none⟩ ?_ rfl ?_ Zjc ?_
 rotate_left
 ·(intro U hSw;obtain⟨⟨s1,s2,s3⟩,s4,s5,s6,s7,s8,s9⟩:=hSw;go_simp;first|done|with_reducible rfl)
 (try simp only[Act.put,ZA,ZB,ZC])
 refine tk 16 ⟨some 24,.load 39 (.tmp 5),39, "desk.go:44",#[],none⟩ ?_ rfl ?_ Zjc ?_
 rotate_left
 ·(intro U hSw;obtain⟨⟨s1,s2,s3⟩,s4,s5,s6,s7,s8,s9⟩:=hSw;go_simp;first|done|with_reducible rfl)
 (try simp only[Act.put,ZA,ZB,ZC])
 refine wpAnyH_ready (rs:=[15]) (by kernel_rfl) (by simp) ?_
 refine AllReadyH.cons (o:=⟨some 23,.lookup 252 (.tmp 20) (.tmp 22) false,29, "desk.go:44",#[⟨12,.data⟩,⟨14,.data⟩],none⟩) rfl (fun KQ hK=>?_) AllReadyH.nil
 go_simp
 refine hK.out _ _ ((Za KS) _ (Gr.refl _ _)) (fun Zjd=>?_)
 clear hK KQ Zjc
 have Zjc:=Zjd
 clear Zjd
 (try simp only[Act.put,ZA,ZB,ZC])
 refine wpAnyH_ready (rs:=[17]) (by kernel_rfl) (by simp) ?_
 refine AllReadyH.cons (o:=⟨some 25,.call { callee:=Callee.value (.func 21),args:=#[.tmp 16,.tmp 23,.tmp 24],argTypes:=#[24,29,39] },43, "desk.go:44",#[⟨8,.data⟩,⟨15,.data⟩,⟨16,.data⟩],none⟩) rfl (fun KQ hK=>?_) AllReadyH.nil
 refine Zl (by kernel_rfl) 21 #[.agg #[.slice ka kn kc],.slice ca cn cc,.agg #[.int .i64 p,.int .i64 hh,.int .i64 k,.int .i64 o,.slice a n c]] (by kernel_rfl) (Za CC) ?_
 rintro e w5 ⟨ra,rn,rc,ua,un,uc,rfl,hC5,sC5,-,-,hb5,-⟩
 refine⟨_,rfl,?_⟩
 refine hK.out _ _ ((Za KS) _ (Gr.of hb5)) (fun Zjd=>?_)
 clear hK KQ Zjc
 have Zjc:=Zjd
 clear Zjd
 (try simp only[Act.put,ZA,ZB,ZC])
 refine tk 18 ⟨some 7,.move (.tmp 25),43, "desk.go:44",#[⟨17,.data⟩],none⟩ ?_ rfl ?_ Zjc ?_
 rotate_left
 ·(intro U hSw;(try dsimp only at hSw);go_simp;first|done|with_reducible rfl)
 (try simp only[Act.put,ZA,ZB,ZC])
 refine tk 19 ⟨some 26,.extract (.tmp 7) 0,29, "desk.go:44",#[⟨18,.data⟩],none⟩ ?_ rfl ?_ Zjc ?_
 rotate_left
 ·(intro U hSw;(try dsimp only at hSw);go_simp;first|done|with_reducible rfl)
 (try simp only[Act.put,ZA,ZB,ZC])
 refine tk 20 ⟨some 27,.extract (.tmp 7) 1,42, "desk.go:44",#[⟨18,.data⟩,⟨22,.gcOnly .lateStores⟩],none⟩ ?_ rfl ?_ Zjc ?_
 rotate_left
 ·(intro U hSw;(try dsimp only at hSw);go_simp;first|done|with_reducible rfl)
 (try simp only[Act.put,ZA,ZB,ZC])
 refine tk 21 ⟨some 28,.extract (.tmp 7) 2,30, "desk.go:44",#[⟨18,.data⟩,⟨22,.gcOnly .lateStores⟩],none⟩ ?_ rfl ?_ Zjc ?_
 rotate_left
 ·(intro U hSw;(try dsimp only at hSw);go_simp;first|done|with_reducible rfl)
 (try simp only[Act.put,ZA,ZB,ZC])
 obtain⟨w6,hrun,hB6,hg6⟩:=(Za HPUT) w5 hb5 (.slice ra rn rc)
 have hgr:Gr X.drew w6 (fun q=>q=bm):=(Gr.of hb5).grown hg6 (fun q e=>.inl (by injection e with e;exact e.symm))
 refine wpAnyH_ready (rs:=[22]) (by kernel_rfl) (by simp) ?_
 refine AllReadyH.cons (o:=⟨none,.mapUpdate 252 (.tmp 11) (.tmp 12) (.tmp 26),0, "desk.go:44",#[⟨3,.data⟩,⟨4,.data⟩,⟨19,.data⟩,⟨17,.chain⟩,⟨0,.phase⟩,⟨1,.phase⟩,⟨2,.phase⟩,⟨3,.phase⟩,⟨4,.phase⟩,⟨5,.phase⟩,⟨6,.phase⟩,⟨7,.phase⟩,⟨8,.phase⟩,⟨9,.phase⟩,⟨10,.phase⟩,⟨11,.phase⟩,⟨12,.phase⟩,⟨13,.phase⟩,⟨14,.phase⟩,⟨15,.phase⟩,⟨16,.phase⟩,⟨17,.phase⟩,⟨18,.phase⟩,⟨19,.phase⟩,⟨20,.textOnly .lateStores⟩,⟨21,.textOnly .lateStores⟩],none⟩) rfl (fun KQ hK=>?_) AllReadyH.nil
 go_simp
 refine hK.out _ _ ((Za KS) _ hgr) (fun Zjd=>?_)
 clear hK KQ Zjc
 have Zjc:=Zjd
 clear Zjd
 (try simp only[Act.put])
 refine tk 23 ⟨some 6,.assign (.tmp 28),30, "desk.go:44",#[⟨21,.data⟩,⟨22,.chain⟩,⟨0,.phase⟩,⟨1,.phase⟩,⟨2,.phase⟩,⟨3,.phase⟩,⟨4,.phase⟩,⟨5,.phase⟩,⟨6,.phase⟩,⟨7,.phase⟩,⟨8,.phase⟩,⟨9,.phase⟩,⟨10,.phase⟩,⟨11,.phase⟩,⟨12,.phase⟩,⟨13,.phase⟩,⟨14,.phase⟩,⟨15,.phase⟩,⟨16,.phase⟩,⟨17,.phase⟩,⟨18,.phase⟩,⟨19,.phase⟩,⟨20,.phase⟩,⟨21,.phase⟩,⟨22,.phase⟩],none⟩ ?_ rfl ?_ Zjc ?_
 rotate_left
 ·(intro U hSw;(try dsimp only at hSw);go_simp;first|done|with_reducible rfl)
 (try simp only[Act.put,ZA,ZB,ZC])
 refine wpAnyH_done (by kernel_rfl) ?_ _
 clear Zjc
 have hw5:=Zf (Zf (Za HBX) (Zj X)) hb5
 have FIN:Hid (∃ f',DeskAt Z w6 d bm (m+1) ka kn kc K na nn nc N ba bn bc T pa pn pc P tip f' (Xq β s C')∧Gr w w6 (fun q=>q=bm)):=⟨_,(Za HH).put hw5 hC5 sC5 hB6 hg6,(Gr.of hw5).grown hg6 (fun q e=>.inl (by injection e with e;exact e.symm))⟩
 clear hC5 sC5 hb5 hrun hB6 hg6 hgr hw5 HPUT HH CC KS hl
 go_wp2
 go_ret
 obtain⟨f',h1,h2⟩:=Za FIN
 exact⟨rfl,f',h1,h2⟩
end
def Zq(K:List ByteArray):List Int→List Zk→(Int→List Zh)→Int×(Int→List Zh)
 | s :: N,b :: T,β=>if kbD K s b=false then (5,β) else if (Wf K (β b.1) b).1≠0 then ((Wf K (β b.1) b).1,β) else Zq K N T (Xq β s (Wf K (β b.1) b).2.1)
 | [],_,β=>(0,β)
 | _ :: _,[],β=>(0,β)
theorem Zhj{K:List ByteArray}{N:List Int}{T:List Zk}{β : Int→List Zh}{k:Nat}(h1:k<N.length)(h2:k<T.length):Zq K (N.drop k) (T.drop k) β = if kbD K N[k] T[k]=false then (5,β) else if (Wf K (β T[k].1) T[k]).1≠0 then ((Wf K (β T[k].1) T[k]).1,β) else Zq K (N.drop (k+1)) (T.drop (k+1)) (Xq β N[k] (Wf K (β T[k].1) T[k]).2.1):=by
 rw[List.drop_eq_getElem_cons h1,List.drop_eq_getElem_cons h2,Zq]
theorem Zek{K:List ByteArray}{N:List Int}{T:List Zk}{β : Int→List Zh}{k:Nat}(h1:N.length≤k):Zq K (N.drop k) (T.drop k) β = (0,β):=by
 rw[List.drop_of_length_le h1]
 rfl
def poE(K:List ByteArray)(N:List Int)(T:List Zk)(P:List TxD)(tip:Int)(β : Int→List Zh):Int:=
 if P.length=0 then 0 else if P.all (knT K)=false then 5 else if swE K (β tip) P (Ya N T tip+1)≠0 then swE K (β tip) P (Ya N T tip+1) else
 if (Zs (Ya N T tip+1) P (K,β tip)).1.length<P.length then 7 else 0
def noB:Int→List Zh:=fun _=>[]
def opE(K:List ByteArray)(N:List Int)(T:List Zk)(P:List TxD)(tip:Int):Int:=
 if Bk.bkChk K≠0 then Bk.bkChk K else if (Tr.bstD N T).2≠0 then (Tr.bstD N T).2 else if (Tr.bstD N T).1≠tip then 4 else
 if (Zq K N T noB).1≠0 then (Zq K N T noB).1 else poE K N T P tip (Zq K N T noB).2
section
variable {Z : Nat → Prop} {w : World} {d bm : Nat} {ka na ba pa : Option Addr} {kn kc nn nc bn bc pn pc : Nat} {K : List ByteArray} {N : List Int} {T : List Zk} {P : List TxD} {tip : Int}
structure CbS(Z:Nat→Prop)(w wr:World)(d bm:Nat)(ka:Option Addr)(kn kc:Nat)(K:List ByteArray)(na:Option Addr)(nn nc:Nat)(N:List Int)(ba:Option Addr)(bn bc:Nat)(T:List Zk)(pa:Option Addr)(pn pc:Nat)(P:List TxD)(tip:Int)(β : Int→List Zh)(k:Nat):Prop where
 gr:Gr w wr (fun q=>q=bm)
 all:∃ f γ,DeskAt Z wr d bm k ka kn kc K na nn nc N ba bn bc T pa pn pc P tip f γ∧Zq K N T β = Zq K (N.drop k) (T.drop k) γ
theorem Bh{f:Int→Value}{β : Int→List Zh}(h:DeskAt Z w d bm 0 ka kn kc K na nn nc N ba bn bc T pa pn pc P tip f β)(win:World)(hwin:Below win.heap.size win w)(hbm:win.heap.size≤bm)(hE:Env win)(hl:N.length=T.length)(h24:N.length≤24)(hN:∀ x∈N,(Lit.int .i64 x).wf=true)(hT:∀ b∈T,(Lit.int .i64 b.1).wf=true)(x:Int)(γ : Int→List Zh)(hx:Zq K N T β = (x,γ)) :
  Calls Tryz.prog 172 #[.pointer (some ⟨d,0,none⟩)] w fun e w'=>e = .returned (.int .i64 x)∧Gr w w' (fun q=>q=bm)∧(x=0→∃ f',DeskAt Z w' d bm N.length ka kn kc K na nn nc N ba bn bc T pa pn pc P tip f' γ):=by
 have hnn:N.length=nn:=h.now.n.1
 have hbn:T.length=bn:=h.now.b.1
 have ST:Hid (CbS Z w w d bm ka kn kc K na nn nc N ba bn bc T pa pn pc P tip β 0):=⟨Gr.refl _ _,f,β,h,rfl⟩
 have HX:=Zb hx
 have HE:=Zb hE
 have HWIN:=Zb hwin
 have HNN:=Zb hnn
 have HBN:=Zb hbn
 have HL:=Zb hl
 have HN:=Zb hN
 have HTT:=Zb hT
 have d1:=Zd h.box 1 _ rfl
 have dl:=lt_of_block h.box
 have hne:=h.ne
 have hnl:nn≤24:=by omega
 clear h hx hE hwin hnn hbn hN hT
 go_enter Tryz.func172,Tryz.ntmps172
 go_wp2
 go_loopw [14] (fun i wr=>∃ k:Nat,k≤nn∧i = .int .i64 k∧Hid (CbS Z w wr d bm ka kn kc K na nn nc N ba bn bc T pa pn pc P tip β k)) (fun i _=>nn - (intOf i).toNat)
 case atStart=>exact⟨0,Nat.zero_le _,rfl,ST⟩
 case round=>
  obtain⟨k,hk,rfl,HS⟩:=hrel
  by_cases hlt:k<nn
  ·obtain⟨hg,g,δ,hD,hC⟩:=Za HS
   have hkN:k<N.length:=by rw[Za HNN];exact hlt
   have hkT:k<T.length:=by rw[←Za HL];exact hkN
   have hkb:k<bn:=by rw[←Za HBN];exact hkT
   have hin:Below win.heap.size win wr:=hg.below (Za HWIN) (Za HWIN).size (fun q e=>by have e:q=bm:=e;omega)
   obtain⟨nb,no,rfl,_,hnc⟩:=hD.now.n.2 (by omega)
   obtain⟨bb,bo,rfl,hbl,hbr⟩:=hD.now.b.2 (by rw[←Za HBN];omega)
   have n0:=hnc k hkN
   obtain⟨b0,b1,b2,b3,ta,tn,tc,b4,hTx,sTx⟩:=hbr k hkT
   have hwN:=(Za HN) _ (List.getElem_mem hkN)
   have hwT:=(Za HTT) _ (List.getElem_mem hkT)
   rw[Zhj hkN hkT] at hC
   obtain⟨s,hs⟩:∃ s,N[k]=s:=⟨_,rfl⟩
   obtain⟨⟨bp,bh,bw,bon,bT⟩,hb⟩:∃ b,T[k]=b:=⟨_,rfl⟩
   rw[hs] at n0 hwN hC
   rw[hb] at b0 b1 b2 b3 hTx hwT hC
   simp only at b0 b1 b2 b3 hTx hwT hC
   obtain⟨y,hy⟩:∃ y,kbD K s (bp,bh,bw,bon,bT)=y:=⟨_,rfl⟩
   obtain⟨⟨z,C',U'⟩,hz⟩:∃ r,Wf K (δ bp) (bp,bh,bw,bon,bT)=r:=⟨_,rfl⟩
   rw[hy,hz] at hC
   simp only at hC
   have nl:=World.block_lt_of_cell? _ _ n0
   have dd2:=Zd hD.box 2 _ rfl
   have ddl:=lt_of_block hD.box
   obtain⟨Y,hY⟩:∃ Y,Y=wr.alloc (.cells #[.int .i64 bp,.int .i64 bh,.int .i64 bw,.int .i64 bon,.slice ta tn tc] 39):=⟨_,rfl⟩
   have hbY:Below wr.heap.size wr Y:=by rw[hY];exact Zi _ _
   have hY0:Y.heap[wr.heap.size]? = some (.cells [.int .i64 bp,.int .i64 bh,.int .i64 bw,.int .i64 bon,.slice ta tn tc].toArray 39 (0,0)):=by rw[hY];exact Zv _ _ _ _ _ _ _
   have CK:=Zb (Zak d K s bp bh bw bon ta tn tc bT y Y ((Za HE).later (Zf hin hbY)) (hD.later hbY).book (hTx.later hbY) sTx hy)
   have CC:=Zb (fun V (hv:Below wr.heap.size wr V)=>Pc (hD.later hv) s bp bh bw bon ta tn tc bT z C' U' ((Za HE).later (Zf hin hv)) (hTx.later hv) (by omega) hwN hwT hz)
   have y0:=Zd hY0 0 _ rfl
   have y1:=Zd hY0 1 _ rfl
   have y2:=Zd hY0 2 _ rfl
   have y3:=Zd hY0 3 _ rfl
   have y4:=Zd hY0 4 _ rfl
   have yl:=lt_of_block hY0
   have HG:=Zb hg
   have HBY:=Zb hbY
   have HY0:=Zb hY0
   have HC:=Zb hC
   clear hg hD hC hin hnc hbr hTx sTx hwN hwT hs hb hy hz hbY hY0 HS
   go_wp2_with fail
   rw[←hY]
   clear hY
   (try go_wp2_with fail)
   refine (Za CK).mono ?_
   rintro e w2 ⟨rfl,hb2⟩
   have hw2:=Zf (Za HBY) hb2
   have D2:=Zb ((Za CC) w2 hw2)
   have q20:=(hb2.block _ (lt_of_block (Za HY0))).trans (Za HY0)
   have y0:=Zd q20 0 _ rfl
   have y1:=Zd q20 1 _ rfl
   have y2:=Zd q20 2 _ rfl
   have y3:=Zd q20 3 _ rfl
   have y4:=Zd q20 4 _ rfl
   have yl:=lt_of_block q20
   have HG2:=Zb ((Za HG).on hw2)
   clear hb2 hw2 CK CC q20 n0 b0 b1 b2 b3 b4 dd2
   cases y
   ·have HXE:Hid (x=5):=by have q:=Za HC;rw[if_pos rfl,Za HX] at q;injection q with q _
    clear HC
    go_wp2
    go_ret
    exact⟨by rw[Za HXE];rfl,Za HG2,fun q=>absurd ((Za HXE).symm.trans q) (by decide)⟩
   ·go_wp2_with fail
    refine (Za D2).mono ?_
    rintro e w3 ⟨rfl,g',hD3,hg3⟩
    have HG3:=Zb ((Za HG2).trans hg3)
    have HD3:=Zb hD3
    clear hD3 hg3 D2
    by_cases z0:z=0
    ·have REL:Hid (CbS Z w w3 d bm ka kn kc K (some ⟨nb,no,none⟩) nn nc N (some ⟨bb,bo,none⟩) bn bc T pa pn pc P tip β (k+1)):=by
      refine⟨Za HG3,g',Xq δ s C',Za HD3,?_⟩
      have q:=Za HC
      rw[if_neg (by decide),if_neg (fun r=>r z0)] at q
      exact q
     subst z0
     clear HC HG3 HD3
     go_wp2
     go_roundw
     case rel=>exact⟨k+1,by omega,by go_num,REL⟩
     case measure=>simp[intOf];omega
    ·have gz:(z != 0)=true:=by simp[z0]
     have HXE:Hid (x=z):=by have q:=Za HC;rw[if_neg (by decide),if_pos z0,Za HX] at q;injection q with q _
     clear HC
     go_wp2
     go_ret
     exact⟨by rw[Za HXE];rfl,Za HG3,fun q=>absurd ((Za HXE).symm.trans q) z0⟩
  ·have ek:k=nn:=by omega
   subst ek
   obtain⟨hg,g,δ,hD,hC⟩:=Za HS
   rw[Zek (by rw[Za HNN];exact Nat.le_refl _),Za HX] at hC
   have HXE:Hid (x=0 ∧ γ = δ):=by injection hC with q1 q2;exact⟨q1,q2⟩
   have HG:=Zb hg
   have HD:=Zb hD
   clear hg hD hC HS
   go_wp2
   go_ret
   refine⟨by rw[(Za HXE).1];rfl,Za HG,fun _=>⟨g,?_⟩⟩
   rw[(Za HXE).2,Za HNN]
   exact Za HD
end
end Go.Proofs.YtmomfkikogbdeaaGreatDoor
