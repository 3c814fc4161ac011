/- The contracts of coins, height and connect of a desk (written by a program of ours: mkdesk.py). -/
import Derived.Test.YtmomfkikogbdeaaGreatDoorTrBlockToBlkSameB
import Derived.Test.YtmomfkikogbdeaaGreatDoorBlkConW
import Derived.Test.YtmomfkikogbdeaaGreatDoorPolAccToPolMake
set_option maxHeartbeats 6400000
set_option maxRecDepth 10000
namespace Go.Proofs.YtmomfkikogbdeaaGreatDoor
open Go.RowKit
def Yo(N:List Int)(T:List Zg)(tip:Int):Int:=(Tr.blockE N T tip).1.2.1
section
variable {Z : Nat → Prop} {w : World} {d bm m : Nat} {ka na ba pa : Option Addr} {kn kc nn nc bn bc pn pc : Nat} {K : List ByteArray} {N : List Int} {T : List Zg} {P : List TxD} {tip : Int} {f : Int → Value} {β : Int → List Zd}
theorem Uq(h:DeskAt Z w d bm m ka kn kc K na nn nc N ba bn bc T pa pn pc P tip f β)(ht:(Lit.int .i64 tip).wf=true) :
  Calls Tryz.prog 108 #[.pointer (some ⟨d,0,none⟩)] w fun e w'=>e = .returned (f tip)∧Below w.heap.size w w':=by
 have hl:=h.mp.drew_look tip ht
 have c4:=Za h.box 4 _ rfl
 have c5:=Za h.box 5 _ rfl
 have dl:=lt_of_block h.box
 have HB:=hide (Ze w)
 obtain⟨v,hv⟩:∃ v,f tip=v:=⟨_,rfl⟩
 rw[hv] at hl ⊢
 clear h ht hv
 go_enter Tryz.func108,Tryz.ntmps108
 go_wp2
 go_region
 go_wp2
 go_ret
 exact⟨rfl,unhide HB⟩
theorem Qg(h:DeskAt Z w d bm m ka kn kc K na nn nc N ba bn bc T pa pn pc P tip f β)(z:Int)(hz:Yo N T tip=z) :
  Calls Tryz.prog 165 #[.pointer (some ⟨d,0,none⟩)] w fun e w'=>e = .returned (.int .i64 z)∧Below w.heap.size w w':=by
 obtain⟨⟨⟨bp,bh,bw,bo,bT⟩,y⟩,hx⟩:∃ r,Tr.blockE N T tip=r:=⟨_,rfl⟩
 have hz0:z=bh:=by rw[←hz];unfold Yo;rw[hx]
 subst hz0
 have CB:=hide (fun V (hv:Below w.heap.size w V)=>Tr.block_is na ba nn nc bn bc N T tip (bp,z,bw,bo,bT) y V (h.later hv).now.n (h.later hv).now.b h.sn h.sb hx)
 have c1:=Za h.box 1 _ rfl
 have c2:=Za h.box 2 _ rfl
 have c4:=Za h.box 4 _ rfl
 have dl:=lt_of_block h.box
 have KS:Hid (∀ U:World,Below w.heap.size w U→(U.cell? ⟨d,1,none⟩=some (.slice na nn nc)∧U.cell? ⟨d,2,none⟩=some (.slice ba bn bc)∧U.cell? ⟨d,4,none⟩=some (.int .i64 tip)∧d<U.heap.size)):=fun U hu=>⟨cell_later hu c1,cell_later hu c2,cell_later hu c4,Nat.lt_of_lt_of_le dl hu.size⟩
 clear h hx hz c1 c2 c4 dl
 go_enter Tryz.func165,Tryz.ntmps165
 go_wp2_with fail
 go_cut [3,4] from 5 to 18 (fun s3 s4 wx=>∃ u,s3 = .pointer (some ⟨u,0,none⟩)∧Hid (wx.cell? ⟨u,1,none⟩=some (.int .i64 z)∧u<wx.heap.size)∧Hid (Below w.heap.size w wx))
 case first=>
  refine wp_region_held_drew (S:=fun U=>(U.cell? ⟨d,1,none⟩=some (.slice na nn nc)∧U.cell? ⟨d,2,none⟩=some (.slice ba bn bc)∧U.cell? ⟨d,4,none⟩=some (.int .i64 tip)∧d<U.heap.size)) (by kernel_rfl) ((unhide KS) _ (Ze _)) (fun hHeld=>?_)
  refine tk 0 ⟨some 6,.move (.tmp 0),181, "desk.go:53",#[],none⟩ ?_ rfl ?_ hHeld ?_
  rotate_left
  ·(intro U hSw;obtain⟨s1,s2,s3,s4⟩:=hSw;go_simp;first|done|with_reducible rfl)
  (try simp only[Act.put,ZA,ZB,ZC])
  refine tk 1 ⟨some 7,.nilCheck (.tmp 6),0, "desk.go:53",#[⟨0,.data⟩],none⟩ ?_ rfl ?_ hHeld ?_
  rotate_left
  ·(intro U hSw;obtain⟨s1,s2,s3,s4⟩:=hSw;go_simp;first|done|with_reducible rfl)
  (try simp only[Act.put,ZA,ZB,ZC])
  refine tk 2 ⟨some 8,.fieldAddr 254 (.tmp 7) 1,0, "desk.go:53",#[⟨1,.data⟩],none⟩ ?_ rfl ?_ hHeld ?_
  rotate_left
  ·(intro U hSw;obtain⟨s1,s2,s3,s4⟩:=hSw;go_simp;first|done|with_reducible rfl)
  (try simp only[Act.put,ZA,ZB,ZC])
  refine tk 3 ⟨some 9,.fieldAddr 67 (.tmp 8) 0,0, "desk.go:53",#[⟨2,.data⟩],none⟩ ?_ rfl ?_ hHeld ?_
  rotate_left
  ·(intro U hSw;obtain⟨s1,s2,s3,s4⟩:=hSw;go_simp;first|done|with_reducible rfl)
  (try simp only[Act.put,ZA,ZB,ZC])
  refine tk 4 ⟨some 10,.load 28 (.tmp 9),28, "desk.go:53",#[⟨3,.data⟩],none⟩ ?_ rfl ?_ hHeld ?_
  rotate_left
  ·(intro U hSw;obtain⟨s1,s2,s3,s4⟩:=hSw;go_simp;first|done|with_reducible rfl)
  (try simp only[Act.put,ZA,ZB,ZC])
  refine tk 5 ⟨some 11,.move (.tmp 0),181, "desk.go:53",#[],none⟩ ?_ rfl ?_ hHeld ?_
  rotate_left
  ·(intro U hSw;obtain⟨s1,s2,s3,s4⟩:=hSw;go_simp;first|done|with_reducible rfl)
  (try simp only[Act.put,ZA,ZB,ZC])
  refine tk 6 ⟨some 12,.nilCheck (.tmp 11),0, "desk.go:53",#[⟨5,.data⟩],none⟩ ?_ rfl ?_ hHeld ?_
  rotate_left
  ·(intro U hSw;obtain⟨s1,s2,s3,s4⟩:=hSw;go_simp;first|done|with_reducible rfl)
  (try simp only[Act.put,ZA,ZB,ZC])
  refine tk 7 ⟨some 13,.fieldAddr 254 (.tmp 12) 1,0, "desk.go:53",#[⟨6,.data⟩],none⟩ ?_ rfl ?_ hHeld ?_
  rotate_left
  ·(intro U hSw;obtain⟨s1,s2,s3,s4⟩:=hSw;go_simp;first|done|with_reducible rfl)
  (try simp only[Act.put,ZA,ZB,ZC])
  refine tk 8 ⟨some 14,.fieldAddr 67 (.tmp 13) 2,0, "desk.go:53",#[⟨7,.data⟩],none⟩ ?_ rfl ?_ hHeld ?_
  rotate_left
  ·(intro U hSw;obtain⟨s1,s2,s3,s4⟩:=hSw;go_simp;first|done|with_reducible rfl)
  (try simp only[Act.put,ZA,ZB,ZC])
  refine tk 9 ⟨some 15,.load 3 (.tmp 14),3, "desk.go:53",#[⟨8,.data⟩],none⟩ ?_ rfl ?_ hHeld ?_
  rotate_left
  ·(intro U hSw;obtain⟨s1,s2,s3,s4⟩:=hSw;go_simp;first|done|with_reducible rfl)
  (try simp only[Act.put,ZA,ZB,ZC])
  refine wpAnyH_ready (rs:=[10,14]) (by kernel_rfl) (by simp) ?_
  refine AllReadyH.cons (o:=⟨some 16,.call { callee:=Callee.value (.func 20),args:=#[.tmp 10,.tmp 15],argTypes:=#[28,3] },40, "desk.go:53",#[⟨4,.data⟩,⟨9,.data⟩],none⟩) rfl (fun KQ hK=>?_) (AllReadyH.cons (o:=⟨some 3,.alloc 39,0, "desk.go:53",#[],none⟩) rfl (fun KQ hK=>?_) AllReadyH.nil)
  ·refine Zf (by kernel_rfl) 20 #[.agg #[.slice na nn nc,.slice ba bn bc],.int .i64 tip] (by kernel_rfl) ((unhide CB) w.drew (Ze w)) ?_
   rintro e w5 ⟨ta,tn,tc,rfl,-,-,hb5⟩
   refine⟨_,rfl,?_⟩
   have hb:Below w.heap.size w w5:=bel_on (Ze w) hb5
   refine hK.out _ _ ((unhide KS) _ hb) (fun hHeld2=>?_)
   clear hK KQ hHeld
   have hHeld:=hHeld2
   clear hHeld2
   (try simp only[Act.put,ZA,ZB,ZC])
   refine tk 11 ⟨some 5,.move (.tmp 16),40, "desk.go:53",#[⟨10,.data⟩],none⟩ ?_ rfl ?_ hHeld ?_
   rotate_left
   ·(intro U hSw;(try dsimp only at hSw);go_simp;first|done|with_reducible rfl)
   (try simp only[Act.put,ZA,ZB,ZC])
   refine tk 12 ⟨some 17,.extract (.tmp 5) 0,39, "desk.go:53",#[⟨11,.data⟩],none⟩ ?_ rfl ?_ hHeld ?_
   rotate_left
   ·(intro U hSw;(try dsimp only at hSw);go_simp;first|done|with_reducible rfl)
   (try simp only[Act.put,ZA,ZB,ZC])
   refine tk 13 ⟨some 18,.extract (.tmp 5) 1,30, "desk.go:53",#[⟨11,.data⟩,⟨15,.gcOnly .lateStores⟩],none⟩ ?_ rfl ?_ hHeld ?_
   rotate_left
   ·(intro U hSw;(try dsimp only at hSw);go_simp;first|done|with_reducible rfl)
   (try simp only[Act.put,ZA,ZB,ZC])
   refine wpAnyH_ready (rs:=[14]) (by kernel_rfl) (by simp) ?_
   refine AllReadyH.cons (o:=⟨some 3,.alloc 39,0, "desk.go:53",#[],none⟩) rfl (fun KQ hK=>?_) AllReadyH.nil
   go_simp
   obtain⟨w6,hw6⟩:∃ w6,w6=w5.alloc (.cells #[.int .i64 0,.int .i64 0,.int .i64 0,.int .i64 0,.slice none 0 0] 39):=⟨_,rfl⟩
   rw[←hw6]
   have hb6:Below w.heap.size w w6:=by rw[hw6];exact bel_on hb (bel_new _ _)
   have hu:w6.heap[w5.heap.size]? = some (.cells [.int .i64 0,.int .i64 0,.int .i64 0,.int .i64 0,.slice none 0 0].toArray 39 (0,0)):=by rw[hw6];exact Zl _ _ _ _ _ _ _
   clear hw6
   have hle:=hb.size
   have u50:=Za hu 0 _ rfl
   have u5f0:=Zb hu 0
   have u51:=Za hu 1 _ rfl
   have u5f1:=Zb hu 1
   have u52:=Za hu 2 _ rfl
   have u5f2:=Zb hu 2
   have u53:=Za hu 3 _ rfl
   have u5f3:=Zb hu 3
   have u54:=Za hu 4 _ rfl
   have u5f4:=Zb hu 4
   have u5l:=lt_of_block hu
   refine hK.out _ _ ((unhide KS) _ hb6) (fun hHeld2=>?_)
   clear hK KQ hHeld
   have hHeld:=hHeld2
   clear hHeld2
   (try simp only[Act.put,ZA,ZB,ZC])
   refine wpAnyH_ready (rs:=[15]) (by kernel_rfl) (by simp) ?_
   refine AllReadyH.cons (o:=⟨none,.store 39 (.tmp 3) (.tmp 17),0, "desk.go:53",#[⟨14,.data⟩,⟨12,.data⟩,⟨10,.chain⟩,⟨0,.phase⟩,⟨1,.phase⟩,⟨2,.phase⟩,⟨3,.phase⟩,⟨4,.phase⟩,⟨5,.phase⟩,⟨6,.phase⟩,⟨7,.phase⟩,⟨8,.phase⟩,⟨9,.phase⟩,⟨10,.phase⟩,⟨11,.phase⟩,⟨12,.phase⟩,⟨13,.textOnly .lateStores⟩,⟨14,.phase⟩],none⟩) rfl (fun KQ hK=>?_) AllReadyH.nil
   go_simp
   refine hK.out _ _ ((unhide KS) _ (Gr.below (S:=fun q=>q=w5.heap.size) ((Gr.refl _ (fun q=>q=w5.heap.size)).five w5.heap.size (.inl rfl) _ _ _ _ _) hb6 (hb6).size (fun q e=>by have e:q=w5.heap.size:=e;omega))) (fun hHeld2=>?_)
   clear hK KQ hHeld
   have hHeld:=hHeld2
   clear hHeld2
   (try simp only[Act.put])
   refine tk 16 ⟨some 4,.assign (.tmp 18),30, "desk.go:53",#[⟨13,.data⟩,⟨15,.chain⟩,⟨0,.phase⟩,⟨1,.phase⟩,⟨2,.phase⟩,⟨3,.phase⟩,⟨4,.phase⟩,⟨5,.phase⟩,⟨6,.phase⟩,⟨7,.phase⟩,⟨8,.phase⟩,⟨9,.phase⟩,⟨10,.phase⟩,⟨11,.phase⟩,⟨12,.phase⟩,⟨13,.phase⟩,⟨14,.phase⟩,⟨15,.phase⟩],none⟩ ?_ rfl ?_ hHeld ?_
   rotate_left
   ·(intro U hSw;(try dsimp only at hSw);go_simp;first|done|with_reducible rfl)
   (try simp only[Act.put,ZA,ZB,ZC])
   refine wpAnyH_done (by kernel_rfl) ?_ _
   clear hHeld
   go_wp2_with fail
   go_meet
   case rel=>exact⟨w5.heap.size,rfl,⟨Za (Tr.set_cells (Tr.set_cells (Tr.set_cells (Tr.set_cells (Tr.set_cells hu 0 _) 1 _) 2 _) 3 _) 4 _) 1 _ rfl,lt_of_block (Tr.set_cells (Tr.set_cells (Tr.set_cells (Tr.set_cells (Tr.set_cells hu 0 _) 1 _) 2 _) 3 _) 4 _)⟩,Gr.below (S:=fun q=>q=w5.heap.size) ((Gr.refl _ (fun q=>q=w5.heap.size)).five w5.heap.size (.inl rfl) _ _ _ _ _) hb6 (hb6).size (fun q e=>by have e:q=w5.heap.size:=e;omega)⟩
  ·go_simp
   obtain⟨w6,hw6⟩:∃ w6,w6=(w.alloc (.cells #[.int .i64 0,.int .i64 0,.int .i64 0,.int .i64 0,.slice none 0 0] 39)).drew:=⟨_,rfl⟩
   rw[←hw6]
   have hb6:Below w.heap.size w w6:=by rw[hw6];exact bel_on (bel_new _ _) (Ze _)
   have hu6:w6.heap[w.heap.size]? = some (.cells [.int .i64 0,.int .i64 0,.int .i64 0,.int .i64 0,.slice none 0 0].toArray 39 (0,0)):=by rw[hw6];exact Zl _ _ _ _ _ _ _
   clear hw6
   refine hK.out _ _ ((unhide KS) _ hb6) (fun hHeld2=>?_)
   clear hK KQ hHeld
   have hHeld:=hHeld2
   clear hHeld2
   (try simp only[Act.put,ZA,ZB,ZC])
   refine wpAnyH_ready (rs:=[10]) (by kernel_rfl) (by simp) ?_
   refine AllReadyH.cons (o:=⟨some 16,.call { callee:=Callee.value (.func 20),args:=#[.tmp 10,.tmp 15],argTypes:=#[28,3] },40, "desk.go:53",#[⟨4,.data⟩,⟨9,.data⟩],none⟩) rfl (fun KQ hK=>?_) AllReadyH.nil
   refine Zf (by kernel_rfl) 20 #[.agg #[.slice na nn nc,.slice ba bn bc],.int .i64 tip] (by kernel_rfl) ((unhide CB) w6 hb6) ?_
   rintro e w5 ⟨ta,tn,tc,rfl,-,-,hb5⟩
   refine⟨_,rfl,?_⟩
   have hb:Below w.heap.size w w5:=bel_on hb6 hb5
   have hu:=(hb5.block _ (lt_of_block hu6)).trans hu6
   have u50:=Za hu 0 _ rfl
   have u5f0:=Zb hu 0
   have u51:=Za hu 1 _ rfl
   have u5f1:=Zb hu 1
   have u52:=Za hu 2 _ rfl
   have u5f2:=Zb hu 2
   have u53:=Za hu 3 _ rfl
   have u5f3:=Zb hu 3
   have u54:=Za hu 4 _ rfl
   have u5f4:=Zb hu 4
   have u5l:=lt_of_block hu
   refine hK.out _ _ ((unhide KS) _ hb) (fun hHeld2=>?_)
   clear hK KQ hHeld
   have hHeld:=hHeld2
   clear hHeld2
   (try simp only[Act.put,ZA,ZB,ZC])
   refine tk 11 ⟨some 5,.move (.tmp 16),40, "desk.go:53",#[⟨10,.data⟩],none⟩ ?_ rfl ?_ hHeld ?_
   rotate_left
   ·(intro U hSw;(try dsimp only at hSw);go_simp;first|done|with_reducible rfl)
   (try simp only[Act.put,ZA,ZB,ZC])
   refine tk 12 ⟨some 17,.extract (.tmp 5) 0,39, "desk.go:53",#[⟨11,.data⟩],none⟩ ?_ rfl ?_ hHeld ?_
   rotate_left
   ·(intro U hSw;(try dsimp only at hSw);go_simp;first|done|with_reducible rfl)
   (try simp only[Act.put,ZA,ZB,ZC])
   refine tk 13 ⟨some 18,.extract (.tmp 5) 1,30, "desk.go:53",#[⟨11,.data⟩,⟨15,.gcOnly .lateStores⟩],none⟩ ?_ rfl ?_ hHeld ?_
   rotate_left
   ·(intro U hSw;(try dsimp only at hSw);go_simp;first|done|with_reducible rfl)
   (try simp only[Act.put,ZA,ZB,ZC])
   refine wpAnyH_ready (rs:=[15]) (by kernel_rfl) (by simp) ?_
   refine AllReadyH.cons (o:=⟨none,.store 39 (.tmp 3) (.tmp 17),0, "desk.go:53",#[⟨14,.data⟩,⟨12,.data⟩,⟨10,.chain⟩,⟨0,.phase⟩,⟨1,.phase⟩,⟨2,.phase⟩,⟨3,.phase⟩,⟨4,.phase⟩,⟨5,.phase⟩,⟨6,.phase⟩,⟨7,.phase⟩,⟨8,.phase⟩,⟨9,.phase⟩,⟨10,.phase⟩,⟨11,.phase⟩,⟨12,.phase⟩,⟨13,.textOnly .lateStores⟩,⟨14,.phase⟩],none⟩) rfl (fun KQ hK=>?_) AllReadyH.nil
   go_simp
   refine hK.out _ _ ((unhide KS) _ (Gr.below (S:=fun q=>q=w.heap.size) ((Gr.refl _ (fun q=>q=w.heap.size)).five w.heap.size (.inl rfl) _ _ _ _ _) hb (hb).size (fun q e=>by have e:q=w.heap.size:=e;omega))) (fun hHeld2=>?_)
   clear hK KQ hHeld
   have hHeld:=hHeld2
   clear hHeld2
   (try simp only[Act.put])
   refine tk 16 ⟨some 4,.assign (.tmp 18),30, "desk.go:53",#[⟨13,.data⟩,⟨15,.chain⟩,⟨0,.phase⟩,⟨1,.phase⟩,⟨2,.phase⟩,⟨3,.phase⟩,⟨4,.phase⟩,⟨5,.phase⟩,⟨6,.phase⟩,⟨7,.phase⟩,⟨8,.phase⟩,⟨9,.phase⟩,⟨10,.phase⟩,⟨11,.phase⟩,⟨12,.phase⟩,⟨13,.phase⟩,⟨14,.phase⟩,⟨15,.phase⟩],none⟩ ?_ rfl ?_ hHeld ?_
   rotate_left
   ·(intro U hSw;(try dsimp only at hSw);go_simp;first|done|with_reducible rfl)
   (try simp only[Act.put,ZA,ZB,ZC])
   refine wpAnyH_done (by kernel_rfl) ?_ _
   clear hHeld
   go_wp2_with fail
   go_meet
   case rel=>exact⟨w.heap.size,rfl,⟨Za (Tr.set_cells (Tr.set_cells (Tr.set_cells (Tr.set_cells (Tr.set_cells hu 0 _) 1 _) 2 _) 3 _) 4 _) 1 _ rfl,lt_of_block (Tr.set_cells (Tr.set_cells (Tr.set_cells (Tr.set_cells (Tr.set_cells hu 0 _) 1 _) 2 _) 3 _) 4 _)⟩,Gr.below (S:=fun q=>q=w.heap.size) ((Gr.refl _ (fun q=>q=w.heap.size)).five w.heap.size (.inl rfl) _ _ _ _ _) hb (hb).size (fun q e=>by have e:q=w.heap.size:=e;omega)⟩
 case rest=>
  obtain⟨u,rfl,hu,hb⟩:=hcut
  obtain⟨u1,ul⟩:=unhide hu
  clear hu KS CB
  go_wp2
  go_ret
  exact⟨rfl,unhide hb⟩
theorem Rb(h:DeskAt Z w d bm m ka kn kc K na nn nc N ba bn bc T pa pn pc P tip f β)(s p hh k o:Int)(a:Option Addr)(n c:Nat)(L:List TxD)(x:Int)(C':List Zd)(U':List (List Zd))(hE:Env w)(hL:TxsAt w a n L)(hm:m<1000000)(hs:(Lit.int .i64 s).wf=true)(hp:(Lit.int .i64 p).wf=true)(hx:Uh K (β p) (p,hh,k,o,L)=(x,C',U')) :
  Calls Tryz.prog 162 #[.pointer (some ⟨d,0,none⟩),.int .i64 s,.agg #[.int .i64 p,.int .i64 hh,.int .i64 k,.int .i64 o,.slice a n c]] w fun e w'=>e = .returned (.int .i64 x)∧∃ f',DeskAt Z w' d bm (m+1) ka kn kc K na nn nc N ba bn bc T pa pn pc P tip f' (Qn β s C')∧Gr w w' (fun q=>q=bm):=by
 obtain⟨X,hX⟩:∃ X,X=w.alloc (.cells #[.int .i64 p,.int .i64 hh,.int .i64 k,.int .i64 o,.slice a n c] 39):=⟨_,rfl⟩
 have hbX:Below w.heap.size w X:=by rw[hX];exact bel_new _ _
 have hX0:X.heap[w.heap.size]? = some (.cells [.int .i64 p,.int .i64 hh,.int .i64 k,.int .i64 o,.slice a n c].toArray 39 (0,0)):=by rw[hX];exact Zl _ _ _ _ _ _ _
 obtain⟨ca,cn,cc,hfp,_,sC⟩:=h.c p
 have hX2:=h.later (bel_on hbX (Ze X))
 have CC:=hide (show Calls Tryz.prog 21 #[.agg #[.slice ka kn kc],.slice ca cn cc,.agg #[.int .i64 p,.int .i64 hh,.int .i64 k,.int .i64 o,.slice a n c]] X.drew fun e w'=>Zct X.drew w' x C' U' e from M0 ka kn kc K ca cn cc (β p) p hh k o a n c L x C' U' X.drew (hE.later (bel_on hbX (Ze X))) hX2.now.k (by obtain⟨a2,n2,c2,q1,q2,_⟩:=hX2.c p;rw[hfp] at q1;injection q1 with e1 e2 e3;subst e1 e2 e3;exact q2) sC (hL.later (bel_on hbX (Ze X))) hx)
 have hl:=hX2.mp.look p hp
 rw[hfp] at hl
 have HPUT:=hide (fun W (hw:Below X.drew.heap.size X.drew W) v=>(h.later (bel_on (bel_on hbX (Ze X)) hw)).mp.put hm s hs v)
 have HH:=hide h
 have HBX:=hide hbX
 have hne:=h.ne
 have d0:=Za hX2.box 0 _ rfl
 have d5:=Za hX2.box 5 _ rfl
 have dl:=lt_of_block hX2.box
 have hml:=hX2.mp.lt
 have e0:=Za hX0 0 _ rfl
 have e1:=Za hX0 1 _ rfl
 have e2:=Za hX0 2 _ rfl
 have e3:=Za hX0 3 _ rfl
 have e4:=Za hX0 4 _ rfl
 have el:=lt_of_block hX0
 have hmlt:bm<w.heap.size:=h.mp.lt
 have KS:Hid (∀ U:World,Gr X.drew U (fun q=>q=bm)→((U.cell? ⟨d,0,none⟩=some (.slice ka kn kc)∧U.cell? ⟨d,5,none⟩=some (.map (some bm))∧d<U.heap.size)∧U.cell? ⟨w.heap.size,0,none⟩=some (.int .i64 p)∧U.cell? ⟨w.heap.size,1,none⟩=some (.int .i64 hh)∧U.cell? ⟨w.heap.size,2,none⟩=some (.int .i64 k)∧U.cell? ⟨w.heap.size,3,none⟩=some (.int .i64 o)∧U.cell? ⟨w.heap.size,4,none⟩=some (.slice a n c)∧w.heap.size<U.heap.size)):=fun U hu=>⟨⟨hu.cell d0 (by simp;omega),hu.cell d5 (by simp;omega),Nat.lt_of_lt_of_le dl hu.size⟩,hu.cell e0 (by simp;omega),hu.cell e1 (by simp;omega),hu.cell e2 (by simp;omega),hu.cell e3 (by simp;omega),hu.cell e4 (by simp;omega),Nat.lt_of_lt_of_le el hu.size⟩
 clear hE hL hx hs hp hm h hbX hX0 hX2 sC hfp d0 d5 dl e0 e1 e2 e3 e4 el
 go_enter Tryz.func162,Tryz.ntmps162
 go_upto_region 1 with fail
 rw[←hX]
 clear hX
 refine wp_region_held_drew (S:=fun U=>(U.cell? ⟨d,0,none⟩=some (.slice ka kn kc)∧U.cell? ⟨d,5,none⟩=some (.map (some bm))∧d<U.heap.size)∧U.cell? ⟨w.heap.size,0,none⟩=some (.int .i64 p)∧U.cell? ⟨w.heap.size,1,none⟩=some (.int .i64 hh)∧U.cell? ⟨w.heap.size,2,none⟩=some (.int .i64 k)∧U.cell? ⟨w.heap.size,3,none⟩=some (.int .i64 o)∧U.cell? ⟨w.heap.size,4,none⟩=some (.slice a n c)∧w.heap.size<U.heap.size) (by kernel_rfl) ((unhide KS) _ (Gr.refl _ _)) (fun hHeld=>?_)
 refine tk 0 ⟨some 8,.move (.tmp 0),181, "desk.go:44",#[],none⟩ ?_ rfl ?_ hHeld ?_
 rotate_left
 ·(intro U hSw;obtain⟨⟨s1,s2,s3⟩,s4,s5,s6,s7,s8,s9⟩:=hSw;go_simp;first|done|with_reducible rfl)
 (try simp only[Act.put,ZA,ZB,ZC])
 refine tk 1 ⟨some 9,.nilCheck (.tmp 8),0, "desk.go:44",#[⟨0,.data⟩],none⟩ ?_ rfl ?_ hHeld ?_
 rotate_left
 ·(intro U hSw;obtain⟨⟨s1,s2,s3⟩,s4,s5,s6,s7,s8,s9⟩:=hSw;go_simp;first|done|with_reducible rfl)
 (try simp only[Act.put,ZA,ZB,ZC])
 refine tk 2 ⟨some 10,.fieldAddr 254 (.tmp 9) 2,0, "desk.go:44",#[⟨1,.data⟩],none⟩ ?_ rfl ?_ hHeld ?_
 rotate_left
 ·(intro U hSw;obtain⟨⟨s1,s2,s3⟩,s4,s5,s6,s7,s8,s9⟩:=hSw;go_simp;first|done|with_reducible rfl)
 (try simp only[Act.put,ZA,ZB,ZC])
 refine tk 3 ⟨some 11,.load 252 (.tmp 10),252, "desk.go:44",#[⟨2,.data⟩],none⟩ ?_ rfl ?_ hHeld ?_
 rotate_left
 ·(intro U hSw;obtain⟨⟨s1,s2,s3⟩,s4,s5,s6,s7,s8,s9⟩:=hSw;go_simp;first|done|with_reducible rfl)
 (try simp only[Act.put,ZA,ZB,ZC])
 refine tk 4 ⟨some 12,.move (.tmp 1),3, "desk.go:44",#[],none⟩ ?_ rfl ?_ hHeld ?_
 rotate_left
 ·(intro U hSw;obtain⟨⟨s1,s2,s3⟩,s4,s5,s6,s7,s8,s9⟩:=hSw;go_simp;first|done|with_reducible rfl)
 (try simp only[Act.put,ZA,ZB,ZC])
 refine tk 5 ⟨some 13,.move (.tmp 0),181, "desk.go:44",#[],none⟩ ?_ rfl ?_ hHeld ?_
 rotate_left
 ·(intro U hSw;obtain⟨⟨s1,s2,s3⟩,s4,s5,s6,s7,s8,s9⟩:=hSw;go_simp;first|done|with_reducible rfl)
 (try simp only[Act.put,ZA,ZB,ZC])
 refine tk 6 ⟨some 14,.nilCheck (.tmp 13),0, "desk.go:44",#[⟨5,.data⟩],none⟩ ?_ rfl ?_ hHeld ?_
 rotate_left
 ·(intro U hSw;obtain⟨⟨s1,s2,s3⟩,s4,s5,s6,s7,s8,s9⟩:=hSw;go_simp;first|done|with_reducible rfl)
 (try simp only[Act.put,ZA,ZB,ZC])
 refine tk 7 ⟨some 15,.fieldAddr 254 (.tmp 14) 0,0, "desk.go:44",#[⟨6,.data⟩],none⟩ ?_ rfl ?_ hHeld ?_
 rotate_left
 ·(intro U hSw;obtain⟨⟨s1,s2,s3⟩,s4,s5,s6,s7,s8,s9⟩:=hSw;go_simp;first|done|with_reducible rfl)
 (try simp only[Act.put,ZA,ZB,ZC])
 refine tk 8 ⟨some 16,.load 24 (.tmp 15),24, "desk.go:44",#[⟨7,.data⟩],none⟩ ?_ rfl ?_ hHeld ?_
 rotate_left
 ·(intro U hSw;obtain⟨⟨s1,s2,s3⟩,s4,s5,s6,s7,s8,s9⟩:=hSw;go_simp;first|done|with_reducible rfl)
 (try simp only[Act.put,ZA,ZB,ZC])
 refine tk 9 ⟨some 17,.move (.tmp 0),181, "desk.go:44",#[],none⟩ ?_ rfl ?_ hHeld ?_
 rotate_left
 ·(intro U hSw;obtain⟨⟨s1,s2,s3⟩,s4,s5,s6,s7,s8,s9⟩:=hSw;go_simp;first|done|with_reducible rfl)
 (try simp only[Act.put,ZA,ZB,ZC])
 refine tk 10 ⟨some 18,.nilCheck (.tmp 17),0, "desk.go:44",#[⟨9,.data⟩],none⟩ ?_ rfl ?_ hHeld ?_
 rotate_left
 ·(intro U hSw;obtain⟨⟨s1,s2,s3⟩,s4,s5,s6,s7,s8,s9⟩:=hSw;go_simp;first|done|with_reducible rfl)
 (try simp only[Act.put,ZA,ZB,ZC])
 refine tk 11 ⟨some 19,.fieldAddr 254 (.tmp 18) 2,0, "desk.go:44",#[⟨10,.data⟩],none⟩ ?_ rfl ?_ hHeld ?_
 rotate_left
 ·(intro U hSw;obtain⟨⟨s1,s2,s3⟩,s4,s5,s6,s7,s8,s9⟩:=hSw;go_simp;first|done|with_reducible rfl)
 (try simp only[Act.put,ZA,ZB,ZC])
 refine tk 12 ⟨some 20,.load 252 (.tmp 19),252, "desk.go:44",#[⟨11,.data⟩],none⟩ ?_ rfl ?_ hHeld ?_
 rotate_left
 ·(intro U hSw;obtain⟨⟨s1,s2,s3⟩,s4,s5,s6,s7,s8,s9⟩:=hSw;go_simp;first|done|with_reducible rfl)
 (try simp only[Act.put,ZA,ZB,ZC])
 refine tk 13 ⟨some 21,.fieldAddr 39 (.tmp 5) 0,0, "desk.go:44",#[],none⟩ ?_ rfl ?_ hHeld ?_
 rotate_left
 ·(intro U hSw;obtain⟨⟨s1,s2,s3⟩,s4,s5,s6,s7,s8,s9⟩:=hSw;go_simp;first|done|with_reducible rfl)
 (try simp only[Act.put,ZA,ZB,ZC])
 refine tk 14 ⟨some 22,.load 3 (.tmp 21),3, "desk.go:44",#[⟨13,.data⟩],none⟩ ?_ rfl ?_ hHeld ?_
 rotate_left
 ·(intro U hSw;obtain⟨⟨s1,s2,s3⟩,s4,s5,s6,s7,s8,s9⟩:=hSw;go_simp;first|done|with_reducible rfl)
 (try simp only[Act.put,ZA,ZB,ZC])
 refine tk 16 ⟨some 24,.load 39 (.tmp 5),39, "desk.go:44",#[],none⟩ ?_ rfl ?_ hHeld ?_
 rotate_left
 ·(intro U hSw;obtain⟨⟨s1,s2,s3⟩,s4,s5,s6,s7,s8,s9⟩:=hSw;go_simp;first|done|with_reducible rfl)
 (try simp only[Act.put,ZA,ZB,ZC])
 refine wpAnyH_ready (rs:=[15]) (by kernel_rfl) (by simp) ?_
 refine AllReadyH.cons (o:=⟨some 23,.lookup 252 (.tmp 20) (.tmp 22) false,29, "desk.go:44",#[⟨12,.data⟩,⟨14,.data⟩],none⟩) rfl (fun KQ hK=>?_) AllReadyH.nil
 go_simp
 refine hK.out _ _ ((unhide KS) _ (Gr.refl _ _)) (fun hHeld2=>?_)
 clear hK KQ hHeld
 have hHeld:=hHeld2
 clear hHeld2
 (try simp only[Act.put,ZA,ZB,ZC])
 refine wpAnyH_ready (rs:=[17]) (by kernel_rfl) (by simp) ?_
 refine AllReadyH.cons (o:=⟨some 25,.call { callee:=Callee.value (.func 21),args:=#[.tmp 16,.tmp 23,.tmp 24],argTypes:=#[24,29,39] },43, "desk.go:44",#[⟨8,.data⟩,⟨15,.data⟩,⟨16,.data⟩],none⟩) rfl (fun KQ hK=>?_) AllReadyH.nil
 refine Zf (by kernel_rfl) 21 #[.agg #[.slice ka kn kc],.slice ca cn cc,.agg #[.int .i64 p,.int .i64 hh,.int .i64 k,.int .i64 o,.slice a n c]] (by kernel_rfl) (unhide CC) ?_
 rintro e w5 ⟨ra,rn,rc,ua,un,uc,rfl,hC5,sC5,-,-,hb5,-⟩
 refine⟨_,rfl,?_⟩
 refine hK.out _ _ ((unhide KS) _ (Gr.of hb5)) (fun hHeld2=>?_)
 clear hK KQ hHeld
 have hHeld:=hHeld2
 clear hHeld2
 (try simp only[Act.put,ZA,ZB,ZC])
 refine tk 18 ⟨some 7,.move (.tmp 25),43, "desk.go:44",#[⟨17,.data⟩],none⟩ ?_ rfl ?_ hHeld ?_
 rotate_left
 ·(intro U hSw;(try dsimp only at hSw);go_simp;first|done|with_reducible rfl)
 (try simp only[Act.put,ZA,ZB,ZC])
 refine tk 19 ⟨some 26,.extract (.tmp 7) 0,29, "desk.go:44",#[⟨18,.data⟩],none⟩ ?_ rfl ?_ hHeld ?_
 rotate_left
 ·(intro U hSw;(try dsimp only at hSw);go_simp;first|done|with_reducible rfl)
 (try simp only[Act.put,ZA,ZB,ZC])
 refine tk 20 ⟨some 27,.extract (.tmp 7) 1,42, "desk.go:44",#[⟨18,.data⟩,⟨22,.gcOnly .lateStores⟩],none⟩ ?_ rfl ?_ hHeld ?_
 rotate_left
 ·(intro U hSw;(try dsimp only at hSw);go_simp;first|done|with_reducible rfl)
 (try simp only[Act.put,ZA,ZB,ZC])
 refine tk 21 ⟨some 28,.extract (.tmp 7) 2,30, "desk.go:44",#[⟨18,.data⟩,⟨22,.gcOnly .lateStores⟩],none⟩ ?_ rfl ?_ hHeld ?_
 rotate_left
 ·(intro U hSw;(try dsimp only at hSw);go_simp;first|done|with_reducible rfl)
 (try simp only[Act.put,ZA,ZB,ZC])
 obtain⟨w6,hrun,hB6,hg6⟩:=(unhide HPUT) w5 hb5 (.slice ra rn rc)
 have hgr:Gr X.drew w6 (fun q=>q=bm):=(Gr.of hb5).grown hg6 (fun q e=>.inl (by injection e with e;exact e.symm))
 refine wpAnyH_ready (rs:=[22]) (by kernel_rfl) (by simp) ?_
 refine AllReadyH.cons (o:=⟨none,.mapUpdate 252 (.tmp 11) (.tmp 12) (.tmp 26),0, "desk.go:44",#[⟨3,.data⟩,⟨4,.data⟩,⟨19,.data⟩,⟨17,.chain⟩,⟨0,.phase⟩,⟨1,.phase⟩,⟨2,.phase⟩,⟨3,.phase⟩,⟨4,.phase⟩,⟨5,.phase⟩,⟨6,.phase⟩,⟨7,.phase⟩,⟨8,.phase⟩,⟨9,.phase⟩,⟨10,.phase⟩,⟨11,.phase⟩,⟨12,.phase⟩,⟨13,.phase⟩,⟨14,.phase⟩,⟨15,.phase⟩,⟨16,.phase⟩,⟨17,.phase⟩,⟨18,.phase⟩,⟨19,.phase⟩,⟨20,.textOnly .lateStores⟩,⟨21,.textOnly .lateStores⟩],none⟩) rfl (fun KQ hK=>?_) AllReadyH.nil
 go_simp
 refine hK.out _ _ ((unhide KS) _ hgr) (fun hHeld2=>?_)
 clear hK KQ hHeld
 have hHeld:=hHeld2
 clear hHeld2
 (try simp only[Act.put])
 refine tk 23 ⟨some 6,.assign (.tmp 28),30, "desk.go:44",#[⟨21,.data⟩,⟨22,.chain⟩,⟨0,.phase⟩,⟨1,.phase⟩,⟨2,.phase⟩,⟨3,.phase⟩,⟨4,.phase⟩,⟨5,.phase⟩,⟨6,.phase⟩,⟨7,.phase⟩,⟨8,.phase⟩,⟨9,.phase⟩,⟨10,.phase⟩,⟨11,.phase⟩,⟨12,.phase⟩,⟨13,.phase⟩,⟨14,.phase⟩,⟨15,.phase⟩,⟨16,.phase⟩,⟨17,.phase⟩,⟨18,.phase⟩,⟨19,.phase⟩,⟨20,.phase⟩,⟨21,.phase⟩,⟨22,.phase⟩],none⟩ ?_ rfl ?_ hHeld ?_
 rotate_left
 ·(intro U hSw;(try dsimp only at hSw);go_simp;first|done|with_reducible rfl)
 (try simp only[Act.put,ZA,ZB,ZC])
 refine wpAnyH_done (by kernel_rfl) ?_ _
 clear hHeld
 have hw5:=bel_on (bel_on (unhide HBX) (Ze X)) hb5
 have FIN:Hid (∃ f',DeskAt Z w6 d bm (m+1) ka kn kc K na nn nc N ba bn bc T pa pn pc P tip f' (Qn β s C')∧Gr w w6 (fun q=>q=bm)):=⟨_,(unhide HH).put hw5 hC5 sC5 hB6 hg6,(Gr.of hw5).grown hg6 (fun q e=>.inl (by injection e with e;exact e.symm))⟩
 clear hC5 sC5 hb5 hrun hB6 hg6 hgr hw5 HPUT HH CC KS hl
 go_wp2
 go_ret
 obtain⟨f',h1,h2⟩:=unhide FIN
 exact⟨rfl,f',h1,h2⟩
end
def Xf(K:List ByteArray):List Int→List Zg→(Int→List Zd)→Int×(Int→List Zd)
 | s :: N,b :: T,β=>if kbD K s b=false then (5,β) else if (Uh K (β b.1) b).1≠0 then ((Uh K (β b.1) b).1,β) else Xf K N T (Qn β s (Uh K (β b.1) b).2.1)
 | [],_,β=>(0,β)
 | _ :: _,[],β=>(0,β)
theorem Zbb{K:List ByteArray}{N:List Int}{T:List Zg}{β : Int→List Zd}{k:Nat}(h1:k<N.length)(h2:k<T.length):Xf K (N.drop k) (T.drop k) β = if kbD K N[k] T[k]=false then (5,β) else if (Uh K (β T[k].1) T[k]).1≠0 then ((Uh K (β T[k].1) T[k]).1,β) else Xf K (N.drop (k+1)) (T.drop (k+1)) (Qn β N[k] (Uh K (β T[k].1) T[k]).2.1):=by
 rw[List.drop_eq_getElem_cons h1,List.drop_eq_getElem_cons h2,Xf]
theorem Cj{K:List ByteArray}{N:List Int}{T:List Zg}{β : Int→List Zd}{k:Nat}(h1:N.length≤k):Xf K (N.drop k) (T.drop k) β = (0,β):=by
 rw[List.drop_of_length_le h1]
 rfl
def poE(K:List ByteArray)(N:List Int)(T:List Zg)(P:List TxD)(tip:Int)(β : Int→List Zd):Int:=
 if P.length=0 then 0 else if P.all (knT K)=false then 5 else if swE K (β tip) P (Yo N T tip+1)≠0 then swE K (β tip) P (Yo N T tip+1) else
 if (Xt (Yo N T tip+1) P (K,β tip)).1.length<P.length then 7 else 0
def noB:Int→List Zd:=fun _=>[]
def opE(K:List ByteArray)(N:List Int)(T:List Zg)(P:List TxD)(tip:Int):Int:=
 if Bk.bkChk K≠0 then Bk.bkChk K else if (Tr.bstD N T).2≠0 then (Tr.bstD N T).2 else if (Tr.bstD N T).1≠tip then 4 else
 if (Xf K N T noB).1≠0 then (Xf K N T noB).1 else poE K N T P tip (Xf K N T noB).2
end Go.Proofs.YtmomfkikogbdeaaGreatDoor
