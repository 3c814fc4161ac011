/- The contract of take (written by a program of ours: mkdtake.py). -/
import Derived.Test.YtmomfkikogbdeaaGreatDoorBlkNamesFToNodTk
namespace Go.Proofs.YtmomfkikogbdeaaGreatDoor
open Go.RowKit
section
variable {Z : Nat → Prop} {w : World} {d bm m : Nat} {ka na ba pa : Option Addr} {kn kc nn nc bn bc pn pc : Nat} {K : List ByteArray} {N : List Int} {T : List Zg} {P : List TxD} {tip : Int} {f : Int → Value} {β : Int → List Zd}
set_option maxRecDepth 10000 in
set_option maxHeartbeats 12800000 in
theorem B8(h:DeskAt Z w d bm m ka kn kc K na nn nc N ba bn bc T pa pn pc P tip f β)(win:World)(hwin:Below win.heap.size win w)(hE:Env win)(hd:win.heap.size≤d)(hbm:win.heap.size≤bm)(hm:m<1000000)(p hh k o:Int)(a:Option Addr)(n c:Nat)(L:List TxD)(hL:∀ W,Gr w W (fun q=>q=d∨q=bm)→TxsAt W a n L)(sL:SlOk a n c)(x nm0:Int)(D:Dsk)(hx:tkR ⟨K,N,T,P,tip,β⟩ (p,hh,k,o,L)=(x,nm0,D)) :
  Calls Tryz.prog 100 #[.pointer (some ⟨d,0,none⟩),.agg #[.int .i64 p,.int .i64 hh,.int .i64 k,.int .i64 o,.slice a n c]] w fun e w'=>TakR Z w w' d bm m D x nm0 e:=by
 obtain⟨⟨K1,nm,Ns,x1⟩,h1⟩:∃ r,Xk K (p,hh,k,o,L)=r:=⟨_,rfl⟩
 obtain⟨⟨N1,T1,x2⟩,h2⟩:∃ r,Tr.addE N T nm (p,hh,k,o,L)=r:=⟨_,rfl⟩
 obtain⟨⟨x3,C3,U3⟩,h3⟩:∃ r,Uh K1 (β p) (p,hh,k,o,L)=r:=⟨_,rfl⟩
 obtain⟨⟨t,x4⟩,h4⟩:∃ r,Tr.bstD N1 T1=r:=⟨_,rfl⟩
 obtain⟨z,hz⟩:∃ z,Yo N1 T1 t=z:=⟨_,rfl⟩
 obtain⟨⟨K2,P2,x5⟩,h5⟩:∃ r,Eb K1 (Qn β nm C3 t) P (z+1)=r:=⟨_,rfl⟩
 unfold tkR at hx
 simp only[h1,h2,h3,h4,hz,h5] at hx
 obtain⟨X,hX⟩:∃ X,X=w.alloc (.cells #[.int .i64 p,.int .i64 hh,.int .i64 k,.int .i64 o,.slice a n c] 39):=⟨_,rfl⟩
 have hbX:Below w.heap.size w X:=by rw[hX];exact bel_new _ _
 have hX0:X.heap[w.heap.size]? = some (.cells [.int .i64 p,.int .i64 hh,.int .i64 k,.int .i64 o,.slice a n c].toArray 39 (0,0)):=by rw[hX];exact heap_alloc_new w _
 have hdl:d<w.heap.size:=lt_of_block h.box
 have hml:bm<w.heap.size:=h.mp.lt
 have CN:=hide (fun V (hv:Below w.heap.size w V)=>Mg ka kn kc K p hh k o a n c L K1 nm Ns x1 V (hE.later (bel_on hwin hv)) (h.later hv).now.k (hL V (Gr.of hv)) h1)
 have OLD:=hide (fun V (g:Gr w V (fun q=>q=d∨q=bm))=>(g.below hwin hwin.size (fun q e=>by rcases e with e|e <;> omega):Below win.heap.size win V))
 have KS:Hid (∀ U:World,Gr X U (fun q=>q=d∨q=bm)→(d<U.heap.size∧U.cell? ⟨w.heap.size,0,none⟩=some (.int .i64 p)∧U.cell? ⟨w.heap.size,1,none⟩=some (.int .i64 hh)∧U.cell? ⟨w.heap.size,2,none⟩=some (.int .i64 k)∧U.cell? ⟨w.heap.size,3,none⟩=some (.int .i64 o)∧U.cell? ⟨w.heap.size,4,none⟩=some (.slice a n c)∧w.heap.size<U.heap.size)):=fun U hu=>⟨Nat.lt_of_lt_of_le hdl (Nat.le_trans hbX.size hu.size),hu.cell (Za hX0 0 _ rfl) (by simp;omega),hu.cell (Za hX0 1 _ rfl) (by simp;omega),hu.cell (Za hX0 2 _ rfl) (by simp;omega),hu.cell (Za hX0 3 _ rfl) (by simp;omega),hu.cell (Za hX0 4 _ rfl) (by simp;omega),Nat.lt_of_lt_of_le (lt_of_block hX0) hu.size⟩
 have HH:=hide h
 have HBX:=hide hbX
 have HX:=hide hx
 have HL:=hide hL
 have HSL:=hide sL
 have HE:=hide hE
 have HM:=hide hm
 have H2:=hide h2
 have H3:=hide h3
 have H4:=hide h4
 have HZ:=hide hz
 have H5:=hide h5
 have HDL:=hide hdl
 have HML:=hide hml
 clear h hwin hE hd hbm hm hL sL hx h1 h2 h3 h4 hz h5 hbX hX0 hdl hml
 go_enter Tryz.func100,Tryz.ntmps100
 go_upto_region 1 with fail
 rw[←hX]
 clear hX
 go_cut [4,5] from 6 to 19 (fun s4 s5 wx=>s4 = .int .i64 nm∧s5 = .int .i64 x1∧Hid (∃ ka' kn' kc',DeskAt Z wx d bm m ka' kn' kc' K1 na nn nc N ba bn bc T pa pn pc P tip f β∧Gr X wx (fun q=>q=d∨q=bm)))
 case first=>
  refine wp_region_held_drew (S:=fun U=>(d<U.heap.size∧U.cell? ⟨w.heap.size,0,none⟩=some (.int .i64 p)∧U.cell? ⟨w.heap.size,1,none⟩=some (.int .i64 hh)∧U.cell? ⟨w.heap.size,2,none⟩=some (.int .i64 k)∧U.cell? ⟨w.heap.size,3,none⟩=some (.int .i64 o)∧U.cell? ⟨w.heap.size,4,none⟩=some (.slice a n c)∧w.heap.size<U.heap.size)) (by kernel_rfl) ((unhide KS) _ (Gr.of (Ze X))) (fun hHeld=>?_)
  refine tk 0 ⟨some 7,.move (.tmp 0),181, "desk.go:59",#[],none⟩ ?_ rfl ?_ hHeld ?_
  rotate_left
  ·(intro U hSw;obtain⟨s0,s1,s2,s3,s4,s5,s6⟩:=hSw;go_simp;first|done|with_reducible rfl)
  (try simp only[Act.put,ZA,ZB,ZC])
  refine tk 1 ⟨some 8,.move (.tmp 0),181, "desk.go:59",#[],none⟩ ?_ rfl ?_ hHeld ?_
  rotate_left
  ·(intro U hSw;obtain⟨s0,s1,s2,s3,s4,s5,s6⟩:=hSw;go_simp;first|done|with_reducible rfl)
  (try simp only[Act.put,ZA,ZB,ZC])
  refine tk 2 ⟨some 9,.nilCheck (.tmp 8),0, "desk.go:59",#[⟨1,.data⟩],none⟩ ?_ rfl ?_ hHeld ?_
  rotate_left
  ·(intro U hSw;obtain⟨s0,s1,s2,s3,s4,s5,s6⟩:=hSw;go_simp;first|done|with_reducible rfl)
  (try simp only[Act.put,ZA,ZB,ZC])
  refine tk 3 ⟨some 10,.fieldAddr 254 (.tmp 9) 0,0, "desk.go:59",#[⟨2,.data⟩],none⟩ ?_ rfl ?_ hHeld ?_
  rotate_left
  ·(intro U hSw;obtain⟨s0,s1,s2,s3,s4,s5,s6⟩:=hSw;go_simp;first|done|with_reducible rfl)
  (try simp only[Act.put,ZA,ZB,ZC])
  refine tk 5 ⟨some 12,.load 39 (.tmp 3),39, "desk.go:59",#[],none⟩ ?_ rfl ?_ hHeld ?_
  rotate_left
  ·(intro U hSw;obtain⟨s0,s1,s2,s3,s4,s5,s6⟩:=hSw;go_simp;first|done|with_reducible rfl)
  (try simp only[Act.put,ZA,ZB,ZC])
  have hb:=bel_on (unhide HBX) (Ze X)
  have l0:=cell_later hb (Za (unhide HH).box 0 _ rfl)
  have ll:=Nat.lt_of_lt_of_le (unhide HDL) hb.size
  refine wpAnyH_ready (rs:=[4]) (by kernel_rfl) (by simp) ?_
  refine AllReadyH.cons (o:=⟨some 11,.load 24 (.tmp 10),24, "desk.go:59",#[⟨3,.data⟩],none⟩) rfl (fun KQ hK=>?_) AllReadyH.nil
  go_simp
  clear l0 ll
  refine hK.out _ _ ((unhide KS) _ (Gr.of (Ze X))) (fun hHeld2=>?_)
  clear hK KQ hHeld
  have hHeld:=hHeld2
  clear hHeld2
  (try simp only[Act.put,ZA,ZB,ZC])
  refine wpAnyH_ready (rs:=[6]) (by kernel_rfl) (by simp) ?_
  refine AllReadyH.cons (o:=⟨some 13,.call { callee:=Callee.value (.func 27),args:=#[.tmp 11,.tmp 12],argTypes:=#[24,39] },53, "desk.go:59",#[⟨4,.data⟩,⟨5,.data⟩],none⟩) rfl (fun KQ hK=>?_) AllReadyH.nil
  refine Zf (by kernel_rfl) 27 #[.agg #[.slice ka kn kc],.agg #[.int .i64 p,.int .i64 hh,.int .i64 k,.int .i64 o,.slice a n c]] (by kernel_rfl) ((unhide CN) _ hb) ?_
  rintro e v1 ⟨k5,k5n,k5c,n5,n5n,n5c,rfl,hT5,sk5,-,-,hb5⟩
  refine⟨_,rfl,?_⟩
  have gX:Gr X v1 (fun q=>q=d∨q=bm):=Gr.of (bel_on (Ze X) hb5)
  refine hK.out _ _ ((unhide KS) _ gX) (fun hHeld2=>?_)
  clear hK KQ hHeld
  have hHeld:=hHeld2
  clear hHeld2
  (try simp only[Act.put,ZA,ZB,ZC])
  refine tk 7 ⟨some 6,.move (.tmp 13),53, "desk.go:59",#[⟨6,.data⟩],none⟩ ?_ rfl ?_ hHeld ?_
  rotate_left
  ·(intro U hSw;(try dsimp only at hSw);go_simp;first|done|with_reducible rfl)
  (try simp only[Act.put,ZA,ZB,ZC])
  refine tk 8 ⟨some 14,.extract (.tmp 6) 0,24, "desk.go:59",#[⟨7,.data⟩],none⟩ ?_ rfl ?_ hHeld ?_
  rotate_left
  ·(intro U hSw;(try dsimp only at hSw);go_simp;first|done|with_reducible rfl)
  (try simp only[Act.put,ZA,ZB,ZC])
  refine tk 9 ⟨some 15,.extract (.tmp 6) 1,3, "desk.go:59",#[⟨7,.data⟩,⟨14,.gcOnly .lateStores⟩],none⟩ ?_ rfl ?_ hHeld ?_
  rotate_left
  ·(intro U hSw;(try dsimp only at hSw);go_simp;first|done|with_reducible rfl)
  (try simp only[Act.put,ZA,ZB,ZC])
  refine tk 10 ⟨some 16,.extract (.tmp 6) 2,25, "desk.go:59",#[⟨7,.data⟩,⟨15,.gcOnly .lateStores⟩],none⟩ ?_ rfl ?_ hHeld ?_
  rotate_left
  ·(intro U hSw;(try dsimp only at hSw);go_simp;first|done|with_reducible rfl)
  (try simp only[Act.put,ZA,ZB,ZC])
  refine tk 11 ⟨some 17,.extract (.tmp 6) 3,30, "desk.go:59",#[⟨7,.data⟩,⟨15,.gcOnly .lateStores⟩],none⟩ ?_ rfl ?_ hHeld ?_
  rotate_left
  ·(intro U hSw;(try dsimp only at hSw);go_simp;first|done|with_reducible rfl)
  (try simp only[Act.put,ZA,ZB,ZC])
  refine tk 12 ⟨some 18,.nilCheck (.tmp 7),0, "desk.go:59",#[⟨0,.data⟩,⟨0,.phase⟩,⟨1,.phase⟩,⟨2,.phase⟩,⟨3,.phase⟩,⟨4,.phase⟩,⟨5,.phase⟩,⟨6,.phase⟩,⟨7,.phase⟩,⟨8,.phase⟩,⟨9,.textOnly .lateStores⟩,⟨10,.textOnly .lateStores⟩,⟨11,.textOnly .lateStores⟩],none⟩ ?_ rfl ?_ hHeld ?_
  rotate_left
  ·(intro U hSw;(try dsimp only at hSw);go_simp;first|done|with_reducible rfl)
  (try simp only[Act.put,ZA,ZB,ZC])
  refine tk 13 ⟨some 19,.fieldAddr 254 (.tmp 18) 0,0, "desk.go:59",#[⟨12,.data⟩,⟨0,.phase⟩,⟨1,.phase⟩,⟨2,.phase⟩,⟨3,.phase⟩,⟨4,.phase⟩,⟨5,.phase⟩,⟨6,.phase⟩,⟨7,.phase⟩,⟨8,.phase⟩,⟨9,.textOnly .lateStores⟩,⟨10,.textOnly .lateStores⟩,⟨11,.textOnly .lateStores⟩],none⟩ ?_ rfl ?_ hHeld ?_
  rotate_left
  ·(intro U hSw;(try dsimp only at hSw);go_simp;first|done|with_reducible rfl)
  (try simp only[Act.put,ZA,ZB,ZC])
  have hw5:=bel_on hb hb5
  have hbx:=((unhide HH).later hw5).box
  have y0:=Za hbx 0 _ rfl
  have g0:=Zb hbx 0
  have yl:=lt_of_block hbx
  refine wpAnyH_ready (rs:=[14]) (by kernel_rfl) (by simp) ?_
  refine AllReadyH.cons (o:=⟨none,.store 24 (.tmp 19) (.tmp 14),0, "desk.go:59",#[⟨13,.data⟩,⟨8,.data⟩,⟨6,.chain⟩,⟨0,.phase⟩,⟨1,.phase⟩,⟨2,.phase⟩,⟨3,.phase⟩,⟨4,.phase⟩,⟨5,.phase⟩,⟨6,.phase⟩,⟨7,.phase⟩,⟨8,.phase⟩,⟨9,.textOnly .lateStores⟩,⟨10,.textOnly .lateStores⟩,⟨11,.textOnly .lateStores⟩],none⟩) rfl (fun KQ hK=>?_) AllReadyH.nil
  go_simp
  refine hK.out _ _ ((unhide KS) _ (gX.one d 0 (.inl (.inl rfl)) _)) (fun hHeld2=>?_)
  clear hK KQ hHeld
  have hHeld:=hHeld2
  clear hHeld2
  (try simp only[Act.put])
  refine tk 15 ⟨some 4,.assign (.tmp 15),3, "desk.go:59",#[⟨9,.data⟩,⟨14,.chain⟩,⟨0,.phase⟩,⟨1,.phase⟩,⟨2,.phase⟩,⟨3,.phase⟩,⟨4,.phase⟩,⟨5,.phase⟩,⟨6,.phase⟩,⟨7,.phase⟩,⟨8,.phase⟩,⟨9,.phase⟩,⟨10,.textOnly .lateStores⟩,⟨11,.textOnly .lateStores⟩,⟨12,.phase⟩,⟨13,.phase⟩,⟨14,.phase⟩],none⟩ ?_ rfl ?_ hHeld ?_
  rotate_left
  ·(intro U hSw;(try dsimp only at hSw);go_simp;first|done|with_reducible rfl)
  (try simp only[Act.put,ZA,ZB,ZC])
  refine tk 16 ⟨some 5,.assign (.tmp 17),30, "desk.go:59",#[⟨11,.data⟩,⟨15,.chain⟩,⟨0,.phase⟩,⟨1,.phase⟩,⟨2,.phase⟩,⟨3,.phase⟩,⟨4,.phase⟩,⟨5,.phase⟩,⟨6,.phase⟩,⟨7,.phase⟩,⟨8,.phase⟩,⟨9,.phase⟩,⟨10,.phase⟩,⟨11,.phase⟩,⟨12,.phase⟩,⟨13,.phase⟩,⟨14,.phase⟩,⟨15,.phase⟩],none⟩ ?_ rfl ?_ hHeld ?_
  rotate_left
  ·(intro U hSw;(try dsimp only at hSw);go_simp;first|done|with_reducible rfl)
  (try simp only[Act.put,ZA,ZB,ZC])
  refine wpAnyH_done (by kernel_rfl) ?_ _
  clear hHeld
  go_wp2_with fail
  go_meet
  case rel=>exact⟨rfl,rfl,k5,k5n,k5c,(unhide HH).named hb hb5 hT5 sk5,gX.one d 0 (.inl (.inl rfl)) _⟩
 case rest=>
  obtain⟨rfl,rfl,HC⟩:=hcut
  clear CN
  obtain⟨k1,k1n,k1c,hD1,g1⟩:=unhide HC
  have HD1:=hide hD1
  have G1:=hide g1
  clear HC hD1 g1
  by_cases z1:x1=0
  ·subst z1
   have hx2:=unhide HX
   rw[if_neg (fun q=>q rfl)] at hx2
   have HX2:=hide hx2
   clear hx2 HX
   obtain⟨n1,hn1⟩:∃ n1,N1.length=n1:=⟨_,rfl⟩
   have CA:=hide (fun V (hv:Below wc.heap.size wc V)=>Tr.add_is na ba nn nc bn bc N T nm p hh k o a n c L N1 T1 n1 x2 V ((unhide HD1).later hv).now.n ((unhide HD1).later hv).now.b (unhide HD1).sn (unhide HD1).sb (unhide HL V ((Gr.of (unhide HBX)).trans ((unhide G1).trans (Gr.of hv)))) (unhide HSL) (unhide H2) hn1)
   clear hn1
   go_upto_region 3 with fail
   go_cut [5] from 22 to 36 (fun s5 wx=>s5 = .int .i64 x2∧Hid (∃ na' nc' ba' bc',DeskAt Z wx d bm m k1 k1n k1c K1 na' n1 nc' N1 ba' n1 bc' T1 pa pn pc P tip f β∧Gr wc wx (fun q=>q=d∨q=bm)))
   case first=>
    refine wp_region_held_drew (S:=fun U=>(d<U.heap.size∧U.cell? ⟨w.heap.size,0,none⟩=some (.int .i64 p)∧U.cell? ⟨w.heap.size,1,none⟩=some (.int .i64 hh)∧U.cell? ⟨w.heap.size,2,none⟩=some (.int .i64 k)∧U.cell? ⟨w.heap.size,3,none⟩=some (.int .i64 o)∧U.cell? ⟨w.heap.size,4,none⟩=some (.slice a n c)∧w.heap.size<U.heap.size)) (by kernel_rfl) ((unhide KS) _ ((unhide G1).trans (Gr.of (Ze wc)))) (fun hHeld=>?_)
    refine tk 0 ⟨some 23,.move (.tmp 0),181, "desk.go:61",#[],none⟩ ?_ rfl ?_ hHeld ?_
    rotate_left
    ·(intro U hSw;obtain⟨s0,s1,s2,s3,s4,s5,s6⟩:=hSw;go_simp;first|done|with_reducible rfl)
    (try simp only[Act.put,ZA,ZB,ZC])
    refine tk 1 ⟨some 24,.move (.tmp 0),181, "desk.go:61",#[],none⟩ ?_ rfl ?_ hHeld ?_
    rotate_left
    ·(intro U hSw;obtain⟨s0,s1,s2,s3,s4,s5,s6⟩:=hSw;go_simp;first|done|with_reducible rfl)
    (try simp only[Act.put,ZA,ZB,ZC])
    refine tk 2 ⟨some 25,.nilCheck (.tmp 24),0, "desk.go:61",#[⟨1,.data⟩],none⟩ ?_ rfl ?_ hHeld ?_
    rotate_left
    ·(intro U hSw;obtain⟨s0,s1,s2,s3,s4,s5,s6⟩:=hSw;go_simp;first|done|with_reducible rfl)
    (try simp only[Act.put,ZA,ZB,ZC])
    refine tk 3 ⟨some 26,.fieldAddr 254 (.tmp 25) 1,0, "desk.go:61",#[⟨2,.data⟩],none⟩ ?_ rfl ?_ hHeld ?_
    rotate_left
    ·(intro U hSw;obtain⟨s0,s1,s2,s3,s4,s5,s6⟩:=hSw;go_simp;first|done|with_reducible rfl)
    (try simp only[Act.put,ZA,ZB,ZC])
    refine tk 4 ⟨some 27,.fieldAddr 67 (.tmp 26) 0,0, "desk.go:61",#[⟨3,.data⟩],none⟩ ?_ rfl ?_ hHeld ?_
    rotate_left
    ·(intro U hSw;obtain⟨s0,s1,s2,s3,s4,s5,s6⟩:=hSw;go_simp;first|done|with_reducible rfl)
    (try simp only[Act.put,ZA,ZB,ZC])
    refine tk 6 ⟨some 29,.move (.tmp 4),3, "desk.go:61",#[],none⟩ ?_ rfl ?_ hHeld ?_
    rotate_left
    ·(intro U hSw;obtain⟨s0,s1,s2,s3,s4,s5,s6⟩:=hSw;go_simp;first|done|with_reducible rfl)
    (try simp only[Act.put,ZA,ZB,ZC])
    refine tk 7 ⟨some 30,.load 39 (.tmp 3),39, "desk.go:61",#[],none⟩ ?_ rfl ?_ hHeld ?_
    rotate_left
    ·(intro U hSw;obtain⟨s0,s1,s2,s3,s4,s5,s6⟩:=hSw;go_simp;first|done|with_reducible rfl)
    (try simp only[Act.put,ZA,ZB,ZC])
    have hb:=Ze wc
    have l1:=cell_later hb (Za (unhide HD1).box 1 _ rfl)
    have l2:=cell_later hb (Za (unhide HD1).box 2 _ rfl)
    have ll:=Nat.lt_of_lt_of_le (lt_of_block (unhide HD1).box) hb.size
    refine wpAnyH_ready (rs:=[5]) (by kernel_rfl) (by simp) ?_
    refine AllReadyH.cons (o:=⟨some 28,.load 28 (.tmp 27),28, "desk.go:61",#[⟨4,.data⟩],none⟩) rfl (fun KQ hK=>?_) AllReadyH.nil
    go_simp
    clear l1 l2 ll
    refine hK.out _ _ ((unhide KS) _ ((unhide G1).trans (Gr.of (Ze wc)))) (fun hHeld2=>?_)
    clear hK KQ hHeld
    have hHeld:=hHeld2
    clear hHeld2
    (try simp only[Act.put,ZA,ZB,ZC])
    refine wpAnyH_ready (rs:=[8]) (by kernel_rfl) (by simp) ?_
    refine AllReadyH.cons (o:=⟨some 31,.call { callee:=Callee.value (.func 63),args:=#[.tmp 28,.tmp 29,.tmp 30],argTypes:=#[28,3,39] },137, "desk.go:61",#[⟨5,.data⟩,⟨6,.data⟩,⟨7,.data⟩],none⟩) rfl (fun KQ hK=>?_) AllReadyH.nil
    refine Zf (by kernel_rfl) 63 #[.agg #[.slice na nn nc,.slice ba bn bc],.int .i64 nm,.agg #[.int .i64 p,.int .i64 hh,.int .i64 k,.int .i64 o,.slice a n c]] (by kernel_rfl) ((unhide CA) _ hb) ?_
    rintro e v1 ⟨a1,c1,a2,c2,rfl,hF5,s51,s52,hb5⟩
    refine⟨_,rfl,?_⟩
    have gX:Gr wc v1 (fun q=>q=d∨q=bm):=Gr.of (bel_on hb hb5)
    refine hK.out _ _ ((unhide KS) _ ((unhide G1).trans gX)) (fun hHeld2=>?_)
    clear hK KQ hHeld
    have hHeld:=hHeld2
    clear hHeld2
    (try simp only[Act.put,ZA,ZB,ZC])
    refine tk 9 ⟨some 22,.move (.tmp 31),137, "desk.go:61",#[⟨8,.data⟩],none⟩ ?_ rfl ?_ hHeld ?_
    rotate_left
    ·(intro U hSw;(try dsimp only at hSw);go_simp;first|done|with_reducible rfl)
    (try simp only[Act.put,ZA,ZB,ZC])
    refine tk 10 ⟨some 32,.extract (.tmp 22) 0,28, "desk.go:61",#[⟨9,.data⟩],none⟩ ?_ rfl ?_ hHeld ?_
    rotate_left
    ·(intro U hSw;(try dsimp only at hSw);go_simp;first|done|with_reducible rfl)
    (try simp only[Act.put,ZA,ZB,ZC])
    refine tk 11 ⟨some 33,.extract (.tmp 22) 1,30, "desk.go:61",#[⟨9,.data⟩,⟨15,.gcOnly .lateStores⟩],none⟩ ?_ rfl ?_ hHeld ?_
    rotate_left
    ·(intro U hSw;(try dsimp only at hSw);go_simp;first|done|with_reducible rfl)
    (try simp only[Act.put,ZA,ZB,ZC])
    refine tk 12 ⟨some 34,.nilCheck (.tmp 23),0, "desk.go:61",#[⟨0,.data⟩,⟨0,.phase⟩,⟨1,.phase⟩,⟨2,.phase⟩,⟨3,.phase⟩,⟨4,.phase⟩,⟨5,.phase⟩,⟨6,.phase⟩,⟨7,.phase⟩,⟨8,.phase⟩,⟨9,.phase⟩,⟨10,.phase⟩,⟨11,.textOnly .lateStores⟩],none⟩ ?_ rfl ?_ hHeld ?_
    rotate_left
    ·(intro U hSw;(try dsimp only at hSw);go_simp;first|done|with_reducible rfl)
    (try simp only[Act.put,ZA,ZB,ZC])
    refine tk 13 ⟨some 35,.fieldAddr 254 (.tmp 34) 1,0, "desk.go:61",#[⟨12,.data⟩,⟨0,.phase⟩,⟨1,.phase⟩,⟨2,.phase⟩,⟨3,.phase⟩,⟨4,.phase⟩,⟨5,.phase⟩,⟨6,.phase⟩,⟨7,.phase⟩,⟨8,.phase⟩,⟨9,.phase⟩,⟨10,.phase⟩,⟨11,.textOnly .lateStores⟩],none⟩ ?_ rfl ?_ hHeld ?_
    rotate_left
    ·(intro U hSw;(try dsimp only at hSw);go_simp;first|done|with_reducible rfl)
    (try simp only[Act.put,ZA,ZB,ZC])
    refine tk 14 ⟨some 36,.fieldAddr 67 (.tmp 35) 0,0, "desk.go:61",#[⟨13,.data⟩,⟨0,.phase⟩,⟨1,.phase⟩,⟨2,.phase⟩,⟨3,.phase⟩,⟨4,.phase⟩,⟨5,.phase⟩,⟨6,.phase⟩,⟨7,.phase⟩,⟨8,.phase⟩,⟨9,.phase⟩,⟨10,.phase⟩,⟨11,.textOnly .lateStores⟩],none⟩ ?_ rfl ?_ hHeld ?_
    rotate_left
    ·(intro U hSw;(try dsimp only at hSw);go_simp;first|done|with_reducible rfl)
    (try simp only[Act.put,ZA,ZB,ZC])
    have hw5:=bel_on hb hb5
    have hbx:=((unhide HD1).later hw5).box
    have y1:=Za hbx 1 _ rfl
    have y2:=Za hbx 2 _ rfl
    have g1:=Zb hbx 1
    have g2:=Zb hbx 2
    have yl:=lt_of_block hbx
    refine wpAnyH_ready (rs:=[15]) (by kernel_rfl) (by simp) ?_
    refine AllReadyH.cons (o:=⟨none,.store 28 (.tmp 36) (.tmp 32),0, "desk.go:61",#[⟨14,.data⟩,⟨10,.data⟩,⟨8,.chain⟩,⟨0,.phase⟩,⟨1,.phase⟩,⟨2,.phase⟩,⟨3,.phase⟩,⟨4,.phase⟩,⟨5,.phase⟩,⟨6,.phase⟩,⟨7,.phase⟩,⟨8,.phase⟩,⟨9,.phase⟩,⟨10,.phase⟩,⟨11,.textOnly .lateStores⟩],none⟩) rfl (fun KQ hK=>?_) AllReadyH.nil
    go_simp
    refine hK.out _ _ ((unhide KS) _ ((unhide G1).trans ((gX.one d 1 (.inl (.inl rfl)) _).one d 2 (.inl (.inl rfl)) _))) (fun hHeld2=>?_)
    clear hK KQ hHeld
    have hHeld:=hHeld2
    clear hHeld2
    (try simp only[Act.put])
    refine tk 16 ⟨some 5,.assign (.tmp 33),30, "desk.go:61",#[⟨11,.data⟩,⟨15,.chain⟩,⟨0,.phase⟩,⟨1,.phase⟩,⟨2,.phase⟩,⟨3,.phase⟩,⟨4,.phase⟩,⟨5,.phase⟩,⟨6,.phase⟩,⟨7,.phase⟩,⟨8,.phase⟩,⟨9,.phase⟩,⟨10,.phase⟩,⟨11,.phase⟩,⟨12,.phase⟩,⟨13,.phase⟩,⟨14,.phase⟩,⟨15,.phase⟩],none⟩ ?_ rfl ?_ hHeld ?_
    rotate_left
    ·(intro U hSw;(try dsimp only at hSw);go_simp;first|done|with_reducible rfl)
    (try simp only[Act.put,ZA,ZB,ZC])
    refine wpAnyH_done (by kernel_rfl) ?_ _
    clear hHeld
    go_wp2_with fail
    go_meet
    case rel=>exact⟨rfl,a1,c1,a2,c2,(unhide HD1).grown hb hb5 hF5 s51 s52,(gX.one d 1 (.inl (.inl rfl)) _).one d 2 (.inl (.inl rfl)) _⟩
   case rest=>
    obtain⟨rfl,HC⟩:=hcut
    clear CA
    obtain⟨a1,c1,a2,c2,hD2,g2⟩:=unhide HC
    have HD2:=hide hD2
    have G2:=hide ((unhide G1).trans g2)
    clear HC hD2 g2 HD1 G1
    by_cases z2:x2=0
    ·subst z2
     have hx3:=unhide HX2
     rw[if_neg (fun q=>q rfl)] at hx3
     have HX3:=hide hx3
     clear hx3 HX2
     have HWF:=hide (Zcr (unhide H2))
     have GW:=hide ((Gr.of (unhide HBX)).trans (unhide G2))
     obtain⟨e0,e1,e2,e3,e4,e5,e6⟩:=(unhide KS) _ (unhide G2)
     have D3:=hide (Rb (unhide HD2) nm p hh k o a n c L x3 C3 U3 ((unhide HE).later ((unhide OLD) _ (unhide GW))) (unhide HL _ (unhide GW)) (unhide HM) (unhide HWF).1 (unhide HWF).2.1 (unhide H3))
     clear KS HBX H2 H3 HL HSL HWF
     go_wp2_with fail
     refine (unhide D3).mono ?_
     rintro e w3 ⟨rfl,f3,hD3,g3⟩
     have HD3:=hide hD3
     have G3:=hide ((unhide GW).trans (g3.mono (fun q _ e=>(.inr e:q=d∨q=bm))))
     clear hD3 g3 D3 HD2 G2 GW e0 e1 e2 e3 e4 e5 e6
     by_cases z3:x3=0
     ·subst z3
      have hx4:=unhide HX3
      rw[if_neg (fun q=>q rfl)] at hx4
      have HX4:=hide hx4
      clear hx4 HX3
      have D4:=hide (Tr.best_is a1 a2 n1 c1 n1 c2 N1 T1 t x4 w3 (unhide HD3).now.n (unhide HD3).now.b (unhide HD3).sn (unhide HD3).sb (unhide H4))
      have e1:=Za (unhide HD3).box 1 _ rfl
      have e2:=Za (unhide HD3).box 2 _ rfl
      have el:=lt_of_block (unhide HD3).box
      go_wp2_with fail
      refine (unhide D4).mono ?_
      rintro e w4 ⟨rfl,hb4⟩
      clear D4 e1 e2 el
      have HD4:=hide ((unhide HD3).later hb4)
      have G4:=hide ((unhide G3).trans (Gr.of hb4))
      clear HD3 G3 hb4
      have e4:=Za (unhide HD4).box 4 _ rfl
      have f4:=Zb (unhide HD4).box 4
      have el:=lt_of_block (unhide HD4).box
      obtain⟨V,hV⟩:∃ V,V=w4.setCell ⟨d,4,none⟩ (.int .i64 t):=⟨_,rfl⟩
      have HDV:Hid (DeskAt Z V d bm (m+1) k1 k1n k1c K1 a1 n1 c1 N1 a2 n1 c2 T1 pa pn pc P t f3 (Qn β nm C3)):=by rw[hV];exact (unhide HD4).tipped t
      have GV:Hid (Gr w V (fun q=>q=d∨q=bm)):=by rw[hV];exact (unhide G4).one d 4 (.inl (.inl rfl)) _
      clear HD4 G4
      by_cases z4:x4=0
      ·subst z4
       have hx5:=unhide HX4
       rw[if_neg (fun q=>q rfl)] at hx5
       have HX5:=hide hx5
       clear hx5 HX4
       have HBW:=hide (Rq (unhide H4))
       have hz1:=(unhide HBW).2.1
       have hz2:=(unhide HBW).2.2
       rw[unhide HZ] at hz1 hz2
       have hw1:IntKind.i64.wrap (z+1)=z+1:=by rw[IntKind.wrap_i64];omega
       clear hz1 hz2
       have D5:=hide (Qg (unhide HDV) z (unhide HZ))
       have CS:=hide (fun V2 (hv:Below V.heap.size V V2)=>Fo ((unhide HDV).later hv) ((unhide HE).later ((unhide OLD) _ ((unhide GV).trans (Gr.of hv)))) (unhide HBW).1 (z+1) K2 P2 x5 (unhide H5))
       clear HDV HBW H4 H5 HZ HE OLD
       go_wp2_with fail
       rw[←hV]
       clear hV e4 f4 el
       (try go_wp2_with fail)
       refine (unhide D5).mono ?_
       rintro e w6 ⟨rfl,hb6⟩
       have D6:=hide ((unhide CS) w6 hb6)
       have G6:=hide ((unhide GV).trans (Gr.of hb6))
       clear hb6 D5 CS GV
       go_wp2_with fail
       refine (unhide D6).mono ?_
       rintro e w7 ⟨rfl,k7,k7n,k7c,p7,p7n,p7c,hD7,g7⟩
       have HD7:=hide hD7
       have G7:=hide ((unhide G6).trans (g7.mono (fun q _ e=>(.inl e:q=d∨q=bm))))
       clear hD7 g7 D6 G6 hw1
       by_cases z5:x5=0
       ·subst z5
        have hx6:=unhide HX5
        rw[if_neg (fun q=>q rfl)] at hx6
        simp only[Prod.mk.injEq] at hx6
        obtain⟨rfl,rfl,rfl⟩:=hx6
        clear HX5
        go_wp2
        go_ret2
        exact⟨rfl,unhide G7,fun _=>⟨_,_,_,_,_,_,_,_,_,_,_,_,_,unhide HD7⟩⟩
       ·have hxb:=unhide HX5
        rw[if_pos z5] at hxb
        simp only[Prod.mk.injEq] at hxb
        obtain⟨rfl,rfl,rfl⟩:=hxb
        clear HX5
        have gx:(x5 == 0)=false:=by simp[z5]
        have gy:(x5 != 0)=true:=by simp[z5]
        go_wp2
        go_ret2
        exact⟨rfl,(unhide G7),fun e=>absurd e z5⟩
      ·have hxb:=unhide HX4
       rw[if_pos z4] at hxb
       simp only[Prod.mk.injEq] at hxb
       obtain⟨rfl,rfl,rfl⟩:=hxb
       clear HX4
       clear HDV
       have gx:(x4 == 0)=false:=by simp[z4]
       have gy:(x4 != 0)=true:=by simp[z4]
       go_wp2_with fail
       rw[←hV]
       clear hV
       (try go_wp2)
       go_ret2
       exact⟨rfl,(unhide GV),fun e=>absurd e z4⟩
     ·have hxb:=unhide HX3
      rw[if_pos z3] at hxb
      simp only[Prod.mk.injEq] at hxb
      obtain⟨rfl,rfl,rfl⟩:=hxb
      clear HX3
      have gx:(x3 == 0)=false:=by simp[z3]
      have gy:(x3 != 0)=true:=by simp[z3]
      go_wp2
      go_ret2
      exact⟨rfl,(unhide G3),fun e=>absurd e z3⟩
    ·have hxb:=unhide HX2
     rw[if_pos z2] at hxb
     simp only[Prod.mk.injEq] at hxb
     obtain⟨rfl,rfl,rfl⟩:=hxb
     clear HX2
     have gx:(x2 == 0)=false:=by simp[z2]
     have gy:(x2 != 0)=true:=by simp[z2]
     go_wp2
     go_ret2
     exact⟨rfl,((Gr.of (unhide HBX)).trans (unhide G2)),fun e=>absurd e z2⟩
  ·have hxb:=unhide HX
   rw[if_pos z1] at hxb
   simp only[Prod.mk.injEq] at hxb
   obtain⟨rfl,rfl,rfl⟩:=hxb
   clear HX
   have gx:(x1 == 0)=false:=by simp[z1]
   have gy:(x1 != 0)=true:=by simp[z1]
   go_wp2
   go_ret2
   exact⟨rfl,((Gr.of (unhide HBX)).trans (unhide G1)),fun e=>absurd e z1⟩
end
end Go.Proofs.YtmomfkikogbdeaaGreatDoor
