import Derived.Test.YtmomfkikogbdeaaGreatDoorG41
set_option maxHeartbeats 12800000
set_option maxRecDepth 10000
namespace Go.Proofs.YtmomfkikogbdeaaGreatDoor
open Go.RowKit
section
variable {Z : Nat → Prop} {w : World} {d bm m : Nat} {ka na ba pa : Option Addr} {kn kc nn nc bn bc pn pc : Nat} {K : List ByteArray} {N : List Int} {T : List Zk} {P : List TxD} {tip : Int} {f : Int → Value} {β : Int → List Zh}
theorem Zax(h:DeskAt Z w d bm m ka kn kc K na nn nc N ba bn bc T pa pn pc P tip f β)(hE:Env w)(ht:(Lit.int .i64 tip).wf=true)(h1:0≤Ya N T tip)(h2:Ya N T tip≤1000)(th:Int)(ai ao:Option Addr)(ni ci no co:Nat)(I:List InD)(O:List Z0)(hI:InsAt w ai ni I)(hO:OutsAt w ao no O)(sI:SlOk ai ni ci)(sO:SlOk ao no co)(K1:List ByteArray)(P1:List TxD)(x:Int)(hx:acE K (β tip) P (th,I,O) (Ya N T tip+1)=(x,K1,P1)) :
  Calls Tryz.prog 111 #[.pointer (some ⟨d,0,none⟩),.agg #[.int .i64 th,.slice ai ni ci,.slice ao no co]] w fun e w'=>e = .returned (.int .i64 x)∧Zhb Z w w' d bm m K1 na nn nc N ba bn bc T P1 tip f β:=by
 obtain⟨z,hz⟩:∃ z,Ya N T tip=z:=⟨_,rfl⟩
 rw[hz] at hx h1 h2
 have hw1:IntKind.i64.wrap (z+1)=z+1:=by rw[IntKind.wrap_i64];omega
 obtain⟨ca,cn,cc,hfp,_,sC⟩:=h.c tip
 obtain⟨X,hX⟩:∃ X,X=w.alloc (.cells #[.int .i64 th,.slice ai ni ci,.slice ao no co] 59):=⟨_,rfl⟩
 have hbX:Below w.heap.size w X:=by rw[hX];exact Zi _ _
 have hX0:X.heap[w.heap.size]? = some (.cells [.int .i64 th,.slice ai ni ci,.slice ao no co].toArray 59 (0,0)):=by rw[hX];exact heap_alloc_new w _
 have CC:=Zb (fun V (hv:Below w.heap.size w V)=>Qb (h.later hv) ht)
 rw[hfp] at CC
 have CH:=Zb (fun V (hv:Below w.heap.size w V)=>Qr (h.later hv) z hz)
 have CS:=Zb (fun V (hv:Below w.heap.size w V)=>Ah ka kn kc K ca cn cc (β tip) pa pn pc P th ai ao ni ci no co I O (z+1) x K1 P1 V (hE.later hv) (h.later hv).now.k (by obtain⟨a2,n2,c2,q1,q2,_⟩:=(h.later hv).c tip;rw[hfp] at q1;injection q1 with e1 e2 e3;subst e1 e2 e3;exact q2) sC (h.later hv).now.p (hI.later hv) (hO.later hv) sI sO hx)
 have c0:=Zd h.box 0 _ rfl
 have c3:=Zd h.box 3 _ rfl
 have dl:=lt_of_block h.box
 have KS:Hid (∀ U:World,Gr X U (fun q=>q=d)→(d<U.heap.size∧U.cell? ⟨w.heap.size,0,none⟩=some (.int .i64 th)∧U.cell? ⟨w.heap.size,1,none⟩=some (.slice ai ni ci)∧U.cell? ⟨w.heap.size,2,none⟩=some (.slice ao no co)∧w.heap.size<U.heap.size)):=fun U hu=>⟨Nat.lt_of_lt_of_le dl (Nat.le_trans hbX.size hu.size),hu.cell (Zd hX0 0 _ rfl) (by simp;omega),hu.cell (Zd hX0 1 _ rfl) (by simp;omega),hu.cell (Zd hX0 2 _ rfl) (by simp;omega),Nat.lt_of_lt_of_le (lt_of_block hX0) hu.size⟩
 have KC:Hid (∀ U:World,Below w.heap.size w U→(U.cell? ⟨d,0,none⟩=some (.slice ka kn kc)∧U.cell? ⟨d,3,none⟩=some (.slice pa pn pc)∧d<U.heap.size)):=fun U hu=>⟨Ze hu c0,Ze hu c3,Nat.lt_of_lt_of_le dl hu.size⟩
 have H:=Zb h
 have HBX:=Zb hbX
 clear h hE ht h1 h2 hI hO sI sO hx hz hfp sC hbX hX0 c0 c3 dl
 go_enter Tryz.func111,Tryz.ntmps111
 go_upto_region 1 with fail
 rw[←hX]
 clear hX
 go_cut [4] from 5 to 31 (fun s4 wx=>s4 = .int .i64 x∧Hid (Zhb Z w wx d bm m K1 na nn nc N ba bn bc T P1 tip f β))
 case first=>
  refine wp_region_held_drew (S:=fun U=>(d<U.heap.size∧U.cell? ⟨w.heap.size,0,none⟩=some (.int .i64 th)∧U.cell? ⟨w.heap.size,1,none⟩=some (.slice ai ni ci)∧U.cell? ⟨w.heap.size,2,none⟩=some (.slice ao no co)∧w.heap.size<U.heap.size)) (by kernel_rfl) ((Za KS) _ (Gr.of (Zj X))) (fun Zjc=>?_)
  refine tk 0 ⟨some 6,.move (.tmp 0),181, "desk.go:90",#[],none⟩ ?_ rfl ?_ Zjc ?_
  rotate_left
  ·(intro U hSw;obtain⟨s0,s1,s2,s3,s4⟩:=hSw;go_simp;first|done|with_reducible rfl)
  (try simp only[Act.put,ZA,ZB,ZC])
  refine tk 1 ⟨some 7,.move (.tmp 0),181, "desk.go:90",#[⟨24,.gcOnly .lateStores⟩],none⟩ ?_ rfl ?_ Zjc ?_
  rotate_left
  ·(intro U hSw;obtain⟨s0,s1,s2,s3,s4⟩:=hSw;go_simp;first|done|with_reducible rfl)
  (try simp only[Act.put,ZA,ZB,ZC])
  refine tk 2 ⟨some 8,.move (.tmp 0),181, "desk.go:90",#[],none⟩ ?_ rfl ?_ Zjc ?_
  rotate_left
  ·(intro U hSw;obtain⟨s0,s1,s2,s3,s4⟩:=hSw;go_simp;first|done|with_reducible rfl)
  (try simp only[Act.put,ZA,ZB,ZC])
  refine tk 3 ⟨some 9,.nilCheck (.tmp 8),0, "desk.go:90",#[⟨2,.data⟩],none⟩ ?_ rfl ?_ Zjc ?_
  rotate_left
  ·(intro U hSw;obtain⟨s0,s1,s2,s3,s4⟩:=hSw;go_simp;first|done|with_reducible rfl)
  (try simp only[Act.put,ZA,ZB,ZC])
  refine tk 4 ⟨some 10,.fieldAddr 254 (.tmp 9) 0,0, "desk.go:90",#[⟨3,.data⟩],none⟩ ?_ rfl ?_ Zjc ?_
  rotate_left
  ·(intro U hSw;obtain⟨s0,s1,s2,s3,s4⟩:=hSw;go_simp;first|done|with_reducible rfl)
  (try simp only[Act.put,ZA,ZB,ZC])
  refine tk 6 ⟨some 12,.move (.tmp 0),181, "desk.go:90",#[],none⟩ ?_ rfl ?_ Zjc ?_
  rotate_left
  ·(intro U hSw;obtain⟨s0,s1,s2,s3,s4⟩:=hSw;go_simp;first|done|with_reducible rfl)
  (try simp only[Act.put,ZA,ZB,ZC])
  refine tk 8 ⟨some 14,.move (.tmp 0),181, "desk.go:90",#[],none⟩ ?_ rfl ?_ Zjc ?_
  rotate_left
  ·(intro U hSw;obtain⟨s0,s1,s2,s3,s4⟩:=hSw;go_simp;first|done|with_reducible rfl)
  (try simp only[Act.put,ZA,ZB,ZC])
  refine tk 9 ⟨some 15,.nilCheck (.tmp 14),0, "desk.go:90",#[⟨8,.data⟩],none⟩ ?_ rfl ?_ Zjc ?_
  rotate_left
  ·(intro U hSw;obtain⟨s0,s1,s2,s3,s4⟩:=hSw;go_simp;first|done|with_reducible rfl)
  (try simp only[Act.put,ZA,ZB,ZC])
  refine tk 10 ⟨some 16,.fieldAddr 254 (.tmp 15) 1,0, "desk.go:90",#[⟨9,.data⟩],none⟩ ?_ rfl ?_ Zjc ?_
  rotate_left
  ·(intro U hSw;obtain⟨s0,s1,s2,s3,s4⟩:=hSw;go_simp;first|done|with_reducible rfl)
  (try simp only[Act.put,ZA,ZB,ZC])
  refine tk 11 ⟨some 17,.fieldAddr 67 (.tmp 16) 1,0, "desk.go:90",#[⟨10,.data⟩],none⟩ ?_ rfl ?_ Zjc ?_
  rotate_left
  ·(intro U hSw;obtain⟨s0,s1,s2,s3,s4⟩:=hSw;go_simp;first|done|with_reducible rfl)
  (try simp only[Act.put,ZA,ZB,ZC])
  refine tk 13 ⟨some 19,.load 59 (.tmp 3),59, "desk.go:90",#[],none⟩ ?_ rfl ?_ Zjc ?_
  rotate_left
  ·(intro U hSw;obtain⟨s0,s1,s2,s3,s4⟩:=hSw;go_simp;first|done|with_reducible rfl)
  (try simp only[Act.put,ZA,ZB,ZC])
  refine tk 14 ⟨some 20,.move (.tmp 0),181, "desk.go:90",#[],none⟩ ?_ rfl ?_ Zjc ?_
  rotate_left
  ·(intro U hSw;obtain⟨s0,s1,s2,s3,s4⟩:=hSw;go_simp;first|done|with_reducible rfl)
  (try simp only[Act.put,ZA,ZB,ZC])
  have hbx:=Zj X
  have hb:=Zf (Za HBX) hbx
  refine wpAnyH_ready (rs:=[5,7,12]) (by kernel_rfl) (by simp) ?_
  refine AllReadyH.cons (o:=⟨some 11,.load 24 (.tmp 10),24, "desk.go:90",#[⟨4,.data⟩],none⟩) rfl (fun KQ hK=>?_) (AllReadyH.cons (o:=⟨some 13,.call { callee:=Callee.value (.func 108),args:=#[.tmp 12],argTypes:=#[181] },29, "desk.go:90",#[⟨6,.data⟩],none⟩) rfl (fun KQ hK=>?_) (AllReadyH.cons (o:=⟨some 18,.load 37 (.tmp 17),37, "desk.go:90",#[⟨11,.data⟩],none⟩) rfl (fun KQ hK=>?_) AllReadyH.nil))
  obtain⟨l0,l3,ll⟩:=(Za KC) X.drew hb
  go_simp
  clear l0 l3 ll
  refine hK.out _ _ ((Za KS) _ (Gr.of hbx)) (fun Zjd=>?_)
  clear hK KQ Zjc
  have Zjc:=Zjd
  clear Zjd
  (try simp only[Act.put,ZA,ZB,ZC])
  refine wpAnyH_ready (rs:=[7,12]) (by kernel_rfl) (by simp) ?_
  refine AllReadyH.cons (o:=⟨some 13,.call { callee:=Callee.value (.func 108),args:=#[.tmp 12],argTypes:=#[181] },29, "desk.go:90",#[⟨6,.data⟩],none⟩) rfl (fun KQ hK=>?_) (AllReadyH.cons (o:=⟨some 18,.load 37 (.tmp 17),37, "desk.go:90",#[⟨11,.data⟩],none⟩) rfl (fun KQ hK=>?_) AllReadyH.nil)
  refine Zl (by kernel_rfl) 108 #[.pointer (some ⟨d,0,none⟩)] (by kernel_rfl) ((Za CC) X.drew hb) ?_
  rintro e v1 ⟨rfl,hbn⟩
  refine⟨_,rfl,?_⟩
  have hb:=Zf hb hbn
  have hbx:=Zf hbx hbn
  refine hK.out _ _ ((Za KS) _ (Gr.of hbx)) (fun Zjd=>?_)
  clear hK KQ Zjc
  have Zjc:=Zjd
  clear Zjd
  (try simp only[Act.put,ZA,ZB,ZC])
  refine wpAnyH_ready (rs:=[12,15]) (by kernel_rfl) (by simp) ?_
  refine AllReadyH.cons (o:=⟨some 18,.load 37 (.tmp 17),37, "desk.go:90",#[⟨11,.data⟩],none⟩) rfl (fun KQ hK=>?_) (AllReadyH.cons (o:=⟨some 21,.call { callee:=Callee.value (.func 165),args:=#[.tmp 20],argTypes:=#[181] },3, "desk.go:90",#[⟨14,.data⟩,⟨7,.chain⟩],none⟩) rfl (fun KQ hK=>?_) AllReadyH.nil)
  obtain⟨l0,l3,ll⟩:=(Za KC) v1 hb
  go_simp
  clear l0 l3 ll
  refine hK.out _ _ ((Za KS) _ (Gr.of hbx)) (fun Zjd=>?_)
  clear hK KQ Zjc
  have Zjc:=Zjd
  clear Zjd
  (try simp only[Act.put,ZA,ZB,ZC])
  refine wpAnyH_ready (rs:=[15]) (by kernel_rfl) (by simp) ?_
  refine AllReadyH.cons (o:=⟨some 21,.call { callee:=Callee.value (.func 165),args:=#[.tmp 20],argTypes:=#[181] },3, "desk.go:90",#[⟨14,.data⟩,⟨7,.chain⟩],none⟩) rfl (fun KQ hK=>?_) AllReadyH.nil
  refine Zl (by kernel_rfl) 165 #[.pointer (some ⟨d,0,none⟩)] (by kernel_rfl) ((Za CH) v1 hb) ?_
  rintro e v2 ⟨rfl,hbn⟩
  refine⟨_,rfl,?_⟩
  have hb:=Zf hb hbn
  have hbx:=Zf hbx hbn
  refine hK.out _ _ ((Za KS) _ (Gr.of hbx)) (fun Zjd=>?_)
  clear hK KQ Zjc
  have Zjc:=Zjd
  clear Zjd
  (try simp only[Act.put,ZA,ZB,ZC])
  refine tk 16 ⟨some 22,.binOp BinOp.add 3 (.tmp 21) (.const (Value.int IntKind.i64 1)) 3,3, "desk.go:90",#[⟨15,.data⟩],none⟩ (.int .i64 (z+1)) rfl ?_ Zjc ?_
  ·(intro U hSw;(try dsimp only at hSw);go_simp;first|done|with_reducible rfl)
  (try simp only[Act.put,ZA,ZB,ZC])
  obtain⟨vz,hvz⟩:∃ z,z=v2:=⟨_,rfl⟩
  subst hvz
  rotate_left
  refine Zl (by kernel_rfl) 165 #[.pointer (some ⟨d,0,none⟩)] (by kernel_rfl) ((Za CH) v1 hb) ?_
  rintro e v3 ⟨rfl,hbn⟩
  refine⟨_,rfl,?_⟩
  have hb:=Zf hb hbn
  have hbx:=Zf hbx hbn
  refine hK.out _ _ ((Za KS) _ (Gr.of hbx)) (fun Zjd=>?_)
  clear hK KQ Zjc
  have Zjc:=Zjd
  clear Zjd
  (try simp only[Act.put,ZA,ZB,ZC])
  refine tk 16 ⟨some 22,.binOp BinOp.add 3 (.tmp 21) (.const (Value.int IntKind.i64 1)) 3,3, "desk.go:90",#[⟨15,.data⟩],none⟩ (.int .i64 (z+1)) rfl ?_ Zjc ?_
  ·(intro U hSw;(try dsimp only at hSw);go_simp;first|done|with_reducible rfl)
  (try simp only[Act.put,ZA,ZB,ZC])
  refine wpAnyH_ready (rs:=[12]) (by kernel_rfl) (by simp) ?_
  refine AllReadyH.cons (o:=⟨some 18,.load 37 (.tmp 17),37, "desk.go:90",#[⟨11,.data⟩],none⟩) rfl (fun KQ hK=>?_) AllReadyH.nil
  obtain⟨l0,l3,ll⟩:=(Za KC) v3 hb
  go_simp
  clear l0 l3 ll
  refine hK.out _ _ ((Za KS) _ (Gr.of hbx)) (fun Zjd=>?_)
  clear hK KQ Zjc
  have Zjc:=Zjd
  clear Zjd
  (try simp only[Act.put,ZA,ZB,ZC])
  obtain⟨vz,hvz⟩:∃ z,z=v3:=⟨_,rfl⟩
  subst hvz
  rotate_left
  obtain⟨l0,l3,ll⟩:=(Za KC) X.drew hb
  go_simp
  clear l0 l3 ll
  refine hK.out _ _ ((Za KS) _ (Gr.of hbx)) (fun Zjd=>?_)
  clear hK KQ Zjc
  have Zjc:=Zjd
  clear Zjd
  (try simp only[Act.put,ZA,ZB,ZC])
  refine wpAnyH_ready (rs:=[7]) (by kernel_rfl) (by simp) ?_
  refine AllReadyH.cons (o:=⟨some 13,.call { callee:=Callee.value (.func 108),args:=#[.tmp 12],argTypes:=#[181] },29, "desk.go:90",#[⟨6,.data⟩],none⟩) rfl (fun KQ hK=>?_) AllReadyH.nil
  refine Zl (by kernel_rfl) 108 #[.pointer (some ⟨d,0,none⟩)] (by kernel_rfl) ((Za CC) X.drew hb) ?_
  rintro e v4 ⟨rfl,hbn⟩
  refine⟨_,rfl,?_⟩
  have hb:=Zf hb hbn
  have hbx:=Zf hbx hbn
  refine hK.out _ _ ((Za KS) _ (Gr.of hbx)) (fun Zjd=>?_)
  clear hK KQ Zjc
  have Zjc:=Zjd
  clear Zjd
  (try simp only[Act.put,ZA,ZB,ZC])
  refine wpAnyH_ready (rs:=[15]) (by kernel_rfl) (by simp) ?_
  refine AllReadyH.cons (o:=⟨some 21,.call { callee:=Callee.value (.func 165),args:=#[.tmp 20],argTypes:=#[181] },3, "desk.go:90",#[⟨14,.data⟩,⟨7,.chain⟩],none⟩) rfl (fun KQ hK=>?_) AllReadyH.nil
  refine Zl (by kernel_rfl) 165 #[.pointer (some ⟨d,0,none⟩)] (by kernel_rfl) ((Za CH) v4 hb) ?_
  rintro e v5 ⟨rfl,hbn⟩
  refine⟨_,rfl,?_⟩
  have hb:=Zf hb hbn
  have hbx:=Zf hbx hbn
  refine hK.out _ _ ((Za KS) _ (Gr.of hbx)) (fun Zjd=>?_)
  clear hK KQ Zjc
  have Zjc:=Zjd
  clear Zjd
  (try simp only[Act.put,ZA,ZB,ZC])
  refine tk 16 ⟨some 22,.binOp BinOp.add 3 (.tmp 21) (.const (Value.int IntKind.i64 1)) 3,3, "desk.go:90",#[⟨15,.data⟩],none⟩ (.int .i64 (z+1)) rfl ?_ Zjc ?_
  ·(intro U hSw;(try dsimp only at hSw);go_simp;first|done|with_reducible rfl)
  (try simp only[Act.put,ZA,ZB,ZC])
  obtain⟨vz,hvz⟩:∃ z,z=v5:=⟨_,rfl⟩
  subst hvz
  rotate_left
  refine Zl (by kernel_rfl) 108 #[.pointer (some ⟨d,0,none⟩)] (by kernel_rfl) ((Za CC) X.drew hb) ?_
  rintro e v6 ⟨rfl,hbn⟩
  refine⟨_,rfl,?_⟩
  have hb:=Zf hb hbn
  have hbx:=Zf hbx hbn
  refine hK.out _ _ ((Za KS) _ (Gr.of hbx)) (fun Zjd=>?_)
  clear hK KQ Zjc
  have Zjc:=Zjd
  clear Zjd
  (try simp only[Act.put,ZA,ZB,ZC])
  refine wpAnyH_ready (rs:=[5,12,15]) (by kernel_rfl) (by simp) ?_
  refine AllReadyH.cons (o:=⟨some 11,.load 24 (.tmp 10),24, "desk.go:90",#[⟨4,.data⟩],none⟩) rfl (fun KQ hK=>?_) (AllReadyH.cons (o:=⟨some 18,.load 37 (.tmp 17),37, "desk.go:90",#[⟨11,.data⟩],none⟩) rfl (fun KQ hK=>?_) (AllReadyH.cons (o:=⟨some 21,.call { callee:=Callee.value (.func 165),args:=#[.tmp 20],argTypes:=#[181] },3, "desk.go:90",#[⟨14,.data⟩,⟨7,.chain⟩],none⟩) rfl (fun KQ hK=>?_) AllReadyH.nil))
  obtain⟨l0,l3,ll⟩:=(Za KC) v6 hb
  go_simp
  clear l0 l3 ll
  refine hK.out _ _ ((Za KS) _ (Gr.of hbx)) (fun Zjd=>?_)
  clear hK KQ Zjc
  have Zjc:=Zjd
  clear Zjd
  (try simp only[Act.put,ZA,ZB,ZC])
  refine wpAnyH_ready (rs:=[12,15]) (by kernel_rfl) (by simp) ?_
  refine AllReadyH.cons (o:=⟨some 18,.load 37 (.tmp 17),37, "desk.go:90",#[⟨11,.data⟩],none⟩) rfl (fun KQ hK=>?_) (AllReadyH.cons (o:=⟨some 21,.call { callee:=Callee.value (.func 165),args:=#[.tmp 20],argTypes:=#[181] },3, "desk.go:90",#[⟨14,.data⟩,⟨7,.chain⟩],none⟩) rfl (fun KQ hK=>?_) AllReadyH.nil)
  obtain⟨l0,l3,ll⟩:=(Za KC) v6 hb
  go_simp
  clear l0 l3 ll
  refine hK.out _ _ ((Za KS) _ (Gr.of hbx)) (fun Zjd=>?_)
  clear hK KQ Zjc
  have Zjc:=Zjd
  clear Zjd
  (try simp only[Act.put,ZA,ZB,ZC])
  refine wpAnyH_ready (rs:=[15]) (by kernel_rfl) (by simp) ?_
  refine AllReadyH.cons (o:=⟨some 21,.call { callee:=Callee.value (.func 165),args:=#[.tmp 20],argTypes:=#[181] },3, "desk.go:90",#[⟨14,.data⟩,⟨7,.chain⟩],none⟩) rfl (fun KQ hK=>?_) AllReadyH.nil
  refine Zl (by kernel_rfl) 165 #[.pointer (some ⟨d,0,none⟩)] (by kernel_rfl) ((Za CH) v6 hb) ?_
  rintro e v7 ⟨rfl,hbn⟩
  refine⟨_,rfl,?_⟩
  have hb:=Zf hb hbn
  have hbx:=Zf hbx hbn
  refine hK.out _ _ ((Za KS) _ (Gr.of hbx)) (fun Zjd=>?_)
  clear hK KQ Zjc
  have Zjc:=Zjd
  clear Zjd
  (try simp only[Act.put,ZA,ZB,ZC])
  refine tk 16 ⟨some 22,.binOp BinOp.add 3 (.tmp 21) (.const (Value.int IntKind.i64 1)) 3,3, "desk.go:90",#[⟨15,.data⟩],none⟩ (.int .i64 (z+1)) rfl ?_ Zjc ?_
  ·(intro U hSw;(try dsimp only at hSw);go_simp;first|done|with_reducible rfl)
  (try simp only[Act.put,ZA,ZB,ZC])
  obtain⟨vz,hvz⟩:∃ z,z=v7:=⟨_,rfl⟩
  subst hvz
  rotate_left
  refine Zl (by kernel_rfl) 165 #[.pointer (some ⟨d,0,none⟩)] (by kernel_rfl) ((Za CH) v6 hb) ?_
  rintro e v8 ⟨rfl,hbn⟩
  refine⟨_,rfl,?_⟩
  have hb:=Zf hb hbn
  have hbx:=Zf hbx hbn
  refine hK.out _ _ ((Za KS) _ (Gr.of hbx)) (fun Zjd=>?_)
  clear hK KQ Zjc
  have Zjc:=Zjd
  clear Zjd
  (try simp only[Act.put,ZA,ZB,ZC])
  refine tk 16 ⟨some 22,.binOp BinOp.add 3 (.tmp 21) (.const (Value.int IntKind.i64 1)) 3,3, "desk.go:90",#[⟨15,.data⟩],none⟩ (.int .i64 (z+1)) rfl ?_ Zjc ?_
  ·(intro U hSw;(try dsimp only at hSw);go_simp;first|done|with_reducible rfl)
  (try simp only[Act.put,ZA,ZB,ZC])
  refine wpAnyH_ready (rs:=[12]) (by kernel_rfl) (by simp) ?_
  refine AllReadyH.cons (o:=⟨some 18,.load 37 (.tmp 17),37, "desk.go:90",#[⟨11,.data⟩],none⟩) rfl (fun KQ hK=>?_) AllReadyH.nil
  obtain⟨l0,l3,ll⟩:=(Za KC) v8 hb
  go_simp
  clear l0 l3 ll
  refine hK.out _ _ ((Za KS) _ (Gr.of hbx)) (fun Zjd=>?_)
  clear hK KQ Zjc
  have Zjc:=Zjd
  clear Zjd
  (try simp only[Act.put,ZA,ZB,ZC])
  obtain⟨vz,hvz⟩:∃ z,z=v8:=⟨_,rfl⟩
  subst hvz
  rotate_left
  obtain⟨l0,l3,ll⟩:=(Za KC) v6 hb
  go_simp
  clear l0 l3 ll
  refine hK.out _ _ ((Za KS) _ (Gr.of hbx)) (fun Zjd=>?_)
  clear hK KQ Zjc
  have Zjc:=Zjd
  clear Zjd
  (try simp only[Act.put,ZA,ZB,ZC])
  refine wpAnyH_ready (rs:=[5,15]) (by kernel_rfl) (by simp) ?_
  refine AllReadyH.cons (o:=⟨some 11,.load 24 (.tmp 10),24, "desk.go:90",#[⟨4,.data⟩],none⟩) rfl (fun KQ hK=>?_) (AllReadyH.cons (o:=⟨some 21,.call { callee:=Callee.value (.func 165),args:=#[.tmp 20],argTypes:=#[181] },3, "desk.go:90",#[⟨14,.data⟩,⟨7,.chain⟩],none⟩) rfl (fun KQ hK=>?_) AllReadyH.nil)
  obtain⟨l0,l3,ll⟩:=(Za KC) v6 hb
  go_simp
  clear l0 l3 ll
  refine hK.out _ _ ((Za KS) _ (Gr.of hbx)) (fun Zjd=>?_)
  clear hK KQ Zjc
  have Zjc:=Zjd
  clear Zjd
  (try simp only[Act.put,ZA,ZB,ZC])
  refine wpAnyH_ready (rs:=[15]) (by kernel_rfl) (by simp) ?_
  refine AllReadyH.cons (o:=⟨some 21,.call { callee:=Callee.value (.func 165),args:=#[.tmp 20],argTypes:=#[181] },3, "desk.go:90",#[⟨14,.data⟩,⟨7,.chain⟩],none⟩) rfl (fun KQ hK=>?_) AllReadyH.nil
  refine Zl (by kernel_rfl) 165 #[.pointer (some ⟨d,0,none⟩)] (by kernel_rfl) ((Za CH) v6 hb) ?_
  rintro e v9 ⟨rfl,hbn⟩
  refine⟨_,rfl,?_⟩
  have hb:=Zf hb hbn
  have hbx:=Zf hbx hbn
  refine hK.out _ _ ((Za KS) _ (Gr.of hbx)) (fun Zjd=>?_)
  clear hK KQ Zjc
  have Zjc:=Zjd
  clear Zjd
  (try simp only[Act.put,ZA,ZB,ZC])
  refine tk 16 ⟨some 22,.binOp BinOp.add 3 (.tmp 21) (.const (Value.int IntKind.i64 1)) 3,3, "desk.go:90",#[⟨15,.data⟩],none⟩ (.int .i64 (z+1)) rfl ?_ Zjc ?_
  ·(intro U hSw;(try dsimp only at hSw);go_simp;first|done|with_reducible rfl)
  (try simp only[Act.put,ZA,ZB,ZC])
  obtain⟨vz,hvz⟩:∃ z,z=v9:=⟨_,rfl⟩
  subst hvz
  rotate_left
  refine Zl (by kernel_rfl) 165 #[.pointer (some ⟨d,0,none⟩)] (by kernel_rfl) ((Za CH) v6 hb) ?_
  rintro e v10 ⟨rfl,hbn⟩
  refine⟨_,rfl,?_⟩
  have hb:=Zf hb hbn
  have hbx:=Zf hbx hbn
  refine hK.out _ _ ((Za KS) _ (Gr.of hbx)) (fun Zjd=>?_)
  clear hK KQ Zjc
  have Zjc:=Zjd
  clear Zjd
  (try simp only[Act.put,ZA,ZB,ZC])
  refine tk 16 ⟨some 22,.binOp BinOp.add 3 (.tmp 21) (.const (Value.int IntKind.i64 1)) 3,3, "desk.go:90",#[⟨15,.data⟩],none⟩ (.int .i64 (z+1)) rfl ?_ Zjc ?_
  ·(intro U hSw;(try dsimp only at hSw);go_simp;first|done|with_reducible rfl)
  (try simp only[Act.put,ZA,ZB,ZC])
  refine wpAnyH_ready (rs:=[5]) (by kernel_rfl) (by simp) ?_
  refine AllReadyH.cons (o:=⟨some 11,.load 24 (.tmp 10),24, "desk.go:90",#[⟨4,.data⟩],none⟩) rfl (fun KQ hK=>?_) AllReadyH.nil
  obtain⟨l0,l3,ll⟩:=(Za KC) v10 hb
  go_simp
  clear l0 l3 ll
  refine hK.out _ _ ((Za KS) _ (Gr.of hbx)) (fun Zjd=>?_)
  clear hK KQ Zjc
  have Zjc:=Zjd
  clear Zjd
  (try simp only[Act.put,ZA,ZB,ZC])
  obtain⟨vz,hvz⟩:∃ z,z=v10:=⟨_,rfl⟩
  subst hvz
  rotate_left
  refine Zl (by kernel_rfl) 165 #[.pointer (some ⟨d,0,none⟩)] (by kernel_rfl) ((Za CH) v6 hb) ?_
  rintro e v11 ⟨rfl,hbn⟩
  refine⟨_,rfl,?_⟩
  have hb:=Zf hb hbn
  have hbx:=Zf hbx hbn
  refine hK.out _ _ ((Za KS) _ (Gr.of hbx)) (fun Zjd=>?_)
  clear hK KQ Zjc
  have Zjc:=Zjd
  clear Zjd
  (try simp only[Act.put,ZA,ZB,ZC])
  refine tk 16 ⟨some 22,.binOp BinOp.add 3 (.tmp 21) (.const (Value.int IntKind.i64 1)) 3,3, "desk.go:90",#[⟨15,.data⟩],none⟩ (.int .i64 (z+1)) rfl ?_ Zjc ?_
  ·(intro U hSw;(try dsimp only at hSw);go_simp;first|done|with_reducible rfl)
  (try simp only[Act.put,ZA,ZB,ZC])
  refine wpAnyH_ready (rs:=[5,12]) (by kernel_rfl) (by simp) ?_
  refine AllReadyH.cons (o:=⟨some 11,.load 24 (.tmp 10),24, "desk.go:90",#[⟨4,.data⟩],none⟩) rfl (fun KQ hK=>?_) (AllReadyH.cons (o:=⟨some 18,.load 37 (.tmp 17),37, "desk.go:90",#[⟨11,.data⟩],none⟩) rfl (fun KQ hK=>?_) AllReadyH.nil)
  obtain⟨l0,l3,ll⟩:=(Za KC) v11 hb
  go_simp
  clear l0 l3 ll
  refine hK.out _ _ ((Za KS) _ (Gr.of hbx)) (fun Zjd=>?_)
  clear hK KQ Zjc
  have Zjc:=Zjd
  clear Zjd
  (try simp only[Act.put,ZA,ZB,ZC])
  refine wpAnyH_ready (rs:=[12]) (by kernel_rfl) (by simp) ?_
  refine AllReadyH.cons (o:=⟨some 18,.load 37 (.tmp 17),37, "desk.go:90",#[⟨11,.data⟩],none⟩) rfl (fun KQ hK=>?_) AllReadyH.nil
  obtain⟨l0,l3,ll⟩:=(Za KC) v11 hb
  go_simp
  clear l0 l3 ll
  refine hK.out _ _ ((Za KS) _ (Gr.of hbx)) (fun Zjd=>?_)
  clear hK KQ Zjc
  have Zjc:=Zjd
  clear Zjd
  (try simp only[Act.put,ZA,ZB,ZC])
  obtain⟨vz,hvz⟩:∃ z,z=v11:=⟨_,rfl⟩
  subst hvz
  rotate_left
  obtain⟨l0,l3,ll⟩:=(Za KC) v11 hb
  go_simp
  clear l0 l3 ll
  refine hK.out _ _ ((Za KS) _ (Gr.of hbx)) (fun Zjd=>?_)
  clear hK KQ Zjc
  have Zjc:=Zjd
  clear Zjd
  (try simp only[Act.put,ZA,ZB,ZC])
  refine wpAnyH_ready (rs:=[5]) (by kernel_rfl) (by simp) ?_
  refine AllReadyH.cons (o:=⟨some 11,.load 24 (.tmp 10),24, "desk.go:90",#[⟨4,.data⟩],none⟩) rfl (fun KQ hK=>?_) AllReadyH.nil
  obtain⟨l0,l3,ll⟩:=(Za KC) v11 hb
  go_simp
  clear l0 l3 ll
  refine hK.out _ _ ((Za KS) _ (Gr.of hbx)) (fun Zjd=>?_)
  clear hK KQ Zjc
  have Zjc:=Zjd
  clear Zjd
  (try simp only[Act.put,ZA,ZB,ZC])
  obtain⟨vz,hvz⟩:∃ z,z=v11:=⟨_,rfl⟩
  subst hvz
  rotate_left
  obtain⟨l0,l3,ll⟩:=(Za KC) X.drew hb
  go_simp
  clear l0 l3 ll
  refine hK.out _ _ ((Za KS) _ (Gr.of hbx)) (fun Zjd=>?_)
  clear hK KQ Zjc
  have Zjc:=Zjd
  clear Zjd
  (try simp only[Act.put,ZA,ZB,ZC])
  refine wpAnyH_ready (rs:=[5,7]) (by kernel_rfl) (by simp) ?_
  refine AllReadyH.cons (o:=⟨some 11,.load 24 (.tmp 10),24, "desk.go:90",#[⟨4,.data⟩],none⟩) rfl (fun KQ hK=>?_) (AllReadyH.cons (o:=⟨some 13,.call { callee:=Callee.value (.func 108),args:=#[.tmp 12],argTypes:=#[181] },29, "desk.go:90",#[⟨6,.data⟩],none⟩) rfl (fun KQ hK=>?_) AllReadyH.nil)
  obtain⟨l0,l3,ll⟩:=(Za KC) X.drew hb
  go_simp
  clear l0 l3 ll
  refine hK.out _ _ ((Za KS) _ (Gr.of hbx)) (fun Zjd=>?_)
  clear hK KQ Zjc
  have Zjc:=Zjd
  clear Zjd
  (try simp only[Act.put,ZA,ZB,ZC])
  refine wpAnyH_ready (rs:=[7]) (by kernel_rfl) (by simp) ?_
  refine AllReadyH.cons (o:=⟨some 13,.call { callee:=Callee.value (.func 108),args:=#[.tmp 12],argTypes:=#[181] },29, "desk.go:90",#[⟨6,.data⟩],none⟩) rfl (fun KQ hK=>?_) AllReadyH.nil
  refine Zl (by kernel_rfl) 108 #[.pointer (some ⟨d,0,none⟩)] (by kernel_rfl) ((Za CC) X.drew hb) ?_
  rintro e v12 ⟨rfl,hbn⟩
  refine⟨_,rfl,?_⟩
  have hb:=Zf hb hbn
  have hbx:=Zf hbx hbn
  refine hK.out _ _ ((Za KS) _ (Gr.of hbx)) (fun Zjd=>?_)
  clear hK KQ Zjc
  have Zjc:=Zjd
  clear Zjd
  (try simp only[Act.put,ZA,ZB,ZC])
  refine wpAnyH_ready (rs:=[15]) (by kernel_rfl) (by simp) ?_
  refine AllReadyH.cons (o:=⟨some 21,.call { callee:=Callee.value (.func 165),args:=#[.tmp 20],argTypes:=#[181] },3, "desk.go:90",#[⟨14,.data⟩,⟨7,.chain⟩],none⟩) rfl (fun KQ hK=>?_) AllReadyH.nil
  refine Zl (by kernel_rfl) 165 #[.pointer (some ⟨d,0,none⟩)] (by kernel_rfl) ((Za CH) v12 hb) ?_
  rintro e v13 ⟨rfl,hbn⟩
  refine⟨_,rfl,?_⟩
  have hb:=Zf hb hbn
  have hbx:=Zf hbx hbn
  refine hK.out _ _ ((Za KS) _ (Gr.of hbx)) (fun Zjd=>?_)
  clear hK KQ Zjc
  have Zjc:=Zjd
  clear Zjd
  (try simp only[Act.put,ZA,ZB,ZC])
  refine tk 16 ⟨some 22,.binOp BinOp.add 3 (.tmp 21) (.const (Value.int IntKind.i64 1)) 3,3, "desk.go:90",#[⟨15,.data⟩],none⟩ (.int .i64 (z+1)) rfl ?_ Zjc ?_
  ·(intro U hSw;(try dsimp only at hSw);go_simp;first|done|with_reducible rfl)
  (try simp only[Act.put,ZA,ZB,ZC])
  obtain⟨vz,hvz⟩:∃ z,z=v13:=⟨_,rfl⟩
  subst hvz
  rotate_left
  refine Zl (by kernel_rfl) 108 #[.pointer (some ⟨d,0,none⟩)] (by kernel_rfl) ((Za CC) X.drew hb) ?_
  rintro e v14 ⟨rfl,hbn⟩
  refine⟨_,rfl,?_⟩
  have hb:=Zf hb hbn
  have hbx:=Zf hbx hbn
  refine hK.out _ _ ((Za KS) _ (Gr.of hbx)) (fun Zjd=>?_)
  clear hK KQ Zjc
  have Zjc:=Zjd
  clear Zjd
  (try simp only[Act.put,ZA,ZB,ZC])
  refine wpAnyH_ready (rs:=[5,15]) (by kernel_rfl) (by simp) ?_
  refine AllReadyH.cons (o:=⟨some 11,.load 24 (.tmp 10),24, "desk.go:90",#[⟨4,.data⟩],none⟩) rfl (fun KQ hK=>?_) (AllReadyH.cons (o:=⟨some 21,.call { callee:=Callee.value (.func 165),args:=#[.tmp 20],argTypes:=#[181] },3, "desk.go:90",#[⟨14,.data⟩,⟨7,.chain⟩],none⟩) rfl (fun KQ hK=>?_) AllReadyH.nil)
  obtain⟨l0,l3,ll⟩:=(Za KC) v14 hb
  go_simp
  clear l0 l3 ll
  refine hK.out _ _ ((Za KS) _ (Gr.of hbx)) (fun Zjd=>?_)
  clear hK KQ Zjc
  have Zjc:=Zjd
  clear Zjd
  (try simp only[Act.put,ZA,ZB,ZC])
  refine wpAnyH_ready (rs:=[15]) (by kernel_rfl) (by simp) ?_
  refine AllReadyH.cons (o:=⟨some 21,.call { callee:=Callee.value (.func 165),args:=#[.tmp 20],argTypes:=#[181] },3, "desk.go:90",#[⟨14,.data⟩,⟨7,.chain⟩],none⟩) rfl (fun KQ hK=>?_) AllReadyH.nil
  refine Zl (by kernel_rfl) 165 #[.pointer (some ⟨d,0,none⟩)] (by kernel_rfl) ((Za CH) v14 hb) ?_
  rintro e v15 ⟨rfl,hbn⟩
  refine⟨_,rfl,?_⟩
  have hb:=Zf hb hbn
  have hbx:=Zf hbx hbn
  refine hK.out _ _ ((Za KS) _ (Gr.of hbx)) (fun Zjd=>?_)
  clear hK KQ Zjc
  have Zjc:=Zjd
  clear Zjd
  (try simp only[Act.put,ZA,ZB,ZC])
  refine tk 16 ⟨some 22,.binOp BinOp.add 3 (.tmp 21) (.const (Value.int IntKind.i64 1)) 3,3, "desk.go:90",#[⟨15,.data⟩],none⟩ (.int .i64 (z+1)) rfl ?_ Zjc ?_
  ·(intro U hSw;(try dsimp only at hSw);go_simp;first|done|with_reducible rfl)
  (try simp only[Act.put,ZA,ZB,ZC])
  obtain⟨vz,hvz⟩:∃ z,z=v15:=⟨_,rfl⟩
  subst hvz
  rotate_left
  refine Zl (by kernel_rfl) 165 #[.pointer (some ⟨d,0,none⟩)] (by kernel_rfl) ((Za CH) v14 hb) ?_
  rintro e v16 ⟨rfl,hbn⟩
  refine⟨_,rfl,?_⟩
  have hb:=Zf hb hbn
  have hbx:=Zf hbx hbn
  refine hK.out _ _ ((Za KS) _ (Gr.of hbx)) (fun Zjd=>?_)
  clear hK KQ Zjc
  have Zjc:=Zjd
  clear Zjd
  (try simp only[Act.put,ZA,ZB,ZC])
  refine tk 16 ⟨some 22,.binOp BinOp.add 3 (.tmp 21) (.const (Value.int IntKind.i64 1)) 3,3, "desk.go:90",#[⟨15,.data⟩],none⟩ (.int .i64 (z+1)) rfl ?_ Zjc ?_
  ·(intro U hSw;(try dsimp only at hSw);go_simp;first|done|with_reducible rfl)
  (try simp only[Act.put,ZA,ZB,ZC])
  refine wpAnyH_ready (rs:=[5]) (by kernel_rfl) (by simp) ?_
  refine AllReadyH.cons (o:=⟨some 11,.load 24 (.tmp 10),24, "desk.go:90",#[⟨4,.data⟩],none⟩) rfl (fun KQ hK=>?_) AllReadyH.nil
  obtain⟨l0,l3,ll⟩:=(Za KC) v16 hb
  go_simp
  clear l0 l3 ll
  refine hK.out _ _ ((Za KS) _ (Gr.of hbx)) (fun Zjd=>?_)
  clear hK KQ Zjc
  have Zjc:=Zjd
  clear Zjd
  (try simp only[Act.put,ZA,ZB,ZC])
  obtain⟨vz,hvz⟩:∃ z,z=v16:=⟨_,rfl⟩
  subst hvz
  rotate_left
  all_goals
   refine wpAnyH_ready (rs:=[17]) (by kernel_rfl) (by simp) ?_
   refine AllReadyH.cons (o:=⟨some 23,.call { callee:=Callee.value (.func 28),args:=#[.tmp 11,.tmp 13,.tmp 18,.tmp 19,.tmp 22],argTypes:=#[24,29,37,59,3] },60, "desk.go:90",#[⟨5,.data⟩,⟨7,.data⟩,⟨12,.data⟩,⟨13,.data⟩,⟨16,.data⟩,⟨15,.chain⟩],none⟩) rfl (fun KQ hK=>?_) AllReadyH.nil
   refine Zl (by kernel_rfl) 28 #[.agg #[.slice ka kn kc],.slice ca cn cc,.slice pa pn pc,.agg #[.int .i64 th,.slice ai ni ci,.slice ao no co],.int .i64 (z+1)] (by kernel_rfl) ((Za CS) vz hb) ?_
   rintro e vy ⟨k5,k5n,k5c,sa,sn,sc,rfl,hFn,sk5,ss5,hbn⟩
   refine⟨_,rfl,?_⟩
   have hb5:=Zf hb hbn
   have hbx5:=Zf hbx hbn
   have gx5:Gr X vy (fun q=>q=d):=Gr.of hbx5
   refine hK.out _ _ ((Za KS) _ (Gr.of hbx5)) (fun Zjd=>?_)
   clear hK KQ Zjc
   have Zjc:=Zjd
   clear Zjd
   (try simp only[Act.put,ZA,ZB,ZC])
   refine tk 18 ⟨some 5,.move (.tmp 23),60, "desk.go:90",#[⟨17,.data⟩],none⟩ ?_ rfl ?_ Zjc ?_
   rotate_left
   ·(intro U hSw;(try dsimp only at hSw);go_simp;first|done|with_reducible rfl)
   (try simp only[Act.put,ZA,ZB,ZC])
   refine tk 19 ⟨some 24,.extract (.tmp 5) 0,24, "desk.go:90",#[⟨18,.data⟩],none⟩ ?_ rfl ?_ Zjc ?_
   rotate_left
   ·(intro U hSw;(try dsimp only at hSw);go_simp;first|done|with_reducible rfl)
   (try simp only[Act.put,ZA,ZB,ZC])
   refine tk 20 ⟨some 25,.extract (.tmp 5) 1,37, "desk.go:90",#[⟨18,.data⟩,⟨24,.gcOnly .lateStores⟩],none⟩ ?_ rfl ?_ Zjc ?_
   rotate_left
   ·(intro U hSw;(try dsimp only at hSw);go_simp;first|done|with_reducible rfl)
   (try simp only[Act.put,ZA,ZB,ZC])
   refine tk 21 ⟨some 26,.extract (.tmp 5) 2,30, "desk.go:90",#[⟨18,.data⟩,⟨28,.gcOnly .lateStores⟩],none⟩ ?_ rfl ?_ Zjc ?_
   rotate_left
   ·(intro U hSw;(try dsimp only at hSw);go_simp;first|done|with_reducible rfl)
   (try simp only[Act.put,ZA,ZB,ZC])
   refine tk 22 ⟨some 27,.nilCheck (.tmp 6),0, "desk.go:90",#[⟨0,.data⟩,⟨0,.phase⟩,⟨1,.textOnly .lateStores⟩,⟨2,.phase⟩,⟨3,.phase⟩,⟨4,.phase⟩,⟨5,.phase⟩,⟨6,.phase⟩,⟨7,.phase⟩,⟨8,.phase⟩,⟨9,.phase⟩,⟨10,.phase⟩,⟨11,.phase⟩,⟨12,.phase⟩,⟨13,.phase⟩,⟨14,.phase⟩,⟨15,.phase⟩,⟨16,.phase⟩,⟨17,.phase⟩,⟨18,.phase⟩,⟨19,.phase⟩,⟨20,.textOnly .lateStores⟩,⟨21,.textOnly .lateStores⟩],none⟩ ?_ rfl ?_ Zjc ?_
   rotate_left
   ·(intro U hSw;(try dsimp only at hSw);go_simp;first|done|with_reducible rfl)
   (try simp only[Act.put,ZA,ZB,ZC])
   refine tk 23 ⟨some 28,.fieldAddr 254 (.tmp 27) 0,0, "desk.go:90",#[⟨22,.data⟩,⟨0,.phase⟩,⟨1,.textOnly .lateStores⟩,⟨2,.phase⟩,⟨3,.phase⟩,⟨4,.phase⟩,⟨5,.phase⟩,⟨6,.phase⟩,⟨7,.phase⟩,⟨8,.phase⟩,⟨9,.phase⟩,⟨10,.phase⟩,⟨11,.phase⟩,⟨12,.phase⟩,⟨13,.phase⟩,⟨14,.phase⟩,⟨15,.phase⟩,⟨16,.phase⟩,⟨17,.phase⟩,⟨18,.phase⟩,⟨19,.phase⟩,⟨20,.textOnly .lateStores⟩,⟨21,.textOnly .lateStores⟩],none⟩ ?_ rfl ?_ Zjc ?_
   rotate_left
   ·(intro U hSw;(try dsimp only at hSw);go_simp;first|done|with_reducible rfl)
   (try simp only[Act.put,ZA,ZB,ZC])
   have hbx:=(hb5.block _ (lt_of_block (Za H).box)).trans (Za H).box
   have y0:=Zd hbx 0 _ rfl
   have y3:=Zd hbx 3 _ rfl
   have g0:=Zg hbx 0
   have g3:=Zg hbx 3
   have yl:=lt_of_block hbx
   refine wpAnyH_ready (rs:=[24]) (by kernel_rfl) (by simp) ?_
   refine AllReadyH.cons (o:=⟨none,.store 24 (.tmp 28) (.tmp 24),0, "desk.go:90",#[⟨23,.data⟩,⟨19,.data⟩,⟨17,.chain⟩,⟨0,.phase⟩,⟨1,.textOnly .lateStores⟩,⟨2,.phase⟩,⟨3,.phase⟩,⟨4,.phase⟩,⟨5,.phase⟩,⟨6,.phase⟩,⟨7,.phase⟩,⟨8,.phase⟩,⟨9,.phase⟩,⟨10,.phase⟩,⟨11,.phase⟩,⟨12,.phase⟩,⟨13,.phase⟩,⟨14,.phase⟩,⟨15,.phase⟩,⟨16,.phase⟩,⟨17,.phase⟩,⟨18,.phase⟩,⟨19,.phase⟩,⟨20,.textOnly .lateStores⟩,⟨21,.textOnly .lateStores⟩],none⟩) rfl (fun KQ hK=>?_) AllReadyH.nil
   go_simp
   refine hK.out _ _ ((Za KS) _ (gx5.one d 0 (.inl rfl) _)) (fun Zjd=>?_)
   clear hK KQ Zjc
   have Zjc:=Zjd
   clear Zjd
   (try simp only[Act.put])
   refine tk 25 ⟨some 29,.nilCheck (.tmp 7),0, "desk.go:90",#[⟨1,.data⟩,⟨0,.phase⟩,⟨1,.phase⟩,⟨2,.phase⟩,⟨3,.phase⟩,⟨4,.phase⟩,⟨5,.phase⟩,⟨6,.phase⟩,⟨7,.phase⟩,⟨8,.phase⟩,⟨9,.phase⟩,⟨10,.phase⟩,⟨11,.phase⟩,⟨12,.phase⟩,⟨13,.phase⟩,⟨14,.phase⟩,⟨15,.phase⟩,⟨16,.phase⟩,⟨17,.phase⟩,⟨18,.phase⟩,⟨19,.phase⟩,⟨20,.phase⟩,⟨21,.textOnly .lateStores⟩,⟨22,.phase⟩,⟨23,.phase⟩,⟨24,.phase⟩],none⟩ ?_ rfl ?_ Zjc ?_
   rotate_left
   ·(intro U hSw;(try dsimp only at hSw);go_simp;first|done|with_reducible rfl)
   (try simp only[Act.put,ZA,ZB,ZC])
   refine tk 26 ⟨some 30,.fieldAddr 254 (.tmp 29) 1,0, "desk.go:90",#[⟨25,.data⟩,⟨0,.phase⟩,⟨1,.phase⟩,⟨2,.phase⟩,⟨3,.phase⟩,⟨4,.phase⟩,⟨5,.phase⟩,⟨6,.phase⟩,⟨7,.phase⟩,⟨8,.phase⟩,⟨9,.phase⟩,⟨10,.phase⟩,⟨11,.phase⟩,⟨12,.phase⟩,⟨13,.phase⟩,⟨14,.phase⟩,⟨15,.phase⟩,⟨16,.phase⟩,⟨17,.phase⟩,⟨18,.phase⟩,⟨19,.phase⟩,⟨20,.phase⟩,⟨21,.textOnly .lateStores⟩,⟨22,.phase⟩,⟨23,.phase⟩,⟨24,.phase⟩],none⟩ ?_ rfl ?_ Zjc ?_
   rotate_left
   ·(intro U hSw;(try dsimp only at hSw);go_simp;first|done|with_reducible rfl)
   (try simp only[Act.put,ZA,ZB,ZC])
   refine tk 27 ⟨some 31,.fieldAddr 67 (.tmp 30) 1,0, "desk.go:90",#[⟨26,.data⟩,⟨0,.phase⟩,⟨1,.phase⟩,⟨2,.phase⟩,⟨3,.phase⟩,⟨4,.phase⟩,⟨5,.phase⟩,⟨6,.phase⟩,⟨7,.phase⟩,⟨8,.phase⟩,⟨9,.phase⟩,⟨10,.phase⟩,⟨11,.phase⟩,⟨12,.phase⟩,⟨13,.phase⟩,⟨14,.phase⟩,⟨15,.phase⟩,⟨16,.phase⟩,⟨17,.phase⟩,⟨18,.phase⟩,⟨19,.phase⟩,⟨20,.phase⟩,⟨21,.textOnly .lateStores⟩,⟨22,.phase⟩,⟨23,.phase⟩,⟨24,.phase⟩],none⟩ ?_ rfl ?_ Zjc ?_
   rotate_left
   ·(intro U hSw;(try dsimp only at hSw);go_simp;first|done|with_reducible rfl)
   (try simp only[Act.put,ZA,ZB,ZC])
   refine wpAnyH_ready (rs:=[28]) (by kernel_rfl) (by simp) ?_
   refine AllReadyH.cons (o:=⟨none,.store 37 (.tmp 31) (.tmp 25),0, "desk.go:90",#[⟨27,.data⟩,⟨20,.data⟩,⟨24,.chain⟩,⟨0,.phase⟩,⟨1,.phase⟩,⟨2,.phase⟩,⟨3,.phase⟩,⟨4,.phase⟩,⟨5,.phase⟩,⟨6,.phase⟩,⟨7,.phase⟩,⟨8,.phase⟩,⟨9,.phase⟩,⟨10,.phase⟩,⟨11,.phase⟩,⟨12,.phase⟩,⟨13,.phase⟩,⟨14,.phase⟩,⟨15,.phase⟩,⟨16,.phase⟩,⟨17,.phase⟩,⟨18,.phase⟩,⟨19,.phase⟩,⟨20,.phase⟩,⟨21,.textOnly .lateStores⟩,⟨22,.phase⟩,⟨23,.phase⟩,⟨24,.phase⟩],none⟩) rfl (fun KQ hK=>?_) AllReadyH.nil
   go_simp
   refine hK.out _ _ ((Za KS) _ ((gx5.one d 0 (.inl rfl) _).one d 3 (.inl rfl) _)) (fun Zjd=>?_)
   clear hK KQ Zjc
   have Zjc:=Zjd
   clear Zjd
   (try simp only[Act.put])
   refine tk 29 ⟨some 4,.assign (.tmp 26),30, "desk.go:90",#[⟨21,.data⟩,⟨28,.chain⟩,⟨0,.phase⟩,⟨1,.phase⟩,⟨2,.phase⟩,⟨3,.phase⟩,⟨4,.phase⟩,⟨5,.phase⟩,⟨6,.phase⟩,⟨7,.phase⟩,⟨8,.phase⟩,⟨9,.phase⟩,⟨10,.phase⟩,⟨11,.phase⟩,⟨12,.phase⟩,⟨13,.phase⟩,⟨14,.phase⟩,⟨15,.phase⟩,⟨16,.phase⟩,⟨17,.phase⟩,⟨18,.phase⟩,⟨19,.phase⟩,⟨20,.phase⟩,⟨21,.phase⟩,⟨22,.phase⟩,⟨23,.phase⟩,⟨24,.phase⟩,⟨25,.phase⟩,⟨26,.phase⟩,⟨27,.phase⟩,⟨28,.phase⟩],none⟩ ?_ rfl ?_ Zjc ?_
   rotate_left
   ·(intro U hSw;(try dsimp only at hSw);go_simp;first|done|with_reducible rfl)
   (try simp only[Act.put,ZA,ZB,ZC])
   refine wpAnyH_done (by kernel_rfl) ?_ _
   clear Zjc
   go_wp2_with fail
   go_meet
   case rel=>
    exact⟨rfl,k5,k5n,k5c,sa,sn,sc,(Za H).swept hb hbn hFn sk5 ss5 (((Gr.refl vy (fun q=>q=d)).one d 0 (.inl rfl) (.slice k5 k5n k5c)).one d 3 (.inl rfl) (.slice sa sn sc)) (Tr.set_cells (Tr.set_cells hbx 0 _) 3 _)⟩
 case rest=>
  obtain⟨rfl,HD⟩:=hcut
  clear KS KC CC CH CS H
  go_wp2
  go_ret
  exact⟨rfl,Za HD⟩
end
theorem Zdc(w:World)(b1:Nat)(th:Int)(ai ao:Option Addr)(ni ci no co:Nat)(I:List InD)(O:List Z0)(K:List ByteArray)(N:List Int)(T:List Zk)(P:List TxD)(tip:Int)(β : Int→List Zh)(x:Int)(K1:List ByteArray)(P1:List TxD)(hE:Env w)(hI:InsAt w ai ni I)(hO:OutsAt w ao no O)(sI:SlOk ai ni ci)(sO:SlOk ao no co)(ht:(Lit.int .i64 tip).wf=true)(h1:0≤Ya N T tip)(h2:Ya N T tip≤1000)
  (hb1:w.heap[b1]? = some (.cells [.int .i64 th,.slice ai ni ci,.slice ao no co].toArray 59 (0,0))) (hx:acE K (β tip) P (th,I,O) (Ya N T tip+1)=(x,K1,P1)) :
  DoC 110 #[.pointer (some ⟨b1,0,none⟩)] w (fun _=>False) ⟨K,N,T,P,tip,β⟩ x ⟨K1,N,T,P1,tip,β⟩ (fun _ _=>True) where
 enters:=enters_of (fn:=Tryz.f110) (by kernel_rfl) (by kernel_rfl) rfl
 old q e:=e.elim
 on B V V':=fun h _=>h
 call B V d bm m hB hV hD hd hbm hm:=by
  obtain⟨k1,k1n,k1c,n1,n1n,n1c,t1,t1n,t1c,p1,p1n,p1c,f,hq⟩:=hD
  have C1:=Zb (Zax hq (hE.later hV) ht h1 h2 th ai ao ni ci no co I O (hI.later hV) (hO.later hV) sI sO K1 P1 x hx)
  have hb1v:=(hV.block _ (lt_of_block hb1)).trans hb1
  have q0:=Zd hb1v 0 _ rfl
  have q1:=Zd hb1v 1 _ rfl
  have q2:=Zd hb1v 2 _ rfl
  have ql:=lt_of_block hb1v
  clear hq hE hI hO sI sO hx hb1 hb1v ht h1 h2
  show Calls Tryz.prog 110 #[.pointer (some ⟨d,0,none⟩),.pointer (some ⟨b1,0,none⟩)] V _
  go_enter Tryz.func110,Tryz.ntmps110
  go_wp2_with fail
  refine (Za C1).mono ?_
  rintro e w1 ⟨rfl,k2,k2n,k2c,p2,p2n,p2c,hD2,g2⟩
  have HK:Hid (KeptOn (fun q=>q<B) w1 d bm ⟨K1,N,T,P1,tip,β⟩):=DeskOn.kept (m:=m) ⟨_,_,_,_,_,_,_,_,_,_,_,_,_,hD2⟩
  have HG:Hid (Gr V w1 (fun q=>q=d∨q=bm∨False)):=g2.mono (fun q _ e=>.inl e)
  clear hD2 g2 C1 q0 q1 q2 ql
  go_wp2
  go_ret
  exact⟨rfl,Za HG,fun _=>Za HK,trivial⟩
def noR(K:List ByteArray)(N:List Int)(T:List Zk)(P:List TxD)(tip:Int)(t:TxD):Int×Dsk:=
 if opE K N T P tip≠0 then (opE K N T P tip,Dsk.none) else
 if (acE K ((Zq K N T noB).2 tip) P t (Ya N T tip+1)).1≠0 then ((acE K ((Zq K N T noB).2 tip) P t (Ya N T tip+1)).1,Dsk.none) else
 (0,⟨(acE K ((Zq K N T noB).2 tip) P t (Ya N T tip+1)).2.1,N,T,(acE K ((Zq K N T noB).2 tip) P t (Ya N T tip+1)).2.2,tip,(Zq K N T noB).2⟩)
theorem Ll(ka:Option Addr)(kn kc:Nat)(K:List ByteArray)(na ba pa:Option Addr)(nn nc bn bc pn pc:Nat)(N:List Int)(T:List Zk)(P:List TxD)(tip:Int)(w:World)(hE:Env w)(hK:Bk.TextsAt w ka kn K)(hN:Tr.IntsAt w na nn N)(hT:Tr.BlksAt w ba bn T)(hP:TxsAt w pa pn P)(sN:SlOk na nn nc)(sT:SlOk ba bn bc)(sP:SlOk pa pn pc)(hp:pn≤2513169434916)(hq:∀ t∈P,Tr.TxSmall t)
  (th:Int) (ai ao:Option Addr) (ni ci no co:Nat) (I:List InD) (O:List Z0) (hI:InsAt w ai ni I) (hO:OutsAt w ao no O) (sI:SlOk ai ni ci) (sO:SlOk ao no co) (x:Int) (D:Dsk) (hx:noR K N T P tip (th,I,O)=(x,D)) :
  Calls Tryz.prog 42 #[.agg #[.slice ka kn kc],.agg #[.slice na nn nc,.slice ba bn bc,.slice pa pn pc,.int .i64 tip],.agg #[.int .i64 th,.slice ai ni ci,.slice ao no co]] w fun e w'=>B0 w w' x D e∧Below w.heap.size w w':=by
 obtain⟨X,hX⟩:∃ X,X=Z9 w [.cells #[.slice ka kn kc] 24,.cells #[.slice na nn nc,.slice ba bn bc,.slice pa pn pc,.int .i64 tip] 67,.cells #[.int .i64 th,.slice ai ni ci,.slice ao no co] 59,.cells #[.slice none 0 0] 24,.cells #[.slice none 0 0,.slice none 0 0,.slice none 0 0,.int .i64 0] 67]:=⟨_,rfl⟩
 have hX':X=((((w.alloc (.cells #[.slice ka kn kc] 24)).alloc (.cells #[.slice na nn nc,.slice ba bn bc,.slice pa pn pc,.int .i64 tip] 67)).alloc (.cells #[.int .i64 th,.slice ai ni ci,.slice ao no co] 59)).alloc (.cells #[.slice none 0 0] 24)).alloc (.cells #[.slice none 0 0,.slice none 0 0,.slice none 0 0,.int .i64 0] 67):=hX
 have hbX:Below w.heap.size w X:=by rw[hX];exact Zp _ _
 have hXs:X.heap.size=w.heap.size+5:=by rw[hX];exact Yq _ _
 have x0a:X.heap[w.heap.size]? = some (.cells [.slice ka kn kc].toArray 24 (0,0)):=by rw[hX];exact Zm _ w 0 _ rfl
 have x1a:X.heap[w.heap.size+1]? = some (.cells [.slice na nn nc,.slice ba bn bc,.slice pa pn pc,.int .i64 tip].toArray 67 (0,0)):=by rw[hX];exact Zm _ w 1 _ rfl
 have x2a:X.heap[w.heap.size+2]? = some (.cells [.int .i64 th,.slice ai ni ci,.slice ao no co].toArray 59 (0,0)):=by rw[hX];exact Zm _ w 2 _ rfl
 have x3a:X.heap[w.heap.size+3]? = some (.cells [.slice none 0 0].toArray 24 (0,0)):=by rw[hX];exact Zm _ w 3 _ rfl
 have x4a:X.heap[w.heap.size+4]? = some (.cells [.slice none 0 0,.slice none 0 0,.slice none 0 0,.int .i64 0].toArray 67 (0,0)):=by rw[hX];exact Zm _ w 4 _ rfl
 obtain⟨x0,hx0⟩:∃ x0,opE K N T P tip=x0:=⟨_,rfl⟩
 obtain⟨⟨x1,K1,P1⟩,hx1⟩:∃ r,acE K ((Zq K N T noB).2 tip) P (th,I,O) (Ya N T tip+1)=r:=⟨_,rfl⟩
 unfold noR at hx
 simp only[hx0,hx1] at hx
 have C1:=Zb (Rk ka kn kc K na ba pa nn nc bn bc pn pc N T P tip x0 X (hE.later hbX) (hK.later hbX) (hN.later hbX) (hT.later hbX) (hP.later hbX) sN sT sP hp hq hx0 110 #[.pointer (some ⟨w.heap.size+2,0,none⟩)] (fun _=>False) x1 ⟨K1,N,T,P1,tip,(Zq K N T noB).2⟩ (fun _ _=>True) (fun e=>by
  have bw:=Jx (Yf (hx0.trans e)).2.1
  exact Zdc X (w.heap.size+2) th ai ao ni ci no co I O K N T P tip _ x1 K1 P1 (hE.later hbX) (hI.later hbX) (hO.later hbX) sI sO bw.1 bw.2.1 bw.2.2 x2a hx1))
 have HX:=Zb hx
 have HBX:=Zb hbX
 have HXs:=Zb hXs
 have HX3:=Zb x3a
 have HX4:=Zb x4a
 have t0:=Zd x0a 0 _ rfl
 have t1:=Zd x1a 0 _ rfl
 have t2:=Zd x1a 1 _ rfl
 have t3:=Zd x1a 2 _ rfl
 have t4:=Zd x1a 3 _ rfl
 have tl:=lt_of_block x0a
 have tl1:=lt_of_block x1a
 clear hE hK hN hT hP sN sT sP hp hq hx hI hO sI sO hx0 hx1 hbX hXs x0a x1a x2a x3a x4a hX
 go_enter Tryz.func42,Tryz.ntmps42
 go_wp2_with fail
 rw[←hX']
 clear hX'
 (try go_wp2_with fail)
 refine (Za C1).mono ?_
 intro e w1 hr
 obtain⟨⟨k5,k5n,k5c,n5,n5n,n5c,b5,b5n,b5c,p5,p5n,p5c,rfl,hF,s1,s2,s3,s4⟩,hb1⟩:B0 X w1 x D e∧Below X.heap.size X w1:=by
  have hxx:=Za HX
  rcases hr with ⟨h0,hc,hb⟩|⟨h0,g,-,hr⟩
  ·rw[if_pos h0] at hxx
   simp only[Prod.mk.injEq] at hxx
   obtain⟨rfl,rfl⟩:=hxx
   exact⟨hc,hb⟩
  ·rw[if_neg (fun q=>q h0)] at hxx
   have hb:Below X.heap.size X w1:=g.below (Below.refl _ _) (Nat.le_refl _) (fun _ q=>q.elim)
   rcases hr with ⟨h1,hc⟩|⟨h1,hc⟩
   ·rw[if_pos h1] at hxx
    simp only[Prod.mk.injEq] at hxx
    obtain⟨rfl,rfl⟩:=hxx
    exact⟨hc,hb⟩
   ·rw[if_neg (fun q=>q h1)] at hxx
    simp only[Prod.mk.injEq] at hxx
    obtain⟨rfl,rfl⟩:=hxx
    exact⟨hc,hb⟩
 have h3:=(hb1.block _ (lt_of_block (Za HX3))).trans (Za HX3)
 have h4:=(hb1.block _ (lt_of_block (Za HX4))).trans (Za HX4)
 have o0:=Zd h3 0 _ rfl
 have of:=Zg h3 0
 have ol:=lt_of_block h3
 have p0:=Zd h4 0 _ rfl
 have p1:=Zd h4 1 _ rfl
 have p2:=Zd h4 2 _ rfl
 have p3:=Zd h4 3 _ rfl
 have pf0:=Zg h4 0
 have pf1:=Zg h4 1
 have pf2:=Zg h4 2
 have pf3:=Zg h4 3
 have pl:=lt_of_block h4
 have FIN:Hid (∀ W,Gr w1 W (fun q=>q=w.heap.size+3∨q=w.heap.size+4)→B0 w W x D (.returned (.tuple #[.agg #[.slice k5 k5n k5c],.agg #[.slice n5 n5n n5c,.slice b5 b5n b5c,.slice p5 p5n p5c,.int .i64 D.tip],.int .i64 x]))∧Below w.heap.size w W):=fun W g=>by
  have hxs:=Za HXs
  refine⟨⟨k5,k5n,k5c,n5,n5n,n5c,b5,b5n,b5c,p5,p5n,p5c,rfl,fun W2 g2=>hF W2 ((g.mono (fun q _ e=>?_)).trans (g2.mono (fun q _ e=>?_))),s1,s2,s3,s4⟩,?_⟩
  ·show q<X.heap.size;omega
  ·have e:q<w.heap.size:=e;show q<X.heap.size;omega
  ·have b1:=Zf (Za HBX) hb1
   exact g.below b1 b1.size (fun q e=>by omega)
 clear hr hF s1 s2 s3 s4 hb1 h3 h4 HX HX3 HX4 C1 t0 t1 t2 t3 t4 tl tl1 HXs HBX
 go_wp2
 (try simp only[Exit.inBlock,Exit.then])
 refine bodyPost_ret (v:=.tuple #[.agg #[.slice k5 k5n k5c],.agg #[.slice n5 n5n n5c,.slice b5 b5n b5c,.slice p5 p5n p5c,.int .i64 D.tip],.int .i64 x]) ?_ rfl ?_
 ·rw[Ug rfl]
  go_simp
 ·exact (Za FIN) _ (((Gr.refl w1 (fun q=>q=w.heap.size+3∨q=w.heap.size+4)).one (w.heap.size+3) 0 (.inl (.inl rfl)) _).four (w.heap.size+4) (.inl (.inr rfl)) _ _ _ _)
end Go.Proofs.YtmomfkikogbdeaaGreatDoor
