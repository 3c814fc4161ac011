/- The contract of sweep (written by a program of ours: mkdsweep.py). -/
import Derived.Test.YtmomfkikogbdeaaGreatDoorTrGrowMToNodSet
namespace Go.Proofs.YtmomfkikogbdeaaGreatDoor
open Go.RowKit
section
variable {Z : Nat → Prop} {w : World} {d bm m : Nat} {ka na ba pa : Option Addr} {kn kc nn nc bn bc pn pc : Nat} {K : List ByteArray} {N : List Int} {T : List Zg} {P : List TxD} {tip : Int} {f : Int → Value} {β : Int → List Zd}
set_option maxRecDepth 10000 in
set_option maxHeartbeats 6400000 in
theorem Fo(h:DeskAt Z w d bm m ka kn kc K na nn nc N ba bn bc T pa pn pc P tip f β)(hE:Env w)(ht:(Lit.int .i64 tip).wf=true)(z:Int)(K1:List ByteArray)(P1:List TxD)(x:Int)(hx:Eb K (β tip) P z=(K1,P1,x)) :
  Calls Tryz.prog 164 #[.pointer (some ⟨d,0,none⟩),.int .i64 z] w fun e w'=>e = .returned (.int .i64 x)∧SwpR Z w w' d bm m K1 na nn nc N ba bn bc T P1 tip f β:=by
 unfold Eb at hx
 by_cases hz:1000<z
 ·rw[if_pos hz] at hx
  simp only[Prod.mk.injEq] at hx
  obtain⟨rfl,rfl,rfl⟩:=hx
  have H:=hide h
  clear h hE ht
  go_enter Tryz.func164,Tryz.ntmps164
  go_wp2
  go_ret
  exact⟨rfl,ka,kn,kc,pa,pn,pc,unhide H,Gr.refl _ _⟩
 ·rw[if_neg hz] at hx
  obtain⟨y,hy⟩:∃ y,swE K (β tip) P z=y:=⟨_,rfl⟩
  rw[hy] at hx
  obtain⟨⟨K2,P2,C2,F2⟩,hr⟩:∃ r,swF K (β tip) P z y=r:=⟨_,rfl⟩
  rw[hr] at hx
  simp only[Prod.mk.injEq] at hx
  obtain⟨rfl,rfl,rfl⟩:=hx
  obtain⟨ca,cn,cc,hfp,_,sC⟩:=h.c tip
  have CC:=hide (fun V (hv:Below w.heap.size w V)=>Uq (h.later hv) ht)
  rw[hfp] at CC
  have CS:=hide (fun V (hv:Below w.heap.size w V)=>Pp ka kn kc K ca cn cc (β tip) pa pn pc P z y K2 P2 C2 F2 V (hE.later hv) (h.later hv).now.k (by obtain⟨a2,n2,c2,q1,q2,_⟩:=(h.later hv).c tip;rw[hfp] at q1;injection q1 with e1 e2 e3;subst e1 e2 e3;exact q2) sC (h.later hv).now.p hy hr)
  have c0:=Za h.box 0 _ rfl
  have c3:=Za h.box 3 _ rfl
  have dl:=lt_of_block h.box
  have KS:Hid (∀ U:World,w.heap.size≤U.heap.size→d<U.heap.size):=fun U hu=>Nat.lt_of_lt_of_le dl hu
  have KC:Hid (∀ U:World,Below w.heap.size w U→(U.cell? ⟨d,0,none⟩=some (.slice ka kn kc)∧U.cell? ⟨d,3,none⟩=some (.slice pa pn pc)∧d<U.heap.size)):=fun U hu=>⟨cell_later hu c0,cell_later hu c3,Nat.lt_of_lt_of_le dl hu.size⟩
  have H:=hide h
  clear h hE ht hfp sC c0 c3 dl hy hr
  go_enter Tryz.func164,Tryz.ntmps164
  go_upto_region 3 with fail
  go_cut [4] from 7 to 32 (fun s4 wx=>s4 = .int .i64 y∧Hid (SwpR Z w wx d bm m K2 na nn nc N ba bn bc T P2 tip f β))
  case first=>
   refine wp_region_held_drew (S:=fun U=>d<U.heap.size) (by kernel_rfl) ((unhide KS) _ (Nat.le_refl _)) (fun hHeld=>?_)
   refine tk 0 ⟨some 8,.move (.tmp 0),181, "desk.go:84",#[],none⟩ ?_ rfl ?_ hHeld ?_
   rotate_left
   ·(intro U hSw;(try dsimp only at hSw);go_simp;first|done|with_reducible rfl)
   (try simp only[Act.put,ZA,ZB,ZC])
   refine tk 1 ⟨some 9,.move (.tmp 0),181, "desk.go:84",#[⟨23,.gcOnly .lateStores⟩],none⟩ ?_ rfl ?_ hHeld ?_
   rotate_left
   ·(intro U hSw;(try dsimp only at hSw);go_simp;first|done|with_reducible rfl)
   (try simp only[Act.put,ZA,ZB,ZC])
   refine tk 2 ⟨some 10,.move (.tmp 0),181, "desk.go:84",#[],none⟩ ?_ rfl ?_ hHeld ?_
   rotate_left
   ·(intro U hSw;(try dsimp only at hSw);go_simp;first|done|with_reducible rfl)
   (try simp only[Act.put,ZA,ZB,ZC])
   refine tk 3 ⟨some 11,.nilCheck (.tmp 10),0, "desk.go:84",#[⟨2,.data⟩],none⟩ ?_ rfl ?_ hHeld ?_
   rotate_left
   ·(intro U hSw;(try dsimp only at hSw);go_simp;first|done|with_reducible rfl)
   (try simp only[Act.put,ZA,ZB,ZC])
   refine tk 4 ⟨some 12,.fieldAddr 254 (.tmp 11) 0,0, "desk.go:84",#[⟨3,.data⟩],none⟩ ?_ rfl ?_ hHeld ?_
   rotate_left
   ·(intro U hSw;(try dsimp only at hSw);go_simp;first|done|with_reducible rfl)
   (try simp only[Act.put,ZA,ZB,ZC])
   refine tk 6 ⟨some 14,.move (.tmp 0),181, "desk.go:84",#[],none⟩ ?_ rfl ?_ hHeld ?_
   rotate_left
   ·(intro U hSw;(try dsimp only at hSw);go_simp;first|done|with_reducible rfl)
   (try simp only[Act.put,ZA,ZB,ZC])
   refine tk 8 ⟨some 16,.move (.tmp 0),181, "desk.go:84",#[],none⟩ ?_ rfl ?_ hHeld ?_
   rotate_left
   ·(intro U hSw;(try dsimp only at hSw);go_simp;first|done|with_reducible rfl)
   (try simp only[Act.put,ZA,ZB,ZC])
   refine tk 9 ⟨some 17,.nilCheck (.tmp 16),0, "desk.go:84",#[⟨8,.data⟩],none⟩ ?_ rfl ?_ hHeld ?_
   rotate_left
   ·(intro U hSw;(try dsimp only at hSw);go_simp;first|done|with_reducible rfl)
   (try simp only[Act.put,ZA,ZB,ZC])
   refine tk 10 ⟨some 18,.fieldAddr 254 (.tmp 17) 1,0, "desk.go:84",#[⟨9,.data⟩],none⟩ ?_ rfl ?_ hHeld ?_
   rotate_left
   ·(intro U hSw;(try dsimp only at hSw);go_simp;first|done|with_reducible rfl)
   (try simp only[Act.put,ZA,ZB,ZC])
   refine tk 11 ⟨some 19,.fieldAddr 67 (.tmp 18) 1,0, "desk.go:84",#[⟨10,.data⟩],none⟩ ?_ rfl ?_ hHeld ?_
   rotate_left
   ·(intro U hSw;(try dsimp only at hSw);go_simp;first|done|with_reducible rfl)
   (try simp only[Act.put,ZA,ZB,ZC])
   refine tk 13 ⟨some 21,.move (.tmp 1),3, "desk.go:84",#[],none⟩ ?_ rfl ?_ hHeld ?_
   rotate_left
   ·(intro U hSw;(try dsimp only at hSw);go_simp;first|done|with_reducible rfl)
   (try simp only[Act.put,ZA,ZB,ZC])
   have hb:=Ze w
   refine wpAnyH_ready (rs:=[5,7,12]) (by kernel_rfl) (by simp) ?_
   refine AllReadyH.cons (o:=⟨some 13,.load 24 (.tmp 12),24, "desk.go:84",#[⟨4,.data⟩],none⟩) rfl (fun KQ hK=>?_) (AllReadyH.cons (o:=⟨some 15,.call { callee:=Callee.value (.func 108),args:=#[.tmp 14],argTypes:=#[181] },29, "desk.go:84",#[⟨6,.data⟩],none⟩) rfl (fun KQ hK=>?_) (AllReadyH.cons (o:=⟨some 20,.load 37 (.tmp 19),37, "desk.go:84",#[⟨11,.data⟩],none⟩) rfl (fun KQ hK=>?_) AllReadyH.nil))
   ·obtain⟨l0,l3,ll⟩:=(unhide KC) w.drew hb
    go_simp
    clear l0 l3 ll
    refine hK.out _ _ ((unhide KS) _ hb.size) (fun hHeld2=>?_)
    clear hK KQ hHeld
    have hHeld:=hHeld2
    clear hHeld2
    (try simp only[Act.put,ZA,ZB,ZC])
    refine wpAnyH_ready (rs:=[7,12]) (by kernel_rfl) (by simp) ?_
    refine AllReadyH.cons (o:=⟨some 15,.call { callee:=Callee.value (.func 108),args:=#[.tmp 14],argTypes:=#[181] },29, "desk.go:84",#[⟨6,.data⟩],none⟩) rfl (fun KQ hK=>?_) (AllReadyH.cons (o:=⟨some 20,.load 37 (.tmp 19),37, "desk.go:84",#[⟨11,.data⟩],none⟩) rfl (fun KQ hK=>?_) AllReadyH.nil)
    ·refine Zf (by kernel_rfl) 108 #[.pointer (some ⟨d,0,none⟩)] (by kernel_rfl) ((unhide CC) w.drew hb) ?_
     rintro e v1 ⟨rfl,hbn⟩
     refine⟨_,rfl,?_⟩
     have hb:=bel_on hb hbn
     refine hK.out _ _ ((unhide KS) _ hb.size) (fun hHeld2=>?_)
     clear hK KQ hHeld
     have hHeld:=hHeld2
     clear hHeld2
     (try simp only[Act.put,ZA,ZB,ZC])
     refine wpAnyH_ready (rs:=[12]) (by kernel_rfl) (by simp) ?_
     refine AllReadyH.cons (o:=⟨some 20,.load 37 (.tmp 19),37, "desk.go:84",#[⟨11,.data⟩],none⟩) rfl (fun KQ hK=>?_) AllReadyH.nil
     obtain⟨l0,l3,ll⟩:=(unhide KC) v1 hb
     go_simp
     clear l0 l3 ll
     refine hK.out _ _ ((unhide KS) _ hb.size) (fun hHeld2=>?_)
     clear hK KQ hHeld
     have hHeld:=hHeld2
     clear hHeld2
     (try simp only[Act.put,ZA,ZB,ZC])
     refine wpAnyH_ready (rs:=[14]) (by kernel_rfl) (by simp) ?_
     refine AllReadyH.cons (o:=⟨some 22,.call { callee:=Callee.value (.func 23),args:=#[.tmp 13,.tmp 15,.tmp 20,.tmp 21],argTypes:=#[24,29,37,3] },49, "desk.go:84",#[⟨5,.data⟩,⟨7,.data⟩,⟨12,.data⟩,⟨13,.data⟩,⟨7,.chain⟩],none⟩) rfl (fun KQ hK=>?_) AllReadyH.nil
     refine Zf (by kernel_rfl) 23 #[.agg #[.slice ka kn kc],.slice ca cn cc,.slice pa pn pc,.int .i64 z] (by kernel_rfl) ((unhide CS) v1 hb) ?_
     rintro e v2 ⟨k5,k5n,k5c,sa,sn,sc,oa,on,oc,rfl,hFn,sk5,ss5,-,hbn⟩
     refine⟨_,rfl,?_⟩
     have hb5:=bel_on hb hbn
     refine hK.out _ _ ((unhide KS) _ hb5.size) (fun hHeld2=>?_)
     clear hK KQ hHeld
     have hHeld:=hHeld2
     clear hHeld2
     (try simp only[Act.put,ZA,ZB,ZC])
     refine tk 15 ⟨some 7,.move (.tmp 22),49, "desk.go:84",#[⟨14,.data⟩],none⟩ ?_ rfl ?_ hHeld ?_
     rotate_left
     ·(intro U hSw;(try dsimp only at hSw);go_simp;first|done|with_reducible rfl)
     (try simp only[Act.put,ZA,ZB,ZC])
     refine tk 16 ⟨some 23,.extract (.tmp 7) 0,24, "desk.go:84",#[⟨15,.data⟩],none⟩ ?_ rfl ?_ hHeld ?_
     rotate_left
     ·(intro U hSw;(try dsimp only at hSw);go_simp;first|done|with_reducible rfl)
     (try simp only[Act.put,ZA,ZB,ZC])
     refine tk 17 ⟨some 24,.extract (.tmp 7) 1,37, "desk.go:84",#[⟨15,.data⟩,⟨23,.gcOnly .lateStores⟩],none⟩ ?_ rfl ?_ hHeld ?_
     rotate_left
     ·(intro U hSw;(try dsimp only at hSw);go_simp;first|done|with_reducible rfl)
     (try simp only[Act.put,ZA,ZB,ZC])
     refine tk 18 ⟨some 25,.extract (.tmp 7) 2,29, "desk.go:84",#[⟨15,.data⟩,⟨27,.gcOnly .lateStores⟩],none⟩ ?_ rfl ?_ hHeld ?_
     rotate_left
     ·(intro U hSw;(try dsimp only at hSw);go_simp;first|done|with_reducible rfl)
     (try simp only[Act.put,ZA,ZB,ZC])
     refine tk 19 ⟨some 26,.extract (.tmp 7) 3,3, "desk.go:84",#[⟨15,.data⟩,⟨27,.gcOnly .lateStores⟩],none⟩ ?_ rfl ?_ hHeld ?_
     rotate_left
     ·(intro U hSw;(try dsimp only at hSw);go_simp;first|done|with_reducible rfl)
     (try simp only[Act.put,ZA,ZB,ZC])
     refine tk 20 ⟨some 27,.extract (.tmp 7) 4,30, "desk.go:84",#[⟨15,.data⟩,⟨27,.gcOnly .lateStores⟩],none⟩ ?_ rfl ?_ hHeld ?_
     rotate_left
     ·(intro U hSw;(try dsimp only at hSw);go_simp;first|done|with_reducible rfl)
     (try simp only[Act.put,ZA,ZB,ZC])
     refine tk 21 ⟨some 28,.nilCheck (.tmp 8),0, "desk.go:84",#[⟨0,.data⟩,⟨0,.phase⟩,⟨1,.textOnly .lateStores⟩,⟨2,.phase⟩,⟨3,.phase⟩,⟨4,.phase⟩,⟨5,.phase⟩,⟨6,.phase⟩,⟨7,.phase⟩,⟨8,.phase⟩,⟨9,.phase⟩,⟨10,.phase⟩,⟨11,.phase⟩,⟨12,.phase⟩,⟨13,.phase⟩,⟨14,.phase⟩,⟨15,.phase⟩,⟨16,.phase⟩,⟨17,.textOnly .lateStores⟩,⟨18,.textOnly .lateStores⟩,⟨19,.textOnly .lateStores⟩,⟨20,.textOnly .lateStores⟩],none⟩ ?_ rfl ?_ hHeld ?_
     rotate_left
     ·(intro U hSw;(try dsimp only at hSw);go_simp;first|done|with_reducible rfl)
     (try simp only[Act.put,ZA,ZB,ZC])
     refine tk 22 ⟨some 29,.fieldAddr 254 (.tmp 28) 0,0, "desk.go:84",#[⟨21,.data⟩,⟨0,.phase⟩,⟨1,.textOnly .lateStores⟩,⟨2,.phase⟩,⟨3,.phase⟩,⟨4,.phase⟩,⟨5,.phase⟩,⟨6,.phase⟩,⟨7,.phase⟩,⟨8,.phase⟩,⟨9,.phase⟩,⟨10,.phase⟩,⟨11,.phase⟩,⟨12,.phase⟩,⟨13,.phase⟩,⟨14,.phase⟩,⟨15,.phase⟩,⟨16,.phase⟩,⟨17,.textOnly .lateStores⟩,⟨18,.textOnly .lateStores⟩,⟨19,.textOnly .lateStores⟩,⟨20,.textOnly .lateStores⟩],none⟩ ?_ rfl ?_ hHeld ?_
     rotate_left
     ·(intro U hSw;(try dsimp only at hSw);go_simp;first|done|with_reducible rfl)
     (try simp only[Act.put,ZA,ZB,ZC])
     have hbx:=(hb5.block _ (lt_of_block (unhide H).box)).trans (unhide H).box
     have y0:=Za hbx 0 _ rfl
     have y3:=Za hbx 3 _ rfl
     have g0:=Zb hbx 0
     have g3:=Zb hbx 3
     have yl:=lt_of_block hbx
     refine wpAnyH_ready (rs:=[23]) (by kernel_rfl) (by simp) ?_
     refine AllReadyH.cons (o:=⟨none,.store 24 (.tmp 29) (.tmp 23),0, "desk.go:84",#[⟨22,.data⟩,⟨16,.data⟩,⟨14,.chain⟩,⟨0,.phase⟩,⟨1,.textOnly .lateStores⟩,⟨2,.phase⟩,⟨3,.phase⟩,⟨4,.phase⟩,⟨5,.phase⟩,⟨6,.phase⟩,⟨7,.phase⟩,⟨8,.phase⟩,⟨9,.phase⟩,⟨10,.phase⟩,⟨11,.phase⟩,⟨12,.phase⟩,⟨13,.phase⟩,⟨14,.phase⟩,⟨15,.phase⟩,⟨16,.phase⟩,⟨17,.textOnly .lateStores⟩,⟨18,.textOnly .lateStores⟩,⟨19,.textOnly .lateStores⟩,⟨20,.textOnly .lateStores⟩],none⟩) rfl (fun KQ hK=>?_) AllReadyH.nil
     go_simp
     refine hK.out _ _ ((unhide KS) _ (by simpa[World.setCell] using hb5.size)) (fun hHeld2=>?_)
     clear hK KQ hHeld
     have hHeld:=hHeld2
     clear hHeld2
     (try simp only[Act.put])
     refine tk 24 ⟨some 30,.nilCheck (.tmp 9),0, "desk.go:84",#[⟨1,.data⟩,⟨0,.phase⟩,⟨1,.phase⟩,⟨2,.phase⟩,⟨3,.phase⟩,⟨4,.phase⟩,⟨5,.phase⟩,⟨6,.phase⟩,⟨7,.phase⟩,⟨8,.phase⟩,⟨9,.phase⟩,⟨10,.phase⟩,⟨11,.phase⟩,⟨12,.phase⟩,⟨13,.phase⟩,⟨14,.phase⟩,⟨15,.phase⟩,⟨16,.phase⟩,⟨17,.phase⟩,⟨18,.textOnly .lateStores⟩,⟨19,.textOnly .lateStores⟩,⟨20,.textOnly .lateStores⟩,⟨21,.phase⟩,⟨22,.phase⟩,⟨23,.phase⟩],none⟩ ?_ rfl ?_ hHeld ?_
     rotate_left
     ·(intro U hSw;(try dsimp only at hSw);go_simp;first|done|with_reducible rfl)
     (try simp only[Act.put,ZA,ZB,ZC])
     refine tk 25 ⟨some 31,.fieldAddr 254 (.tmp 30) 1,0, "desk.go:84",#[⟨24,.data⟩,⟨0,.phase⟩,⟨1,.phase⟩,⟨2,.phase⟩,⟨3,.phase⟩,⟨4,.phase⟩,⟨5,.phase⟩,⟨6,.phase⟩,⟨7,.phase⟩,⟨8,.phase⟩,⟨9,.phase⟩,⟨10,.phase⟩,⟨11,.phase⟩,⟨12,.phase⟩,⟨13,.phase⟩,⟨14,.phase⟩,⟨15,.phase⟩,⟨16,.phase⟩,⟨17,.phase⟩,⟨18,.textOnly .lateStores⟩,⟨19,.textOnly .lateStores⟩,⟨20,.textOnly .lateStores⟩,⟨21,.phase⟩,⟨22,.phase⟩,⟨23,.phase⟩],none⟩ ?_ rfl ?_ hHeld ?_
     rotate_left
     ·(intro U hSw;(try dsimp only at hSw);go_simp;first|done|with_reducible rfl)
     (try simp only[Act.put,ZA,ZB,ZC])
     refine tk 26 ⟨some 32,.fieldAddr 67 (.tmp 31) 1,0, "desk.go:84",#[⟨25,.data⟩,⟨0,.phase⟩,⟨1,.phase⟩,⟨2,.phase⟩,⟨3,.phase⟩,⟨4,.phase⟩,⟨5,.phase⟩,⟨6,.phase⟩,⟨7,.phase⟩,⟨8,.phase⟩,⟨9,.phase⟩,⟨10,.phase⟩,⟨11,.phase⟩,⟨12,.phase⟩,⟨13,.phase⟩,⟨14,.phase⟩,⟨15,.phase⟩,⟨16,.phase⟩,⟨17,.phase⟩,⟨18,.textOnly .lateStores⟩,⟨19,.textOnly .lateStores⟩,⟨20,.textOnly .lateStores⟩,⟨21,.phase⟩,⟨22,.phase⟩,⟨23,.phase⟩],none⟩ ?_ rfl ?_ hHeld ?_
     rotate_left
     ·(intro U hSw;(try dsimp only at hSw);go_simp;first|done|with_reducible rfl)
     (try simp only[Act.put,ZA,ZB,ZC])
     refine wpAnyH_ready (rs:=[27]) (by kernel_rfl) (by simp) ?_
     refine AllReadyH.cons (o:=⟨none,.store 37 (.tmp 32) (.tmp 24),0, "desk.go:84",#[⟨26,.data⟩,⟨17,.data⟩,⟨23,.chain⟩,⟨0,.phase⟩,⟨1,.phase⟩,⟨2,.phase⟩,⟨3,.phase⟩,⟨4,.phase⟩,⟨5,.phase⟩,⟨6,.phase⟩,⟨7,.phase⟩,⟨8,.phase⟩,⟨9,.phase⟩,⟨10,.phase⟩,⟨11,.phase⟩,⟨12,.phase⟩,⟨13,.phase⟩,⟨14,.phase⟩,⟨15,.phase⟩,⟨16,.phase⟩,⟨17,.phase⟩,⟨18,.textOnly .lateStores⟩,⟨19,.textOnly .lateStores⟩,⟨20,.textOnly .lateStores⟩,⟨21,.phase⟩,⟨22,.phase⟩,⟨23,.phase⟩],none⟩) rfl (fun KQ hK=>?_) AllReadyH.nil
     go_simp
     refine hK.out _ _ ((unhide KS) _ (by simpa[World.setCell] using hb5.size)) (fun hHeld2=>?_)
     clear hK KQ hHeld
     have hHeld:=hHeld2
     clear hHeld2
     (try simp only[Act.put])
     refine tk 28 ⟨some 4,.assign (.tmp 27),30, "desk.go:84",#[⟨20,.data⟩,⟨27,.chain⟩,⟨0,.phase⟩,⟨1,.phase⟩,⟨2,.phase⟩,⟨3,.phase⟩,⟨4,.phase⟩,⟨5,.phase⟩,⟨6,.phase⟩,⟨7,.phase⟩,⟨8,.phase⟩,⟨9,.phase⟩,⟨10,.phase⟩,⟨11,.phase⟩,⟨12,.phase⟩,⟨13,.phase⟩,⟨14,.phase⟩,⟨15,.phase⟩,⟨16,.phase⟩,⟨17,.phase⟩,⟨18,.phase⟩,⟨19,.phase⟩,⟨20,.phase⟩,⟨21,.phase⟩,⟨22,.phase⟩,⟨23,.phase⟩,⟨24,.phase⟩,⟨25,.phase⟩,⟨26,.phase⟩,⟨27,.phase⟩],none⟩ ?_ rfl ?_ hHeld ?_
     rotate_left
     ·(intro U hSw;(try dsimp only at hSw);go_simp;first|done|with_reducible rfl)
     (try simp only[Act.put,ZA,ZB,ZC])
     refine wpAnyH_done (by kernel_rfl) ?_ _
     clear hHeld
     go_wp2_with fail
     go_meet
     case rel=>
      refine⟨rfl,k5,k5n,k5c,sa,sn,sc,?_⟩
      have F:Fresh v1.heap.size v2 (fun w2=>Bk.TextsAt w2 k5 k5n K2∧TxsAt w2 sa sn P2):=fun W g=>⟨(hFn W g).1,(hFn W g).2.1⟩
      exact (unhide H).swept hb hbn F sk5 ss5 (((Gr.refl v2 (fun q=>q=d)).one d 0 (.inl rfl) (.slice k5 k5n k5c)).one d 3 (.inl rfl) (.slice sa sn sc)) (Tr.set_cells (Tr.set_cells hbx 0 _) 3 _)
    ·obtain⟨l0,l3,ll⟩:=(unhide KC) w.drew hb
     go_simp
     clear l0 l3 ll
     refine hK.out _ _ ((unhide KS) _ hb.size) (fun hHeld2=>?_)
     clear hK KQ hHeld
     have hHeld:=hHeld2
     clear hHeld2
     (try simp only[Act.put,ZA,ZB,ZC])
     refine wpAnyH_ready (rs:=[7]) (by kernel_rfl) (by simp) ?_
     refine AllReadyH.cons (o:=⟨some 15,.call { callee:=Callee.value (.func 108),args:=#[.tmp 14],argTypes:=#[181] },29, "desk.go:84",#[⟨6,.data⟩],none⟩) rfl (fun KQ hK=>?_) AllReadyH.nil
     refine Zf (by kernel_rfl) 108 #[.pointer (some ⟨d,0,none⟩)] (by kernel_rfl) ((unhide CC) w.drew hb) ?_
     rintro e v3 ⟨rfl,hbn⟩
     refine⟨_,rfl,?_⟩
     have hb:=bel_on hb hbn
     refine hK.out _ _ ((unhide KS) _ hb.size) (fun hHeld2=>?_)
     clear hK KQ hHeld
     have hHeld:=hHeld2
     clear hHeld2
     (try simp only[Act.put,ZA,ZB,ZC])
     refine wpAnyH_ready (rs:=[14]) (by kernel_rfl) (by simp) ?_
     refine AllReadyH.cons (o:=⟨some 22,.call { callee:=Callee.value (.func 23),args:=#[.tmp 13,.tmp 15,.tmp 20,.tmp 21],argTypes:=#[24,29,37,3] },49, "desk.go:84",#[⟨5,.data⟩,⟨7,.data⟩,⟨12,.data⟩,⟨13,.data⟩,⟨7,.chain⟩],none⟩) rfl (fun KQ hK=>?_) AllReadyH.nil
     refine Zf (by kernel_rfl) 23 #[.agg #[.slice ka kn kc],.slice ca cn cc,.slice pa pn pc,.int .i64 z] (by kernel_rfl) ((unhide CS) v3 hb) ?_
     rintro e v4 ⟨k5,k5n,k5c,sa,sn,sc,oa,on,oc,rfl,hFn,sk5,ss5,-,hbn⟩
     refine⟨_,rfl,?_⟩
     have hb5:=bel_on hb hbn
     refine hK.out _ _ ((unhide KS) _ hb5.size) (fun hHeld2=>?_)
     clear hK KQ hHeld
     have hHeld:=hHeld2
     clear hHeld2
     (try simp only[Act.put,ZA,ZB,ZC])
     refine tk 15 ⟨some 7,.move (.tmp 22),49, "desk.go:84",#[⟨14,.data⟩],none⟩ ?_ rfl ?_ hHeld ?_
     rotate_left
     ·(intro U hSw;(try dsimp only at hSw);go_simp;first|done|with_reducible rfl)
     (try simp only[Act.put,ZA,ZB,ZC])
     refine tk 16 ⟨some 23,.extract (.tmp 7) 0,24, "desk.go:84",#[⟨15,.data⟩],none⟩ ?_ rfl ?_ hHeld ?_
     rotate_left
     ·(intro U hSw;(try dsimp only at hSw);go_simp;first|done|with_reducible rfl)
     (try simp only[Act.put,ZA,ZB,ZC])
     refine tk 17 ⟨some 24,.extract (.tmp 7) 1,37, "desk.go:84",#[⟨15,.data⟩,⟨23,.gcOnly .lateStores⟩],none⟩ ?_ rfl ?_ hHeld ?_
     rotate_left
     ·(intro U hSw;(try dsimp only at hSw);go_simp;first|done|with_reducible rfl)
     (try simp only[Act.put,ZA,ZB,ZC])
     refine tk 18 ⟨some 25,.extract (.tmp 7) 2,29, "desk.go:84",#[⟨15,.data⟩,⟨27,.gcOnly .lateStores⟩],none⟩ ?_ rfl ?_ hHeld ?_
     rotate_left
     ·(intro U hSw;(try dsimp only at hSw);go_simp;first|done|with_reducible rfl)
     (try simp only[Act.put,ZA,ZB,ZC])
     refine tk 19 ⟨some 26,.extract (.tmp 7) 3,3, "desk.go:84",#[⟨15,.data⟩,⟨27,.gcOnly .lateStores⟩],none⟩ ?_ rfl ?_ hHeld ?_
     rotate_left
     ·(intro U hSw;(try dsimp only at hSw);go_simp;first|done|with_reducible rfl)
     (try simp only[Act.put,ZA,ZB,ZC])
     refine tk 20 ⟨some 27,.extract (.tmp 7) 4,30, "desk.go:84",#[⟨15,.data⟩,⟨27,.gcOnly .lateStores⟩],none⟩ ?_ rfl ?_ hHeld ?_
     rotate_left
     ·(intro U hSw;(try dsimp only at hSw);go_simp;first|done|with_reducible rfl)
     (try simp only[Act.put,ZA,ZB,ZC])
     refine tk 21 ⟨some 28,.nilCheck (.tmp 8),0, "desk.go:84",#[⟨0,.data⟩,⟨0,.phase⟩,⟨1,.textOnly .lateStores⟩,⟨2,.phase⟩,⟨3,.phase⟩,⟨4,.phase⟩,⟨5,.phase⟩,⟨6,.phase⟩,⟨7,.phase⟩,⟨8,.phase⟩,⟨9,.phase⟩,⟨10,.phase⟩,⟨11,.phase⟩,⟨12,.phase⟩,⟨13,.phase⟩,⟨14,.phase⟩,⟨15,.phase⟩,⟨16,.phase⟩,⟨17,.textOnly .lateStores⟩,⟨18,.textOnly .lateStores⟩,⟨19,.textOnly .lateStores⟩,⟨20,.textOnly .lateStores⟩],none⟩ ?_ rfl ?_ hHeld ?_
     rotate_left
     ·(intro U hSw;(try dsimp only at hSw);go_simp;first|done|with_reducible rfl)
     (try simp only[Act.put,ZA,ZB,ZC])
     refine tk 22 ⟨some 29,.fieldAddr 254 (.tmp 28) 0,0, "desk.go:84",#[⟨21,.data⟩,⟨0,.phase⟩,⟨1,.textOnly .lateStores⟩,⟨2,.phase⟩,⟨3,.phase⟩,⟨4,.phase⟩,⟨5,.phase⟩,⟨6,.phase⟩,⟨7,.phase⟩,⟨8,.phase⟩,⟨9,.phase⟩,⟨10,.phase⟩,⟨11,.phase⟩,⟨12,.phase⟩,⟨13,.phase⟩,⟨14,.phase⟩,⟨15,.phase⟩,⟨16,.phase⟩,⟨17,.textOnly .lateStores⟩,⟨18,.textOnly .lateStores⟩,⟨19,.textOnly .lateStores⟩,⟨20,.textOnly .lateStores⟩],none⟩ ?_ rfl ?_ hHeld ?_
     rotate_left
     ·(intro U hSw;(try dsimp only at hSw);go_simp;first|done|with_reducible rfl)
     (try simp only[Act.put,ZA,ZB,ZC])
     have hbx:=(hb5.block _ (lt_of_block (unhide H).box)).trans (unhide H).box
     have y0:=Za hbx 0 _ rfl
     have y3:=Za hbx 3 _ rfl
     have g0:=Zb hbx 0
     have g3:=Zb hbx 3
     have yl:=lt_of_block hbx
     refine wpAnyH_ready (rs:=[23]) (by kernel_rfl) (by simp) ?_
     refine AllReadyH.cons (o:=⟨none,.store 24 (.tmp 29) (.tmp 23),0, "desk.go:84",#[⟨22,.data⟩,⟨16,.data⟩,⟨14,.chain⟩,⟨0,.phase⟩,⟨1,.textOnly .lateStores⟩,⟨2,.phase⟩,⟨3,.phase⟩,⟨4,.phase⟩,⟨5,.phase⟩,⟨6,.phase⟩,⟨7,.phase⟩,⟨8,.phase⟩,⟨9,.phase⟩,⟨10,.phase⟩,⟨11,.phase⟩,⟨12,.phase⟩,⟨13,.phase⟩,⟨14,.phase⟩,⟨15,.phase⟩,⟨16,.phase⟩,⟨17,.textOnly .lateStores⟩,⟨18,.textOnly .lateStores⟩,⟨19,.textOnly .lateStores⟩,⟨20,.textOnly .lateStores⟩],none⟩) rfl (fun KQ hK=>?_) AllReadyH.nil
     go_simp
     refine hK.out _ _ ((unhide KS) _ (by simpa[World.setCell] using hb5.size)) (fun hHeld2=>?_)
     clear hK KQ hHeld
     have hHeld:=hHeld2
     clear hHeld2
     (try simp only[Act.put])
     refine tk 24 ⟨some 30,.nilCheck (.tmp 9),0, "desk.go:84",#[⟨1,.data⟩,⟨0,.phase⟩,⟨1,.phase⟩,⟨2,.phase⟩,⟨3,.phase⟩,⟨4,.phase⟩,⟨5,.phase⟩,⟨6,.phase⟩,⟨7,.phase⟩,⟨8,.phase⟩,⟨9,.phase⟩,⟨10,.phase⟩,⟨11,.phase⟩,⟨12,.phase⟩,⟨13,.phase⟩,⟨14,.phase⟩,⟨15,.phase⟩,⟨16,.phase⟩,⟨17,.phase⟩,⟨18,.textOnly .lateStores⟩,⟨19,.textOnly .lateStores⟩,⟨20,.textOnly .lateStores⟩,⟨21,.phase⟩,⟨22,.phase⟩,⟨23,.phase⟩],none⟩ ?_ rfl ?_ hHeld ?_
     rotate_left
     ·(intro U hSw;(try dsimp only at hSw);go_simp;first|done|with_reducible rfl)
     (try simp only[Act.put,ZA,ZB,ZC])
     refine tk 25 ⟨some 31,.fieldAddr 254 (.tmp 30) 1,0, "desk.go:84",#[⟨24,.data⟩,⟨0,.phase⟩,⟨1,.phase⟩,⟨2,.phase⟩,⟨3,.phase⟩,⟨4,.phase⟩,⟨5,.phase⟩,⟨6,.phase⟩,⟨7,.phase⟩,⟨8,.phase⟩,⟨9,.phase⟩,⟨10,.phase⟩,⟨11,.phase⟩,⟨12,.phase⟩,⟨13,.phase⟩,⟨14,.phase⟩,⟨15,.phase⟩,⟨16,.phase⟩,⟨17,.phase⟩,⟨18,.textOnly .lateStores⟩,⟨19,.textOnly .lateStores⟩,⟨20,.textOnly .lateStores⟩,⟨21,.phase⟩,⟨22,.phase⟩,⟨23,.phase⟩],none⟩ ?_ rfl ?_ hHeld ?_
     rotate_left
     ·(intro U hSw;(try dsimp only at hSw);go_simp;first|done|with_reducible rfl)
     (try simp only[Act.put,ZA,ZB,ZC])
     refine tk 26 ⟨some 32,.fieldAddr 67 (.tmp 31) 1,0, "desk.go:84",#[⟨25,.data⟩,⟨0,.phase⟩,⟨1,.phase⟩,⟨2,.phase⟩,⟨3,.phase⟩,⟨4,.phase⟩,⟨5,.phase⟩,⟨6,.phase⟩,⟨7,.phase⟩,⟨8,.phase⟩,⟨9,.phase⟩,⟨10,.phase⟩,⟨11,.phase⟩,⟨12,.phase⟩,⟨13,.phase⟩,⟨14,.phase⟩,⟨15,.phase⟩,⟨16,.phase⟩,⟨17,.phase⟩,⟨18,.textOnly .lateStores⟩,⟨19,.textOnly .lateStores⟩,⟨20,.textOnly .lateStores⟩,⟨21,.phase⟩,⟨22,.phase⟩,⟨23,.phase⟩],none⟩ ?_ rfl ?_ hHeld ?_
     rotate_left
     ·(intro U hSw;(try dsimp only at hSw);go_simp;first|done|with_reducible rfl)
     (try simp only[Act.put,ZA,ZB,ZC])
     refine wpAnyH_ready (rs:=[27]) (by kernel_rfl) (by simp) ?_
     refine AllReadyH.cons (o:=⟨none,.store 37 (.tmp 32) (.tmp 24),0, "desk.go:84",#[⟨26,.data⟩,⟨17,.data⟩,⟨23,.chain⟩,⟨0,.phase⟩,⟨1,.phase⟩,⟨2,.phase⟩,⟨3,.phase⟩,⟨4,.phase⟩,⟨5,.phase⟩,⟨6,.phase⟩,⟨7,.phase⟩,⟨8,.phase⟩,⟨9,.phase⟩,⟨10,.phase⟩,⟨11,.phase⟩,⟨12,.phase⟩,⟨13,.phase⟩,⟨14,.phase⟩,⟨15,.phase⟩,⟨16,.phase⟩,⟨17,.phase⟩,⟨18,.textOnly .lateStores⟩,⟨19,.textOnly .lateStores⟩,⟨20,.textOnly .lateStores⟩,⟨21,.phase⟩,⟨22,.phase⟩,⟨23,.phase⟩],none⟩) rfl (fun KQ hK=>?_) AllReadyH.nil
     go_simp
     refine hK.out _ _ ((unhide KS) _ (by simpa[World.setCell] using hb5.size)) (fun hHeld2=>?_)
     clear hK KQ hHeld
     have hHeld:=hHeld2
     clear hHeld2
     (try simp only[Act.put])
     refine tk 28 ⟨some 4,.assign (.tmp 27),30, "desk.go:84",#[⟨20,.data⟩,⟨27,.chain⟩,⟨0,.phase⟩,⟨1,.phase⟩,⟨2,.phase⟩,⟨3,.phase⟩,⟨4,.phase⟩,⟨5,.phase⟩,⟨6,.phase⟩,⟨7,.phase⟩,⟨8,.phase⟩,⟨9,.phase⟩,⟨10,.phase⟩,⟨11,.phase⟩,⟨12,.phase⟩,⟨13,.phase⟩,⟨14,.phase⟩,⟨15,.phase⟩,⟨16,.phase⟩,⟨17,.phase⟩,⟨18,.phase⟩,⟨19,.phase⟩,⟨20,.phase⟩,⟨21,.phase⟩,⟨22,.phase⟩,⟨23,.phase⟩,⟨24,.phase⟩,⟨25,.phase⟩,⟨26,.phase⟩,⟨27,.phase⟩],none⟩ ?_ rfl ?_ hHeld ?_
     rotate_left
     ·(intro U hSw;(try dsimp only at hSw);go_simp;first|done|with_reducible rfl)
     (try simp only[Act.put,ZA,ZB,ZC])
     refine wpAnyH_done (by kernel_rfl) ?_ _
     clear hHeld
     go_wp2_with fail
     go_meet
     case rel=>
      refine⟨rfl,k5,k5n,k5c,sa,sn,sc,?_⟩
      have F:Fresh v3.heap.size v4 (fun w2=>Bk.TextsAt w2 k5 k5n K2∧TxsAt w2 sa sn P2):=fun W g=>⟨(hFn W g).1,(hFn W g).2.1⟩
      exact (unhide H).swept hb hbn F sk5 ss5 (((Gr.refl v4 (fun q=>q=d)).one d 0 (.inl rfl) (.slice k5 k5n k5c)).one d 3 (.inl rfl) (.slice sa sn sc)) (Tr.set_cells (Tr.set_cells hbx 0 _) 3 _)
   ·refine Zf (by kernel_rfl) 108 #[.pointer (some ⟨d,0,none⟩)] (by kernel_rfl) ((unhide CC) w.drew hb) ?_
    rintro e v5 ⟨rfl,hbn⟩
    refine⟨_,rfl,?_⟩
    have hb:=bel_on hb hbn
    refine hK.out _ _ ((unhide KS) _ hb.size) (fun hHeld2=>?_)
    clear hK KQ hHeld
    have hHeld:=hHeld2
    clear hHeld2
    (try simp only[Act.put,ZA,ZB,ZC])
    refine wpAnyH_ready (rs:=[5,12]) (by kernel_rfl) (by simp) ?_
    refine AllReadyH.cons (o:=⟨some 13,.load 24 (.tmp 12),24, "desk.go:84",#[⟨4,.data⟩],none⟩) rfl (fun KQ hK=>?_) (AllReadyH.cons (o:=⟨some 20,.load 37 (.tmp 19),37, "desk.go:84",#[⟨11,.data⟩],none⟩) rfl (fun KQ hK=>?_) AllReadyH.nil)
    ·obtain⟨l0,l3,ll⟩:=(unhide KC) v5 hb
     go_simp
     clear l0 l3 ll
     refine hK.out _ _ ((unhide KS) _ hb.size) (fun hHeld2=>?_)
     clear hK KQ hHeld
     have hHeld:=hHeld2
     clear hHeld2
     (try simp only[Act.put,ZA,ZB,ZC])
     refine wpAnyH_ready (rs:=[12]) (by kernel_rfl) (by simp) ?_
     refine AllReadyH.cons (o:=⟨some 20,.load 37 (.tmp 19),37, "desk.go:84",#[⟨11,.data⟩],none⟩) rfl (fun KQ hK=>?_) AllReadyH.nil
     obtain⟨l0,l3,ll⟩:=(unhide KC) v5 hb
     go_simp
     clear l0 l3 ll
     refine hK.out _ _ ((unhide KS) _ hb.size) (fun hHeld2=>?_)
     clear hK KQ hHeld
     have hHeld:=hHeld2
     clear hHeld2
     (try simp only[Act.put,ZA,ZB,ZC])
     refine wpAnyH_ready (rs:=[14]) (by kernel_rfl) (by simp) ?_
     refine AllReadyH.cons (o:=⟨some 22,.call { callee:=Callee.value (.func 23),args:=#[.tmp 13,.tmp 15,.tmp 20,.tmp 21],argTypes:=#[24,29,37,3] },49, "desk.go:84",#[⟨5,.data⟩,⟨7,.data⟩,⟨12,.data⟩,⟨13,.data⟩,⟨7,.chain⟩],none⟩) rfl (fun KQ hK=>?_) AllReadyH.nil
     refine Zf (by kernel_rfl) 23 #[.agg #[.slice ka kn kc],.slice ca cn cc,.slice pa pn pc,.int .i64 z] (by kernel_rfl) ((unhide CS) v5 hb) ?_
     rintro e v6 ⟨k5,k5n,k5c,sa,sn,sc,oa,on,oc,rfl,hFn,sk5,ss5,-,hbn⟩
     refine⟨_,rfl,?_⟩
     have hb5:=bel_on hb hbn
     refine hK.out _ _ ((unhide KS) _ hb5.size) (fun hHeld2=>?_)
     clear hK KQ hHeld
     have hHeld:=hHeld2
     clear hHeld2
     (try simp only[Act.put,ZA,ZB,ZC])
     refine tk 15 ⟨some 7,.move (.tmp 22),49, "desk.go:84",#[⟨14,.data⟩],none⟩ ?_ rfl ?_ hHeld ?_
     rotate_left
     ·(intro U hSw;(try dsimp only at hSw);go_simp;first|done|with_reducible rfl)
     (try simp only[Act.put,ZA,ZB,ZC])
     refine tk 16 ⟨some 23,.extract (.tmp 7) 0,24, "desk.go:84",#[⟨15,.data⟩],none⟩ ?_ rfl ?_ hHeld ?_
     rotate_left
     ·(intro U hSw;(try dsimp only at hSw);go_simp;first|done|with_reducible rfl)
     (try simp only[Act.put,ZA,ZB,ZC])
     refine tk 17 ⟨some 24,.extract (.tmp 7) 1,37, "desk.go:84",#[⟨15,.data⟩,⟨23,.gcOnly .lateStores⟩],none⟩ ?_ rfl ?_ hHeld ?_
     rotate_left
     ·(intro U hSw;(try dsimp only at hSw);go_simp;first|done|with_reducible rfl)
     (try simp only[Act.put,ZA,ZB,ZC])
     refine tk 18 ⟨some 25,.extract (.tmp 7) 2,29, "desk.go:84",#[⟨15,.data⟩,⟨27,.gcOnly .lateStores⟩],none⟩ ?_ rfl ?_ hHeld ?_
     rotate_left
     ·(intro U hSw;(try dsimp only at hSw);go_simp;first|done|with_reducible rfl)
     (try simp only[Act.put,ZA,ZB,ZC])
     refine tk 19 ⟨some 26,.extract (.tmp 7) 3,3, "desk.go:84",#[⟨15,.data⟩,⟨27,.gcOnly .lateStores⟩],none⟩ ?_ rfl ?_ hHeld ?_
     rotate_left
     ·(intro U hSw;(try dsimp only at hSw);go_simp;first|done|with_reducible rfl)
     (try simp only[Act.put,ZA,ZB,ZC])
     refine tk 20 ⟨some 27,.extract (.tmp 7) 4,30, "desk.go:84",#[⟨15,.data⟩,⟨27,.gcOnly .lateStores⟩],none⟩ ?_ rfl ?_ hHeld ?_
     rotate_left
     ·(intro U hSw;(try dsimp only at hSw);go_simp;first|done|with_reducible rfl)
     (try simp only[Act.put,ZA,ZB,ZC])
     refine tk 21 ⟨some 28,.nilCheck (.tmp 8),0, "desk.go:84",#[⟨0,.data⟩,⟨0,.phase⟩,⟨1,.textOnly .lateStores⟩,⟨2,.phase⟩,⟨3,.phase⟩,⟨4,.phase⟩,⟨5,.phase⟩,⟨6,.phase⟩,⟨7,.phase⟩,⟨8,.phase⟩,⟨9,.phase⟩,⟨10,.phase⟩,⟨11,.phase⟩,⟨12,.phase⟩,⟨13,.phase⟩,⟨14,.phase⟩,⟨15,.phase⟩,⟨16,.phase⟩,⟨17,.textOnly .lateStores⟩,⟨18,.textOnly .lateStores⟩,⟨19,.textOnly .lateStores⟩,⟨20,.textOnly .lateStores⟩],none⟩ ?_ rfl ?_ hHeld ?_
     rotate_left
     ·(intro U hSw;(try dsimp only at hSw);go_simp;first|done|with_reducible rfl)
     (try simp only[Act.put,ZA,ZB,ZC])
     refine tk 22 ⟨some 29,.fieldAddr 254 (.tmp 28) 0,0, "desk.go:84",#[⟨21,.data⟩,⟨0,.phase⟩,⟨1,.textOnly .lateStores⟩,⟨2,.phase⟩,⟨3,.phase⟩,⟨4,.phase⟩,⟨5,.phase⟩,⟨6,.phase⟩,⟨7,.phase⟩,⟨8,.phase⟩,⟨9,.phase⟩,⟨10,.phase⟩,⟨11,.phase⟩,⟨12,.phase⟩,⟨13,.phase⟩,⟨14,.phase⟩,⟨15,.phase⟩,⟨16,.phase⟩,⟨17,.textOnly .lateStores⟩,⟨18,.textOnly .lateStores⟩,⟨19,.textOnly .lateStores⟩,⟨20,.textOnly .lateStores⟩],none⟩ ?_ rfl ?_ hHeld ?_
     rotate_left
     ·(intro U hSw;(try dsimp only at hSw);go_simp;first|done|with_reducible rfl)
     (try simp only[Act.put,ZA,ZB,ZC])
     have hbx:=(hb5.block _ (lt_of_block (unhide H).box)).trans (unhide H).box
     have y0:=Za hbx 0 _ rfl
     have y3:=Za hbx 3 _ rfl
     have g0:=Zb hbx 0
     have g3:=Zb hbx 3
     have yl:=lt_of_block hbx
     refine wpAnyH_ready (rs:=[23]) (by kernel_rfl) (by simp) ?_
     refine AllReadyH.cons (o:=⟨none,.store 24 (.tmp 29) (.tmp 23),0, "desk.go:84",#[⟨22,.data⟩,⟨16,.data⟩,⟨14,.chain⟩,⟨0,.phase⟩,⟨1,.textOnly .lateStores⟩,⟨2,.phase⟩,⟨3,.phase⟩,⟨4,.phase⟩,⟨5,.phase⟩,⟨6,.phase⟩,⟨7,.phase⟩,⟨8,.phase⟩,⟨9,.phase⟩,⟨10,.phase⟩,⟨11,.phase⟩,⟨12,.phase⟩,⟨13,.phase⟩,⟨14,.phase⟩,⟨15,.phase⟩,⟨16,.phase⟩,⟨17,.textOnly .lateStores⟩,⟨18,.textOnly .lateStores⟩,⟨19,.textOnly .lateStores⟩,⟨20,.textOnly .lateStores⟩],none⟩) rfl (fun KQ hK=>?_) AllReadyH.nil
     go_simp
     refine hK.out _ _ ((unhide KS) _ (by simpa[World.setCell] using hb5.size)) (fun hHeld2=>?_)
     clear hK KQ hHeld
     have hHeld:=hHeld2
     clear hHeld2
     (try simp only[Act.put])
     refine tk 24 ⟨some 30,.nilCheck (.tmp 9),0, "desk.go:84",#[⟨1,.data⟩,⟨0,.phase⟩,⟨1,.phase⟩,⟨2,.phase⟩,⟨3,.phase⟩,⟨4,.phase⟩,⟨5,.phase⟩,⟨6,.phase⟩,⟨7,.phase⟩,⟨8,.phase⟩,⟨9,.phase⟩,⟨10,.phase⟩,⟨11,.phase⟩,⟨12,.phase⟩,⟨13,.phase⟩,⟨14,.phase⟩,⟨15,.phase⟩,⟨16,.phase⟩,⟨17,.phase⟩,⟨18,.textOnly .lateStores⟩,⟨19,.textOnly .lateStores⟩,⟨20,.textOnly .lateStores⟩,⟨21,.phase⟩,⟨22,.phase⟩,⟨23,.phase⟩],none⟩ ?_ rfl ?_ hHeld ?_
     rotate_left
     ·(intro U hSw;(try dsimp only at hSw);go_simp;first|done|with_reducible rfl)
     (try simp only[Act.put,ZA,ZB,ZC])
     refine tk 25 ⟨some 31,.fieldAddr 254 (.tmp 30) 1,0, "desk.go:84",#[⟨24,.data⟩,⟨0,.phase⟩,⟨1,.phase⟩,⟨2,.phase⟩,⟨3,.phase⟩,⟨4,.phase⟩,⟨5,.phase⟩,⟨6,.phase⟩,⟨7,.phase⟩,⟨8,.phase⟩,⟨9,.phase⟩,⟨10,.phase⟩,⟨11,.phase⟩,⟨12,.phase⟩,⟨13,.phase⟩,⟨14,.phase⟩,⟨15,.phase⟩,⟨16,.phase⟩,⟨17,.phase⟩,⟨18,.textOnly .lateStores⟩,⟨19,.textOnly .lateStores⟩,⟨20,.textOnly .lateStores⟩,⟨21,.phase⟩,⟨22,.phase⟩,⟨23,.phase⟩],none⟩ ?_ rfl ?_ hHeld ?_
     rotate_left
     ·(intro U hSw;(try dsimp only at hSw);go_simp;first|done|with_reducible rfl)
     (try simp only[Act.put,ZA,ZB,ZC])
     refine tk 26 ⟨some 32,.fieldAddr 67 (.tmp 31) 1,0, "desk.go:84",#[⟨25,.data⟩,⟨0,.phase⟩,⟨1,.phase⟩,⟨2,.phase⟩,⟨3,.phase⟩,⟨4,.phase⟩,⟨5,.phase⟩,⟨6,.phase⟩,⟨7,.phase⟩,⟨8,.phase⟩,⟨9,.phase⟩,⟨10,.phase⟩,⟨11,.phase⟩,⟨12,.phase⟩,⟨13,.phase⟩,⟨14,.phase⟩,⟨15,.phase⟩,⟨16,.phase⟩,⟨17,.phase⟩,⟨18,.textOnly .lateStores⟩,⟨19,.textOnly .lateStores⟩,⟨20,.textOnly .lateStores⟩,⟨21,.phase⟩,⟨22,.phase⟩,⟨23,.phase⟩],none⟩ ?_ rfl ?_ hHeld ?_
     rotate_left
     ·(intro U hSw;(try dsimp only at hSw);go_simp;first|done|with_reducible rfl)
     (try simp only[Act.put,ZA,ZB,ZC])
     refine wpAnyH_ready (rs:=[27]) (by kernel_rfl) (by simp) ?_
     refine AllReadyH.cons (o:=⟨none,.store 37 (.tmp 32) (.tmp 24),0, "desk.go:84",#[⟨26,.data⟩,⟨17,.data⟩,⟨23,.chain⟩,⟨0,.phase⟩,⟨1,.phase⟩,⟨2,.phase⟩,⟨3,.phase⟩,⟨4,.phase⟩,⟨5,.phase⟩,⟨6,.phase⟩,⟨7,.phase⟩,⟨8,.phase⟩,⟨9,.phase⟩,⟨10,.phase⟩,⟨11,.phase⟩,⟨12,.phase⟩,⟨13,.phase⟩,⟨14,.phase⟩,⟨15,.phase⟩,⟨16,.phase⟩,⟨17,.phase⟩,⟨18,.textOnly .lateStores⟩,⟨19,.textOnly .lateStores⟩,⟨20,.textOnly .lateStores⟩,⟨21,.phase⟩,⟨22,.phase⟩,⟨23,.phase⟩],none⟩) rfl (fun KQ hK=>?_) AllReadyH.nil
     go_simp
     refine hK.out _ _ ((unhide KS) _ (by simpa[World.setCell] using hb5.size)) (fun hHeld2=>?_)
     clear hK KQ hHeld
     have hHeld:=hHeld2
     clear hHeld2
     (try simp only[Act.put])
     refine tk 28 ⟨some 4,.assign (.tmp 27),30, "desk.go:84",#[⟨20,.data⟩,⟨27,.chain⟩,⟨0,.phase⟩,⟨1,.phase⟩,⟨2,.phase⟩,⟨3,.phase⟩,⟨4,.phase⟩,⟨5,.phase⟩,⟨6,.phase⟩,⟨7,.phase⟩,⟨8,.phase⟩,⟨9,.phase⟩,⟨10,.phase⟩,⟨11,.phase⟩,⟨12,.phase⟩,⟨13,.phase⟩,⟨14,.phase⟩,⟨15,.phase⟩,⟨16,.phase⟩,⟨17,.phase⟩,⟨18,.phase⟩,⟨19,.phase⟩,⟨20,.phase⟩,⟨21,.phase⟩,⟨22,.phase⟩,⟨23,.phase⟩,⟨24,.phase⟩,⟨25,.phase⟩,⟨26,.phase⟩,⟨27,.phase⟩],none⟩ ?_ rfl ?_ hHeld ?_
     rotate_left
     ·(intro U hSw;(try dsimp only at hSw);go_simp;first|done|with_reducible rfl)
     (try simp only[Act.put,ZA,ZB,ZC])
     refine wpAnyH_done (by kernel_rfl) ?_ _
     clear hHeld
     go_wp2_with fail
     go_meet
     case rel=>
      refine⟨rfl,k5,k5n,k5c,sa,sn,sc,?_⟩
      have F:Fresh v5.heap.size v6 (fun w2=>Bk.TextsAt w2 k5 k5n K2∧TxsAt w2 sa sn P2):=fun W g=>⟨(hFn W g).1,(hFn W g).2.1⟩
      exact (unhide H).swept hb hbn F sk5 ss5 (((Gr.refl v6 (fun q=>q=d)).one d 0 (.inl rfl) (.slice k5 k5n k5c)).one d 3 (.inl rfl) (.slice sa sn sc)) (Tr.set_cells (Tr.set_cells hbx 0 _) 3 _)
    ·obtain⟨l0,l3,ll⟩:=(unhide KC) v5 hb
     go_simp
     clear l0 l3 ll
     refine hK.out _ _ ((unhide KS) _ hb.size) (fun hHeld2=>?_)
     clear hK KQ hHeld
     have hHeld:=hHeld2
     clear hHeld2
     (try simp only[Act.put,ZA,ZB,ZC])
     refine wpAnyH_ready (rs:=[5]) (by kernel_rfl) (by simp) ?_
     refine AllReadyH.cons (o:=⟨some 13,.load 24 (.tmp 12),24, "desk.go:84",#[⟨4,.data⟩],none⟩) rfl (fun KQ hK=>?_) AllReadyH.nil
     obtain⟨l0,l3,ll⟩:=(unhide KC) v5 hb
     go_simp
     clear l0 l3 ll
     refine hK.out _ _ ((unhide KS) _ hb.size) (fun hHeld2=>?_)
     clear hK KQ hHeld
     have hHeld:=hHeld2
     clear hHeld2
     (try simp only[Act.put,ZA,ZB,ZC])
     refine wpAnyH_ready (rs:=[14]) (by kernel_rfl) (by simp) ?_
     refine AllReadyH.cons (o:=⟨some 22,.call { callee:=Callee.value (.func 23),args:=#[.tmp 13,.tmp 15,.tmp 20,.tmp 21],argTypes:=#[24,29,37,3] },49, "desk.go:84",#[⟨5,.data⟩,⟨7,.data⟩,⟨12,.data⟩,⟨13,.data⟩,⟨7,.chain⟩],none⟩) rfl (fun KQ hK=>?_) AllReadyH.nil
     refine Zf (by kernel_rfl) 23 #[.agg #[.slice ka kn kc],.slice ca cn cc,.slice pa pn pc,.int .i64 z] (by kernel_rfl) ((unhide CS) v5 hb) ?_
     rintro e v7 ⟨k5,k5n,k5c,sa,sn,sc,oa,on,oc,rfl,hFn,sk5,ss5,-,hbn⟩
     refine⟨_,rfl,?_⟩
     have hb5:=bel_on hb hbn
     refine hK.out _ _ ((unhide KS) _ hb5.size) (fun hHeld2=>?_)
     clear hK KQ hHeld
     have hHeld:=hHeld2
     clear hHeld2
     (try simp only[Act.put,ZA,ZB,ZC])
     refine tk 15 ⟨some 7,.move (.tmp 22),49, "desk.go:84",#[⟨14,.data⟩],none⟩ ?_ rfl ?_ hHeld ?_
     rotate_left
     ·(intro U hSw;(try dsimp only at hSw);go_simp;first|done|with_reducible rfl)
     (try simp only[Act.put,ZA,ZB,ZC])
     refine tk 16 ⟨some 23,.extract (.tmp 7) 0,24, "desk.go:84",#[⟨15,.data⟩],none⟩ ?_ rfl ?_ hHeld ?_
     rotate_left
     ·(intro U hSw;(try dsimp only at hSw);go_simp;first|done|with_reducible rfl)
     (try simp only[Act.put,ZA,ZB,ZC])
     refine tk 17 ⟨some 24,.extract (.tmp 7) 1,37, "desk.go:84",#[⟨15,.data⟩,⟨23,.gcOnly .lateStores⟩],none⟩ ?_ rfl ?_ hHeld ?_
     rotate_left
     ·(intro U hSw;(try dsimp only at hSw);go_simp;first|done|with_reducible rfl)
     (try simp only[Act.put,ZA,ZB,ZC])
     refine tk 18 ⟨some 25,.extract (.tmp 7) 2,29, "desk.go:84",#[⟨15,.data⟩,⟨27,.gcOnly .lateStores⟩],none⟩ ?_ rfl ?_ hHeld ?_
     rotate_left
     ·(intro U hSw;(try dsimp only at hSw);go_simp;first|done|with_reducible rfl)
     (try simp only[Act.put,ZA,ZB,ZC])
     refine tk 19 ⟨some 26,.extract (.tmp 7) 3,3, "desk.go:84",#[⟨15,.data⟩,⟨27,.gcOnly .lateStores⟩],none⟩ ?_ rfl ?_ hHeld ?_
     rotate_left
     ·(intro U hSw;(try dsimp only at hSw);go_simp;first|done|with_reducible rfl)
     (try simp only[Act.put,ZA,ZB,ZC])
     refine tk 20 ⟨some 27,.extract (.tmp 7) 4,30, "desk.go:84",#[⟨15,.data⟩,⟨27,.gcOnly .lateStores⟩],none⟩ ?_ rfl ?_ hHeld ?_
     rotate_left
     ·(intro U hSw;(try dsimp only at hSw);go_simp;first|done|with_reducible rfl)
     (try simp only[Act.put,ZA,ZB,ZC])
     refine tk 21 ⟨some 28,.nilCheck (.tmp 8),0, "desk.go:84",#[⟨0,.data⟩,⟨0,.phase⟩,⟨1,.textOnly .lateStores⟩,⟨2,.phase⟩,⟨3,.phase⟩,⟨4,.phase⟩,⟨5,.phase⟩,⟨6,.phase⟩,⟨7,.phase⟩,⟨8,.phase⟩,⟨9,.phase⟩,⟨10,.phase⟩,⟨11,.phase⟩,⟨12,.phase⟩,⟨13,.phase⟩,⟨14,.phase⟩,⟨15,.phase⟩,⟨16,.phase⟩,⟨17,.textOnly .lateStores⟩,⟨18,.textOnly .lateStores⟩,⟨19,.textOnly .lateStores⟩,⟨20,.textOnly .lateStores⟩],none⟩ ?_ rfl ?_ hHeld ?_
     rotate_left
     ·(intro U hSw;(try dsimp only at hSw);go_simp;first|done|with_reducible rfl)
     (try simp only[Act.put,ZA,ZB,ZC])
     refine tk 22 ⟨some 29,.fieldAddr 254 (.tmp 28) 0,0, "desk.go:84",#[⟨21,.data⟩,⟨0,.phase⟩,⟨1,.textOnly .lateStores⟩,⟨2,.phase⟩,⟨3,.phase⟩,⟨4,.phase⟩,⟨5,.phase⟩,⟨6,.phase⟩,⟨7,.phase⟩,⟨8,.phase⟩,⟨9,.phase⟩,⟨10,.phase⟩,⟨11,.phase⟩,⟨12,.phase⟩,⟨13,.phase⟩,⟨14,.phase⟩,⟨15,.phase⟩,⟨16,.phase⟩,⟨17,.textOnly .lateStores⟩,⟨18,.textOnly .lateStores⟩,⟨19,.textOnly .lateStores⟩,⟨20,.textOnly .lateStores⟩],none⟩ ?_ rfl ?_ hHeld ?_
     rotate_left
     ·(intro U hSw;(try dsimp only at hSw);go_simp;first|done|with_reducible rfl)
     (try simp only[Act.put,ZA,ZB,ZC])
     have hbx:=(hb5.block _ (lt_of_block (unhide H).box)).trans (unhide H).box
     have y0:=Za hbx 0 _ rfl
     have y3:=Za hbx 3 _ rfl
     have g0:=Zb hbx 0
     have g3:=Zb hbx 3
     have yl:=lt_of_block hbx
     refine wpAnyH_ready (rs:=[23]) (by kernel_rfl) (by simp) ?_
     refine AllReadyH.cons (o:=⟨none,.store 24 (.tmp 29) (.tmp 23),0, "desk.go:84",#[⟨22,.data⟩,⟨16,.data⟩,⟨14,.chain⟩,⟨0,.phase⟩,⟨1,.textOnly .lateStores⟩,⟨2,.phase⟩,⟨3,.phase⟩,⟨4,.phase⟩,⟨5,.phase⟩,⟨6,.phase⟩,⟨7,.phase⟩,⟨8,.phase⟩,⟨9,.phase⟩,⟨10,.phase⟩,⟨11,.phase⟩,⟨12,.phase⟩,⟨13,.phase⟩,⟨14,.phase⟩,⟨15,.phase⟩,⟨16,.phase⟩,⟨17,.textOnly .lateStores⟩,⟨18,.textOnly .lateStores⟩,⟨19,.textOnly .lateStores⟩,⟨20,.textOnly .lateStores⟩],none⟩) rfl (fun KQ hK=>?_) AllReadyH.nil
     go_simp
     refine hK.out _ _ ((unhide KS) _ (by simpa[World.setCell] using hb5.size)) (fun hHeld2=>?_)
     clear hK KQ hHeld
     have hHeld:=hHeld2
     clear hHeld2
     (try simp only[Act.put])
     refine tk 24 ⟨some 30,.nilCheck (.tmp 9),0, "desk.go:84",#[⟨1,.data⟩,⟨0,.phase⟩,⟨1,.phase⟩,⟨2,.phase⟩,⟨3,.phase⟩,⟨4,.phase⟩,⟨5,.phase⟩,⟨6,.phase⟩,⟨7,.phase⟩,⟨8,.phase⟩,⟨9,.phase⟩,⟨10,.phase⟩,⟨11,.phase⟩,⟨12,.phase⟩,⟨13,.phase⟩,⟨14,.phase⟩,⟨15,.phase⟩,⟨16,.phase⟩,⟨17,.phase⟩,⟨18,.textOnly .lateStores⟩,⟨19,.textOnly .lateStores⟩,⟨20,.textOnly .lateStores⟩,⟨21,.phase⟩,⟨22,.phase⟩,⟨23,.phase⟩],none⟩ ?_ rfl ?_ hHeld ?_
     rotate_left
     ·(intro U hSw;(try dsimp only at hSw);go_simp;first|done|with_reducible rfl)
     (try simp only[Act.put,ZA,ZB,ZC])
     refine tk 25 ⟨some 31,.fieldAddr 254 (.tmp 30) 1,0, "desk.go:84",#[⟨24,.data⟩,⟨0,.phase⟩,⟨1,.phase⟩,⟨2,.phase⟩,⟨3,.phase⟩,⟨4,.phase⟩,⟨5,.phase⟩,⟨6,.phase⟩,⟨7,.phase⟩,⟨8,.phase⟩,⟨9,.phase⟩,⟨10,.phase⟩,⟨11,.phase⟩,⟨12,.phase⟩,⟨13,.phase⟩,⟨14,.phase⟩,⟨15,.phase⟩,⟨16,.phase⟩,⟨17,.phase⟩,⟨18,.textOnly .lateStores⟩,⟨19,.textOnly .lateStores⟩,⟨20,.textOnly .lateStores⟩,⟨21,.phase⟩,⟨22,.phase⟩,⟨23,.phase⟩],none⟩ ?_ rfl ?_ hHeld ?_
     rotate_left
     ·(intro U hSw;(try dsimp only at hSw);go_simp;first|done|with_reducible rfl)
     (try simp only[Act.put,ZA,ZB,ZC])
     refine tk 26 ⟨some 32,.fieldAddr 67 (.tmp 31) 1,0, "desk.go:84",#[⟨25,.data⟩,⟨0,.phase⟩,⟨1,.phase⟩,⟨2,.phase⟩,⟨3,.phase⟩,⟨4,.phase⟩,⟨5,.phase⟩,⟨6,.phase⟩,⟨7,.phase⟩,⟨8,.phase⟩,⟨9,.phase⟩,⟨10,.phase⟩,⟨11,.phase⟩,⟨12,.phase⟩,⟨13,.phase⟩,⟨14,.phase⟩,⟨15,.phase⟩,⟨16,.phase⟩,⟨17,.phase⟩,⟨18,.textOnly .lateStores⟩,⟨19,.textOnly .lateStores⟩,⟨20,.textOnly .lateStores⟩,⟨21,.phase⟩,⟨22,.phase⟩,⟨23,.phase⟩],none⟩ ?_ rfl ?_ hHeld ?_
     rotate_left
     ·(intro U hSw;(try dsimp only at hSw);go_simp;first|done|with_reducible rfl)
     (try simp only[Act.put,ZA,ZB,ZC])
     refine wpAnyH_ready (rs:=[27]) (by kernel_rfl) (by simp) ?_
     refine AllReadyH.cons (o:=⟨none,.store 37 (.tmp 32) (.tmp 24),0, "desk.go:84",#[⟨26,.data⟩,⟨17,.data⟩,⟨23,.chain⟩,⟨0,.phase⟩,⟨1,.phase⟩,⟨2,.phase⟩,⟨3,.phase⟩,⟨4,.phase⟩,⟨5,.phase⟩,⟨6,.phase⟩,⟨7,.phase⟩,⟨8,.phase⟩,⟨9,.phase⟩,⟨10,.phase⟩,⟨11,.phase⟩,⟨12,.phase⟩,⟨13,.phase⟩,⟨14,.phase⟩,⟨15,.phase⟩,⟨16,.phase⟩,⟨17,.phase⟩,⟨18,.textOnly .lateStores⟩,⟨19,.textOnly .lateStores⟩,⟨20,.textOnly .lateStores⟩,⟨21,.phase⟩,⟨22,.phase⟩,⟨23,.phase⟩],none⟩) rfl (fun KQ hK=>?_) AllReadyH.nil
     go_simp
     refine hK.out _ _ ((unhide KS) _ (by simpa[World.setCell] using hb5.size)) (fun hHeld2=>?_)
     clear hK KQ hHeld
     have hHeld:=hHeld2
     clear hHeld2
     (try simp only[Act.put])
     refine tk 28 ⟨some 4,.assign (.tmp 27),30, "desk.go:84",#[⟨20,.data⟩,⟨27,.chain⟩,⟨0,.phase⟩,⟨1,.phase⟩,⟨2,.phase⟩,⟨3,.phase⟩,⟨4,.phase⟩,⟨5,.phase⟩,⟨6,.phase⟩,⟨7,.phase⟩,⟨8,.phase⟩,⟨9,.phase⟩,⟨10,.phase⟩,⟨11,.phase⟩,⟨12,.phase⟩,⟨13,.phase⟩,⟨14,.phase⟩,⟨15,.phase⟩,⟨16,.phase⟩,⟨17,.phase⟩,⟨18,.phase⟩,⟨19,.phase⟩,⟨20,.phase⟩,⟨21,.phase⟩,⟨22,.phase⟩,⟨23,.phase⟩,⟨24,.phase⟩,⟨25,.phase⟩,⟨26,.phase⟩,⟨27,.phase⟩],none⟩ ?_ rfl ?_ hHeld ?_
     rotate_left
     ·(intro U hSw;(try dsimp only at hSw);go_simp;first|done|with_reducible rfl)
     (try simp only[Act.put,ZA,ZB,ZC])
     refine wpAnyH_done (by kernel_rfl) ?_ _
     clear hHeld
     go_wp2_with fail
     go_meet
     case rel=>
      refine⟨rfl,k5,k5n,k5c,sa,sn,sc,?_⟩
      have F:Fresh v5.heap.size v7 (fun w2=>Bk.TextsAt w2 k5 k5n K2∧TxsAt w2 sa sn P2):=fun W g=>⟨(hFn W g).1,(hFn W g).2.1⟩
      exact (unhide H).swept hb hbn F sk5 ss5 (((Gr.refl v7 (fun q=>q=d)).one d 0 (.inl rfl) (.slice k5 k5n k5c)).one d 3 (.inl rfl) (.slice sa sn sc)) (Tr.set_cells (Tr.set_cells hbx 0 _) 3 _)
   ·obtain⟨l0,l3,ll⟩:=(unhide KC) w.drew hb
    go_simp
    clear l0 l3 ll
    refine hK.out _ _ ((unhide KS) _ hb.size) (fun hHeld2=>?_)
    clear hK KQ hHeld
    have hHeld:=hHeld2
    clear hHeld2
    (try simp only[Act.put,ZA,ZB,ZC])
    refine wpAnyH_ready (rs:=[5,7]) (by kernel_rfl) (by simp) ?_
    refine AllReadyH.cons (o:=⟨some 13,.load 24 (.tmp 12),24, "desk.go:84",#[⟨4,.data⟩],none⟩) rfl (fun KQ hK=>?_) (AllReadyH.cons (o:=⟨some 15,.call { callee:=Callee.value (.func 108),args:=#[.tmp 14],argTypes:=#[181] },29, "desk.go:84",#[⟨6,.data⟩],none⟩) rfl (fun KQ hK=>?_) AllReadyH.nil)
    ·obtain⟨l0,l3,ll⟩:=(unhide KC) w.drew hb
     go_simp
     clear l0 l3 ll
     refine hK.out _ _ ((unhide KS) _ hb.size) (fun hHeld2=>?_)
     clear hK KQ hHeld
     have hHeld:=hHeld2
     clear hHeld2
     (try simp only[Act.put,ZA,ZB,ZC])
     refine wpAnyH_ready (rs:=[7]) (by kernel_rfl) (by simp) ?_
     refine AllReadyH.cons (o:=⟨some 15,.call { callee:=Callee.value (.func 108),args:=#[.tmp 14],argTypes:=#[181] },29, "desk.go:84",#[⟨6,.data⟩],none⟩) rfl (fun KQ hK=>?_) AllReadyH.nil
     refine Zf (by kernel_rfl) 108 #[.pointer (some ⟨d,0,none⟩)] (by kernel_rfl) ((unhide CC) w.drew hb) ?_
     rintro e v8 ⟨rfl,hbn⟩
     refine⟨_,rfl,?_⟩
     have hb:=bel_on hb hbn
     refine hK.out _ _ ((unhide KS) _ hb.size) (fun hHeld2=>?_)
     clear hK KQ hHeld
     have hHeld:=hHeld2
     clear hHeld2
     (try simp only[Act.put,ZA,ZB,ZC])
     refine wpAnyH_ready (rs:=[14]) (by kernel_rfl) (by simp) ?_
     refine AllReadyH.cons (o:=⟨some 22,.call { callee:=Callee.value (.func 23),args:=#[.tmp 13,.tmp 15,.tmp 20,.tmp 21],argTypes:=#[24,29,37,3] },49, "desk.go:84",#[⟨5,.data⟩,⟨7,.data⟩,⟨12,.data⟩,⟨13,.data⟩,⟨7,.chain⟩],none⟩) rfl (fun KQ hK=>?_) AllReadyH.nil
     refine Zf (by kernel_rfl) 23 #[.agg #[.slice ka kn kc],.slice ca cn cc,.slice pa pn pc,.int .i64 z] (by kernel_rfl) ((unhide CS) v8 hb) ?_
     rintro e v9 ⟨k5,k5n,k5c,sa,sn,sc,oa,on,oc,rfl,hFn,sk5,ss5,-,hbn⟩
     refine⟨_,rfl,?_⟩
     have hb5:=bel_on hb hbn
     refine hK.out _ _ ((unhide KS) _ hb5.size) (fun hHeld2=>?_)
     clear hK KQ hHeld
     have hHeld:=hHeld2
     clear hHeld2
     (try simp only[Act.put,ZA,ZB,ZC])
     refine tk 15 ⟨some 7,.move (.tmp 22),49, "desk.go:84",#[⟨14,.data⟩],none⟩ ?_ rfl ?_ hHeld ?_
     rotate_left
     ·(intro U hSw;(try dsimp only at hSw);go_simp;first|done|with_reducible rfl)
     (try simp only[Act.put,ZA,ZB,ZC])
     refine tk 16 ⟨some 23,.extract (.tmp 7) 0,24, "desk.go:84",#[⟨15,.data⟩],none⟩ ?_ rfl ?_ hHeld ?_
     rotate_left
     ·(intro U hSw;(try dsimp only at hSw);go_simp;first|done|with_reducible rfl)
     (try simp only[Act.put,ZA,ZB,ZC])
     refine tk 17 ⟨some 24,.extract (.tmp 7) 1,37, "desk.go:84",#[⟨15,.data⟩,⟨23,.gcOnly .lateStores⟩],none⟩ ?_ rfl ?_ hHeld ?_
     rotate_left
     ·(intro U hSw;(try dsimp only at hSw);go_simp;first|done|with_reducible rfl)
     (try simp only[Act.put,ZA,ZB,ZC])
     refine tk 18 ⟨some 25,.extract (.tmp 7) 2,29, "desk.go:84",#[⟨15,.data⟩,⟨27,.gcOnly .lateStores⟩],none⟩ ?_ rfl ?_ hHeld ?_
     rotate_left
     ·(intro U hSw;(try dsimp only at hSw);go_simp;first|done|with_reducible rfl)
     (try simp only[Act.put,ZA,ZB,ZC])
     refine tk 19 ⟨some 26,.extract (.tmp 7) 3,3, "desk.go:84",#[⟨15,.data⟩,⟨27,.gcOnly .lateStores⟩],none⟩ ?_ rfl ?_ hHeld ?_
     rotate_left
     ·(intro U hSw;(try dsimp only at hSw);go_simp;first|done|with_reducible rfl)
     (try simp only[Act.put,ZA,ZB,ZC])
     refine tk 20 ⟨some 27,.extract (.tmp 7) 4,30, "desk.go:84",#[⟨15,.data⟩,⟨27,.gcOnly .lateStores⟩],none⟩ ?_ rfl ?_ hHeld ?_
     rotate_left
     ·(intro U hSw;(try dsimp only at hSw);go_simp;first|done|with_reducible rfl)
     (try simp only[Act.put,ZA,ZB,ZC])
     refine tk 21 ⟨some 28,.nilCheck (.tmp 8),0, "desk.go:84",#[⟨0,.data⟩,⟨0,.phase⟩,⟨1,.textOnly .lateStores⟩,⟨2,.phase⟩,⟨3,.phase⟩,⟨4,.phase⟩,⟨5,.phase⟩,⟨6,.phase⟩,⟨7,.phase⟩,⟨8,.phase⟩,⟨9,.phase⟩,⟨10,.phase⟩,⟨11,.phase⟩,⟨12,.phase⟩,⟨13,.phase⟩,⟨14,.phase⟩,⟨15,.phase⟩,⟨16,.phase⟩,⟨17,.textOnly .lateStores⟩,⟨18,.textOnly .lateStores⟩,⟨19,.textOnly .lateStores⟩,⟨20,.textOnly .lateStores⟩],none⟩ ?_ rfl ?_ hHeld ?_
     rotate_left
     ·(intro U hSw;(try dsimp only at hSw);go_simp;first|done|with_reducible rfl)
     (try simp only[Act.put,ZA,ZB,ZC])
     refine tk 22 ⟨some 29,.fieldAddr 254 (.tmp 28) 0,0, "desk.go:84",#[⟨21,.data⟩,⟨0,.phase⟩,⟨1,.textOnly .lateStores⟩,⟨2,.phase⟩,⟨3,.phase⟩,⟨4,.phase⟩,⟨5,.phase⟩,⟨6,.phase⟩,⟨7,.phase⟩,⟨8,.phase⟩,⟨9,.phase⟩,⟨10,.phase⟩,⟨11,.phase⟩,⟨12,.phase⟩,⟨13,.phase⟩,⟨14,.phase⟩,⟨15,.phase⟩,⟨16,.phase⟩,⟨17,.textOnly .lateStores⟩,⟨18,.textOnly .lateStores⟩,⟨19,.textOnly .lateStores⟩,⟨20,.textOnly .lateStores⟩],none⟩ ?_ rfl ?_ hHeld ?_
     rotate_left
     ·(intro U hSw;(try dsimp only at hSw);go_simp;first|done|with_reducible rfl)
     (try simp only[Act.put,ZA,ZB,ZC])
     have hbx:=(hb5.block _ (lt_of_block (unhide H).box)).trans (unhide H).box
     have y0:=Za hbx 0 _ rfl
     have y3:=Za hbx 3 _ rfl
     have g0:=Zb hbx 0
     have g3:=Zb hbx 3
     have yl:=lt_of_block hbx
     refine wpAnyH_ready (rs:=[23]) (by kernel_rfl) (by simp) ?_
     refine AllReadyH.cons (o:=⟨none,.store 24 (.tmp 29) (.tmp 23),0, "desk.go:84",#[⟨22,.data⟩,⟨16,.data⟩,⟨14,.chain⟩,⟨0,.phase⟩,⟨1,.textOnly .lateStores⟩,⟨2,.phase⟩,⟨3,.phase⟩,⟨4,.phase⟩,⟨5,.phase⟩,⟨6,.phase⟩,⟨7,.phase⟩,⟨8,.phase⟩,⟨9,.phase⟩,⟨10,.phase⟩,⟨11,.phase⟩,⟨12,.phase⟩,⟨13,.phase⟩,⟨14,.phase⟩,⟨15,.phase⟩,⟨16,.phase⟩,⟨17,.textOnly .lateStores⟩,⟨18,.textOnly .lateStores⟩,⟨19,.textOnly .lateStores⟩,⟨20,.textOnly .lateStores⟩],none⟩) rfl (fun KQ hK=>?_) AllReadyH.nil
     go_simp
     refine hK.out _ _ ((unhide KS) _ (by simpa[World.setCell] using hb5.size)) (fun hHeld2=>?_)
     clear hK KQ hHeld
     have hHeld:=hHeld2
     clear hHeld2
     (try simp only[Act.put])
     refine tk 24 ⟨some 30,.nilCheck (.tmp 9),0, "desk.go:84",#[⟨1,.data⟩,⟨0,.phase⟩,⟨1,.phase⟩,⟨2,.phase⟩,⟨3,.phase⟩,⟨4,.phase⟩,⟨5,.phase⟩,⟨6,.phase⟩,⟨7,.phase⟩,⟨8,.phase⟩,⟨9,.phase⟩,⟨10,.phase⟩,⟨11,.phase⟩,⟨12,.phase⟩,⟨13,.phase⟩,⟨14,.phase⟩,⟨15,.phase⟩,⟨16,.phase⟩,⟨17,.phase⟩,⟨18,.textOnly .lateStores⟩,⟨19,.textOnly .lateStores⟩,⟨20,.textOnly .lateStores⟩,⟨21,.phase⟩,⟨22,.phase⟩,⟨23,.phase⟩],none⟩ ?_ rfl ?_ hHeld ?_
     rotate_left
     ·(intro U hSw;(try dsimp only at hSw);go_simp;first|done|with_reducible rfl)
     (try simp only[Act.put,ZA,ZB,ZC])
     refine tk 25 ⟨some 31,.fieldAddr 254 (.tmp 30) 1,0, "desk.go:84",#[⟨24,.data⟩,⟨0,.phase⟩,⟨1,.phase⟩,⟨2,.phase⟩,⟨3,.phase⟩,⟨4,.phase⟩,⟨5,.phase⟩,⟨6,.phase⟩,⟨7,.phase⟩,⟨8,.phase⟩,⟨9,.phase⟩,⟨10,.phase⟩,⟨11,.phase⟩,⟨12,.phase⟩,⟨13,.phase⟩,⟨14,.phase⟩,⟨15,.phase⟩,⟨16,.phase⟩,⟨17,.phase⟩,⟨18,.textOnly .lateStores⟩,⟨19,.textOnly .lateStores⟩,⟨20,.textOnly .lateStores⟩,⟨21,.phase⟩,⟨22,.phase⟩,⟨23,.phase⟩],none⟩ ?_ rfl ?_ hHeld ?_
     rotate_left
     ·(intro U hSw;(try dsimp only at hSw);go_simp;first|done|with_reducible rfl)
     (try simp only[Act.put,ZA,ZB,ZC])
     refine tk 26 ⟨some 32,.fieldAddr 67 (.tmp 31) 1,0, "desk.go:84",#[⟨25,.data⟩,⟨0,.phase⟩,⟨1,.phase⟩,⟨2,.phase⟩,⟨3,.phase⟩,⟨4,.phase⟩,⟨5,.phase⟩,⟨6,.phase⟩,⟨7,.phase⟩,⟨8,.phase⟩,⟨9,.phase⟩,⟨10,.phase⟩,⟨11,.phase⟩,⟨12,.phase⟩,⟨13,.phase⟩,⟨14,.phase⟩,⟨15,.phase⟩,⟨16,.phase⟩,⟨17,.phase⟩,⟨18,.textOnly .lateStores⟩,⟨19,.textOnly .lateStores⟩,⟨20,.textOnly .lateStores⟩,⟨21,.phase⟩,⟨22,.phase⟩,⟨23,.phase⟩],none⟩ ?_ rfl ?_ hHeld ?_
     rotate_left
     ·(intro U hSw;(try dsimp only at hSw);go_simp;first|done|with_reducible rfl)
     (try simp only[Act.put,ZA,ZB,ZC])
     refine wpAnyH_ready (rs:=[27]) (by kernel_rfl) (by simp) ?_
     refine AllReadyH.cons (o:=⟨none,.store 37 (.tmp 32) (.tmp 24),0, "desk.go:84",#[⟨26,.data⟩,⟨17,.data⟩,⟨23,.chain⟩,⟨0,.phase⟩,⟨1,.phase⟩,⟨2,.phase⟩,⟨3,.phase⟩,⟨4,.phase⟩,⟨5,.phase⟩,⟨6,.phase⟩,⟨7,.phase⟩,⟨8,.phase⟩,⟨9,.phase⟩,⟨10,.phase⟩,⟨11,.phase⟩,⟨12,.phase⟩,⟨13,.phase⟩,⟨14,.phase⟩,⟨15,.phase⟩,⟨16,.phase⟩,⟨17,.phase⟩,⟨18,.textOnly .lateStores⟩,⟨19,.textOnly .lateStores⟩,⟨20,.textOnly .lateStores⟩,⟨21,.phase⟩,⟨22,.phase⟩,⟨23,.phase⟩],none⟩) rfl (fun KQ hK=>?_) AllReadyH.nil
     go_simp
     refine hK.out _ _ ((unhide KS) _ (by simpa[World.setCell] using hb5.size)) (fun hHeld2=>?_)
     clear hK KQ hHeld
     have hHeld:=hHeld2
     clear hHeld2
     (try simp only[Act.put])
     refine tk 28 ⟨some 4,.assign (.tmp 27),30, "desk.go:84",#[⟨20,.data⟩,⟨27,.chain⟩,⟨0,.phase⟩,⟨1,.phase⟩,⟨2,.phase⟩,⟨3,.phase⟩,⟨4,.phase⟩,⟨5,.phase⟩,⟨6,.phase⟩,⟨7,.phase⟩,⟨8,.phase⟩,⟨9,.phase⟩,⟨10,.phase⟩,⟨11,.phase⟩,⟨12,.phase⟩,⟨13,.phase⟩,⟨14,.phase⟩,⟨15,.phase⟩,⟨16,.phase⟩,⟨17,.phase⟩,⟨18,.phase⟩,⟨19,.phase⟩,⟨20,.phase⟩,⟨21,.phase⟩,⟨22,.phase⟩,⟨23,.phase⟩,⟨24,.phase⟩,⟨25,.phase⟩,⟨26,.phase⟩,⟨27,.phase⟩],none⟩ ?_ rfl ?_ hHeld ?_
     rotate_left
     ·(intro U hSw;(try dsimp only at hSw);go_simp;first|done|with_reducible rfl)
     (try simp only[Act.put,ZA,ZB,ZC])
     refine wpAnyH_done (by kernel_rfl) ?_ _
     clear hHeld
     go_wp2_with fail
     go_meet
     case rel=>
      refine⟨rfl,k5,k5n,k5c,sa,sn,sc,?_⟩
      have F:Fresh v8.heap.size v9 (fun w2=>Bk.TextsAt w2 k5 k5n K2∧TxsAt w2 sa sn P2):=fun W g=>⟨(hFn W g).1,(hFn W g).2.1⟩
      exact (unhide H).swept hb hbn F sk5 ss5 (((Gr.refl v9 (fun q=>q=d)).one d 0 (.inl rfl) (.slice k5 k5n k5c)).one d 3 (.inl rfl) (.slice sa sn sc)) (Tr.set_cells (Tr.set_cells hbx 0 _) 3 _)
    ·refine Zf (by kernel_rfl) 108 #[.pointer (some ⟨d,0,none⟩)] (by kernel_rfl) ((unhide CC) w.drew hb) ?_
     rintro e v10 ⟨rfl,hbn⟩
     refine⟨_,rfl,?_⟩
     have hb:=bel_on hb hbn
     refine hK.out _ _ ((unhide KS) _ hb.size) (fun hHeld2=>?_)
     clear hK KQ hHeld
     have hHeld:=hHeld2
     clear hHeld2
     (try simp only[Act.put,ZA,ZB,ZC])
     refine wpAnyH_ready (rs:=[5]) (by kernel_rfl) (by simp) ?_
     refine AllReadyH.cons (o:=⟨some 13,.load 24 (.tmp 12),24, "desk.go:84",#[⟨4,.data⟩],none⟩) rfl (fun KQ hK=>?_) AllReadyH.nil
     obtain⟨l0,l3,ll⟩:=(unhide KC) v10 hb
     go_simp
     clear l0 l3 ll
     refine hK.out _ _ ((unhide KS) _ hb.size) (fun hHeld2=>?_)
     clear hK KQ hHeld
     have hHeld:=hHeld2
     clear hHeld2
     (try simp only[Act.put,ZA,ZB,ZC])
     refine wpAnyH_ready (rs:=[14]) (by kernel_rfl) (by simp) ?_
     refine AllReadyH.cons (o:=⟨some 22,.call { callee:=Callee.value (.func 23),args:=#[.tmp 13,.tmp 15,.tmp 20,.tmp 21],argTypes:=#[24,29,37,3] },49, "desk.go:84",#[⟨5,.data⟩,⟨7,.data⟩,⟨12,.data⟩,⟨13,.data⟩,⟨7,.chain⟩],none⟩) rfl (fun KQ hK=>?_) AllReadyH.nil
     refine Zf (by kernel_rfl) 23 #[.agg #[.slice ka kn kc],.slice ca cn cc,.slice pa pn pc,.int .i64 z] (by kernel_rfl) ((unhide CS) v10 hb) ?_
     rintro e v11 ⟨k5,k5n,k5c,sa,sn,sc,oa,on,oc,rfl,hFn,sk5,ss5,-,hbn⟩
     refine⟨_,rfl,?_⟩
     have hb5:=bel_on hb hbn
     refine hK.out _ _ ((unhide KS) _ hb5.size) (fun hHeld2=>?_)
     clear hK KQ hHeld
     have hHeld:=hHeld2
     clear hHeld2
     (try simp only[Act.put,ZA,ZB,ZC])
     refine tk 15 ⟨some 7,.move (.tmp 22),49, "desk.go:84",#[⟨14,.data⟩],none⟩ ?_ rfl ?_ hHeld ?_
     rotate_left
     ·(intro U hSw;(try dsimp only at hSw);go_simp;first|done|with_reducible rfl)
     (try simp only[Act.put,ZA,ZB,ZC])
     refine tk 16 ⟨some 23,.extract (.tmp 7) 0,24, "desk.go:84",#[⟨15,.data⟩],none⟩ ?_ rfl ?_ hHeld ?_
     rotate_left
     ·(intro U hSw;(try dsimp only at hSw);go_simp;first|done|with_reducible rfl)
     (try simp only[Act.put,ZA,ZB,ZC])
     refine tk 17 ⟨some 24,.extract (.tmp 7) 1,37, "desk.go:84",#[⟨15,.data⟩,⟨23,.gcOnly .lateStores⟩],none⟩ ?_ rfl ?_ hHeld ?_
     rotate_left
     ·(intro U hSw;(try dsimp only at hSw);go_simp;first|done|with_reducible rfl)
     (try simp only[Act.put,ZA,ZB,ZC])
     refine tk 18 ⟨some 25,.extract (.tmp 7) 2,29, "desk.go:84",#[⟨15,.data⟩,⟨27,.gcOnly .lateStores⟩],none⟩ ?_ rfl ?_ hHeld ?_
     rotate_left
     ·(intro U hSw;(try dsimp only at hSw);go_simp;first|done|with_reducible rfl)
     (try simp only[Act.put,ZA,ZB,ZC])
     refine tk 19 ⟨some 26,.extract (.tmp 7) 3,3, "desk.go:84",#[⟨15,.data⟩,⟨27,.gcOnly .lateStores⟩],none⟩ ?_ rfl ?_ hHeld ?_
     rotate_left
     ·(intro U hSw;(try dsimp only at hSw);go_simp;first|done|with_reducible rfl)
     (try simp only[Act.put,ZA,ZB,ZC])
     refine tk 20 ⟨some 27,.extract (.tmp 7) 4,30, "desk.go:84",#[⟨15,.data⟩,⟨27,.gcOnly .lateStores⟩],none⟩ ?_ rfl ?_ hHeld ?_
     rotate_left
     ·(intro U hSw;(try dsimp only at hSw);go_simp;first|done|with_reducible rfl)
     (try simp only[Act.put,ZA,ZB,ZC])
     refine tk 21 ⟨some 28,.nilCheck (.tmp 8),0, "desk.go:84",#[⟨0,.data⟩,⟨0,.phase⟩,⟨1,.textOnly .lateStores⟩,⟨2,.phase⟩,⟨3,.phase⟩,⟨4,.phase⟩,⟨5,.phase⟩,⟨6,.phase⟩,⟨7,.phase⟩,⟨8,.phase⟩,⟨9,.phase⟩,⟨10,.phase⟩,⟨11,.phase⟩,⟨12,.phase⟩,⟨13,.phase⟩,⟨14,.phase⟩,⟨15,.phase⟩,⟨16,.phase⟩,⟨17,.textOnly .lateStores⟩,⟨18,.textOnly .lateStores⟩,⟨19,.textOnly .lateStores⟩,⟨20,.textOnly .lateStores⟩],none⟩ ?_ rfl ?_ hHeld ?_
     rotate_left
     ·(intro U hSw;(try dsimp only at hSw);go_simp;first|done|with_reducible rfl)
     (try simp only[Act.put,ZA,ZB,ZC])
     refine tk 22 ⟨some 29,.fieldAddr 254 (.tmp 28) 0,0, "desk.go:84",#[⟨21,.data⟩,⟨0,.phase⟩,⟨1,.textOnly .lateStores⟩,⟨2,.phase⟩,⟨3,.phase⟩,⟨4,.phase⟩,⟨5,.phase⟩,⟨6,.phase⟩,⟨7,.phase⟩,⟨8,.phase⟩,⟨9,.phase⟩,⟨10,.phase⟩,⟨11,.phase⟩,⟨12,.phase⟩,⟨13,.phase⟩,⟨14,.phase⟩,⟨15,.phase⟩,⟨16,.phase⟩,⟨17,.textOnly .lateStores⟩,⟨18,.textOnly .lateStores⟩,⟨19,.textOnly .lateStores⟩,⟨20,.textOnly .lateStores⟩],none⟩ ?_ rfl ?_ hHeld ?_
     rotate_left
     ·(intro U hSw;(try dsimp only at hSw);go_simp;first|done|with_reducible rfl)
     (try simp only[Act.put,ZA,ZB,ZC])
     have hbx:=(hb5.block _ (lt_of_block (unhide H).box)).trans (unhide H).box
     have y0:=Za hbx 0 _ rfl
     have y3:=Za hbx 3 _ rfl
     have g0:=Zb hbx 0
     have g3:=Zb hbx 3
     have yl:=lt_of_block hbx
     refine wpAnyH_ready (rs:=[23]) (by kernel_rfl) (by simp) ?_
     refine AllReadyH.cons (o:=⟨none,.store 24 (.tmp 29) (.tmp 23),0, "desk.go:84",#[⟨22,.data⟩,⟨16,.data⟩,⟨14,.chain⟩,⟨0,.phase⟩,⟨1,.textOnly .lateStores⟩,⟨2,.phase⟩,⟨3,.phase⟩,⟨4,.phase⟩,⟨5,.phase⟩,⟨6,.phase⟩,⟨7,.phase⟩,⟨8,.phase⟩,⟨9,.phase⟩,⟨10,.phase⟩,⟨11,.phase⟩,⟨12,.phase⟩,⟨13,.phase⟩,⟨14,.phase⟩,⟨15,.phase⟩,⟨16,.phase⟩,⟨17,.textOnly .lateStores⟩,⟨18,.textOnly .lateStores⟩,⟨19,.textOnly .lateStores⟩,⟨20,.textOnly .lateStores⟩],none⟩) rfl (fun KQ hK=>?_) AllReadyH.nil
     go_simp
     refine hK.out _ _ ((unhide KS) _ (by simpa[World.setCell] using hb5.size)) (fun hHeld2=>?_)
     clear hK KQ hHeld
     have hHeld:=hHeld2
     clear hHeld2
     (try simp only[Act.put])
     refine tk 24 ⟨some 30,.nilCheck (.tmp 9),0, "desk.go:84",#[⟨1,.data⟩,⟨0,.phase⟩,⟨1,.phase⟩,⟨2,.phase⟩,⟨3,.phase⟩,⟨4,.phase⟩,⟨5,.phase⟩,⟨6,.phase⟩,⟨7,.phase⟩,⟨8,.phase⟩,⟨9,.phase⟩,⟨10,.phase⟩,⟨11,.phase⟩,⟨12,.phase⟩,⟨13,.phase⟩,⟨14,.phase⟩,⟨15,.phase⟩,⟨16,.phase⟩,⟨17,.phase⟩,⟨18,.textOnly .lateStores⟩,⟨19,.textOnly .lateStores⟩,⟨20,.textOnly .lateStores⟩,⟨21,.phase⟩,⟨22,.phase⟩,⟨23,.phase⟩],none⟩ ?_ rfl ?_ hHeld ?_
     rotate_left
     ·(intro U hSw;(try dsimp only at hSw);go_simp;first|done|with_reducible rfl)
     (try simp only[Act.put,ZA,ZB,ZC])
     refine tk 25 ⟨some 31,.fieldAddr 254 (.tmp 30) 1,0, "desk.go:84",#[⟨24,.data⟩,⟨0,.phase⟩,⟨1,.phase⟩,⟨2,.phase⟩,⟨3,.phase⟩,⟨4,.phase⟩,⟨5,.phase⟩,⟨6,.phase⟩,⟨7,.phase⟩,⟨8,.phase⟩,⟨9,.phase⟩,⟨10,.phase⟩,⟨11,.phase⟩,⟨12,.phase⟩,⟨13,.phase⟩,⟨14,.phase⟩,⟨15,.phase⟩,⟨16,.phase⟩,⟨17,.phase⟩,⟨18,.textOnly .lateStores⟩,⟨19,.textOnly .lateStores⟩,⟨20,.textOnly .lateStores⟩,⟨21,.phase⟩,⟨22,.phase⟩,⟨23,.phase⟩],none⟩ ?_ rfl ?_ hHeld ?_
     rotate_left
     ·(intro U hSw;(try dsimp only at hSw);go_simp;first|done|with_reducible rfl)
     (try simp only[Act.put,ZA,ZB,ZC])
     refine tk 26 ⟨some 32,.fieldAddr 67 (.tmp 31) 1,0, "desk.go:84",#[⟨25,.data⟩,⟨0,.phase⟩,⟨1,.phase⟩,⟨2,.phase⟩,⟨3,.phase⟩,⟨4,.phase⟩,⟨5,.phase⟩,⟨6,.phase⟩,⟨7,.phase⟩,⟨8,.phase⟩,⟨9,.phase⟩,⟨10,.phase⟩,⟨11,.phase⟩,⟨12,.phase⟩,⟨13,.phase⟩,⟨14,.phase⟩,⟨15,.phase⟩,⟨16,.phase⟩,⟨17,.phase⟩,⟨18,.textOnly .lateStores⟩,⟨19,.textOnly .lateStores⟩,⟨20,.textOnly .lateStores⟩,⟨21,.phase⟩,⟨22,.phase⟩,⟨23,.phase⟩],none⟩ ?_ rfl ?_ hHeld ?_
     rotate_left
     ·(intro U hSw;(try dsimp only at hSw);go_simp;first|done|with_reducible rfl)
     (try simp only[Act.put,ZA,ZB,ZC])
     refine wpAnyH_ready (rs:=[27]) (by kernel_rfl) (by simp) ?_
     refine AllReadyH.cons (o:=⟨none,.store 37 (.tmp 32) (.tmp 24),0, "desk.go:84",#[⟨26,.data⟩,⟨17,.data⟩,⟨23,.chain⟩,⟨0,.phase⟩,⟨1,.phase⟩,⟨2,.phase⟩,⟨3,.phase⟩,⟨4,.phase⟩,⟨5,.phase⟩,⟨6,.phase⟩,⟨7,.phase⟩,⟨8,.phase⟩,⟨9,.phase⟩,⟨10,.phase⟩,⟨11,.phase⟩,⟨12,.phase⟩,⟨13,.phase⟩,⟨14,.phase⟩,⟨15,.phase⟩,⟨16,.phase⟩,⟨17,.phase⟩,⟨18,.textOnly .lateStores⟩,⟨19,.textOnly .lateStores⟩,⟨20,.textOnly .lateStores⟩,⟨21,.phase⟩,⟨22,.phase⟩,⟨23,.phase⟩],none⟩) rfl (fun KQ hK=>?_) AllReadyH.nil
     go_simp
     refine hK.out _ _ ((unhide KS) _ (by simpa[World.setCell] using hb5.size)) (fun hHeld2=>?_)
     clear hK KQ hHeld
     have hHeld:=hHeld2
     clear hHeld2
     (try simp only[Act.put])
     refine tk 28 ⟨some 4,.assign (.tmp 27),30, "desk.go:84",#[⟨20,.data⟩,⟨27,.chain⟩,⟨0,.phase⟩,⟨1,.phase⟩,⟨2,.phase⟩,⟨3,.phase⟩,⟨4,.phase⟩,⟨5,.phase⟩,⟨6,.phase⟩,⟨7,.phase⟩,⟨8,.phase⟩,⟨9,.phase⟩,⟨10,.phase⟩,⟨11,.phase⟩,⟨12,.phase⟩,⟨13,.phase⟩,⟨14,.phase⟩,⟨15,.phase⟩,⟨16,.phase⟩,⟨17,.phase⟩,⟨18,.phase⟩,⟨19,.phase⟩,⟨20,.phase⟩,⟨21,.phase⟩,⟨22,.phase⟩,⟨23,.phase⟩,⟨24,.phase⟩,⟨25,.phase⟩,⟨26,.phase⟩,⟨27,.phase⟩],none⟩ ?_ rfl ?_ hHeld ?_
     rotate_left
     ·(intro U hSw;(try dsimp only at hSw);go_simp;first|done|with_reducible rfl)
     (try simp only[Act.put,ZA,ZB,ZC])
     refine wpAnyH_done (by kernel_rfl) ?_ _
     clear hHeld
     go_wp2_with fail
     go_meet
     case rel=>
      refine⟨rfl,k5,k5n,k5c,sa,sn,sc,?_⟩
      have F:Fresh v10.heap.size v11 (fun w2=>Bk.TextsAt w2 k5 k5n K2∧TxsAt w2 sa sn P2):=fun W g=>⟨(hFn W g).1,(hFn W g).2.1⟩
      exact (unhide H).swept hb hbn F sk5 ss5 (((Gr.refl v11 (fun q=>q=d)).one d 0 (.inl rfl) (.slice k5 k5n k5c)).one d 3 (.inl rfl) (.slice sa sn sc)) (Tr.set_cells (Tr.set_cells hbx 0 _) 3 _)
  case rest=>
   obtain⟨rfl,HD⟩:=hcut
   clear KS KC CC CS H
   go_wp2
   go_ret
   exact⟨rfl,unhide HD⟩
end
end Go.Proofs.YtmomfkikogbdeaaGreatDoor
