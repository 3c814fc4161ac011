import Derived.Test.YtmomfkikogbdeaaGreatDoorG34
namespace Go.Proofs.YtmomfkikogbdeaaGreatDoor
open Go.RowKit
section
variable {Z : Nat → Prop} {w : World} {d bm m : Nat} {ka na ba pa : Option Addr} {kn kc nn nc bn bc pn pc : Nat} {K : List ByteArray} {N : List Int} {T : List Zk} {P : List TxD} {tip : Int} {f : Int → Value} {β : Int → List Zh}
set_option maxRecDepth 10000 in
set_option maxHeartbeats 6400000 in
theorem Zeb(h:DeskAt Z w d bm m ka kn kc K na nn nc N ba bn bc T pa pn pc P tip f β)(hE:Env w)(ht:(Lit.int .i64 tip).wf=true)(h1:0≤Ya N T tip)(h2:Ya N T tip≤1000)(x:Int)(hx:poE K N T P tip β = x) :
  Calls Tryz.prog 173 #[.pointer (some ⟨d,0,none⟩)] w fun e w'=>e = .returned (.int .i64 x)∧Below w.heap.size w w':=by
 have hpn:P.length=pn:=h.now.p.1
 obtain⟨z,hz⟩:∃ z,Ya N T tip=z:=⟨_,rfl⟩
 obtain⟨g,hg⟩:∃ g,P.all (knT K)=g:=⟨_,rfl⟩
 obtain⟨y,hy⟩:∃ y,swE K (β tip) P (z+1)=y:=⟨_,rfl⟩
 obtain⟨⟨K1,S1,C1,F1⟩,hr⟩:∃ r,swF K (β tip) P (z+1) y=r:=⟨_,rfl⟩
 obtain⟨n1,hn1⟩:∃ n1,S1.length=n1:=⟨_,rfl⟩
 have HX:Hid ((if pn=0 then 0 else if g=false then 5 else if y≠0 then y else if n1<pn then 7 else 0)=x):=by
  show _=_
  rw[←hx]
  unfold poE
  rw[hpn,hg,hz,hy]
  by_cases e:y=0
  ·subst e
   unfold swF at hr
   rw[if_pos rfl] at hr
   simp only[Prod.mk.injEq] at hr
   rw[hr.2.1,hn1]
  ·rw[if_pos e]
   split
   ·rfl
   ·split
    ·rfl
    ·first|rfl|rw[if_pos e]
 obtain⟨ca,cn,cc,hfp,_,sC⟩:=h.c tip
 rw[hz] at h1 h2
 have CA:=Zb (fun V (hv:Below w.heap.size w V)=>Ln d K pa pn pc P g V (hE.later hv) (h.later hv).book (h.later hv).now.p h.sp.len hg)
 have CC:=Zb (fun V (hv:Below w.heap.size w V)=>Qb (h.later hv) ht)
 rw[hfp] at CC
 have CH:=Zb (fun V (hv:Below w.heap.size w V)=>Qr (h.later hv) z hz)
 have CS:=Zb (fun V (hv:Below w.heap.size w V)=>Li ka kn kc K ca cn cc (β tip) pa pn pc P (z+1) y K1 S1 C1 F1 V (hE.later hv) (h.later hv).now.k (by obtain⟨a2,n2,c2,q1,q2,_⟩:=(h.later hv).c tip;rw[hfp] at q1;injection q1 with e1 e2 e3;subst e1 e2 e3;exact q2) sC (h.later hv).now.p hy hr)
 have c0:=Zd h.box 0 _ rfl
 have c3:=Zd h.box 3 _ rfl
 have dl:=lt_of_block h.box
 have KS:Hid (∀ U:World,Below w.heap.size w U→(U.cell? ⟨d,0,none⟩=some (.slice ka kn kc)∧U.cell? ⟨d,3,none⟩=some (.slice pa pn pc)∧d<U.heap.size)):=fun U hu=>⟨Ze hu c0,Ze hu c3,Nat.lt_of_lt_of_le dl hu.size⟩
 have hw1:IntKind.i64.wrap (z+1)=z+1:=by rw[IntKind.wrap_i64];omega
 have hpl:pn≤9223372036854775807:=h.sp.len
 have HN1:=Zb hn1
 clear h hE ht hx hpn hz hg hy hr hn1 hfp sC
 go_enter Tryz.func173,Tryz.ntmps173
 by_cases e0:pn=0
 ·subst e0
  have HXE:Hid (x=0):=by have q:=Za HX;rw[if_pos rfl] at q;exact q.symm
  clear HX
  go_wp2
  go_ret
  exact⟨by rw[Za HXE];rfl,Below.refl _ _⟩
 ·have g0:((pn:Int) == 0)=false:=by simp;omega
  have g01:¬((pn:Int)=0):=by omega
  have D1:=Zb ((Za CA) w (Below.refl _ _))
  clear CA
  go_wp2_with fail
  refine (Za D1).mono ?_
  rintro e w1 ⟨rfl,hb1⟩
  have HB1:=Zb hb1
  clear hb1 D1 c0 c3 dl
  cases g
  ·have HXE:Hid (x=5):=by have q:=Za HX;rw[if_neg e0,if_pos rfl] at q;exact q.symm
   clear HX
   go_wp2
   go_ret
   exact⟨by rw[Za HXE];rfl,Za HB1⟩
  ·have hx2:=Za HX
   rw[if_neg e0,if_neg (by decide)] at hx2
   have HX2:=Zb hx2
   clear hx2 HX
   have d1:=(Za KS) w1 (Za HB1)
   have dd0:=d1.1
   have dd3:=d1.2.1
   have ddl:=d1.2.2
   clear d1
   go_upto_region 5 with fail
   clear dd0 dd3 ddl
   go_cut [3,4,5,6,7] from 23 to 43 (fun s3 s4 s5 s6 s7 wx=>s7 = .int .i64 y∧(∃ a c,s4 = .slice a n1 c)∧Hid (Below w.heap.size w wx))
   case first=>
    refine wp_region_held_drew (S:=fun U=>(U.cell? ⟨d,0,none⟩=some (.slice ka kn kc)∧U.cell? ⟨d,3,none⟩=some (.slice pa pn pc)∧d<U.heap.size)) (by kernel_rfl) ((Za KS) _ (Zf (Za HB1) (Zj _))) (fun Zjc=>?_)
    refine tk 0 ⟨some 24,.move (.tmp 0),181, "check.go:34",#[],none⟩ ?_ rfl ?_ Zjc ?_
    rotate_left
    ·(intro U hSw;obtain⟨s1,s2,s3⟩:=hSw;go_simp;first|done|with_reducible rfl)
    (try simp only[Act.put,ZA,ZB,ZC])
    refine tk 1 ⟨some 25,.nilCheck (.tmp 24),0, "check.go:34",#[⟨0,.data⟩],none⟩ ?_ rfl ?_ Zjc ?_
    rotate_left
    ·(intro U hSw;obtain⟨s1,s2,s3⟩:=hSw;go_simp;first|done|with_reducible rfl)
    (try simp only[Act.put,ZA,ZB,ZC])
    refine tk 2 ⟨some 26,.fieldAddr 254 (.tmp 25) 0,0, "check.go:34",#[⟨1,.data⟩],none⟩ ?_ rfl ?_ Zjc ?_
    rotate_left
    ·(intro U hSw;obtain⟨s1,s2,s3⟩:=hSw;go_simp;first|done|with_reducible rfl)
    (try simp only[Act.put,ZA,ZB,ZC])
    refine tk 3 ⟨some 27,.load 24 (.tmp 26),24, "check.go:34",#[⟨2,.data⟩],none⟩ ?_ rfl ?_ Zjc ?_
    rotate_left
    ·(intro U hSw;obtain⟨s1,s2,s3⟩:=hSw;go_simp;first|done|with_reducible rfl)
    (try simp only[Act.put,ZA,ZB,ZC])
    refine tk 4 ⟨some 28,.move (.tmp 0),181, "check.go:34",#[],none⟩ ?_ rfl ?_ Zjc ?_
    rotate_left
    ·(intro U hSw;obtain⟨s1,s2,s3⟩:=hSw;go_simp;first|done|with_reducible rfl)
    (try simp only[Act.put,ZA,ZB,ZC])
    refine tk 6 ⟨some 30,.move (.tmp 0),181, "check.go:34",#[],none⟩ ?_ rfl ?_ Zjc ?_
    rotate_left
    ·(intro U hSw;obtain⟨s1,s2,s3⟩:=hSw;go_simp;first|done|with_reducible rfl)
    (try simp only[Act.put,ZA,ZB,ZC])
    refine tk 7 ⟨some 31,.nilCheck (.tmp 30),0, "check.go:34",#[⟨6,.data⟩],none⟩ ?_ rfl ?_ Zjc ?_
    rotate_left
    ·(intro U hSw;obtain⟨s1,s2,s3⟩:=hSw;go_simp;first|done|with_reducible rfl)
    (try simp only[Act.put,ZA,ZB,ZC])
    refine tk 8 ⟨some 32,.fieldAddr 254 (.tmp 31) 1,0, "check.go:34",#[⟨7,.data⟩],none⟩ ?_ rfl ?_ Zjc ?_
    rotate_left
    ·(intro U hSw;obtain⟨s1,s2,s3⟩:=hSw;go_simp;first|done|with_reducible rfl)
    (try simp only[Act.put,ZA,ZB,ZC])
    refine tk 9 ⟨some 33,.fieldAddr 67 (.tmp 32) 1,0, "check.go:34",#[⟨8,.data⟩],none⟩ ?_ rfl ?_ Zjc ?_
    rotate_left
    ·(intro U hSw;obtain⟨s1,s2,s3⟩:=hSw;go_simp;first|done|with_reducible rfl)
    (try simp only[Act.put,ZA,ZB,ZC])
    refine tk 10 ⟨some 34,.load 37 (.tmp 33),37, "check.go:34",#[⟨9,.data⟩],none⟩ ?_ rfl ?_ Zjc ?_
    rotate_left
    ·(intro U hSw;obtain⟨s1,s2,s3⟩:=hSw;go_simp;first|done|with_reducible rfl)
    (try simp only[Act.put,ZA,ZB,ZC])
    refine tk 11 ⟨some 35,.move (.tmp 0),181, "check.go:34",#[],none⟩ ?_ rfl ?_ Zjc ?_
    rotate_left
    ·(intro U hSw;obtain⟨s1,s2,s3⟩:=hSw;go_simp;first|done|with_reducible rfl)
    (try simp only[Act.put,ZA,ZB,ZC])
    have hb:=Zf (Za HB1) (Zj w1)
    refine wpAnyH_ready (rs:=[5,21]) (by kernel_rfl) (by simp) ?_
    refine AllReadyH.cons (o:=⟨some 29,.call { callee:=Callee.value (.func 108),args:=#[.tmp 28],argTypes:=#[181] },29, "check.go:34",#[⟨4,.data⟩],none⟩) rfl (fun KQ hK=>?_) (AllReadyH.cons (o:=⟨some 3,.alloc 24,0, "check.go:34",#[],none⟩) rfl (fun KQ hK=>?_) AllReadyH.nil)
    refine Zl (by kernel_rfl) 108 #[.pointer (some ⟨d,0,none⟩)] (by kernel_rfl) ((Za CC) w1.drew hb) ?_
    rintro e v1 ⟨rfl,hbn⟩
    refine⟨_,rfl,?_⟩
    have hb:=Zf hb hbn
    refine hK.out _ _ ((Za KS) _ hb) (fun Zjd=>?_)
    clear hK KQ Zjc
    have Zjc:=Zjd
    clear Zjd
    (try simp only[Act.put,ZA,ZB,ZC])
    refine wpAnyH_ready (rs:=[12,21]) (by kernel_rfl) (by simp) ?_
    refine AllReadyH.cons (o:=⟨some 36,.call { callee:=Callee.value (.func 165),args:=#[.tmp 35],argTypes:=#[181] },3, "check.go:34",#[⟨11,.data⟩,⟨5,.chain⟩],none⟩) rfl (fun KQ hK=>?_) (AllReadyH.cons (o:=⟨some 3,.alloc 24,0, "check.go:34",#[],none⟩) rfl (fun KQ hK=>?_) AllReadyH.nil)
    refine Zl (by kernel_rfl) 165 #[.pointer (some ⟨d,0,none⟩)] (by kernel_rfl) ((Za CH) v1 hb) ?_
    rintro e v2 ⟨rfl,hbn⟩
    refine⟨_,rfl,?_⟩
    have hb:=Zf hb hbn
    refine hK.out _ _ ((Za KS) _ hb) (fun Zjd=>?_)
    clear hK KQ Zjc
    have Zjc:=Zjd
    clear Zjd
    (try simp only[Act.put,ZA,ZB,ZC])
    refine tk 13 ⟨some 37,.binOp BinOp.add 3 (.tmp 36) (.const (Value.int IntKind.i64 1)) 3,3, "check.go:34",#[⟨12,.data⟩],none⟩ (.int .i64 (z+1)) rfl ?_ Zjc ?_
    ·(intro U hSw;(try dsimp only at hSw);go_simp;first|done|with_reducible rfl)
    (try simp only[Act.put,ZA,ZB,ZC])
    refine wpAnyH_ready (rs:=[14,21]) (by kernel_rfl) (by simp) ?_
    refine AllReadyH.cons (o:=⟨some 38,.call { callee:=Callee.value (.func 23),args:=#[.tmp 27,.tmp 29,.tmp 34,.tmp 37],argTypes:=#[24,29,37,3] },49, "check.go:34",#[⟨3,.data⟩,⟨5,.data⟩,⟨10,.data⟩,⟨13,.data⟩,⟨12,.chain⟩],none⟩) rfl (fun KQ hK=>?_) (AllReadyH.cons (o:=⟨some 3,.alloc 24,0, "check.go:34",#[],none⟩) rfl (fun KQ hK=>?_) AllReadyH.nil)
    refine Zl (by kernel_rfl) 23 #[.agg #[.slice ka kn kc],.slice ca cn cc,.slice pa pn pc,.int .i64 (z+1)] (by kernel_rfl) ((Za CS) v2 hb) ?_
    rintro e v3 ⟨k5,k5n,k5c,sa,sn,sc,oa,on,oc,rfl,hFn,-,-,-,hbn⟩
    refine⟨_,rfl,?_⟩
    have hb:=Zf hb hbn
    have hsn:sn=n1:=((hFn v3 (Gr.refl _ _)).2.1.1).symm.trans (Za HN1)
    refine hK.out _ _ ((Za KS) _ hb) (fun Zjd=>?_)
    clear hK KQ Zjc
    have Zjc:=Zjd
    clear Zjd
    (try simp only[Act.put,ZA,ZB,ZC])
    refine tk 15 ⟨some 23,.move (.tmp 38),49, "check.go:34",#[⟨14,.data⟩],none⟩ ?_ rfl ?_ Zjc ?_
    rotate_left
    ·(intro U hSw;(try dsimp only at hSw);go_simp;first|done|with_reducible rfl)
    (try simp only[Act.put,ZA,ZB,ZC])
    refine tk 16 ⟨some 39,.extract (.tmp 23) 0,24, "check.go:34",#[⟨15,.data⟩],none⟩ ?_ rfl ?_ Zjc ?_
    rotate_left
    ·(intro U hSw;(try dsimp only at hSw);go_simp;first|done|with_reducible rfl)
    (try simp only[Act.put,ZA,ZB,ZC])
    refine tk 17 ⟨some 40,.extract (.tmp 23) 1,37, "check.go:34",#[⟨15,.data⟩,⟨22,.gcOnly .lateStores⟩],none⟩ ?_ rfl ?_ Zjc ?_
    rotate_left
    ·(intro U hSw;(try dsimp only at hSw);go_simp;first|done|with_reducible rfl)
    (try simp only[Act.put,ZA,ZB,ZC])
    refine tk 18 ⟨some 41,.extract (.tmp 23) 2,29, "check.go:34",#[⟨15,.data⟩,⟨23,.gcOnly .lateStores⟩],none⟩ ?_ rfl ?_ Zjc ?_
    rotate_left
    ·(intro U hSw;(try dsimp only at hSw);go_simp;first|done|with_reducible rfl)
    (try simp only[Act.put,ZA,ZB,ZC])
    refine tk 19 ⟨some 42,.extract (.tmp 23) 3,3, "check.go:34",#[⟨15,.data⟩,⟨24,.gcOnly .lateStores⟩],none⟩ ?_ rfl ?_ Zjc ?_
    rotate_left
    ·(intro U hSw;(try dsimp only at hSw);go_simp;first|done|with_reducible rfl)
    (try simp only[Act.put,ZA,ZB,ZC])
    refine tk 20 ⟨some 43,.extract (.tmp 23) 4,30, "check.go:34",#[⟨15,.data⟩,⟨25,.gcOnly .lateStores⟩],none⟩ ?_ rfl ?_ Zjc ?_
    rotate_left
    ·(intro U hSw;(try dsimp only at hSw);go_simp;first|done|with_reducible rfl)
    (try simp only[Act.put,ZA,ZB,ZC])
    refine wpAnyH_ready (rs:=[21]) (by kernel_rfl) (by simp) ?_
    refine AllReadyH.cons (o:=⟨some 3,.alloc 24,0, "check.go:34",#[],none⟩) rfl (fun KQ hK=>?_) AllReadyH.nil
    go_simp
    obtain⟨v3a,hw6⟩:∃ w6,w6=v3.alloc (.cells #[.slice none 0 0] 24):=⟨_,rfl⟩
    rw[←hw6]
    have hu:v3a.heap[v3.heap.size]? = some (.cells #[.slice none 0 0] 24 (0,0)):=by rw[hw6];exact Yo _ _ _
    have hul:w.heap.size≤v3.heap.size:=hb.size
    have hb:Below w.heap.size w v3a:=by rw[hw6];exact Zf hb (Zi _ _)
    clear hw6
    have u0:=Zd (X:=[.slice none 0 0]) hu 0 _ rfl
    have uf:=Zg hu 0
    have ul:=lt_of_block hu
    refine hK.out _ _ ((Za KS) _ hb) (fun Zjd=>?_)
    clear hK KQ Zjc
    have Zjc:=Zjd
    clear Zjd
    (try simp only[Act.put,ZA,ZB,ZC])
    generalize v3.heap.size=uz at hu hul u0 uf ul ⊢
    obtain⟨vz,hvz⟩:∃ z,z=v3a:=⟨_,rfl⟩
    subst hvz
    rotate_left
    go_simp
    obtain⟨v2a,hw6⟩:∃ w6,w6=v2.alloc (.cells #[.slice none 0 0] 24):=⟨_,rfl⟩
    rw[←hw6]
    have hu:v2a.heap[v2.heap.size]? = some (.cells #[.slice none 0 0] 24 (0,0)):=by rw[hw6];exact Yo _ _ _
    have hul:w.heap.size≤v2.heap.size:=hb.size
    have hb:Below w.heap.size w v2a:=by rw[hw6];exact Zf hb (Zi _ _)
    clear hw6
    have u0:=Zd (X:=[.slice none 0 0]) hu 0 _ rfl
    have uf:=Zg hu 0
    have ul:=lt_of_block hu
    refine hK.out _ _ ((Za KS) _ hb) (fun Zjd=>?_)
    clear hK KQ Zjc
    have Zjc:=Zjd
    clear Zjd
    (try simp only[Act.put,ZA,ZB,ZC])
    refine wpAnyH_ready (rs:=[14]) (by kernel_rfl) (by simp) ?_
    refine AllReadyH.cons (o:=⟨some 38,.call { callee:=Callee.value (.func 23),args:=#[.tmp 27,.tmp 29,.tmp 34,.tmp 37],argTypes:=#[24,29,37,3] },49, "check.go:34",#[⟨3,.data⟩,⟨5,.data⟩,⟨10,.data⟩,⟨13,.data⟩,⟨12,.chain⟩],none⟩) rfl (fun KQ hK=>?_) AllReadyH.nil
    refine Zl (by kernel_rfl) 23 #[.agg #[.slice ka kn kc],.slice ca cn cc,.slice pa pn pc,.int .i64 (z+1)] (by kernel_rfl) ((Za CS) v2a hb) ?_
    rintro e v4 ⟨k5,k5n,k5c,sa,sn,sc,oa,on,oc,rfl,hFn,-,-,-,hbn⟩
    refine⟨_,rfl,?_⟩
    have hu:=(hbn.block _ (lt_of_block hu)).trans hu
    have u0:=Zd (X:=[.slice none 0 0]) hu 0 _ rfl
    have uf:=Zg hu 0
    have ul:=lt_of_block hu
    have hb:=Zf hb hbn
    have hsn:sn=n1:=((hFn v4 (Gr.refl _ _)).2.1.1).symm.trans (Za HN1)
    refine hK.out _ _ ((Za KS) _ hb) (fun Zjd=>?_)
    clear hK KQ Zjc
    have Zjc:=Zjd
    clear Zjd
    (try simp only[Act.put,ZA,ZB,ZC])
    refine tk 15 ⟨some 23,.move (.tmp 38),49, "check.go:34",#[⟨14,.data⟩],none⟩ ?_ rfl ?_ Zjc ?_
    rotate_left
    ·(intro U hSw;(try dsimp only at hSw);go_simp;first|done|with_reducible rfl)
    (try simp only[Act.put,ZA,ZB,ZC])
    refine tk 16 ⟨some 39,.extract (.tmp 23) 0,24, "check.go:34",#[⟨15,.data⟩],none⟩ ?_ rfl ?_ Zjc ?_
    rotate_left
    ·(intro U hSw;(try dsimp only at hSw);go_simp;first|done|with_reducible rfl)
    (try simp only[Act.put,ZA,ZB,ZC])
    refine tk 17 ⟨some 40,.extract (.tmp 23) 1,37, "check.go:34",#[⟨15,.data⟩,⟨22,.gcOnly .lateStores⟩],none⟩ ?_ rfl ?_ Zjc ?_
    rotate_left
    ·(intro U hSw;(try dsimp only at hSw);go_simp;first|done|with_reducible rfl)
    (try simp only[Act.put,ZA,ZB,ZC])
    refine tk 18 ⟨some 41,.extract (.tmp 23) 2,29, "check.go:34",#[⟨15,.data⟩,⟨23,.gcOnly .lateStores⟩],none⟩ ?_ rfl ?_ Zjc ?_
    rotate_left
    ·(intro U hSw;(try dsimp only at hSw);go_simp;first|done|with_reducible rfl)
    (try simp only[Act.put,ZA,ZB,ZC])
    refine tk 19 ⟨some 42,.extract (.tmp 23) 3,3, "check.go:34",#[⟨15,.data⟩,⟨24,.gcOnly .lateStores⟩],none⟩ ?_ rfl ?_ Zjc ?_
    rotate_left
    ·(intro U hSw;(try dsimp only at hSw);go_simp;first|done|with_reducible rfl)
    (try simp only[Act.put,ZA,ZB,ZC])
    refine tk 20 ⟨some 43,.extract (.tmp 23) 4,30, "check.go:34",#[⟨15,.data⟩,⟨25,.gcOnly .lateStores⟩],none⟩ ?_ rfl ?_ Zjc ?_
    rotate_left
    ·(intro U hSw;(try dsimp only at hSw);go_simp;first|done|with_reducible rfl)
    (try simp only[Act.put,ZA,ZB,ZC])
    generalize v2.heap.size=uz at hu hul u0 uf ul ⊢
    obtain⟨vz,hvz⟩:∃ z,z=v4:=⟨_,rfl⟩
    subst hvz
    rotate_left
    go_simp
    obtain⟨v1a,hw6⟩:∃ w6,w6=v1.alloc (.cells #[.slice none 0 0] 24):=⟨_,rfl⟩
    rw[←hw6]
    have hu:v1a.heap[v1.heap.size]? = some (.cells #[.slice none 0 0] 24 (0,0)):=by rw[hw6];exact Yo _ _ _
    have hul:w.heap.size≤v1.heap.size:=hb.size
    have hb:Below w.heap.size w v1a:=by rw[hw6];exact Zf hb (Zi _ _)
    clear hw6
    have u0:=Zd (X:=[.slice none 0 0]) hu 0 _ rfl
    have uf:=Zg hu 0
    have ul:=lt_of_block hu
    refine hK.out _ _ ((Za KS) _ hb) (fun Zjd=>?_)
    clear hK KQ Zjc
    have Zjc:=Zjd
    clear Zjd
    (try simp only[Act.put,ZA,ZB,ZC])
    refine wpAnyH_ready (rs:=[12]) (by kernel_rfl) (by simp) ?_
    refine AllReadyH.cons (o:=⟨some 36,.call { callee:=Callee.value (.func 165),args:=#[.tmp 35],argTypes:=#[181] },3, "check.go:34",#[⟨11,.data⟩,⟨5,.chain⟩],none⟩) rfl (fun KQ hK=>?_) AllReadyH.nil
    refine Zl (by kernel_rfl) 165 #[.pointer (some ⟨d,0,none⟩)] (by kernel_rfl) ((Za CH) v1a hb) ?_
    rintro e v5 ⟨rfl,hbn⟩
    refine⟨_,rfl,?_⟩
    have hu:=(hbn.block _ (lt_of_block hu)).trans hu
    have u0:=Zd (X:=[.slice none 0 0]) hu 0 _ rfl
    have uf:=Zg hu 0
    have ul:=lt_of_block hu
    have hb:=Zf hb hbn
    refine hK.out _ _ ((Za KS) _ hb) (fun Zjd=>?_)
    clear hK KQ Zjc
    have Zjc:=Zjd
    clear Zjd
    (try simp only[Act.put,ZA,ZB,ZC])
    refine tk 13 ⟨some 37,.binOp BinOp.add 3 (.tmp 36) (.const (Value.int IntKind.i64 1)) 3,3, "check.go:34",#[⟨12,.data⟩],none⟩ (.int .i64 (z+1)) rfl ?_ Zjc ?_
    ·(intro U hSw;(try dsimp only at hSw);go_simp;first|done|with_reducible rfl)
    (try simp only[Act.put,ZA,ZB,ZC])
    refine wpAnyH_ready (rs:=[14]) (by kernel_rfl) (by simp) ?_
    refine AllReadyH.cons (o:=⟨some 38,.call { callee:=Callee.value (.func 23),args:=#[.tmp 27,.tmp 29,.tmp 34,.tmp 37],argTypes:=#[24,29,37,3] },49, "check.go:34",#[⟨3,.data⟩,⟨5,.data⟩,⟨10,.data⟩,⟨13,.data⟩,⟨12,.chain⟩],none⟩) rfl (fun KQ hK=>?_) AllReadyH.nil
    refine Zl (by kernel_rfl) 23 #[.agg #[.slice ka kn kc],.slice ca cn cc,.slice pa pn pc,.int .i64 (z+1)] (by kernel_rfl) ((Za CS) v5 hb) ?_
    rintro e v6 ⟨k5,k5n,k5c,sa,sn,sc,oa,on,oc,rfl,hFn,-,-,-,hbn⟩
    refine⟨_,rfl,?_⟩
    have hu:=(hbn.block _ (lt_of_block hu)).trans hu
    have u0:=Zd (X:=[.slice none 0 0]) hu 0 _ rfl
    have uf:=Zg hu 0
    have ul:=lt_of_block hu
    have hb:=Zf hb hbn
    have hsn:sn=n1:=((hFn v6 (Gr.refl _ _)).2.1.1).symm.trans (Za HN1)
    refine hK.out _ _ ((Za KS) _ hb) (fun Zjd=>?_)
    clear hK KQ Zjc
    have Zjc:=Zjd
    clear Zjd
    (try simp only[Act.put,ZA,ZB,ZC])
    refine tk 15 ⟨some 23,.move (.tmp 38),49, "check.go:34",#[⟨14,.data⟩],none⟩ ?_ rfl ?_ Zjc ?_
    rotate_left
    ·(intro U hSw;(try dsimp only at hSw);go_simp;first|done|with_reducible rfl)
    (try simp only[Act.put,ZA,ZB,ZC])
    refine tk 16 ⟨some 39,.extract (.tmp 23) 0,24, "check.go:34",#[⟨15,.data⟩],none⟩ ?_ rfl ?_ Zjc ?_
    rotate_left
    ·(intro U hSw;(try dsimp only at hSw);go_simp;first|done|with_reducible rfl)
    (try simp only[Act.put,ZA,ZB,ZC])
    refine tk 17 ⟨some 40,.extract (.tmp 23) 1,37, "check.go:34",#[⟨15,.data⟩,⟨22,.gcOnly .lateStores⟩],none⟩ ?_ rfl ?_ Zjc ?_
    rotate_left
    ·(intro U hSw;(try dsimp only at hSw);go_simp;first|done|with_reducible rfl)
    (try simp only[Act.put,ZA,ZB,ZC])
    refine tk 18 ⟨some 41,.extract (.tmp 23) 2,29, "check.go:34",#[⟨15,.data⟩,⟨23,.gcOnly .lateStores⟩],none⟩ ?_ rfl ?_ Zjc ?_
    rotate_left
    ·(intro U hSw;(try dsimp only at hSw);go_simp;first|done|with_reducible rfl)
    (try simp only[Act.put,ZA,ZB,ZC])
    refine tk 19 ⟨some 42,.extract (.tmp 23) 3,3, "check.go:34",#[⟨15,.data⟩,⟨24,.gcOnly .lateStores⟩],none⟩ ?_ rfl ?_ Zjc ?_
    rotate_left
    ·(intro U hSw;(try dsimp only at hSw);go_simp;first|done|with_reducible rfl)
    (try simp only[Act.put,ZA,ZB,ZC])
    refine tk 20 ⟨some 43,.extract (.tmp 23) 4,30, "check.go:34",#[⟨15,.data⟩,⟨25,.gcOnly .lateStores⟩],none⟩ ?_ rfl ?_ Zjc ?_
    rotate_left
    ·(intro U hSw;(try dsimp only at hSw);go_simp;first|done|with_reducible rfl)
    (try simp only[Act.put,ZA,ZB,ZC])
    generalize v1.heap.size=uz at hu hul u0 uf ul ⊢
    obtain⟨vz,hvz⟩:∃ z,z=v6:=⟨_,rfl⟩
    subst hvz
    rotate_left
    go_simp
    obtain⟨w1a,hw6⟩:∃ w6,w6=(w1.alloc (.cells #[.slice none 0 0] 24)).drew:=⟨_,rfl⟩
    rw[←hw6]
    have hu:w1a.heap[w1.heap.size]? = some (.cells #[.slice none 0 0] 24 (0,0)):=by rw[hw6];exact Yo _ _ _
    have hul:w.heap.size≤w1.heap.size:=(Za HB1).size
    have hb:Below w.heap.size w w1a:=by rw[hw6];exact Zf (Zf (Za HB1) (Zi _ _)) (Zj _)
    clear hw6
    have u0:=Zd (X:=[.slice none 0 0]) hu 0 _ rfl
    have uf:=Zg hu 0
    have ul:=lt_of_block hu
    refine hK.out _ _ ((Za KS) _ hb) (fun Zjd=>?_)
    clear hK KQ Zjc
    have Zjc:=Zjd
    clear Zjd
    (try simp only[Act.put,ZA,ZB,ZC])
    refine wpAnyH_ready (rs:=[5]) (by kernel_rfl) (by simp) ?_
    refine AllReadyH.cons (o:=⟨some 29,.call { callee:=Callee.value (.func 108),args:=#[.tmp 28],argTypes:=#[181] },29, "check.go:34",#[⟨4,.data⟩],none⟩) rfl (fun KQ hK=>?_) AllReadyH.nil
    refine Zl (by kernel_rfl) 108 #[.pointer (some ⟨d,0,none⟩)] (by kernel_rfl) ((Za CC) w1a hb) ?_
    rintro e v7 ⟨rfl,hbn⟩
    refine⟨_,rfl,?_⟩
    have hu:=(hbn.block _ (lt_of_block hu)).trans hu
    have u0:=Zd (X:=[.slice none 0 0]) hu 0 _ rfl
    have uf:=Zg hu 0
    have ul:=lt_of_block hu
    have hb:=Zf hb hbn
    refine hK.out _ _ ((Za KS) _ hb) (fun Zjd=>?_)
    clear hK KQ Zjc
    have Zjc:=Zjd
    clear Zjd
    (try simp only[Act.put,ZA,ZB,ZC])
    refine wpAnyH_ready (rs:=[12]) (by kernel_rfl) (by simp) ?_
    refine AllReadyH.cons (o:=⟨some 36,.call { callee:=Callee.value (.func 165),args:=#[.tmp 35],argTypes:=#[181] },3, "check.go:34",#[⟨11,.data⟩,⟨5,.chain⟩],none⟩) rfl (fun KQ hK=>?_) AllReadyH.nil
    refine Zl (by kernel_rfl) 165 #[.pointer (some ⟨d,0,none⟩)] (by kernel_rfl) ((Za CH) v7 hb) ?_
    rintro e v8 ⟨rfl,hbn⟩
    refine⟨_,rfl,?_⟩
    have hu:=(hbn.block _ (lt_of_block hu)).trans hu
    have u0:=Zd (X:=[.slice none 0 0]) hu 0 _ rfl
    have uf:=Zg hu 0
    have ul:=lt_of_block hu
    have hb:=Zf hb hbn
    refine hK.out _ _ ((Za KS) _ hb) (fun Zjd=>?_)
    clear hK KQ Zjc
    have Zjc:=Zjd
    clear Zjd
    (try simp only[Act.put,ZA,ZB,ZC])
    refine tk 13 ⟨some 37,.binOp BinOp.add 3 (.tmp 36) (.const (Value.int IntKind.i64 1)) 3,3, "check.go:34",#[⟨12,.data⟩],none⟩ (.int .i64 (z+1)) rfl ?_ Zjc ?_
    ·(intro U hSw;(try dsimp only at hSw);go_simp;first|done|with_reducible rfl)
    (try simp only[Act.put,ZA,ZB,ZC])
    refine wpAnyH_ready (rs:=[14]) (by kernel_rfl) (by simp) ?_
    refine AllReadyH.cons (o:=⟨some 38,.call { callee:=Callee.value (.func 23),args:=#[.tmp 27,.tmp 29,.tmp 34,.tmp 37],argTypes:=#[24,29,37,3] },49, "check.go:34",#[⟨3,.data⟩,⟨5,.data⟩,⟨10,.data⟩,⟨13,.data⟩,⟨12,.chain⟩],none⟩) rfl (fun KQ hK=>?_) AllReadyH.nil
    refine Zl (by kernel_rfl) 23 #[.agg #[.slice ka kn kc],.slice ca cn cc,.slice pa pn pc,.int .i64 (z+1)] (by kernel_rfl) ((Za CS) v8 hb) ?_
    rintro e v9 ⟨k5,k5n,k5c,sa,sn,sc,oa,on,oc,rfl,hFn,-,-,-,hbn⟩
    refine⟨_,rfl,?_⟩
    have hu:=(hbn.block _ (lt_of_block hu)).trans hu
    have u0:=Zd (X:=[.slice none 0 0]) hu 0 _ rfl
    have uf:=Zg hu 0
    have ul:=lt_of_block hu
    have hb:=Zf hb hbn
    have hsn:sn=n1:=((hFn v9 (Gr.refl _ _)).2.1.1).symm.trans (Za HN1)
    refine hK.out _ _ ((Za KS) _ hb) (fun Zjd=>?_)
    clear hK KQ Zjc
    have Zjc:=Zjd
    clear Zjd
    (try simp only[Act.put,ZA,ZB,ZC])
    refine tk 15 ⟨some 23,.move (.tmp 38),49, "check.go:34",#[⟨14,.data⟩],none⟩ ?_ rfl ?_ Zjc ?_
    rotate_left
    ·(intro U hSw;(try dsimp only at hSw);go_simp;first|done|with_reducible rfl)
    (try simp only[Act.put,ZA,ZB,ZC])
    refine tk 16 ⟨some 39,.extract (.tmp 23) 0,24, "check.go:34",#[⟨15,.data⟩],none⟩ ?_ rfl ?_ Zjc ?_
    rotate_left
    ·(intro U hSw;(try dsimp only at hSw);go_simp;first|done|with_reducible rfl)
    (try simp only[Act.put,ZA,ZB,ZC])
    refine tk 17 ⟨some 40,.extract (.tmp 23) 1,37, "check.go:34",#[⟨15,.data⟩,⟨22,.gcOnly .lateStores⟩],none⟩ ?_ rfl ?_ Zjc ?_
    rotate_left
    ·(intro U hSw;(try dsimp only at hSw);go_simp;first|done|with_reducible rfl)
    (try simp only[Act.put,ZA,ZB,ZC])
    refine tk 18 ⟨some 41,.extract (.tmp 23) 2,29, "check.go:34",#[⟨15,.data⟩,⟨23,.gcOnly .lateStores⟩],none⟩ ?_ rfl ?_ Zjc ?_
    rotate_left
    ·(intro U hSw;(try dsimp only at hSw);go_simp;first|done|with_reducible rfl)
    (try simp only[Act.put,ZA,ZB,ZC])
    refine tk 19 ⟨some 42,.extract (.tmp 23) 3,3, "check.go:34",#[⟨15,.data⟩,⟨24,.gcOnly .lateStores⟩],none⟩ ?_ rfl ?_ Zjc ?_
    rotate_left
    ·(intro U hSw;(try dsimp only at hSw);go_simp;first|done|with_reducible rfl)
    (try simp only[Act.put,ZA,ZB,ZC])
    refine tk 20 ⟨some 43,.extract (.tmp 23) 4,30, "check.go:34",#[⟨15,.data⟩,⟨25,.gcOnly .lateStores⟩],none⟩ ?_ rfl ?_ Zjc ?_
    rotate_left
    ·(intro U hSw;(try dsimp only at hSw);go_simp;first|done|with_reducible rfl)
    (try simp only[Act.put,ZA,ZB,ZC])
    generalize w1.heap.size=uz at hu hul u0 uf ul ⊢
    obtain⟨vz,hvz⟩:∃ z,z=v9:=⟨_,rfl⟩
    subst hvz
    rotate_left
    all_goals
     refine wpAnyH_ready (rs:=[22]) (by kernel_rfl) (by simp) ?_
     refine AllReadyH.cons (o:=⟨none,.store 24 (.tmp 3) (.tmp 39),0, "check.go:34",#[⟨21,.data⟩,⟨16,.data⟩,⟨14,.chain⟩,⟨0,.phase⟩,⟨1,.phase⟩,⟨2,.phase⟩,⟨3,.phase⟩,⟨4,.phase⟩,⟨5,.phase⟩,⟨6,.phase⟩,⟨7,.phase⟩,⟨8,.phase⟩,⟨9,.phase⟩,⟨10,.phase⟩,⟨11,.phase⟩,⟨12,.phase⟩,⟨13,.phase⟩,⟨14,.phase⟩,⟨15,.phase⟩,⟨16,.phase⟩,⟨17,.textOnly .lateStores⟩,⟨18,.textOnly .lateStores⟩,⟨19,.textOnly .lateStores⟩,⟨20,.textOnly .lateStores⟩,⟨21,.phase⟩],none⟩) rfl (fun KQ hK=>?_) AllReadyH.nil
     go_simp
     refine hK.out _ _ ((Za KS) _ (hb.setCell (p:=⟨uz,0,none⟩) hul _)) (fun Zjd=>?_)
     clear hK KQ Zjc
     have Zjc:=Zjd
     clear Zjd
     (try simp only[Act.put])
     refine tk 23 ⟨some 4,.assign (.tmp 40),37, "check.go:34",#[⟨17,.data⟩,⟨22,.chain⟩,⟨0,.phase⟩,⟨1,.phase⟩,⟨2,.phase⟩,⟨3,.phase⟩,⟨4,.phase⟩,⟨5,.phase⟩,⟨6,.phase⟩,⟨7,.phase⟩,⟨8,.phase⟩,⟨9,.phase⟩,⟨10,.phase⟩,⟨11,.phase⟩,⟨12,.phase⟩,⟨13,.phase⟩,⟨14,.phase⟩,⟨15,.phase⟩,⟨16,.phase⟩,⟨17,.phase⟩,⟨18,.textOnly .lateStores⟩,⟨19,.textOnly .lateStores⟩,⟨20,.textOnly .lateStores⟩,⟨21,.phase⟩,⟨22,.phase⟩],none⟩ ?_ rfl ?_ Zjc ?_
     rotate_left
     ·(intro U hSw;(try dsimp only at hSw);go_simp;first|done|with_reducible rfl)
     (try simp only[Act.put,ZA,ZB,ZC])
     refine tk 24 ⟨some 5,.assign (.tmp 41),29, "check.go:34",#[⟨18,.data⟩,⟨23,.chain⟩,⟨0,.phase⟩,⟨1,.phase⟩,⟨2,.phase⟩,⟨3,.phase⟩,⟨4,.phase⟩,⟨5,.phase⟩,⟨6,.phase⟩,⟨7,.phase⟩,⟨8,.phase⟩,⟨9,.phase⟩,⟨10,.phase⟩,⟨11,.phase⟩,⟨12,.phase⟩,⟨13,.phase⟩,⟨14,.phase⟩,⟨15,.phase⟩,⟨16,.phase⟩,⟨17,.phase⟩,⟨18,.phase⟩,⟨19,.textOnly .lateStores⟩,⟨20,.textOnly .lateStores⟩,⟨21,.phase⟩,⟨22,.phase⟩,⟨23,.phase⟩],none⟩ ?_ rfl ?_ Zjc ?_
     rotate_left
     ·(intro U hSw;(try dsimp only at hSw);go_simp;first|done|with_reducible rfl)
     (try simp only[Act.put,ZA,ZB,ZC])
     refine tk 25 ⟨some 6,.assign (.tmp 42),3, "check.go:34",#[⟨19,.data⟩,⟨24,.chain⟩,⟨0,.phase⟩,⟨1,.phase⟩,⟨2,.phase⟩,⟨3,.phase⟩,⟨4,.phase⟩,⟨5,.phase⟩,⟨6,.phase⟩,⟨7,.phase⟩,⟨8,.phase⟩,⟨9,.phase⟩,⟨10,.phase⟩,⟨11,.phase⟩,⟨12,.phase⟩,⟨13,.phase⟩,⟨14,.phase⟩,⟨15,.phase⟩,⟨16,.phase⟩,⟨17,.phase⟩,⟨18,.phase⟩,⟨19,.phase⟩,⟨20,.textOnly .lateStores⟩,⟨21,.phase⟩,⟨22,.phase⟩,⟨23,.phase⟩,⟨24,.phase⟩],none⟩ ?_ rfl ?_ Zjc ?_
     rotate_left
     ·(intro U hSw;(try dsimp only at hSw);go_simp;first|done|with_reducible rfl)
     (try simp only[Act.put,ZA,ZB,ZC])
     refine tk 26 ⟨some 7,.assign (.tmp 43),30, "check.go:34",#[⟨20,.data⟩,⟨25,.chain⟩,⟨0,.phase⟩,⟨1,.phase⟩,⟨2,.phase⟩,⟨3,.phase⟩,⟨4,.phase⟩,⟨5,.phase⟩,⟨6,.phase⟩,⟨7,.phase⟩,⟨8,.phase⟩,⟨9,.phase⟩,⟨10,.phase⟩,⟨11,.phase⟩,⟨12,.phase⟩,⟨13,.phase⟩,⟨14,.phase⟩,⟨15,.phase⟩,⟨16,.phase⟩,⟨17,.phase⟩,⟨18,.phase⟩,⟨19,.phase⟩,⟨20,.phase⟩,⟨21,.phase⟩,⟨22,.phase⟩,⟨23,.phase⟩,⟨24,.phase⟩,⟨25,.phase⟩],none⟩ ?_ rfl ?_ Zjc ?_
     rotate_left
     ·(intro U hSw;(try dsimp only at hSw);go_simp;first|done|with_reducible rfl)
     (try simp only[Act.put,ZA,ZB,ZC])
     refine wpAnyH_done (by kernel_rfl) ?_ _
     clear Zjc
     go_wp2_with fail
     go_meet
     case rel=>exact⟨rfl,⟨sa,sc,by first|rfl|rw[hsn]⟩,hb.setCell (p:=⟨uz,0,none⟩) hul _⟩
   case rest=>
    obtain⟨rfl,⟨ra,rc,rfl⟩,HB⟩:=hcut
    have d1:=(Za KS) wc (Za HB)
    have dd3:=d1.2.1
    have ddl:=d1.2.2
    clear d1 KS CC CH CS
    by_cases y0:y=0
    ·subst y0
     by_cases l0:n1<pn
     ·have gl:(n1:Int)<(pn:Int):=by omega
      have HXE:Hid (x=7):=by have q:=Za HX2;rw[if_neg (fun r=>r rfl),if_pos l0] at q;exact q.symm
      clear HX2
      go_wp2
      go_ret
      exact⟨by rw[Za HXE];rfl,Za HB⟩
     ·have gl:¬(n1:Int)<(pn:Int):=by omega
      have HXE:Hid (x=0):=by have q:=Za HX2;rw[if_neg (fun r=>r rfl),if_neg l0] at q;exact q.symm
      clear HX2
      go_wp2
      go_ret
      exact⟨by rw[Za HXE];rfl,Za HB⟩
    ·have gy:(y == 0)=false:=by simp[y0]
     have HXE:Hid (x=y):=by have q:=Za HX2;rw[if_pos y0] at q;exact q.symm
     clear HX2
     go_wp2
     go_ret
     exact⟨by rw[Za HXE];rfl,Za HB⟩
end
end Go.Proofs.YtmomfkikogbdeaaGreatDoor
