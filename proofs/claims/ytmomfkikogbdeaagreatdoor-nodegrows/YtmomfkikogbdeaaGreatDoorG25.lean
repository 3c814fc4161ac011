import Derived.Test.YtmomfkikogbdeaaGreatDoorG24
set_option maxHeartbeats 12800000
set_option maxRecDepth 10000
namespace Go.Proofs.YtmomfkikogbdeaaGreatDoor
open Go.RowKit
def DoR(w w':World)(p:Nat)(x:Int)(K:List ByteArray)(C:List Zh)(h f:Int)(e:Ending):Prop:=
 (x≠0∧e = .returned (.tuple #[.int .i64 0,.int .i64 x])∧Below w.heap.size w w') ∨
 (x=0∧e = .returned (.tuple #[.int .i64 f,.int .i64 0])∧Gr w w' (fun q=>q=p)∧DoT w' w.heap.size p K C h)
theorem DoR.err{w w':World}{p:Nat}{x y:Int}{K:List ByteArray}{C:List Zh}{h f:Int}(h0:y≠0)(hx:x=y)(hb:Below w.heap.size w w'):DoR w w' p x K C h f (.returned (.tuple #[.int .i64 0,.int .i64 y])):=by
 subst hx;exact .inl ⟨h0,rfl,hb⟩
def Zhm(V wx:World)(M:List Zh)(s9:Value):Prop:=
 ∃ am nm cm,s9 = .slice am nm cm∧Fresh V.heap.size wx (fun w2=>CoinsAt w2 am nm M)∧SlOk am nm cm∧Below V.heap.size V wx
theorem Fe{V W wx:World}{M:List Zh}{Z:Nat}{am:Option Addr}{nm cm:Nat}(hF:Fresh Z W (fun w2=>CoinsAt w2 am nm M))(hZ:V.heap.size≤Z)(hs:SlOk am nm cm)(hb:Below V.heap.size V W)(hg:Gr W wx (fun q=>q<Z∧V.heap.size≤q)):Zhm V wx M (.slice am nm cm):=
 ⟨am,nm,cm,rfl,fun w2 g2=>hF w2 ((hg.mono (fun _ _ q=>q.1)).trans (g2.mono (fun _ _ q=>Nat.lt_of_lt_of_le q hZ))),hs,hg.below hb hb.size (fun _ q=>q.2)⟩
theorem Zct(p:Nat)(K:List ByteArray)(C:List Zh)(h th:Int)(ai ao:Option Addr)(ni ci no co:Nat)(I:List InD)(O:List Z0)(x:Int)(K':List ByteArray)(C':List Zh)(w:World)(hE:Env w)(hT:Zet w p K C h)(hRC:Z6 C)(hI:InsAt w ai ni I)(hO:OutsAt w ao no O)(sI:SlOk ai ni ci)(hx:doD h (K,C) (th,I,O)=(x,K',C')) :
  Calls Tryz.prog 91 #[.pointer (some ⟨p,0,none⟩),.agg #[.int .i64 th,.slice ai ni ci,.slice ao no co]] w fun e w'=>DoR w w' p x K' C' h (Zo C - Zo C') e:=by
 obtain⟨ka,kn,kc,la,ln,lc,hp,hK,sK,hC,sC⟩:=hT
 obtain⟨X,hX⟩:∃ X,X=w.alloc (.cells #[.int .i64 th,.slice ai ni ci,.slice ao no co] 59):=⟨_,rfl⟩
 have hbX:Below w.heap.size w X:=by rw[hX];exact Zi _ _
 have hX0:X.heap[w.heap.size]? = some (.cells [.int .i64 th,.slice ai ni ci,.slice ao no co].toArray 59 (0,0)):=by rw[hX];exact Zu _ _ _ _ _
 have hni:I.length=ni:=hI.1
 obtain⟨x1,hx1⟩:∃ x1,Zx (th,I,O)=x1:=⟨_,rfl⟩
 obtain⟨T,hTx⟩:∃ T,txT (th,I,O)=T:=⟨_,rfl⟩
 obtain⟨⟨K1,nm,x2⟩,hx2⟩:∃ r,Bk.nameR K T=r:=⟨_,rfl⟩
 obtain⟨⟨x3,M,S⟩,hx3⟩:∃ r,apD C (th,I,O) nm h=r:=⟨_,rfl⟩
 unfold doD at hx
 simp only[hx1,hTx,hx2,hx3,hni] at hx
 have HBR:=Zb (fun V (hv:Below X.heap.size X V)=>(show V.heap[w.heap.size]? = some (.cells [.int .i64 th,.slice ai ni ci,.slice ao no co].toArray 59 (0,0)) from (hv.block _ (lt_of_block hX0)).trans hX0))
 have HPP:=Zb (fun V (hv:Below w.heap.size w V)=>(show V.heap[p]? = some (.cells [.slice ka kn kc,.slice la ln lc,.int .i64 h].toArray 162 (0,0)) from (hv.block _ (lt_of_block hp)).trans hp))
 have hpl:p<w.heap.size:=lt_of_block hp
 have C1:=Zb (P3 th ai ao ni ci no co I O T x1 X (hE.later hbX) (hI.later hbX) (hO.later hbX) sI hx1 hTx)
 have C2:=Zb (fun V (hv:Below w.heap.size w V)=>Bk.name_fresh ka kn kc K K1 T nm x2 V (hK.later hv) hx2)
 have C3:=Zb (fun V (hv:Below w.heap.size w V)=>Pi la ln lc C th ai ao ni ci no co I O nm h x3 M S V (hC.later hv) sC (hI.later hv) (hO.later hv) sI hx3)
 have hRM:Hid (x3=0→Z6 M∧Zo M≤1000000000∧0≤Zo M):=fun q=>by
  subst q
  have r:=(H9 hx3).2.1
  exact⟨r,r.sum,X4 M (fun c hc=>by have:=Yp (r.one c hc);omega)⟩
 obtain⟨s1,hs1⟩:∃ s,Zo C=s:=⟨_,rfl⟩
 have b1:s1≤1000000000:=by rw[←hs1];exact hRC.sum
 have b2:0≤s1:=by rw[←hs1];exact X4 C (fun c hc=>by have:=Yp (hRC.one c hc);omega)
 have C4:=Zb (fun V (hv:Below w.heap.size w V)=>Lh la ln lc C s1 V (hC.later hv) hRC hs1)
 have HX:=Zb hx
 have HBX:=Zb hbX
 have HS1:=Zb hs1
 have t0:=Zd hX0 0 _ rfl
 have t1:=Zd hX0 1 _ rfl
 have t2:=Zd hX0 2 _ rfl
 have tl:=lt_of_block hX0
 clear hE hK sK hC sC hI hO sI hx hx1 hTx hx2 hx3 hbX hX0 hp hRC hs1 hni
 go_enter Tryz.func91,Tryz.ntmps91
 go_wp2_with fail
 rw[←hX]
 clear hX
 (try go_wp2_with fail)
 refine (Za C1).mono ?_
 rintro e w1 ⟨rfl,hb1⟩
 have h10:=(Za HBR) _ hb1
 have t0:=Zd h10 0 _ rfl
 have t1:=Zd h10 1 _ rfl
 have t2:=Zd h10 2 _ rfl
 have tl:=lt_of_block h10
 have HB1:=Zb (Zf (Za HBX) hb1)
 have HB1X:=Zb hb1
 clear hb1 h10 C1
 by_cases e1:x1=0
 ·subst e1
  by_cases e2:ni=0
  ·subst e2
   have HXE:Hid (x=4):=by have:=Za HX;rw[if_neg (fun q=>q rfl),if_pos rfl] at this;injection this with this _;exact this.symm
   clear HX
   go_wp2
   go_ret2
   exact DoR.err (by decide) (Za HXE) (Za HB1)
  have gn:((ni:Int) == 0)=false:=by simp;omega
  have gn2:¬((ni:Int)=0):=by omega
  have p1:=(Za HPP) _ (Za HB1)
  have q0:=Zd p1 0 _ rfl
  have q1:=Zd p1 1 _ rfl
  have q2:=Zd p1 2 _ rfl
  have ql:=lt_of_block p1
  clear p1
  go_wp2_with fail
  refine ((Za C2) _ (Za HB1)).mono ?_
  rintro e w2 ⟨⟨ka',kn',kc',rfl,hF2,sK2⟩,hb2⟩
  have HB2:=Zb (Zf (Za HB1) hb2)
  have HF2:=Zb hF2
  have HSK2:=Zb sK2
  have hsz:w1.heap.size≤w2.heap.size:=hb2.size
  obtain⟨V,hV⟩:∃ V,V=w2.alloc (.cells #[.slice ka' kn' kc'] 24):=⟨_,rfl⟩
  have hbV:Below w2.heap.size w2 V:=by rw[hV];exact Zi _ _
  have hV0:V.heap[w2.heap.size]? = some (.cells [.slice ka' kn' kc'].toArray 24 (0,0)):=by rw[hV];exact Yo _ _ _
  have HBV:=Zb (Zf (Za HB2) hbV)
  have HB2V:=Zb hbV
  have HV0:=Zb hV0
  have H1V:=Zb (Zf (Za HB1X) (Zf hb2 hbV))
  clear hb2 hF2 sK2 hbV hV0 q0 q1 q2 ql t0 t1 t2 tl
  have t20:=Zd ((Za HBR) _ (Za H1V)) 0 _ rfl
  have t21:=Zd ((Za HBR) _ (Za H1V)) 1 _ rfl
  have t22:=Zd ((Za HBR) _ (Za H1V)) 2 _ rfl
  have t2l:=lt_of_block ((Za HBR) _ (Za H1V))
  have q20:=Zd ((Za HPP) _ (Za HBV)) 0 _ rfl
  have q21:=Zd ((Za HPP) _ (Za HBV)) 1 _ rfl
  have q22:=Zd ((Za HPP) _ (Za HBV)) 2 _ rfl
  have q2l:=lt_of_block ((Za HPP) _ (Za HBV))
  by_cases e3:x2=0
  ·subst e3
   go_upto_region 9 with fail
   rw[←hV]
   clear hV
   have HVD:=Zb (Zf (Za HBV) (Zj V))
   have HVA:=Zb (Zf (Zf (Za HBV) (Zi V (.cells #[.slice none 0 0] 153))) (Zj _))
   have v0:(V.alloc (.cells #[.slice none 0 0] 153)).drew.heap[V.heap.size]? = some (.cells #[.slice none 0 0] 153 (0,0)):=Yo V (.slice none 0 0) 153
   have HV1:=Zb v0
   clear v0
   have KS:Hid (∀ U:World,Below V.heap.size V U→((U.cell? ⟨p,1,none⟩=some (.slice la ln lc)∧U.cell? ⟨p,2,none⟩=some (.int .i64 h)∧p<U.heap.size)∧U.cell? ⟨w.heap.size,0,none⟩=some (.int .i64 th)∧U.cell? ⟨w.heap.size,1,none⟩=some (.slice ai ni ci)∧U.cell? ⟨w.heap.size,2,none⟩=some (.slice ao no co)∧w.heap.size<U.heap.size)):=fun U hu=>⟨⟨Ze hu q21,Ze hu q22,Nat.lt_of_lt_of_le q2l hu.size⟩,Ze hu t20,Ze hu t21,Ze hu t22,Nat.lt_of_lt_of_le t2l hu.size⟩
   go_cut [5,9,10] from 36 to 50 (fun s5 s9 s10 wx=>s5 = .int .i64 x3∧Hid (Zhm V wx M s9))
   case first=>
    refine wp_region_held_drew (S:=fun U=>(U.cell? ⟨p,1,none⟩=some (.slice la ln lc)∧U.cell? ⟨p,2,none⟩=some (.int .i64 h)∧p<U.heap.size)∧U.cell? ⟨w.heap.size,0,none⟩=some (.int .i64 th)∧U.cell? ⟨w.heap.size,1,none⟩=some (.slice ai ni ci)∧U.cell? ⟨w.heap.size,2,none⟩=some (.slice ao no co)∧w.heap.size<U.heap.size) (by kernel_rfl) ((Za KS) _ (Zj _)) (fun Zjc=>?_)
    refine tk 0 ⟨some 37,.move (.tmp 0),157, "till.go:47",#[],none⟩ ?_ rfl ?_ Zjc ?_
    rotate_left
    ·(intro U hSw;obtain⟨⟨s1,s2,s3⟩,s4,s5,s6,s7⟩:=hSw;go_simp;first|done|with_reducible rfl)
    (try simp only[Act.put,ZA,ZB,ZC])
    refine tk 1 ⟨some 38,.nilCheck (.tmp 37),0, "till.go:47",#[⟨0,.data⟩],none⟩ ?_ rfl ?_ Zjc ?_
    rotate_left
    ·(intro U hSw;obtain⟨⟨s1,s2,s3⟩,s4,s5,s6,s7⟩:=hSw;go_simp;first|done|with_reducible rfl)
    (try simp only[Act.put,ZA,ZB,ZC])
    refine tk 2 ⟨some 39,.fieldAddr 162 (.tmp 38) 1,0, "till.go:47",#[⟨1,.data⟩],none⟩ ?_ rfl ?_ Zjc ?_
    rotate_left
    ·(intro U hSw;obtain⟨⟨s1,s2,s3⟩,s4,s5,s6,s7⟩:=hSw;go_simp;first|done|with_reducible rfl)
    (try simp only[Act.put,ZA,ZB,ZC])
    refine tk 3 ⟨some 40,.load 29 (.tmp 39),29, "till.go:47",#[⟨2,.data⟩],none⟩ ?_ rfl ?_ Zjc ?_
    rotate_left
    ·(intro U hSw;obtain⟨⟨s1,s2,s3⟩,s4,s5,s6,s7⟩:=hSw;go_simp;first|done|with_reducible rfl)
    (try simp only[Act.put,ZA,ZB,ZC])
    refine tk 4 ⟨some 41,.load 59 (.tmp 3),59, "till.go:47",#[],none⟩ ?_ rfl ?_ Zjc ?_
    rotate_left
    ·(intro U hSw;obtain⟨⟨s1,s2,s3⟩,s4,s5,s6,s7⟩:=hSw;go_simp;first|done|with_reducible rfl)
    (try simp only[Act.put,ZA,ZB,ZC])
    refine tk 5 ⟨some 42,.move (.tmp 8),3, "till.go:47",#[],none⟩ ?_ rfl ?_ Zjc ?_
    rotate_left
    ·(intro U hSw;obtain⟨⟨s1,s2,s3⟩,s4,s5,s6,s7⟩:=hSw;go_simp;first|done|with_reducible rfl)
    (try simp only[Act.put,ZA,ZB,ZC])
    refine tk 6 ⟨some 43,.move (.tmp 0),157, "till.go:47",#[],none⟩ ?_ rfl ?_ Zjc ?_
    rotate_left
    ·(intro U hSw;obtain⟨⟨s1,s2,s3⟩,s4,s5,s6,s7⟩:=hSw;go_simp;first|done|with_reducible rfl)
    (try simp only[Act.put,ZA,ZB,ZC])
    refine tk 7 ⟨some 44,.nilCheck (.tmp 43),0, "till.go:47",#[⟨6,.data⟩],none⟩ ?_ rfl ?_ Zjc ?_
    rotate_left
    ·(intro U hSw;obtain⟨⟨s1,s2,s3⟩,s4,s5,s6,s7⟩:=hSw;go_simp;first|done|with_reducible rfl)
    (try simp only[Act.put,ZA,ZB,ZC])
    refine tk 8 ⟨some 45,.fieldAddr 162 (.tmp 44) 2,0, "till.go:47",#[⟨7,.data⟩],none⟩ ?_ rfl ?_ Zjc ?_
    rotate_left
    ·(intro U hSw;obtain⟨⟨s1,s2,s3⟩,s4,s5,s6,s7⟩:=hSw;go_simp;first|done|with_reducible rfl)
    (try simp only[Act.put,ZA,ZB,ZC])
    refine tk 9 ⟨some 46,.load 3 (.tmp 45),3, "till.go:47",#[⟨8,.data⟩],none⟩ ?_ rfl ?_ Zjc ?_
    rotate_left
    ·(intro U hSw;obtain⟨⟨s1,s2,s3⟩,s4,s5,s6,s7⟩:=hSw;go_simp;first|done|with_reducible rfl)
    (try simp only[Act.put,ZA,ZB,ZC])
    refine wpAnyH_ready (rs:=[10,15]) (by kernel_rfl) (by simp) ?_
    refine AllReadyH.cons (o:=⟨some 47,.call { callee:=Callee.value (.func 76),args:=#[.tmp 40,.tmp 41,.tmp 42,.tmp 46],argTypes:=#[29,59,3,3] },154, "till.go:47",#[⟨3,.data⟩,⟨4,.data⟩,⟨5,.data⟩,⟨9,.data⟩],none⟩) rfl (fun KQ hK=>?_) (AllReadyH.cons (o:=⟨some 10,.alloc 153,0, "till.go:47",#[],none⟩) rfl (fun KQ hK=>?_) AllReadyH.nil)
    ·refine Zl (by kernel_rfl) 76 #[.slice la ln lc,.agg #[.int .i64 th,.slice ai ni ci,.slice ao no co],.int .i64 nm,.int .i64 h] (by kernel_rfl) ((Za C3) V.drew (Za HVD)) ?_
     rintro e w5 ⟨am,nm5,cm,sa,ns,cs,rfl,hF5,sM5,-,-,hb5⟩
     refine⟨_,rfl,?_⟩
     have hb:Below V.heap.size V w5:=Zf (Zj V) hb5
     refine hK.out _ _ ((Za KS) _ hb) (fun Zjd=>?_)
     clear hK KQ Zjc
     have Zjc:=Zjd
     clear Zjd
     (try simp only[Act.put,ZA,ZB,ZC])
     refine tk 11 ⟨some 36,.move (.tmp 47),154, "till.go:47",#[⟨10,.data⟩],none⟩ ?_ rfl ?_ Zjc ?_
     rotate_left
     ·(intro U hSw;(try dsimp only at hSw);go_simp;first|done|with_reducible rfl)
     (try simp only[Act.put,ZA,ZB,ZC])
     refine tk 12 ⟨some 48,.extract (.tmp 36) 0,29, "till.go:47",#[⟨11,.data⟩],none⟩ ?_ rfl ?_ Zjc ?_
     rotate_left
     ·(intro U hSw;(try dsimp only at hSw);go_simp;first|done|with_reducible rfl)
     (try simp only[Act.put,ZA,ZB,ZC])
     refine tk 13 ⟨some 49,.extract (.tmp 36) 1,153, "till.go:47",#[⟨11,.data⟩,⟨16,.gcOnly .lateStores⟩],none⟩ ?_ rfl ?_ Zjc ?_
     rotate_left
     ·(intro U hSw;(try dsimp only at hSw);go_simp;first|done|with_reducible rfl)
     (try simp only[Act.put,ZA,ZB,ZC])
     refine tk 14 ⟨some 50,.extract (.tmp 36) 2,30, "till.go:47",#[⟨11,.data⟩,⟨17,.gcOnly .lateStores⟩],none⟩ ?_ rfl ?_ Zjc ?_
     rotate_left
     ·(intro U hSw;(try dsimp only at hSw);go_simp;first|done|with_reducible rfl)
     (try simp only[Act.put,ZA,ZB,ZC])
     refine wpAnyH_ready (rs:=[15]) (by kernel_rfl) (by simp) ?_
     refine AllReadyH.cons (o:=⟨some 10,.alloc 153,0, "till.go:47",#[],none⟩) rfl (fun KQ hK=>?_) AllReadyH.nil
     go_simp
     refine hK.out _ _ ((Za KS) _ (Zf hb (Zi _ _))) (fun Zjd=>?_)
     clear hK KQ Zjc
     have Zjc:=Zjd
     clear Zjd
     (try simp only[Act.put,ZA,ZB,ZC])
     refine tk 16 ⟨some 9,.assign (.tmp 48),29, "till.go:47",#[⟨12,.data⟩,⟨10,.chain⟩,⟨0,.phase⟩,⟨1,.phase⟩,⟨2,.phase⟩,⟨3,.phase⟩,⟨4,.phase⟩,⟨5,.phase⟩,⟨6,.phase⟩,⟨7,.phase⟩,⟨8,.phase⟩,⟨9,.phase⟩,⟨10,.phase⟩,⟨11,.phase⟩,⟨12,.phase⟩,⟨13,.textOnly .lateStores⟩,⟨14,.textOnly .lateStores⟩,⟨15,.phase⟩],none⟩ ?_ rfl ?_ Zjc ?_
     rotate_left
     ·(intro U hSw;(try dsimp only at hSw);go_simp;first|done|with_reducible rfl)
     (try simp only[Act.put,ZA,ZB,ZC])
     refine wpAnyH_ready (rs:=[17]) (by kernel_rfl) (by simp) ?_
     refine AllReadyH.cons (o:=⟨none,.store 153 (.tmp 10) (.tmp 49),0, "till.go:47",#[⟨15,.data⟩,⟨13,.data⟩,⟨16,.chain⟩,⟨0,.phase⟩,⟨1,.phase⟩,⟨2,.phase⟩,⟨3,.phase⟩,⟨4,.phase⟩,⟨5,.phase⟩,⟨6,.phase⟩,⟨7,.phase⟩,⟨8,.phase⟩,⟨9,.phase⟩,⟨10,.phase⟩,⟨11,.phase⟩,⟨12,.phase⟩,⟨13,.phase⟩,⟨14,.textOnly .lateStores⟩,⟨15,.phase⟩,⟨16,.phase⟩],none⟩) rfl (fun KQ hK=>?_) AllReadyH.nil
     go_simp
     refine hK.out _ _ ((Za KS) _ (Zf hb (Zi _ _))) (fun Zjd=>?_)
     clear hK KQ Zjc
     have Zjc:=Zjd
     clear Zjd
     (try simp only[Act.put])
     refine tk 18 ⟨some 5,.assign (.tmp 50),30, "till.go:47",#[⟨14,.data⟩,⟨17,.chain⟩,⟨0,.phase⟩,⟨1,.phase⟩,⟨2,.phase⟩,⟨3,.phase⟩,⟨4,.phase⟩,⟨5,.phase⟩,⟨6,.phase⟩,⟨7,.phase⟩,⟨8,.phase⟩,⟨9,.phase⟩,⟨10,.phase⟩,⟨11,.phase⟩,⟨12,.phase⟩,⟨13,.phase⟩,⟨14,.phase⟩,⟨15,.phase⟩,⟨16,.phase⟩,⟨17,.phase⟩],none⟩ ?_ rfl ?_ Zjc ?_
     rotate_left
     ·(intro U hSw;(try dsimp only at hSw);go_simp;first|done|with_reducible rfl)
     (try simp only[Act.put,ZA,ZB,ZC])
     refine wpAnyH_done (by kernel_rfl) ?_ _
     clear Zjc
     go_wp2_with fail
     go_meet
     case rel=>exact⟨rfl,Fe hF5 (Nat.le_refl _) sM5 hb (Gr.of (Zi _ _))⟩
    ·go_simp
     obtain⟨v6,hv6⟩:∃ v6,v6=(V.alloc (.cells #[.slice none 0 0] 153)).drew:=⟨_,rfl⟩
     have h6:=Za HV1
     have hbA:=Za HVA
     rw[←hv6] at h6 hbA
     rw[←hv6]
     have hb6:Below V.heap.size V v6:=by rw[hv6];exact Zf (Zi _ _) (Zj _)
     have hv6s:v6.heap.size=V.heap.size+1:=by rw[hv6];simp
     refine hK.out _ _ ((Za KS) _ hb6) (fun Zjd=>?_)
     clear hK KQ Zjc
     have Zjc:=Zjd
     clear Zjd
     (try simp only[Act.put,ZA,ZB,ZC])
     refine wpAnyH_ready (rs:=[10]) (by kernel_rfl) (by simp) ?_
     refine AllReadyH.cons (o:=⟨some 47,.call { callee:=Callee.value (.func 76),args:=#[.tmp 40,.tmp 41,.tmp 42,.tmp 46],argTypes:=#[29,59,3,3] },154, "till.go:47",#[⟨3,.data⟩,⟨4,.data⟩,⟨5,.data⟩,⟨9,.data⟩],none⟩) rfl (fun KQ hK=>?_) AllReadyH.nil
     refine Zl (by kernel_rfl) 76 #[.slice la ln lc,.agg #[.int .i64 th,.slice ai ni ci,.slice ao no co],.int .i64 nm,.int .i64 h] (by kernel_rfl) ((Za C3) v6 hbA) ?_
     rintro e w5 ⟨am,nm5,cm,sa,ns,cs,rfl,hF5,sM5,-,-,hb5⟩
     refine⟨_,rfl,?_⟩
     have hb:Below V.heap.size V w5:=Zf hb6 hb5
     have h5:=(hb5.block _ (lt_of_block h6)).trans h6
     have u50:=Zd (X:=[.slice none 0 0]) h5 0 _ rfl
     have u5f:=Zg h5 0
     have u5l:=lt_of_block h5
     refine hK.out _ _ ((Za KS) _ hb) (fun Zjd=>?_)
     clear hK KQ Zjc
     have Zjc:=Zjd
     clear Zjd
     (try simp only[Act.put,ZA,ZB,ZC])
     refine tk 11 ⟨some 36,.move (.tmp 47),154, "till.go:47",#[⟨10,.data⟩],none⟩ ?_ rfl ?_ Zjc ?_
     rotate_left
     ·(intro U hSw;(try dsimp only at hSw);go_simp;first|done|with_reducible rfl)
     (try simp only[Act.put,ZA,ZB,ZC])
     refine tk 12 ⟨some 48,.extract (.tmp 36) 0,29, "till.go:47",#[⟨11,.data⟩],none⟩ ?_ rfl ?_ Zjc ?_
     rotate_left
     ·(intro U hSw;(try dsimp only at hSw);go_simp;first|done|with_reducible rfl)
     (try simp only[Act.put,ZA,ZB,ZC])
     refine tk 13 ⟨some 49,.extract (.tmp 36) 1,153, "till.go:47",#[⟨11,.data⟩,⟨16,.gcOnly .lateStores⟩],none⟩ ?_ rfl ?_ Zjc ?_
     rotate_left
     ·(intro U hSw;(try dsimp only at hSw);go_simp;first|done|with_reducible rfl)
     (try simp only[Act.put,ZA,ZB,ZC])
     refine tk 14 ⟨some 50,.extract (.tmp 36) 2,30, "till.go:47",#[⟨11,.data⟩,⟨17,.gcOnly .lateStores⟩],none⟩ ?_ rfl ?_ Zjc ?_
     rotate_left
     ·(intro U hSw;(try dsimp only at hSw);go_simp;first|done|with_reducible rfl)
     (try simp only[Act.put,ZA,ZB,ZC])
     refine tk 16 ⟨some 9,.assign (.tmp 48),29, "till.go:47",#[⟨12,.data⟩,⟨10,.chain⟩,⟨0,.phase⟩,⟨1,.phase⟩,⟨2,.phase⟩,⟨3,.phase⟩,⟨4,.phase⟩,⟨5,.phase⟩,⟨6,.phase⟩,⟨7,.phase⟩,⟨8,.phase⟩,⟨9,.phase⟩,⟨10,.phase⟩,⟨11,.phase⟩,⟨12,.phase⟩,⟨13,.textOnly .lateStores⟩,⟨14,.textOnly .lateStores⟩,⟨15,.phase⟩],none⟩ ?_ rfl ?_ Zjc ?_
     rotate_left
     ·(intro U hSw;(try dsimp only at hSw);go_simp;first|done|with_reducible rfl)
     (try simp only[Act.put,ZA,ZB,ZC])
     refine wpAnyH_ready (rs:=[17]) (by kernel_rfl) (by simp) ?_
     refine AllReadyH.cons (o:=⟨none,.store 153 (.tmp 10) (.tmp 49),0, "till.go:47",#[⟨15,.data⟩,⟨13,.data⟩,⟨16,.chain⟩,⟨0,.phase⟩,⟨1,.phase⟩,⟨2,.phase⟩,⟨3,.phase⟩,⟨4,.phase⟩,⟨5,.phase⟩,⟨6,.phase⟩,⟨7,.phase⟩,⟨8,.phase⟩,⟨9,.phase⟩,⟨10,.phase⟩,⟨11,.phase⟩,⟨12,.phase⟩,⟨13,.phase⟩,⟨14,.textOnly .lateStores⟩,⟨15,.phase⟩,⟨16,.phase⟩],none⟩) rfl (fun KQ hK=>?_) AllReadyH.nil
     go_simp
     refine hK.out _ _ ((Za KS) _ (hb.setCell (p:=⟨V.heap.size,0,none⟩) (Nat.le_refl _) _)) (fun Zjd=>?_)
     clear hK KQ Zjc
     have Zjc:=Zjd
     clear Zjd
     (try simp only[Act.put])
     refine tk 18 ⟨some 5,.assign (.tmp 50),30, "till.go:47",#[⟨14,.data⟩,⟨17,.chain⟩,⟨0,.phase⟩,⟨1,.phase⟩,⟨2,.phase⟩,⟨3,.phase⟩,⟨4,.phase⟩,⟨5,.phase⟩,⟨6,.phase⟩,⟨7,.phase⟩,⟨8,.phase⟩,⟨9,.phase⟩,⟨10,.phase⟩,⟨11,.phase⟩,⟨12,.phase⟩,⟨13,.phase⟩,⟨14,.phase⟩,⟨15,.phase⟩,⟨16,.phase⟩,⟨17,.phase⟩],none⟩ ?_ rfl ?_ Zjc ?_
     rotate_left
     ·(intro U hSw;(try dsimp only at hSw);go_simp;first|done|with_reducible rfl)
     (try simp only[Act.put,ZA,ZB,ZC])
     refine wpAnyH_done (by kernel_rfl) ?_ _
     clear Zjc
     go_wp2_with fail
     go_meet
     case rel=>exact⟨rfl,Fe hF5 (by omega) sM5 hb ((Gr.refl w5 _).one V.heap.size 0 (.inl ⟨by omega,Nat.le_refl _⟩) _)⟩
   case rest=>
    obtain⟨rfl,hc⟩:=hcut
    obtain⟨am,nm5,cm,rfl,hF5,sM5,hb5⟩:=Za hc
    have hbw:=Zf (Za HBV) hb5
    have HBC:=Zb hbw
    have HB5:=Zb hb5
    have HF5:=Zb hF5
    have HSM5:=Zb sM5
    have p5:=(Za HPP) _ hbw
    have q50:=Zd p5 0 _ rfl
    have q51:=Zd p5 1 _ rfl
    have q52:=Zd p5 2 _ rfl
    have q5l:=lt_of_block p5
    have CM:=Zb (fun U (hu:Below wc.heap.size wc U) (h0:x3=0) s2 (hs:Zo M=s2)=>Lh am nm5 cm M s2 U ((hF5 wc (Gr.refl _ _)).later hu) ((Za hRM) h0).1 hs)
    clear hc hF5 sM5 hb5 hbw p5 t20 t21 t22 t2l q20 q21 q22 q2l KS HVD HVA HV1 C3
    by_cases e4:x3=0
    ·obtain⟨hRM1,hRM2,hRM3⟩:=(Za hRM) e4
     obtain⟨s2,hs2⟩:∃ s2,Zo M=s2:=⟨_,rfl⟩
     rw[hs2] at hRM2 hRM3
     have CM2:=Zb (fun U hu=>(Za CM) U hu e4 s2 hs2)
     have HS2:=Zb hs2
     have HXE:Hid (x=0∧K'=K1∧C'=M):=by have:=Za HX;rw[if_neg (fun q=>q rfl),if_neg e2,if_neg (fun q=>q rfl),if_neg (fun q=>q e4)] at this;injection this with h1 h2;injection h2 with h2 h3;exact⟨h1.symm,h2.symm,h3.symm⟩
     subst e4
     clear hs2 CM HX hRM hRM1
     have C5:=Zb ((Za C4) wc (Za HBC))
     go_wp2_with fail
     refine (Za C5).mono ?_
     rintro e w6 ⟨rfl,hb6⟩
     have C6:=Zb ((Za CM2) w6 hb6)
     have HB6:=Zb hb6
     clear hb6 C5 C4
     go_wp2_with fail
     refine (Za C6).mono ?_
     rintro e w7 ⟨rfl,hb7⟩
     have hb57:=Zf (Za HB6) hb7
     have hbw7:=Zf (Za HBC) hb57
     have p7:=(Za HPP) _ hbw7
     have q70:=Zd p7 0 _ rfl
     have q71:=Zd p7 1 _ rfl
     have q7f0:=Zg p7 0
     have q7f1:=Zg p7 1
     have q7l:=lt_of_block p7
     have k7:=((Zf (Za HB5) hb57).block _ (lt_of_block (Za HV0))).trans (Za HV0)
     have k70:=Zd k7 0 _ rfl
     have k7l:=lt_of_block k7
     have hpk:p≠w2.heap.size:=by have:=(Za HB2).size;omega
     have hpk2:w2.heap.size≠p:=fun q=>hpk q.symm
     have G7:Gr w7 ((w7.setCell ⟨p,0,none⟩ (.slice ka' kn' kc')).setCell ⟨p,1,none⟩ (.slice am nm5 cm)) (fun q=>q=p):=((Gr.refl w7 (fun q=>q=p)).one p 0 (.inl rfl) _).one p 1 (.inl rfl) _
     have HFIN:Hid (DoR w ((w7.setCell ⟨p,0,none⟩ (.slice ka' kn' kc')).setCell ⟨p,1,none⟩ (.slice am nm5 cm)) p x K' C' h (Zo C - Zo C') (.returned (.tuple #[.int .i64 (s1 - s2),.int .i64 0]))):=by
      obtain⟨rfl,rfl,rfl⟩:=Za HXE
      rw[Za HS1,Za HS2]
      refine .inr ⟨rfl,rfl,(Gr.of hbw7).trans G7,ka',kn',kc',am,nm5,cm,Tr.set_cells (Tr.set_cells p7 0 _) 1 _,fun W g2=>⟨(Za HF2) W ?_,(Za HF5) W ?_⟩,Za HSK2,Za HSM5⟩
      ·exact ((Gr.of (Zf (Za HB2V) (Zf (Za HB5) hb57))).trans (G7.mono (fun q _ e=>by rw[e];exact Nat.lt_of_lt_of_le hpl (Za HB1).size))).trans (g2.mono (fun q _ e=>Nat.lt_of_lt_of_le e (Za HB1).size))
      ·exact ((Gr.of hb57).trans (G7.mono (fun q _ e=>by rw[e];exact Nat.lt_of_lt_of_le hpl (Za HBV).size))).trans (g2.mono (fun q _ e=>Nat.lt_of_lt_of_le e (Za HBV).size))
     clear G7 hb57 hbw7 p7 k7 hb7 C6 CM2
     go_wp2
     go_ret2
     exact Za HFIN
    ·have gx3:(x3 != 0)=true:=by simp[e4]
     have HXE:Hid (x=x3):=by have:=Za HX;rw[if_neg (fun q=>q rfl),if_neg e2,if_neg (fun q=>q rfl),if_pos e4] at this;injection this with this _;exact this.symm
     clear HX CM
     go_wp2
     go_ret2
     exact DoR.err e4 (Za HXE) (Za HBC)
  ·have gx2:(x2 != 0)=true:=by simp[e3]
   have HXE:Hid (x=x2):=by have:=Za HX;rw[if_neg (fun q=>q rfl),if_neg e2,if_pos e3] at this;injection this with this _;exact this.symm
   clear HX
   go_wp2
   rw[←hV]
   go_ret2
   exact DoR.err e3 (Za HXE) (Za HBV)
 ·have gx1:(x1 != 0)=true:=by simp[e1]
  have HXE:Hid (x=x1):=by have:=Za HX;rw[if_pos e1] at this;injection this with this _;exact this.symm
  clear HX
  go_wp2
  go_ret2
  exact DoR.err e1 (Za HXE) (Za HB1)
end Go.Proofs.YtmomfkikogbdeaaGreatDoor
namespace Go.Proofs.YtmomfkikogbdeaaGreatDoor.Tr
open Go.RowKit
theorem Vq{w:World}{B B':Nat}{e e':TypeId}{sz sz' n n':Nat}{v v':Value}{xs xs':List Value}(h:w.ownsRow B e sz v n xs)(h':w.ownsRow B' e' sz' v' n' xs')(hn:e≠e')(q:Nat)(hq:v.ownBlock=some q):v'.ownBlock≠some q:=by
 intro hq'
 obtain⟨c,f,h1⟩:=Lib.ownsRow_kind h q hq
 obtain⟨c',f',h2⟩:=Lib.ownsRow_kind h' q hq'
 rw[h1] at h2
 injection h2 with h2
 injection h2 with _ h2
 exact hn h2
theorem Zgi{G B w0s:Nat}{w0 wr w5:World}{g cap n k:Nat}{K:List (List Value)}{I:List InD}{x:InD}{a a5:Option Addr}{m c c5:Nat}(h:Cl inR 119 B G w0 wr (.slice (some ⟨g,0,none⟩) n cap) n K I k)(hk:k<I.length)(hkK:k<K.length)(hx:I[k]=x)(e:K[k]=[.int .i64 x.1,.int .i64 x.2.1,.slice a m c])(hb:Below wr.heap.size wr w5)(hf:Fresh w0s w5 (fun w2=>OpsAt w2 a5 m x.2.2∧SlOk a5 m c5))(hG:G≤w0s) :
  Cl inR 119 B G w0 (w5.setCell ⟨g,k*3+2,none⟩ (.slice a5 m c5)) (.slice (some ⟨g,0,none⟩) n cap) n (K.set k [.int .i64 x.1,.int .i64 x.2.1,.slice a5 m c5]) I (k+1):=by
 have h5:=h.keep hb
 refine h5.step hk ?_ ((Gr.refl w5 (fun q=>q=g)).one g (k*3+2) (.inl rfl) _) ?_
 ·rw[hx]
  exact (hf.less hG).imp fun w2 q=>⟨a5,m,c5,rfl,q.1,q.2⟩
 ·have h1:=(h5.own.stored (k*3+2) (.slice a5 m c5)).1
  have h2:=Y9 (sz:=3) h5.wid k hkK 2 (by decide) (.slice a5 m c5)
  rw[e] at h2
  rw[h2] at h1
  exact h1
theorem Zcw{G B w0s:Nat}{w0 wr w5:World}{g cap n k:Nat}{K:List (List Value)}{O:List Z0}{x:Z0}{a5:Option Addr}{m c5:Nat}(h:Cl outR 122 B G w0 wr (.slice (some ⟨g,0,none⟩) n cap) n K O k)(hk:k<O.length)(hkK:k<K.length)(hx:O[k]=x)(hb:Below wr.heap.size wr w5)(hf:Fresh w0s w5 (fun w2=>OpsAt w2 a5 m x.2∧SlOk a5 m c5))(hG:G≤w0s) :
  Cl outR 122 B G w0 ((w5.setCell ⟨g,k*2,none⟩ (.int .i64 x.1)).setCell ⟨g,k*2+1,none⟩ (.slice a5 m c5)) (.slice (some ⟨g,0,none⟩) n cap) n (K.set k [.int .i64 x.1,.slice a5 m c5]) O (k+1):=by
 have h5:=h.keep hb
 refine h5.step hk ?_ (((Gr.refl w5 (fun q=>q=g)).one g (k*2) (.inl rfl) _).one g (k*2+1) (.inl rfl) _) ?_
 ·rw[hx]
  exact (hf.less hG).imp fun w2 q=>⟨a5,m,c5,rfl,q.1,q.2⟩
 ·have h1:=((h5.own.stored (k*2) (.int .i64 x.1)).1.stored (k*2+1) (.slice a5 m c5)).1
  rw[put2 h5.wid k hkK] at h1
  exact h1
def Zhk(w:World)(h:Int)(I:List InD)(O:List Z0)(ni no:Nat)(v1 v2:Value)(wx:World):Prop:=
 ∃ K1 K2,AllC inR w K1 I∧AllC outR w K2 O∧wx.ownsRow (w.heap.size+2) 119 3 v1 ni K1.flatten∧wx.ownsRow (w.heap.size+2) 122 2 v2 no K2.flatten ∧
  wx.heap[w.heap.size]? = some (.cells [.int .i64 h,v1,v2].toArray 59 (0,0))∧wx.heap[w.heap.size+1]? = some (.cells [.int .i64 0,.slice none 0 0,.slice none 0 0].toArray 59 (0,0))∧Below w.heap.size w wx
theorem Fc{w W wx:World}{h:Int}{I:List InD}{O:List Z0}{ni no:Nat}{v1 v2:Value}{K1 K2:List (List Value)}(h1:AllC inR w K1 I)(h2:AllC outR w K2 O)(o1:W.ownsRow (w.heap.size+2) 119 3 v1 ni K1.flatten)(o2:W.ownsRow (w.heap.size+2) 122 2 v2 no K2.flatten)(hb:Below w.heap.size w W)
  (hz:W.heap[w.heap.size+1]? = some (.cells [.int .i64 0,.slice none 0 0,.slice none 0 0].toArray 59 (0,0))) (hg:Gr W wx (fun q=>q=w.heap.size)) (hx:wx.heap[w.heap.size]? = some (.cells [.int .i64 h,v1,v2].toArray 59 (0,0))):Zhk w h I O ni no v1 v2 wx:=
 ⟨K1,K2,h1,h2,hg.own o1 (fun k hk=>by have:=(o1.lt k hk).1;omega),hg.own o2 (fun k hk=>by have:=(o2.lt k hk).1;omega),hx,hg.heap hz (by omega),hg.below hb (by have:=lt_of_block hz;omega) (fun k hk=>by omega)⟩
theorem clTx_is(h:Int)(ai ao:Option Addr)(ni ci no co:Nat)(I:List InD)(O:List Z0)(w:World)(hI:InsAt w ai ni I)(hO:OutsAt w ao no O)(sI:SlOk ai ni ci)(sO:SlOk ao no co)(hni:ni≤3518437208883)(hno:no≤4398046511104)(hk:∀ x∈I,x.2.2.length≤8796093022208)(hl:∀ x∈O,x.2.length≤8796093022208) :
  Calls Tryz.prog 92 #[.agg #[.int .i64 h,.slice ai ni ci,.slice ao no co]] w fun e w'=>∃ a1 c1 a2 c2,e = .returned (.agg #[.int .i64 h,.slice a1 ni c1,.slice a2 no c2])∧Fresh w.heap.size w' (fun w2=>txR.C w2 [.int .i64 h,.slice a1 ni c1,.slice a2 no c2] (h,I,O))∧Below w.heap.size w w':=by
 obtain⟨X,hX⟩:∃ X,X=(w.alloc (.cells #[.int .i64 h,.slice ai ni ci,.slice ao no co] 59)).alloc (.cells #[.int .i64 0,.slice none 0 0,.slice none 0 0] 59):=⟨_,rfl⟩
 have hbX:Below w.heap.size w X:=by rw[hX];exact Zf (Zi _ _) (Zi _ _)
 have hX0:X.heap[w.heap.size]? = some (.cells [.int .i64 h,.slice ai ni ci,.slice ao no co].toArray 59 (0,0)):=by
  rw[hX,Below.heap_alloc _ _ _ (by simp)];exact Zu _ _ _ _ _
 have hXs:X.heap.size=w.heap.size+2:=by rw[hX];simp
 have hX1:X.heap[w.heap.size+1]? = some (.cells [.int .i64 0,.slice none 0 0,.slice none 0 0].toArray 59 (0,0)):=by
  rw[hX]
  have:=Zu (w.alloc (.cells #[.int .i64 h,.slice ai ni ci,.slice ao no co] 59)) (.int .i64 0) (.slice none 0 0) (.slice none 0 0) 59
  rw[show (w.alloc (.cells #[.int .i64 h,.slice ai ni ci,.slice ao no co] 59)).heap.size=w.heap.size+1 by simp] at this
  exact this
 have HBX:=Zb hbX
 have HX0:=Zb hX0
 have HX1:=Zb hX1
 have HXs:=Zb hXs
 have HKI:=Zb hk
 have HLO:=Zb hl
 have HZI:=Zb hI.1
 have HZO:=Zb hO.1
 have C1:=Zb (Fm ai ni ci I w X.drew hni hI (Zf hbX (Zj X)) sI)
 have C2:=Zb (fun W (hb:Below w.heap.size w W)=>Mq ao no co O w W hno hO hb sO)
 have x1:=Zd hX0 1 _ rfl
 have x2:=Zd hX0 2 _ rfl
 have xl:=lt_of_block hX0
 clear hbX hX0 hX1 hI hO sI sO hk hl hXs
 go_enter Tryz.func92,Tryz.ntmps92
 go_upto_region 1 with fail
 rw[←hX]
 clear hX
 go_cut [9,12] from 7 to 14 (fun s9 s12 wx=>Hid (Zhk w h I O ni no s9 s12 wx))
 case first=>
  go_region_with (first
   | (go_at_call 159;refine (Za C1).mono ?_;rintro e w3 ⟨v1,K1,rfl,hA1,ho1,hb3⟩;have h30:=(hb3.block _ (lt_of_block (Za HX0))).trans (Za HX0);have d1:=Zd h30 1 _ rfl;have d2:=Zd h30 2 _ rfl;have dl:=lt_of_block h30;have HA1:=Zb hA1;have HO1:Hid (w3.ownsRow (w.heap.size+2) 119 3 v1 ni K1.flatten):=Y8 ho1 (Nat.le_of_eq (Za HXs).symm);have HB3:=Zb (Zf (Zf (Za HBX) (Zj _)) hb3);have HB3X:=Zb (Zf (Zj X) hb3);clear hA1 ho1 hb3 h30)
   | (go_at_call 160;refine ((Za C2) _ (Za HB3)).mono ?_;rintro e w4 ⟨v2,K2,rfl,hA2,ho2,hb4⟩;have hbX4:=Zf (Za HB3X) hb4;have h40:=(hbX4.block _ (lt_of_block (Za HX0))).trans (Za HX0);have h41:=(hbX4.block _ (lt_of_block (Za HX1))).trans (Za HX1);have e0:=Zd h40 0 _ rfl;have e1:=Zd h40 1 _ rfl;have e2:=Zd h40 2 _ rfl;have z1:=Zg h40 1;have z2:=Zg h40 2;have el:=lt_of_block h40;have HA2:=Zb hA2;have HO2:Hid (w4.ownsRow (w.heap.size+2) 122 2 v2 no K2.flatten):=Y8 ho2 (by have:=(Za HB3X).size;have:=Za HXs;omega);have HO14:=Zb ((Gr.of (S:=fun _=>False) hb4).own (Za HO1) (fun _ _ q=>q));have HB4:=Zb (Zf (Za HB3) hb4);have H40:=Zb h40;have H41:=Zb h41;obtain⟨a2,c2,rfl,_,_⟩:=Ym (Za HO2);obtain⟨a1,c1,rfl,_,_⟩:=Ym (Za HO1);clear hA2 ho2 hb4 hbX4 h40 h41))
  all_goals
   go_wp2_with fail
   go_meet
   case rel=>
    first
    | exact Fc (W:=w4) (Za HA1) (Za HA2) (Za HO14) (Za HO2) (Za HB4) (Za H41) (((Gr.refl w4 (fun q=>q=w.heap.size)).one w.heap.size 1 (.inl rfl) _).one w.heap.size 2 (.inl rfl) _) (set_cells (set_cells (Za H40) 1 _) 2 _)
    | exact Fc (W:=w4) (Za HA1) (Za HA2) (Za HO14) (Za HO2) (Za HB4) (Za H41) (((Gr.refl w4 (fun q=>q=w.heap.size)).one w.heap.size 2 (.inl rfl) _).one w.heap.size 1 (.inl rfl) _) (set_cells (set_cells (Za H40) 2 _) 1 _)
 case rest=>
  obtain⟨K1,K2,hA1,hA2,ho1,ho2,h0,h1,hb⟩:=Za hcut
  obtain⟨a1,c1,rfl,_,_⟩:=Ym ho1
  obtain⟨a2,c2,rfl,_,_⟩:=Ym ho2
  obtain⟨G,hG⟩:∃ G,wc.heap.size=G:=⟨_,rfl⟩
  have hGw:w.heap.size+2≤G:=by rw[←hG];exact lt_of_block h1
  have ST1:Hid (Cl inR 119 (w.heap.size+2) G w wc (.slice a1 ni c1) ni K1 I 0):=Cl.start ho1 hA1 (Za HZI) (Nat.le_of_eq hG)
  have ST2:Hid (Cl outR 122 (w.heap.size+2) G w wc (.slice a2 no c2) no K2 O 0):=Cl.start ho2 hA2 (Za HZO) (Nat.le_of_eq hG)
  have H0:=Zb h0
  have H1:=Zb h1
  have HB:=Zb hb
  have HGl:Hid (G≤wc.heap.size):=Nat.le_of_eq hG.symm
  have c10:=Zd h0 1 _ rfl
  have cl0:=lt_of_block h0
  clear hcut hA1 hA2 ho1 ho2 h0 h1 hb C1 C2 HX0 HX1 HBX x1 x2 xl hG
  go_wp2
  go_loopw [18] (fun i wr=>∃ (k:Nat) (K:List (List Value)),k≤ni∧i = .int .i64 k∧Hid (Cl inR 119 (w.heap.size+2) G w wr (.slice a1 ni c1) ni K I k)∧Hid (Cl outR 122 (w.heap.size+2) G w wr (.slice a2 no c2) no K2 O 0)∧Hid (wr.heap[w.heap.size]? = some (.cells [.int .i64 h,.slice a1 ni c1,.slice a2 no c2].toArray 59 (0,0)))∧Hid (wr.heap[w.heap.size+1]? = some (.cells [.int .i64 0,.slice none 0 0,.slice none 0 0].toArray 59 (0,0)))∧Hid (Below w.heap.size w wr)∧Hid (G≤wr.heap.size)) (fun i _=>ni - (intOf i).toNat)
  case atStart=>exact⟨0,K1,Nat.zero_le _,rfl,ST1,ST2,H0,H1,HB,HGl⟩
  case round=>
   obtain⟨k,K,hk,rfl,HC1,HC2,HB0,HB1,HBr,HGr⟩:=hrel
   clear ST1 ST2 H0 H1 HB HGl c10 cl0
   by_cases hlt:k<ni
   ·have hlk:k<I.length:=by rw[Za HZI];exact hlt
    have hkK:k<K.length:=by rw[(Za HC1).len];exact hlk
    obtain⟨g,cap,ev,hgB,hgG,hgl⟩:=(Za HC1).form (by omega)
    cases ev
    obtain⟨a,m,c,eK,hop,hsl⟩:=(Za HC1).old k hlk hkK (Nat.le_refl _)
    have hkl:=(Za HKI) _ (List.getElem_mem hlk)
    obtain⟨x,hx⟩:∃ x,I[k]=x:=⟨_,rfl⟩
    rw[hx] at eK hop hkl
    have r0:=(Za HC1).cell k hkK 0 (by decide)
    have r1:=(Za HC1).cell k hkK 1 (by decide)
    have r2:=(Za HC1).cell k hkK 2 (by decide)
    rw[eK] at r0 r1 r2
    have r0:wr.cell? ⟨g,k*3,none⟩=some (.int .i64 x.1):=r0
    have r1:wr.cell? ⟨g,k*3+1,none⟩=some (.int .i64 x.2.1):=r1
    have r2:wr.cell? ⟨g,k*3+2,none⟩=some (.slice a m c):=r2
    have hm:m≤8796093022208:=by rw[←hop.1];exact hkl
    obtain⟨X1,hX1⟩:∃ X1,X1=wr.alloc (.cells #[.int .i64 x.1,.int .i64 x.2.1,.slice a m c] 119):=⟨_,rfl⟩
    have hbX1:Below wr.heap.size wr X1:=by rw[hX1];exact Zi _ _
    have hXX:X1.heap[wr.heap.size]? = some (.cells [.int .i64 x.1,.int .i64 x.2.1,.slice a m c].toArray 119 (0,0)):=by rw[hX1];exact Zu _ _ _ _ _
    have b2:=Zd hXX 2 _ rfl
    have bl:=lt_of_block hXX
    have t1:=Ze hbX1 (Zd (Za HB0) 1 _ rfl)
    have tl:=Nat.lt_of_lt_of_le (lt_of_block (Za HB0)) hbX1.size
    have HBX1:=Zb hbX1
    have CO:=Zb (Ul a m c x.2.2 X1.drew hm (hop.later (Zf (Zf (Za HBr) hbX1) (Zj _))) hsl)
    have NX:Hid (∀ w5 a5 c5,Below wr.heap.size wr w5→Fresh X1.drew.heap.size w5 (fun w2=>OpsAt w2 a5 m x.2.2∧SlOk a5 m c5) →
      Hid (Cl inR 119 (w.heap.size+2) G w (w5.setCell ⟨g,k*3+2,none⟩ (.slice a5 m c5)) (.slice (some ⟨g,0,none⟩) ni c1) ni (K.set k [.int .i64 x.1,.int .i64 x.2.1,.slice a5 m c5]) I (k+1))∧Hid (Cl outR 122 (w.heap.size+2) G w (w5.setCell ⟨g,k*3+2,none⟩ (.slice a5 m c5)) (.slice a2 no c2) no K2 O 0)∧Hid ((w5.setCell ⟨g,k*3+2,none⟩ (.slice a5 m c5)).heap[w.heap.size]? = some (.cells [.int .i64 h,.slice (some ⟨g,0,none⟩) ni c1,.slice a2 no c2].toArray 59 (0,0)))∧Hid ((w5.setCell ⟨g,k*3+2,none⟩ (.slice a5 m c5)).heap[w.heap.size+1]? = some (.cells [.int .i64 0,.slice none 0 0,.slice none 0 0].toArray 59 (0,0)))∧Hid (Below w.heap.size w (w5.setCell ⟨g,k*3+2,none⟩ (.slice a5 m c5)))∧Hid (G≤(w5.setCell ⟨g,k*3+2,none⟩ (.slice a5 m c5)).heap.size)):=by
     intro w5 a5 c5 hb5 hf5
     have hGr:=Za HGr
     have hg5:=(Gr.refl w5 (fun q=>q=g)).one g (k*3+2) (.inl rfl) (.slice a5 m c5)
     have hs5:=hb5.size
     refine⟨Zgi (Za HC1) hlk hkK hx eK hb5 hf5 (Nat.le_trans hGr hbX1.size),?_,?_,?_,?_,?_⟩
     ·exact ((Za HC2).keep hb5).gr hg5 (fun q e=>by omega) (fun q hq e=>Vq (Za HC1).own (Za HC2).own (by decide) q (by rw[e];rfl) hq)
     ·exact hg5.heap ((hb5.block _ (lt_of_block (Za HB0))).trans (Za HB0)) (by omega)
     ·exact hg5.heap ((hb5.block _ (lt_of_block (Za HB1))).trans (Za HB1)) (by omega)
     ·exact hg5.below (Zf (Za HBr) hb5) (by have:=lt_of_block (Za HB0);omega) (fun q e=>by omega)
     ·exact Nat.le_trans hGr (Nat.le_trans hs5 hg5.size)
    have FR:=Zb (fun j=>(Za HC1).free j)
    have hkI:(k:Int)<(ni:Int):=by omega
    clear hop hsl hkl hx eK hbX1 hXX
    go_wp2_with fail
    rw[←hX1]
    clear hX1
    go_region_with (go_at_call 150;refine (Za CO).mono ?_;rintro e w5 ⟨a5,c5,rfl,hf5,hb5⟩;have hbw5:=Zf (Zf (Za HBX1) (Zj _)) hb5;have HN:=Zb ((Za NX) w5 a5 c5 hbw5 hf5);have q1:=Ze hb5 (Ze (Zj _) t1);have q2:=Ze hbw5 r2;have q3:w5.frozen? ⟨g,k*3+2,none⟩=false:=(World.frozen?_of_block (a:=⟨g,k*3+2,none⟩) (hbw5.block g hgl)).trans ((Za FR) _);have q4:=Nat.lt_of_lt_of_le hgl hbw5.size;have q5:=Nat.lt_of_lt_of_le (lt_of_block (Za HB0)) hbw5.size;clear hf5 hb5 hbw5)
    all_goals
     go_wp2
     go_roundw
     case rel=>
      obtain⟨f1,f2,f3,f4,f5,f6⟩:=Za HN
      exact⟨k+1,_,by omega,by go_num,f1,f2,f3,f4,f5,f6⟩
     case measure=>simp[intOf];omega
   ·have e:k=ni:=by omega
    subst e
    have c20:=Zd (Za HB0) 2 _ rfl
    have cl0:=lt_of_block (Za HB0)
    have DN:=HC1
    clear HC1
    go_wp2
    go_loopw [35] (fun i w2=>∃ (j:Nat) (Ko:List (List Value)),j≤no∧i = .int .i64 j∧Hid (Cl inR 119 (w.heap.size+2) G w w2 (.slice a1 k c1) k K I k)∧Hid (Cl outR 122 (w.heap.size+2) G w w2 (.slice a2 no c2) no Ko O j)∧Hid (w2.heap[w.heap.size]? = some (.cells [.int .i64 h,.slice a1 k c1,.slice a2 no c2].toArray 59 (0,0)))∧Hid (w2.heap[w.heap.size+1]? = some (.cells [.int .i64 0,.slice none 0 0,.slice none 0 0].toArray 59 (0,0)))∧Hid (Below w.heap.size w w2)∧Hid (G≤w2.heap.size)) (fun i _=>no - (intOf i).toNat)
    case atStart=>exact⟨0,K2,Nat.zero_le _,rfl,DN,HC2,HB0,HB1,HBr,HGr⟩
    case round=>
     obtain⟨j,Ko,hj,rfl,HD1,HD2,HE0,HE1,HEr,HEG⟩:=hrel
     clear DN HC2 HB0 HB1 HBr HGr c20 cl0
     by_cases hlt2:j<no
     ·have hlk:j<O.length:=by rw[Za HZO];exact hlt2
      have hkK:j<Ko.length:=by rw[(Za HD2).len];exact hlk
      obtain⟨g,cap,ev,hgB,hgG,hgl⟩:=(Za HD2).form (by omega)
      cases ev
      obtain⟨a,m,c,eK,hop,hsl⟩:=(Za HD2).old j hlk hkK (Nat.le_refl _)
      have hkl:=(Za HLO) _ (List.getElem_mem hlk)
      obtain⟨x,hx⟩:∃ x,O[j]=x:=⟨_,rfl⟩
      rw[hx] at eK hop hkl
      have r0:=(Za HD2).cell j hkK 0 (by decide)
      have r1:=(Za HD2).cell j hkK 1 (by decide)
      rw[eK] at r0 r1
      have r0:wr.cell? ⟨g,j*2,none⟩=some (.int .i64 x.1):=r0
      have r1:wr.cell? ⟨g,j*2+1,none⟩=some (.slice a m c):=r1
      have hm:m≤8796093022208:=by rw[←hop.1];exact hkl
      obtain⟨X1,hX1⟩:∃ X1,X1=wr.alloc (.cells #[.int .i64 x.1,.slice a m c] 122):=⟨_,rfl⟩
      have hbX1:Below wr.heap.size wr X1:=by rw[hX1];exact Zi _ _
      have hXX:X1.heap[wr.heap.size]? = some (.cells [.int .i64 x.1,.slice a m c].toArray 122 (0,0)):=by rw[hX1];exact Yv _ _ _ _
      have b0:=Zd hXX 0 _ rfl
      have b1:=Zd hXX 1 _ rfl
      have bl:=lt_of_block hXX
      have t2:=Ze hbX1 (Zd (Za HE0) 2 _ rfl)
      have tl:=Nat.lt_of_lt_of_le (lt_of_block (Za HE0)) hbX1.size
      have HBX1:=Zb hbX1
      have CO:=Zb (Ri x.1 a m c x.2 X1.drew hm (hop.later (Zf (Zf (Za HEr) hbX1) (Zj _))) hsl)
      have NX:Hid (∀ w5 a5 c5,Below wr.heap.size wr w5→Fresh X1.drew.heap.size w5 (fun w2=>OpsAt w2 a5 m x.2∧SlOk a5 m c5) →
        Hid (Cl inR 119 (w.heap.size+2) G w ((w5.setCell ⟨g,j*2,none⟩ (.int .i64 x.1)).setCell ⟨g,j*2+1,none⟩ (.slice a5 m c5)) (.slice a1 k c1) k K I k)∧Hid (Cl outR 122 (w.heap.size+2) G w ((w5.setCell ⟨g,j*2,none⟩ (.int .i64 x.1)).setCell ⟨g,j*2+1,none⟩ (.slice a5 m c5)) (.slice (some ⟨g,0,none⟩) no c2) no (Ko.set j [.int .i64 x.1,.slice a5 m c5]) O (j+1))∧Hid (((w5.setCell ⟨g,j*2,none⟩ (.int .i64 x.1)).setCell ⟨g,j*2+1,none⟩ (.slice a5 m c5)).heap[w.heap.size]? = some (.cells [.int .i64 h,.slice a1 k c1,.slice (some ⟨g,0,none⟩) no c2].toArray 59 (0,0)))∧Hid (((w5.setCell ⟨g,j*2,none⟩ (.int .i64 x.1)).setCell ⟨g,j*2+1,none⟩ (.slice a5 m c5)).heap[w.heap.size+1]? = some (.cells [.int .i64 0,.slice none 0 0,.slice none 0 0].toArray 59 (0,0)))∧Hid (Below w.heap.size w ((w5.setCell ⟨g,j*2,none⟩ (.int .i64 x.1)).setCell ⟨g,j*2+1,none⟩ (.slice a5 m c5)))∧Hid (G≤((w5.setCell ⟨g,j*2,none⟩ (.int .i64 x.1)).setCell ⟨g,j*2+1,none⟩ (.slice a5 m c5)).heap.size)):=by
       intro w5 a5 c5 hb5 hf5
       have hGr:=Za HEG
       have hg5:=((Gr.refl w5 (fun q=>q=g)).one g (j*2) (.inl rfl) (.int .i64 x.1)).one g (j*2+1) (.inl rfl) (.slice a5 m c5)
       have hs5:=hb5.size
       refine⟨?_,Zcw (Za HD2) hlk hkK hx hb5 hf5 (Nat.le_trans hGr hbX1.size),?_,?_,?_,?_⟩
       ·exact ((Za HD1).keep hb5).gr hg5 (fun q e=>by omega) (fun q hq e=>Vq (Za HD2).own (Za HD1).own (by decide) q (by rw[e];rfl) hq)
       ·exact hg5.heap ((hb5.block _ (lt_of_block (Za HE0))).trans (Za HE0)) (by omega)
       ·exact hg5.heap ((hb5.block _ (lt_of_block (Za HE1))).trans (Za HE1)) (by omega)
       ·exact hg5.below (Zf (Za HEr) hb5) (by have:=lt_of_block (Za HE0);omega) (fun q e=>by omega)
       ·exact Nat.le_trans hGr (Nat.le_trans hs5 hg5.size)
      have FR:=Zb (fun j=>(Za HD2).free j)
      have hkI:(j:Int)<(no:Int):=by omega
      clear hop hsl hkl hx eK hbX1 hXX
      go_wp2_with fail
      rw[←hX1]
      clear hX1
      go_region_with (go_at_call 161;refine (Za CO).mono ?_;rintro e w5 ⟨a5,c5,rfl,hf5,hb5⟩;have hbw5:=Zf (Zf (Za HBX1) (Zj _)) hb5;have HN:=Zb ((Za NX) w5 a5 c5 hbw5 hf5);have q1:=Ze hb5 (Ze (Zj _) t2);have q2:=Ze hbw5 r0;have q22:=Ze hbw5 r1;have q3:w5.frozen? ⟨g,j*2,none⟩=false:=(World.frozen?_of_block (a:=⟨g,j*2,none⟩) (hbw5.block g hgl)).trans ((Za FR) _);have q33:w5.frozen? ⟨g,j*2+1,none⟩=false:=(World.frozen?_of_block (a:=⟨g,j*2+1,none⟩) (hbw5.block g hgl)).trans ((Za FR) _);have q4:=Nat.lt_of_lt_of_le hgl hbw5.size;have q5:=Nat.lt_of_lt_of_le (lt_of_block (Za HE0)) hbw5.size;clear hf5 hb5 hbw5)
      all_goals
       go_wp2
       go_roundw
       case rel=>
        obtain⟨f1,f2,f3,f4,f5,f6⟩:=Za HN
        exact⟨j+1,_,by omega,by go_num,f1,f2,f3,f4,f5,f6⟩
       case measure=>simp[intOf];omega
     ·have e:j=no:=by omega
      subst e
      have s0:=Zd (Za HE0) 0 _ rfl
      have s1:=Zd (Za HE0) 1 _ rfl
      have s2:=Zd (Za HE0) 2 _ rfl
      have sl:=lt_of_block (Za HE0)
      have y0:=Zd (Za HE1) 0 _ rfl
      have y1:=Zd (Za HE1) 1 _ rfl
      have y2:=Zd (Za HE1) 2 _ rfl
      have z0:=Zg (Za HE1) 0
      have z1:=Zg (Za HE1) 1
      have z2:=Zg (Za HE1) 2
      have yl:=lt_of_block (Za HE1)
      have R:Hid (Fresh (w.heap.size+2) wr (fun w2=>txR.C w2 [.int .i64 h,.slice a1 k c1,.slice a2 j c2] (h,I,O))):=by
       obtain⟨a',c',e1,h1⟩:=(Za HD1).rows hGw
       obtain⟨a'',c'',e2,h2⟩:=(Za HD2).rows hGw
       cases e1
       cases e2
       exact fun w2 g2=>⟨_,_,_,_,_,_,rfl,(h1 w2 g2).1,(h1 w2 g2).2,(h2 w2 g2).1,(h2 w2 g2).2⟩
      clear HD1 HD2
      go_wp2
      (try simp only[Exit.inBlock,Exit.then])
      have hG:=((Gr.refl wr (fun q=>q=w.heap.size+1)).one (w.heap.size+1) 0 (.inl rfl) (.int .i64 h)).one (w.heap.size+1) 1 (.inl rfl) (.slice a1 k c1) |>.one (w.heap.size+1) 2 (.inl rfl) (.slice a2 j c2)
      refine bodyPost_ret (v:=.agg #[.int .i64 h,.slice a1 k c1,.slice a2 j c2]) ?_ rfl ⟨a1,c1,a2,c2,rfl,((Za R).on (hG.mono fun q _ e=>by omega)).less (by omega),?_⟩
      ·rw[Ye rfl]
       go_simp
      ·exact hG.below (Za HEr) (by omega) (fun q e=>by omega)
def TxSmall(t:TxD):Prop:=t.2.1.length≤3518437208883∧t.2.2.length≤4398046511104∧(∀ x∈t.2.1,x.2.2.length≤8796093022208)∧∀ x∈t.2.2,x.2.length≤8796093022208
theorem Zfb{G B w0s:Nat}{w0 wr w5:World}{g cap n k:Nat}{K:List (List Value)}{T:List TxD}{x:TxD}{u0 u1 u2:Value}(h:Cl txR 59 B G w0 wr (.slice (some ⟨g,0,none⟩) n cap) n K T k)(hk:k<T.length)(hkK:k<K.length)(hx:T[k]=x)(hb:Below wr.heap.size wr w5)(hf:Fresh w0s w5 (fun w2=>txR.C w2 [u0,u1,u2] x))(hG:G≤w0s) :
  Cl txR 59 B G w0 (((w5.setCell ⟨g,k*3,none⟩ u0).setCell ⟨g,k*3+1,none⟩ u1).setCell ⟨g,k*3+2,none⟩ u2) (.slice (some ⟨g,0,none⟩) n cap) n (K.set k [u0,u1,u2]) T (k+1):=by
 have h5:=h.keep hb
 refine h5.step hk ?_ ((((Gr.refl w5 (fun q=>q=g)).one g (k*3) (.inl rfl) _).one g (k*3+1) (.inl rfl) _).one g (k*3+2) (.inl rfl) _) ?_
 ·rw[hx]
  exact hf.less hG
 ·have h1:=(((h5.own.stored (k*3) u0).1.stored (k*3+1) u1).1.stored (k*3+2) u2).1
  rw[put3 h5.wid k hkK] at h1
  exact h1
theorem clTxs_is(at_:Option Addr)(m c:Nat)(T:List TxD)(w:World)(hT:TxsAt w at_ m T)(sT:SlOk at_ m c)(hm:m≤2513169434916)(hs:∀ t∈T,TxSmall t) :
  Calls Tryz.prog 142 #[.slice at_ m c] w fun e w'=>∃ a' c',e = .returned (.slice a' m c')∧Fresh w.heap.size w' (fun w2=>TxsAt w2 a' m T∧SlOk a' m c')∧Below w.heap.size w w':=by
 have HSM:=Zb hs
 have HZT:=Zb hT.1
 have C1:=Zb (Fk at_ m c T w w hm hT ⟨rfl,rfl,rfl,Nat.le_refl _,fun _ _=>rfl⟩ sT)
 clear hT sT hs
 go_enter Tryz.func142,Tryz.ntmps142
 go_wp2_with fail
 refine (Za C1).mono ?_
 rintro e w3 ⟨v,K1,rfl,hA,ho,hb3⟩
 obtain⟨a1,c1,rfl,_,_⟩:=Ym ho
 obtain⟨G,hG⟩:∃ G,w3.heap.size=G:=⟨_,rfl⟩
 have hGw:w.heap.size≤G:=by rw[←hG];exact hb3.size
 have ST1:Hid (Cl txR 59 w.heap.size G w w3 (.slice a1 m c1) m K1 T 0):=Cl.start ho hA (Za HZT) (Nat.le_of_eq hG)
 have HB:=Zb hb3
 have HGl:Hid (G≤w3.heap.size):=Nat.le_of_eq hG.symm
 clear hA ho hb3 hG C1
 go_wp2
 go_loopw [9] (fun i wr=>∃ (k:Nat) (K:List (List Value)),k≤m∧i = .int .i64 k∧Hid (Cl txR 59 w.heap.size G w wr (.slice a1 m c1) m K T k)∧Hid (Below w.heap.size w wr)∧Hid (G≤wr.heap.size)) (fun i _=>m - (intOf i).toNat)
 case atStart=>exact⟨0,K1,Nat.zero_le _,rfl,ST1,HB,HGl⟩
 case round=>
  obtain⟨k,K,hk,rfl,HC1,HBr,HGr⟩:=hrel
  clear ST1 HB HGl
  by_cases hlt:k<m
  ·have hlk:k<T.length:=by rw[Za HZT];exact hlt
   have hkK:k<K.length:=by rw[(Za HC1).len];exact hlk
   obtain⟨g,cap,ev,hgB,hgG,hgl⟩:=(Za HC1).form (by omega)
   cases ev
   obtain⟨ai,ni,ci,ao,no,co,eK,hI,sI,hO,sO⟩:=(Za HC1).old k hlk hkK (Nat.le_refl _)
   have hsm:=(Za HSM) _ (List.getElem_mem hlk)
   obtain⟨x,hx⟩:∃ x,T[k]=x:=⟨_,rfl⟩
   rw[hx] at eK hI hO hsm
   have r0:=(Za HC1).cell k hkK 0 (by decide)
   have r1:=(Za HC1).cell k hkK 1 (by decide)
   have r2:=(Za HC1).cell k hkK 2 (by decide)
   rw[eK] at r0 r1 r2
   have r0:wr.cell? ⟨g,k*3,none⟩=some (.int .i64 x.1):=r0
   have r1:wr.cell? ⟨g,k*3+1,none⟩=some (.slice ai ni ci):=r1
   have r2:wr.cell? ⟨g,k*3+2,none⟩=some (.slice ao no co):=r2
   obtain⟨X1,hX1⟩:∃ X1,X1=wr.alloc (.cells #[.int .i64 x.1,.slice ai ni ci,.slice ao no co] 59):=⟨_,rfl⟩
   have hbX1:Below wr.heap.size wr X1:=by rw[hX1];exact Zi _ _
   have hXX:X1.heap[wr.heap.size]? = some (.cells [.int .i64 x.1,.slice ai ni ci,.slice ao no co].toArray 59 (0,0)):=by rw[hX1];exact Zu _ _ _ _ _
   have b0:=Zd hXX 0 _ rfl
   have b1:=Zd hXX 1 _ rfl
   have b2:=Zd hXX 2 _ rfl
   have bl:=lt_of_block hXX
   have HBX1:=Zb hbX1
   have hbb:=Zf (Za HBr) hbX1
   have CO:=Zb (clTx_is x.1 ai ao ni ci no co x.2.1 x.2.2 X1 (hI.later hbb) (hO.later hbb) sI sO (by rw[←hI.1];exact hsm.1) (by rw[←hO.1];exact hsm.2.1) hsm.2.2.1 hsm.2.2.2)
   have NX:Hid (∀ w5 u0 u1 u2,Below wr.heap.size wr w5→Fresh X1.heap.size w5 (fun w2=>txR.C w2 [u0,u1,u2] x) →
     Hid (Cl txR 59 w.heap.size G w (((w5.setCell ⟨g,k*3,none⟩ u0).setCell ⟨g,k*3+1,none⟩ u1).setCell ⟨g,k*3+2,none⟩ u2) (.slice (some ⟨g,0,none⟩) m c1) m (K.set k [u0,u1,u2]) T (k+1))∧Hid (Below w.heap.size w (((w5.setCell ⟨g,k*3,none⟩ u0).setCell ⟨g,k*3+1,none⟩ u1).setCell ⟨g,k*3+2,none⟩ u2))∧Hid (G≤(((w5.setCell ⟨g,k*3,none⟩ u0).setCell ⟨g,k*3+1,none⟩ u1).setCell ⟨g,k*3+2,none⟩ u2).heap.size)):=by
    intro w5 u0 u1 u2 hb5 hf5
    have hGr:=Za HGr
    have hg5:=(((Gr.refl w5 (fun q=>q=g)).one g (k*3) (.inl rfl) u0).one g (k*3+1) (.inl rfl) u1).one g (k*3+2) (.inl rfl) u2
    have hs5:=hb5.size
    refine⟨Zfb (Za HC1) hlk hkK hx hb5 hf5 (Nat.le_trans hGr hbX1.size),?_,?_⟩
    ·exact hg5.below (Zf (Za HBr) hb5) (by have:=(Za HBr).size;omega) (fun q e=>by omega)
    ·exact Nat.le_trans hGr (Nat.le_trans hs5 hg5.size)
   have FR:=Zb (fun j=>(Za HC1).free j)
   have hkI:(k:Int)<(m:Int):=by omega
   clear hI hO sI sO hsm hx eK hbX1 hXX hbb
   go_wp2_with fail
   rw[←hX1]
   clear hX1
   (try go_wp2_with fail)
   refine (Za CO).mono ?_
   rintro e w5 ⟨a5,c5,a6,c6,rfl,hf5,hb5⟩
   have hbw5:=Zf (Za HBX1) hb5
   have HN:=Zb ((Za NX) w5 _ _ _ hbw5 hf5)
   have s0:=Ze hbw5 r0
   have s1:=Ze hbw5 r1
   have s2:=Ze hbw5 r2
   have q3:w5.frozen? ⟨g,k*3,none⟩=false:=(World.frozen?_of_block (a:=⟨g,k*3,none⟩) (hbw5.block g hgl)).trans ((Za FR) _)
   have q33:w5.frozen? ⟨g,k*3+1,none⟩=false:=(World.frozen?_of_block (a:=⟨g,k*3+1,none⟩) (hbw5.block g hgl)).trans ((Za FR) _)
   have q34:w5.frozen? ⟨g,k*3+2,none⟩=false:=(World.frozen?_of_block (a:=⟨g,k*3+2,none⟩) (hbw5.block g hgl)).trans ((Za FR) _)
   have q4:=Nat.lt_of_lt_of_le hgl hbw5.size
   clear hf5 hb5 hbw5
   go_wp2
   go_roundw
   case rel=>
    obtain⟨f1,f5,f6⟩:=Za HN
    exact⟨k+1,_,by omega,by go_num,f1,f5,f6⟩
   case measure=>simp[intOf];omega
  ·have e:k=m:=by omega
   subst e
   have R:Hid (Fresh w.heap.size wr (fun w2=>TxsAt w2 a1 k T∧SlOk a1 k c1)):=by
    obtain⟨a',c',e1,h1⟩:=(Za HC1).rows hGw
    cases e1
    exact h1
   clear HC1
   go_wp2
   go_ret
   exact⟨a1,c1,rfl,Za R,Za HBr⟩
theorem Rr(p h k0 o:Int)(at_:Option Addr)(m c:Nat)(T:List TxD)(w:World)(hT:TxsAt w at_ m T)(sT:SlOk at_ m c)(hm:m≤2513169434916)(hs:∀ t∈T,TxSmall t) :
  Calls Tryz.prog 71 #[.agg #[.int .i64 p,.int .i64 h,.int .i64 k0,.int .i64 o,.slice at_ m c]] w fun e w'=>∃ a' c',e = .returned (.agg #[.int .i64 p,.int .i64 h,.int .i64 k0,.int .i64 o,.slice a' m c'])∧Fresh w.heap.size w' (fun w2=>blkR.C w2 [.int .i64 p,.int .i64 h,.int .i64 k0,.int .i64 o,.slice a' m c'] (p,h,k0,o,T))∧Below w.heap.size w w':=by
 obtain⟨X,hX⟩:∃ X,X=(w.alloc (.cells #[.int .i64 p,.int .i64 h,.int .i64 k0,.int .i64 o,.slice at_ m c] 39)).alloc (.cells #[.int .i64 0,.int .i64 0,.int .i64 0,.int .i64 0,.slice none 0 0] 39):=⟨_,rfl⟩
 have hbX:Below w.heap.size w X:=by rw[hX];exact Zf (Zi _ _) (Zi _ _)
 have hX0:X.heap[w.heap.size]? = some (.cells [.int .i64 p,.int .i64 h,.int .i64 k0,.int .i64 o,.slice at_ m c].toArray 39 (0,0)):=by
  rw[hX,Below.heap_alloc _ _ _ (by simp)];exact Zv _ _ _ _ _ _ _
 have hXs:X.heap.size=w.heap.size+2:=by rw[hX];simp
 have hX1:X.heap[w.heap.size+1]? = some (.cells [.int .i64 0,.int .i64 0,.int .i64 0,.int .i64 0,.slice none 0 0].toArray 39 (0,0)):=by
  rw[hX]
  have:=Zv (w.alloc (.cells #[.int .i64 p,.int .i64 h,.int .i64 k0,.int .i64 o,.slice at_ m c] 39)) (.int .i64 0) (.int .i64 0) (.int .i64 0) (.int .i64 0) (.slice none 0 0) 39
  rw[show (w.alloc (.cells #[.int .i64 p,.int .i64 h,.int .i64 k0,.int .i64 o,.slice at_ m c] 39)).heap.size=w.heap.size+1 by simp] at this
  exact this
 have HBX:=Zb hbX
 have HX0:=Zb hX0
 have HX1:=Zb hX1
 have HXs:=Zb hXs
 have C1:=Zb (clTxs_is at_ m c T X (hT.later hbX) sT hm hs)
 have x4:=Zd hX0 4 _ rfl
 have xl:=lt_of_block hX0
 clear hbX hX0 hX1 hT sT hs hXs
 go_enter Tryz.func71,Tryz.ntmps71
 go_wp2_with fail
 rw[←hX]
 clear hX
 (try go_wp2_with fail)
 refine (Za C1).mono ?_
 rintro e w3 ⟨a1,c1,rfl,hf3,hb3⟩
 have h30:=(hb3.block _ (lt_of_block (Za HX0))).trans (Za HX0)
 have h31:=(hb3.block _ (lt_of_block (Za HX1))).trans (Za HX1)
 have d4:=Zd h30 4 _ rfl
 have z9:=Zg h30 4
 have dl:=lt_of_block h30
 have s0:=Zd h30 0 _ rfl
 have s1:=Zd h30 1 _ rfl
 have s2:=Zd h30 2 _ rfl
 have s3:=Zd h30 3 _ rfl
 have y0:=Zd h31 0 _ rfl
 have y1:=Zd h31 1 _ rfl
 have y2:=Zd h31 2 _ rfl
 have y3:=Zd h31 3 _ rfl
 have y4:=Zd h31 4 _ rfl
 have z0:=Zg h31 0
 have z1:=Zg h31 1
 have z2:=Zg h31 2
 have z3:=Zg h31 3
 have z4:=Zg h31 4
 have yl:=lt_of_block h31
 have HB3:=Zb (Zf (Za HBX) hb3)
 have HF:=Zb hf3
 clear hf3 hb3 h30 h31 C1 HX0 HX1 HBX x4 xl
 go_wp2
 (try simp only[Exit.inBlock,Exit.then])
 have hG:=((((((Gr.refl w3 (fun q=>q=w.heap.size∨q=w.heap.size+1)).one w.heap.size 4 (.inl (.inl rfl)) (.slice a1 m c1)).one (w.heap.size+1) 0 (.inl (.inr rfl)) (.int .i64 p)).one (w.heap.size+1) 1 (.inl (.inr rfl)) (.int .i64 h)).one (w.heap.size+1) 2 (.inl (.inr rfl)) (.int .i64 k0)).one (w.heap.size+1) 3 (.inl (.inr rfl)) (.int .i64 o)).one (w.heap.size+1) 4 (.inl (.inr rfl)) (.slice a1 m c1)
 refine bodyPost_ret (v:=.agg #[.int .i64 p,.int .i64 h,.int .i64 k0,.int .i64 o,.slice a1 m c1]) ?_ rfl ⟨a1,c1,rfl,?_,?_⟩
 ·rw[Ye rfl]
  go_simp
 ·refine ((Fresh.imp (Za HF) fun w2 h=>⟨_,_,_,rfl,h.1,h.2⟩).on (hG.mono fun q _ e=>by have:=Za HXs;omega)).less (by have:=Za HXs;omega)
 ·exact hG.below (Za HB3) (by omega) (fun q e=>by omega)
end Go.Proofs.YtmomfkikogbdeaaGreatDoor.Tr
