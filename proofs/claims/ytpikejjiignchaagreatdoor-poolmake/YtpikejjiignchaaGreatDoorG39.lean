import Derived.Test.YtpikejjiignchaaGreatDoorG38
namespace Go.Proofs.YtpikejjiignchaaGreatDoor
open Go.RowKit
def DoR(w w':World)(p:Nat)(x:Int)(K:List ByteArray)(C:List Zg)(h f:Int)(e:Ending):Prop:=
 (x≠0∧e = .returned (.tuple #[.int .i64 0,.int .i64 x])∧Below w.heap.size w w') ∨
 (x=0∧e = .returned (.tuple #[.int .i64 f,.int .i64 0])∧Gr w w' (fun q=>q=p)∧DoT w' w.heap.size p K C h)
theorem DoR.err{w w':World}{p:Nat}{x y:Int}{K:List ByteArray}{C:List Zg}{h f:Int}(h0:y≠0)(hx:x=y)(hb:Below w.heap.size w w'):DoR w w' p x K C h f (.returned (.tuple #[.int .i64 0,.int .i64 y])):=by
 subst hx;exact .inl ⟨h0,rfl,hb⟩
def Zgt(V wx:World)(M:List Zg)(s9:Value):Prop:=
 ∃ am nm cm,s9 = .slice am nm cm∧Fresh V.heap.size wx (fun w2=>CoinsAt w2 am nm M)∧SlOk am nm cm∧Below V.heap.size V wx
theorem Fb{V W wx:World}{M:List Zg}{Z:Nat}{am:Option Addr}{nm cm:Nat}(hF:Fresh Z W (fun w2=>CoinsAt w2 am nm M))(hZ:V.heap.size≤Z)(hs:SlOk am nm cm)(hb:Below V.heap.size V W)(hg:Gr W wx (fun q=>q<Z∧V.heap.size≤q)):Zgt V wx M (.slice am nm cm):=
 ⟨am,nm,cm,rfl,fun w2 g2=>hF w2 ((hg.mono (fun _ _ q=>q.1)).trans (g2.mono (fun _ _ q=>Nat.lt_of_lt_of_le q hZ))),hs,hg.below hb hb.size (fun _ q=>q.2)⟩
set_option maxRecDepth 10000 in
set_option maxHeartbeats 12800000 in
theorem Zco(p:Nat)(K:List ByteArray)(C:List Zg)(h th:Int)(ai ao:Option Addr)(ni ci no co:Nat)(I:List InD)(O:List Zw)(x:Int)(K':List ByteArray)(C':List Zg)(w:World)(hE:Env w)(hT:Zem w p K C h)(hRC:Z5 C)(hI:InsAt w ai ni I)(hO:OutsAt w ao no O)(sI:SlOk ai ni ci)(hx:doD h (K,C) (th,I,O)=(x,K',C')) :
  Calls Tryz.prog 55 #[.pointer (some ⟨p,0,none⟩),.agg #[.int .i64 th,.slice ai ni ci,.slice ao no co]] w fun e w'=>DoR w w' p x K' C' h (Zp C - Zp C') e:=by
 obtain⟨ka,kn,kc,la,ln,lc,hp,hK,sK,hC,sC⟩:=hT
 obtain⟨X,hX⟩:∃ X,X=w.alloc (.cells #[.int .i64 th,.slice ai ni ci,.slice ao no co] 52):=⟨_,rfl⟩
 have hbX:Below w.heap.size w X:=by rw[hX];exact Zf _ _
 have hX0:X.heap[w.heap.size]? = some (.cells [.int .i64 th,.slice ai ni ci,.slice ao no co].toArray 52 (0,0)):=by rw[hX];exact Zl _ _ _ _ _
 have hni:I.length=ni:=hI.1
 obtain⟨x1,hx1⟩:∃ x1,Zo (th,I,O)=x1:=⟨_,rfl⟩
 obtain⟨T,hTx⟩:∃ T,txT (th,I,O)=T:=⟨_,rfl⟩
 obtain⟨⟨K1,nm,x2⟩,hx2⟩:∃ r,Bk.nameR K T=r:=⟨_,rfl⟩
 obtain⟨⟨x3,M,S⟩,hx3⟩:∃ r,apD C (th,I,O) nm h=r:=⟨_,rfl⟩
 unfold doD at hx
 simp only[hx1,hTx,hx2,hx3,hni] at hx
 have HBR:=Zb (fun V (hv:Below X.heap.size X V)=>(show V.heap[w.heap.size]? = some (.cells [.int .i64 th,.slice ai ni ci,.slice ao no co].toArray 52 (0,0)) from (hv.block _ (lt_of_block hX0)).trans hX0))
 have HPP:=Zb (fun V (hv:Below w.heap.size w V)=>(show V.heap[p]? = some (.cells [.slice ka kn kc,.slice la ln lc,.int .i64 h].toArray 116 (0,0)) from (hv.block _ (lt_of_block hp)).trans hp))
 have hpl:p<w.heap.size:=lt_of_block hp
 have C1:=Zb (Ft th ai ao ni ci no co I O T x1 X (hE.later hbX) (hI.later hbX) (hO.later hbX) sI hx1 hTx)
 have C2:=Zb (fun V (hv:Below w.heap.size w V)=>Bk.name_fresh ka kn kc K K1 T nm x2 V (hK.later hv) hx2)
 have C3:=Zb (fun V (hv:Below w.heap.size w V)=>Fm la ln lc C th ai ao ni ci no co I O nm h x3 M S V (hC.later hv) sC (hI.later hv) (hO.later hv) sI hx3)
 have hRM:Hid (x3=0→Z5 M∧Zp M≤1000000000∧0≤Zp M):=fun q=>by
  subst q
  have r:=(H9 hx3).2.1
  exact⟨r,r.sum,Wo M (fun c hc=>by have:=Yp (r.one c hc);omega)⟩
 obtain⟨s1,hs1⟩:∃ s,Zp C=s:=⟨_,rfl⟩
 have b1:s1≤1000000000:=by rw[←hs1];exact hRC.sum
 have b2:0≤s1:=by rw[←hs1];exact Wo C (fun c hc=>by have:=Yp (hRC.one c hc);omega)
 have C4:=Zb (fun V (hv:Below w.heap.size w V)=>Lj la ln lc C s1 V (hC.later hv) hRC hs1)
 have HX:=Zb hx
 have HBX:=Zb hbX
 have HS1:=Zb hs1
 have t0:=Zd hX0 0 _ rfl
 have t1:=Zd hX0 1 _ rfl
 have t2:=Zd hX0 2 _ rfl
 have tl:=lt_of_block hX0
 clear hE hK sK hC sC hI hO sI hx hx1 hTx hx2 hx3 hbX hX0 hp hRC hs1 hni
 go_enter Tryz.func55,Tryz.ntmps55
 go_wp2_with fail
 rw[←hX]
 clear hX
 (try go_wp2_with fail)
 refine (Za C1).mono ?_
 rintro e w1 ⟨rfl,hb1⟩
 have h10:=(Za HBR) _ hb1
 have t0:=Zd h10 0 _ rfl
 have t1:=Zd h10 1 _ rfl
 have t2:=Zd h10 2 _ rfl
 have tl:=lt_of_block h10
 have HB1:=Zb (Ze (Za HBX) hb1)
 have HB1X:=Zb hb1
 clear hb1 h10 C1
 by_cases e1:x1=0
 ·subst e1
  by_cases e2:ni=0
  ·subst e2
   have HXE:Hid (x=4):=by have:=Za HX;rw[if_neg (fun q=>q rfl),if_pos rfl] at this;injection this with this _;exact this.symm
   clear HX
   go_wp2
   go_ret2
   exact DoR.err (by decide) (Za HXE) (Za HB1)
  have gn:((ni:Int) == 0)=false:=by simp;omega
  have gn2:¬((ni:Int)=0):=by omega
  have p1:=(Za HPP) _ (Za HB1)
  have q0:=Zd p1 0 _ rfl
  have q1:=Zd p1 1 _ rfl
  have q2:=Zd p1 2 _ rfl
  have ql:=lt_of_block p1
  clear p1
  go_wp2_with fail
  refine ((Za C2) _ (Za HB1)).mono ?_
  rintro e w2 ⟨⟨ka',kn',kc',rfl,hF2,sK2⟩,hb2⟩
  have HB2:=Zb (Ze (Za HB1) hb2)
  have HF2:=Zb hF2
  have HSK2:=Zb sK2
  have hsz:w1.heap.size≤w2.heap.size:=hb2.size
  obtain⟨V,hV⟩:∃ V,V=w2.alloc (.cells #[.slice ka' kn' kc'] 24):=⟨_,rfl⟩
  have hbV:Below w2.heap.size w2 V:=by rw[hV];exact Zf _ _
  have hV0:V.heap[w2.heap.size]? = some (.cells [.slice ka' kn' kc'].toArray 24 (0,0)):=by rw[hV];exact Jb _ _ _
  have HBV:=Zb (Ze (Za HB2) hbV)
  have HB2V:=Zb hbV
  have HV0:=Zb hV0
  have H1V:=Zb (Ze (Za HB1X) (Ze hb2 hbV))
  clear hb2 hF2 sK2 hbV hV0 q0 q1 q2 ql t0 t1 t2 tl
  have t20:=Zd ((Za HBR) _ (Za H1V)) 0 _ rfl
  have t21:=Zd ((Za HBR) _ (Za H1V)) 1 _ rfl
  have t22:=Zd ((Za HBR) _ (Za H1V)) 2 _ rfl
  have t2l:=lt_of_block ((Za HBR) _ (Za H1V))
  have q20:=Zd ((Za HPP) _ (Za HBV)) 0 _ rfl
  have q21:=Zd ((Za HPP) _ (Za HBV)) 1 _ rfl
  have q22:=Zd ((Za HPP) _ (Za HBV)) 2 _ rfl
  have q2l:=lt_of_block ((Za HPP) _ (Za HBV))
  by_cases e3:x2=0
  ·subst e3
   go_upto_region 9 with fail
   rw[←hV]
   clear hV
   have HVD:=Zb (Ze (Za HBV) (Zi V))
   have HVA:=Zb (Ze (Ze (Za HBV) (Zf V (.cells #[.slice none 0 0] 130))) (Zi _))
   have v0:(V.alloc (.cells #[.slice none 0 0] 130)).drew.heap[V.heap.size]? = some (.cells #[.slice none 0 0] 130 (0,0)):=Jb V (.slice none 0 0) 130
   have HV1:=Zb v0
   clear v0
   have KS:Hid (∀ U:World,Below V.heap.size V U→((U.cell? ⟨p,1,none⟩=some (.slice la ln lc)∧U.cell? ⟨p,2,none⟩=some (.int .i64 h)∧p<U.heap.size)∧U.cell? ⟨w.heap.size,0,none⟩=some (.int .i64 th)∧U.cell? ⟨w.heap.size,1,none⟩=some (.slice ai ni ci)∧U.cell? ⟨w.heap.size,2,none⟩=some (.slice ao no co)∧w.heap.size<U.heap.size)):=fun U hu=>⟨⟨Zc hu q21,Zc hu q22,Nat.lt_of_lt_of_le q2l hu.size⟩,Zc hu t20,Zc hu t21,Zc hu t22,Nat.lt_of_lt_of_le t2l hu.size⟩
   go_cut [5,9,10] from 36 to 50 (fun s5 s9 s10 wx=>s5 = .int .i64 x3∧Hid (Zgt V wx M s9))
   case first=>
    refine wp_region_held_drew (S:=fun U=>(U.cell? ⟨p,1,none⟩=some (.slice la ln lc)∧U.cell? ⟨p,2,none⟩=some (.int .i64 h)∧p<U.heap.size)∧U.cell? ⟨w.heap.size,0,none⟩=some (.int .i64 th)∧U.cell? ⟨w.heap.size,1,none⟩=some (.slice ai ni ci)∧U.cell? ⟨w.heap.size,2,none⟩=some (.slice ao no co)∧w.heap.size<U.heap.size) (by kernel_rfl) ((Za KS) _ (Zi _)) (fun Zic=>?_)
    refine tk 0 ⟨some 37,.move (.tmp 0),111, "till.go:47",#[],none⟩ ?_ rfl ?_ Zic ?_
    rotate_left
    ·(intro U hSw;obtain⟨⟨s1,s2,s3⟩,s4,s5,s6,s7⟩:=hSw;go_simp;first|done|with_reducible rfl)
    (try simp only[Act.put,ZA,ZB,ZC])
    refine tk 1 ⟨some 38,.nilCheck (.tmp 37),0, "till.go:47",#[⟨0,.data⟩],none⟩ ?_ rfl ?_ Zic ?_
    rotate_left
    ·(intro U hSw;obtain⟨⟨s1,s2,s3⟩,s4,s5,s6,s7⟩:=hSw;go_simp;first|done|with_reducible rfl)
    (try simp only[Act.put,ZA,ZB,ZC])
    refine tk 2 ⟨some 39,.fieldAddr 116 (.tmp 38) 1,0, "till.go:47",#[⟨1,.data⟩],none⟩ ?_ rfl ?_ Zic ?_
    rotate_left
    ·(intro U hSw;obtain⟨⟨s1,s2,s3⟩,s4,s5,s6,s7⟩:=hSw;go_simp;first|done|with_reducible rfl)
    (try simp only[Act.put,ZA,ZB,ZC])
    refine tk 3 ⟨some 40,.load 29 (.tmp 39),29, "till.go:47",#[⟨2,.data⟩],none⟩ ?_ rfl ?_ Zic ?_
    rotate_left
    ·(intro U hSw;obtain⟨⟨s1,s2,s3⟩,s4,s5,s6,s7⟩:=hSw;go_simp;first|done|with_reducible rfl)
    (try simp only[Act.put,ZA,ZB,ZC])
    refine tk 4 ⟨some 41,.load 52 (.tmp 3),52, "till.go:47",#[],none⟩ ?_ rfl ?_ Zic ?_
    rotate_left
    ·(intro U hSw;obtain⟨⟨s1,s2,s3⟩,s4,s5,s6,s7⟩:=hSw;go_simp;first|done|with_reducible rfl)
    (try simp only[Act.put,ZA,ZB,ZC])
    refine tk 5 ⟨some 42,.move (.tmp 8),3, "till.go:47",#[],none⟩ ?_ rfl ?_ Zic ?_
    rotate_left
    ·(intro U hSw;obtain⟨⟨s1,s2,s3⟩,s4,s5,s6,s7⟩:=hSw;go_simp;first|done|with_reducible rfl)
    (try simp only[Act.put,ZA,ZB,ZC])
    refine tk 6 ⟨some 43,.move (.tmp 0),111, "till.go:47",#[],none⟩ ?_ rfl ?_ Zic ?_
    rotate_left
    ·(intro U hSw;obtain⟨⟨s1,s2,s3⟩,s4,s5,s6,s7⟩:=hSw;go_simp;first|done|with_reducible rfl)
    (try simp only[Act.put,ZA,ZB,ZC])
    refine tk 7 ⟨some 44,.nilCheck (.tmp 43),0, "till.go:47",#[⟨6,.data⟩],none⟩ ?_ rfl ?_ Zic ?_
    rotate_left
    ·(intro U hSw;obtain⟨⟨s1,s2,s3⟩,s4,s5,s6,s7⟩:=hSw;go_simp;first|done|with_reducible rfl)
    (try simp only[Act.put,ZA,ZB,ZC])
    refine tk 8 ⟨some 45,.fieldAddr 116 (.tmp 44) 2,0, "till.go:47",#[⟨7,.data⟩],none⟩ ?_ rfl ?_ Zic ?_
    rotate_left
    ·(intro U hSw;obtain⟨⟨s1,s2,s3⟩,s4,s5,s6,s7⟩:=hSw;go_simp;first|done|with_reducible rfl)
    (try simp only[Act.put,ZA,ZB,ZC])
    refine tk 9 ⟨some 46,.load 3 (.tmp 45),3, "till.go:47",#[⟨8,.data⟩],none⟩ ?_ rfl ?_ Zic ?_
    rotate_left
    ·(intro U hSw;obtain⟨⟨s1,s2,s3⟩,s4,s5,s6,s7⟩:=hSw;go_simp;first|done|with_reducible rfl)
    (try simp only[Act.put,ZA,ZB,ZC])
    refine wpAnyH_ready (rs:=[10,15]) (by kernel_rfl) (by simp) ?_
    refine AllReadyH.cons (o:=⟨some 47,.call { callee:=Callee.value (.func 98),args:=#[.tmp 40,.tmp 41,.tmp 42,.tmp 46],argTypes:=#[29,52,3,3] },131, "till.go:47",#[⟨3,.data⟩,⟨4,.data⟩,⟨5,.data⟩,⟨9,.data⟩],none⟩) rfl (fun KQ hK=>?_) (AllReadyH.cons (o:=⟨some 10,.alloc 130,0, "till.go:47",#[],none⟩) rfl (fun KQ hK=>?_) AllReadyH.nil)
    ·refine Yf (by kernel_rfl) 98 #[.slice la ln lc,.agg #[.int .i64 th,.slice ai ni ci,.slice ao no co],.int .i64 nm,.int .i64 h] (by kernel_rfl) ((Za C3) V.drew (Za HVD)) ?_
     rintro e w5 ⟨am,nm5,cm,sa,ns,cs,rfl,hF5,sM5,-,-,hb5⟩
     refine⟨_,rfl,?_⟩
     have hb:Below V.heap.size V w5:=Ze (Zi V) hb5
     refine hK.out _ _ ((Za KS) _ hb) (fun Zid=>?_)
     clear hK KQ Zic
     have Zic:=Zid
     clear Zid
     (try simp only[Act.put,ZA,ZB,ZC])
     refine tk 11 ⟨some 36,.move (.tmp 47),131, "till.go:47",#[⟨10,.data⟩],none⟩ ?_ rfl ?_ Zic ?_
     rotate_left
     ·(intro U hSw;(try dsimp only at hSw);go_simp;first|done|with_reducible rfl)
     (try simp only[Act.put,ZA,ZB,ZC])
     refine tk 12 ⟨some 48,.extract (.tmp 36) 0,29, "till.go:47",#[⟨11,.data⟩],none⟩ ?_ rfl ?_ Zic ?_
     rotate_left
     ·(intro U hSw;(try dsimp only at hSw);go_simp;first|done|with_reducible rfl)
     (try simp only[Act.put,ZA,ZB,ZC])
     refine tk 13 ⟨some 49,.extract (.tmp 36) 1,130, "till.go:47",#[⟨11,.data⟩,⟨16,.gcOnly .lateStores⟩],none⟩ ?_ rfl ?_ Zic ?_
     rotate_left
     ·(intro U hSw;(try dsimp only at hSw);go_simp;first|done|with_reducible rfl)
     (try simp only[Act.put,ZA,ZB,ZC])
     refine tk 14 ⟨some 50,.extract (.tmp 36) 2,30, "till.go:47",#[⟨11,.data⟩,⟨17,.gcOnly .lateStores⟩],none⟩ ?_ rfl ?_ Zic ?_
     rotate_left
     ·(intro U hSw;(try dsimp only at hSw);go_simp;first|done|with_reducible rfl)
     (try simp only[Act.put,ZA,ZB,ZC])
     refine wpAnyH_ready (rs:=[15]) (by kernel_rfl) (by simp) ?_
     refine AllReadyH.cons (o:=⟨some 10,.alloc 130,0, "till.go:47",#[],none⟩) rfl (fun KQ hK=>?_) AllReadyH.nil
     go_simp
     refine hK.out _ _ ((Za KS) _ (Ze hb (Zf _ _))) (fun Zid=>?_)
     clear hK KQ Zic
     have Zic:=Zid
     clear Zid
     (try simp only[Act.put,ZA,ZB,ZC])
     refine tk 16 ⟨some 9,.assign (.tmp 48),29, "till.go:47",#[⟨12,.data⟩,⟨10,.chain⟩,⟨0,.phase⟩,⟨1,.phase⟩,⟨2,.phase⟩,⟨3,.phase⟩,⟨4,.phase⟩,⟨5,.phase⟩,⟨6,.phase⟩,⟨7,.phase⟩,⟨8,.phase⟩,⟨9,.phase⟩,⟨10,.phase⟩,⟨11,.phase⟩,⟨12,.phase⟩,⟨13,.textOnly .lateStores⟩,⟨14,.textOnly .lateStores⟩,⟨15,.phase⟩],none⟩ ?_ rfl ?_ Zic ?_
     rotate_left
     ·(intro U hSw;(try dsimp only at hSw);go_simp;first|done|with_reducible rfl)
     (try simp only[Act.put,ZA,ZB,ZC])
     refine wpAnyH_ready (rs:=[17]) (by kernel_rfl) (by simp) ?_
     refine AllReadyH.cons (o:=⟨none,.store 130 (.tmp 10) (.tmp 49),0, "till.go:47",#[⟨15,.data⟩,⟨13,.data⟩,⟨16,.chain⟩,⟨0,.phase⟩,⟨1,.phase⟩,⟨2,.phase⟩,⟨3,.phase⟩,⟨4,.phase⟩,⟨5,.phase⟩,⟨6,.phase⟩,⟨7,.phase⟩,⟨8,.phase⟩,⟨9,.phase⟩,⟨10,.phase⟩,⟨11,.phase⟩,⟨12,.phase⟩,⟨13,.phase⟩,⟨14,.textOnly .lateStores⟩,⟨15,.phase⟩,⟨16,.phase⟩],none⟩) rfl (fun KQ hK=>?_) AllReadyH.nil
     go_simp
     refine hK.out _ _ ((Za KS) _ (Ze hb (Zf _ _))) (fun Zid=>?_)
     clear hK KQ Zic
     have Zic:=Zid
     clear Zid
     (try simp only[Act.put])
     refine tk 18 ⟨some 5,.assign (.tmp 50),30, "till.go:47",#[⟨14,.data⟩,⟨17,.chain⟩,⟨0,.phase⟩,⟨1,.phase⟩,⟨2,.phase⟩,⟨3,.phase⟩,⟨4,.phase⟩,⟨5,.phase⟩,⟨6,.phase⟩,⟨7,.phase⟩,⟨8,.phase⟩,⟨9,.phase⟩,⟨10,.phase⟩,⟨11,.phase⟩,⟨12,.phase⟩,⟨13,.phase⟩,⟨14,.phase⟩,⟨15,.phase⟩,⟨16,.phase⟩,⟨17,.phase⟩],none⟩ ?_ rfl ?_ Zic ?_
     rotate_left
     ·(intro U hSw;(try dsimp only at hSw);go_simp;first|done|with_reducible rfl)
     (try simp only[Act.put,ZA,ZB,ZC])
     refine wpAnyH_done (by kernel_rfl) ?_ _
     clear Zic
     go_wp2_with fail
     go_meet
     case rel=>exact⟨rfl,Fb hF5 (Nat.le_refl _) sM5 hb (Gr.of (Zf _ _))⟩
    ·go_simp
     obtain⟨v6,hv6⟩:∃ v6,v6=(V.alloc (.cells #[.slice none 0 0] 130)).drew:=⟨_,rfl⟩
     have h6:=Za HV1
     have hbA:=Za HVA
     rw[←hv6] at h6 hbA
     rw[←hv6]
     have hb6:Below V.heap.size V v6:=by rw[hv6];exact Ze (Zf _ _) (Zi _)
     have hv6s:v6.heap.size=V.heap.size+1:=by rw[hv6];simp
     refine hK.out _ _ ((Za KS) _ hb6) (fun Zid=>?_)
     clear hK KQ Zic
     have Zic:=Zid
     clear Zid
     (try simp only[Act.put,ZA,ZB,ZC])
     refine wpAnyH_ready (rs:=[10]) (by kernel_rfl) (by simp) ?_
     refine AllReadyH.cons (o:=⟨some 47,.call { callee:=Callee.value (.func 98),args:=#[.tmp 40,.tmp 41,.tmp 42,.tmp 46],argTypes:=#[29,52,3,3] },131, "till.go:47",#[⟨3,.data⟩,⟨4,.data⟩,⟨5,.data⟩,⟨9,.data⟩],none⟩) rfl (fun KQ hK=>?_) AllReadyH.nil
     refine Yf (by kernel_rfl) 98 #[.slice la ln lc,.agg #[.int .i64 th,.slice ai ni ci,.slice ao no co],.int .i64 nm,.int .i64 h] (by kernel_rfl) ((Za C3) v6 hbA) ?_
     rintro e w5 ⟨am,nm5,cm,sa,ns,cs,rfl,hF5,sM5,-,-,hb5⟩
     refine⟨_,rfl,?_⟩
     have hb:Below V.heap.size V w5:=Ze hb6 hb5
     have h5:=(hb5.block _ (lt_of_block h6)).trans h6
     have u50:=Zd (X:=[.slice none 0 0]) h5 0 _ rfl
     have u5f:=Zh h5 0
     have u5l:=lt_of_block h5
     refine hK.out _ _ ((Za KS) _ hb) (fun Zid=>?_)
     clear hK KQ Zic
     have Zic:=Zid
     clear Zid
     (try simp only[Act.put,ZA,ZB,ZC])
     refine tk 11 ⟨some 36,.move (.tmp 47),131, "till.go:47",#[⟨10,.data⟩],none⟩ ?_ rfl ?_ Zic ?_
     rotate_left
     ·(intro U hSw;(try dsimp only at hSw);go_simp;first|done|with_reducible rfl)
     (try simp only[Act.put,ZA,ZB,ZC])
     refine tk 12 ⟨some 48,.extract (.tmp 36) 0,29, "till.go:47",#[⟨11,.data⟩],none⟩ ?_ rfl ?_ Zic ?_
     rotate_left
     ·(intro U hSw;(try dsimp only at hSw);go_simp;first|done|with_reducible rfl)
     (try simp only[Act.put,ZA,ZB,ZC])
     refine tk 13 ⟨some 49,.extract (.tmp 36) 1,130, "till.go:47",#[⟨11,.data⟩,⟨16,.gcOnly .lateStores⟩],none⟩ ?_ rfl ?_ Zic ?_
     rotate_left
     ·(intro U hSw;(try dsimp only at hSw);go_simp;first|done|with_reducible rfl)
     (try simp only[Act.put,ZA,ZB,ZC])
     refine tk 14 ⟨some 50,.extract (.tmp 36) 2,30, "till.go:47",#[⟨11,.data⟩,⟨17,.gcOnly .lateStores⟩],none⟩ ?_ rfl ?_ Zic ?_
     rotate_left
     ·(intro U hSw;(try dsimp only at hSw);go_simp;first|done|with_reducible rfl)
     (try simp only[Act.put,ZA,ZB,ZC])
     refine tk 16 ⟨some 9,.assign (.tmp 48),29, "till.go:47",#[⟨12,.data⟩,⟨10,.chain⟩,⟨0,.phase⟩,⟨1,.phase⟩,⟨2,.phase⟩,⟨3,.phase⟩,⟨4,.phase⟩,⟨5,.phase⟩,⟨6,.phase⟩,⟨7,.phase⟩,⟨8,.phase⟩,⟨9,.phase⟩,⟨10,.phase⟩,⟨11,.phase⟩,⟨12,.phase⟩,⟨13,.textOnly .lateStores⟩,⟨14,.textOnly .lateStores⟩,⟨15,.phase⟩],none⟩ ?_ rfl ?_ Zic ?_
     rotate_left
     ·(intro U hSw;(try dsimp only at hSw);go_simp;first|done|with_reducible rfl)
     (try simp only[Act.put,ZA,ZB,ZC])
     refine wpAnyH_ready (rs:=[17]) (by kernel_rfl) (by simp) ?_
     refine AllReadyH.cons (o:=⟨none,.store 130 (.tmp 10) (.tmp 49),0, "till.go:47",#[⟨15,.data⟩,⟨13,.data⟩,⟨16,.chain⟩,⟨0,.phase⟩,⟨1,.phase⟩,⟨2,.phase⟩,⟨3,.phase⟩,⟨4,.phase⟩,⟨5,.phase⟩,⟨6,.phase⟩,⟨7,.phase⟩,⟨8,.phase⟩,⟨9,.phase⟩,⟨10,.phase⟩,⟨11,.phase⟩,⟨12,.phase⟩,⟨13,.phase⟩,⟨14,.textOnly .lateStores⟩,⟨15,.phase⟩,⟨16,.phase⟩],none⟩) rfl (fun KQ hK=>?_) AllReadyH.nil
     go_simp
     refine hK.out _ _ ((Za KS) _ (hb.setCell (p:=⟨V.heap.size,0,none⟩) (Nat.le_refl _) _)) (fun Zid=>?_)
     clear hK KQ Zic
     have Zic:=Zid
     clear Zid
     (try simp only[Act.put])
     refine tk 18 ⟨some 5,.assign (.tmp 50),30, "till.go:47",#[⟨14,.data⟩,⟨17,.chain⟩,⟨0,.phase⟩,⟨1,.phase⟩,⟨2,.phase⟩,⟨3,.phase⟩,⟨4,.phase⟩,⟨5,.phase⟩,⟨6,.phase⟩,⟨7,.phase⟩,⟨8,.phase⟩,⟨9,.phase⟩,⟨10,.phase⟩,⟨11,.phase⟩,⟨12,.phase⟩,⟨13,.phase⟩,⟨14,.phase⟩,⟨15,.phase⟩,⟨16,.phase⟩,⟨17,.phase⟩],none⟩ ?_ rfl ?_ Zic ?_
     rotate_left
     ·(intro U hSw;(try dsimp only at hSw);go_simp;first|done|with_reducible rfl)
     (try simp only[Act.put,ZA,ZB,ZC])
     refine wpAnyH_done (by kernel_rfl) ?_ _
     clear Zic
     go_wp2_with fail
     go_meet
     case rel=>exact⟨rfl,Fb hF5 (by omega) sM5 hb ((Gr.refl w5 _).one V.heap.size 0 (.inl ⟨by omega,Nat.le_refl _⟩) _)⟩
   case rest=>
    obtain⟨rfl,hc⟩:=hcut
    obtain⟨am,nm5,cm,rfl,hF5,sM5,hb5⟩:=Za hc
    have hbw:=Ze (Za HBV) hb5
    have HBC:=Zb hbw
    have HB5:=Zb hb5
    have HF5:=Zb hF5
    have HSM5:=Zb sM5
    have p5:=(Za HPP) _ hbw
    have q50:=Zd p5 0 _ rfl
    have q51:=Zd p5 1 _ rfl
    have q52:=Zd p5 2 _ rfl
    have q5l:=lt_of_block p5
    have CM:=Zb (fun U (hu:Below wc.heap.size wc U) (h0:x3=0) s2 (hs:Zp M=s2)=>Lj am nm5 cm M s2 U ((hF5 wc (Gr.refl _ _)).later hu) ((Za hRM) h0).1 hs)
    clear hc hF5 sM5 hb5 hbw p5 t20 t21 t22 t2l q20 q21 q22 q2l KS HVD HVA HV1 C3
    by_cases e4:x3=0
    ·obtain⟨hRM1,hRM2,hRM3⟩:=(Za hRM) e4
     obtain⟨s2,hs2⟩:∃ s2,Zp M=s2:=⟨_,rfl⟩
     rw[hs2] at hRM2 hRM3
     have CM2:=Zb (fun U hu=>(Za CM) U hu e4 s2 hs2)
     have HS2:=Zb hs2
     have HXE:Hid (x=0∧K'=K1∧C'=M):=by have:=Za HX;rw[if_neg (fun q=>q rfl),if_neg e2,if_neg (fun q=>q rfl),if_neg (fun q=>q e4)] at this;injection this with h1 h2;injection h2 with h2 h3;exact⟨h1.symm,h2.symm,h3.symm⟩
     subst e4
     clear hs2 CM HX hRM hRM1
     have C5:=Zb ((Za C4) wc (Za HBC))
     go_wp2_with fail
     refine (Za C5).mono ?_
     rintro e w6 ⟨rfl,hb6⟩
     have C6:=Zb ((Za CM2) w6 hb6)
     have HB6:=Zb hb6
     clear hb6 C5 C4
     go_wp2_with fail
     refine (Za C6).mono ?_
     rintro e w7 ⟨rfl,hb7⟩
     have hb57:=Ze (Za HB6) hb7
     have hbw7:=Ze (Za HBC) hb57
     have p7:=(Za HPP) _ hbw7
     have q70:=Zd p7 0 _ rfl
     have q71:=Zd p7 1 _ rfl
     have q7f0:=Zh p7 0
     have q7f1:=Zh p7 1
     have q7l:=lt_of_block p7
     have k7:=((Ze (Za HB5) hb57).block _ (lt_of_block (Za HV0))).trans (Za HV0)
     have k70:=Zd k7 0 _ rfl
     have k7l:=lt_of_block k7
     have hpk:p≠w2.heap.size:=by have:=(Za HB2).size;omega
     have hpk2:w2.heap.size≠p:=fun q=>hpk q.symm
     have G7:Gr w7 ((w7.setCell ⟨p,0,none⟩ (.slice ka' kn' kc')).setCell ⟨p,1,none⟩ (.slice am nm5 cm)) (fun q=>q=p):=((Gr.refl w7 (fun q=>q=p)).one p 0 (.inl rfl) _).one p 1 (.inl rfl) _
     have HFIN:Hid (DoR w ((w7.setCell ⟨p,0,none⟩ (.slice ka' kn' kc')).setCell ⟨p,1,none⟩ (.slice am nm5 cm)) p x K' C' h (Zp C - Zp C') (.returned (.tuple #[.int .i64 (s1 - s2),.int .i64 0]))):=by
      obtain⟨rfl,rfl,rfl⟩:=Za HXE
      rw[Za HS1,Za HS2]
      refine .inr ⟨rfl,rfl,(Gr.of hbw7).trans G7,ka',kn',kc',am,nm5,cm,Tr.set_cells (Tr.set_cells p7 0 _) 1 _,fun W g2=>⟨(Za HF2) W ?_,(Za HF5) W ?_⟩,Za HSK2,Za HSM5⟩
      ·exact ((Gr.of (Ze (Za HB2V) (Ze (Za HB5) hb57))).trans (G7.mono (fun q _ e=>by rw[e];exact Nat.lt_of_lt_of_le hpl (Za HB1).size))).trans (g2.mono (fun q _ e=>Nat.lt_of_lt_of_le e (Za HB1).size))
      ·exact ((Gr.of hb57).trans (G7.mono (fun q _ e=>by rw[e];exact Nat.lt_of_lt_of_le hpl (Za HBV).size))).trans (g2.mono (fun q _ e=>Nat.lt_of_lt_of_le e (Za HBV).size))
     clear G7 hb57 hbw7 p7 k7 hb7 C6 CM2
     go_wp2
     go_ret2
     exact Za HFIN
    ·have gx3:(x3 != 0)=true:=by simp[e4]
     have HXE:Hid (x=x3):=by have:=Za HX;rw[if_neg (fun q=>q rfl),if_neg e2,if_neg (fun q=>q rfl),if_pos e4] at this;injection this with this _;exact this.symm
     clear HX CM
     go_wp2
     go_ret2
     exact DoR.err e4 (Za HXE) (Za HBC)
  ·have gx2:(x2 != 0)=true:=by simp[e3]
   have HXE:Hid (x=x2):=by have:=Za HX;rw[if_neg (fun q=>q rfl),if_neg e2,if_pos e3] at this;injection this with this _;exact this.symm
   clear HX
   go_wp2
   rw[←hV]
   go_ret2
   exact DoR.err e3 (Za HXE) (Za HBV)
 ·have gx1:(x1 != 0)=true:=by simp[e1]
  have HXE:Hid (x=x1):=by have:=Za HX;rw[if_pos e1] at this;injection this with this _;exact this.symm
  clear HX
  go_wp2
  go_ret2
  exact DoR.err e1 (Za HXE) (Za HB1)
end Go.Proofs.YtpikejjiignchaaGreatDoor
