import Derived.Test.YtpikejjiignchaaGreatDoorG17
set_option maxHeartbeats 12800000
set_option maxRecDepth 10000
namespace Go.Proofs.YtpikejjiignchaaGreatDoor
open Go.RowKit
theorem M3(a:Option Addr)(n c:Nat)(L:List Zg)(h:Int)(ai ao:Option Addr)(ni ci no co:Nat)(I:List InD)(O:List Zw)(x:Int)(w:World)(hL:CoinsAt w a n L)(hI:InsAt w ai ni I)(hO:OutsAt w ao no O)(sI:SlOk ai ni ci)(hx:Qt L (h,I,O)=x) :
  Calls Tryz.prog 161 #[.slice a n c,.agg #[.int .i64 h,.slice ai ni ci,.slice ao no co]] w fun e w'=>e = .returned (.int .i64 x)∧Below w.heap.size w w':=by
 obtain⟨X0,hX0⟩:∃ X0,X0=w.alloc (.cells #[.int .i64 h,.slice ai ni ci,.slice ao no co] 52):=⟨_,rfl⟩
 have hb0:Below w.heap.size w X0:=by rw[hX0];exact Zf _ _
 have hX1:X0.heap[w.heap.size]? = some (.cells [.int .i64 h,.slice ai ni ci,.slice ao no co].toArray 52 (0,0)):=by rw[hX0];exact Zl _ _ _ _ _
 obtain⟨y,hy⟩:∃ y,Yi L=y:=⟨_,rfl⟩
 have C1:=Zb (U6 a n c L y X0 (hL.later hb0) hy)
 have TX:=Zb (fun w' (hb:Below X0.heap.size X0 w')=>Un h ai ao ni ci no co I O w' ((hI.later hb0).later hb) ((hO.later hb0).later hb) sI)
 have HX1:=Zb hX1
 have HB0:=Zb hb0
 unfold Qt at hx
 rw[hy] at hx
 clear hL hI hO sI hX1 hb0 hy
 by_cases h0:y=0
 ·subst h0
  rw[if_neg (by decide)] at hx
  rw[hx] at TX
  clear hx
  go_enter Tryz.func161,Tryz.ntmps161
  go_wp2_with fail
  rw[←hX0]
  clear hX0
  refine (Za C1).mono ?_
  rintro e w2 ⟨rfl,hb2⟩
  have hh:=(hb2.block _ (lt_of_block (Za HX1))).trans (Za HX1)
  have c0:=Zd hh 0 _ rfl
  have c1:=Zd hh 1 _ rfl
  have c2:=Zd hh 2 _ rfl
  have hl:=lt_of_block hh
  have C2:=Zb ((Za TX) w2 hb2)
  have HB2:=Zb (Ze (Za HB0) hb2)
  clear hh hb2
  go_wp2_with fail
  refine (Za C2).mono ?_
  rintro e w3 ⟨rfl,hb3⟩
  have HB3:=Zb (Ze (Za HB2) hb3)
  clear hb3
  go_wp2
  go_ret
  exact⟨rfl,Za HB3⟩
 ·rw[if_pos h0] at hx
  subst hx
  have g:(y != 0)=true:=by simp[h0]
  clear h0
  go_enter Tryz.func161,Tryz.ntmps161
  go_wp2_with fail
  rw[←hX0]
  clear hX0
  refine (Za C1).mono ?_
  rintro e w2 ⟨rfl,hb2⟩
  have HB2:=Zb (Ze (Za HB0) hb2)
  clear hb2
  go_wp2
  go_ret
  exact⟨rfl,Za HB2⟩
theorem Kx(a:Option Addr)(n c:Nat)(L:List Zg)(h:Int)(ai ao:Option Addr)(ni ci no co:Nat)(I:List InD)(O:List Zw)(name ht:Int)(x:Int)(w:World)(hL:CoinsAt w a n L)(hI:InsAt w ai ni I)(hO:OutsAt w ao no O)(sI:SlOk ai ni ci)(hx:Xc L (h,I,O) name ht=x) :
  Calls Tryz.prog 139 #[.slice a n c,.agg #[.int .i64 h,.slice ai ni ci,.slice ao no co],.int .i64 name,.int .i64 ht] w fun e w'=>e = .returned (.int .i64 x)∧Below w.heap.size w w':=by
 obtain⟨X0,hX0⟩:∃ X0,X0=w.alloc (.cells #[.int .i64 h,.slice ai ni ci,.slice ao no co] 52):=⟨_,rfl⟩
 have hb0:Below w.heap.size w X0:=by rw[hX0];exact Zf _ _
 have hX1:X0.heap[w.heap.size]? = some (.cells [.int .i64 h,.slice ai ni ci,.slice ao no co].toArray 52 (0,0)):=by rw[hX0];exact Zl _ _ _ _ _
 obtain⟨y,hy⟩:∃ y,Qt L (h,I,O)=y:=⟨_,rfl⟩
 have C1:=Zb (M3 a n c L h ai ao ni ci no co I O y X0 (hL.later hb0) (hI.later hb0) (hO.later hb0) sI hy)
 have hIl:=hI.1
 have x0:=Zd hX1 0 _ rfl
 have x1:=Zd hX1 1 _ rfl
 have x2:=Zd hX1 2 _ rfl
 have HX1:=Zb hX1
 have HB0:=Zb hb0
 unfold Xc at hx
 rw[hy] at hx
 have hR:isR (h,I,O)=decide (ni=0):=by unfold isR;rw[←hIl]
 rw[hR] at hx
 clear hL hI hO sI hX1 hb0 hy hR hIl
 by_cases h0:y=0
 ·subst h0
  rw[if_neg (by decide)] at hx
  cases hN:okN name with
  | false=>
   rw[hN,Bool.false_and,if_pos rfl] at hx
   subst hx
   have W1:=Zb (fun w=>Yq name 1 120 false w (by rw[←hN];rfl))
   clear hN
   go_enter Tryz.func139,Tryz.ntmps139
   go_wp2_with fail
   rw[←hX0]
   clear hX0
   refine (Za C1).mono ?_
   rintro e w2 ⟨rfl,hb2⟩
   have HB2:=Zb (Ze (Za HB0) hb2)
   clear hb2
   go_wp2_with fail
   refine ((Za W1) _).mono ?_
   rintro e w3 ⟨rfl,rfl⟩
   go_wp2
   go_ret
   exact⟨rfl,Za HB2⟩
  | true=>
   rw[hN,Bool.true_and] at hx
   have W1:=Zb (fun w=>Yq name 1 120 true w (by rw[←hN];rfl))
   cases hH:okH ht with
   | false=>
    rw[hH,if_pos rfl] at hx
    subst hx
    have W2:=Zb (fun w=>Vx ht false w hH)
    clear hN hH
    go_enter Tryz.func139,Tryz.ntmps139
    go_wp2_with fail
    rw[←hX0]
    clear hX0
    refine (Za C1).mono ?_
    rintro e w2 ⟨rfl,hb2⟩
    have HB2:=Zb (Ze (Za HB0) hb2)
    clear hb2
    go_wp2_with fail
    refine ((Za W1) _).mono ?_
    rintro e w3 ⟨rfl,rfl⟩
    go_wp2_with fail
    refine ((Za W2) _).mono ?_
    rintro e w3 ⟨rfl,rfl⟩
    go_wp2
    go_ret
    exact⟨rfl,Za HB2⟩
   | true=>
    rw[hH,if_neg (by decide)] at hx
    have W2:=Zb (fun w=>Vx ht true w hH)
    clear hN hH
    have body:∀ (r:Bool) (q:Bool) (hr:decide (ni=0)=r) (hq:(h != ht)=q) (hz:(if r=true∧q=true then (4:Int) else 0)=x),Calls Tryz.prog 139 #[.slice a n c,.agg #[.int .i64 h,.slice ai ni ci,.slice ao no co],.int .i64 name,.int .i64 ht] w fun e w'=>e = .returned (.int .i64 x)∧Below w.heap.size w w':=by
     intro r q hr hq hz
     have IR:=Zb (fun w=>Jf h ai ao ni ci no co r w hr)
     cases r with
     | false=>
      rw[if_neg (by simp)] at hz
      subst hz
      clear hx hr
      go_enter Tryz.func139,Tryz.ntmps139
      go_wp2_with fail
      rw[←hX0]
      clear hX0
      refine (Za C1).mono ?_
      rintro e w2 ⟨rfl,hb2⟩
      have hh:=(hb2.block _ (lt_of_block (Za HX1))).trans (Za HX1)
      have c0:=Zd hh 0 _ rfl
      have c1:=Zd hh 1 _ rfl
      have c2:=Zd hh 2 _ rfl
      have hl:=lt_of_block hh
      have HB2:=Zb (Ze (Za HB0) hb2)
      clear hb2 hh
      go_wp2_with fail
      refine ((Za W1) _).mono ?_
      rintro e w3 ⟨rfl,rfl⟩
      go_wp2_with fail
      refine ((Za W2) _).mono ?_
      rintro e w3 ⟨rfl,rfl⟩
      go_wp2_with fail
      refine ((Za IR) _).mono ?_
      rintro e w3 ⟨rfl,hb3⟩
      have HB3:=Zb (Ze (Za HB2) hb3)
      clear hb3
      go_wp2
      go_ret
      exact⟨rfl,Za HB3⟩
     | true=>
      cases q with
      | false=>
       rw[if_neg (by simp)] at hz
       subst hz
       clear hx hr
       go_enter Tryz.func139,Tryz.ntmps139
       go_wp2_with fail
       rw[←hX0]
       clear hX0
       refine (Za C1).mono ?_
       rintro e w2 ⟨rfl,hb2⟩
       have hh:=(hb2.block _ (lt_of_block (Za HX1))).trans (Za HX1)
       have c0:=Zd hh 0 _ rfl
       have c1:=Zd hh 1 _ rfl
       have c2:=Zd hh 2 _ rfl
       have hl:=lt_of_block hh
       have HH:=Zb hh
       have HB2:=Zb (Ze (Za HB0) hb2)
       clear hb2 hh
       go_wp2_with fail
       refine ((Za W1) _).mono ?_
       rintro e w3 ⟨rfl,rfl⟩
       go_wp2_with fail
       refine ((Za W2) _).mono ?_
       rintro e w3 ⟨rfl,rfl⟩
       go_wp2_with fail
       refine ((Za IR) _).mono ?_
       rintro e w4 ⟨rfl,hb4⟩
       have d0:=Zc hb4 c0
       have hl4:=World.block_lt_of_cell? _ _ d0
       have HB4:=Zb (Ze (Za HB2) hb4)
       clear hb4 c0 c1 c2
       go_wp2
       go_ret
       exact⟨rfl,Za HB4⟩
      | true=>
       rw[if_pos ⟨rfl,rfl⟩] at hz
       subst hz
       clear hx hr
       go_enter Tryz.func139,Tryz.ntmps139
       go_wp2_with fail
       rw[←hX0]
       clear hX0
       refine (Za C1).mono ?_
       rintro e w2 ⟨rfl,hb2⟩
       have hh:=(hb2.block _ (lt_of_block (Za HX1))).trans (Za HX1)
       have c0:=Zd hh 0 _ rfl
       have c1:=Zd hh 1 _ rfl
       have c2:=Zd hh 2 _ rfl
       have hl:=lt_of_block hh
       have HH:=Zb hh
       have HB2:=Zb (Ze (Za HB0) hb2)
       clear hb2 hh
       go_wp2_with fail
       refine ((Za W1) _).mono ?_
       rintro e w3 ⟨rfl,rfl⟩
       go_wp2_with fail
       refine ((Za W2) _).mono ?_
       rintro e w3 ⟨rfl,rfl⟩
       go_wp2_with fail
       refine ((Za IR) _).mono ?_
       rintro e w4 ⟨rfl,hb4⟩
       have d0:=Zc hb4 c0
       have hl4:=World.block_lt_of_cell? _ _ d0
       have HB4:=Zb (Ze (Za HB2) hb4)
       clear hb4 c0 c1 c2
       go_wp2
       go_ret
       exact⟨rfl,Za HB4⟩
    refine body (decide (ni=0)) (h != ht) rfl rfl ?_
    rw[←hx]
    by_cases e1:ni=0 <;> by_cases e2:h=ht <;> simp[e1,e2]
 ·rw[if_pos h0] at hx
  subst hx
  have g:(y != 0)=true:=by simp[h0]
  clear h0
  go_enter Tryz.func139,Tryz.ntmps139
  go_wp2_with fail
  rw[←hX0]
  clear hX0
  refine (Za C1).mono ?_
  rintro e w2 ⟨rfl,hb2⟩
  have HB2:=Zb (Ze (Za HB0) hb2)
  clear hb2
  go_wp2
  go_ret
  exact⟨rfl,Za HB2⟩
theorem Bt:∀ (l:List Int) (s:Int),(sm s l).2=0→∀ x∈l,0≤x∧x≤1000000000
 | [],_,_=>by simp
 | y :: r,s,h=>by
  intro x hx
  unfold sm at h
  split at h
  ·rename_i hy
   split at h
   ·rcases List.mem_cons.1 hx with rfl|hx
    ·exact hy
    ·exact Bt r _ h x hx
   ·cases h
  ·cases h
theorem Wm{t:TxD}(h:Zo t=0):t.2.1.length≤6∧t.2.2.length≤6∧0<t.2.2.length∧Hf t=true∧Zz [] t.2.1=0∧Zx t.2.2=0∧(sm 0 (t.2.2.map (·.1))).2=0:=by
 unfold Zo at h
 split at h
 ·cases h
 rename_i h1
 split at h
 ·cases h
 rename_i h2
 split at h
 ·cases h
 rename_i h3
 split at h
 ·rename_i h4;exact absurd h h4
 rename_i h4
 unfold Zs at h
 split at h
 ·rename_i h5
  exact⟨by omega,by omega,by omega,by simpa using h3,by simpa using h4,h5,h⟩
 ·rename_i h5;exact absurd h h5
theorem Ga{t:TxD}(h:Zo t=0):∀ o∈t.2.2,0≤o.1∧o.1≤1000000000:=fun o ho=>
 Bt _ 0 (Wm h).2.2.2.2.2.2 o.1 (List.mem_map_of_mem ho)
theorem Fk{L:List Zg}{t:TxD}(h:Qt L t=0):Z5 L∧Zo t=0:=by
 unfold Qt at h
 split at h
 ·rename_i h1;exact absurd h h1
 ·rename_i h1;exact⟨(Xa L).1 (by simpa using h1),h⟩
theorem Wz{L:List Zg}{t:TxD}{name h:Int}(q:Xc L t name h=0):Z5 L∧Zo t=0∧okN name=true∧okH h=true∧(t.2.1.length=0→t.1=h):=by
 unfold Xc at q
 split at q
 ·rename_i h1;exact absurd q h1
 rename_i h1
 split at q
 ·cases q
 rename_i h2
 split at q
 ·cases q
 rename_i h3
 obtain⟨r1,r2⟩:=Fk (by simpa using h1)
 rw[Bool.not_eq_false,Bool.and_eq_true] at h2
 refine⟨r1,r2,h2.1,h2.2,fun e=>?_⟩
 refine Decidable.byContradiction fun n=>h3 ⟨by unfold isR;exact decide_eq_true e,n⟩
theorem M7{L:List Zg}{t:TxD}{name h x1 x2 x3 x4 x5:Int}{S2 M2 M4:List Zg}(h1:Xc L t name h=x1)(h2:Zm h t.2.1 [] L=(x2,S2,M2))(h3:Pz S2 t=x3)(h4:Z6 name h (isR t) 0 t.2.2 M2=(x4,M4))(h5:Yi M4=x5) :
  apD L t name h=if x1≠0 then (x1,[],[]) else if x2≠0 then (x2,[],[]) else if x3≠0 then (x3,[],[]) else if x4≠0 then (x4,[],[]) else if x5≠0 then (x5,[],[]) else (0,M4,S2):=by
 unfold apD
 simp only[h1,h2,h3,h4,h5]
theorem Tt{l:List (Int×Int)}(h:chk l=0):l.length≤16:=by
 unfold chk at h
 split at h
 ·cases h
 ·omega
theorem Zq{fn:Func}{p u v:Tmp}{ty:TypeId}(h:fn.results=#[.tmp u,.cell p ty,.tmp v])(tmps:Array Value)(P:Program)(w:World) :
  (results fn tmps).run P w =
   ((asAddr (tmps.getD p undef)).run P w).andThen fun a w₁=>((loadVar ty a).run P w₁).andThen fun x w₂=>.ok (.tuple #[tmps.getD u undef,x,tmps.getD v undef]) w₂:=by
 simp only[results,h]
 simp[Sem.run_bind,Result.andThen]
def ApR(w w':World)(x:Int)(M S:List Zg)(e:Ending):Prop:=
 ∃ am nm cm sa ns cs,e = .returned (.tuple #[.slice am nm cm,.agg #[.slice sa ns cs],.int .i64 x])∧CoinsAt w' am nm M∧SlOk am nm cm∧CoinsAt w' sa ns S∧SlOk sa ns cs∧Below w.heap.size w w'
def ApF(w w':World)(x:Int)(M S:List Zg)(e:Ending):Prop:=
 ∃ am nm cm sa ns cs,e = .returned (.tuple #[.slice am nm cm,.agg #[.slice sa ns cs],.int .i64 x])∧Fresh w.heap.size w' (fun w2=>CoinsAt w2 am nm M)∧SlOk am nm cm∧CoinsAt w' sa ns S∧SlOk sa ns cs∧Below w.heap.size w w'
theorem ApF.plain{w w':World}{x:Int}{M S:List Zg}{e:Ending}(h:ApF w w' x M S e):ApR w w' x M S e:=by
 obtain⟨am,nm,cm,sa,ns,cs,h1,h2,h3⟩:=h
 exact⟨am,nm,cm,sa,ns,cs,h1,h2 _ (Gr.refl _ _),h3⟩
theorem Xm:SlOk none 0 0:=⟨Nat.le_refl _,Nat.zero_le _,fun _=>⟨rfl,rfl⟩⟩
theorem Xl{w w':World}{x y:Int}{M S:List Zg}{b:Nat}{v:Value}(h:(x,M,S)=((y:Int),([]:List Zg),([]:List Zg))∧w.heap.size≤b)(hb:Below w.heap.size w w'):ApF w (w'.setCell ⟨b,0,none⟩ v) x M S (.returned (.tuple #[.slice none 0 0,.agg #[.slice none 0 0],.int .i64 y])):=by
 obtain⟨h1,h2⟩:=h
 injection h1 with h1 h3
 injection h3 with h3 h4
 subst h1 h3 h4
 exact⟨none,0,0,none,0,0,rfl,fun _ _=>RowsAt.nil _ _,Xm,RowsAt.nil _ _,Xm,hb.setCell (p:=⟨b,0,none⟩) h2 _⟩
theorem Fm(a:Option Addr)(n c:Nat)(L:List Zg)(h:Int)(ai ao:Option Addr)(ni ci no co:Nat)(I:List InD)(O:List Zw)(name ht:Int)(x:Int)(M S:List Zg)(w:World)(hL:CoinsAt w a n L)(sL:SlOk a n c)(hI:InsAt w ai ni I)(hO:OutsAt w ao no O)(sI:SlOk ai ni ci)(hx:apD L (h,I,O) name ht=(x,M,S)) :
  Calls Tryz.prog 98 #[.slice a n c,.agg #[.int .i64 h,.slice ai ni ci,.slice ao no co],.int .i64 name,.int .i64 ht] w fun e w'=>ApF w w' x M S e:=by
 obtain⟨X0,hX0⟩:∃ X0,X0=(w.alloc (.cells #[.int .i64 h,.slice ai ni ci,.slice ao no co] 52)).alloc (.cells #[.slice none 0 0] 130):=⟨_,rfl⟩
 have hb0:Below w.heap.size w X0:=by rw[hX0];exact Ze (Zf _ _) (Zf _ _)
 have hX1:X0.heap[w.heap.size]? = some (.cells [.int .i64 h,.slice ai ni ci,.slice ao no co].toArray 52 (0,0)):=by
  rw[hX0,Below.heap_alloc _ _ _ (by simp)];exact Zl _ _ _ _ _
 have hX2:X0.heap[w.heap.size+1]? = some (.cells [.slice none 0 0].toArray 130 (0,0)):=by
  rw[hX0]
  have:=heap_alloc_new (w.alloc (.cells #[.int .i64 h,.slice ai ni ci,.slice ao no co] 52)) (.cells #[.slice none 0 0] 130)
  rw[show (w.alloc (.cells #[.int .i64 h,.slice ai ni ci,.slice ao no co] 52)).heap.size=w.heap.size+1 by simp] at this
  exact this
 obtain⟨x1,h1⟩:∃ x1,Xc L (h,I,O) name ht=x1:=⟨_,rfl⟩
 obtain⟨⟨x2,S2,M2⟩,h2⟩:∃ r,Zm ht I [] L=r:=⟨_,rfl⟩
 obtain⟨x3,h3⟩:∃ x3,Pz S2 (h,I,O)=x3:=⟨_,rfl⟩
 obtain⟨⟨x4,M4⟩,h4⟩:∃ r,Z6 name ht (isR (h,I,O)) 0 O M2=r:=⟨_,rfl⟩
 obtain⟨x5,h5⟩:∃ x5,Yi M4=x5:=⟨_,rfl⟩
 rw[M7 h1 h2 h3 h4 h5] at hx
 have hR:isR (h,I,O)=decide (ni=0):=by unfold isR;rw[←hI.1]
 have C1:=Zb (Kx a n c L h ai ao ni ci no co I O name ht x1 X0 (hL.later hb0) (hI.later hb0) (hO.later hb0) sI h1)
 have HX1:=Zb hX1
 have HX2:=Zb hX2
 have HB0:=Zb hb0
 by_cases e1:x1=0
 ·subst e1
  rw[if_neg (by decide)] at hx
  obtain⟨hRC,hTx,hName,hHt,_⟩:=Wz h1
  obtain⟨t1,t2,t3,_⟩:=Wm hTx
  have hni:ni≤6:=by rw[←hI.1];exact t1
  have hno:no≤6:=by rw[←hO.1];exact t2
  have hn:n≤720:=by rw[←hL.1];exact hRC.len
  have hob:=Ga hTx
  have OPN:=Zb (fun w' (hb:Below X0.heap.size X0 w')=>Zba a n c L w' (by omega) ((hL.later hb0).later hb) sL)
  have HI:=Zb (fun w' (hb:Below X0.heap.size X0 w')=>(hI.later hb0).later hb)
  have HO:=Zb (fun w' (hb:Below X0.heap.size X0 w')=>(hO.later hb0).later hb)
  have HRC:=Zb hRC
  have HOB:=Zb hob
  have H2:=Zb h2
  have H3:=Zb h3
  have H4:=Zb h4
  have H5:=Zb h5
  have HR:=Zb hR
  have HX:=Zb hx
  have HZL:=Zb hL.1
  have hsz:w.heap.size+1<X0.heap.size:=lt_of_block hX2
  have x0:=Zd hX1 0 _ rfl
  have x1:=Zd hX1 1 _ rfl
  have x2':=Zd hX1 2 _ rfl
  clear hL sL hI hO sI h1 hX1 hX2 hb0 hRC hTx hName hHt t1 t2 t3 hob h2 h3 h4 h5 hR hx
  go_enter Tryz.func98,Tryz.ntmps98
  go_wp2_with fail
  rw[←hX0]
  clear hX0
  refine (Za C1).mono ?_
  rintro e w2 ⟨rfl,hb2⟩
  have OP2:=Zb ((Za OPN) w2 hb2)
  have HI2:=Zb ((Za HI) w2 hb2)
  have HO2:=Zb ((Za HO) w2 hb2)
  have hh2:=(hb2.block _ (lt_of_block (Za HX1))).trans (Za HX1)
  have hu2:=(hb2.block _ (lt_of_block (Za HX2))).trans (Za HX2)
  have HH2:=Zb hh2
  have HU2:=Zb hu2
  have HB2:=Zb (Ze (Za HB0) hb2)
  clear hb2 hh2 hu2 x0 x1 x2' OPN HI HO C1
  go_wp2_with fail
  refine (Za OP2).mono ?_
  rintro e w3 ⟨p,v,K,rfl,hK,hP3⟩
  have hKl:K.length=n:=by rw[←Za HZL,←hK,List.length_map]
  have hsrt:Srt (K.map (·.1)):=by rw[hK];exact (Za HRC).srt
  have hone:∀ z∈K,ck1 z.1=0:=fun z hz=>(Za HRC).one z.1 (by rw[←hK];exact List.mem_map_of_mem hz)
  have SP:=Zb (Zbt w2 w3 p v K ai ni ci I ht x2 S2 M2 hP3 hsrt (by omega) hone (Za HI2) hni (by rw[hK];exact Za H2))
  have hh3:=(hP3.bel.block _ (lt_of_block (Za HH2))).trans (Za HH2)
  have c1:=Zd hh3 1 _ rfl
  have hl3:=lt_of_block hh3
  have HONE:=Zb hone
  have HKL:=Zb hKl
  have hw2:w.heap.size+1<w2.heap.size:=lt_of_block (Za HU2)
  clear hK hP3 hKl hsrt hone hh3 OP2
  go_wp2_with fail
  refine (Za SP).mono ?_
  rintro e w4 ⟨sa,ns,cs,rfl,hb4,hsp4⟩
  have hh4:=(hb4.block _ (lt_of_block (Za HH2))).trans (Za HH2)
  have hu4:=(hb4.block _ (lt_of_block (Za HU2))).trans (Za HU2)
  have d0:=Zd hh4 0 _ rfl
  have d1:=Zd hh4 1 _ rfl
  have d2:=Zd hh4 2 _ rfl
  have u4:=Zd hu4 0 _ rfl
  have f4:=Zh hu4 0
  have hl4:=lt_of_block hh4
  have hl4':=lt_of_block hu4
  have HB4:=Zb hb4
  clear hh4 hu4 c1 hl3 SP
  by_cases e2:x2=0
  ·subst e2
   obtain⟨v4,K4,T4,q1,q2,q3,q4,q5,q6,q7,q8,q9,q10,q11,s4,q12,q13,q14⟩:=hsp4 rfl
   have hx:=Za HX
   rw[if_neg (by decide)] at hx
   have HXa:=Zb hx
   have hT1:∀ z∈T4,LkAt w4 z:=fun z hz=>(q8 z hz).later hb4
   have hrow:w4.ownsRow w2.heap.size 103 6 (.slice sa ns cs) T4.length (Zj T4):=by have h:=q7;rw[q5] at h ⊢;exact h
   obtain⟨sa',cs',e,hcs,hsk⟩:=Z3 hrow hT1
   have e2:sa=sa'∧ns=T4.length∧cs=cs':=by injection e with e1 e2 e3;exact⟨e1,e2,e3⟩
   obtain⟨rfl,-,rfl⟩:=e2
   rw[q1,←q5] at hcs
   have hns:ns≤6:=by rw[q5,q6];exact hni
   have hSb:∀ z∈S2,0≤cv z∧cv z≤1000000000:=fun z hz=>by
    rw[←q1] at hz
    obtain⟨y,hy,rfl⟩:=List.mem_map.1 hz
    have:=Yp ((Za HONE) y (q10 y hy))
    omega
   have COV:=Zb (Zah sa ns cs S2 h ai ao ni ci no co O x3 w4 hns hno hcs ((Za HO2).later hb4) hSb (Za HOB) (by have:=Za H3;unfold Pz at this;rw[Za HR] at this;exact this))
   have HP4:=Zb q11
   have HROW:=Zb hrow
   have HT8:=Zb q8
   have HQ:Hid (T4.map (·.1)=S2∧K4.map (·.1)=M2∧Srt M2∧K4.length≤K.length∧ns=T4.length∧(Value.slice sa ns cs).ownBlock=some s4∧v4.ownBlock≠some s4∧s4≠p):=⟨q1,q2,q3,q4,q5,q12,q13,q14⟩
   have HT10:=Zb q10
   clear hsp4 q1 q2 q3 q4 q5 q6 q7 q8 q9 q10 q11 q12 q13 q14 hx hT1 hrow hcs hsk hSb HX e hb4
   go_wp2_with fail
   refine (Za COV).mono ?_
   rintro e w5 ⟨rfl,hb5⟩
   have hP5:=(Za HP4).kept hb5
   have hh5:=(hP5.bel.block _ (lt_of_block (Za HH2))).trans (Za HH2)
   have hu5:=(hP5.bel.block _ (lt_of_block (Za HU2))).trans (Za HU2)
   have g0:=Zd hh5 0 _ rfl
   have g1:=Zd hh5 1 _ rfl
   have g2:=Zd hh5 2 _ rfl
   have u5:=Zd hu5 0 _ rfl
   have f5:=Zh hu5 0
   have hl5:=lt_of_block hh5
   have hl5':=lt_of_block hu5
   have HP5:=Zb hP5
   have HROW5:=Zb ((Gr.of (S:=fun _=>False) hb5).own (Za HROW) (fun _ _ q=>q))
   clear hb5 hP5 hh5 hu5 d0 d1 d2 u4 f4 hl4 hl4' COV HROW HP4
   by_cases e3:x3=0
   ·subst e3
    have hx:=Za HXa
    rw[if_neg (by decide)] at hx
    have HXb:=Zb hx
    have hq:=Za HQ
    have hKl:=Za HKL
    have GV:=Zb (Zgb w2 w5 p v4 K4 h ai ao ni ci no co O name ht (decide (ni=0)) x4 M4 (Za HP5) (by rw[hq.2.1];exact hq.2.2.1) (by omega) (Za HO2) hno rfl (by rw[hq.2.1,←Za HR];exact Za H4))
    clear hx HXa hq hKl
    go_wp2_with fail
    refine (Za GV).mono ?_
    rintro e w6 ⟨rfl,hb6,hgv⟩
    have hh6:=(hb6.block _ (lt_of_block (Za HH2))).trans (Za HH2)
    have hu6:=(hb6.block _ (lt_of_block (Za HU2))).trans (Za HU2)
    have u6:=Zd hu6 0 _ rfl
    have f6:=Zh hu6 0
    have hl6':=lt_of_block hu6
    have HB6:=Zb hb6
    clear hh6 hu6 g0 g1 g2 u5 f5 hl5 hl5' GV
    by_cases e4:x4=0
    ·subst e4
     obtain⟨v6,K6,r1,r2,r3,r4,r5⟩:=hgv rfl
     have hx:=Za HXb
     rw[if_neg (by decide)] at hx
     have HXc:=Zb hx
     obtain⟨a6,c6,rfl,hc6,hs6⟩:=r4.coins
     have hK6:K6.length≤726:=by have:=(Za HQ).2.2.2.1;have:=Za HKL;omega
     obtain⟨n6,hn6⟩:∃ n6,K6.length=n6:=⟨_,rfl⟩
     rw[r1,hn6] at hc6
     have hbox:=r4.box
     rw[hn6] at hbox
     have p6:=Zd (X:=[.slice a6 n6 c6]) hbox 0 _ rfl
     have hlp6:=lt_of_block hbox
     have CK:=Zb (U6 a6 n6 c6 M4 x5 w6 hc6 (Za H5))
     have hq:=Za HQ
     have hnS:¬PuS p v4 s4:=by
      rintro (e|e)
      ·exact hq.2.2.2.2.2.2.2 e
      ·exact hq.2.2.2.2.2.2.1 e
     have hrow6:=r5.own (Za HROW5) (fun k hk=>by
      rw[show (Value.slice sa ns cs).ownBlock=some s4 from hq.2.2.2.2.2.1] at hk
      cases hk;exact hnS)
     have HROW6:=Zb hrow6
     have HC6:=Zb hc6
     have HS6:Hid (SlOk a6 n6 c6):=by rw[←hn6];exact hs6
     have hK6':n6≤726:=by rw[←hn6];exact hK6
     clear hgv hx HXb r1 r2 r3 r4 r5 hc6 hs6 hK6 hn6 hbox hq hnS hrow6 hb6 HROW5 HP5
     go_wp2_with fail
     refine (Za CK).mono ?_
     rintro e w7 ⟨rfl,hb7⟩
     have p7:=Zc hb7 p6
     have hlp7:=World.block_lt_of_cell? _ _ p7
     have hu7:=Zc hb7 u6
     have hl7':=World.block_lt_of_cell? _ _ hu7
     have f7:w7.frozen? ⟨w.heap.size+1,0,none⟩=false:=(World.frozen?_of_block (w:=w6) (a:=⟨w.heap.size+1,0,none⟩) (hb7.block _ hl6')).trans f6
     have HB7:Hid (Below w2.heap.size w2 w7):=(Za HB6).trans (hb7.mono (Za HB6).size)
     have HC7:=Zb ((Za HC6).later hb7)
     have HROW7:=Zb ((Gr.of (S:=fun _=>False) hb7).own (Za HROW6) (fun _ _ q=>q))
     clear hb7 p6 u6 f6 CK HROW6 HC6
     by_cases e5:x5=0
     ·subst e5
      have hx:=Za HXc
      rw[if_neg (by decide)] at hx
      have hx0:x=0:=by injection hx with hx _;exact hx.symm
      have hxM:M=M4:=by injection hx with _ hx;injection hx with hx _;exact hx.symm
      have hxS:S=S2:=by injection hx with _ hx;injection hx with _ hx;exact hx.symm
      subst hx0 hxM hxS
      have hRM:=(Xa M).1 (Za H5)
      have CP1:=Zb (Qr a6 n6 c6 M w7 (by omega) (Za HC7) (Za HS6) (fun z hz=>by have:=Tt (Yp (hRM.one z hz)).2.2.2.2.2.2.2.2;omega))
      clear hx HXc hRM
      go_wp2_with fail
      refine (Za CP1).mono ?_
      rintro e w8 ⟨a8,c8,rfl,hf8,hs8,hb8⟩
      have hrow8:=(Gr.of (S:=fun _=>False) hb8).own (Za HROW7) (fun _ _ q=>q)
      have hb28:Below w2.heap.size w2 w8:=(Za HB7).trans (hb8.mono (Za HB7).size)
      have hq:=Za HQ
      obtain⟨sa',cs',e,hcs8,hsk8⟩:=Z3 hrow8 (fun z hz=>((Za HT8) z hz).later hb28)
      have e2:sa=sa'∧cs=cs':=by injection e with e1 e2 e3;exact⟨e1,e3⟩
      obtain⟨rfl,rfl⟩:=e2
      rw[hq.1,←hq.2.2.2.2.1] at hcs8
      rw[←hq.2.2.2.2.1] at hsk8
      have CP2:=Zb (Qr sa ns cs S w8 (by omega) hcs8 hsk8 (fun z hz=>by
       rw[←hq.1] at hz
       obtain⟨y,hy,rfl⟩:=List.mem_map.1 hz
       have:=Tt (Yp ((Za HONE) y ((Za HT10) y hy))).2.2.2.2.2.2.2.2
       omega))
      have u8:=Zc hb8 hu7
      have hl8':=World.block_lt_of_cell? _ _ u8
      have f8:w8.frozen? ⟨w.heap.size+1,0,none⟩=false:=(World.frozen?_of_block (w:=w7) (a:=⟨w.heap.size+1,0,none⟩) (hb8.block _ hl7')).trans f7
      have HF8:=Zb hf8
      have HS8:=Zb hs8
      have HB28:=Zb hb28
      have hl78:w7.heap.size≤w8.heap.size:=hb8.size
      clear hf8 hs8 hb8 hrow8 hb28 hq hcs8 hsk8 e CP1 p7 hu7 f7
      go_wp2_with fail
      refine (Za CP2).mono ?_
      rintro e w9 ⟨a9,c9,rfl,hf9,hs9,hb9⟩
      have u9:=Zc hb9 u8
      have hl9':=World.block_lt_of_cell? _ _ u9
      have f9:w9.frozen? ⟨w.heap.size+1,0,none⟩=false:=(World.frozen?_of_block (w:=w8) (a:=⟨w.heap.size+1,0,none⟩) (hb9.block _ hl8')).trans f8
      have HEND:Hid (ApF w (w9.setCell ⟨w.heap.size+1,0,none⟩ (.slice a9 ns c9)) 0 M S (.returned (.tuple #[.slice a8 n6 c8,.agg #[.slice a9 ns c9],.int .i64 0]))):=by
       refine⟨a8,n6,c8,a9,ns,c9,rfl,?_,Za HS8,?_,hs9,?_⟩
       ·exact fun w2 g2=>(Za HF8) w2 (((Gr.of hb9).one (w.heap.size+1) 0 (.inl (by show w.heap.size+1<w7.heap.size;omega)) _).trans (g2.mono (fun _ _ hk=>Nat.lt_of_lt_of_le hk (by omega))))
       ·exact hf9 _ ((Gr.refl w9 (fun k=>k<w8.heap.size)).one (w.heap.size+1) 0 (.inl (by show w.heap.size+1<w8.heap.size;omega)) _)
       ·have hb29:Below w2.heap.size w2 w9:=(Za HB28).trans (hb9.mono (Za HB28).size)
        exact (Ze (Za HB2) hb29).setCell (p:=⟨w.heap.size+1,0,none⟩) (Nat.le_succ _) _
      clear hf9 hs9 hb9 u8 f8 CP2
      go_wp2
      (try simp only[Exit.inBlock,Exit.then])
      refine bodyPost_ret (v:=.tuple #[.slice a8 n6 c8,.agg #[.slice a9 ns c9],.int .i64 0]) ?_ rfl (Za HEND)
      rw[Zq rfl]
      go_simp
     ·have g:(x5 != 0)=true:=by simp[e5]
      have HE:Hid ((x,M,S)=((x5:Int),([]:List Zg),([]:List Zg))∧w.heap.size≤w.heap.size+1):=⟨by have:=Za HXc;rw[if_pos e5] at this;exact this.symm,Nat.le_succ _⟩
      have HBE:=Zb (Ze (Za HB2) (Za HB7))
      clear e5 p7
      go_wp2
      (try simp only[Exit.inBlock,Exit.then])
      refine bodyPost_ret (v:=.tuple #[.slice none 0 0,.agg #[.slice none 0 0],.int .i64 x5]) ?_ rfl ?_
      ·rw[Zq rfl]
       go_simp
      ·exact Xl (Za HE) (Za HBE)
    ·have g:(x4 == 0)=false:=by simp[e4]
     have g':(x4 != 0)=true:=by simp[e4]
     have HE:Hid ((x,M,S)=((x4:Int),([]:List Zg),([]:List Zg))∧w.heap.size≤w.heap.size+1):=⟨by have:=Za HXb;rw[if_pos e4] at this;exact this.symm,Nat.le_succ _⟩
     have HBE:=Zb (Ze (Za HB2) (Za HB6))
     clear e4 hgv
     go_wp2
     (try simp only[Exit.inBlock,Exit.then])
     refine bodyPost_ret (v:=.tuple #[.slice none 0 0,.agg #[.slice none 0 0],.int .i64 x4]) ?_ rfl ?_
     ·rw[Zq rfl]
      go_simp
     ·exact Xl (Za HE) (Za HBE)
   ·have g:(x3 == 0)=false:=by simp[e3]
    have g':(x3 != 0)=true:=by simp[e3]
    have HE:Hid ((x,M,S)=((x3:Int),([]:List Zg),([]:List Zg))∧w.heap.size≤w.heap.size+1):=⟨by have:=Za HXa;rw[if_pos e3] at this;exact this.symm,Nat.le_succ _⟩
    have HBE:=Zb (Ze (Za HB2) (Za HP5).bel)
    clear e3
    go_wp2
    (try simp only[Exit.inBlock,Exit.then])
    refine bodyPost_ret (v:=.tuple #[.slice none 0 0,.agg #[.slice none 0 0],.int .i64 x3]) ?_ rfl ?_
    ·rw[Zq rfl]
     go_simp
    ·exact Xl (Za HE) (Za HBE)
  ·have g:(x2 == 0)=false:=by simp[e2]
   have g':(x2 != 0)=true:=by simp[e2]
   have HE:Hid ((x,M,S)=((x2:Int),([]:List Zg),([]:List Zg))∧w.heap.size≤w.heap.size+1):=⟨by have:=Za HX;rw[if_pos e2] at this;exact this.symm,Nat.le_succ _⟩
   have HBE:=Zb (Ze (Za HB2) (Za HB4))
   clear e2 hsp4 hb4
   go_wp2
   (try simp only[Exit.inBlock,Exit.then])
   refine bodyPost_ret (v:=.tuple #[.slice none 0 0,.agg #[.slice none 0 0],.int .i64 x2]) ?_ rfl ?_
   ·rw[Zq rfl]
    go_simp
   ·exact Xl (Za HE) (Za HBE)
 ·have g:(x1 != 0)=true:=by simp[e1]
  have HE:Hid ((x,M,S)=((x1:Int),([]:List Zg),([]:List Zg))∧w.heap.size≤w.heap.size+1):=⟨by rw[if_pos e1] at hx;exact hx.symm,Nat.le_succ _⟩
  have x0:=Zd hX1 0 _ rfl
  have x1':=Zd hX1 1 _ rfl
  have x2':=Zd hX1 2 _ rfl
  have hsz:w.heap.size+1<X0.heap.size:=lt_of_block hX2
  clear hL sL hI hO sI h1 hX1 hX2 hb0 h2 h3 h4 h5 hR hx e1
  go_enter Tryz.func98,Tryz.ntmps98
  go_wp2_with fail
  rw[←hX0]
  clear hX0
  refine (Za C1).mono ?_
  rintro e w2 ⟨rfl,hb2⟩
  have hu2:=(hb2.block _ (lt_of_block (Za HX2))).trans (Za HX2)
  have u2:=Zd hu2 0 _ rfl
  have f2:=Zh hu2 0
  have HBE:=Zb (Ze (Za HB0) hb2)
  clear hb2 hu2 x0 x1' x2'
  go_wp2
  (try simp only[Exit.inBlock,Exit.then])
  refine bodyPost_ret (v:=.tuple #[.slice none 0 0,.agg #[.slice none 0 0],.int .i64 x1]) ?_ rfl ?_
  ·rw[Zq rfl]
   go_simp
  ·exact Xl (Za HE) (Za HBE)
theorem Ct(x:Zg)(a:Option Addr)(n c:Nat)(w:World):Calls Tryz.prog 173 #[cnV x a n c] w fun e w'=>e = .returned (.bool true)∧Below w.heap.size w w':=by
 unfold cnV
 have HB:=Zb (Zf w (.cells #[.int .i64 x.1,.int .i64 x.2.1,.int .i64 (cv x),.slice a n c,.int .i64 (ch x),.bool (cr x)] 103))
 go_enter Tryz.func173,Tryz.ntmps173
 go_wp2
 go_ret
 exact⟨rfl,Za HB⟩
theorem Ng(a:Option Addr)(n c:Nat)(L:List Zg)(x s:Int)(w:World)(h:CoinsAt w a n L)(hx:Yi L=x)(hs:(if x=0 then Zp L else 0)=s) :
  Calls Tryz.prog 172 #[.slice a n c,.func (.func 173) #[] #[]] w fun e w'=>e = .returned (.tuple #[.int .i64 s,.int .i64 x])∧Below w.heap.size w w':=by
 have C1:=Zb (U6 a n c L x w h hx)
 by_cases e1:x=0
 ·subst e1
  rw[if_pos rfl] at hs
  have hR:=(Xa L).1 hx
  have hn:n≤720:=by rw[←h.1];exact hR.len
  have HSB:=Zb (fun k=>Rx L k (fun z hz=>by have:=Yp (hR.one z hz);omega))
  have HL:=Zb h
  have HZ:=Zb h.1
  have HS:=Zb hs
  clear hR h hx hs
  go_enter Tryz.func172,Tryz.ntmps172
  go_wp2_with fail
  refine (Za C1).mono ?_
  rintro e w2 ⟨rfl,hb2⟩
  have HB2:=Zb hb2
  clear hb2 C1
  go_wp2
  go_loopw [7,17] (fun sv i wr=>∃ (k:Nat) (d:Int),k≤n∧sv = .int .i64 d∧i = .int .i64 k∧Hid (d=Zp (L.take k))∧Hid (Below w.heap.size w wr)) (fun _ i _=>n - (intOf i).toNat)
  case atStart=>exact⟨0,0,Nat.zero_le _,rfl,rfl,rfl,HB2⟩
  case round=>
   obtain⟨k,d,hk,rfl,rfl,A,HB⟩:=hrel
   by_cases hlt:k<n
   ·have hlk:k<L.length:=by rw[Za HZ];exact hlt
    obtain⟨b,off,rfl,hbl,hcell⟩:=(Za HL).2 (by omega)
    have hin:=CoinAt.kept _ _ _ _ _ (Za HB) (hcell k hlk)
    have b1:=(Za HSB) k
    have b2:=(Za HSB) (k+1)
    have hst:=Ty L k hlk
    obtain⟨y,hy⟩:∃ y,L[k]=y:=⟨_,rfl⟩
    rw[hy] at hin hst
    obtain⟨la,ln,lc,g0,g1,g2,g3,g4,g5,_,_⟩:=hin.val
    obtain⟨v,hv⟩:∃ v,cv y=v:=⟨_,rfl⟩
    have T1:=fun w=>Ct y la ln lc w
    unfold cnV at T1
    rw[hv] at g2 hst T1
    have HT1:=Zb T1
    rw[←Za A] at b1 hst
    rw[hst] at b2
    have A2:Hid (d+v=Zp (L.take (k+1))):=hst.symm
    obtain⟨X,hX⟩:∃ X,X=wr.alloc (.cells #[.int .i64 y.1,.int .i64 y.2.1,.int .i64 v,.slice la ln lc,.int .i64 (ch y),.bool (cr y)] 103):=⟨_,rfl⟩
    have hbX:Below wr.heap.size wr X:=by rw[hX];exact Zf _ _
    have hX1:X.heap[wr.heap.size]? = some (.cells [.int .i64 y.1,.int .i64 y.2.1,.int .i64 v,.slice la ln lc,.int .i64 (ch y),.bool (cr y)].toArray 103 (0,0)):=by rw[hX];exact Uc _ _ _ _ _ _ _ _
    have m2:=Zd hX1 2 _ rfl
    have HBX:=Zb (Ze (Za HB) hbX)
    have hw1:IntKind.i64.wrap (d+v)=d+v:=by rw[IntKind.wrap_i64];omega
    clear hin hy hst A HB T1 hv hX1 hbX
    go_wp2_with fail
    rw[←hX]
    clear hX
    refine ((Za HT1) _).mono ?_
    rintro e w3 ⟨rfl,hb3⟩
    have n2:=Zc hb3 m2
    have hl3:=World.block_lt_of_cell? _ _ n2
    have HB3:=Zb (Ze (Za HBX) hb3)
    clear hb3 m2
    go_wp2
    go_roundw
    case rel=>exact⟨k+1,d+v,by omega,rfl,by go_num,A2,HB3⟩
    case measure=>simp[intOf];omega
   ·have e:k=n:=by omega
    subst e
    have R:Hid (d=s):=by
     show _=_
     rw[Za A,List.take_of_length_le (by rw[Za HZ];exact Nat.le_refl _)]
     exact Za HS
    clear A
    go_wp2
    go_ret2
    exact⟨by rw[←Za R];rfl,Za HB⟩
 ·rw[if_neg e1] at hs
  subst hs
  have g:(x != 0)=true:=by simp[e1]
  clear h hx e1
  go_enter Tryz.func172,Tryz.ntmps172
  go_wp2_with fail
  refine (Za C1).mono ?_
  rintro e w2 ⟨rfl,hb2⟩
  have HB2:=Zb hb2
  clear hb2 C1
  go_wp2
  go_ret2
  exact⟨rfl,Za HB2⟩
theorem Zbd(a:Option Addr)(n c:Nat)(L:List Zg)(x s:Int)(w:World)(h:CoinsAt w a n L)(hx:Yi L=x)(hs:(if x=0 then Zp L else 0)=s) :
  Calls Tryz.prog 144 #[.slice a n c] w fun e w'=>e = .returned (.tuple #[.int .i64 s,.int .i64 x])∧Below w.heap.size w w':=by
 have C:=Zb (Ng a n c L x s w h hx hs)
 clear h hx hs
 go_enter Tryz.func144,Tryz.ntmps144
 go_wp2_with fail
 refine (Za C).mono ?_
 rintro e w2 ⟨rfl,hb2⟩
 have HB2:=Zb hb2
 clear hb2
 go_wp2
 go_ret2
 exact⟨rfl,Za HB2⟩
end Go.Proofs.YtpikejjiignchaaGreatDoor
