/- Contracts of what is checked ahead of doing a transaction. -/
import Derived.Test.YtmomfkikogbdeaaGreatDoorCoinCopyToBlkCovers
import Derived.Test.YtmomfkikogbdeaaGreatDoorCoinPutToLockDo
set_option maxHeartbeats 12800000
set_option maxRecDepth 10000
namespace Go.Proofs.YtmomfkikogbdeaaGreatDoor
open Go.RowKit
theorem Hd(a:Option Addr)(n c:Nat)(L:List Zd)(h:Int)(ai ao:Option Addr)(ni ci no co:Nat)(I:List InD)(O:List Zw)(x:Int)(w:World)(hL:CoinsAt w a n L)(hI:InsAt w ai ni I)(hO:OutsAt w ao no O)(sI:SlOk ai ni ci)(hx:Wg L (h,I,O)=x) :
  Calls Tryz.prog 202 #[.slice a n c,.agg #[.int .i64 h,.slice ai ni ci,.slice ao no co]] w fun e w'=>e = .returned (.int .i64 x)∧Below w.heap.size w w':=by
 obtain⟨X0,hX0⟩:∃ X0,X0=w.alloc (.cells #[.int .i64 h,.slice ai ni ci,.slice ao no co] 59):=⟨_,rfl⟩
 have hb0:Below w.heap.size w X0:=by rw[hX0];exact bel_new _ _
 have hX1:X0.heap[w.heap.size]? = some (.cells [.int .i64 h,.slice ai ni ci,.slice ao no co].toArray 59 (0,0)):=by rw[hX0];exact Zm _ _ _ _ _
 obtain⟨y,hy⟩:∃ y,Zn L=y:=⟨_,rfl⟩
 have C1:=hide (Xv a n c L y X0 (hL.later hb0) hy)
 have TX:=hide (fun w' (hb:Below X0.heap.size X0 w')=>W7 h ai ao ni ci no co I O w' ((hI.later hb0).later hb) ((hO.later hb0).later hb) sI)
 have HX1:=hide hX1
 have HB0:=hide hb0
 unfold Wg at hx
 rw[hy] at hx
 clear hL hI hO sI hX1 hb0 hy
 by_cases h0:y=0
 ·subst h0
  rw[if_neg (by decide)] at hx
  rw[hx] at TX
  clear hx
  go_enter Tryz.func202,Tryz.ntmps202
  go_wp2_with fail
  rw[←hX0]
  clear hX0
  refine (unhide C1).mono ?_
  rintro e w2 ⟨rfl,hb2⟩
  have hh:=(hb2.block _ (lt_of_block (unhide HX1))).trans (unhide HX1)
  have c0:=Za hh 0 _ rfl
  have c1:=Za hh 1 _ rfl
  have c2:=Za hh 2 _ rfl
  have hl:=lt_of_block hh
  have C2:=hide ((unhide TX) w2 hb2)
  have HB2:=hide (bel_on (unhide HB0) hb2)
  clear hh hb2
  go_wp2_with fail
  refine (unhide C2).mono ?_
  rintro e w3 ⟨rfl,hb3⟩
  have HB3:=hide (bel_on (unhide HB2) hb3)
  clear hb3
  go_wp2
  go_ret
  exact⟨rfl,unhide HB3⟩
 ·rw[if_pos h0] at hx
  subst hx
  have g:(y != 0)=true:=by simp[h0]
  clear h0
  go_enter Tryz.func202,Tryz.ntmps202
  go_wp2_with fail
  rw[←hX0]
  clear hX0
  refine (unhide C1).mono ?_
  rintro e w2 ⟨rfl,hb2⟩
  have HB2:=hide (bel_on (unhide HB0) hb2)
  clear hb2
  go_wp2
  go_ret
  exact⟨rfl,unhide HB2⟩
theorem Pc(a:Option Addr)(n c:Nat)(L:List Zd)(h:Int)(ai ao:Option Addr)(ni ci no co:Nat)(I:List InD)(O:List Zw)(name ht:Int)(x:Int)(w:World)(hL:CoinsAt w a n L)(hI:InsAt w ai ni I)(hO:OutsAt w ao no O)(sI:SlOk ai ni ci)(hx:X4 L (h,I,O) name ht=x) :
  Calls Tryz.prog 144 #[.slice a n c,.agg #[.int .i64 h,.slice ai ni ci,.slice ao no co],.int .i64 name,.int .i64 ht] w fun e w'=>e = .returned (.int .i64 x)∧Below w.heap.size w w':=by
 obtain⟨X0,hX0⟩:∃ X0,X0=w.alloc (.cells #[.int .i64 h,.slice ai ni ci,.slice ao no co] 59):=⟨_,rfl⟩
 have hb0:Below w.heap.size w X0:=by rw[hX0];exact bel_new _ _
 have hX1:X0.heap[w.heap.size]? = some (.cells [.int .i64 h,.slice ai ni ci,.slice ao no co].toArray 59 (0,0)):=by rw[hX0];exact Zm _ _ _ _ _
 obtain⟨y,hy⟩:∃ y,Wg L (h,I,O)=y:=⟨_,rfl⟩
 have C1:=hide (Hd a n c L h ai ao ni ci no co I O y X0 (hL.later hb0) (hI.later hb0) (hO.later hb0) sI hy)
 have hIl:=hI.1
 have x0:=Za hX1 0 _ rfl
 have x1:=Za hX1 1 _ rfl
 have x2:=Za hX1 2 _ rfl
 have HX1:=hide hX1
 have HB0:=hide hb0
 unfold X4 at hx
 rw[hy] at hx
 have hR:isR (h,I,O)=decide (ni=0):=by unfold isR;rw[←hIl]
 rw[hR] at hx
 clear hL hI hO sI hX1 hb0 hy hR hIl
 by_cases h0:y=0
 ·subst h0
  rw[if_neg (by decide)] at hx
  cases hN:okN name with
  | false=>
   rw[hN,Bool.false_and,if_pos rfl] at hx
   subst hx
   have W1:=hide (fun w=>within_is name 1 120 false w (by rw[←hN];rfl))
   clear hN
   go_enter Tryz.func144,Tryz.ntmps144
   go_wp2_with fail
   rw[←hX0]
   clear hX0
   refine (unhide C1).mono ?_
   rintro e w2 ⟨rfl,hb2⟩
   have HB2:=hide (bel_on (unhide HB0) hb2)
   clear hb2
   go_wp2_with fail
   refine ((unhide W1) _).mono ?_
   rintro e w3 ⟨rfl,rfl⟩
   go_wp2
   go_ret
   exact⟨rfl,unhide HB2⟩
  | true=>
   rw[hN,Bool.true_and] at hx
   have W1:=hide (fun w=>within_is name 1 120 true w (by rw[←hN];rfl))
   cases hH:okH ht with
   | false=>
    rw[hH,if_pos rfl] at hx
    subst hx
    have W2:=hide (fun w=>Wi ht false w hH)
    clear hN hH
    go_enter Tryz.func144,Tryz.ntmps144
    go_wp2_with fail
    rw[←hX0]
    clear hX0
    refine (unhide C1).mono ?_
    rintro e w2 ⟨rfl,hb2⟩
    have HB2:=hide (bel_on (unhide HB0) hb2)
    clear hb2
    go_wp2_with fail
    refine ((unhide W1) _).mono ?_
    rintro e w3 ⟨rfl,rfl⟩
    go_wp2_with fail
    refine ((unhide W2) _).mono ?_
    rintro e w3 ⟨rfl,rfl⟩
    go_wp2
    go_ret
    exact⟨rfl,unhide HB2⟩
   | true=>
    rw[hH,if_neg (by decide)] at hx
    have W2:=hide (fun w=>Wi ht true w hH)
    clear hN hH
    have body:∀ (r:Bool) (q:Bool) (hr:decide (ni=0)=r) (hq:(h != ht)=q) (hz:(if r=true∧q=true then (4:Int) else 0)=x),Calls Tryz.prog 144 #[.slice a n c,.agg #[.int .i64 h,.slice ai ni ci,.slice ao no co],.int .i64 name,.int .i64 ht] w fun e w'=>e = .returned (.int .i64 x)∧Below w.heap.size w w':=by
     intro r q hr hq hz
     have IR:=hide (fun w=>Uc h ai ao ni ci no co r w hr)
     cases r with
     | false=>
      rw[if_neg (by simp)] at hz
      subst hz
      clear hx hr
      go_enter Tryz.func144,Tryz.ntmps144
      go_wp2_with fail
      rw[←hX0]
      clear hX0
      refine (unhide C1).mono ?_
      rintro e w2 ⟨rfl,hb2⟩
      have hh:=(hb2.block _ (lt_of_block (unhide HX1))).trans (unhide HX1)
      have c0:=Za hh 0 _ rfl
      have c1:=Za hh 1 _ rfl
      have c2:=Za hh 2 _ rfl
      have hl:=lt_of_block hh
      have HB2:=hide (bel_on (unhide HB0) hb2)
      clear hb2 hh
      go_wp2_with fail
      refine ((unhide W1) _).mono ?_
      rintro e w3 ⟨rfl,rfl⟩
      go_wp2_with fail
      refine ((unhide W2) _).mono ?_
      rintro e w3 ⟨rfl,rfl⟩
      go_wp2_with fail
      refine ((unhide IR) _).mono ?_
      rintro e w3 ⟨rfl,hb3⟩
      have HB3:=hide (bel_on (unhide HB2) hb3)
      clear hb3
      go_wp2
      go_ret
      exact⟨rfl,unhide HB3⟩
     | true=>
      cases q with
      | false=>
       rw[if_neg (by simp)] at hz
       subst hz
       clear hx hr
       go_enter Tryz.func144,Tryz.ntmps144
       go_wp2_with fail
       rw[←hX0]
       clear hX0
       refine (unhide C1).mono ?_
       rintro e w2 ⟨rfl,hb2⟩
       have hh:=(hb2.block _ (lt_of_block (unhide HX1))).trans (unhide HX1)
       have c0:=Za hh 0 _ rfl
       have c1:=Za hh 1 _ rfl
       have c2:=Za hh 2 _ rfl
       have hl:=lt_of_block hh
       have HH:=hide hh
       have HB2:=hide (bel_on (unhide HB0) hb2)
       clear hb2 hh
       go_wp2_with fail
       refine ((unhide W1) _).mono ?_
       rintro e w3 ⟨rfl,rfl⟩
       go_wp2_with fail
       refine ((unhide W2) _).mono ?_
       rintro e w3 ⟨rfl,rfl⟩
       go_wp2_with fail
       refine ((unhide IR) _).mono ?_
       rintro e w4 ⟨rfl,hb4⟩
       have d0:=cell_later hb4 c0
       have hl4:=World.block_lt_of_cell? _ _ d0
       have HB4:=hide (bel_on (unhide HB2) hb4)
       clear hb4 c0 c1 c2
       go_wp2
       go_ret
       exact⟨rfl,unhide HB4⟩
      | true=>
       rw[if_pos ⟨rfl,rfl⟩] at hz
       subst hz
       clear hx hr
       go_enter Tryz.func144,Tryz.ntmps144
       go_wp2_with fail
       rw[←hX0]
       clear hX0
       refine (unhide C1).mono ?_
       rintro e w2 ⟨rfl,hb2⟩
       have hh:=(hb2.block _ (lt_of_block (unhide HX1))).trans (unhide HX1)
       have c0:=Za hh 0 _ rfl
       have c1:=Za hh 1 _ rfl
       have c2:=Za hh 2 _ rfl
       have hl:=lt_of_block hh
       have HH:=hide hh
       have HB2:=hide (bel_on (unhide HB0) hb2)
       clear hb2 hh
       go_wp2_with fail
       refine ((unhide W1) _).mono ?_
       rintro e w3 ⟨rfl,rfl⟩
       go_wp2_with fail
       refine ((unhide W2) _).mono ?_
       rintro e w3 ⟨rfl,rfl⟩
       go_wp2_with fail
       refine ((unhide IR) _).mono ?_
       rintro e w4 ⟨rfl,hb4⟩
       have d0:=cell_later hb4 c0
       have hl4:=World.block_lt_of_cell? _ _ d0
       have HB4:=hide (bel_on (unhide HB2) hb4)
       clear hb4 c0 c1 c2
       go_wp2
       go_ret
       exact⟨rfl,unhide HB4⟩
    refine body (decide (ni=0)) (h != ht) rfl rfl ?_
    rw[←hx]
    by_cases e1:ni=0 <;> by_cases e2:h=ht <;> simp[e1,e2]
 ·rw[if_pos h0] at hx
  subst hx
  have g:(y != 0)=true:=by simp[h0]
  clear h0
  go_enter Tryz.func144,Tryz.ntmps144
  go_wp2_with fail
  rw[←hX0]
  clear hX0
  refine (unhide C1).mono ?_
  rintro e w2 ⟨rfl,hb2⟩
  have HB2:=hide (bel_on (unhide HB0) hb2)
  clear hb2
  go_wp2
  go_ret
  exact⟨rfl,unhide HB2⟩
theorem Nj:∀ (l:List Int) (s:Int),(sm s l).2=0→∀ x∈l,0≤x∧x≤1000000000
 | [],_,_=>by simp
 | y :: r,s,h=>by
  intro x hx
  unfold sm at h
  split at h
  ·rename_i hy
   split at h
   ·rcases List.mem_cons.1 hx with rfl|hx
    ·exact hy
    ·exact Nj r _ h x hx
   ·cases h
  ·cases h
theorem W3{t:TxD}(h:Zp t=0):t.2.1.length≤6∧t.2.2.length≤6∧0<t.2.2.length∧Gt t=true∧Z3 [] t.2.1=0∧Z4 t.2.2=0∧(sm 0 (t.2.2.map (·.1))).2=0:=by
 unfold Zp at h
 split at h
 ·cases h
 rename_i h1
 split at h
 ·cases h
 rename_i h2
 split at h
 ·cases h
 rename_i h3
 split at h
 ·rename_i h4;exact absurd h h4
 rename_i h4
 unfold Z6 at h
 split at h
 ·rename_i h5
  exact⟨by omega,by omega,by omega,by simpa using h3,by simpa using h4,h5,h⟩
 ·rename_i h5;exact absurd h h5
theorem Nr{t:TxD}(h:Zp t=0):∀ o∈t.2.2,0≤o.1∧o.1≤1000000000:=fun o ho=>
 Nj _ 0 (W3 h).2.2.2.2.2.2 o.1 (List.mem_map_of_mem ho)
theorem Lp{L:List Zd}{t:TxD}(h:Wg L t=0):Yc L∧Zp t=0:=by
 unfold Wg at h
 split at h
 ·rename_i h1;exact absurd h h1
 ·rename_i h1;exact⟨(Zs L).1 (by simpa using h1),h⟩
theorem Y2{L:List Zd}{t:TxD}{name h:Int}(q:X4 L t name h=0):Yc L∧Zp t=0∧okN name=true∧okH h=true∧(t.2.1.length=0→t.1=h):=by
 unfold X4 at q
 split at q
 ·rename_i h1;exact absurd q h1
 rename_i h1
 split at q
 ·cases q
 rename_i h2
 split at q
 ·cases q
 rename_i h3
 obtain⟨r1,r2⟩:=Lp (by simpa using h1)
 rw[Bool.not_eq_false,Bool.and_eq_true] at h2
 refine⟨r1,r2,h2.1,h2.2,fun e=>?_⟩
 refine Decidable.byContradiction fun n=>h3 ⟨by unfold isR;exact decide_eq_true e,n⟩
theorem Cs{L:List Zd}{t:TxD}{name h x1 x2 x3 x4 x5:Int}{S2 M2 M4:List Zd}(h1:X4 L t name h=x1)(h2:Zk h t.2.1 [] L=(x2,S2,M2))(h3:Lg S2 t=x3)(h4:Zy name h (isR t) 0 t.2.2 M2=(x4,M4))(h5:Zn M4=x5) :
  apD L t name h=if x1≠0 then (x1,[],[]) else if x2≠0 then (x2,[],[]) else if x3≠0 then (x3,[],[]) else if x4≠0 then (x4,[],[]) else if x5≠0 then (x5,[],[]) else (0,M4,S2):=by
 unfold apD
 simp only[h1,h2,h3,h4,h5]
theorem Zbq{L S:List Zd}{t:TxD}{name x1 x2 x3 x4:Int}{M2 M3:List Zd}(h1:Wg L t=x1)(h2:X2 name 0 t.2.2 L=(x2,M2))(h3:Wu t.2.1 S M2=(x3,M3))(h4:Zn M3=x4) :
  rvD L t name S=if x1≠0 then (x1,[]) else if S.length≠t.2.1.length then (4,[]) else if x2≠0 then (x2,[]) else if x3≠0 then (x3,[]) else if x4≠0 then (x4,[]) else (0,M3):=by
 unfold rvD
 simp only[h1,h2,h3,h4]
theorem Ja{l:List (Int×Int)}(h:chk l=0):l.length≤16:=by
 unfold chk at h
 split at h
 ·cases h
 ·omega
theorem Xh{fn:Func}{p u v:Tmp}{ty:TypeId}(h:fn.results=#[.tmp u,.cell p ty,.tmp v])(tmps:Array Value)(P:Program)(w:World) :
  (results fn tmps).run P w =
   ((asAddr (tmps.getD p undef)).run P w).andThen fun a w₁=>((loadVar ty a).run P w₁).andThen fun x w₂=>.ok (.tuple #[tmps.getD u undef,x,tmps.getD v undef]) w₂:=by
 simp only[results,h]
 simp[Sem.run_bind,Result.andThen]
def ApR(w w':World)(x:Int)(M S:List Zd)(e:Ending):Prop:=
 ∃ am nm cm sa ns cs,e = .returned (.tuple #[.slice am nm cm,.agg #[.slice sa ns cs],.int .i64 x])∧CoinsAt w' am nm M∧SlOk am nm cm∧CoinsAt w' sa ns S∧SlOk sa ns cs∧Below w.heap.size w w'
def ApF(w w':World)(x:Int)(M S:List Zd)(e:Ending):Prop:=
 ∃ am nm cm sa ns cs,e = .returned (.tuple #[.slice am nm cm,.agg #[.slice sa ns cs],.int .i64 x])∧Fresh w.heap.size w' (fun w2=>CoinsAt w2 am nm M)∧SlOk am nm cm∧CoinsAt w' sa ns S∧SlOk sa ns cs∧Below w.heap.size w w'
theorem ApF.plain{w w':World}{x:Int}{M S:List Zd}{e:Ending}(h:ApF w w' x M S e):ApR w w' x M S e:=by
 obtain⟨am,nm,cm,sa,ns,cs,h1,h2,h3⟩:=h
 exact⟨am,nm,cm,sa,ns,cs,h1,h2 _ (Gr.refl _ _),h3⟩
theorem Zo:SlOk none 0 0:=⟨Nat.le_refl _,Nat.zero_le _,fun _=>⟨rfl,rfl⟩⟩
theorem Sk{w w':World}{x y:Int}{M S:List Zd}{b:Nat}{v:Value}(h:(x,M,S)=((y:Int),([]:List Zd),([]:List Zd))∧w.heap.size≤b)(hb:Below w.heap.size w w'):ApF w (w'.setCell ⟨b,0,none⟩ v) x M S (.returned (.tuple #[.slice none 0 0,.agg #[.slice none 0 0],.int .i64 y])):=by
 obtain⟨h1,h2⟩:=h
 injection h1 with h1 h3
 injection h3 with h3 h4
 subst h1 h3 h4
 exact⟨none,0,0,none,0,0,rfl,fun _ _=>RowsAt.nil _ _,Zo,RowsAt.nil _ _,Zo,hb.setCell (p:=⟨b,0,none⟩) h2 _⟩
theorem Rg(a:Option Addr)(n c:Nat)(L:List Zd)(h:Int)(ai ao:Option Addr)(ni ci no co:Nat)(I:List InD)(O:List Zw)(name ht:Int)(x:Int)(M S:List Zd)(w:World)(hL:CoinsAt w a n L)(sL:SlOk a n c)(hI:InsAt w ai ni I)(hO:OutsAt w ao no O)(sI:SlOk ai ni ci)(hx:apD L (h,I,O) name ht=(x,M,S)) :
  Calls Tryz.prog 76 #[.slice a n c,.agg #[.int .i64 h,.slice ai ni ci,.slice ao no co],.int .i64 name,.int .i64 ht] w fun e w'=>ApF w w' x M S e:=by
 obtain⟨X0,hX0⟩:∃ X0,X0=(w.alloc (.cells #[.int .i64 h,.slice ai ni ci,.slice ao no co] 59)).alloc (.cells #[.slice none 0 0] 153):=⟨_,rfl⟩
 have hb0:Below w.heap.size w X0:=by rw[hX0];exact bel_on (bel_new _ _) (bel_new _ _)
 have hX1:X0.heap[w.heap.size]? = some (.cells [.int .i64 h,.slice ai ni ci,.slice ao no co].toArray 59 (0,0)):=by
  rw[hX0,Below.heap_alloc _ _ _ (by simp)];exact Zm _ _ _ _ _
 have hX2:X0.heap[w.heap.size+1]? = some (.cells [.slice none 0 0].toArray 153 (0,0)):=by
  rw[hX0]
  have:=heap_alloc_new (w.alloc (.cells #[.int .i64 h,.slice ai ni ci,.slice ao no co] 59)) (.cells #[.slice none 0 0] 153)
  rw[show (w.alloc (.cells #[.int .i64 h,.slice ai ni ci,.slice ao no co] 59)).heap.size=w.heap.size+1 by simp] at this
  exact this
 obtain⟨x1,h1⟩:∃ x1,X4 L (h,I,O) name ht=x1:=⟨_,rfl⟩
 obtain⟨⟨x2,S2,M2⟩,h2⟩:∃ r,Zk ht I [] L=r:=⟨_,rfl⟩
 obtain⟨x3,h3⟩:∃ x3,Lg S2 (h,I,O)=x3:=⟨_,rfl⟩
 obtain⟨⟨x4,M4⟩,h4⟩:∃ r,Zy name ht (isR (h,I,O)) 0 O M2=r:=⟨_,rfl⟩
 obtain⟨x5,h5⟩:∃ x5,Zn M4=x5:=⟨_,rfl⟩
 rw[Cs h1 h2 h3 h4 h5] at hx
 have hR:isR (h,I,O)=decide (ni=0):=by unfold isR;rw[←hI.1]
 have C1:=hide (Pc a n c L h ai ao ni ci no co I O name ht x1 X0 (hL.later hb0) (hI.later hb0) (hO.later hb0) sI h1)
 have HX1:=hide hX1
 have HX2:=hide hX2
 have HB0:=hide hb0
 by_cases e1:x1=0
 ·subst e1
  rw[if_neg (by decide)] at hx
  obtain⟨hRC,hTx,hName,hHt,_⟩:=Y2 h1
  obtain⟨t1,t2,t3,_⟩:=W3 hTx
  have hni:ni≤6:=by rw[←hI.1];exact t1
  have hno:no≤6:=by rw[←hO.1];exact t2
  have hn:n≤720:=by rw[←hL.1];exact hRC.len
  have hob:=Nr hTx
  have OPN:=hide (fun w' (hb:Below X0.heap.size X0 w')=>Ac a n c L w' (by omega) ((hL.later hb0).later hb) sL)
  have HI:=hide (fun w' (hb:Below X0.heap.size X0 w')=>(hI.later hb0).later hb)
  have HO:=hide (fun w' (hb:Below X0.heap.size X0 w')=>(hO.later hb0).later hb)
  have HRC:=hide hRC
  have HOB:=hide hob
  have H2:=hide h2
  have H3:=hide h3
  have H4:=hide h4
  have H5:=hide h5
  have HR:=hide hR
  have HX:=hide hx
  have HZL:=hide hL.1
  have hsz:w.heap.size+1<X0.heap.size:=lt_of_block hX2
  have x0:=Za hX1 0 _ rfl
  have x1:=Za hX1 1 _ rfl
  have x2':=Za hX1 2 _ rfl
  clear hL sL hI hO sI h1 hX1 hX2 hb0 hRC hTx hName hHt t1 t2 t3 hob h2 h3 h4 h5 hR hx
  go_enter Tryz.func76,Tryz.ntmps76
  go_wp2_with fail
  rw[←hX0]
  clear hX0
  refine (unhide C1).mono ?_
  rintro e w2 ⟨rfl,hb2⟩
  have OP2:=hide ((unhide OPN) w2 hb2)
  have HI2:=hide ((unhide HI) w2 hb2)
  have HO2:=hide ((unhide HO) w2 hb2)
  have hh2:=(hb2.block _ (lt_of_block (unhide HX1))).trans (unhide HX1)
  have hu2:=(hb2.block _ (lt_of_block (unhide HX2))).trans (unhide HX2)
  have HH2:=hide hh2
  have HU2:=hide hu2
  have HB2:=hide (bel_on (unhide HB0) hb2)
  clear hb2 hh2 hu2 x0 x1 x2' OPN HI HO C1
  go_wp2_with fail
  refine (unhide OP2).mono ?_
  rintro e w3 ⟨p,v,K,rfl,hK,hP3⟩
  have hKl:K.length=n:=by rw[←unhide HZL,←hK,List.length_map]
  have hsrt:Srt (K.map (·.1)):=by rw[hK];exact (unhide HRC).srt
  have hone:∀ z∈K,ck1 z.1=0:=fun z hz=>(unhide HRC).one z.1 (by rw[←hK];exact List.mem_map_of_mem hz)
  have SP:=hide (Am w2 w3 p v K ai ni ci I ht x2 S2 M2 hP3 hsrt (by omega) hone (unhide HI2) hni (by rw[hK];exact unhide H2))
  have hh3:=(hP3.bel.block _ (lt_of_block (unhide HH2))).trans (unhide HH2)
  have c1:=Za hh3 1 _ rfl
  have hl3:=lt_of_block hh3
  have HONE:=hide hone
  have HKL:=hide hKl
  have hw2:w.heap.size+1<w2.heap.size:=lt_of_block (unhide HU2)
  clear hK hP3 hKl hsrt hone hh3 OP2
  go_wp2_with fail
  refine (unhide SP).mono ?_
  rintro e w4 ⟨sa,ns,cs,rfl,hb4,hsp4⟩
  have hh4:=(hb4.block _ (lt_of_block (unhide HH2))).trans (unhide HH2)
  have hu4:=(hb4.block _ (lt_of_block (unhide HU2))).trans (unhide HU2)
  have d0:=Za hh4 0 _ rfl
  have d1:=Za hh4 1 _ rfl
  have d2:=Za hh4 2 _ rfl
  have u4:=Za hu4 0 _ rfl
  have f4:=Zb hu4 0
  have hl4:=lt_of_block hh4
  have hl4':=lt_of_block hu4
  have HB4:=hide hb4
  clear hh4 hu4 c1 hl3 SP
  by_cases e2:x2=0
  ·subst e2
   obtain⟨v4,K4,T4,q1,q2,q3,q4,q5,q6,q7,q8,q9,q10,q11,s4,q12,q13,q14⟩:=hsp4 rfl
   have hx:=unhide HX
   rw[if_neg (by decide)] at hx
   have HXa:=hide hx
   have hT1:∀ z∈T4,LkAt w4 z:=fun z hz=>(q8 z hz).later hb4
   have hrow:w4.ownsRow w2.heap.size 124 6 (.slice sa ns cs) T4.length (Zh T4):=by have h:=q7;rw[q5] at h ⊢;exact h
   obtain⟨sa',cs',e,hcs,hsk⟩:=Xr hrow hT1
   have e2:sa=sa'∧ns=T4.length∧cs=cs':=by injection e with e1 e2 e3;exact⟨e1,e2,e3⟩
   obtain⟨rfl,-,rfl⟩:=e2
   rw[q1,←q5] at hcs
   have hns:ns≤6:=by rw[q5,q6];exact hni
   have hSb:∀ z∈S2,0≤cv z∧cv z≤1000000000:=fun z hz=>by
    rw[←q1] at hz
    obtain⟨y,hy,rfl⟩:=List.mem_map.1 hz
    have:=Z9 ((unhide HONE) y (q10 y hy))
    omega
   have COV:=hide (Fp sa ns cs S2 h ai ao ni ci no co O x3 w4 hns hno hcs ((unhide HO2).later hb4) hSb (unhide HOB) (by have:=unhide H3;unfold Lg at this;rw[unhide HR] at this;exact this))
   have HP4:=hide q11
   have HROW:=hide hrow
   have HT8:=hide q8
   have HQ:Hid (T4.map (·.1)=S2∧K4.map (·.1)=M2∧Srt M2∧K4.length≤K.length∧ns=T4.length∧(Value.slice sa ns cs).ownBlock=some s4∧v4.ownBlock≠some s4∧s4≠p):=⟨q1,q2,q3,q4,q5,q12,q13,q14⟩
   have HT10:=hide q10
   clear hsp4 q1 q2 q3 q4 q5 q6 q7 q8 q9 q10 q11 q12 q13 q14 hx hT1 hrow hcs hsk hSb HX e hb4
   go_wp2_with fail
   refine (unhide COV).mono ?_
   rintro e w5 ⟨rfl,hb5⟩
   have hP5:=(unhide HP4).kept hb5
   have hh5:=(hP5.bel.block _ (lt_of_block (unhide HH2))).trans (unhide HH2)
   have hu5:=(hP5.bel.block _ (lt_of_block (unhide HU2))).trans (unhide HU2)
   have g0:=Za hh5 0 _ rfl
   have g1:=Za hh5 1 _ rfl
   have g2:=Za hh5 2 _ rfl
   have u5:=Za hu5 0 _ rfl
   have f5:=Zb hu5 0
   have hl5:=lt_of_block hh5
   have hl5':=lt_of_block hu5
   have HP5:=hide hP5
   have HROW5:=hide ((Gr.of (S:=fun _=>False) hb5).own (unhide HROW) (fun _ _ q=>q))
   clear hb5 hP5 hh5 hu5 d0 d1 d2 u4 f4 hl4 hl4' COV HROW HP4
   by_cases e3:x3=0
   ·subst e3
    have hx:=unhide HXa
    rw[if_neg (by decide)] at hx
    have HXb:=hide hx
    have hq:=unhide HQ
    have hKl:=unhide HKL
    have GV:=hide (Zad w2 w5 p v4 K4 h ai ao ni ci no co O name ht (decide (ni=0)) x4 M4 (unhide HP5) (by rw[hq.2.1];exact hq.2.2.1) (by omega) (unhide HO2) hno rfl (by rw[hq.2.1,←unhide HR];exact unhide H4))
    clear hx HXa hq hKl
    go_wp2_with fail
    refine (unhide GV).mono ?_
    rintro e w6 ⟨rfl,hb6,hgv⟩
    have hh6:=(hb6.block _ (lt_of_block (unhide HH2))).trans (unhide HH2)
    have hu6:=(hb6.block _ (lt_of_block (unhide HU2))).trans (unhide HU2)
    have u6:=Za hu6 0 _ rfl
    have f6:=Zb hu6 0
    have hl6':=lt_of_block hu6
    have HB6:=hide hb6
    clear hh6 hu6 g0 g1 g2 u5 f5 hl5 hl5' GV
    by_cases e4:x4=0
    ·subst e4
     obtain⟨v6,K6,r1,r2,r3,r4,r5⟩:=hgv rfl
     have hx:=unhide HXb
     rw[if_neg (by decide)] at hx
     have HXc:=hide hx
     obtain⟨a6,c6,rfl,hc6,hs6⟩:=r4.coins
     have hK6:K6.length≤726:=by have:=(unhide HQ).2.2.2.1;have:=unhide HKL;omega
     obtain⟨n6,hn6⟩:∃ n6,K6.length=n6:=⟨_,rfl⟩
     rw[r1,hn6] at hc6
     have hbox:=r4.box
     rw[hn6] at hbox
     have p6:=Za (X:=[.slice a6 n6 c6]) hbox 0 _ rfl
     have hlp6:=lt_of_block hbox
     have CK:=hide (Xv a6 n6 c6 M4 x5 w6 hc6 (unhide H5))
     have hq:=unhide HQ
     have hnS:¬PuS p v4 s4:=by
      rintro (e|e)
      ·exact hq.2.2.2.2.2.2.2 e
      ·exact hq.2.2.2.2.2.2.1 e
     have hrow6:=r5.own (unhide HROW5) (fun k hk=>by
      rw[show (Value.slice sa ns cs).ownBlock=some s4 from hq.2.2.2.2.2.1] at hk
      cases hk;exact hnS)
     have HROW6:=hide hrow6
     have HC6:=hide hc6
     have HS6:Hid (SlOk a6 n6 c6):=by rw[←hn6];exact hs6
     have hK6':n6≤726:=by rw[←hn6];exact hK6
     clear hgv hx HXb r1 r2 r3 r4 r5 hc6 hs6 hK6 hn6 hbox hq hnS hrow6 hb6 HROW5 HP5
     go_wp2_with fail
     refine (unhide CK).mono ?_
     rintro e w7 ⟨rfl,hb7⟩
     have p7:=cell_later hb7 p6
     have hlp7:=World.block_lt_of_cell? _ _ p7
     have hu7:=cell_later hb7 u6
     have hl7':=World.block_lt_of_cell? _ _ hu7
     have f7:w7.frozen? ⟨w.heap.size+1,0,none⟩=false:=(World.frozen?_of_block (w:=w6) (a:=⟨w.heap.size+1,0,none⟩) (hb7.block _ hl6')).trans f6
     have HB7:Hid (Below w2.heap.size w2 w7):=(unhide HB6).trans (hb7.mono (unhide HB6).size)
     have HC7:=hide ((unhide HC6).later hb7)
     have HROW7:=hide ((Gr.of (S:=fun _=>False) hb7).own (unhide HROW6) (fun _ _ q=>q))
     clear hb7 p6 u6 f6 CK HROW6 HC6
     by_cases e5:x5=0
     ·subst e5
      have hx:=unhide HXc
      rw[if_neg (by decide)] at hx
      have hx0:x=0:=by injection hx with hx _;exact hx.symm
      have hxM:M=M4:=by injection hx with _ hx;injection hx with hx _;exact hx.symm
      have hxS:S=S2:=by injection hx with _ hx;injection hx with _ hx;exact hx.symm
      subst hx0 hxM hxS
      have hRM:=(Zs M).1 (unhide H5)
      have CP1:=hide (Vu a6 n6 c6 M w7 (by omega) (unhide HC7) (unhide HS6) (fun z hz=>by have:=Ja (Z9 (hRM.one z hz)).2.2.2.2.2.2.2.2;omega))
      clear hx HXc hRM
      go_wp2_with fail
      refine (unhide CP1).mono ?_
      rintro e w8 ⟨a8,c8,rfl,hf8,hs8,hb8⟩
      have hrow8:=(Gr.of (S:=fun _=>False) hb8).own (unhide HROW7) (fun _ _ q=>q)
      have hb28:Below w2.heap.size w2 w8:=(unhide HB7).trans (hb8.mono (unhide HB7).size)
      have hq:=unhide HQ
      obtain⟨sa',cs',e,hcs8,hsk8⟩:=Xr hrow8 (fun z hz=>((unhide HT8) z hz).later hb28)
      have e2:sa=sa'∧cs=cs':=by injection e with e1 e2 e3;exact⟨e1,e3⟩
      obtain⟨rfl,rfl⟩:=e2
      rw[hq.1,←hq.2.2.2.2.1] at hcs8
      rw[←hq.2.2.2.2.1] at hsk8
      have CP2:=hide (Vu sa ns cs S w8 (by omega) hcs8 hsk8 (fun z hz=>by
       rw[←hq.1] at hz
       obtain⟨y,hy,rfl⟩:=List.mem_map.1 hz
       have:=Ja (Z9 ((unhide HONE) y ((unhide HT10) y hy))).2.2.2.2.2.2.2.2
       omega))
      have u8:=cell_later hb8 hu7
      have hl8':=World.block_lt_of_cell? _ _ u8
      have f8:w8.frozen? ⟨w.heap.size+1,0,none⟩=false:=(World.frozen?_of_block (w:=w7) (a:=⟨w.heap.size+1,0,none⟩) (hb8.block _ hl7')).trans f7
      have HF8:=hide hf8
      have HS8:=hide hs8
      have HB28:=hide hb28
      have hl78:w7.heap.size≤w8.heap.size:=hb8.size
      clear hf8 hs8 hb8 hrow8 hb28 hq hcs8 hsk8 e CP1 p7 hu7 f7
      go_wp2_with fail
      refine (unhide CP2).mono ?_
      rintro e w9 ⟨a9,c9,rfl,hf9,hs9,hb9⟩
      have u9:=cell_later hb9 u8
      have hl9':=World.block_lt_of_cell? _ _ u9
      have f9:w9.frozen? ⟨w.heap.size+1,0,none⟩=false:=(World.frozen?_of_block (w:=w8) (a:=⟨w.heap.size+1,0,none⟩) (hb9.block _ hl8')).trans f8
      have HEND:Hid (ApF w (w9.setCell ⟨w.heap.size+1,0,none⟩ (.slice a9 ns c9)) 0 M S (.returned (.tuple #[.slice a8 n6 c8,.agg #[.slice a9 ns c9],.int .i64 0]))):=by
       refine⟨a8,n6,c8,a9,ns,c9,rfl,?_,unhide HS8,?_,hs9,?_⟩
       ·exact fun w2 g2=>(unhide HF8) w2 (((Gr.of hb9).one (w.heap.size+1) 0 (.inl (by show w.heap.size+1<w7.heap.size;omega)) _).trans (g2.mono (fun _ _ hk=>Nat.lt_of_lt_of_le hk (by omega))))
       ·exact hf9 _ ((Gr.refl w9 (fun k=>k<w8.heap.size)).one (w.heap.size+1) 0 (.inl (by show w.heap.size+1<w8.heap.size;omega)) _)
       ·have hb29:Below w2.heap.size w2 w9:=(unhide HB28).trans (hb9.mono (unhide HB28).size)
        exact (bel_on (unhide HB2) hb29).setCell (p:=⟨w.heap.size+1,0,none⟩) (Nat.le_succ _) _
      clear hf9 hs9 hb9 u8 f8 CP2
      go_wp2
      (try simp only[Exit.inBlock,Exit.then])
      refine bodyPost_ret (v:=.tuple #[.slice a8 n6 c8,.agg #[.slice a9 ns c9],.int .i64 0]) ?_ rfl (unhide HEND)
      rw[Xh rfl]
      go_simp
     ·have g:(x5 != 0)=true:=by simp[e5]
      have HE:Hid ((x,M,S)=((x5:Int),([]:List Zd),([]:List Zd))∧w.heap.size≤w.heap.size+1):=⟨by have:=unhide HXc;rw[if_pos e5] at this;exact this.symm,Nat.le_succ _⟩
      have HBE:=hide (bel_on (unhide HB2) (unhide HB7))
      clear e5 p7
      go_wp2
      (try simp only[Exit.inBlock,Exit.then])
      refine bodyPost_ret (v:=.tuple #[.slice none 0 0,.agg #[.slice none 0 0],.int .i64 x5]) ?_ rfl ?_
      ·rw[Xh rfl]
       go_simp
      ·exact Sk (unhide HE) (unhide HBE)
    ·have g:(x4 == 0)=false:=by simp[e4]
     have g':(x4 != 0)=true:=by simp[e4]
     have HE:Hid ((x,M,S)=((x4:Int),([]:List Zd),([]:List Zd))∧w.heap.size≤w.heap.size+1):=⟨by have:=unhide HXb;rw[if_pos e4] at this;exact this.symm,Nat.le_succ _⟩
     have HBE:=hide (bel_on (unhide HB2) (unhide HB6))
     clear e4 hgv
     go_wp2
     (try simp only[Exit.inBlock,Exit.then])
     refine bodyPost_ret (v:=.tuple #[.slice none 0 0,.agg #[.slice none 0 0],.int .i64 x4]) ?_ rfl ?_
     ·rw[Xh rfl]
      go_simp
     ·exact Sk (unhide HE) (unhide HBE)
   ·have g:(x3 == 0)=false:=by simp[e3]
    have g':(x3 != 0)=true:=by simp[e3]
    have HE:Hid ((x,M,S)=((x3:Int),([]:List Zd),([]:List Zd))∧w.heap.size≤w.heap.size+1):=⟨by have:=unhide HXa;rw[if_pos e3] at this;exact this.symm,Nat.le_succ _⟩
    have HBE:=hide (bel_on (unhide HB2) (unhide HP5).bel)
    clear e3
    go_wp2
    (try simp only[Exit.inBlock,Exit.then])
    refine bodyPost_ret (v:=.tuple #[.slice none 0 0,.agg #[.slice none 0 0],.int .i64 x3]) ?_ rfl ?_
    ·rw[Xh rfl]
     go_simp
    ·exact Sk (unhide HE) (unhide HBE)
  ·have g:(x2 == 0)=false:=by simp[e2]
   have g':(x2 != 0)=true:=by simp[e2]
   have HE:Hid ((x,M,S)=((x2:Int),([]:List Zd),([]:List Zd))∧w.heap.size≤w.heap.size+1):=⟨by have:=unhide HX;rw[if_pos e2] at this;exact this.symm,Nat.le_succ _⟩
   have HBE:=hide (bel_on (unhide HB2) (unhide HB4))
   clear e2 hsp4 hb4
   go_wp2
   (try simp only[Exit.inBlock,Exit.then])
   refine bodyPost_ret (v:=.tuple #[.slice none 0 0,.agg #[.slice none 0 0],.int .i64 x2]) ?_ rfl ?_
   ·rw[Xh rfl]
    go_simp
   ·exact Sk (unhide HE) (unhide HBE)
 ·have g:(x1 != 0)=true:=by simp[e1]
  have HE:Hid ((x,M,S)=((x1:Int),([]:List Zd),([]:List Zd))∧w.heap.size≤w.heap.size+1):=⟨by rw[if_pos e1] at hx;exact hx.symm,Nat.le_succ _⟩
  have x0:=Za hX1 0 _ rfl
  have x1':=Za hX1 1 _ rfl
  have x2':=Za hX1 2 _ rfl
  have hsz:w.heap.size+1<X0.heap.size:=lt_of_block hX2
  clear hL sL hI hO sI h1 hX1 hX2 hb0 h2 h3 h4 h5 hR hx e1
  go_enter Tryz.func76,Tryz.ntmps76
  go_wp2_with fail
  rw[←hX0]
  clear hX0
  refine (unhide C1).mono ?_
  rintro e w2 ⟨rfl,hb2⟩
  have hu2:=(hb2.block _ (lt_of_block (unhide HX2))).trans (unhide HX2)
  have u2:=Za hu2 0 _ rfl
  have f2:=Zb hu2 0
  have HBE:=hide (bel_on (unhide HB0) hb2)
  clear hb2 hu2 x0 x1' x2'
  go_wp2
  (try simp only[Exit.inBlock,Exit.then])
  refine bodyPost_ret (v:=.tuple #[.slice none 0 0,.agg #[.slice none 0 0],.int .i64 x1]) ?_ rfl ?_
  ·rw[Xh rfl]
   go_simp
  ·exact Sk (unhide HE) (unhide HBE)
theorem Lw(a:Option Addr)(n c:Nat)(L:List Zd)(h:Int)(ai ao:Option Addr)(ni ci no co:Nat)(I:List InD)(O:List Zw)(name ht:Int)(x:Int)(M S:List Zd)(w:World)(hL:CoinsAt w a n L)(sL:SlOk a n c)(hI:InsAt w ai ni I)(hO:OutsAt w ao no O)(sI:SlOk ai ni ci)(hx:apD L (h,I,O) name ht=(x,M,S)) :
  Calls Tryz.prog 76 #[.slice a n c,.agg #[.int .i64 h,.slice ai ni ci,.slice ao no co],.int .i64 name,.int .i64 ht] w fun e w'=>ApR w w' x M S e:=
 (Rg a n c L h ai ao ni ci no co I O name ht x M S w hL sL hI hO sI hx).mono fun _ _ q=>q.plain
end Go.Proofs.YtmomfkikogbdeaaGreatDoor
