import Derived.Test.YtmomfkikogbdeaaGreatDoorG19
namespace Go.Proofs.YtmomfkikogbdeaaGreatDoor
open Go.RowKit
theorem Wa{fn:Func}{p u v:Tmp}{ty:TypeId}(h:fn.results=#[.tmp u,.cell p ty,.tmp v])(tmps:Array Value)(P:Program)(w:World) :
  (results fn tmps).run P w =
   ((asAddr (tmps.getD p undef)).run P w).andThen fun a w₁=>((loadVar ty a).run P w₁).andThen fun x w₂=>.ok (.tuple #[tmps.getD u undef,x,tmps.getD v undef]) w₂:=by
 simp only[results,h]
 simp[Sem.run_bind,Result.andThen]
def ApR(w w':World)(x:Int)(M S:List Zh)(e:Ending):Prop:=
 ∃ am nm cm sa ns cs,e = .returned (.tuple #[.slice am nm cm,.agg #[.slice sa ns cs],.int .i64 x])∧CoinsAt w' am nm M∧SlOk am nm cm∧CoinsAt w' sa ns S∧SlOk sa ns cs∧Below w.heap.size w w'
def ApF(w w':World)(x:Int)(M S:List Zh)(e:Ending):Prop:=
 ∃ am nm cm sa ns cs,e = .returned (.tuple #[.slice am nm cm,.agg #[.slice sa ns cs],.int .i64 x])∧Fresh w.heap.size w' (fun w2=>CoinsAt w2 am nm M)∧SlOk am nm cm∧CoinsAt w' sa ns S∧SlOk sa ns cs∧Below w.heap.size w w'
theorem ApF.plain{w w':World}{x:Int}{M S:List Zh}{e:Ending}(h:ApF w w' x M S e):ApR w w' x M S e:=by
 obtain⟨am,nm,cm,sa,ns,cs,h1,h2,h3⟩:=h
 exact⟨am,nm,cm,sa,ns,cs,h1,h2 _ (Gr.refl _ _),h3⟩
theorem Zw:SlOk none 0 0:=⟨Nat.le_refl _,Nat.zero_le _,fun _=>⟨rfl,rfl⟩⟩
theorem Ka{w w':World}{x y:Int}{M S:List Zh}{b:Nat}{v:Value}(h:(x,M,S)=((y:Int),([]:List Zh),([]:List Zh))∧w.heap.size≤b)(hb:Below w.heap.size w w'):ApF w (w'.setCell ⟨b,0,none⟩ v) x M S (.returned (.tuple #[.slice none 0 0,.agg #[.slice none 0 0],.int .i64 y])):=by
 obtain⟨h1,h2⟩:=h
 injection h1 with h1 h3
 injection h3 with h3 h4
 subst h1 h3 h4
 exact⟨none,0,0,none,0,0,rfl,fun _ _=>RowsAt.nil _ _,Zw,RowsAt.nil _ _,Zw,hb.setCell (p:=⟨b,0,none⟩) h2 _⟩
set_option maxRecDepth 10000 in
set_option maxHeartbeats 12800000 in
theorem Pi(a:Option Addr)(n c:Nat)(L:List Zh)(h:Int)(ai ao:Option Addr)(ni ci no co:Nat)(I:List InD)(O:List Z0)(name ht:Int)(x:Int)(M S:List Zh)(w:World)(hL:CoinsAt w a n L)(sL:SlOk a n c)(hI:InsAt w ai ni I)(hO:OutsAt w ao no O)(sI:SlOk ai ni ci)(hx:apD L (h,I,O) name ht=(x,M,S)) :
  Calls Tryz.prog 76 #[.slice a n c,.agg #[.int .i64 h,.slice ai ni ci,.slice ao no co],.int .i64 name,.int .i64 ht] w fun e w'=>ApF w w' x M S e:=by
 obtain⟨X0,hX0⟩:∃ X0,X0=(w.alloc (.cells #[.int .i64 h,.slice ai ni ci,.slice ao no co] 59)).alloc (.cells #[.slice none 0 0] 153):=⟨_,rfl⟩
 have hb0:Below w.heap.size w X0:=by rw[hX0];exact Zf (Zi _ _) (Zi _ _)
 have hX1:X0.heap[w.heap.size]? = some (.cells [.int .i64 h,.slice ai ni ci,.slice ao no co].toArray 59 (0,0)):=by
  rw[hX0,Below.heap_alloc _ _ _ (by simp)];exact Zu _ _ _ _ _
 have hX2:X0.heap[w.heap.size+1]? = some (.cells [.slice none 0 0].toArray 153 (0,0)):=by
  rw[hX0]
  have:=heap_alloc_new (w.alloc (.cells #[.int .i64 h,.slice ai ni ci,.slice ao no co] 59)) (.cells #[.slice none 0 0] 153)
  rw[show (w.alloc (.cells #[.int .i64 h,.slice ai ni ci,.slice ao no co] 59)).heap.size=w.heap.size+1 by simp] at this
  exact this
 obtain⟨x1,h1⟩:∃ x1,Wy L (h,I,O) name ht=x1:=⟨_,rfl⟩
 obtain⟨⟨x2,S2,M2⟩,h2⟩:∃ r,Zr ht I [] L=r:=⟨_,rfl⟩
 obtain⟨x3,h3⟩:∃ x3,Ff S2 (h,I,O)=x3:=⟨_,rfl⟩
 obtain⟨⟨x4,M4⟩,h4⟩:∃ r,Yd name ht (isR (h,I,O)) 0 O M2=r:=⟨_,rfl⟩
 obtain⟨x5,h5⟩:∃ x5,Zy M4=x5:=⟨_,rfl⟩
 rw[Zer h1 h2 h3 h4 h5] at hx
 have hR:isR (h,I,O)=decide (ni=0):=by unfold isR;rw[←hI.1]
 have C1:=Zb (Kv a n c L h ai ao ni ci no co I O name ht x1 X0 (hL.later hb0) (hI.later hb0) (hO.later hb0) sI h1)
 have HX1:=Zb hX1
 have HX2:=Zb hX2
 have HB0:=Zb hb0
 by_cases e1:x1=0
 ·subst e1
  rw[if_neg (by decide)] at hx
  obtain⟨hRC,hTx,hName,hHt,_⟩:=Xn h1
  obtain⟨t1,t2,t3,_⟩:=V9 hTx
  have hni:ni≤6:=by rw[←hI.1];exact t1
  have hno:no≤6:=by rw[←hO.1];exact t2
  have hn:n≤720:=by rw[←hL.1];exact hRC.len
  have hob:=Cq hTx
  have OPN:=Zb (fun w' (hb:Below X0.heap.size X0 w')=>Zbr a n c L w' (by omega) ((hL.later hb0).later hb) sL)
  have HI:=Zb (fun w' (hb:Below X0.heap.size X0 w')=>(hI.later hb0).later hb)
  have HO:=Zb (fun w' (hb:Below X0.heap.size X0 w')=>(hO.later hb0).later hb)
  have HRC:=Zb hRC
  have HOB:=Zb hob
  have H2:=Zb h2
  have H3:=Zb h3
  have H4:=Zb h4
  have H5:=Zb h5
  have HR:=Zb hR
  have HX:=Zb hx
  have HZL:=Zb hL.1
  have hsz:w.heap.size+1<X0.heap.size:=lt_of_block hX2
  have x0:=Zd hX1 0 _ rfl
  have x1:=Zd hX1 1 _ rfl
  have x2':=Zd hX1 2 _ rfl
  clear hL sL hI hO sI h1 hX1 hX2 hb0 hRC hTx hName hHt t1 t2 t3 hob h2 h3 h4 h5 hR hx
  go_enter Tryz.func76,Tryz.ntmps76
  go_wp2_with fail
  rw[←hX0]
  clear hX0
  refine (Za C1).mono ?_
  rintro e w2 ⟨rfl,hb2⟩
  have OP2:=Zb ((Za OPN) w2 hb2)
  have HI2:=Zb ((Za HI) w2 hb2)
  have HO2:=Zb ((Za HO) w2 hb2)
  have hh2:=(hb2.block _ (lt_of_block (Za HX1))).trans (Za HX1)
  have hu2:=(hb2.block _ (lt_of_block (Za HX2))).trans (Za HX2)
  have HH2:=Zb hh2
  have HU2:=Zb hu2
  have HB2:=Zb (Zf (Za HB0) hb2)
  clear hb2 hh2 hu2 x0 x1 x2' OPN HI HO C1
  go_wp2_with fail
  refine (Za OP2).mono ?_
  rintro e w3 ⟨p,v,K,rfl,hK,hP3⟩
  have hKl:K.length=n:=by rw[←Za HZL,←hK,List.length_map]
  have hsrt:Srt (K.map (·.1)):=by rw[hK];exact (Za HRC).srt
  have hone:∀ z∈K,ck1 z.1=0:=fun z hz=>(Za HRC).one z.1 (by rw[←hK];exact List.mem_map_of_mem hz)
  have SP:=Zb (Zcd w2 w3 p v K ai ni ci I ht x2 S2 M2 hP3 hsrt (by omega) hone (Za HI2) hni (by rw[hK];exact Za H2))
  have hh3:=(hP3.bel.block _ (lt_of_block (Za HH2))).trans (Za HH2)
  have c1:=Zd hh3 1 _ rfl
  have hl3:=lt_of_block hh3
  have HONE:=Zb hone
  have HKL:=Zb hKl
  have hw2:w.heap.size+1<w2.heap.size:=lt_of_block (Za HU2)
  clear hK hP3 hKl hsrt hone hh3 OP2
  go_wp2_with fail
  refine (Za SP).mono ?_
  rintro e w4 ⟨sa,ns,cs,rfl,hb4,hsp4⟩
  have hh4:=(hb4.block _ (lt_of_block (Za HH2))).trans (Za HH2)
  have hu4:=(hb4.block _ (lt_of_block (Za HU2))).trans (Za HU2)
  have d0:=Zd hh4 0 _ rfl
  have d1:=Zd hh4 1 _ rfl
  have d2:=Zd hh4 2 _ rfl
  have u4:=Zd hu4 0 _ rfl
  have f4:=Zg hu4 0
  have hl4:=lt_of_block hh4
  have hl4':=lt_of_block hu4
  have HB4:=Zb hb4
  clear hh4 hu4 c1 hl3 SP
  by_cases e2:x2=0
  ·subst e2
   obtain⟨v4,K4,T4,q1,q2,q3,q4,q5,q6,q7,q8,q9,q10,q11,s4,q12,q13,q14⟩:=hsp4 rfl
   have hx:=Za HX
   rw[if_neg (by decide)] at hx
   have HXa:=Zb hx
   have hT1:∀ z∈T4,LkAt w4 z:=fun z hz=>(q8 z hz).later hb4
   have hrow:w4.ownsRow w2.heap.size 124 6 (.slice sa ns cs) T4.length (Zn T4):=by have h:=q7;rw[q5] at h ⊢;exact h
   obtain⟨sa',cs',e,hcs,hsk⟩:=Wn hrow hT1
   have e2:sa=sa'∧ns=T4.length∧cs=cs':=by injection e with e1 e2 e3;exact⟨e1,e2,e3⟩
   obtain⟨rfl,-,rfl⟩:=e2
   rw[q1,←q5] at hcs
   have hns:ns≤6:=by rw[q5,q6];exact hni
   have hSb:∀ z∈S2,0≤cv z∧cv z≤1000000000:=fun z hz=>by
    rw[←q1] at hz
    obtain⟨y,hy,rfl⟩:=List.mem_map.1 hz
    have:=Yp ((Za HONE) y (q10 y hy))
    omega
   have COV:=Zb (Zay sa ns cs S2 h ai ao ni ci no co O x3 w4 hns hno hcs ((Za HO2).later hb4) hSb (Za HOB) (by have:=Za H3;unfold Ff at this;rw[Za HR] at this;exact this))
   have HP4:=Zb q11
   have HROW:=Zb hrow
   have HT8:=Zb q8
   have HQ:Hid (T4.map (·.1)=S2∧K4.map (·.1)=M2∧Srt M2∧K4.length≤K.length∧ns=T4.length∧(Value.slice sa ns cs).ownBlock=some s4∧v4.ownBlock≠some s4∧s4≠p):=⟨q1,q2,q3,q4,q5,q12,q13,q14⟩
   have HT10:=Zb q10
   clear hsp4 q1 q2 q3 q4 q5 q6 q7 q8 q9 q10 q11 q12 q13 q14 hx hT1 hrow hcs hsk hSb HX e hb4
   go_wp2_with fail
   refine (Za COV).mono ?_
   rintro e w5 ⟨rfl,hb5⟩
   have hP5:=(Za HP4).kept hb5
   have hh5:=(hP5.bel.block _ (lt_of_block (Za HH2))).trans (Za HH2)
   have hu5:=(hP5.bel.block _ (lt_of_block (Za HU2))).trans (Za HU2)
   have g0:=Zd hh5 0 _ rfl
   have g1:=Zd hh5 1 _ rfl
   have g2:=Zd hh5 2 _ rfl
   have u5:=Zd hu5 0 _ rfl
   have f5:=Zg hu5 0
   have hl5:=lt_of_block hh5
   have hl5':=lt_of_block hu5
   have HP5:=Zb hP5
   have HROW5:=Zb ((Gr.of (S:=fun _=>False) hb5).own (Za HROW) (fun _ _ q=>q))
   clear hb5 hP5 hh5 hu5 d0 d1 d2 u4 f4 hl4 hl4' COV HROW HP4
   by_cases e3:x3=0
   ·subst e3
    have hx:=Za HXa
    rw[if_neg (by decide)] at hx
    have HXb:=Zb hx
    have hq:=Za HQ
    have hKl:=Za HKL
    have GV:=Zb (Zgl w2 w5 p v4 K4 h ai ao ni ci no co O name ht (decide (ni=0)) x4 M4 (Za HP5) (by rw[hq.2.1];exact hq.2.2.1) (by omega) (Za HO2) hno rfl (by rw[hq.2.1,←Za HR];exact Za H4))
    clear hx HXa hq hKl
    go_wp2_with fail
    refine (Za GV).mono ?_
    rintro e w6 ⟨rfl,hb6,hgv⟩
    have hh6:=(hb6.block _ (lt_of_block (Za HH2))).trans (Za HH2)
    have hu6:=(hb6.block _ (lt_of_block (Za HU2))).trans (Za HU2)
    have u6:=Zd hu6 0 _ rfl
    have f6:=Zg hu6 0
    have hl6':=lt_of_block hu6
    have HB6:=Zb hb6
    clear hh6 hu6 g0 g1 g2 u5 f5 hl5 hl5' GV
    by_cases e4:x4=0
    ·subst e4
     obtain⟨v6,K6,r1,r2,r3,r4,r5⟩:=hgv rfl
     have hx:=Za HXb
     rw[if_neg (by decide)] at hx
     have HXc:=Zb hx
     obtain⟨a6,c6,rfl,hc6,hs6⟩:=r4.coins
     have hK6:K6.length≤726:=by have:=(Za HQ).2.2.2.1;have:=Za HKL;omega
     obtain⟨n6,hn6⟩:∃ n6,K6.length=n6:=⟨_,rfl⟩
     rw[r1,hn6] at hc6
     have hbox:=r4.box
     rw[hn6] at hbox
     have p6:=Zd (X:=[.slice a6 n6 c6]) hbox 0 _ rfl
     have hlp6:=lt_of_block hbox
     have CK:=Zb (Wo a6 n6 c6 M4 x5 w6 hc6 (Za H5))
     have hq:=Za HQ
     have hnS:¬PuS p v4 s4:=by
      rintro (e|e)
      ·exact hq.2.2.2.2.2.2.2 e
      ·exact hq.2.2.2.2.2.2.1 e
     have hrow6:=r5.own (Za HROW5) (fun k hk=>by
      rw[show (Value.slice sa ns cs).ownBlock=some s4 from hq.2.2.2.2.2.1] at hk
      cases hk;exact hnS)
     have HROW6:=Zb hrow6
     have HC6:=Zb hc6
     have HS6:Hid (SlOk a6 n6 c6):=by rw[←hn6];exact hs6
     have hK6':n6≤726:=by rw[←hn6];exact hK6
     clear hgv hx HXb r1 r2 r3 r4 r5 hc6 hs6 hK6 hn6 hbox hq hnS hrow6 hb6 HROW5 HP5
     go_wp2_with fail
     refine (Za CK).mono ?_
     rintro e w7 ⟨rfl,hb7⟩
     have p7:=Ze hb7 p6
     have hlp7:=World.block_lt_of_cell? _ _ p7
     have hu7:=Ze hb7 u6
     have hl7':=World.block_lt_of_cell? _ _ hu7
     have f7:w7.frozen? ⟨w.heap.size+1,0,none⟩=false:=(World.frozen?_of_block (w:=w6) (a:=⟨w.heap.size+1,0,none⟩) (hb7.block _ hl6')).trans f6
     have HB7:Hid (Below w2.heap.size w2 w7):=(Za HB6).trans (hb7.mono (Za HB6).size)
     have HC7:=Zb ((Za HC6).later hb7)
     have HROW7:=Zb ((Gr.of (S:=fun _=>False) hb7).own (Za HROW6) (fun _ _ q=>q))
     clear hb7 p6 u6 f6 CK HROW6 HC6
     by_cases e5:x5=0
     ·subst e5
      have hx:=Za HXc
      rw[if_neg (by decide)] at hx
      have hx0:x=0:=by injection hx with hx _;exact hx.symm
      have hxM:M=M4:=by injection hx with _ hx;injection hx with hx _;exact hx.symm
      have hxS:S=S2:=by injection hx with _ hx;injection hx with _ hx;exact hx.symm
      subst hx0 hxM hxS
      have hRM:=(Zz M).1 (Za H5)
      have CP1:=Zb (Qs a6 n6 c6 M w7 (by omega) (Za HC7) (Za HS6) (fun z hz=>by have:=Ts (Yp (hRM.one z hz)).2.2.2.2.2.2.2.2;omega))
      clear hx HXc hRM
      go_wp2_with fail
      refine (Za CP1).mono ?_
      rintro e w8 ⟨a8,c8,rfl,hf8,hs8,hb8⟩
      have hrow8:=(Gr.of (S:=fun _=>False) hb8).own (Za HROW7) (fun _ _ q=>q)
      have hb28:Below w2.heap.size w2 w8:=(Za HB7).trans (hb8.mono (Za HB7).size)
      have hq:=Za HQ
      obtain⟨sa',cs',e,hcs8,hsk8⟩:=Wn hrow8 (fun z hz=>((Za HT8) z hz).later hb28)
      have e2:sa=sa'∧cs=cs':=by injection e with e1 e2 e3;exact⟨e1,e3⟩
      obtain⟨rfl,rfl⟩:=e2
      rw[hq.1,←hq.2.2.2.2.1] at hcs8
      rw[←hq.2.2.2.2.1] at hsk8
      have CP2:=Zb (Qs sa ns cs S w8 (by omega) hcs8 hsk8 (fun z hz=>by
       rw[←hq.1] at hz
       obtain⟨y,hy,rfl⟩:=List.mem_map.1 hz
       have:=Ts (Yp ((Za HONE) y ((Za HT10) y hy))).2.2.2.2.2.2.2.2
       omega))
      have u8:=Ze hb8 hu7
      have hl8':=World.block_lt_of_cell? _ _ u8
      have f8:w8.frozen? ⟨w.heap.size+1,0,none⟩=false:=(World.frozen?_of_block (w:=w7) (a:=⟨w.heap.size+1,0,none⟩) (hb8.block _ hl7')).trans f7
      have HF8:=Zb hf8
      have HS8:=Zb hs8
      have HB28:=Zb hb28
      have hl78:w7.heap.size≤w8.heap.size:=hb8.size
      clear hf8 hs8 hb8 hrow8 hb28 hq hcs8 hsk8 e CP1 p7 hu7 f7
      go_wp2_with fail
      refine (Za CP2).mono ?_
      rintro e w9 ⟨a9,c9,rfl,hf9,hs9,hb9⟩
      have u9:=Ze hb9 u8
      have hl9':=World.block_lt_of_cell? _ _ u9
      have f9:w9.frozen? ⟨w.heap.size+1,0,none⟩=false:=(World.frozen?_of_block (w:=w8) (a:=⟨w.heap.size+1,0,none⟩) (hb9.block _ hl8')).trans f8
      have HEND:Hid (ApF w (w9.setCell ⟨w.heap.size+1,0,none⟩ (.slice a9 ns c9)) 0 M S (.returned (.tuple #[.slice a8 n6 c8,.agg #[.slice a9 ns c9],.int .i64 0]))):=by
       refine⟨a8,n6,c8,a9,ns,c9,rfl,?_,Za HS8,?_,hs9,?_⟩
       ·exact fun w2 g2=>(Za HF8) w2 (((Gr.of hb9).one (w.heap.size+1) 0 (.inl (by show w.heap.size+1<w7.heap.size;omega)) _).trans (g2.mono (fun _ _ hk=>Nat.lt_of_lt_of_le hk (by omega))))
       ·exact hf9 _ ((Gr.refl w9 (fun k=>k<w8.heap.size)).one (w.heap.size+1) 0 (.inl (by show w.heap.size+1<w8.heap.size;omega)) _)
       ·have hb29:Below w2.heap.size w2 w9:=(Za HB28).trans (hb9.mono (Za HB28).size)
        exact (Zf (Za HB2) hb29).setCell (p:=⟨w.heap.size+1,0,none⟩) (Nat.le_succ _) _
      clear hf9 hs9 hb9 u8 f8 CP2
      go_wp2
      (try simp only[Exit.inBlock,Exit.then])
      refine bodyPost_ret (v:=.tuple #[.slice a8 n6 c8,.agg #[.slice a9 ns c9],.int .i64 0]) ?_ rfl (Za HEND)
      rw[Wa rfl]
      go_simp
     ·have g:(x5 != 0)=true:=by simp[e5]
      have HE:Hid ((x,M,S)=((x5:Int),([]:List Zh),([]:List Zh))∧w.heap.size≤w.heap.size+1):=⟨by have:=Za HXc;rw[if_pos e5] at this;exact this.symm,Nat.le_succ _⟩
      have HBE:=Zb (Zf (Za HB2) (Za HB7))
      clear e5 p7
      go_wp2
      (try simp only[Exit.inBlock,Exit.then])
      refine bodyPost_ret (v:=.tuple #[.slice none 0 0,.agg #[.slice none 0 0],.int .i64 x5]) ?_ rfl ?_
      ·rw[Wa rfl]
       go_simp
      ·exact Ka (Za HE) (Za HBE)
    ·have g:(x4 == 0)=false:=by simp[e4]
     have g':(x4 != 0)=true:=by simp[e4]
     have HE:Hid ((x,M,S)=((x4:Int),([]:List Zh),([]:List Zh))∧w.heap.size≤w.heap.size+1):=⟨by have:=Za HXb;rw[if_pos e4] at this;exact this.symm,Nat.le_succ _⟩
     have HBE:=Zb (Zf (Za HB2) (Za HB6))
     clear e4 hgv
     go_wp2
     (try simp only[Exit.inBlock,Exit.then])
     refine bodyPost_ret (v:=.tuple #[.slice none 0 0,.agg #[.slice none 0 0],.int .i64 x4]) ?_ rfl ?_
     ·rw[Wa rfl]
      go_simp
     ·exact Ka (Za HE) (Za HBE)
   ·have g:(x3 == 0)=false:=by simp[e3]
    have g':(x3 != 0)=true:=by simp[e3]
    have HE:Hid ((x,M,S)=((x3:Int),([]:List Zh),([]:List Zh))∧w.heap.size≤w.heap.size+1):=⟨by have:=Za HXa;rw[if_pos e3] at this;exact this.symm,Nat.le_succ _⟩
    have HBE:=Zb (Zf (Za HB2) (Za HP5).bel)
    clear e3
    go_wp2
    (try simp only[Exit.inBlock,Exit.then])
    refine bodyPost_ret (v:=.tuple #[.slice none 0 0,.agg #[.slice none 0 0],.int .i64 x3]) ?_ rfl ?_
    ·rw[Wa rfl]
     go_simp
    ·exact Ka (Za HE) (Za HBE)
  ·have g:(x2 == 0)=false:=by simp[e2]
   have g':(x2 != 0)=true:=by simp[e2]
   have HE:Hid ((x,M,S)=((x2:Int),([]:List Zh),([]:List Zh))∧w.heap.size≤w.heap.size+1):=⟨by have:=Za HX;rw[if_pos e2] at this;exact this.symm,Nat.le_succ _⟩
   have HBE:=Zb (Zf (Za HB2) (Za HB4))
   clear e2 hsp4 hb4
   go_wp2
   (try simp only[Exit.inBlock,Exit.then])
   refine bodyPost_ret (v:=.tuple #[.slice none 0 0,.agg #[.slice none 0 0],.int .i64 x2]) ?_ rfl ?_
   ·rw[Wa rfl]
    go_simp
   ·exact Ka (Za HE) (Za HBE)
 ·have g:(x1 != 0)=true:=by simp[e1]
  have HE:Hid ((x,M,S)=((x1:Int),([]:List Zh),([]:List Zh))∧w.heap.size≤w.heap.size+1):=⟨by rw[if_pos e1] at hx;exact hx.symm,Nat.le_succ _⟩
  have x0:=Zd hX1 0 _ rfl
  have x1':=Zd hX1 1 _ rfl
  have x2':=Zd hX1 2 _ rfl
  have hsz:w.heap.size+1<X0.heap.size:=lt_of_block hX2
  clear hL sL hI hO sI h1 hX1 hX2 hb0 h2 h3 h4 h5 hR hx e1
  go_enter Tryz.func76,Tryz.ntmps76
  go_wp2_with fail
  rw[←hX0]
  clear hX0
  refine (Za C1).mono ?_
  rintro e w2 ⟨rfl,hb2⟩
  have hu2:=(hb2.block _ (lt_of_block (Za HX2))).trans (Za HX2)
  have u2:=Zd hu2 0 _ rfl
  have f2:=Zg hu2 0
  have HBE:=Zb (Zf (Za HB0) hb2)
  clear hb2 hu2 x0 x1' x2'
  go_wp2
  (try simp only[Exit.inBlock,Exit.then])
  refine bodyPost_ret (v:=.tuple #[.slice none 0 0,.agg #[.slice none 0 0],.int .i64 x1]) ?_ rfl ?_
  ·rw[Wa rfl]
   go_simp
  ·exact Ka (Za HE) (Za HBE)
theorem Fw(a:Option Addr)(n c:Nat)(L:List Zh)(h:Int)(ai ao:Option Addr)(ni ci no co:Nat)(I:List InD)(O:List Z0)(name ht:Int)(x:Int)(M S:List Zh)(w:World)(hL:CoinsAt w a n L)(sL:SlOk a n c)(hI:InsAt w ai ni I)(hO:OutsAt w ao no O)(sI:SlOk ai ni ci)(hx:apD L (h,I,O) name ht=(x,M,S)) :
  Calls Tryz.prog 76 #[.slice a n c,.agg #[.int .i64 h,.slice ai ni ci,.slice ao no co],.int .i64 name,.int .i64 ht] w fun e w'=>ApR w w' x M S e:=
 (Pi a n c L h ai ao ni ci no co I O name ht x M S w hL sL hI hO sI hx).mono fun _ _ q=>q.plain
theorem En{P:Program}{w:World}{ops:Array Oper}{o:Oper}{a:Act}{K:Act→World→Prop}{Q:Exit→Act→World→Prop}{E:Prop}
  (hg:o.guard=none) (l c:Operand) (t:TypeId) (hop:o.op=Op.makeSlice t l c)
  (base:Nat) (e:TypeId) (i:TypeInfo) (z:Value) (size:Nat) (h1:P.underlying t=some (.slice e)) (h2:P.info? e=some i) (h3:i.zero=some z) (h4:i.size=size)
  (kl kc:IntKind) (L C:Int) (n:Nat) (hl:a.eval l = .int kl L) (hc:a.eval c = .int kc C) (hL:L=(n:Int)) (hC:C=(n:Int)) (b2:i.bytes*n≤281474976710656) (b3:n≤maxLen) (b4:base≤w.heap.size) (H:Nat) (hH:w.heap.size=H)
  (hK:∀ w',w'.ownsRow base e size (.slice (some ⟨H,0,none⟩) n n) n (madeCells z.cells (n*size)).toList→w.grownBy w' none→K (a.put o.dst (.slice (some ⟨H,0,none⟩) n n)) w') :
  if Region.wanted o (yielded ops a.tmps)=true then Oper.wp P o a w K Q else E:=by
 rw[if_pos (by simp[Region.wanted,hg])]
 subst hH
 obtain⟨w',hrun,r1,r2⟩:=run_make_full (P:=P) w base t e i z size h1 h2 h3 h4 kl kc n b2 b3 b4
 subst hL
 subst hC
 unfold Oper.wp
 simp[execOp,hop,hl,hc,hrun,Result.andThen]
 exact hK w' r1 r2
def Qz:TxD:=(0,[],[])
def Wd(h r:Int)(T:List TxD)(N:List Int):Nat→Nat→List Zh→List (List Zh)→Int×List Zh×List (List Zh)
 | 0,_,C,S=>(0,C,S)
 | q+1,k,C,S=>
  if (k+1) % T.length=0∧Xo r T S T.length<0 then (9,[],[])
  else if (apD C (T.getD ((k+1) % T.length) Qz) (N.getD ((k+1) % T.length) 0) h).1≠0 then ((apD C (T.getD ((k+1) % T.length) Qz) (N.getD ((k+1) % T.length) 0) h).1,[],[])
  else Wd h r T N q (k+1) (apD C (T.getD ((k+1) % T.length) Qz) (N.getD ((k+1) % T.length) 0) h).2.1 (S.set ((k+1) % T.length) (apD C (T.getD ((k+1) % T.length) Qz) (N.getD ((k+1) % T.length) 0) h).2.2)
def Wf(K:List ByteArray)(C:List Zh)(b:Zk):Int×List Zh×List (List Zh):=
 if (nfD K C b).2≠0 then ((nfD K C b).2,[],[]) else Wd b.2.1 (rwD b.2.1).1 b.2.2.2.2 (nfD K C b).1 b.2.2.2.2.length 0 C (List.replicate b.2.2.2.2.length [])
theorem Fi{h r:Int}{T:List TxD}{N:List Int}{q k i:Nat}{C:List Zh}{S:List (List Zh)}(hi:(k+1) % T.length=i){t:TxD}(ht:T.getD i Qz=t){nm:Int}(hn:N.getD i 0=nm){y:Int}{M:List Zh}{s:List Zh}(ha:apD C t nm h=(y,M,s)) :
  Wd h r T N (q+1) k C S=if i=0∧Xo r T S T.length<0 then (9,[],[]) else if y≠0 then (y,[],[]) else Wd h r T N q (k+1) M (S.set i s):=by
 rw[Wd,hi,ht,hn,ha]
theorem La(h:Int):∀ (I:List InD) (S L S' M:List Zh),Zr h I S L=(0,S',M)→S'.length=S.length+I.length∧∀ c∈S',c∈S∨c∈L
 | [],S,L,S',M,e=>by
  simp only[Zr,Prod.mk.injEq] at e
  obtain⟨_,rfl,rfl⟩:=e
  exact⟨by simp,fun c hc=>.inl hc⟩
 | x :: I,S,L,S',M,e=>by
  rw[Zr] at e
  split at e
  ·simp at e
  ·next c L' hT=>
   split at e
   ·simp at e
   ·split at e
    ·simp at e
    ·obtain⟨h1,h2⟩:=La h I (S++[c]) L' S' M e
     refine⟨by rw[h1];simp;omega,fun z hz=>?_⟩
     obtain⟨q1,_,q2⟩:=Rd hT
     rcases h2 z hz with q|q
     ·rcases List.mem_append.1 q with q|q
      ·exact .inl q
      ·rw[List.mem_singleton.1 q];exact .inr q1
     ·rw[q2] at q
      exact .inr (List.mem_filter.1 q).1
theorem C7{L:List Zh}{t:TxD}{name h:Int}{M S:List Zh}(e:apD L t name h=(0,M,S)):S.length≤6∧∀ c∈S,0≤cv c∧cv c≤1000000000:=by
 unfold apD at e
 split at e
 ·next q=>simp at e;exact absurd e.1 q
 ·next q=>
  split at e
  ·next q=>simp at e;exact absurd e.1 q
  ·next q2=>
   split at e
   ·next q=>simp at e;exact absurd e.1 q
   ·split at e
    ·next q=>simp at e;exact absurd e.1 q
    ·split at e
     ·next q=>simp at e;exact absurd e.1 q
     ·have q:=Decidable.not_not.1 q
      have q2:=Decidable.not_not.1 q2
      obtain⟨hR,hT,_⟩:=Xn q
      simp only[Prod.mk.injEq] at e
      obtain⟨_,_,rfl⟩:=e
      obtain⟨x,S',M',hs⟩:∃ x S' M',Zr h t.2.1 [] L=(x,S',M'):=⟨_,_,_,rfl⟩
      rw[hs] at q2 ⊢
      simp only at q2
      subst q2
      obtain⟨h1,h2⟩:=La h t.2.1 [] L S' M' hs
      have h6:=(V9 hT).1
      refine⟨by simp at h1;simp only;omega,fun c hc=>?_⟩
      rcases h2 c hc with q|q
      ·cases q
      ·have:=Yp (hR.one c q)
       omega
theorem Zbq{w:World}{b:Nat}{X:List Value}{t:TypeId}(h:w.heap[b]? = some (.cells X.toArray t (0,0)))(j:Nat)(u:Value):(w.setCell ⟨b,j,none⟩ u).heap[b]? = some (.cells (X.set j u).toArray t (0,0)):=by
 rw[setCell_eq_setRow w b j X.toArray t (0,0) u h]
 have:=setRow_heap w b _ (X.toArray.setIfInBounds j u) t _ h
 simpa using this
def UsOk(ty:TypeId)(g m:Nat)(w:World):Prop:=∃ cs:List Value,w.heap[g]? = some (.cells cs.toArray ty (0,0))∧cs.length=m∧∀ v∈cs,∃ a n c,v = .slice a n c
def UsAt(ty:TypeId)(g:Nat)(S:List (List Zh))(w:World):Prop:=∃ cs:List Value,w.heap[g]? = some (.cells cs.toArray ty (0,0))∧cs.length=S.length∧∀ i (h:i<S.length),∃ a n c,cs[i]? = some (.slice a n c)∧CoinsAt w a n S[i]∧SlOk a n c
section
variable {ty : TypeId} {g m : Nat} {w w' : World} {S : List (List Zh)}
theorem UsAt.ok(h:UsAt ty g S w):UsOk ty g S.length w:=by
 obtain⟨cs,h1,h2,h3⟩:=h
 refine⟨cs,h1,h2,fun v hv=>?_⟩
 obtain⟨i,hi,rfl⟩:=List.getElem_of_mem hv
 obtain⟨a,n,c,h4,_⟩:=h3 i (by omega)
 rw[List.getElem?_eq_getElem hi] at h4
 exact⟨a,n,c,Option.some.inj h4⟩
theorem UsOk.lt(h:UsOk ty g m w):g<w.heap.size:=by obtain⟨cs,h1,_⟩:=h;exact lt_of_block h1
theorem UsOk.later(h:UsOk ty g m w)(hb:Below w.heap.size w w'):UsOk ty g m w':=by
 obtain⟨cs,h1,h2,h3⟩:=h
 exact⟨cs,(hb.block g (lt_of_block h1)).trans h1,h2,h3⟩
theorem UsOk.cell(h:UsOk ty g m w){i:Nat}(hi:i<m):∃ z,w.cell? ⟨g,i,none⟩=some z:=by
 obtain⟨cs,h1,h2,_⟩:=h
 exact⟨cs[i]'(by omega),Zd h1 i _ (List.getElem?_eq_getElem (by omega))⟩
theorem UsOk.free(h:UsOk ty g m w)(i:Nat):w.frozen? ⟨g,i,none⟩=false:=by
 obtain⟨cs,h1,_⟩:=h
 exact Zg h1 i
theorem UsOk.put(h:UsOk ty g m w)(i:Nat)(a:Option Addr)(n c:Nat):UsOk ty g m (w.setCell ⟨g,i,none⟩ (.slice a n c)):=by
 obtain⟨cs,h1,h2,h3⟩:=h
 refine⟨cs.set i (.slice a n c),Zbq h1 i _,by simpa using h2,fun v hv=>?_⟩
 rcases List.mem_or_eq_of_mem_set hv with q|rfl
 ·exact h3 v q
 ·exact⟨a,n,c,rfl⟩
theorem UsOk.other(h:UsOk ty g m w){b o:Nat}{k:IntKind}{x:Int}(hc:w.cell? ⟨b,o,none⟩=some (.int k x)):b≠g:=by
 rintro rfl
 obtain⟨cs,h1,_,h3⟩:=h
 have:cs[o]? = some (.int k x):=by
  rw[cell_of_row w b o cs.toArray ty (0,0) h1] at hc
  simpa using hc
 obtain⟨a,n,c,e⟩:=h3 _ (List.mem_of_getElem? this)
 cases e
theorem Zic{a:Option Addr}{n:Nat}{l:List (Int×Int)}(h:OpsAt w a n l)(ho:UsOk ty g m w)(hg:Gr w w' (fun q=>q=g)):OpsAt w' a n l:=by
 refine⟨h.1,fun h0=>?_⟩
 obtain⟨b,off,rfl,hc⟩:=h.2 h0
 refine⟨b,off,rfl,fun i hi=>?_⟩
 obtain⟨c0,c1⟩:=hc i hi
 have hb:=hg.block b (World.block_lt_of_cell? _ _ c0) (ho.other c0)
 exact⟨(World.cell?_of_block (a:=⟨b,off+i*2,none⟩) hb).trans c0,(World.cell?_of_block (a:=⟨b,off+i*2+1,none⟩) hb).trans c1⟩
theorem Qc{a:Option Addr}{n:Nat}{L:List Zh}(h:CoinsAt w a n L)(ho:UsOk ty g m w)(hg:Gr w w' (fun q=>q=g)):CoinsAt w' a n L:=by
 refine⟨h.1,fun h0=>?_⟩
 obtain⟨b,off,rfl,hl,hc⟩:=h.2 h0
 refine⟨b,off,rfl,Nat.lt_of_lt_of_le hl hg.size,fun i hi=>?_⟩
 obtain⟨c0,c1,c2,⟨la,ln,lc,c3,h5,h6⟩,c4,c5⟩:=hc i hi
 have hb:=hg.block b hl (ho.other c0)
 have k:=fun (o:Nat)=>World.cell?_of_block (a:=⟨b,o,none⟩) hb
 exact⟨(k _).trans c0,(k _).trans c1,(k _).trans c2,⟨la,ln,lc,(k _).trans c3,Zic h5 ho hg,h6⟩,(k _).trans c4,(k _).trans c5⟩
theorem UsAt.later(h:UsAt ty g S w)(hb:Below w.heap.size w w'):UsAt ty g S w':=by
 obtain⟨cs,h1,h2,h3⟩:=h
 refine⟨cs,(hb.block g (lt_of_block h1)).trans h1,h2,fun i hi=>?_⟩
 obtain⟨a,n,c,q1,q2,q3⟩:=h3 i hi
 exact⟨a,n,c,q1,q2.later hb,q3⟩
theorem UsAt.put(h:UsAt ty g S w)(i:Nat){a:Option Addr}{n c:Nat}{s:List Zh}(hs:CoinsAt w a n s)(sl:SlOk a n c):UsAt ty g (S.set i s) (w.setCell ⟨g,i,none⟩ (.slice a n c)):=by
 have ho:=h.ok
 have hg:=(Gr.refl w (fun q=>q=g)).one g i (.inl rfl) (.slice a n c)
 obtain⟨cs,h1,h2,h3⟩:=h
 refine⟨cs.set i (.slice a n c),Zbq h1 i _,by simpa using h2,fun j hj=>?_⟩
 have hj':j<S.length:=by simpa using hj
 by_cases e:i=j
 ·subst e
  refine⟨a,n,c,by rw[List.getElem?_set_self (by omega)],?_,sl⟩
  rw[List.getElem_set_self]
  exact Qc hs ho hg
 ·obtain⟨a',n',c',q1,q2,q3⟩:=h3 j hj'
  refine⟨a',n',c',by rw[List.getElem?_set_ne e];exact q1,?_,q3⟩
  rw[List.getElem_set_ne e]
  exact Qc q2 ho hg
theorem UsAt.undo(h:UsAt ty g S w)(i:Nat)(hi:i<S.length):UndoAt w g (0+i) S[i]:=by
 obtain⟨cs,h1,h2,h3⟩:=h
 obtain⟨a,n,c,q1,q2,q3⟩:=h3 i hi
 exact⟨a,n,c,by rw[Nat.zero_add];exact Zd h1 i _ q1,q2,q3⟩
theorem Zhp{base:Nat}(h:w.ownsRow base ty 1 (.slice (some ⟨g,0,none⟩) m m) m (List.replicate m (.slice none 0 0))):UsAt ty g (List.replicate m []) w:=by
 rcases h.2 with ⟨e,_⟩|⟨g',cap',cur,e,hg,hh,h1,h2,h3,h4⟩
 ·cases e
 ·cases e
  refine⟨cur.toList,by simpa using hh,?_,fun i hi=>?_⟩
  ·simp;omega
  ·have hi':i<m:=by simpa using hi
   refine⟨none,0,0,?_,?_,Zw⟩
   ·have h5:(cur.toList.take (m*1))[i]? = (List.replicate m (Value.slice none 0 0))[i]?:=by rw[h4]
    rw[List.getElem?_take,if_pos (by omega)] at h5
    rw[h5]
    simp[hi']
   ·rw[List.getElem_replicate]
    exact⟨rfl,fun h=>absurd h (by omega)⟩
end
def UndosAt(w:World)(a:Option Addr)(n:Nat)(S:List (List Zh)):Prop:=S.length=n∧(0<n→∃ b off,a=some ⟨b,off,none⟩∧b<w.heap.size∧∀ i (h:i<S.length),UndoAt w b (off+i) S[i])
theorem UndosAt.later{w w':World}{a:Option Addr}{n:Nat}{S:List (List Zh)}(h:UndosAt w a n S)(hb:Below w.heap.size w w'):UndosAt w' a n S:=by
 refine⟨h.1,fun h0=>?_⟩
 obtain⟨b,off,e,hl,hc⟩:=h.2 h0
 exact⟨b,off,e,Nat.lt_of_lt_of_le hl hb.size,fun i hi=>(hc i hi).kept hb⟩
theorem UsAt.undos{ty:TypeId}{g:Nat}{S:List (List Zh)}{w:World}(h:UsAt ty g S w):UndosAt w (some ⟨g,0,none⟩) S.length S:=⟨rfl,fun _=>⟨g,0,rfl,h.ok.lt,fun i hi=>h.undo i hi⟩⟩
def Zja(w w':World)(x:Int)(C:List Zh)(S:List (List Zh))(e:Ending):Prop:=
 ∃ a n c ua un uc,e = .returned (.tuple #[.slice a n c,.slice ua un uc,.int .i64 x])∧CoinsAt w' a n C∧SlOk a n c∧UndosAt w' ua un S∧SlOk ua un uc∧Below w.heap.size w w'∧∀ ad,ua=some ad→w.heap.size≤ad.block
theorem Pw{w w':World}{x y:Int}{C:List Zh}{S:List (List Zh)}(h:((y:Int),([]:List Zh),([]:List (List Zh)))=(x,C,S))(hb:Below w.heap.size w w'):Zja w w' x C S (.returned (.tuple #[.slice none 0 0,.slice none 0 0,.int .i64 y])):=by
 injection h with h1 h2
 injection h2 with h2 h3
 subst h1 h2 h3
 exact⟨none,0,0,none,0,0,rfl,⟨rfl,fun h=>absurd h (by omega)⟩,Zw,⟨rfl,fun h=>absurd h (by omega)⟩,Zw,hb,fun ad e=>by cases e⟩
def flat:List (Int×Int)→List Value
 | []=>[]
 | o :: r=>.int .i64 o.1 :: .int .i64 o.2 :: flat r
theorem Wm:∀ l:List (Int×Int),(flat l).length=l.length*2
 | []=>rfl
 | _ :: r=>by simp only[flat,List.length_cons,Wm r];omega
theorem Jv:∀ (l:List (Int×Int)) (i:Nat),i<l.length→(flat l)[i*2]? = some (.int .i64 (l.getD i (0,0)).1)∧(flat l)[i*2+1]? = some (.int .i64 (l.getD i (0,0)).2)
 | [],i,h=>absurd h (by simp)
 | o :: r,0,_=>⟨rfl,rfl⟩
 | o :: r,i+1,h=>by
  have:=Jv r i (by simpa using h)
  have e:(i+1)*2=i*2+2:=by omega
  rw[e]
  exact this
theorem flat_one:∀ (l:List (Int×Int)) (u:Value),u∈flat l→u.oneCell'=true
 | [],_,h=>by cases h
 | o :: r,u,h=>by
  simp only[flat,List.mem_cons] at h
  rcases h with rfl|rfl|h
  ·rfl
  ·rfl
  ·exact flat_one r u h
theorem OpsAt.flat{w:World}{x:Addr}{len:Nat}{l:List (Int×Int)}(h:OpsAt w (some x) len l)(j:Nat)(u:Value)(hj:(flat l)[j]? = some u):w.cell? (x.add j)=some u:=by
 have hjl:j<(YtmomfkikogbdeaaGreatDoor.flat l).length:=by
  rcases Nat.lt_or_ge j (YtmomfkikogbdeaaGreatDoor.flat l).length with h|h
  ·exact h
  ·rw[List.getElem?_eq_none h] at hj;cases hj
 rw[Wm] at hjl
 have hz:=h.1
 obtain⟨b,off,hx,hc⟩:=h.2 (by omega)
 cases hx
 have hadd:(⟨b,off,none⟩:Addr).add j=⟨b,off+j,none⟩:=by unfold Addr.add;split <;> simp_all
 rw[hadd]
 obtain⟨i,hi|hi⟩:∃ i,j=i*2∨j=i*2+1:=⟨j / 2,by omega⟩
 ·subst hi
  have f:=(Jv l i (by omega)).1
  rw[f] at hj
  rw[(hc i (by omega)).1];exact hj
 ·subst hi
  have f:=(Jv l i (by omega)).2
  rw[f] at hj
  rw[←Nat.add_assoc,(hc i (by omega)).2];exact hj
theorem Zcv{w:World}{base:Nat}{e:TypeId}{size:Nat}{v:Value}{n:Nat}{xs:List Value}(h:w.ownsRow base e size v n xs)(k:Nat)(hk:v.ownBlock=some k):base≤k:=by
 rcases h.2 with ⟨rfl,_⟩|⟨g,cap,cur,rfl,hg,_⟩
 ·cases hk
 ·cases hk;exact hg
end Go.Proofs.YtmomfkikogbdeaaGreatDoor
