/- The contract of the reference's Applied, its main way (written by a program of ours: mkapplied2.py). -/
import Derived.Test.YtepmnpapdknocaaGreatDoorRefRunCToRefApE
import Derived.Test.YtepmnpapdknocaaGreatDoorCoinBackAToTrStep
import Derived.Test.YtepmnpapdknocaaGreatDoorSortCoinBToRefEq
import Derived.Deep.AppendLies
set_option maxHeartbeats 12800000
set_option maxRecDepth 10000
namespace Go.Proofs.YtepmnpapdknocaaGreatDoor
open Go.RowKit
structure ApS(w Y:World)(ub:Nat)(wr:World)(v sv:Value)(K SK:List CV):Prop where
 rest:wr.ownsRow Y.heap.size 88 6 v K.length (Ze K)
 box:wr.heap[ub]? = some (.cells #[sv] 68 (0,0))
 spent:wr.ownsRow Y.heap.size 88 6 sv SK.length (Ze SK)
 lks:∀ x,x∈K∨x∈SK→LkAt w x∧ck1 x.1=0
 srt:Srt (K.map (·.1))
 gr:Gr Y wr (fun q=>q=ub)
 apart:∀ b,v.ownBlock=some b→sv.ownBlock≠some b
structure A2(w w5:World)(B:Nat)(wr:World)(v:Value)(K:List CV):Prop where
 own:wr.ownsRow B 88 6 v K.length (Ze K)
 lks:∀ x∈K,LkAt w x
 bel:Below w5.heap.size w5 wr
def SAo(W2:World)(b:Nat)(ov:Int)(la:Option Addr)(ln lc:Nat)(name:Int)(j:Nat)(W:World):Prop:=
 W.cell? ⟨b,0,none⟩=some (.int .i64 ov)∧W.cell? ⟨b,1,none⟩=some (.slice la ln lc)∧W.cell? ⟨b+1,0,none⟩=some (.int .i64 name)∧W.cell? ⟨b+1,1,none⟩=some (.int .i64 j)∧b+1<W.heap.size∧Below W2.heap.size W2 W
theorem V8{w:World}{base:Nat}{e:TypeId}{size:Nat}{v:Value}{n:Nat}{xs:List Value}(h:w.ownsRow base e size v n xs){k:Nat}{cs:Array Value}{t:TypeId}(hk:w.heap[k]? = some (.cells cs t (0,0)))(ht:t≠e):v.ownBlock≠some k:=by
 intro e1
 obtain⟨_,⟨rfl,_⟩|⟨g,cap,cur,rfl,_,hh,_⟩⟩:=h
 ·cases e1
 ·have e2:g=k:=by injection e1
  subst e2
  rw[hh] at hk
  injection hk with hk
  injection hk with _ hk
  exact ht hk.symm
theorem Pe{W:World}{base g cap:Nat}{K:List CV}(ho:W.ownsRow base 88 6 (.slice (some ⟨g,0,none⟩) K.length cap) K.length (Ze K))(j rc:Nat)(hj:j+1≤K.length)(hr:K.length≤rc)(ya:Addr)(hy:rc≠j+1→ya=⟨g,(j+1)*6,none⟩) :
  (∀ i u,(Ze (K.take j))[i]? = some u→W.cell? ((⟨g,0,none⟩:Addr).add i)=some u)∧(∀ i u,(Ze (K.drop (j+1)))[i]? = some u→W.cell? (ya.add i)=some u):=by
 constructor
 ·intro i u h
  have hi:i<j*6:=by
   have:=(List.getElem?_eq_some_iff.1 h).1
   rw[Zq,List.length_take] at this
   omega
  rw[←Va,List.getElem?_take_of_lt hi] at h
  rw[Addr.add_lit,Nat.zero_add,World.ownsRow.cellAt ho i (by omega)]
  exact h
 ·intro i u h
  have hi:=(List.getElem?_eq_some_iff.1 h).1
  rw[Zq,List.length_drop] at hi
  rw[←Vb,List.getElem?_drop] at h
  rw[hy (by omega),Addr.add_lit,World.ownsRow.cellAt ho _ (by omega)]
  exact h
theorem Sk{l k:List (Int×Int)}{h:Int}(h1:chk l=0)(h2:chk k=0)(h3:hOk h=true):Ws l k h=Yq l k h:=by
 unfold Yq Ws Wq
 rw[if_pos h1,if_pos h2,if_pos h3,decide_eq_true rfl,Bool.true_and]
 rfl
theorem Zdt{h:Int}(h1:¬h<1)(h2:¬1000<h):hOk h=true:=by
 unfold hOk
 simp only[Bool.and_eq_true,decide_eq_true_eq]
 omega
theorem Mw:∀ {pre I:List InD},Zw pre I=0→∀ x∈I,chk x.2.2=0
 | _,[],_=>fun x hx=>by cases hx
 | pre,y :: r,h=>fun x hx=>by
  unfold Zw at h
  split at h
  ·rename_i q
   rcases List.mem_cons.1 hx with rfl|hx
   ·unfold We at q
    split at q
    ·cases q
    ·split at q
     ·rename_i q3;exact absurd q q3
     ·rename_i q3;simpa using q3
   ·exact Mw h x hx
  ·rename_i q;exact absurd h q
theorem Zbh(a:Option Addr)(n c:Nat)(L:List Zb)(h:Int)(ai ao:Option Addr)(ni ci no co:Nat)(I:List InD)(O:List Z7)(name ht:Int)(x:Int)(M S:List Zb)(w:World)(hL:CoinsAt w a n L)(sL:SlOk a n c)(hI:InsAt w ai ni I)(hO:OutsAt w ao no O)(hRC:Zs L)(hTx:Zj (h,I,O)=0)(hx:apD L (h,I,O) name ht=(x,M,S))(n1:¬name<1)(n2:¬120<name)(n3:¬ht<1)(n4:¬1000<ht)(hr:ni≠0) :
  Calls Tryz.prog 42 #[.slice a n c,.agg #[.int .i64 h,.slice ai ni ci,.slice ao no co],.int .i64 name,.int .i64 ht] w fun e w'=>ApR w w' x M S e:=by
 obtain⟨X0,hX0⟩:∃ X0,X0=(w.alloc (.cells #[.int .i64 h,.slice ai ni ci,.slice ao no co] 74)).alloc (.cells #[.slice none 0 0] 68):=⟨_,rfl⟩
 have hb0:Below w.heap.size w X0:=by rw[hX0];exact bel_on (bel_new _ _) (bel_new _ _)
 have hX1:X0.heap[w.heap.size]? = some (.cells [.int .i64 h,.slice ai ni ci,.slice ao no co].toArray 74 (0,0)):=by
  rw[hX0,Below.heap_alloc _ _ _ (by simp)];exact Zp _ _ _ _ _
 have hX2:X0.heap[w.heap.size+1]? = some (.cells [.slice none 0 0].toArray 68 (0,0)):=by
  rw[hX0]
  have:=heap_alloc_new (w.alloc (.cells #[.int .i64 h,.slice ai ni ci,.slice ao no co] 74)) (.cells #[.slice none 0 0] 68)
  rw[show (w.alloc (.cells #[.int .i64 h,.slice ai ni ci,.slice ao no co] 74)).heap.size=w.heap.size+1 by simp] at this
  exact this
 obtain⟨⟨x2,S2,M2⟩,h2⟩:∃ r,Zf ht I [] L=r:=⟨_,rfl⟩
 obtain⟨x3,h3⟩:∃ x3,Hl S2 (h,I,O)=x3:=⟨_,rfl⟩
 have hR:isR (h,I,O)=false:=by unfold isR;rw[hI.1];exact decide_eq_false hr
 obtain⟨⟨x4,M4⟩,h4⟩:∃ r,Zr name ht false 0 O M2=r:=⟨_,rfl⟩
 obtain⟨x5,h5⟩:∃ x5,Zh M4=x5:=⟨_,rfl⟩
 rw[Nj (Hp hRC hTx (by unfold okN okH;simp only[Bool.and_eq_true,decide_eq_true_eq];omega) (by rw[hR];intro q;exact Bool.noConfusion q.1)) h2 h3 (by rw[hR];exact h4) h5,if_neg (by decide)] at hx
 obtain⟨t1,t2,t3,_,tI,_⟩:=Ya hTx
 have hni:ni≤6:=by rw[←hI.1];exact t1
 have hno:no≤6:=by rw[←hO.1];exact t2
 have hn:n≤720:=by rw[←hL.1];exact hRC.len
 have HOB:=hide (Vy hTx)
 have HRR:=hide hR
 have HIC:=hide (Mw tI)
 have HHT:=hide (Zdt n3 n4)
 obtain⟨Y,hY⟩:∃ Y,Y=X0.alloc (.cells #[.slice none 0 0] 68):=⟨_,rfl⟩
 have hbY:Below X0.heap.size X0 Y:=by rw[hY];exact bel_new _ _
 have hYu:Y.heap[X0.heap.size]? = some (.cells #[.slice none 0 0] 68 (0,0)):=by rw[hY];exact heap_alloc_new _ _
 have hXs:X0.heap.size=w.heap.size+1+1:=by rw[hX0];simp
 have hYs:Y.heap.size=w.heap.size+1+1+1:=by rw[hY];simp[hXs]
 rw[hXs] at hYu
 have C1:=hide (Vz a n c L w Y (bel_on hb0 hbY) (by omega) hL sL)
 have HI:=hide (fun w' (hb:Below X0.heap.size X0 w')=>(hI.later hb0).later hb)
 have HO:=hide (fun w' (hb:Below X0.heap.size X0 w')=>(hO.later hb0).later hb)
 have HOW:=hide hO
 have HB0:=hide hb0
 have HBY:=hide hbY
 have HX1:=hide hX1
 have HX2:=hide hX2
 have HYU:=hide hYu
 have H2:=hide h2
 have H3:=hide h3
 have H4:=hide h4
 have H5:=hide h5
 have HX:=hide hx
 have HRC:=hide hRC
 have HZI:=hide hI.1
 have HZO:=hide hO.1
 have HZL:=hide hL.1
 have x00:=Za hX1 0 _ rfl
 have x01:=Za hX1 1 _ rfl
 have x02:=Za hX1 2 _ rfl
 have xl:=lt_of_block hX1
 have hXX:w.heap.size+1<X0.heap.size:=lt_of_block hX2
 have y00:=cell_later hbY x00
 have y01:=cell_later hbY x01
 have y02:=cell_later hbY x02
 have g0:((ni:Int) == 0)=false:=by simp;omega
 have g1:¬(ni:Int)=0:=by omega
 clear hr
 clear hL sL hI hO hRC hTx hx hX1 hX2 hb0 hbY hYu h2 h3 h4 h5 hR t1 t2 t3 tI
 go_enter Tryz.func42,Tryz.ntmps42
 go_wp2_with fail
 rw[←hX0]
 clear hX0
 go_wp2_with fail
 rw[←hY]
 clear hY
 refine (unhide C1).mono ?_
 rintro e w2 ⟨v,K,rfl,hKL,hlk,ho,hb2⟩
 have xb:=cell_later hb2 y01
 have xbl:=World.block_lt_of_cell? _ _ xb
 have ST:Hid (ApS w Y (w.heap.size+1+1) w2 v (.slice none 0 0) K []):=by
  refine⟨ho,(hb2.block _ (by omega)).trans (unhide HYU),⟨rfl,.inl ⟨rfl,rfl⟩⟩,fun x hx=>?_,by rw[hKL];exact (unhide HRC).srt,Gr.of hb2,fun _ _ e=>by cases e⟩
  rcases hx with hx|hx
  ·exact⟨hlk x hx,(unhide HRC).one x.1 (by rw[←hKL];exact List.mem_map_of_mem hx)⟩
  ·cases hx
 have EQ:Hid (Zf ht (I.drop 0) (([]:List CV).map (·.1)) (K.map (·.1))=(x2,S2,M2)):=by show _=_;rw[hKL];exact unhide H2
 have LN:Hid (K.length≤720):=by show _≤_;rw[←List.length_map (f:=fun (x:CV)=>x.1),hKL];exact (unhide HRC).len
 clear hKL hlk ho hb2 C1 y00 y01 y02 x00 x01 x02
 go_wp2
 go_loopw [14,63] (fun rv i wr=>∃ (k:Nat) (K SK:List CV) (sv:Value),k≤ni∧i = .int .i64 k∧Hid (SK.length=k)∧Hid (K.length≤720)∧Hid (ApS w Y (w.heap.size+1+1) wr rv sv K SK)∧Hid (Zf ht (I.drop k) (SK.map (·.1)) (K.map (·.1))=(x2,S2,M2))) (fun _ i _=>ni - (intOf i).toNat)
 case atStart=>exact⟨0,K,[],_,Nat.zero_le _,rfl,rfl,LN,ST,EQ⟩
 case round=>
  clear ST EQ LN xb xbl
  obtain⟨k,K,SK,sv,hk,rfl,HKK,HLN,HS,HE⟩:=hrel
  have hBX:Below X0.heap.size X0 wr:=(unhide HS).gr.below (unhide HBY) (unhide HBY).size (fun q e=>by omega)
  have HBX:=hide hBX
  have HBW:=hide (bel_on (unhide HB0) hBX)
  have BU:=hide ((hBX.block _ (lt_of_block (unhide HX2))).trans (unhide HX2))
  have BT:=hide ((hBX.block _ (lt_of_block (unhide HX1))).trans (unhide HX1))
  by_cases hlt:k<ni
  ·have hlk:k<I.length:=by rw[unhide HZI];exact hlt
   obtain⟨ib,io,rfl,_,hcell⟩:=((unhide HI) wr hBX).2 (by omega)
   have hin:=hcell k hlk
   obtain⟨q,hq⟩:∃ q,I[k]=q:=⟨_,rfl⟩
   have SN:=hide (fun ht1=>Rm ht I k hlk (SK.map (·.1)) (K.map (·.1)) ht1)
   have hqm:q∈I:=hq ▸ List.getElem_mem hlk
   have hqc:=(unhide HIC) q hqm
   rw[hq] at hin SN
   obtain⟨p1,p2,pk⟩:=q
   obtain⟨i0,i1,ka,kn,kc,i2,ikO,ikS⟩:=hin
   simp only at i0 i1 i2 ikO SN hqc
   have hlw:∀ x∈K,LkAt wr x:=fun x hx=>((unhide HS).lks x (.inl hx)).1.later (unhide HBW)
   obtain⟨ra,rc,rfl,hco,hso⟩:=Zm (unhide HS).rest hlw
   obtain⟨W1,hW1⟩:∃ W1,W1=wr.alloc (.cells #[.int .i64 p1,.int .i64 p2,.slice ka kn kc] 140):=⟨_,rfl⟩
   have hb1:Below wr.heap.size wr W1:=by rw[hW1];exact bel_new _ _
   obtain⟨z,hz⟩:∃ z,plc (p1,p2) (K.map (·.1)) 0=z:=⟨_,rfl⟩
   have CP:=hide (Ug ra K.length rc (K.map (·.1)) (p1,p2) z W1 (by have:=unhide HLN;omega) (hco.later hb1) hz)
   have HB1:=hide hb1
   have HCO:=hide hco
   have il:ib<wr.heap.size:=World.block_lt_of_cell? _ _ i0
   clear hb1 hco hcell hqm
   go_wp2_with fail
   rw[←hW1]
   go_wp2_with fail
   refine (unhide CP).mono ?_
   rintro e W2 ⟨rfl,hb2⟩
   have HB2:=hide (bel_on (unhide HB1) hb2)
   have HBW2:=hide (bel_on (unhide HBW) (unhide HB2))
   have BU2:=hide (((unhide HB2).block _ (lt_of_block (unhide BU))).trans (unhide BU))
   have IB:Hid (W2.heap[wr.heap.size]? = some (.cells [.int .i64 p1,.int .i64 p2,.slice ka kn kc].toArray 140 (0,0))):=by
    show _=_
    have e:W1.heap[wr.heap.size]? = some (.cells [.int .i64 p1,.int .i64 p2,.slice ka kn kc].toArray 140 (0,0)):=by rw[hW1];exact Zp _ _ _ _ _
    exact (hb2.block _ (lt_of_block e)).trans e
   clear hb2 CP hW1 HB1 i0 i1 i2
   rcases U9 (p1,p2) (K.map (·.1)) 0 with ⟨hz1,hz2⟩|⟨j,hj,hz1,hz2,hz3⟩
   ·obtain rfl:z = -1:=hz.symm.trans hz1
    have HEE:Hid ((x,M,S)=((7:Int),([]:List Zb),([]:List Zb))∧w.heap.size≤w.heap.size+1):=by
     have e:=(unhide SN) (Nu hz2)
     rw[unhide HE] at e
     obtain⟨rfl,_⟩:=Prod.mk.inj e
     exact⟨(unhide HX).symm.trans (if_pos (by decide)),Nat.le_succ _⟩
    clear hz hz1 hz2 HE SN HX
    have CF:=hide (Yh 7 W2)
    go_wp2_with fail
    refine (unhide CF).mono ?_
    rintro e wf ⟨rfl,hbf⟩
    have BUF:=hide ((hbf.block _ (lt_of_block (unhide BU2))).trans (unhide BU2))
    have HBF:=hide (bel_on (unhide HBW2) hbf)
    have uuc:=Za (unhide BUF) 0 _ rfl
    have uuf:=Zd (unhide BUF) 0
    have uul:=lt_of_block (unhide BUF)
    clear hbf CF
    go_wp2
    (try simp only[Exit.inBlock,Exit.then])
    refine bodyPost_ret (v:=.tuple #[.slice none 0 0,.agg #[.slice none 0 0],.int .i64 7]) ?_ rfl ?_
    ·rw[Zi rfl]
     go_simp
    ·exact Xi (unhide HEE) (unhide HBF)
   ·have hjz:z=(j:Int):=by rw[←hz,hz1];simp
    subst hjz
    clear hz hz1 hz3
    have hjK:j<K.length:=by simpa using hj
    have TK:=hide (Th (unhide HS).srt j hj hz2)
    obtain⟨cx,hcx⟩:∃ cx,K[j]=cx:=⟨_,rfl⟩
    have hcm:cx∈K:=hcx ▸ List.getElem_mem hjK
    obtain⟨g,rfl⟩:∃ g,ra=some ⟨g,0,none⟩:=by
     rcases (unhide HS).rest.2 with ⟨e,q⟩|⟨g,cap,cur,e,_⟩
     ·omega
     ·exact⟨g,by injection e⟩
    have OW2:=hide ((Gr.of (S:=fun _=>False) (unhide HB2)).own (unhide HS).rest (fun _ _ q=>q))
    obtain⟨f0,f1,f2,f3,f4,f5⟩:=Ul K j hjK
    have cc:=fun u (hu:u<6)=>World.ownsRow.cellAt (unhide OW2) (j*6+u) (by omega)
    have m0:=(cc 0 (by decide)).trans f0
    rw[Nat.add_zero] at m0
    have m1:=(cc 1 (by decide)).trans f1
    have m2:=(cc 2 (by decide)).trans f2
    have m3:=(cc 3 (by decide)).trans f3
    have m4:=(cc 4 (by decide)).trans f4
    have m5:=(cc 5 (by decide)).trans f5
    have hck:=(unhide HS).lks cx (.inl hcm)
    have SL:=hide (fun M1 c1 ht1 hl=>Rn ht I k hlk (SK.map (·.1)) (K.map (·.1)) M1 c1 ht1 hl)
    have SY:=hide (fun M1 c1 ht1 hl ho=>Sd ht I k hlk (SK.map (·.1)) (K.map (·.1)) M1 c1 ht1 hl ho)
    have SO:=hide (fun M1 c1 ht1 hl ho=>P5 ht I k hlk (SK.map (·.1)) (K.map (·.1)) M1 c1 ht1 hl ho)
    rw[List.getElem_map,hcx] at TK
    rw[hcx] at m0 m1 m2 m3 m4 m5
    have HCK:=hide hck
    obtain⟨⟨c1,c2,vv,lk,hg,rr⟩,la,ln,lc⟩:=cx
    simp only[cv,ch,cr] at m0 m1 m2 m3 m4 m5
    obtain⟨W3,hW3⟩:∃ W3,W3=W2.alloc (.cells #[.int .i64 c1,.int .i64 c2,.int .i64 vv,.slice la ln lc,.int .i64 hg,.bool rr] 88):=⟨_,rfl⟩
    have hb3:Below W2.heap.size W2 W3:=by rw[hW3];exact bel_new _ _
    have CB:Hid (W3.heap[W2.heap.size]? = some (.cells [.int .i64 c1,.int .i64 c2,.int .i64 vv,.slice la ln lc,.int .i64 hg,.bool rr].toArray 88 (0,0))):=by show _=_;rw[hW3];exact heap_alloc_new _ _
    have HB3:=hide (bel_on (unhide HB2) hb3)
    have HBW3:=hide (bel_on (unhide HBW2) hb3)
    have BU3:=hide ((hb3.block _ (lt_of_block (unhide BU2))).trans (unhide BU2))
    have IB3:=hide ((hb3.block _ (lt_of_block (unhide IB))).trans (unhide IB))
    obtain⟨⟨lO,lS⟩,hc1⟩:=hck
    simp only[ck] at lO lS
    have hz1:=Xk hc1
    simp only[cv,ch,ck] at hz1
    have LO:=hide (lO.later (unhide HBW3))
    have KO:=hide (ikO.later (unhide HB3))
    have gl:g<W2.heap.size:=World.block_lt_of_cell? _ _ m0
    have hjI:(j:Int)<(K.length:Int):=by omega
    have hcl:=hz1.2.2.2.2.2.2.2.2
    have hhb:1≤hg∧hg≤1000:=⟨hz1.2.2.2.2.2.2.1,hz1.2.2.2.2.2.2.2.1⟩
    clear hb3 f0 f1 f2 f3 f4 f5 cc hcm lO hz1 hc1 hz2
    cases rr with
    | true=>
     by_cases late:ht<hg+2
     ·have HEE:Hid ((x,M,S)=((10:Int),([]:List Zb),([]:List Zb))∧w.heap.size≤w.heap.size+1):=by
       have e:=(unhide SL) _ _ (by rw[hq];exact unhide TK) (by exact⟨rfl,late⟩)
       rw[unhide HE] at e
       obtain⟨rfl,_⟩:=Prod.mk.inj e
       exact⟨(unhide HX).symm.trans (if_pos (by decide)),Nat.le_succ _⟩
      have q4:=Za (unhide CB) 4 _ rfl
      have q5:=Za (unhide CB) 5 _ rfl
      have ql:=lt_of_block (unhide CB)
      clear HE SN SL SY SO HX TK
      go_wp2_with fail
      rw[←hW3]
      have CF:=hide (Yh 10 W3)
      go_wp2_with fail
      refine (unhide CF).mono ?_
      rintro e wf ⟨rfl,hbf⟩
      have BUF:=hide ((hbf.block _ (lt_of_block (unhide BU3))).trans (unhide BU3))
      have HBF:=hide (bel_on (unhide HBW3) hbf)
      have uuc:=Za (unhide BUF) 0 _ rfl
      have uuf:=Zd (unhide BUF) 0
      have uul:=lt_of_block (unhide BUF)
      clear hbf CF
      go_wp2
      (try simp only[Exit.inBlock,Exit.then])
      refine bodyPost_ret (v:=.tuple #[.slice none 0 0,.agg #[.slice none 0 0],.int .i64 10]) ?_ rfl ?_
      ·rw[Zi rfl]
       go_simp
      ·exact Xi (unhide HEE) (unhide HBF)
     ·have NL:Hid (¬(cr ((c1,c2,vv,lk,hg,true):Zb)=true∧ht<ch ((c1,c2,vv,lk,hg,true):Zb)+2)):=fun q=>late q.2
      have OB:∃ ob,Ws lk pk ht=ob:=⟨_,rfl⟩
      obtain⟨ob,hob⟩:=OB
      have C5:=hide (Gt la ka ln lc kn kc lk pk ht W3 (unhide LO) (unhide KO) hcl hqc (unhide HHT))
      rw[hob] at C5
      have HOP:Hid (Yq lk pk ht=ob):=by show _=_;rw[←Sk hcl hqc (unhide HHT)];exact hob
      clear hob
      have q1:=Za (unhide CB) 1 _ rfl
      have q2:=Za (unhide CB) 2 _ rfl
      have q3:=Za (unhide CB) 3 _ rfl
      have q4:=Za (unhide CB) 4 _ rfl
      have q5:=Za (unhide CB) 5 _ rfl
      have q0:=Za (unhide CB) 0 _ rfl
      have ql:=lt_of_block (unhide CB)
      have r2:=Za (unhide IB3) 2 _ rfl
      have r0:=Za (unhide IB3) 0 _ rfl
      have rl:=lt_of_block (unhide IB3)
      have s2:=Za (unhide IB) 2 _ rfl
      have sl:=lt_of_block (unhide IB)
      go_wp2_with fail
      rw[←hW3]
      go_wp2_with fail
      refine (unhide C5).mono ?_
      rintro e W4 ⟨rfl,hb4⟩
      have HB4:=hide (bel_on (unhide HB3) hb4)
      have HBW4:=hide (bel_on (unhide HBW3) hb4)
      have BU4:=hide ((hb4.block _ (lt_of_block (unhide BU3))).trans (unhide BU3))
      have CB4:=hide ((hb4.block _ (lt_of_block (unhide CB))).trans (unhide CB))
      clear hb4 C5 q0 q1 q2 q3 q4 q5 ql r0 r2 rl s2 sl m0 m1 m2 m3 m4 m5 LO KO
      cases ob with
      | false=>
       have HEE:Hid ((x,M,S)=((8:Int),([]:List Zb),([]:List Zb))∧w.heap.size≤w.heap.size+1):=by
        have e:=(unhide SY) _ _ (by rw[hq];exact unhide TK) (unhide NL) (by rw[hq];exact unhide HOP)
        rw[unhide HE] at e
        obtain⟨rfl,_⟩:=Prod.mk.inj e
        exact⟨(unhide HX).symm.trans (if_pos (by decide)),Nat.le_succ _⟩
       clear HE SN SL SY SO HX TK
       have CF:=hide (Yh 8 W4)
       go_wp2_with fail
       refine (unhide CF).mono ?_
       rintro e wf ⟨rfl,hbf⟩
       have BUF:=hide ((hbf.block _ (lt_of_block (unhide BU4))).trans (unhide BU4))
       have HBF:=hide (bel_on (unhide HBW4) hbf)
       have uuc:=Za (unhide BUF) 0 _ rfl
       have uuf:=Zd (unhide BUF) 0
       have uul:=lt_of_block (unhide BUF)
       clear hbf CF
       go_wp2
       (try simp only[Exit.inBlock,Exit.then])
       refine bodyPost_ret (v:=.tuple #[.slice none 0 0,.agg #[.slice none 0 0],.int .i64 8]) ?_ rfl ?_
       ·rw[Zi rfl]
        go_simp
       ·exact Xi (unhide HEE) (unhide HBF)
      | true=>
       have BX4:=hide (((unhide HB4).block _ (lt_of_block (unhide HS).box)).trans (unhide HS).box)
       have OS4:=(Gr.of (S:=fun _=>False) (unhide HB4)).own (unhide HS).spent (fun _ _ q=>q)
       have OR4:=hide ((Gr.of (S:=fun _=>False) (unhide HB4)).own (unhide HS).rest (fun _ _ q=>q))
       have hbn:=bel_new W4 (.cells #[.int .i64 c1,.int .i64 c2,.int .i64 vv,.slice la ln lc,.int .i64 hg,.bool true] 88)
       have OWN5:=hide ((Gr.of (S:=fun _=>False) hbn).own OS4 (fun _ _ q=>q))
       have OR5:=hide ((Gr.of (S:=fun _=>False) hbn).own (unhide OR4) (fun _ _ q=>q))
       have BX5:=hide ((hbn.block _ (lt_of_block (unhide BX4))).trans (unhide BX4))
       have NEWS:=hide (World.news_of_block (heap_alloc_new W4 (.cells #[.int .i64 c1,.int .i64 c2,.int .i64 vv,.slice la ln lc,.int .i64 hg,.bool true] 88)))
       have HB5:=hide (bel_on (unhide HB4) hbn)
       have YS:Y.heap.size≤(W4.alloc (.cells #[.int .i64 c1,.int .i64 c2,.int .i64 vv,.slice la ln lc,.int .i64 hg,.bool true] 88)).heap.size:=Nat.le_trans (unhide HS).gr.size (Nat.le_trans (unhide HB4).size hbn.size)
       have SKL:SK.length≤6:=by have:=unhide HKK;omega
       obtain⟨i0,hi,hz0,hz1,hz2⟩:=info_parts Tryz.infoCoin
       have u0:=Za (unhide BX4) 0 _ rfl
       have ul:=lt_of_block (unhide BX4)
       have v0:=Za (unhide CB4) 0 _ rfl
       have v1:=Za (unhide CB4) 1 _ rfl
       have v2:=Za (unhide CB4) 2 _ rfl
       have v3:=Za (unhide CB4) 3 _ rfl
       have v4:=Za (unhide CB4) 4 _ rfl
       have v5:=Za (unhide CB4) 5 _ rfl
       have vl:=lt_of_block (unhide CB4)
       clear hbn OS4
       go_wp2_with (at_builtin;refine wpList_append_lies _ rfl _ _ 25 rfl Y.heap.size 88 i0 zeroC 6 64 Tryz.underlying25 hi hz0 hz1 hz2 rfl (by decide) _ _ _ rfl (unhide OWN5) ⟨W4.heap.size,0,none⟩ 1 1 [.int .i64 c1,.int .i64 c2,.int .i64 vv,.slice la ln lc,.int .i64 hg,.bool true] rfl rfl (unhide NEWS) (fun u hu=>by simp at hu;rcases hu with rfl|rfl|rfl|rfl|rfl|rfl <;> rfl) (by decide) (by unfold maxLen;omega) (by omega) YS _ rfl ?_;intro g7 cap7 w7 hown7 hgrow7 hor7 _;have hx7:=(hgrow7.block (w.heap.size+1+1) (lt_of_block (unhide BX5)) (fun e=>V8 (unhide OWN5) (unhide BX5) (by decide) e.symm)).trans (unhide BX5);have HX7:=hide hx7;have HO7:=hide hown7;have HG7:=hide hgrow7;have yy0:=Za hx7 0 _ rfl;have yyl:=lt_of_block hx7;have yyf:=Zd hx7 0;clear hx7 hown7 hgrow7 hor7)
       obtain⟨W8,hW8⟩:∃ W8,W8=w7.setCell ⟨w.heap.size+1+1,0,none⟩ (.slice (some ⟨g7,0,none⟩) (SK.length+1) cap7):=⟨_,rfl⟩
       have G7:Gr (W4.alloc (.cells #[.int .i64 c1,.int .i64 c2,.int .i64 vv,.slice la ln lc,.int .i64 hg,.bool true] 88)) w7 (fun q=>sv.ownBlock=some q):=(Gr.refl _ _).grown (unhide HG7) (fun q e=>.inl e)
       have OR7:=G7.own (unhide OR5) (fun q e=>(unhide HS).apart q e)
       have G8:Gr w7 W8 (fun q=>q=w.heap.size+1+1):=by rw[hW8];exact (Gr.refl w7 (fun q=>q=w.heap.size+1+1)).set (p:=⟨w.heap.size+1+1,0,none⟩) (.inl rfl) _
       have OR8:=hide (G8.own OR7 (fun q e e2=>V8 OR7 (unhide HX7) (by decide) (by rw[←e2];exact e)))
       have OS8:=hide (G8.own (unhide HO7) (fun q e e2=>V8 (unhide HO7) (unhide HX7) (by decide) (by rw[←e2];exact e)))
       have BX8:Hid (W8.heap[w.heap.size+1+1]? = some (.cells #[.slice (some ⟨g7,0,none⟩) (SK.length+1) cap7] 68 (0,0))):=by show _=_;rw[hW8];exact Xo (unhide HX7)
       have GY8:Hid (Gr Y W8 (fun q=>q=w.heap.size+1+1)):=by
        have e1:=(((unhide HS).gr.on (unhide HB5)).grown (unhide HG7) (fun q e=>.inr (Yp (unhide OWN5) q e)))
        show Gr _ _ _
        rw[hW8]
        exact e1.set (p:=⟨w.heap.size+1+1,0,none⟩) (.inl rfl) _
       have GW8:Hid (g<W8.heap.size):=(unhide OR8).lt g rfl |>.2
       have hKr:K.length≤rc:=hso.1
       rw[←hW8]
       clear hW8 G7 OR7 G8 OWN5 OR5 OR4 NEWS HX7 HO7 yy0 yyl yyf u0 ul v0 v1 v2 v3 v4 v5 vl
       have HR0:=hide (Zc W8)
       have hjr:j≤rc:=by omega
       have hwj:IntKind.i64.wrap ((j:Int)+1)=((j+1:Nat):Int):=by have:=unhide HLN;rw[IntKind.wrap_i64];omega
       have hj1:j+1≤K.length:=by omega
       have hj1r:j+1≤rc:=by omega
       obtain⟨ya,hya,hyb⟩:∃ ya:Addr,(if rc=j+1 then some (⟨g,0,none⟩:Addr) else some ⟨g,(j+1)*6,none⟩)=some ya∧(rc≠j+1→ya=⟨g,(j+1)*6,none⟩):=by
        by_cases e:rc=j+1
        ·exact⟨⟨g,0,none⟩,if_pos e,fun q=>absurd e q⟩
        ·exact⟨⟨g,(j+1)*6,none⟩,if_neg e,fun _=>rfl⟩
       have HYA:=hide hya
       have HYB:=hide hyb
       clear hya hyb
       refine wp_region_held_drew (S:=fun W=>Below W8.heap.size W8 W) (by kernel_rfl) (Zc _) (fun hHeld=>?_)
       refine wpAnyH_take (i:=0) (oi:=⟨some 115,.move (.tmp 14),25, "second.go:99",#[],none⟩) (v:=?_) rfl (by kernel_rfl) (by kernel_rfl) (by kernel_rfl) (fun _ _ _ h=>h) (Or.inl ⟨by rfl,?_⟩) hHeld ?_
       rotate_left
       ·(intro W hSw;(try dsimp only at hSw);go_simp;first|done|with_reducible rfl)
       (try simp only[Act.put,ZA,ZB,ZC])
       refine wpAnyH_take (i:=1) (oi:=⟨some 116,.move (.tmp 17),3, "second.go:99",#[],none⟩) (v:=?_) rfl (by kernel_rfl) (by kernel_rfl) (by kernel_rfl) (fun _ _ _ h=>h) (Or.inl ⟨by rfl,?_⟩) hHeld ?_
       rotate_left
       ·(intro W hSw;(try dsimp only at hSw);go_simp;first|done|with_reducible rfl)
       (try simp only[Act.put,ZA,ZB,ZC])
       refine wpAnyH_take (i:=2) (oi:=⟨some 117,.slice 25 (.tmp 115) none (some (.tmp 116)) none,25, "second.go:99",#[⟨0,.data⟩,⟨1,.data⟩],none⟩) (v:=.slice (some ⟨g,0,none⟩) j rc) rfl (by kernel_rfl) (by kernel_rfl) (by kernel_rfl) (fun _ _ _ h=>h) (Or.inl ⟨by rfl,?_⟩) hHeld ?_
       ·(intro W hSw;(try dsimp only at hSw);go_simp;first|done|rw[if_pos hjr])
       (try simp only[Act.put,ZA,ZB,ZC])
       refine wpAnyH_take (i:=3) (oi:=⟨some 118,.move (.tmp 14),25, "second.go:99",#[],none⟩) (v:=?_) rfl (by kernel_rfl) (by kernel_rfl) (by kernel_rfl) (fun _ _ _ h=>h) (Or.inl ⟨by rfl,?_⟩) hHeld ?_
       rotate_left
       ·(intro W hSw;(try dsimp only at hSw);go_simp;first|done|with_reducible rfl)
       (try simp only[Act.put,ZA,ZB,ZC])
       refine wpAnyH_take (i:=4) (oi:=⟨some 119,.move (.tmp 17),3, "second.go:99",#[],none⟩) (v:=?_) rfl (by kernel_rfl) (by kernel_rfl) (by kernel_rfl) (fun _ _ _ h=>h) (Or.inl ⟨by rfl,?_⟩) hHeld ?_
       rotate_left
       ·(intro W hSw;(try dsimp only at hSw);go_simp;first|done|with_reducible rfl)
       (try simp only[Act.put,ZA,ZB,ZC])
       refine wpAnyH_take (i:=5) (oi:=⟨some 120,.binOp BinOp.add 3 (.tmp 119) (.const (Value.int IntKind.i64 1)) 3,3, "second.go:99",#[⟨4,.data⟩],none⟩) (v:=?_) rfl (by kernel_rfl) (by kernel_rfl) (by kernel_rfl) (fun _ _ _ h=>h) (Or.inl ⟨by rfl,?_⟩) hHeld ?_
       rotate_left
       ·(intro W hSw;(try dsimp only at hSw);go_simp;first|done|with_reducible rfl)
       (try simp only[Act.put,ZA,ZB,ZC])
       refine wpAnyH_take (i:=6) (oi:=⟨some 121,.slice 25 (.tmp 118) (some (.tmp 120)) none none,25, "second.go:99",#[⟨3,.data⟩,⟨5,.data⟩],none⟩) (v:=.slice (some ya) (K.length - (j+1)) (rc - (j+1))) rfl (by kernel_rfl) (by kernel_rfl) (by kernel_rfl) (fun _ _ _ h=>h) (Or.inl ⟨by rfl,?_⟩) hHeld ?_
       ·(intro W hSw;(try dsimp only at hSw);go_simp;rw[if_pos ⟨by omega,by omega⟩,unhide HYA])
       (try simp only[Act.put,ZA,ZB,ZC])
       obtain⟨W9,hW9⟩:∃ W9,W9=(W8.alloc (.cells #[.slice (some ⟨g,0,none⟩) j rc,.slice (some ya) (K.length - (j+1)) (rc - (j+1))] 25)).drew:=⟨_,rfl⟩
       have hb9:Below W8.heap.size W8 W9:=by rw[hW9];exact bel_on (bel_new W8 _) (Zc _)
       have pr:W9.heap[W8.heap.size]? = some (.cells [.slice (some ⟨g,0,none⟩) j rc,.slice (some ya) (K.length - (j+1)) (rc - (j+1))].toArray 25 (0,0)):=by rw[hW9];exact heap_alloc_new _ _
       have OR9:=(Gr.of (S:=fun _=>False) hb9).own (unhide OR8) (fun _ _ q=>q)
       obtain⟨cl1,cl2⟩:=Pe OR9 j rc hj1 hKr ya (unhide HYB)
       have CC:=hide (Sy W8.heap.size ⟨g,0,none⟩ ya j rc (K.length - (j+1)) (rc - (j+1)) (K.take j) (K.drop (j+1)) W9 (by have:=unhide HLN;omega) (by rw[List.length_take];omega) (by rw[List.length_drop]) cl1 cl2 (Za pr 0 _ rfl) (Za pr 1 _ rfl))
       have HB9:=hide hb9
       clear cl1 cl2 OR9 pr hb9
       refine wpAnyH_ready (rs:=[7]) (by kernel_rfl) (by simp) ?_
       refine AllReadyH.cons (o:=⟨some 122,.buildSlice 190 2 #[(0,.tmp 117),(1,.tmp 121)],190, "second.go:99",#[⟨2,.data⟩,⟨6,.data⟩],none⟩) rfl (fun K0 hK=>?_) AllReadyH.nil
       go_simp
       (first|rw[←hW9]|(rw[show (W8.drew).alloc (.cells #[.slice (some ⟨g,0,none⟩) j rc,.slice (some ya) (K.length - (j+1)) (rc - (j+1))] 25)=W9 from hW9.symm]))
       refine hK.out _ _ (unhide HB9) (fun hHeld2=>?_)
       clear hK K0 hHeld hW9
       have hHeld:=hHeld2
       clear hHeld2
       (try simp only[Act.put,ZA,ZB,ZC])
       refine wpAnyH_ready (rs:=[8]) (by kernel_rfl) (by simp) ?_
       refine AllReadyH.cons (o:=⟨some 123,.call { callee:=Callee.value (.func 87),args:=#[.tmp 122],argTypes:=#[190] },25, "second.go:99",#[⟨7,.data⟩],none⟩) rfl (fun K0 hK=>?_) AllReadyH.nil
       refine Xe (by kernel_rfl) 87 #[.slice (some ⟨W8.heap.size,0,none⟩) 2 2] (by kernel_rfl) (unhide CC) ?_
       rintro e W10 ⟨v10,rfl,ho10,hb10⟩
       refine⟨_,rfl,?_⟩
       have HB10:=hide (bel_on (unhide HB9) hb10)
       have HO10:=hide ho10
       have S9:=(unhide HB9).size
       clear CC ho10 hb10
       refine hK.out _ _ (unhide HB10) (fun hHeld2=>?_)
       clear hK K0 hHeld
       have hHeld:=hHeld2
       clear hHeld2
       (try simp only[Act.put,ZA,ZB,ZC])
       refine wpAnyH_take (i:=9) (oi:=⟨some 14,.assign (.tmp 123),25, "second.go:99",#[⟨8,.data⟩,⟨8,.chain⟩,⟨0,.phase⟩,⟨1,.phase⟩,⟨2,.phase⟩,⟨3,.phase⟩,⟨4,.phase⟩,⟨5,.phase⟩,⟨6,.phase⟩,⟨7,.phase⟩,⟨8,.phase⟩],none⟩) (v:=?_) rfl (by kernel_rfl) (by kernel_rfl) (by kernel_rfl) (fun _ _ _ h=>h) (Or.inl ⟨by rfl,?_⟩) hHeld ?_
       rotate_left
       ·(intro W hSw;(try dsimp only at hSw);go_simp;first|done|with_reducible rfl)
       (try simp only[Act.put,ZA,ZB,ZC])
       refine wpAnyH_done (by kernel_rfl) ?_ _
       clear hHeld HR0
       have hmp:∀ (A:List CV),(A.take j++A.drop (j+1)).map (·.1)=(A.map (·.1)).take j++(A.map (·.1)).drop (j+1):=fun A=>by rw[List.map_append,List.map_take,List.map_drop]
       have hnl:(K.take j++K.drop (j+1)).length=j+(K.length - (j+1)):=by rw[List.length_append,List.length_take,List.length_drop];omega
       have AS:Hid (ApS w Y (w.heap.size+1+1) W10 v10 (.slice (some ⟨g7,0,none⟩) (SK.length+1) cap7) (K.take j++K.drop (j+1)) (SK++[(((c1,c2,vv,lk,hg,true):Zb),la,ln,lc)])):=by
        have hs8:=(Gr.of (S:=fun _=>False) (unhide HB10)).own (unhide OS8) (fun _ _ q=>q)
        refine⟨?_,((unhide HB10).block _ (lt_of_block (unhide BX8))).trans (unhide BX8),?_,fun x hx=>?_,?_,(unhide GY8).on (unhide HB10),fun b e e2=>?_⟩
        ·rw[hnl]
         exact own_base (unhide HO10) (Nat.le_trans (unhide GY8).size S9)
        ·rw[List.length_append,Zk]
         exact hs8
        ·rcases hx with hx|hx
         ·rcases List.mem_append.1 hx with hx|hx
          ·exact (unhide HS).lks x (.inl (List.mem_of_mem_take hx))
          ·exact (unhide HS).lks x (.inl (List.mem_of_mem_drop hx))
         ·rcases List.mem_append.1 hx with hx|hx
          ·exact (unhide HS).lks x (.inr hx)
          ·rw[List.mem_singleton.1 hx];exact unhide HCK
        ·rw[hmp];exact U5 (unhide TK) (unhide HS).srt
        ·have q1:=Yp (unhide HO10) b e
         have q2:=((unhide OS8).lt g7 rfl).2
         have q3:g7=b:=by injection e2
         omega
       have HE2:Hid (Zf ht (I.drop (k+1)) ((SK++[(((c1,c2,vv,lk,hg,true):Zb),la,ln,lc)]).map (·.1)) ((K.take j++K.drop (j+1)).map (·.1))=(x2,S2,M2)):=by
        have e:=(unhide SO) _ _ (by rw[hq];exact unhide TK) (unhide NL) (by rw[hq];exact unhide HOP)
        rw[unhide HE] at e
        show _=_
        rw[hmp,List.map_append]
        exact e.symm
       have L2:Hid ((SK++[(((c1,c2,vv,lk,hg,true):Zb),la,ln,lc)]).length=k+1):=by show _=_;rw[List.length_append,unhide HKK];rfl
       have L3:Hid ((K.take j++K.drop (j+1)).length≤720):=by show _≤_;rw[hnl];have:=unhide HLN;omega
       clear hmp hnl
       go_wp2
       go_roundw
       case rel=>first|exact⟨k+1,_,_,_,by omega,by go_num,L2,L3,AS,HE2⟩|((repeat apply Exists.intro);refine⟨?_,rfl⟩;exact⟨k+1,_,_,_,by omega,by go_num,L2,L3,AS,HE2⟩)
       case measure=>simp[intOf];omega
    | false=>
     have NL:Hid (¬(cr ((c1,c2,vv,lk,hg,false):Zb)=true∧ht<ch ((c1,c2,vv,lk,hg,false):Zb)+2)):=fun q=>Bool.noConfusion q.1
     have OB:∃ ob,Ws lk pk ht=ob:=⟨_,rfl⟩
     obtain⟨ob,hob⟩:=OB
     have C5:=hide (Gt la ka ln lc kn kc lk pk ht W3 (unhide LO) (unhide KO) hcl hqc (unhide HHT))
     rw[hob] at C5
     have HOP:Hid (Yq lk pk ht=ob):=by show _=_;rw[←Sk hcl hqc (unhide HHT)];exact hob
     clear hob
     have q1:=Za (unhide CB) 1 _ rfl
     have q2:=Za (unhide CB) 2 _ rfl
     have q3:=Za (unhide CB) 3 _ rfl
     have q4:=Za (unhide CB) 4 _ rfl
     have q5:=Za (unhide CB) 5 _ rfl
     have q0:=Za (unhide CB) 0 _ rfl
     have ql:=lt_of_block (unhide CB)
     have r2:=Za (unhide IB3) 2 _ rfl
     have r0:=Za (unhide IB3) 0 _ rfl
     have rl:=lt_of_block (unhide IB3)
     have s2:=Za (unhide IB) 2 _ rfl
     have sl:=lt_of_block (unhide IB)
     go_wp2_with fail
     rw[←hW3]
     go_wp2_with fail
     refine (unhide C5).mono ?_
     rintro e W4 ⟨rfl,hb4⟩
     have HB4:=hide (bel_on (unhide HB3) hb4)
     have HBW4:=hide (bel_on (unhide HBW3) hb4)
     have BU4:=hide ((hb4.block _ (lt_of_block (unhide BU3))).trans (unhide BU3))
     have CB4:=hide ((hb4.block _ (lt_of_block (unhide CB))).trans (unhide CB))
     clear hb4 C5 q0 q1 q2 q3 q4 q5 ql r0 r2 rl s2 sl m0 m1 m2 m3 m4 m5 LO KO
     cases ob with
     | false=>
      have HEE:Hid ((x,M,S)=((8:Int),([]:List Zb),([]:List Zb))∧w.heap.size≤w.heap.size+1):=by
       have e:=(unhide SY) _ _ (by rw[hq];exact unhide TK) (unhide NL) (by rw[hq];exact unhide HOP)
       rw[unhide HE] at e
       obtain⟨rfl,_⟩:=Prod.mk.inj e
       exact⟨(unhide HX).symm.trans (if_pos (by decide)),Nat.le_succ _⟩
      clear HE SN SL SY SO HX TK
      have CF:=hide (Yh 8 W4)
      go_wp2_with fail
      refine (unhide CF).mono ?_
      rintro e wf ⟨rfl,hbf⟩
      have BUF:=hide ((hbf.block _ (lt_of_block (unhide BU4))).trans (unhide BU4))
      have HBF:=hide (bel_on (unhide HBW4) hbf)
      have uuc:=Za (unhide BUF) 0 _ rfl
      have uuf:=Zd (unhide BUF) 0
      have uul:=lt_of_block (unhide BUF)
      clear hbf CF
      go_wp2
      (try simp only[Exit.inBlock,Exit.then])
      refine bodyPost_ret (v:=.tuple #[.slice none 0 0,.agg #[.slice none 0 0],.int .i64 8]) ?_ rfl ?_
      ·rw[Zi rfl]
       go_simp
      ·exact Xi (unhide HEE) (unhide HBF)
     | true=>
      have BX4:=hide (((unhide HB4).block _ (lt_of_block (unhide HS).box)).trans (unhide HS).box)
      have OS4:=(Gr.of (S:=fun _=>False) (unhide HB4)).own (unhide HS).spent (fun _ _ q=>q)
      have OR4:=hide ((Gr.of (S:=fun _=>False) (unhide HB4)).own (unhide HS).rest (fun _ _ q=>q))
      have hbn:=bel_new W4 (.cells #[.int .i64 c1,.int .i64 c2,.int .i64 vv,.slice la ln lc,.int .i64 hg,.bool false] 88)
      have OWN5:=hide ((Gr.of (S:=fun _=>False) hbn).own OS4 (fun _ _ q=>q))
      have OR5:=hide ((Gr.of (S:=fun _=>False) hbn).own (unhide OR4) (fun _ _ q=>q))
      have BX5:=hide ((hbn.block _ (lt_of_block (unhide BX4))).trans (unhide BX4))
      have NEWS:=hide (World.news_of_block (heap_alloc_new W4 (.cells #[.int .i64 c1,.int .i64 c2,.int .i64 vv,.slice la ln lc,.int .i64 hg,.bool false] 88)))
      have HB5:=hide (bel_on (unhide HB4) hbn)
      have YS:Y.heap.size≤(W4.alloc (.cells #[.int .i64 c1,.int .i64 c2,.int .i64 vv,.slice la ln lc,.int .i64 hg,.bool false] 88)).heap.size:=Nat.le_trans (unhide HS).gr.size (Nat.le_trans (unhide HB4).size hbn.size)
      have SKL:SK.length≤6:=by have:=unhide HKK;omega
      obtain⟨i0,hi,hz0,hz1,hz2⟩:=info_parts Tryz.infoCoin
      have u0:=Za (unhide BX4) 0 _ rfl
      have ul:=lt_of_block (unhide BX4)
      have v0:=Za (unhide CB4) 0 _ rfl
      have v1:=Za (unhide CB4) 1 _ rfl
      have v2:=Za (unhide CB4) 2 _ rfl
      have v3:=Za (unhide CB4) 3 _ rfl
      have v4:=Za (unhide CB4) 4 _ rfl
      have v5:=Za (unhide CB4) 5 _ rfl
      have vl:=lt_of_block (unhide CB4)
      clear hbn OS4
      go_wp2_with (at_builtin;refine wpList_append_lies _ rfl _ _ 25 rfl Y.heap.size 88 i0 zeroC 6 64 Tryz.underlying25 hi hz0 hz1 hz2 rfl (by decide) _ _ _ rfl (unhide OWN5) ⟨W4.heap.size,0,none⟩ 1 1 [.int .i64 c1,.int .i64 c2,.int .i64 vv,.slice la ln lc,.int .i64 hg,.bool false] rfl rfl (unhide NEWS) (fun u hu=>by simp at hu;rcases hu with rfl|rfl|rfl|rfl|rfl|rfl <;> rfl) (by decide) (by unfold maxLen;omega) (by omega) YS _ rfl ?_;intro g7 cap7 w7 hown7 hgrow7 hor7 _;have hx7:=(hgrow7.block (w.heap.size+1+1) (lt_of_block (unhide BX5)) (fun e=>V8 (unhide OWN5) (unhide BX5) (by decide) e.symm)).trans (unhide BX5);have HX7:=hide hx7;have HO7:=hide hown7;have HG7:=hide hgrow7;have yy0:=Za hx7 0 _ rfl;have yyl:=lt_of_block hx7;have yyf:=Zd hx7 0;clear hx7 hown7 hgrow7 hor7)
      obtain⟨W8,hW8⟩:∃ W8,W8=w7.setCell ⟨w.heap.size+1+1,0,none⟩ (.slice (some ⟨g7,0,none⟩) (SK.length+1) cap7):=⟨_,rfl⟩
      have G7:Gr (W4.alloc (.cells #[.int .i64 c1,.int .i64 c2,.int .i64 vv,.slice la ln lc,.int .i64 hg,.bool false] 88)) w7 (fun q=>sv.ownBlock=some q):=(Gr.refl _ _).grown (unhide HG7) (fun q e=>.inl e)
      have OR7:=G7.own (unhide OR5) (fun q e=>(unhide HS).apart q e)
      have G8:Gr w7 W8 (fun q=>q=w.heap.size+1+1):=by rw[hW8];exact (Gr.refl w7 (fun q=>q=w.heap.size+1+1)).set (p:=⟨w.heap.size+1+1,0,none⟩) (.inl rfl) _
      have OR8:=hide (G8.own OR7 (fun q e e2=>V8 OR7 (unhide HX7) (by decide) (by rw[←e2];exact e)))
      have OS8:=hide (G8.own (unhide HO7) (fun q e e2=>V8 (unhide HO7) (unhide HX7) (by decide) (by rw[←e2];exact e)))
      have BX8:Hid (W8.heap[w.heap.size+1+1]? = some (.cells #[.slice (some ⟨g7,0,none⟩) (SK.length+1) cap7] 68 (0,0))):=by show _=_;rw[hW8];exact Xo (unhide HX7)
      have GY8:Hid (Gr Y W8 (fun q=>q=w.heap.size+1+1)):=by
       have e1:=(((unhide HS).gr.on (unhide HB5)).grown (unhide HG7) (fun q e=>.inr (Yp (unhide OWN5) q e)))
       show Gr _ _ _
       rw[hW8]
       exact e1.set (p:=⟨w.heap.size+1+1,0,none⟩) (.inl rfl) _
      have GW8:Hid (g<W8.heap.size):=(unhide OR8).lt g rfl |>.2
      have hKr:K.length≤rc:=hso.1
      rw[←hW8]
      clear hW8 G7 OR7 G8 OWN5 OR5 OR4 NEWS HX7 HO7 yy0 yyl yyf u0 ul v0 v1 v2 v3 v4 v5 vl
      have HR0:=hide (Zc W8)
      have hjr:j≤rc:=by omega
      have hwj:IntKind.i64.wrap ((j:Int)+1)=((j+1:Nat):Int):=by have:=unhide HLN;rw[IntKind.wrap_i64];omega
      have hj1:j+1≤K.length:=by omega
      have hj1r:j+1≤rc:=by omega
      obtain⟨ya,hya,hyb⟩:∃ ya:Addr,(if rc=j+1 then some (⟨g,0,none⟩:Addr) else some ⟨g,(j+1)*6,none⟩)=some ya∧(rc≠j+1→ya=⟨g,(j+1)*6,none⟩):=by
       by_cases e:rc=j+1
       ·exact⟨⟨g,0,none⟩,if_pos e,fun q=>absurd e q⟩
       ·exact⟨⟨g,(j+1)*6,none⟩,if_neg e,fun _=>rfl⟩
      have HYA:=hide hya
      have HYB:=hide hyb
      clear hya hyb
      refine wp_region_held_drew (S:=fun W=>Below W8.heap.size W8 W) (by kernel_rfl) (Zc _) (fun hHeld=>?_)
      refine wpAnyH_take (i:=0) (oi:=⟨some 115,.move (.tmp 14),25, "second.go:99",#[],none⟩) (v:=?_) rfl (by kernel_rfl) (by kernel_rfl) (by kernel_rfl) (fun _ _ _ h=>h) (Or.inl ⟨by rfl,?_⟩) hHeld ?_
      rotate_left
      ·(intro W hSw;(try dsimp only at hSw);go_simp;first|done|with_reducible rfl)
      (try simp only[Act.put,ZA,ZB,ZC])
      refine wpAnyH_take (i:=1) (oi:=⟨some 116,.move (.tmp 17),3, "second.go:99",#[],none⟩) (v:=?_) rfl (by kernel_rfl) (by kernel_rfl) (by kernel_rfl) (fun _ _ _ h=>h) (Or.inl ⟨by rfl,?_⟩) hHeld ?_
      rotate_left
      ·(intro W hSw;(try dsimp only at hSw);go_simp;first|done|with_reducible rfl)
      (try simp only[Act.put,ZA,ZB,ZC])
      refine wpAnyH_take (i:=2) (oi:=⟨some 117,.slice 25 (.tmp 115) none (some (.tmp 116)) none,25, "second.go:99",#[⟨0,.data⟩,⟨1,.data⟩],none⟩) (v:=.slice (some ⟨g,0,none⟩) j rc) rfl (by kernel_rfl) (by kernel_rfl) (by kernel_rfl) (fun _ _ _ h=>h) (Or.inl ⟨by rfl,?_⟩) hHeld ?_
      ·(intro W hSw;(try dsimp only at hSw);go_simp;first|done|rw[if_pos hjr])
      (try simp only[Act.put,ZA,ZB,ZC])
      refine wpAnyH_take (i:=3) (oi:=⟨some 118,.move (.tmp 14),25, "second.go:99",#[],none⟩) (v:=?_) rfl (by kernel_rfl) (by kernel_rfl) (by kernel_rfl) (fun _ _ _ h=>h) (Or.inl ⟨by rfl,?_⟩) hHeld ?_
      rotate_left
      ·(intro W hSw;(try dsimp only at hSw);go_simp;first|done|with_reducible rfl)
      (try simp only[Act.put,ZA,ZB,ZC])
      refine wpAnyH_take (i:=4) (oi:=⟨some 119,.move (.tmp 17),3, "second.go:99",#[],none⟩) (v:=?_) rfl (by kernel_rfl) (by kernel_rfl) (by kernel_rfl) (fun _ _ _ h=>h) (Or.inl ⟨by rfl,?_⟩) hHeld ?_
      rotate_left
      ·(intro W hSw;(try dsimp only at hSw);go_simp;first|done|with_reducible rfl)
      (try simp only[Act.put,ZA,ZB,ZC])
      refine wpAnyH_take (i:=5) (oi:=⟨some 120,.binOp BinOp.add 3 (.tmp 119) (.const (Value.int IntKind.i64 1)) 3,3, "second.go:99",#[⟨4,.data⟩],none⟩) (v:=?_) rfl (by kernel_rfl) (by kernel_rfl) (by kernel_rfl) (fun _ _ _ h=>h) (Or.inl ⟨by rfl,?_⟩) hHeld ?_
      rotate_left
      ·(intro W hSw;(try dsimp only at hSw);go_simp;first|done|with_reducible rfl)
      (try simp only[Act.put,ZA,ZB,ZC])
      refine wpAnyH_take (i:=6) (oi:=⟨some 121,.slice 25 (.tmp 118) (some (.tmp 120)) none none,25, "second.go:99",#[⟨3,.data⟩,⟨5,.data⟩],none⟩) (v:=.slice (some ya) (K.length - (j+1)) (rc - (j+1))) rfl (by kernel_rfl) (by kernel_rfl) (by kernel_rfl) (fun _ _ _ h=>h) (Or.inl ⟨by rfl,?_⟩) hHeld ?_
      ·(intro W hSw;(try dsimp only at hSw);go_simp;rw[if_pos ⟨by omega,by omega⟩,unhide HYA])
      (try simp only[Act.put,ZA,ZB,ZC])
      obtain⟨W9,hW9⟩:∃ W9,W9=(W8.alloc (.cells #[.slice (some ⟨g,0,none⟩) j rc,.slice (some ya) (K.length - (j+1)) (rc - (j+1))] 25)).drew:=⟨_,rfl⟩
      have hb9:Below W8.heap.size W8 W9:=by rw[hW9];exact bel_on (bel_new W8 _) (Zc _)
      have pr:W9.heap[W8.heap.size]? = some (.cells [.slice (some ⟨g,0,none⟩) j rc,.slice (some ya) (K.length - (j+1)) (rc - (j+1))].toArray 25 (0,0)):=by rw[hW9];exact heap_alloc_new _ _
      have OR9:=(Gr.of (S:=fun _=>False) hb9).own (unhide OR8) (fun _ _ q=>q)
      obtain⟨cl1,cl2⟩:=Pe OR9 j rc hj1 hKr ya (unhide HYB)
      have CC:=hide (Sy W8.heap.size ⟨g,0,none⟩ ya j rc (K.length - (j+1)) (rc - (j+1)) (K.take j) (K.drop (j+1)) W9 (by have:=unhide HLN;omega) (by rw[List.length_take];omega) (by rw[List.length_drop]) cl1 cl2 (Za pr 0 _ rfl) (Za pr 1 _ rfl))
      have HB9:=hide hb9
      clear cl1 cl2 OR9 pr hb9
      refine wpAnyH_ready (rs:=[7]) (by kernel_rfl) (by simp) ?_
      refine AllReadyH.cons (o:=⟨some 122,.buildSlice 190 2 #[(0,.tmp 117),(1,.tmp 121)],190, "second.go:99",#[⟨2,.data⟩,⟨6,.data⟩],none⟩) rfl (fun K0 hK=>?_) AllReadyH.nil
      go_simp
      (first|rw[←hW9]|(rw[show (W8.drew).alloc (.cells #[.slice (some ⟨g,0,none⟩) j rc,.slice (some ya) (K.length - (j+1)) (rc - (j+1))] 25)=W9 from hW9.symm]))
      refine hK.out _ _ (unhide HB9) (fun hHeld2=>?_)
      clear hK K0 hHeld hW9
      have hHeld:=hHeld2
      clear hHeld2
      (try simp only[Act.put,ZA,ZB,ZC])
      refine wpAnyH_ready (rs:=[8]) (by kernel_rfl) (by simp) ?_
      refine AllReadyH.cons (o:=⟨some 123,.call { callee:=Callee.value (.func 87),args:=#[.tmp 122],argTypes:=#[190] },25, "second.go:99",#[⟨7,.data⟩],none⟩) rfl (fun K0 hK=>?_) AllReadyH.nil
      refine Xe (by kernel_rfl) 87 #[.slice (some ⟨W8.heap.size,0,none⟩) 2 2] (by kernel_rfl) (unhide CC) ?_
      rintro e W10 ⟨v10,rfl,ho10,hb10⟩
      refine⟨_,rfl,?_⟩
      have HB10:=hide (bel_on (unhide HB9) hb10)
      have HO10:=hide ho10
      have S9:=(unhide HB9).size
      clear CC ho10 hb10
      refine hK.out _ _ (unhide HB10) (fun hHeld2=>?_)
      clear hK K0 hHeld
      have hHeld:=hHeld2
      clear hHeld2
      (try simp only[Act.put,ZA,ZB,ZC])
      refine wpAnyH_take (i:=9) (oi:=⟨some 14,.assign (.tmp 123),25, "second.go:99",#[⟨8,.data⟩,⟨8,.chain⟩,⟨0,.phase⟩,⟨1,.phase⟩,⟨2,.phase⟩,⟨3,.phase⟩,⟨4,.phase⟩,⟨5,.phase⟩,⟨6,.phase⟩,⟨7,.phase⟩,⟨8,.phase⟩],none⟩) (v:=?_) rfl (by kernel_rfl) (by kernel_rfl) (by kernel_rfl) (fun _ _ _ h=>h) (Or.inl ⟨by rfl,?_⟩) hHeld ?_
      rotate_left
      ·(intro W hSw;(try dsimp only at hSw);go_simp;first|done|with_reducible rfl)
      (try simp only[Act.put,ZA,ZB,ZC])
      refine wpAnyH_done (by kernel_rfl) ?_ _
      clear hHeld HR0
      have hmp:∀ (A:List CV),(A.take j++A.drop (j+1)).map (·.1)=(A.map (·.1)).take j++(A.map (·.1)).drop (j+1):=fun A=>by rw[List.map_append,List.map_take,List.map_drop]
      have hnl:(K.take j++K.drop (j+1)).length=j+(K.length - (j+1)):=by rw[List.length_append,List.length_take,List.length_drop];omega
      have AS:Hid (ApS w Y (w.heap.size+1+1) W10 v10 (.slice (some ⟨g7,0,none⟩) (SK.length+1) cap7) (K.take j++K.drop (j+1)) (SK++[(((c1,c2,vv,lk,hg,false):Zb),la,ln,lc)])):=by
       have hs8:=(Gr.of (S:=fun _=>False) (unhide HB10)).own (unhide OS8) (fun _ _ q=>q)
       refine⟨?_,((unhide HB10).block _ (lt_of_block (unhide BX8))).trans (unhide BX8),?_,fun x hx=>?_,?_,(unhide GY8).on (unhide HB10),fun b e e2=>?_⟩
       ·rw[hnl]
        exact own_base (unhide HO10) (Nat.le_trans (unhide GY8).size S9)
       ·rw[List.length_append,Zk]
        exact hs8
       ·rcases hx with hx|hx
        ·rcases List.mem_append.1 hx with hx|hx
         ·exact (unhide HS).lks x (.inl (List.mem_of_mem_take hx))
         ·exact (unhide HS).lks x (.inl (List.mem_of_mem_drop hx))
        ·rcases List.mem_append.1 hx with hx|hx
         ·exact (unhide HS).lks x (.inr hx)
         ·rw[List.mem_singleton.1 hx];exact unhide HCK
       ·rw[hmp];exact U5 (unhide TK) (unhide HS).srt
       ·have q1:=Yp (unhide HO10) b e
        have q2:=((unhide OS8).lt g7 rfl).2
        have q3:g7=b:=by injection e2
        omega
      have HE2:Hid (Zf ht (I.drop (k+1)) ((SK++[(((c1,c2,vv,lk,hg,false):Zb),la,ln,lc)]).map (·.1)) ((K.take j++K.drop (j+1)).map (·.1))=(x2,S2,M2)):=by
       have e:=(unhide SO) _ _ (by rw[hq];exact unhide TK) (unhide NL) (by rw[hq];exact unhide HOP)
       rw[unhide HE] at e
       show _=_
       rw[hmp,List.map_append]
       exact e.symm
      have L2:Hid ((SK++[(((c1,c2,vv,lk,hg,false):Zb),la,ln,lc)]).length=k+1):=by show _=_;rw[List.length_append,unhide HKK];rfl
      have L3:Hid ((K.take j++K.drop (j+1)).length≤720):=by show _≤_;rw[hnl];have:=unhide HLN;omega
      clear hmp hnl
      go_wp2
      go_roundw
      case rel=>first|exact⟨k+1,_,_,_,by omega,by go_num,L2,L3,AS,HE2⟩|((repeat apply Exists.intro);refine⟨?_,rfl⟩;exact⟨k+1,_,_,_,by omega,by go_num,L2,L3,AS,HE2⟩)
      case measure=>simp[intOf];omega
  ·obtain rfl:k=ni:=by omega
   have e:=unhide HE
   rw[Se ht I k (by rw[unhide HZI];exact Nat.le_refl _)] at e
   obtain⟨e0,e2⟩:=Prod.mk.inj e
   obtain⟨e3,e4⟩:=Prod.mk.inj e2
   subst e0 e3 e4
   have HX2:=unhide HX
   rw[if_neg (by decide)] at HX2
   have HXa:=hide HX2
   clear HX HX2 e e2 HE
   have hls:∀ x∈SK,LkAt wr x:=fun x hx=>((unhide HS).lks x (.inr hx)).1.later (unhide HBW)
   obtain⟨sa,sc,rfl,hsc,hss⟩:=Zm (unhide HS).spent hls
   obtain⟨d,hd⟩:∃ d,Zy (SK.map (·.1)) - Yc O=d:=⟨_,rfl⟩
   have CFE:=hide (Ml sa SK.length sc (SK.map (·.1)) h ai ao k ci no co O d wr (by have:=unhide HKK;omega) hno hsc ((unhide HO) wr hBX) (fun c hc=>by
    obtain⟨y,hy,rfl⟩:=List.mem_map.1 hc
    have q:=Xk ((unhide HS).lks y (.inr hy)).2
    exact⟨by omega,by omega⟩) (unhide HOB) hd)
   have t0:=Za (unhide BT) 0 _ rfl
   have t1:=Za (unhide BT) 1 _ rfl
   have t2:=Za (unhide BT) 2 _ rfl
   have tl:=lt_of_block (unhide BT)
   have u0:=Za (unhide HS).box 0 _ rfl
   have ul:=lt_of_block (unhide HS).box
   have HCS:=hide hsc
   have HSS:=hide hss
   clear hsc hss hls hlt
   have HCV:Hid (x3=if d<0 then 9 else 0):=by
    show _=_
    rw[←unhide H3]
    unfold Hl
    simp only[hd,unhide HRR,and_true]
   clear hd H3
   go_wp2_with fail
   refine (unhide CFE).mono ?_
   rintro e w5 ⟨rfl,hb5⟩
   have HB5:=hide hb5
   have HBW5:=hide (bel_on (unhide HBW) hb5)
   have BU5:=hide ((hb5.block _ (lt_of_block (unhide BU))).trans (unhide BU))
   have BT5:=hide ((hb5.block _ (lt_of_block (unhide BT))).trans (unhide BT))
   clear hb5 CFE t0 t1 t2 tl u0 ul
   by_cases hneg:d<0
   ·have HEE:Hid ((x,M,S)=((9:Int),([]:List Zb),([]:List Zb))∧w.heap.size≤w.heap.size+1):=by
     have e:=unhide HCV
     rw[if_pos hneg] at e
     subst e
     exact⟨(unhide HXa).symm.trans (if_pos (by decide)),Nat.le_succ _⟩
    clear HCV HXa
    have CF:=hide (Yh 9 w5)
    go_wp2_with fail
    refine (unhide CF).mono ?_
    rintro e wf ⟨rfl,hbf⟩
    have BUF:=hide ((hbf.block _ (lt_of_block (unhide BU5))).trans (unhide BU5))
    have HBF:=hide (bel_on (unhide HBW5) hbf)
    have uuc:=Za (unhide BUF) 0 _ rfl
    have uuf:=Zd (unhide BUF) 0
    have uul:=lt_of_block (unhide BUF)
    clear hbf CF
    go_wp2
    (try simp only[Exit.inBlock,Exit.then])
    refine bodyPost_ret (v:=.tuple #[.slice none 0 0,.agg #[.slice none 0 0],.int .i64 9]) ?_ rfl ?_
    ·rw[Zi rfl]
     go_simp
    ·exact Xi (unhide HEE) (unhide HBF)
   ·have e:=unhide HCV
    rw[if_neg hneg] at e
    subst e
    have HX2:=unhide HXa
    rw[if_neg (by decide)] at HX2
    have HXb:=hide HX2
    clear HXa HX2 HCV
    have t2:=Za (unhide BT5) 2 _ rfl
    have tl:=lt_of_block (unhide BT5)
    go_wp2_with fail
    have hlr:∀ x∈K,LkAt wr x:=fun x hx=>((unhide HS).lks x (.inl hx)).1.later (unhide HBW)
    obtain⟨ra,rc,rfl,_,_⟩:=Zm (unhide HS).rest hlr
    have HA:Hid (A2 w w5 Y.heap.size w5 (.slice ra K.length rc) K):=⟨(Gr.of (S:=fun _=>False) (unhide HB5)).own (unhide HS).rest (fun _ _ q=>q),fun x hx=>((unhide HS).lks x (.inl hx)).1,Below.refl _ _⟩
    have HP0:Hid ((K.map (·.1)).Perm (K.map (·.1))∧Srt (K.map (·.1))):=⟨List.Perm.refl _,(unhide HS).srt⟩
    have HSP:=hide ((Gr.of (S:=fun _=>False) (unhide HB5)).own (unhide HS).spent (fun _ _ q=>q))
    have HSX:=hide (((unhide HB5).block _ (lt_of_block (unhide HS).box)).trans (unhide HS).box)
    have HSL:Hid (∀ x∈SK,LkAt w x):=fun x hx=>((unhide HS).lks x (.inr hx)).1
    have HG4:Hid (Zr name ht false 0 (O.drop 0) (K.map (·.1))=(x4,M4)):=unhide H4
    have HN0:Hid (K.length≤720+0):=unhide HLN
    have hYL:w.heap.size+1+1+1≤w5.heap.size:=by rw[←hYs];exact Nat.le_trans (unhide HS).gr.size (unhide HB5).size
    clear hlr HS HB5 HBW HBX H4 HLN BU BT t2 tl
    go_loopw [14,142] (fun rv i wr=>∃ (j:Nat) (K2:List CV) (G:List Zb),j≤no∧i = .int .i64 j∧Hid (K2.length≤720+j)∧Hid (A2 w w5 Y.heap.size wr rv K2)∧Hid ((K2.map (·.1)).Perm G∧Srt G)∧Hid (Zr name ht false j (O.drop j) G=(x4,M4))) (fun _ i _=>no - (intOf i).toNat)
    case atStart=>exact⟨0,K,K.map (·.1),Nat.zero_le _,rfl,HN0,HA,HP0,HG4⟩
    case round=>
     clear HA HP0 HG4 HN0
     obtain⟨j,K2,G,hj,rfl,HL2,HA2,HP,HGV⟩:=hrel
     have HWJ:=hide (bel_on (unhide HBW5) (unhide HA2).bel)
     have BUJ:=hide (((unhide HA2).bel.block _ (lt_of_block (unhide BU5))).trans (unhide BU5))
     have hlw:∀ x∈K2,LkAt wr x:=fun x hx=>((unhide HA2).lks x hx).later (unhide HWJ)
     obtain⟨ra,rc,rfl,hco,hso⟩:=Zm (unhide HA2).own hlw
     by_cases hlt:j<no
     ·have hlj:j<O.length:=by rw[unhide HZO];exact hlt
      obtain⟨ob,oo,rfl,_,hoc⟩:=(unhide HOW).2 (by omega)
      have hout:=hoc j hlj
      obtain⟨q,hq⟩:∃ q,O[j]=q:=⟨_,rfl⟩
      have GA:=hide (fun L hf=>Tv (name:=name) (h:=ht) (r:=false) hlj L hf)
      have GN:=hide (fun L hf=>Tu (name:=name) (h:=ht) (r:=false) hlj L hf)
      rw[hq] at hout GA
      obtain⟨ov,okk⟩:=q
      obtain⟨g0,la,ln,lc,g1,lO,lS⟩:=hout
      simp only at g0 g1 lO
      have e0:=cell_later (unhide HWJ) g0
      have e1:=cell_later (unhide HWJ) g1
      have ol:=World.block_lt_of_cell? _ _ e0
      have LK:Hid (LkAt w (((name,(j:Int),ov,okk,ht,false):Zb),la,ln,lc)):=⟨lO,lS⟩
      obtain⟨W1,hW1⟩:∃ W1,W1=(wr.alloc (.cells #[.int .i64 ov,.slice la ln lc] 84)).alloc (.cells #[.int .i64 name,.int .i64 j] 86):=⟨_,rfl⟩
      have hb1:Below wr.heap.size wr W1:=by rw[hW1];exact bel_on (bel_new _ _) (bel_new _ _)
      obtain⟨z,hz⟩:∃ z,plc (name,(j:Int)) (K2.map (·.1)) 0=z:=⟨_,rfl⟩
      have CP:=hide (Ug ra K2.length rc (K2.map (·.1)) (name,(j:Int)) z W1 (by have:=unhide HL2;omega) (hco.later hb1) hz)
      have p0:W1.heap[wr.heap.size+1]? = some (.cells [.int .i64 name,.int .i64 j].toArray 86 (0,0)):=by
       rw[hW1]
       have:=heap_alloc_new (wr.alloc (.cells #[.int .i64 ov,.slice la ln lc] 84)) (.cells #[.int .i64 name,.int .i64 j] 86)
       rw[show (wr.alloc (.cells #[.int .i64 ov,.slice la ln lc] 84)).heap.size=wr.heap.size+1 by simp] at this
       exact this
      have p1:W1.heap[wr.heap.size]? = some (.cells [.int .i64 ov,.slice la ln lc].toArray 84 (0,0)):=by
       rw[hW1,Below.heap_alloc _ _ _ (by simp)];exact heap_alloc_new _ _
      have pc0:=Za p0 0 _ rfl
      have pc1:=Za p0 1 _ rfl
      have pl:=lt_of_block p0
      have HB1:=hide hb1
      have HP0:=hide p0
      have HP1:=hide p1
      clear hb1 hoc lO g0 g1 p0 p1 hco
      go_wp2_with fail
      rw[←hW1]
      (try go_wp2_with fail)
      refine (unhide CP).mono ?_
      rintro e W2 ⟨rfl,hb2⟩
      have HB2:=hide (bel_on (unhide HB1) hb2)
      have HW2:=hide (bel_on (unhide HWJ) (unhide HB2))
      have BU2:=hide (((unhide HB2).block _ (lt_of_block (unhide BUJ))).trans (unhide BUJ))
      have PB:=hide ((hb2.block _ (lt_of_block (unhide HP0))).trans (unhide HP0))
      have OB:=hide ((hb2.block _ (lt_of_block (unhide HP1))).trans (unhide HP1))
      clear hb2 CP hW1 HB1 HP0 HP1 pc0 pc1 pl e0 e1
      rcases U9 (name,(j:Int)) (K2.map (·.1)) 0 with ⟨hz1,hz2⟩|⟨i2,hi2,hz1,hz2,hz3⟩
      ·obtain rfl:z = -1:=hz.symm.trans hz1
       have HF:Hid (Yv (name,(j:Int)) G=false):=by show _=_;rw[←Ua (unhide HP).1];exact hz2
       have OW2:=hide ((Gr.of (S:=fun _=>False) (unhide HB2)).own (unhide HA2).own (fun _ _ q=>q))
       have KS:Hid (∀ W,Below W2.heap.size W2 W→SAo W2 wr.heap.size ov la ln lc name j W):=fun W hb=>⟨cell_later hb (Za (unhide OB) 0 _ rfl),cell_later hb (Za (unhide OB) 1 _ rfl),cell_later hb (Za (unhide PB) 0 _ rfl),cell_later hb (Za (unhide PB) 1 _ rfl),Nat.lt_of_lt_of_le (lt_of_block (unhide PB)) hb.size,hb⟩
       obtain⟨i0,hi,hz0,zi1,zi2⟩:=info_parts Tryz.infoCoin
       clear hz hz1 hz2
       go_wp2_with fail
       refine wp_region_held_drew (S:=SAo W2 wr.heap.size ov la ln lc name j) (by kernel_rfl) ((unhide KS) _ (Zc _)) (fun hHeld=>?_)
       refine wpAnyH_take (i:=0) (oi:=⟨some 159,.move (.tmp 14),25, "second.go:109",#[],none⟩) (v:=?_) rfl (by kernel_rfl) (by kernel_rfl) (by kernel_rfl) (fun _ _ _ h=>h) (Or.inl ⟨by rfl,?_⟩) hHeld ?_
       rotate_left
       ·(intro W hSw;obtain⟨sw0,sw1,sw2,sw3,sw4,_⟩:=hSw;go_simp;first|done|with_reducible rfl)
       (try simp only[Act.put,ZA,ZB,ZC])
       refine wpAnyH_take (i:=2) (oi:=⟨some 161,.load 86 (.tmp 21),86, "second.go:109",#[],none⟩) (v:=?_) rfl (by kernel_rfl) (by kernel_rfl) (by kernel_rfl) (fun _ _ _ h=>h) (Or.inl ⟨by rfl,?_⟩) hHeld ?_
       rotate_left
       ·(intro W hSw;obtain⟨sw0,sw1,sw2,sw3,sw4,_⟩:=hSw;go_simp;first|done|with_reducible rfl)
       (try simp only[Act.put,ZA,ZB,ZC])
       refine wpAnyH_take (i:=3) (oi:=⟨some 162,.load 84 (.tmp 20),84, "second.go:109",#[],none⟩) (v:=?_) rfl (by kernel_rfl) (by kernel_rfl) (by kernel_rfl) (fun _ _ _ h=>h) (Or.inl ⟨by rfl,?_⟩) hHeld ?_
       rotate_left
       ·(intro W hSw;obtain⟨sw0,sw1,sw2,sw3,sw4,_⟩:=hSw;go_simp;first|done|with_reducible rfl)
       (try simp only[Act.put,ZA,ZB,ZC])
       refine wpAnyH_take (i:=4) (oi:=⟨some 163,.move (.tmp 3),3, "second.go:109",#[],none⟩) (v:=?_) rfl (by kernel_rfl) (by kernel_rfl) (by kernel_rfl) (fun _ _ _ h=>h) (Or.inl ⟨by rfl,?_⟩) hHeld ?_
       rotate_left
       ·(intro W hSw;obtain⟨sw0,sw1,sw2,sw3,sw4,_⟩:=hSw;go_simp;first|done|with_reducible rfl)
       (try simp only[Act.put,ZA,ZB,ZC])
       refine wpAnyH_take (i:=5) (oi:=⟨some 164,.move (.tmp 12),4, "second.go:109",#[],none⟩) (v:=?_) rfl (by kernel_rfl) (by kernel_rfl) (by kernel_rfl) (fun _ _ _ h=>h) (Or.inl ⟨by rfl,?_⟩) hHeld ?_
       rotate_left
       ·(intro W hSw;obtain⟨sw0,sw1,sw2,sw3,sw4,_⟩:=hSw;go_simp;first|done|with_reducible rfl)
       (try simp only[Act.put,ZA,ZB,ZC])
       refine wpAnyH_take (i:=6) (oi:=⟨some 165,.build 88 #[(0,.tmp 161),(1,.tmp 162),(2,.tmp 163),(3,.tmp 164)],88, "second.go:109",#[⟨2,.data⟩,⟨3,.data⟩,⟨4,.data⟩,⟨5,.data⟩],none⟩) (v:=?_) rfl (by kernel_rfl) (by kernel_rfl) (by kernel_rfl) (fun _ _ _ h=>h) (Or.inl ⟨by rfl,?_⟩) hHeld ?_
       rotate_left
       ·(intro W hSw;obtain⟨sw0,sw1,sw2,sw3,sw4,_⟩:=hSw;go_simp;first|done|with_reducible rfl)
       (try simp only[Act.put,ZA,ZB,ZC])
       refine wpAnyH_ready (rs:=[1,7]) (by kernel_rfl) (by simp) ?_
       refine AllReadyH.cons (o:=⟨some 160,.call { callee:=Callee.value (.func 84),args:=#[.tmp 159],argTypes:=#[25] },25, "second.go:109",#[⟨0,.data⟩],none⟩) rfl (fun K0 hK=>?_) (AllReadyH.cons (o:=⟨some 166,.buildSlice 25 1 #[(0,.tmp 165)],25, "second.go:109",#[⟨6,.data⟩],none⟩) rfl (fun K0 hK=>?_) AllReadyH.nil)
       ·refine Xe (by kernel_rfl) 84 #[.slice ra K2.length rc] (by kernel_rfl) (X3 (.slice ra K2.length rc) K2 W2.drew (by have:=unhide HL2;omega) ((Gr.of (S:=fun _=>False) (Zc W2)).own (unhide OW2) (fun _ _ q=>q))) ?_
        rintro e WA ⟨vz,rfl,hoA,hbA⟩
        refine⟨_,rfl,?_⟩
        have HBA:Hid (Below W2.heap.size W2 WA):=bel_on (Zc W2) hbA
        have HOA:Hid (WA.ownsRow W2.heap.size 88 6 vz K2.length (Ze K2)):=hoA
        clear hoA hbA
        refine hK.out _ _ ((unhide KS) _ (unhide HBA)) (fun hHeld2=>?_)
        clear hK K0 hHeld
        have hHeld:=hHeld2
        clear hHeld2
        (try simp only[Act.put,ZA,ZB,ZC])
        refine wpAnyH_ready (rs:=[7]) (by kernel_rfl) (by simp) ?_
        refine AllReadyH.cons (o:=⟨some 166,.buildSlice 25 1 #[(0,.tmp 165)],25, "second.go:109",#[⟨6,.data⟩],none⟩) rfl (fun K0 hK=>?_) AllReadyH.nil
        go_simp
        obtain⟨WZ,hWZ⟩:∃ WZ,WZ=WA.alloc (.cells #[.int .i64 name,.int .i64 j,.int .i64 ov,.slice la ln lc,.int .i64 ht,.bool false] 88):=⟨_,rfl⟩
        rw[←hWZ]
        obtain⟨mz,hmz⟩:∃ mz,mz=WA.heap.size:=⟨_,rfl⟩
        have MZ:Hid (WZ.heap[mz]? = some (.cells #[.int .i64 name,.int .i64 j,.int .i64 ov,.slice la ln lc,.int .i64 ht,.bool false] 88 (0,0))):=by show _=_;rw[hWZ,hmz];exact heap_alloc_new _ _
        have hbz:Below WA.heap.size WA WZ:=by rw[hWZ];exact bel_new _ _
        have OZ:=hide ((Gr.of (S:=fun _=>False) hbz).own (unhide HOA) (fun _ _ q=>q))
        have BZ:=hide (bel_on (unhide HBA) hbz)
        rw[←hmz]
        clear hbz hWZ hmz HBA HOA
        refine hK.out _ _ ((unhide KS) _ (unhide BZ)) (fun hHeld2=>?_)
        clear hK K0 hHeld
        have hHeld:=hHeld2
        clear hHeld2
        (try simp only[Act.put,ZA,ZB,ZC])
        refine wpAnyH_ready (rs:=[8]) (by kernel_rfl) (by simp) ?_
        refine AllReadyH.cons (o:=⟨some 167,.call { callee:=Callee.builtin Builtin.append,args:=#[.tmp 160,.tmp 166],argTypes:=#[25,25] },25, "second.go:109",#[⟨1,.data⟩,⟨7,.data⟩,⟨1,.chain⟩],none⟩) rfl (fun K0 hK=>?_) AllReadyH.nil
        refine step_append_lies _ (by rfl) _ _ _ (by rfl) W2.heap.size 88 i0 zeroC 6 64 Tryz.underlying25 hi hz0 zi1 zi2 rfl (by decide) vz K2.length (Ze K2) (by rfl) (unhide OZ) ⟨mz,0,none⟩ 1 1 [.int .i64 name,.int .i64 j,.int .i64 ov,.slice la ln lc,.int .i64 ht,.bool false] (by rfl) (by rfl) (World.news_of_block (cs:=#[.int .i64 name,.int .i64 j,.int .i64 ov,.slice la ln lc,.int .i64 ht,.bool false]) (unhide MZ)) (fun u hu=>by simp at hu;rcases hu with rfl|rfl|rfl|rfl|rfl|rfl <;> rfl) (by decide) (by have:=unhide HL2;unfold maxLen;omega) (by have:=unhide HL2;omega) (unhide BZ).size _ rfl ?_
        intro g8 cap8 w8 hown8 hgrow8 _ _
        have HB8:Hid (Below W2.heap.size W2 w8):=(unhide BZ).grown hgrow8 (unhide BZ).size (Yp (unhide OZ))
        have HO8:=hide hown8
        clear hown8 hgrow8 OZ MZ BZ
        refine hK.out _ _ ((unhide KS) _ (unhide HB8)) (fun hHeld2=>?_)
        clear hK K0 hHeld
        have hHeld:=hHeld2
        clear hHeld2
        (try simp only[Act.put,ZA,ZB,ZC])
        refine wpAnyH_take (i:=9) (oi:=⟨some 14,.assign (.tmp 167),25, "second.go:109",#[⟨8,.data⟩,⟨8,.chain⟩,⟨0,.phase⟩,⟨1,.phase⟩,⟨2,.phase⟩,⟨3,.phase⟩,⟨4,.phase⟩,⟨5,.phase⟩,⟨6,.phase⟩,⟨7,.phase⟩,⟨8,.phase⟩],none⟩) (v:=?_) rfl (by kernel_rfl) (by kernel_rfl) (by kernel_rfl) (fun _ _ _ h=>h) (Or.inl ⟨by rfl,?_⟩) hHeld ?_
        rotate_left
        ·(intro W hSw;obtain⟨sw0,sw1,sw2,sw3,sw4,_⟩:=hSw;go_simp;first|done|with_reducible rfl)
        (try simp only[Act.put,ZA,ZB,ZC])
        refine wpAnyH_done (by kernel_rfl) ?_ _
        clear hHeld KS
        have AS:Hid (A2 w w5 Y.heap.size w8 (.slice (some ⟨g8,0,none⟩) (K2.length+1) cap8) (K2++[(((name,(j:Int),ov,okk,ht,false):Zb),la,ln,lc)])):=by
         refine⟨?_,fun x hx=>?_,bel_on (bel_on (unhide HA2).bel (unhide HB2)) (unhide HB8)⟩
         ·rw[List.length_append,Zk]
          exact own_base (unhide HO8) (by have:=(unhide HB2).size;have:=(unhide HA2).bel.size;rw[hYs];omega)
         ·rcases List.mem_append.1 hx with hx|hx
          ·exact (unhide HA2).lks x hx
          ·rw[List.mem_singleton.1 hx];exact unhide LK
        have L3:Hid ((K2++[(((name,(j:Int),ov,okk,ht,false):Zb),la,ln,lc)]).length≤720+(j+1)):=by show _≤_;rw[List.length_append];have:=unhide HL2;simp;omega
        have P3:Hid (((K2++[(((name,(j:Int),ov,okk,ht,false):Zb),la,ln,lc)]).map (·.1)).Perm (Xy (Vr name j (ov,okk) ht false) G)∧Srt (Xy (Vr name j (ov,okk) ht false) G)):=by
         refine⟨?_,X2 (unhide HP).2⟩
         rw[List.map_append]
         exact U8 (unhide HP).1 (unhide HF)
        have E3:Hid (Zr name ht false (j+1) (O.drop (j+1)) (Xy (Vr name j (ov,okk) ht false) G)=(x4,M4)):=((unhide GA) G (unhide HF)).symm.trans (unhide HGV)
        clear GA GN HGV
        go_wp2
        go_roundw
        case rel=>first|exact⟨j+1,_,_,by omega,by go_num,L3,AS,P3,E3⟩|((repeat apply Exists.intro);refine⟨?_,rfl⟩;exact⟨j+1,_,_,by omega,by go_num,L3,AS,P3,E3⟩)
        case measure=>simp[intOf];omega
       ·go_simp
        obtain⟨WA,hWA⟩:∃ WA,WA=W2.drew.alloc (.cells #[.int .i64 name,.int .i64 j,.int .i64 ov,.slice la ln lc,.int .i64 ht,.bool false] 88):=⟨_,rfl⟩
        (first|rw[←hWA]|(rw[show (W2.alloc (.cells #[.int .i64 name,.int .i64 j,.int .i64 ov,.slice la ln lc,.int .i64 ht,.bool false] 88)).drew=WA from hWA.symm]))
        have hbA:Below W2.heap.size W2 WA:=by rw[hWA];exact bel_on (Zc W2) (bel_new _ _)
        obtain⟨mz,hmz⟩:∃ mz,mz=W2.heap.size:=⟨_,rfl⟩
        have ma:WA.heap[mz]? = some (.cells #[.int .i64 name,.int .i64 j,.int .i64 ov,.slice la ln lc,.int .i64 ht,.bool false] 88 (0,0)):=by rw[hWA,hmz];exact heap_alloc_new W2.drew _
        rw[←hmz]
        have OWA:=(Gr.of (S:=fun _=>False) hbA).own (unhide OW2) (fun _ _ q=>q)
        have MA:=hide ma
        have HBA:=hide hbA
        clear hWA hmz ma hbA
        refine hK.out _ _ ((unhide KS) _ (unhide HBA)) (fun hHeld2=>?_)
        clear hK K0 hHeld
        have hHeld:=hHeld2
        clear hHeld2
        (try simp only[Act.put,ZA,ZB,ZC])
        refine wpAnyH_ready (rs:=[1]) (by kernel_rfl) (by simp) ?_
        refine AllReadyH.cons (o:=⟨some 160,.call { callee:=Callee.value (.func 84),args:=#[.tmp 159],argTypes:=#[25] },25, "second.go:109",#[⟨0,.data⟩],none⟩) rfl (fun K0 hK=>?_) AllReadyH.nil
        refine Xe (by kernel_rfl) 84 #[.slice ra K2.length rc] (by kernel_rfl) (X3 (.slice ra K2.length rc) K2 WA (by have:=unhide HL2;omega) OWA) ?_
        rintro e WZ ⟨vz,rfl,hoz,hbz⟩
        refine⟨_,rfl,?_⟩
        have BZ:=hide (bel_on (unhide HBA) hbz)
        have OZ:=hide (own_base hoz (unhide HBA).size)
        have MZ:=hide ((hbz.block _ (lt_of_block (unhide MA))).trans (unhide MA))
        clear hoz hbz OWA MA HBA
        refine hK.out _ _ ((unhide KS) _ (unhide BZ)) (fun hHeld2=>?_)
        clear hK K0 hHeld
        have hHeld:=hHeld2
        clear hHeld2
        (try simp only[Act.put,ZA,ZB,ZC])
        refine wpAnyH_ready (rs:=[8]) (by kernel_rfl) (by simp) ?_
        refine AllReadyH.cons (o:=⟨some 167,.call { callee:=Callee.builtin Builtin.append,args:=#[.tmp 160,.tmp 166],argTypes:=#[25,25] },25, "second.go:109",#[⟨1,.data⟩,⟨7,.data⟩,⟨1,.chain⟩],none⟩) rfl (fun K0 hK=>?_) AllReadyH.nil
        refine step_append_lies _ (by rfl) _ _ _ (by rfl) W2.heap.size 88 i0 zeroC 6 64 Tryz.underlying25 hi hz0 zi1 zi2 rfl (by decide) vz K2.length (Ze K2) (by rfl) (unhide OZ) ⟨mz,0,none⟩ 1 1 [.int .i64 name,.int .i64 j,.int .i64 ov,.slice la ln lc,.int .i64 ht,.bool false] (by rfl) (by rfl) (World.news_of_block (cs:=#[.int .i64 name,.int .i64 j,.int .i64 ov,.slice la ln lc,.int .i64 ht,.bool false]) (unhide MZ)) (fun u hu=>by simp at hu;rcases hu with rfl|rfl|rfl|rfl|rfl|rfl <;> rfl) (by decide) (by have:=unhide HL2;unfold maxLen;omega) (by have:=unhide HL2;omega) (unhide BZ).size _ rfl ?_
        intro g8 cap8 w8 hown8 hgrow8 _ _
        have HB8:Hid (Below W2.heap.size W2 w8):=(unhide BZ).grown hgrow8 (unhide BZ).size (Yp (unhide OZ))
        have HO8:=hide hown8
        clear hown8 hgrow8 OZ MZ BZ
        refine hK.out _ _ ((unhide KS) _ (unhide HB8)) (fun hHeld2=>?_)
        clear hK K0 hHeld
        have hHeld:=hHeld2
        clear hHeld2
        (try simp only[Act.put,ZA,ZB,ZC])
        refine wpAnyH_take (i:=9) (oi:=⟨some 14,.assign (.tmp 167),25, "second.go:109",#[⟨8,.data⟩,⟨8,.chain⟩,⟨0,.phase⟩,⟨1,.phase⟩,⟨2,.phase⟩,⟨3,.phase⟩,⟨4,.phase⟩,⟨5,.phase⟩,⟨6,.phase⟩,⟨7,.phase⟩,⟨8,.phase⟩],none⟩) (v:=?_) rfl (by kernel_rfl) (by kernel_rfl) (by kernel_rfl) (fun _ _ _ h=>h) (Or.inl ⟨by rfl,?_⟩) hHeld ?_
        rotate_left
        ·(intro W hSw;obtain⟨sw0,sw1,sw2,sw3,sw4,_⟩:=hSw;go_simp;first|done|with_reducible rfl)
        (try simp only[Act.put,ZA,ZB,ZC])
        refine wpAnyH_done (by kernel_rfl) ?_ _
        clear hHeld KS
        have AS:Hid (A2 w w5 Y.heap.size w8 (.slice (some ⟨g8,0,none⟩) (K2.length+1) cap8) (K2++[(((name,(j:Int),ov,okk,ht,false):Zb),la,ln,lc)])):=by
         refine⟨?_,fun x hx=>?_,bel_on (bel_on (unhide HA2).bel (unhide HB2)) (unhide HB8)⟩
         ·rw[List.length_append,Zk]
          exact own_base (unhide HO8) (by have:=(unhide HB2).size;have:=(unhide HA2).bel.size;rw[hYs];omega)
         ·rcases List.mem_append.1 hx with hx|hx
          ·exact (unhide HA2).lks x hx
          ·rw[List.mem_singleton.1 hx];exact unhide LK
        have L3:Hid ((K2++[(((name,(j:Int),ov,okk,ht,false):Zb),la,ln,lc)]).length≤720+(j+1)):=by show _≤_;rw[List.length_append];have:=unhide HL2;simp;omega
        have P3:Hid (((K2++[(((name,(j:Int),ov,okk,ht,false):Zb),la,ln,lc)]).map (·.1)).Perm (Xy (Vr name j (ov,okk) ht false) G)∧Srt (Xy (Vr name j (ov,okk) ht false) G)):=by
         refine⟨?_,X2 (unhide HP).2⟩
         rw[List.map_append]
         exact U8 (unhide HP).1 (unhide HF)
        have E3:Hid (Zr name ht false (j+1) (O.drop (j+1)) (Xy (Vr name j (ov,okk) ht false) G)=(x4,M4)):=((unhide GA) G (unhide HF)).symm.trans (unhide HGV)
        clear GA GN HGV
        go_wp2
        go_roundw
        case rel=>first|exact⟨j+1,_,_,by omega,by go_num,L3,AS,P3,E3⟩|((repeat apply Exists.intro);refine⟨?_,rfl⟩;exact⟨j+1,_,_,by omega,by go_num,L3,AS,P3,E3⟩)
        case measure=>simp[intOf];omega
      ·have hjz:z=(i2:Int):=by rw[←hz,hz1];simp
       subst hjz
       have HEE:Hid ((x,M,S)=((6:Int),([]:List Zb),([]:List Zb))∧w.heap.size≤w.heap.size+1):=by
        have e:=(unhide GN) G (by rw[←Ua (unhide HP).1];exact hz3)
        rw[unhide HGV] at e
        obtain⟨rfl,_⟩:=Prod.mk.inj e
        exact⟨(unhide HXb).symm.trans (if_pos (by decide)),Nat.le_succ _⟩
       have hge:¬((i2:Int)<0):=by omega
       clear hz hz1 hz2 hz3 hi2 GA GN HGV HXb
       have CF:=hide (Yh 6 W2)
       go_wp2_with fail
       refine (unhide CF).mono ?_
       rintro e wf ⟨rfl,hbf⟩
       have BUF:=hide ((hbf.block _ (lt_of_block (unhide BU2))).trans (unhide BU2))
       have HBF:=hide (bel_on (unhide HW2) hbf)
       have uuc:=Za (unhide BUF) 0 _ rfl
       have uuf:=Zd (unhide BUF) 0
       have uul:=lt_of_block (unhide BUF)
       clear hbf CF
       go_wp2
       (try simp only[Exit.inBlock,Exit.then])
       refine bodyPost_ret (v:=.tuple #[.slice none 0 0,.agg #[.slice none 0 0],.int .i64 6]) ?_ rfl ?_
       ·rw[Zi rfl]
        go_simp
       ·exact Xi (unhide HEE) (unhide HBF)
     ·obtain rfl:j=no:=by omega
      have e:=unhide HGV
      rw[Rd (by rw[unhide HZO];exact Nat.le_refl _)] at e
      obtain⟨e0,e1⟩:=Prod.mk.inj e
      subst e0 e1
      clear e HGV
      have HX2:=unhide HXb
      rw[if_neg (by decide)] at HX2
      have HXc:=hide HX2
      clear HXb HX2
      have CSO:=hide (P6 ra K2.length rc K2 w wr (by have:=unhide HL2;omega) rfl (unhide HA2).own (unhide HA2).lks (unhide HWJ))
      clear hco hlw
      go_wp2_with fail
      refine (unhide CSO).mono ?_
      rintro e w6 ⟨a6,c6,L6,rfl,hst,hs6,hpm,hwk,hb6⟩
      have e6:L6=G:=Tg hwk (hpm.trans (unhide HP).1) (unhide HP).2
      subst e6
      have hc6:CoinsAt w6 a6 K2.length L6:=hst w6 (Gr.refl _ _)
      have CCH:=hide (Wc a6 K2.length c6 L6 x5 w6 hc6 (unhide H5))
      have HST:=hide hst
      have HB6:=hide hb6
      clear hst hpm hwk hb6 hc6 CSO
      go_wp2_with fail
      refine (unhide CCH).mono ?_
      rintro e w7 ⟨rfl,hb7⟩
      have HB7:=hide hb7
      have HWR7:=hide (bel_on (unhide HB6) hb7)
      have HW7:=hide (bel_on (unhide HWJ) (unhide HWR7))
      have BU7:=hide (((unhide HWR7).block _ (lt_of_block (unhide BUJ))).trans (unhide BUJ))
      clear hb7 CCH
      by_cases e5:x5=0
      ·subst e5
       have HX2:=unhide HXc
       rw[if_neg (by decide)] at HX2
       obtain⟨rfl,e2⟩:=Prod.mk.inj HX2
       obtain⟨rfl,rfl⟩:=Prod.mk.inj e2
       have HB57:=hide (bel_on (unhide HA2).bel (unhide HWR7))
       have SX7:=hide (((unhide HB57).block _ (lt_of_block (unhide HSX))).trans (unhide HSX))
       have SP7:=hide ((Gr.of (S:=fun _=>False) (unhide HB57)).own (unhide HSP) (fun _ _ q=>q))
       have HEND:Hid (∀ W,Gr w7 W (fun q=>q=w.heap.size+1)→ApR w W 0 L6 (SK.map (·.1)) (.returned (.tuple #[.slice a6 K2.length c6,.agg #[.slice sa SK.length sc],.int .i64 0]))):=by
        intro W hg
        have hbW:Below w.heap.size w W:=hg.below (unhide HW7) (unhide HW7).size (fun k q=>by omega)
        have hwr:=(unhide HA2).bel.size
        have hsp:=hg.own (unhide SP7) (fun k q e=>by have:=Yp (unhide SP7) k q;omega)
        obtain⟨sa2,sc2,e,hco2,hso2⟩:=Zm hsp (fun x hx=>((unhide HSL) x hx).later hbW)
        obtain⟨rfl,rfl⟩:sa=sa2∧sc=sc2:=by injection e with e1 e2 e3;exact⟨e1,e3⟩
        exact⟨a6,K2.length,c6,sa,SK.length,sc,rfl,(unhide HST) W ((Gr.of (unhide HB7)).trans (hg.mono (fun k _ q=>⟨by omega,by omega⟩))),hs6,hco2,hso2,hbW⟩
       have u0:=Za (unhide SX7) 0 _ rfl
       have ul:=lt_of_block (unhide SX7)
       have r0:=Za (unhide BU7) 0 _ rfl
       have rl:=lt_of_block (unhide BU7)
       have rf:=Zd (unhide BU7) 0
       clear HXc HX2 e2 HST HSX HSP SP7 SX7 HA2
       go_wp2
       go_region
       go_wp2
       (try simp only[Exit.inBlock,Exit.then])
       all_goals (refine bodyPost_ret (v:=.tuple #[.slice a6 K2.length c6,.agg #[.slice sa SK.length sc],.int .i64 0]) ?_ rfl ?_)
       ·rw[Zi rfl]
        go_simp
       ·first|exact (unhide HEND) _ (((Gr.refl w7 (fun q=>q=w.heap.size+1)).draw).set (p:=⟨w.heap.size+1,0,none⟩) (.inl rfl) _)|exact (unhide HEND) _ (((Gr.refl w7 (fun q=>q=w.heap.size+1)).set (p:=⟨w.heap.size+1,0,none⟩) (.inl rfl) _).draw)
      ·have HEE:Hid ((x,M,S)=((x5:Int),([]:List Zb),([]:List Zb))∧w.heap.size≤w.heap.size+1):=⟨(unhide HXc).symm.trans (if_pos e5),Nat.le_succ _⟩
       have g9:(x5 != 0)=true:=by simp[e5]
       clear HXc HST
       have CF:=hide (Yh x5 w7)
       go_wp2_with fail
       refine (unhide CF).mono ?_
       rintro e wf ⟨rfl,hbf⟩
       have BUF:=hide ((hbf.block _ (lt_of_block (unhide BU7))).trans (unhide BU7))
       have HBF:=hide (bel_on (unhide HW7) hbf)
       have uuc:=Za (unhide BUF) 0 _ rfl
       have uuf:=Zd (unhide BUF) 0
       have uul:=lt_of_block (unhide BUF)
       clear hbf CF
       go_wp2
       (try simp only[Exit.inBlock,Exit.then])
       refine bodyPost_ret (v:=.tuple #[.slice none 0 0,.agg #[.slice none 0 0],.int .i64 x5]) ?_ rfl ?_
       ·rw[Zi rfl]
        go_simp
       ·exact Xi (unhide HEE) (unhide HBF)
theorem Zbg(a:Option Addr)(n c:Nat)(L:List Zb)(h:Int)(ai ao:Option Addr)(ni ci no co:Nat)(I:List InD)(O:List Z7)(name ht:Int)(x:Int)(M S:List Zb)(w:World)(hL:CoinsAt w a n L)(sL:SlOk a n c)(hI:InsAt w ai ni I)(hO:OutsAt w ao no O)(hRC:Zs L)(hTx:Zj (h,I,O)=0)(hx:apD L (h,I,O) name ht=(x,M,S))(n1:¬name<1)(n2:¬120<name)(n3:¬ht<1)(n4:¬1000<ht)(hr:ni=0)(hh:h=ht) :
  Calls Tryz.prog 42 #[.slice a n c,.agg #[.int .i64 h,.slice ai ni ci,.slice ao no co],.int .i64 name,.int .i64 ht] w fun e w'=>ApR w w' x M S e:=by
 obtain⟨X0,hX0⟩:∃ X0,X0=(w.alloc (.cells #[.int .i64 h,.slice ai ni ci,.slice ao no co] 74)).alloc (.cells #[.slice none 0 0] 68):=⟨_,rfl⟩
 have hb0:Below w.heap.size w X0:=by rw[hX0];exact bel_on (bel_new _ _) (bel_new _ _)
 have hX1:X0.heap[w.heap.size]? = some (.cells [.int .i64 h,.slice ai ni ci,.slice ao no co].toArray 74 (0,0)):=by
  rw[hX0,Below.heap_alloc _ _ _ (by simp)];exact Zp _ _ _ _ _
 have hX2:X0.heap[w.heap.size+1]? = some (.cells [.slice none 0 0].toArray 68 (0,0)):=by
  rw[hX0]
  have:=heap_alloc_new (w.alloc (.cells #[.int .i64 h,.slice ai ni ci,.slice ao no co] 74)) (.cells #[.slice none 0 0] 68)
  rw[show (w.alloc (.cells #[.int .i64 h,.slice ai ni ci,.slice ao no co] 74)).heap.size=w.heap.size+1 by simp] at this
  exact this
 obtain⟨⟨x2,S2,M2⟩,h2⟩:∃ r,Zf ht I [] L=r:=⟨_,rfl⟩
 obtain⟨x3,h3⟩:∃ x3,Hl S2 (h,I,O)=x3:=⟨_,rfl⟩
 have hR:isR (h,I,O)=true:=by unfold isR;rw[hI.1];exact decide_eq_true hr
 obtain⟨⟨x4,M4⟩,h4⟩:∃ r,Zr name ht true 0 O M2=r:=⟨_,rfl⟩
 obtain⟨x5,h5⟩:∃ x5,Zh M4=x5:=⟨_,rfl⟩
 rw[Nj (Hp hRC hTx (by unfold okN okH;simp only[Bool.and_eq_true,decide_eq_true_eq];omega) (by intro q;exact q.2 hh)) h2 h3 (by rw[hR];exact h4) h5,if_neg (by decide)] at hx
 obtain⟨t1,t2,t3,_,tI,_⟩:=Ya hTx
 have hni:ni≤6:=by rw[←hI.1];exact t1
 have hno:no≤6:=by rw[←hO.1];exact t2
 have hn:n≤720:=by rw[←hL.1];exact hRC.len
 have HOB:=hide (Vy hTx)
 have HRR:=hide hR
 have HIC:=hide (Mw tI)
 have HHT:=hide (Zdt n3 n4)
 obtain⟨Y,hY⟩:∃ Y,Y=X0.alloc (.cells #[.slice none 0 0] 68):=⟨_,rfl⟩
 have hbY:Below X0.heap.size X0 Y:=by rw[hY];exact bel_new _ _
 have hYu:Y.heap[X0.heap.size]? = some (.cells #[.slice none 0 0] 68 (0,0)):=by rw[hY];exact heap_alloc_new _ _
 have hXs:X0.heap.size=w.heap.size+1+1:=by rw[hX0];simp
 have hYs:Y.heap.size=w.heap.size+1+1+1:=by rw[hY];simp[hXs]
 rw[hXs] at hYu
 have C1:=hide (Vz a n c L w Y (bel_on hb0 hbY) (by omega) hL sL)
 have HI:=hide (fun w' (hb:Below X0.heap.size X0 w')=>(hI.later hb0).later hb)
 have HO:=hide (fun w' (hb:Below X0.heap.size X0 w')=>(hO.later hb0).later hb)
 have HOW:=hide hO
 have HB0:=hide hb0
 have HBY:=hide hbY
 have HX1:=hide hX1
 have HX2:=hide hX2
 have HYU:=hide hYu
 have H2:=hide h2
 have H3:=hide h3
 have H4:=hide h4
 have H5:=hide h5
 have HX:=hide hx
 have HRC:=hide hRC
 have HZI:=hide hI.1
 have HZO:=hide hO.1
 have HZL:=hide hL.1
 have x00:=Za hX1 0 _ rfl
 have x01:=Za hX1 1 _ rfl
 have x02:=Za hX1 2 _ rfl
 have xl:=lt_of_block hX1
 have hXX:w.heap.size+1<X0.heap.size:=lt_of_block hX2
 have y00:=cell_later hbY x00
 have y01:=cell_later hbY x01
 have y02:=cell_later hbY x02
 have g0:((ni:Int) == 0)=true:=by simp[hr]
 have g1:(h != ht)=false:=by simp[hh]
 have hni0:ni≤0:=by omega
 clear hr hh
 clear hL sL hI hO hRC hTx hx hX1 hX2 hb0 hbY hYu h2 h3 h4 h5 hR t1 t2 t3 tI
 go_enter Tryz.func42,Tryz.ntmps42
 go_wp2_with fail
 rw[←hX0]
 clear hX0
 go_wp2_with fail
 rw[←hY]
 clear hY
 refine (unhide C1).mono ?_
 rintro e wr ⟨v,K,rfl,hKL,hlk,ho,hb2⟩
 obtain⟨SK,hSK⟩:∃ SK:List CV,SK=[]:=⟨_,rfl⟩
 obtain⟨sa,hsa⟩:∃ sa:Option Addr,sa=none:=⟨_,rfl⟩
 obtain⟨sc,hsc⟩:∃ sc:Nat,sc=0:=⟨_,rfl⟩
 have HS:Hid (ApS w Y (w.heap.size+1+1) wr v (.slice sa SK.length sc) K SK):=by
  subst hSK hsa hsc
  refine⟨ho,(hb2.block _ (by omega)).trans (unhide HYU),⟨rfl,.inl ⟨rfl,rfl⟩⟩,fun x hx=>?_,by rw[hKL];exact (unhide HRC).srt,Gr.of hb2,fun _ _ e=>by cases e⟩
  rcases hx with hx|hx
  ·exact⟨hlk x hx,(unhide HRC).one x.1 (by rw[←hKL];exact List.mem_map_of_mem hx)⟩
  ·cases hx
 have HLN:Hid (K.length≤720):=by show _≤_;rw[←List.length_map (f:=fun (x:CV)=>x.1),hKL];exact (unhide HRC).len
 have hBX:Below X0.heap.size X0 wr:=(unhide HS).gr.below (unhide HBY) (unhide HBY).size (fun q e=>by omega)
 have HBX:=hide hBX
 have HBW:=hide (bel_on (unhide HB0) hBX)
 have BU:=hide ((hBX.block _ (lt_of_block (unhide HX2))).trans (unhide HX2))
 have BT:=hide ((hBX.block _ (lt_of_block (unhide HX1))).trans (unhide HX1))
 have hI0:I=[]:=List.length_eq_zero_iff.1 ((unhide HZI).trans (by omega))
 have e:((0:Int),([]:List Zb),L)=(x2,S2,M2):=by
  have e:=unhide H2
  rw[hI0] at e
  exact e
 obtain⟨e0,e2⟩:=Prod.mk.inj e
 obtain⟨e3,e4⟩:=Prod.mk.inj e2
 subst e0 e3 e4
 have e5:x3=0:=by
  rw[←unhide H3]
  unfold Hl
  rw[unhide HRR,if_neg (by intro q;exact Bool.noConfusion q.2)]
 subst e5
 have HX2:=unhide HX
 rw[if_neg (by decide),if_neg (by decide)] at HX2
 have hs0:([]:List Zb)=SK.map (·.1):=by rw[hSK];rfl
 have HXb:Hid ((if x4≠0 then (x4,([]:List Zb),([]:List Zb)) else if x5≠0 then (x5,[],[]) else (0,M4,SK.map (·.1)))=(x,M,S)):=by show _=_;rw[←hs0];exact HX2
 have hnd:decide ((0:Int)<(ni:Int))=false:=by simp;omega
 have hnd2:decide (0<ni)=false:=by simp;omega
 have h4b:=unhide H4
 rw[←hKL] at h4b
 clear H4
 have H4:=hide h4b
 obtain⟨w5,hw5⟩:∃ w5,w5=wr:=⟨_,rfl⟩
 have HB5:Hid (Below wr.heap.size wr w5):=by show Below _ _ _;rw[hw5];exact Below.refl _ _
 have HBW5:=hide (bel_on (unhide HBW) (unhide HB5))
 have BU5:=hide (((unhide HB5).block _ (lt_of_block (unhide BU))).trans (unhide BU))
 have BT5:=hide (((unhide HB5).block _ (lt_of_block (unhide BT))).trans (unhide BT))
 have t1:=Za (unhide BT5) 1 _ rfl
 have t2:=Za (unhide BT5) 2 _ rfl
 have tl:=lt_of_block (unhide BT5)
 rw[←hw5]
 clear hw5 hs0 HX2 e e2 hI0 hKL hlk ho hb2 C1 H2 H3 HX hSK hsa hsc y00 y01 y02 x00 x01 x02 h4b
 go_wp2
 refine wp_loop_rounds 1 ?_
 rw[rounds_succ]
 go_wp2_with fail
 have hlr:∀ x∈K,LkAt wr x:=fun x hx=>((unhide HS).lks x (.inl hx)).1.later (unhide HBW)
 obtain⟨ra,rc,rfl,_,_⟩:=Zm (unhide HS).rest hlr
 have HA:Hid (A2 w w5 Y.heap.size w5 (.slice ra K.length rc) K):=⟨(Gr.of (S:=fun _=>False) (unhide HB5)).own (unhide HS).rest (fun _ _ q=>q),fun x hx=>((unhide HS).lks x (.inl hx)).1,Below.refl _ _⟩
 have HP0:Hid ((K.map (·.1)).Perm (K.map (·.1))∧Srt (K.map (·.1))):=⟨List.Perm.refl _,(unhide HS).srt⟩
 have HSP:=hide ((Gr.of (S:=fun _=>False) (unhide HB5)).own (unhide HS).spent (fun _ _ q=>q))
 have HSX:=hide (((unhide HB5).block _ (lt_of_block (unhide HS).box)).trans (unhide HS).box)
 have HSL:Hid (∀ x∈SK,LkAt w x):=fun x hx=>((unhide HS).lks x (.inr hx)).1
 have HG4:Hid (Zr name ht true 0 (O.drop 0) (K.map (·.1))=(x4,M4)):=unhide H4
 have HN0:Hid (K.length≤720+0):=unhide HLN
 have hYL:w.heap.size+1+1+1≤w5.heap.size:=by rw[←hYs];exact Nat.le_trans (unhide HS).gr.size (unhide HB5).size
 clear hlr HS HB5 HBW HBX H4 HLN BU BT t2 tl
 go_loopw [14,142] (fun rv i wr=>∃ (j:Nat) (K2:List CV) (G:List Zb),j≤no∧i = .int .i64 j∧Hid (K2.length≤720+j)∧Hid (A2 w w5 Y.heap.size wr rv K2)∧Hid ((K2.map (·.1)).Perm G∧Srt G)∧Hid (Zr name ht true j (O.drop j) G=(x4,M4))) (fun _ i _=>no - (intOf i).toNat)
 case atStart=>exact⟨0,K,K.map (·.1),Nat.zero_le _,rfl,HN0,HA,HP0,HG4⟩
 case round=>
  clear HA HP0 HG4 HN0
  obtain⟨j,K2,G,hj,rfl,HL2,HA2,HP,HGV⟩:=hrel
  have HWJ:=hide (bel_on (unhide HBW5) (unhide HA2).bel)
  have BUJ:=hide (((unhide HA2).bel.block _ (lt_of_block (unhide BU5))).trans (unhide BU5))
  have hlw:∀ x∈K2,LkAt wr x:=fun x hx=>((unhide HA2).lks x hx).later (unhide HWJ)
  obtain⟨ra,rc,rfl,hco,hso⟩:=Zm (unhide HA2).own hlw
  by_cases hlt:j<no
  ·have hlj:j<O.length:=by rw[unhide HZO];exact hlt
   obtain⟨ob,oo,rfl,_,hoc⟩:=(unhide HOW).2 (by omega)
   have hout:=hoc j hlj
   obtain⟨q,hq⟩:∃ q,O[j]=q:=⟨_,rfl⟩
   have GA:=hide (fun L hf=>Tv (name:=name) (h:=ht) (r:=true) hlj L hf)
   have GN:=hide (fun L hf=>Tu (name:=name) (h:=ht) (r:=true) hlj L hf)
   rw[hq] at hout GA
   obtain⟨ov,okk⟩:=q
   obtain⟨g0,la,ln,lc,g1,lO,lS⟩:=hout
   simp only at g0 g1 lO
   have e0:=cell_later (unhide HWJ) g0
   have e1:=cell_later (unhide HWJ) g1
   have ol:=World.block_lt_of_cell? _ _ e0
   have LK:Hid (LkAt w (((name,(j:Int),ov,okk,ht,true):Zb),la,ln,lc)):=⟨lO,lS⟩
   obtain⟨W1,hW1⟩:∃ W1,W1=(wr.alloc (.cells #[.int .i64 ov,.slice la ln lc] 84)).alloc (.cells #[.int .i64 name,.int .i64 j] 86):=⟨_,rfl⟩
   have hb1:Below wr.heap.size wr W1:=by rw[hW1];exact bel_on (bel_new _ _) (bel_new _ _)
   obtain⟨z,hz⟩:∃ z,plc (name,(j:Int)) (K2.map (·.1)) 0=z:=⟨_,rfl⟩
   have CP:=hide (Ug ra K2.length rc (K2.map (·.1)) (name,(j:Int)) z W1 (by have:=unhide HL2;omega) (hco.later hb1) hz)
   have p0:W1.heap[wr.heap.size+1]? = some (.cells [.int .i64 name,.int .i64 j].toArray 86 (0,0)):=by
    rw[hW1]
    have:=heap_alloc_new (wr.alloc (.cells #[.int .i64 ov,.slice la ln lc] 84)) (.cells #[.int .i64 name,.int .i64 j] 86)
    rw[show (wr.alloc (.cells #[.int .i64 ov,.slice la ln lc] 84)).heap.size=wr.heap.size+1 by simp] at this
    exact this
   have p1:W1.heap[wr.heap.size]? = some (.cells [.int .i64 ov,.slice la ln lc].toArray 84 (0,0)):=by
    rw[hW1,Below.heap_alloc _ _ _ (by simp)];exact heap_alloc_new _ _
   have pc0:=Za p0 0 _ rfl
   have pc1:=Za p0 1 _ rfl
   have pl:=lt_of_block p0
   have HB1:=hide hb1
   have HP0:=hide p0
   have HP1:=hide p1
   clear hb1 hoc lO g0 g1 p0 p1 hco
   go_wp2_with fail
   rw[←hW1]
   (try go_wp2_with fail)
   refine (unhide CP).mono ?_
   rintro e W2 ⟨rfl,hb2⟩
   have HB2:=hide (bel_on (unhide HB1) hb2)
   have HW2:=hide (bel_on (unhide HWJ) (unhide HB2))
   have BU2:=hide (((unhide HB2).block _ (lt_of_block (unhide BUJ))).trans (unhide BUJ))
   have PB:=hide ((hb2.block _ (lt_of_block (unhide HP0))).trans (unhide HP0))
   have OB:=hide ((hb2.block _ (lt_of_block (unhide HP1))).trans (unhide HP1))
   clear hb2 CP hW1 HB1 HP0 HP1 pc0 pc1 pl e0 e1
   rcases U9 (name,(j:Int)) (K2.map (·.1)) 0 with ⟨hz1,hz2⟩|⟨i2,hi2,hz1,hz2,hz3⟩
   ·obtain rfl:z = -1:=hz.symm.trans hz1
    have HF:Hid (Yv (name,(j:Int)) G=false):=by show _=_;rw[←Ua (unhide HP).1];exact hz2
    have OW2:=hide ((Gr.of (S:=fun _=>False) (unhide HB2)).own (unhide HA2).own (fun _ _ q=>q))
    have KS:Hid (∀ W,Below W2.heap.size W2 W→SAo W2 wr.heap.size ov la ln lc name j W):=fun W hb=>⟨cell_later hb (Za (unhide OB) 0 _ rfl),cell_later hb (Za (unhide OB) 1 _ rfl),cell_later hb (Za (unhide PB) 0 _ rfl),cell_later hb (Za (unhide PB) 1 _ rfl),Nat.lt_of_lt_of_le (lt_of_block (unhide PB)) hb.size,hb⟩
    obtain⟨i0,hi,hz0,zi1,zi2⟩:=info_parts Tryz.infoCoin
    clear hz hz1 hz2
    go_wp2_with fail
    refine wp_region_held_drew (S:=SAo W2 wr.heap.size ov la ln lc name j) (by kernel_rfl) ((unhide KS) _ (Zc _)) (fun hHeld=>?_)
    refine wpAnyH_take (i:=0) (oi:=⟨some 159,.move (.tmp 14),25, "second.go:109",#[],none⟩) (v:=?_) rfl (by kernel_rfl) (by kernel_rfl) (by kernel_rfl) (fun _ _ _ h=>h) (Or.inl ⟨by rfl,?_⟩) hHeld ?_
    rotate_left
    ·(intro W hSw;obtain⟨sw0,sw1,sw2,sw3,sw4,_⟩:=hSw;go_simp;first|done|with_reducible rfl)
    (try simp only[Act.put,ZA,ZB,ZC])
    refine wpAnyH_take (i:=2) (oi:=⟨some 161,.load 86 (.tmp 21),86, "second.go:109",#[],none⟩) (v:=?_) rfl (by kernel_rfl) (by kernel_rfl) (by kernel_rfl) (fun _ _ _ h=>h) (Or.inl ⟨by rfl,?_⟩) hHeld ?_
    rotate_left
    ·(intro W hSw;obtain⟨sw0,sw1,sw2,sw3,sw4,_⟩:=hSw;go_simp;first|done|with_reducible rfl)
    (try simp only[Act.put,ZA,ZB,ZC])
    refine wpAnyH_take (i:=3) (oi:=⟨some 162,.load 84 (.tmp 20),84, "second.go:109",#[],none⟩) (v:=?_) rfl (by kernel_rfl) (by kernel_rfl) (by kernel_rfl) (fun _ _ _ h=>h) (Or.inl ⟨by rfl,?_⟩) hHeld ?_
    rotate_left
    ·(intro W hSw;obtain⟨sw0,sw1,sw2,sw3,sw4,_⟩:=hSw;go_simp;first|done|with_reducible rfl)
    (try simp only[Act.put,ZA,ZB,ZC])
    refine wpAnyH_take (i:=4) (oi:=⟨some 163,.move (.tmp 3),3, "second.go:109",#[],none⟩) (v:=?_) rfl (by kernel_rfl) (by kernel_rfl) (by kernel_rfl) (fun _ _ _ h=>h) (Or.inl ⟨by rfl,?_⟩) hHeld ?_
    rotate_left
    ·(intro W hSw;obtain⟨sw0,sw1,sw2,sw3,sw4,_⟩:=hSw;go_simp;first|done|with_reducible rfl)
    (try simp only[Act.put,ZA,ZB,ZC])
    refine wpAnyH_take (i:=5) (oi:=⟨some 164,.move (.tmp 12),4, "second.go:109",#[],none⟩) (v:=?_) rfl (by kernel_rfl) (by kernel_rfl) (by kernel_rfl) (fun _ _ _ h=>h) (Or.inl ⟨by rfl,?_⟩) hHeld ?_
    rotate_left
    ·(intro W hSw;obtain⟨sw0,sw1,sw2,sw3,sw4,_⟩:=hSw;go_simp;first|done|with_reducible rfl)
    (try simp only[Act.put,ZA,ZB,ZC])
    refine wpAnyH_take (i:=6) (oi:=⟨some 165,.build 88 #[(0,.tmp 161),(1,.tmp 162),(2,.tmp 163),(3,.tmp 164)],88, "second.go:109",#[⟨2,.data⟩,⟨3,.data⟩,⟨4,.data⟩,⟨5,.data⟩],none⟩) (v:=?_) rfl (by kernel_rfl) (by kernel_rfl) (by kernel_rfl) (fun _ _ _ h=>h) (Or.inl ⟨by rfl,?_⟩) hHeld ?_
    rotate_left
    ·(intro W hSw;obtain⟨sw0,sw1,sw2,sw3,sw4,_⟩:=hSw;go_simp;first|done|with_reducible rfl)
    (try simp only[Act.put,ZA,ZB,ZC])
    refine wpAnyH_ready (rs:=[1,7]) (by kernel_rfl) (by simp) ?_
    refine AllReadyH.cons (o:=⟨some 160,.call { callee:=Callee.value (.func 84),args:=#[.tmp 159],argTypes:=#[25] },25, "second.go:109",#[⟨0,.data⟩],none⟩) rfl (fun K0 hK=>?_) (AllReadyH.cons (o:=⟨some 166,.buildSlice 25 1 #[(0,.tmp 165)],25, "second.go:109",#[⟨6,.data⟩],none⟩) rfl (fun K0 hK=>?_) AllReadyH.nil)
    ·refine Xe (by kernel_rfl) 84 #[.slice ra K2.length rc] (by kernel_rfl) (X3 (.slice ra K2.length rc) K2 W2.drew (by have:=unhide HL2;omega) ((Gr.of (S:=fun _=>False) (Zc W2)).own (unhide OW2) (fun _ _ q=>q))) ?_
     rintro e WA ⟨vz,rfl,hoA,hbA⟩
     refine⟨_,rfl,?_⟩
     have HBA:Hid (Below W2.heap.size W2 WA):=bel_on (Zc W2) hbA
     have HOA:Hid (WA.ownsRow W2.heap.size 88 6 vz K2.length (Ze K2)):=hoA
     clear hoA hbA
     refine hK.out _ _ ((unhide KS) _ (unhide HBA)) (fun hHeld2=>?_)
     clear hK K0 hHeld
     have hHeld:=hHeld2
     clear hHeld2
     (try simp only[Act.put,ZA,ZB,ZC])
     refine wpAnyH_ready (rs:=[7]) (by kernel_rfl) (by simp) ?_
     refine AllReadyH.cons (o:=⟨some 166,.buildSlice 25 1 #[(0,.tmp 165)],25, "second.go:109",#[⟨6,.data⟩],none⟩) rfl (fun K0 hK=>?_) AllReadyH.nil
     go_simp
     obtain⟨WZ,hWZ⟩:∃ WZ,WZ=WA.alloc (.cells #[.int .i64 name,.int .i64 j,.int .i64 ov,.slice la ln lc,.int .i64 ht,.bool true] 88):=⟨_,rfl⟩
     rw[←hWZ]
     obtain⟨mz,hmz⟩:∃ mz,mz=WA.heap.size:=⟨_,rfl⟩
     have MZ:Hid (WZ.heap[mz]? = some (.cells #[.int .i64 name,.int .i64 j,.int .i64 ov,.slice la ln lc,.int .i64 ht,.bool true] 88 (0,0))):=by show _=_;rw[hWZ,hmz];exact heap_alloc_new _ _
     have hbz:Below WA.heap.size WA WZ:=by rw[hWZ];exact bel_new _ _
     have OZ:=hide ((Gr.of (S:=fun _=>False) hbz).own (unhide HOA) (fun _ _ q=>q))
     have BZ:=hide (bel_on (unhide HBA) hbz)
     rw[←hmz]
     clear hbz hWZ hmz HBA HOA
     refine hK.out _ _ ((unhide KS) _ (unhide BZ)) (fun hHeld2=>?_)
     clear hK K0 hHeld
     have hHeld:=hHeld2
     clear hHeld2
     (try simp only[Act.put,ZA,ZB,ZC])
     refine wpAnyH_ready (rs:=[8]) (by kernel_rfl) (by simp) ?_
     refine AllReadyH.cons (o:=⟨some 167,.call { callee:=Callee.builtin Builtin.append,args:=#[.tmp 160,.tmp 166],argTypes:=#[25,25] },25, "second.go:109",#[⟨1,.data⟩,⟨7,.data⟩,⟨1,.chain⟩],none⟩) rfl (fun K0 hK=>?_) AllReadyH.nil
     refine step_append_lies _ (by rfl) _ _ _ (by rfl) W2.heap.size 88 i0 zeroC 6 64 Tryz.underlying25 hi hz0 zi1 zi2 rfl (by decide) vz K2.length (Ze K2) (by rfl) (unhide OZ) ⟨mz,0,none⟩ 1 1 [.int .i64 name,.int .i64 j,.int .i64 ov,.slice la ln lc,.int .i64 ht,.bool true] (by rfl) (by rfl) (World.news_of_block (cs:=#[.int .i64 name,.int .i64 j,.int .i64 ov,.slice la ln lc,.int .i64 ht,.bool true]) (unhide MZ)) (fun u hu=>by simp at hu;rcases hu with rfl|rfl|rfl|rfl|rfl|rfl <;> rfl) (by decide) (by have:=unhide HL2;unfold maxLen;omega) (by have:=unhide HL2;omega) (unhide BZ).size _ rfl ?_
     intro g8 cap8 w8 hown8 hgrow8 _ _
     have HB8:Hid (Below W2.heap.size W2 w8):=(unhide BZ).grown hgrow8 (unhide BZ).size (Yp (unhide OZ))
     have HO8:=hide hown8
     clear hown8 hgrow8 OZ MZ BZ
     refine hK.out _ _ ((unhide KS) _ (unhide HB8)) (fun hHeld2=>?_)
     clear hK K0 hHeld
     have hHeld:=hHeld2
     clear hHeld2
     (try simp only[Act.put,ZA,ZB,ZC])
     refine wpAnyH_take (i:=9) (oi:=⟨some 14,.assign (.tmp 167),25, "second.go:109",#[⟨8,.data⟩,⟨8,.chain⟩,⟨0,.phase⟩,⟨1,.phase⟩,⟨2,.phase⟩,⟨3,.phase⟩,⟨4,.phase⟩,⟨5,.phase⟩,⟨6,.phase⟩,⟨7,.phase⟩,⟨8,.phase⟩],none⟩) (v:=?_) rfl (by kernel_rfl) (by kernel_rfl) (by kernel_rfl) (fun _ _ _ h=>h) (Or.inl ⟨by rfl,?_⟩) hHeld ?_
     rotate_left
     ·(intro W hSw;obtain⟨sw0,sw1,sw2,sw3,sw4,_⟩:=hSw;go_simp;first|done|with_reducible rfl)
     (try simp only[Act.put,ZA,ZB,ZC])
     refine wpAnyH_done (by kernel_rfl) ?_ _
     clear hHeld KS
     have AS:Hid (A2 w w5 Y.heap.size w8 (.slice (some ⟨g8,0,none⟩) (K2.length+1) cap8) (K2++[(((name,(j:Int),ov,okk,ht,true):Zb),la,ln,lc)])):=by
      refine⟨?_,fun x hx=>?_,bel_on (bel_on (unhide HA2).bel (unhide HB2)) (unhide HB8)⟩
      ·rw[List.length_append,Zk]
       exact own_base (unhide HO8) (by have:=(unhide HB2).size;have:=(unhide HA2).bel.size;rw[hYs];omega)
      ·rcases List.mem_append.1 hx with hx|hx
       ·exact (unhide HA2).lks x hx
       ·rw[List.mem_singleton.1 hx];exact unhide LK
     have L3:Hid ((K2++[(((name,(j:Int),ov,okk,ht,true):Zb),la,ln,lc)]).length≤720+(j+1)):=by show _≤_;rw[List.length_append];have:=unhide HL2;simp;omega
     have P3:Hid (((K2++[(((name,(j:Int),ov,okk,ht,true):Zb),la,ln,lc)]).map (·.1)).Perm (Xy (Vr name j (ov,okk) ht true) G)∧Srt (Xy (Vr name j (ov,okk) ht true) G)):=by
      refine⟨?_,X2 (unhide HP).2⟩
      rw[List.map_append]
      exact U8 (unhide HP).1 (unhide HF)
     have E3:Hid (Zr name ht true (j+1) (O.drop (j+1)) (Xy (Vr name j (ov,okk) ht true) G)=(x4,M4)):=((unhide GA) G (unhide HF)).symm.trans (unhide HGV)
     clear GA GN HGV
     go_wp2
     go_roundw
     case rel=>first|exact⟨j+1,_,_,by omega,by go_num,L3,AS,P3,E3⟩|((repeat apply Exists.intro);refine⟨?_,rfl⟩;exact⟨j+1,_,_,by omega,by go_num,L3,AS,P3,E3⟩)
     case measure=>simp[intOf];omega
    ·go_simp
     obtain⟨WA,hWA⟩:∃ WA,WA=W2.drew.alloc (.cells #[.int .i64 name,.int .i64 j,.int .i64 ov,.slice la ln lc,.int .i64 ht,.bool true] 88):=⟨_,rfl⟩
     (first|rw[←hWA]|(rw[show (W2.alloc (.cells #[.int .i64 name,.int .i64 j,.int .i64 ov,.slice la ln lc,.int .i64 ht,.bool true] 88)).drew=WA from hWA.symm]))
     have hbA:Below W2.heap.size W2 WA:=by rw[hWA];exact bel_on (Zc W2) (bel_new _ _)
     obtain⟨mz,hmz⟩:∃ mz,mz=W2.heap.size:=⟨_,rfl⟩
     have ma:WA.heap[mz]? = some (.cells #[.int .i64 name,.int .i64 j,.int .i64 ov,.slice la ln lc,.int .i64 ht,.bool true] 88 (0,0)):=by rw[hWA,hmz];exact heap_alloc_new W2.drew _
     rw[←hmz]
     have OWA:=(Gr.of (S:=fun _=>False) hbA).own (unhide OW2) (fun _ _ q=>q)
     have MA:=hide ma
     have HBA:=hide hbA
     clear hWA hmz ma hbA
     refine hK.out _ _ ((unhide KS) _ (unhide HBA)) (fun hHeld2=>?_)
     clear hK K0 hHeld
     have hHeld:=hHeld2
     clear hHeld2
     (try simp only[Act.put,ZA,ZB,ZC])
     refine wpAnyH_ready (rs:=[1]) (by kernel_rfl) (by simp) ?_
     refine AllReadyH.cons (o:=⟨some 160,.call { callee:=Callee.value (.func 84),args:=#[.tmp 159],argTypes:=#[25] },25, "second.go:109",#[⟨0,.data⟩],none⟩) rfl (fun K0 hK=>?_) AllReadyH.nil
     refine Xe (by kernel_rfl) 84 #[.slice ra K2.length rc] (by kernel_rfl) (X3 (.slice ra K2.length rc) K2 WA (by have:=unhide HL2;omega) OWA) ?_
     rintro e WZ ⟨vz,rfl,hoz,hbz⟩
     refine⟨_,rfl,?_⟩
     have BZ:=hide (bel_on (unhide HBA) hbz)
     have OZ:=hide (own_base hoz (unhide HBA).size)
     have MZ:=hide ((hbz.block _ (lt_of_block (unhide MA))).trans (unhide MA))
     clear hoz hbz OWA MA HBA
     refine hK.out _ _ ((unhide KS) _ (unhide BZ)) (fun hHeld2=>?_)
     clear hK K0 hHeld
     have hHeld:=hHeld2
     clear hHeld2
     (try simp only[Act.put,ZA,ZB,ZC])
     refine wpAnyH_ready (rs:=[8]) (by kernel_rfl) (by simp) ?_
     refine AllReadyH.cons (o:=⟨some 167,.call { callee:=Callee.builtin Builtin.append,args:=#[.tmp 160,.tmp 166],argTypes:=#[25,25] },25, "second.go:109",#[⟨1,.data⟩,⟨7,.data⟩,⟨1,.chain⟩],none⟩) rfl (fun K0 hK=>?_) AllReadyH.nil
     refine step_append_lies _ (by rfl) _ _ _ (by rfl) W2.heap.size 88 i0 zeroC 6 64 Tryz.underlying25 hi hz0 zi1 zi2 rfl (by decide) vz K2.length (Ze K2) (by rfl) (unhide OZ) ⟨mz,0,none⟩ 1 1 [.int .i64 name,.int .i64 j,.int .i64 ov,.slice la ln lc,.int .i64 ht,.bool true] (by rfl) (by rfl) (World.news_of_block (cs:=#[.int .i64 name,.int .i64 j,.int .i64 ov,.slice la ln lc,.int .i64 ht,.bool true]) (unhide MZ)) (fun u hu=>by simp at hu;rcases hu with rfl|rfl|rfl|rfl|rfl|rfl <;> rfl) (by decide) (by have:=unhide HL2;unfold maxLen;omega) (by have:=unhide HL2;omega) (unhide BZ).size _ rfl ?_
     intro g8 cap8 w8 hown8 hgrow8 _ _
     have HB8:Hid (Below W2.heap.size W2 w8):=(unhide BZ).grown hgrow8 (unhide BZ).size (Yp (unhide OZ))
     have HO8:=hide hown8
     clear hown8 hgrow8 OZ MZ BZ
     refine hK.out _ _ ((unhide KS) _ (unhide HB8)) (fun hHeld2=>?_)
     clear hK K0 hHeld
     have hHeld:=hHeld2
     clear hHeld2
     (try simp only[Act.put,ZA,ZB,ZC])
     refine wpAnyH_take (i:=9) (oi:=⟨some 14,.assign (.tmp 167),25, "second.go:109",#[⟨8,.data⟩,⟨8,.chain⟩,⟨0,.phase⟩,⟨1,.phase⟩,⟨2,.phase⟩,⟨3,.phase⟩,⟨4,.phase⟩,⟨5,.phase⟩,⟨6,.phase⟩,⟨7,.phase⟩,⟨8,.phase⟩],none⟩) (v:=?_) rfl (by kernel_rfl) (by kernel_rfl) (by kernel_rfl) (fun _ _ _ h=>h) (Or.inl ⟨by rfl,?_⟩) hHeld ?_
     rotate_left
     ·(intro W hSw;obtain⟨sw0,sw1,sw2,sw3,sw4,_⟩:=hSw;go_simp;first|done|with_reducible rfl)
     (try simp only[Act.put,ZA,ZB,ZC])
     refine wpAnyH_done (by kernel_rfl) ?_ _
     clear hHeld KS
     have AS:Hid (A2 w w5 Y.heap.size w8 (.slice (some ⟨g8,0,none⟩) (K2.length+1) cap8) (K2++[(((name,(j:Int),ov,okk,ht,true):Zb),la,ln,lc)])):=by
      refine⟨?_,fun x hx=>?_,bel_on (bel_on (unhide HA2).bel (unhide HB2)) (unhide HB8)⟩
      ·rw[List.length_append,Zk]
       exact own_base (unhide HO8) (by have:=(unhide HB2).size;have:=(unhide HA2).bel.size;rw[hYs];omega)
      ·rcases List.mem_append.1 hx with hx|hx
       ·exact (unhide HA2).lks x hx
       ·rw[List.mem_singleton.1 hx];exact unhide LK
     have L3:Hid ((K2++[(((name,(j:Int),ov,okk,ht,true):Zb),la,ln,lc)]).length≤720+(j+1)):=by show _≤_;rw[List.length_append];have:=unhide HL2;simp;omega
     have P3:Hid (((K2++[(((name,(j:Int),ov,okk,ht,true):Zb),la,ln,lc)]).map (·.1)).Perm (Xy (Vr name j (ov,okk) ht true) G)∧Srt (Xy (Vr name j (ov,okk) ht true) G)):=by
      refine⟨?_,X2 (unhide HP).2⟩
      rw[List.map_append]
      exact U8 (unhide HP).1 (unhide HF)
     have E3:Hid (Zr name ht true (j+1) (O.drop (j+1)) (Xy (Vr name j (ov,okk) ht true) G)=(x4,M4)):=((unhide GA) G (unhide HF)).symm.trans (unhide HGV)
     clear GA GN HGV
     go_wp2
     go_roundw
     case rel=>first|exact⟨j+1,_,_,by omega,by go_num,L3,AS,P3,E3⟩|((repeat apply Exists.intro);refine⟨?_,rfl⟩;exact⟨j+1,_,_,by omega,by go_num,L3,AS,P3,E3⟩)
     case measure=>simp[intOf];omega
   ·have hjz:z=(i2:Int):=by rw[←hz,hz1];simp
    subst hjz
    have HEE:Hid ((x,M,S)=((6:Int),([]:List Zb),([]:List Zb))∧w.heap.size≤w.heap.size+1):=by
     have e:=(unhide GN) G (by rw[←Ua (unhide HP).1];exact hz3)
     rw[unhide HGV] at e
     obtain⟨rfl,_⟩:=Prod.mk.inj e
     exact⟨(unhide HXb).symm.trans (if_pos (by decide)),Nat.le_succ _⟩
    have hge:¬((i2:Int)<0):=by omega
    clear hz hz1 hz2 hz3 hi2 GA GN HGV HXb
    have CF:=hide (Yh 6 W2)
    go_wp2_with fail
    refine (unhide CF).mono ?_
    rintro e wf ⟨rfl,hbf⟩
    have BUF:=hide ((hbf.block _ (lt_of_block (unhide BU2))).trans (unhide BU2))
    have HBF:=hide (bel_on (unhide HW2) hbf)
    have uuc:=Za (unhide BUF) 0 _ rfl
    have uuf:=Zd (unhide BUF) 0
    have uul:=lt_of_block (unhide BUF)
    clear hbf CF
    go_wp2
    (try simp only[Exit.inBlock,Exit.then])
    refine bodyPost_ret (v:=.tuple #[.slice none 0 0,.agg #[.slice none 0 0],.int .i64 6]) ?_ rfl ?_
    ·rw[Zi rfl]
     go_simp
    ·exact Xi (unhide HEE) (unhide HBF)
  ·obtain rfl:j=no:=by omega
   have e:=unhide HGV
   rw[Rd (by rw[unhide HZO];exact Nat.le_refl _)] at e
   obtain⟨e0,e1⟩:=Prod.mk.inj e
   subst e0 e1
   clear e HGV
   have HX2:=unhide HXb
   rw[if_neg (by decide)] at HX2
   have HXc:=hide HX2
   clear HXb HX2
   have CSO:=hide (P6 ra K2.length rc K2 w wr (by have:=unhide HL2;omega) rfl (unhide HA2).own (unhide HA2).lks (unhide HWJ))
   clear hco hlw
   go_wp2_with fail
   refine (unhide CSO).mono ?_
   rintro e w6 ⟨a6,c6,L6,rfl,hst,hs6,hpm,hwk,hb6⟩
   have e6:L6=G:=Tg hwk (hpm.trans (unhide HP).1) (unhide HP).2
   subst e6
   have hc6:CoinsAt w6 a6 K2.length L6:=hst w6 (Gr.refl _ _)
   have CCH:=hide (Wc a6 K2.length c6 L6 x5 w6 hc6 (unhide H5))
   have HST:=hide hst
   have HB6:=hide hb6
   clear hst hpm hwk hb6 hc6 CSO
   go_wp2_with fail
   refine (unhide CCH).mono ?_
   rintro e w7 ⟨rfl,hb7⟩
   have HB7:=hide hb7
   have HWR7:=hide (bel_on (unhide HB6) hb7)
   have HW7:=hide (bel_on (unhide HWJ) (unhide HWR7))
   have BU7:=hide (((unhide HWR7).block _ (lt_of_block (unhide BUJ))).trans (unhide BUJ))
   clear hb7 CCH
   by_cases e5:x5=0
   ·subst e5
    have HX2:=unhide HXc
    rw[if_neg (by decide)] at HX2
    obtain⟨rfl,e2⟩:=Prod.mk.inj HX2
    obtain⟨rfl,rfl⟩:=Prod.mk.inj e2
    have HB57:=hide (bel_on (unhide HA2).bel (unhide HWR7))
    have SX7:=hide (((unhide HB57).block _ (lt_of_block (unhide HSX))).trans (unhide HSX))
    have SP7:=hide ((Gr.of (S:=fun _=>False) (unhide HB57)).own (unhide HSP) (fun _ _ q=>q))
    have HEND:Hid (∀ W,Gr w7 W (fun q=>q=w.heap.size+1)→ApR w W 0 L6 (SK.map (·.1)) (.returned (.tuple #[.slice a6 K2.length c6,.agg #[.slice sa SK.length sc],.int .i64 0]))):=by
     intro W hg
     have hbW:Below w.heap.size w W:=hg.below (unhide HW7) (unhide HW7).size (fun k q=>by omega)
     have hwr:=(unhide HA2).bel.size
     have hsp:=hg.own (unhide SP7) (fun k q e=>by have:=Yp (unhide SP7) k q;omega)
     obtain⟨sa2,sc2,e,hco2,hso2⟩:=Zm hsp (fun x hx=>((unhide HSL) x hx).later hbW)
     obtain⟨rfl,rfl⟩:sa=sa2∧sc=sc2:=by injection e with e1 e2 e3;exact⟨e1,e3⟩
     exact⟨a6,K2.length,c6,sa,SK.length,sc,rfl,(unhide HST) W ((Gr.of (unhide HB7)).trans (hg.mono (fun k _ q=>⟨by omega,by omega⟩))),hs6,hco2,hso2,hbW⟩
    have u0:=Za (unhide SX7) 0 _ rfl
    have ul:=lt_of_block (unhide SX7)
    have r0:=Za (unhide BU7) 0 _ rfl
    have rl:=lt_of_block (unhide BU7)
    have rf:=Zd (unhide BU7) 0
    clear HXc HX2 e2 HST HSX HSP SP7 SX7 HA2
    go_wp2
    go_region
    go_wp2
    (try simp only[Exit.inBlock,Exit.then])
    all_goals (refine bodyPost_ret (v:=.tuple #[.slice a6 K2.length c6,.agg #[.slice sa SK.length sc],.int .i64 0]) ?_ rfl ?_)
    ·rw[Zi rfl]
     go_simp
    ·first|exact (unhide HEND) _ (((Gr.refl w7 (fun q=>q=w.heap.size+1)).draw).set (p:=⟨w.heap.size+1,0,none⟩) (.inl rfl) _)|exact (unhide HEND) _ (((Gr.refl w7 (fun q=>q=w.heap.size+1)).set (p:=⟨w.heap.size+1,0,none⟩) (.inl rfl) _).draw)
   ·have HEE:Hid ((x,M,S)=((x5:Int),([]:List Zb),([]:List Zb))∧w.heap.size≤w.heap.size+1):=⟨(unhide HXc).symm.trans (if_pos e5),Nat.le_succ _⟩
    have g9:(x5 != 0)=true:=by simp[e5]
    clear HXc HST
    have CF:=hide (Yh x5 w7)
    go_wp2_with fail
    refine (unhide CF).mono ?_
    rintro e wf ⟨rfl,hbf⟩
    have BUF:=hide ((hbf.block _ (lt_of_block (unhide BU7))).trans (unhide BU7))
    have HBF:=hide (bel_on (unhide HW7) hbf)
    have uuc:=Za (unhide BUF) 0 _ rfl
    have uuf:=Zd (unhide BUF) 0
    have uul:=lt_of_block (unhide BUF)
    clear hbf CF
    go_wp2
    (try simp only[Exit.inBlock,Exit.then])
    refine bodyPost_ret (v:=.tuple #[.slice none 0 0,.agg #[.slice none 0 0],.int .i64 x5]) ?_ rfl ?_
    ·rw[Zi rfl]
     go_simp
    ·exact Xi (unhide HEE) (unhide HBF)
end Go.Proofs.YtepmnpapdknocaaGreatDoor
