import Derived.Test.YtpikejjiignchaaGreatDoorG25
set_option maxHeartbeats 12800000
set_option maxRecDepth 10000
namespace Go.Proofs.YtpikejjiignchaaGreatDoor
open Go.RowKit
structure ApS(w Y:World)(ub:Nat)(wr:World)(v sv:Value)(K SK:List CV):Prop where
 rest:wr.ownsRow Y.heap.size 103 6 v K.length (Zj K)
 box:wr.heap[ub]? = some (.cells #[sv] 130 (0,0))
 spent:wr.ownsRow Y.heap.size 103 6 sv SK.length (Zj SK)
 lks:∀ x,x∈K∨x∈SK→LkAt w x∧ck1 x.1=0
 srt:Srt (K.map (·.1))
 gr:Gr Y wr (fun q=>q=ub)
 apart:∀ b,v.ownBlock=some b→sv.ownBlock≠some b
structure A2(w w5:World)(B:Nat)(wr:World)(v:Value)(K:List CV):Prop where
 own:wr.ownsRow B 103 6 v K.length (Zj K)
 lks:∀ x∈K,LkAt w x
 bel:Below w5.heap.size w5 wr
def SAo(W2:World)(b:Nat)(ov:Int)(la:Option Addr)(ln lc:Nat)(name:Int)(j:Nat)(W:World):Prop:=
 W.cell? ⟨b,0,none⟩=some (.int .i64 ov)∧W.cell? ⟨b,1,none⟩=some (.slice la ln lc)∧W.cell? ⟨b+1,0,none⟩=some (.int .i64 name)∧W.cell? ⟨b+1,1,none⟩=some (.int .i64 j)∧b+1<W.heap.size∧Below W2.heap.size W2 W
theorem Yy{w:World}{base:Nat}{e:TypeId}{size:Nat}{v:Value}{n:Nat}{xs:List Value}(h:w.ownsRow base e size v n xs){k:Nat}{cs:Array Value}{t:TypeId}(hk:w.heap[k]? = some (.cells cs t (0,0)))(ht:t≠e):v.ownBlock≠some k:=by
 intro e1
 obtain⟨_,⟨rfl,_⟩|⟨g,cap,cur,rfl,_,hh,_⟩⟩:=h
 ·cases e1
 ·have e2:g=k:=by injection e1
  subst e2
  rw[hh] at hk
  injection hk with hk
  injection hk with _ hk
  exact ht hk.symm
theorem Ps{W:World}{base g cap:Nat}{K:List CV}(ho:W.ownsRow base 103 6 (.slice (some ⟨g,0,none⟩) K.length cap) K.length (Zj K))(j rc:Nat)(hj:j+1≤K.length)(hr:K.length≤rc)(ya:Addr)(hy:rc≠j+1→ya=⟨g,(j+1)*6,none⟩) :
  (∀ i u,(Zj (K.take j))[i]? = some u→W.cell? ((⟨g,0,none⟩:Addr).add i)=some u)∧(∀ i u,(Zj (K.drop (j+1)))[i]? = some u→W.cell? (ya.add i)=some u):=by
 constructor
 ·intro i u h
  have hi:i<j*6:=by
   have:=(List.getElem?_eq_some_iff.1 h).1
   rw[Zy,List.length_take] at this
   omega
  rw[←Vd,List.getElem?_take_of_lt hi] at h
  rw[Addr.add_lit,Nat.zero_add,World.ownsRow.cellAt ho i (by omega)]
  exact h
 ·intro i u h
  have hi:=(List.getElem?_eq_some_iff.1 h).1
  rw[Zy,List.length_drop] at hi
  rw[←Ve,List.getElem?_drop] at h
  rw[hy (by omega),Addr.add_lit,World.ownsRow.cellAt ho _ (by omega)]
  exact h
theorem Vp{w:World}{base base':Nat}{e:TypeId}{size:Nat}{v:Value}{n:Nat}{xs:List Value}(h:w.ownsRow base e size v n xs)(hb:base'≤base):w.ownsRow base' e size v n xs:=by
 obtain⟨hl,h0|⟨g,cap,cur,hv,hg,r⟩⟩:=h
 ·exact⟨hl,.inl h0⟩
 ·exact⟨hl,.inr ⟨g,cap,cur,hv,Nat.le_trans hb hg,r⟩⟩
theorem Sy{l k:List (Int×Int)}{h:Int}(h1:chk l=0)(h2:chk k=0)(h3:hOk h=true):Wx l k h=Yw l k h:=by
 unfold Yw Wx Ww
 rw[if_pos h1,if_pos h2,if_pos h3,decide_eq_true rfl,Bool.true_and]
 rfl
theorem Zdl{h:Int}(h1:¬h<1)(h2:¬1000<h):hOk h=true:=by
 unfold hOk
 simp only[Bool.and_eq_true,decide_eq_true_eq]
 omega
theorem Mi:∀ {pre I:List InD},Zz pre I=0→∀ x∈I,chk x.2.2=0
 | _,[],_=>fun x hx=>by cases hx
 | pre,y :: r,h=>fun x hx=>by
  unfold Zz at h
  split at h
  ·rename_i q
   rcases List.mem_cons.1 hx with rfl|hx
   ·unfold Wf at q
    split at q
    ·cases q
    ·split at q
     ·rename_i q3;exact absurd q q3
     ·rename_i q3;simpa using q3
   ·exact Mi h x hx
  ·rename_i q;exact absurd h q
theorem Zat(a:Option Addr)(n c:Nat)(L:List Zg)(h:Int)(ai ao:Option Addr)(ni ci no co:Nat)(I:List InD)(O:List Zw)(name ht:Int)(x:Int)(M S:List Zg)(w:World)(hL:CoinsAt w a n L)(sL:SlOk a n c)(hI:InsAt w ai ni I)(hO:OutsAt w ao no O)(hRC:Z5 L)(hTx:Zo (h,I,O)=0)(hx:apD L (h,I,O) name ht=(x,M,S))(n1:¬name<1)(n2:¬120<name)(n3:¬ht<1)(n4:¬1000<ht)(hr:ni≠0) :
  Calls Tryz.prog 60 #[.slice a n c,.agg #[.int .i64 h,.slice ai ni ci,.slice ao no co],.int .i64 name,.int .i64 ht] w fun e w'=>ApR w w' x M S e:=by
 obtain⟨X0,hX0⟩:∃ X0,X0=(w.alloc (.cells #[.int .i64 h,.slice ai ni ci,.slice ao no co] 52)).alloc (.cells #[.slice none 0 0] 130):=⟨_,rfl⟩
 have hb0:Below w.heap.size w X0:=by rw[hX0];exact Ze (Zf _ _) (Zf _ _)
 have hX1:X0.heap[w.heap.size]? = some (.cells [.int .i64 h,.slice ai ni ci,.slice ao no co].toArray 52 (0,0)):=by
  rw[hX0,Below.heap_alloc _ _ _ (by simp)];exact Zl _ _ _ _ _
 have hX2:X0.heap[w.heap.size+1]? = some (.cells [.slice none 0 0].toArray 130 (0,0)):=by
  rw[hX0]
  have:=heap_alloc_new (w.alloc (.cells #[.int .i64 h,.slice ai ni ci,.slice ao no co] 52)) (.cells #[.slice none 0 0] 130)
  rw[show (w.alloc (.cells #[.int .i64 h,.slice ai ni ci,.slice ao no co] 52)).heap.size=w.heap.size+1 by simp] at this
  exact this
 obtain⟨⟨x2,S2,M2⟩,h2⟩:∃ r,Zm ht I [] L=r:=⟨_,rfl⟩
 obtain⟨x3,h3⟩:∃ x3,Pz S2 (h,I,O)=x3:=⟨_,rfl⟩
 have hR:isR (h,I,O)=false:=by unfold isR;rw[hI.1];exact decide_eq_false hr
 obtain⟨⟨x4,M4⟩,h4⟩:∃ r,Z6 name ht false 0 O M2=r:=⟨_,rfl⟩
 obtain⟨x5,h5⟩:∃ x5,Yi M4=x5:=⟨_,rfl⟩
 rw[M7 (Hq hRC hTx (by unfold okN okH;simp only[Bool.and_eq_true,decide_eq_true_eq];omega) (by rw[hR];intro q;exact Bool.noConfusion q.1)) h2 h3 (by rw[hR];exact h4) h5,if_neg (by decide)] at hx
 obtain⟨t1,t2,t3,_,tI,_⟩:=Wm hTx
 have hni:ni≤6:=by rw[←hI.1];exact t1
 have hno:no≤6:=by rw[←hO.1];exact t2
 have hn:n≤720:=by rw[←hL.1];exact hRC.len
 have HOB:=Zb (Ga hTx)
 have HRR:=Zb hR
 have HIC:=Zb (Mi tI)
 have HHT:=Zb (Zdl n3 n4)
 obtain⟨Y,hY⟩:∃ Y,Y=X0.alloc (.cells #[.slice none 0 0] 130):=⟨_,rfl⟩
 have hbY:Below X0.heap.size X0 Y:=by rw[hY];exact Zf _ _
 have hYu:Y.heap[X0.heap.size]? = some (.cells #[.slice none 0 0] 130 (0,0)):=by rw[hY];exact heap_alloc_new _ _
 have hXs:X0.heap.size=w.heap.size+1+1:=by rw[hX0];simp
 have hYs:Y.heap.size=w.heap.size+1+1+1:=by rw[hY];simp[hXs]
 rw[hXs] at hYu
 have C1:=Zb (Ts a n c L w Y (Ze hb0 hbY) (by omega) hL sL)
 have HI:=Zb (fun w' (hb:Below X0.heap.size X0 w')=>(hI.later hb0).later hb)
 have HO:=Zb (fun w' (hb:Below X0.heap.size X0 w')=>(hO.later hb0).later hb)
 have HOW:=Zb hO
 have HB0:=Zb hb0
 have HBY:=Zb hbY
 have HX1:=Zb hX1
 have HX2:=Zb hX2
 have HYU:=Zb hYu
 have H2:=Zb h2
 have H3:=Zb h3
 have H4:=Zb h4
 have H5:=Zb h5
 have HX:=Zb hx
 have HRC:=Zb hRC
 have HZI:=Zb hI.1
 have HZO:=Zb hO.1
 have HZL:=Zb hL.1
 have x00:=Zd hX1 0 _ rfl
 have x01:=Zd hX1 1 _ rfl
 have x02:=Zd hX1 2 _ rfl
 have xl:=lt_of_block hX1
 have hXX:w.heap.size+1<X0.heap.size:=lt_of_block hX2
 have y00:=Zc hbY x00
 have y01:=Zc hbY x01
 have y02:=Zc hbY x02
 have g0:((ni:Int) == 0)=false:=by simp;omega
 have g1:¬(ni:Int)=0:=by omega
 clear hr
 clear hL sL hI hO hRC hTx hx hX1 hX2 hb0 hbY hYu h2 h3 h4 h5 hR t1 t2 t3 tI
 go_enter Tryz.func60,Tryz.ntmps60
 go_wp2_with fail
 rw[←hX0]
 clear hX0
 go_wp2_with fail
 rw[←hY]
 clear hY
 refine (Za C1).mono ?_
 rintro e w2 ⟨v,K,rfl,hKL,hlk,ho,hb2⟩
 have xb:=Zc hb2 y01
 have xbl:=World.block_lt_of_cell? _ _ xb
 have ST:Hid (ApS w Y (w.heap.size+1+1) w2 v (.slice none 0 0) K []):=by
  refine⟨ho,(hb2.block _ (by omega)).trans (Za HYU),⟨rfl,.inl ⟨rfl,rfl⟩⟩,fun x hx=>?_,by rw[hKL];exact (Za HRC).srt,Gr.of hb2,fun _ _ e=>by cases e⟩
  rcases hx with hx|hx
  ·exact⟨hlk x hx,(Za HRC).one x.1 (by rw[←hKL];exact List.mem_map_of_mem hx)⟩
  ·cases hx
 have EQ:Hid (Zm ht (I.drop 0) (([]:List CV).map (·.1)) (K.map (·.1))=(x2,S2,M2)):=by show _=_;rw[hKL];exact Za H2
 have LN:Hid (K.length≤720):=by show _≤_;rw[←List.length_map (f:=fun (x:CV)=>x.1),hKL];exact (Za HRC).len
 clear hKL hlk ho hb2 C1 y00 y01 y02 x00 x01 x02
 go_wp2
 go_loopw [14,63] (fun rv i wr=>∃ (k:Nat) (K SK:List CV) (sv:Value),k≤ni∧i = .int .i64 k∧Hid (SK.length=k)∧Hid (K.length≤720)∧Hid (ApS w Y (w.heap.size+1+1) wr rv sv K SK)∧Hid (Zm ht (I.drop k) (SK.map (·.1)) (K.map (·.1))=(x2,S2,M2))) (fun _ i _=>ni - (intOf i).toNat)
 case atStart=>exact⟨0,K,[],_,Nat.zero_le _,rfl,rfl,LN,ST,EQ⟩
 case round=>
  clear ST EQ LN xb xbl
  obtain⟨k,K,SK,sv,hk,rfl,HKK,HLN,HS,HE⟩:=hrel
  have hBX:Below X0.heap.size X0 wr:=(Za HS).gr.below (Za HBY) (Za HBY).size (fun q e=>by omega)
  have HBX:=Zb hBX
  have HBW:=Zb (Ze (Za HB0) hBX)
  have BU:=Zb ((hBX.block _ (lt_of_block (Za HX2))).trans (Za HX2))
  have BT:=Zb ((hBX.block _ (lt_of_block (Za HX1))).trans (Za HX1))
  by_cases hlt:k<ni
  ·have hlk:k<I.length:=by rw[Za HZI];exact hlt
   obtain⟨ib,io,rfl,_,hcell⟩:=((Za HI) wr hBX).2 (by omega)
   have hin:=hcell k hlk
   obtain⟨q,hq⟩:∃ q,I[k]=q:=⟨_,rfl⟩
   have SN:=Zb (fun ht1=>Rz ht I k hlk (SK.map (·.1)) (K.map (·.1)) ht1)
   have hqm:q∈I:=hq ▸ List.getElem_mem hlk
   have hqc:=(Za HIC) q hqm
   rw[hq] at hin SN
   obtain⟨p1,p2,pk⟩:=q
   obtain⟨i0,i1,ka,kn,kc,i2,ikO,ikS⟩:=hin
   simp only at i0 i1 i2 ikO SN hqc
   have hlw:∀ x∈K,LkAt wr x:=fun x hx=>((Za HS).lks x (.inl hx)).1.later (Za HBW)
   obtain⟨ra,rc,rfl,hco,hso⟩:=Z3 (Za HS).rest hlw
   obtain⟨W1,hW1⟩:∃ W1,W1=wr.alloc (.cells #[.int .i64 p1,.int .i64 p2,.slice ka kn kc] 124):=⟨_,rfl⟩
   have hb1:Below wr.heap.size wr W1:=by rw[hW1];exact Zf _ _
   obtain⟨z,hz⟩:∃ z,plc (p1,p2) (K.map (·.1)) 0=z:=⟨_,rfl⟩
   have CP:=Zb (Rg ra K.length rc (K.map (·.1)) (p1,p2) z W1 (by have:=Za HLN;omega) (hco.later hb1) hz)
   have HB1:=Zb hb1
   have HCO:=Zb hco
   have il:ib<wr.heap.size:=World.block_lt_of_cell? _ _ i0
   clear hb1 hco hcell hqm
   go_wp2_with fail
   rw[←hW1]
   go_wp2_with fail
   refine (Za CP).mono ?_
   rintro e W2 ⟨rfl,hb2⟩
   have HB2:=Zb (Ze (Za HB1) hb2)
   have HBW2:=Zb (Ze (Za HBW) (Za HB2))
   have BU2:=Zb (((Za HB2).block _ (lt_of_block (Za BU))).trans (Za BU))
   have IB:Hid (W2.heap[wr.heap.size]? = some (.cells [.int .i64 p1,.int .i64 p2,.slice ka kn kc].toArray 124 (0,0))):=by
    show _=_
    have e:W1.heap[wr.heap.size]? = some (.cells [.int .i64 p1,.int .i64 p2,.slice ka kn kc].toArray 124 (0,0)):=by rw[hW1];exact Zl _ _ _ _ _
    exact (hb2.block _ (lt_of_block e)).trans e
   clear hb2 CP hW1 HB1 i0 i1 i2
   rcases Tb (p1,p2) (K.map (·.1)) 0 with ⟨hz1,hz2⟩|⟨j,hj,hz1,hz2,hz3⟩
   ·obtain rfl:z = -1:=hz.symm.trans hz1
    have HEE:Hid ((x,M,S)=((7:Int),([]:List Zg),([]:List Zg))∧w.heap.size≤w.heap.size+1):=by
     have e:=(Za SN) (Zbh hz2)
     rw[Za HE] at e
     obtain⟨rfl,_⟩:=Prod.mk.inj e
     exact⟨(Za HX).symm.trans (if_pos (by decide)),Nat.le_succ _⟩
    clear hz hz1 hz2 HE SN HX
    have CF:=Zb (Yj 7 W2)
    go_wp2_with fail
    refine (Za CF).mono ?_
    rintro e wf ⟨rfl,hbf⟩
    have BUF:=Zb ((hbf.block _ (lt_of_block (Za BU2))).trans (Za BU2))
    have HBF:=Zb (Ze (Za HBW2) hbf)
    have uuc:=Zd (Za BUF) 0 _ rfl
    have uuf:=Zh (Za BUF) 0
    have uul:=lt_of_block (Za BUF)
    clear hbf CF
    go_wp2
    (try simp only[Exit.inBlock,Exit.then])
    refine bodyPost_ret (v:=.tuple #[.slice none 0 0,.agg #[.slice none 0 0],.int .i64 7]) ?_ rfl ?_
    ·rw[Zq rfl]
     go_simp
    ·exact (Xl (Za HEE) (Za HBF)).plain
   ·have hjz:z=(j:Int):=by rw[←hz,hz1];simp
    subst hjz
    clear hz hz1 hz3
    have hjK:j<K.length:=by simpa using hj
    have TK:=Zb (K8 (Za HS).srt j hj hz2)
    obtain⟨cx,hcx⟩:∃ cx,K[j]=cx:=⟨_,rfl⟩
    have hcm:cx∈K:=hcx ▸ List.getElem_mem hjK
    obtain⟨g,rfl⟩:∃ g,ra=some ⟨g,0,none⟩:=by
     rcases (Za HS).rest.2 with ⟨e,q⟩|⟨g,cap,cur,e,_⟩
     ·omega
     ·exact⟨g,by injection e⟩
    have OW2:=Zb ((Gr.of (S:=fun _=>False) (Za HB2)).own (Za HS).rest (fun _ _ q=>q))
    obtain⟨f0,f1,f2,f3,f4,f5⟩:=U3 K j hjK
    have cc:=fun u (hu:u<6)=>World.ownsRow.cellAt (Za OW2) (j*6+u) (by omega)
    have m0:=(cc 0 (by decide)).trans f0
    rw[Nat.add_zero] at m0
    have m1:=(cc 1 (by decide)).trans f1
    have m2:=(cc 2 (by decide)).trans f2
    have m3:=(cc 3 (by decide)).trans f3
    have m4:=(cc 4 (by decide)).trans f4
    have m5:=(cc 5 (by decide)).trans f5
    have hck:=(Za HS).lks cx (.inl hcm)
    have SL:=Zb (fun M1 c1 ht1 hl=>R0 ht I k hlk (SK.map (·.1)) (K.map (·.1)) M1 c1 ht1 hl)
    have SY:=Zb (fun M1 c1 ht1 hl ho=>Sp ht I k hlk (SK.map (·.1)) (K.map (·.1)) M1 c1 ht1 hl ho)
    have SO:=Zb (fun M1 c1 ht1 hl ho=>Gj ht I k hlk (SK.map (·.1)) (K.map (·.1)) M1 c1 ht1 hl ho)
    rw[List.getElem_map,hcx] at TK
    rw[hcx] at m0 m1 m2 m3 m4 m5
    have HCK:=Zb hck
    obtain⟨⟨c1,c2,vv,lk,hg,rr⟩,la,ln,lc⟩:=cx
    simp only[cv,ch,cr] at m0 m1 m2 m3 m4 m5
    obtain⟨W3,hW3⟩:∃ W3,W3=W2.alloc (.cells #[.int .i64 c1,.int .i64 c2,.int .i64 vv,.slice la ln lc,.int .i64 hg,.bool rr] 103):=⟨_,rfl⟩
    have hb3:Below W2.heap.size W2 W3:=by rw[hW3];exact Zf _ _
    have CB:Hid (W3.heap[W2.heap.size]? = some (.cells [.int .i64 c1,.int .i64 c2,.int .i64 vv,.slice la ln lc,.int .i64 hg,.bool rr].toArray 103 (0,0))):=by show _=_;rw[hW3];exact heap_alloc_new _ _
    have HB3:=Zb (Ze (Za HB2) hb3)
    have HBW3:=Zb (Ze (Za HBW2) hb3)
    have BU3:=Zb ((hb3.block _ (lt_of_block (Za BU2))).trans (Za BU2))
    have IB3:=Zb ((hb3.block _ (lt_of_block (Za IB))).trans (Za IB))
    obtain⟨⟨lO,lS⟩,hc1⟩:=hck
    simp only[ck] at lO lS
    have hz1:=Yp hc1
    simp only[cv,ch,ck] at hz1
    have LO:=Zb (lO.later (Za HBW3))
    have KO:=Zb (ikO.later (Za HB3))
    have gl:g<W2.heap.size:=World.block_lt_of_cell? _ _ m0
    have hjI:(j:Int)<(K.length:Int):=by omega
    have hcl:=hz1.2.2.2.2.2.2.2.2
    have hhb:1≤hg∧hg≤1000:=⟨hz1.2.2.2.2.2.2.1,hz1.2.2.2.2.2.2.2.1⟩
    clear hb3 f0 f1 f2 f3 f4 f5 cc hcm lO hz1 hc1 hz2
    cases rr with
    | true=>
     by_cases late:ht<hg+2
     ·have HEE:Hid ((x,M,S)=((10:Int),([]:List Zg),([]:List Zg))∧w.heap.size≤w.heap.size+1):=by
       have e:=(Za SL) _ _ (by rw[hq];exact Za TK) (by exact⟨rfl,late⟩)
       rw[Za HE] at e
       obtain⟨rfl,_⟩:=Prod.mk.inj e
       exact⟨(Za HX).symm.trans (if_pos (by decide)),Nat.le_succ _⟩
      have q4:=Zd (Za CB) 4 _ rfl
      have q5:=Zd (Za CB) 5 _ rfl
      have ql:=lt_of_block (Za CB)
      clear HE SN SL SY SO HX TK
      go_wp2_with fail
      rw[←hW3]
      have CF:=Zb (Yj 10 W3)
      go_wp2_with fail
      refine (Za CF).mono ?_
      rintro e wf ⟨rfl,hbf⟩
      have BUF:=Zb ((hbf.block _ (lt_of_block (Za BU3))).trans (Za BU3))
      have HBF:=Zb (Ze (Za HBW3) hbf)
      have uuc:=Zd (Za BUF) 0 _ rfl
      have uuf:=Zh (Za BUF) 0
      have uul:=lt_of_block (Za BUF)
      clear hbf CF
      go_wp2
      (try simp only[Exit.inBlock,Exit.then])
      refine bodyPost_ret (v:=.tuple #[.slice none 0 0,.agg #[.slice none 0 0],.int .i64 10]) ?_ rfl ?_
      ·rw[Zq rfl]
       go_simp
      ·exact (Xl (Za HEE) (Za HBF)).plain
     ·have NL:Hid (¬(cr ((c1,c2,vv,lk,hg,true):Zg)=true∧ht<ch ((c1,c2,vv,lk,hg,true):Zg)+2)):=fun q=>late q.2
      have OB:∃ ob,Wx lk pk ht=ob:=⟨_,rfl⟩
      obtain⟨ob,hob⟩:=OB
      have C5:=Zb (G4 la ka ln lc kn kc lk pk ht W3 (Za LO) (Za KO) hcl hqc (Za HHT))
      rw[hob] at C5
      have HOP:Hid (Yw lk pk ht=ob):=by show _=_;rw[←Sy hcl hqc (Za HHT)];exact hob
      clear hob
      have q1:=Zd (Za CB) 1 _ rfl
      have q2:=Zd (Za CB) 2 _ rfl
      have q3:=Zd (Za CB) 3 _ rfl
      have q4:=Zd (Za CB) 4 _ rfl
      have q5:=Zd (Za CB) 5 _ rfl
      have q0:=Zd (Za CB) 0 _ rfl
      have ql:=lt_of_block (Za CB)
      have r2:=Zd (Za IB3) 2 _ rfl
      have r0:=Zd (Za IB3) 0 _ rfl
      have rl:=lt_of_block (Za IB3)
      have s2:=Zd (Za IB) 2 _ rfl
      have sl:=lt_of_block (Za IB)
      go_wp2_with fail
      rw[←hW3]
      go_wp2_with fail
      refine (Za C5).mono ?_
      rintro e W4 ⟨rfl,hb4⟩
      have HB4:=Zb (Ze (Za HB3) hb4)
      have HBW4:=Zb (Ze (Za HBW3) hb4)
      have BU4:=Zb ((hb4.block _ (lt_of_block (Za BU3))).trans (Za BU3))
      have CB4:=Zb ((hb4.block _ (lt_of_block (Za CB))).trans (Za CB))
      clear hb4 C5 q0 q1 q2 q3 q4 q5 ql r0 r2 rl s2 sl m0 m1 m2 m3 m4 m5 LO KO
      cases ob with
      | false=>
       have HEE:Hid ((x,M,S)=((8:Int),([]:List Zg),([]:List Zg))∧w.heap.size≤w.heap.size+1):=by
        have e:=(Za SY) _ _ (by rw[hq];exact Za TK) (Za NL) (by rw[hq];exact Za HOP)
        rw[Za HE] at e
        obtain⟨rfl,_⟩:=Prod.mk.inj e
        exact⟨(Za HX).symm.trans (if_pos (by decide)),Nat.le_succ _⟩
       clear HE SN SL SY SO HX TK
       have CF:=Zb (Yj 8 W4)
       go_wp2_with fail
       refine (Za CF).mono ?_
       rintro e wf ⟨rfl,hbf⟩
       have BUF:=Zb ((hbf.block _ (lt_of_block (Za BU4))).trans (Za BU4))
       have HBF:=Zb (Ze (Za HBW4) hbf)
       have uuc:=Zd (Za BUF) 0 _ rfl
       have uuf:=Zh (Za BUF) 0
       have uul:=lt_of_block (Za BUF)
       clear hbf CF
       go_wp2
       (try simp only[Exit.inBlock,Exit.then])
       refine bodyPost_ret (v:=.tuple #[.slice none 0 0,.agg #[.slice none 0 0],.int .i64 8]) ?_ rfl ?_
       ·rw[Zq rfl]
        go_simp
       ·exact (Xl (Za HEE) (Za HBF)).plain
      | true=>
       have BX4:=Zb (((Za HB4).block _ (lt_of_block (Za HS).box)).trans (Za HS).box)
       have OS4:=(Gr.of (S:=fun _=>False) (Za HB4)).own (Za HS).spent (fun _ _ q=>q)
       have OR4:=Zb ((Gr.of (S:=fun _=>False) (Za HB4)).own (Za HS).rest (fun _ _ q=>q))
       have hbn:=Zf W4 (.cells #[.int .i64 c1,.int .i64 c2,.int .i64 vv,.slice la ln lc,.int .i64 hg,.bool true] 103)
       have OWN5:=Zb ((Gr.of (S:=fun _=>False) hbn).own OS4 (fun _ _ q=>q))
       have OR5:=Zb ((Gr.of (S:=fun _=>False) hbn).own (Za OR4) (fun _ _ q=>q))
       have BX5:=Zb ((hbn.block _ (lt_of_block (Za BX4))).trans (Za BX4))
       have NEWS:=Zb (World.news_of_block (heap_alloc_new W4 (.cells #[.int .i64 c1,.int .i64 c2,.int .i64 vv,.slice la ln lc,.int .i64 hg,.bool true] 103)))
       have HB5:=Zb (Ze (Za HB4) hbn)
       have YS:Y.heap.size≤(W4.alloc (.cells #[.int .i64 c1,.int .i64 c2,.int .i64 vv,.slice la ln lc,.int .i64 hg,.bool true] 103)).heap.size:=Nat.le_trans (Za HS).gr.size (Nat.le_trans (Za HB4).size hbn.size)
       have SKL:SK.length≤6:=by have:=Za HKK;omega
       obtain⟨i0,hi,hz0,hz1,hz2⟩:=info_parts Tryz.infoCoin
       have u0:=Zd (Za BX4) 0 _ rfl
       have ul:=lt_of_block (Za BX4)
       have v0:=Zd (Za CB4) 0 _ rfl
       have v1:=Zd (Za CB4) 1 _ rfl
       have v2:=Zd (Za CB4) 2 _ rfl
       have v3:=Zd (Za CB4) 3 _ rfl
       have v4:=Zd (Za CB4) 4 _ rfl
       have v5:=Zd (Za CB4) 5 _ rfl
       have vl:=lt_of_block (Za CB4)
       clear hbn OS4
       go_wp2_with (at_builtin;refine wpList_append_lies _ rfl _ _ 29 rfl Y.heap.size 103 i0 zeroC 6 64 Tryz.underlying29 hi hz0 hz1 hz2 rfl (by decide) _ _ _ rfl (Za OWN5) ⟨W4.heap.size,0,none⟩ 1 1 [.int .i64 c1,.int .i64 c2,.int .i64 vv,.slice la ln lc,.int .i64 hg,.bool true] rfl rfl (Za NEWS) (fun u hu=>by simp at hu;rcases hu with rfl|rfl|rfl|rfl|rfl|rfl <;> rfl) (by decide) (by unfold maxLen;omega) (by omega) YS _ rfl ?_;intro g7 cap7 w7 hown7 hgrow7 hor7 _;have hx7:=(hgrow7.block (w.heap.size+1+1) (lt_of_block (Za BX5)) (fun e=>Yy (Za OWN5) (Za BX5) (by decide) e.symm)).trans (Za BX5);have HX7:=Zb hx7;have HO7:=Zb hown7;have HG7:=Zb hgrow7;have yy0:=Zd hx7 0 _ rfl;have yyl:=lt_of_block hx7;have yyf:=Zh hx7 0;clear hx7 hown7 hgrow7 hor7)
       obtain⟨W8,hW8⟩:∃ W8,W8=w7.setCell ⟨w.heap.size+1+1,0,none⟩ (.slice (some ⟨g7,0,none⟩) (SK.length+1) cap7):=⟨_,rfl⟩
       have G7:Gr (W4.alloc (.cells #[.int .i64 c1,.int .i64 c2,.int .i64 vv,.slice la ln lc,.int .i64 hg,.bool true] 103)) w7 (fun q=>sv.ownBlock=some q):=(Gr.refl _ _).grown (Za HG7) (fun q e=>.inl e)
       have OR7:=G7.own (Za OR5) (fun q e=>(Za HS).apart q e)
       have G8:Gr w7 W8 (fun q=>q=w.heap.size+1+1):=by rw[hW8];exact (Gr.refl w7 (fun q=>q=w.heap.size+1+1)).set (p:=⟨w.heap.size+1+1,0,none⟩) (.inl rfl) _
       have OR8:=Zb (G8.own OR7 (fun q e e2=>Yy OR7 (Za HX7) (by decide) (by rw[←e2];exact e)))
       have OS8:=Zb (G8.own (Za HO7) (fun q e e2=>Yy (Za HO7) (Za HX7) (by decide) (by rw[←e2];exact e)))
       have BX8:Hid (W8.heap[w.heap.size+1+1]? = some (.cells #[.slice (some ⟨g7,0,none⟩) (SK.length+1) cap7] 130 (0,0))):=by show _=_;rw[hW8];exact Ur (Za HX7)
       have GY8:Hid (Gr Y W8 (fun q=>q=w.heap.size+1+1)):=by
        have e1:=(((Za HS).gr.on (Za HB5)).grown (Za HG7) (fun q e=>.inr (Yk (Za OWN5) q e)))
        show Gr _ _ _
        rw[hW8]
        exact e1.set (p:=⟨w.heap.size+1+1,0,none⟩) (.inl rfl) _
       have GW8:Hid (g<W8.heap.size):=(Za OR8).lt g rfl |>.2
       have hKr:K.length≤rc:=hso.1
       rw[←hW8]
       clear hW8 G7 OR7 G8 OWN5 OR5 OR4 NEWS HX7 HO7 yy0 yyl yyf u0 ul v0 v1 v2 v3 v4 v5 vl
       have HR0:=Zb (Zi W8)
       have hjr:j≤rc:=by omega
       have hwj:IntKind.i64.wrap ((j:Int)+1)=((j+1:Nat):Int):=by have:=Za HLN;rw[IntKind.wrap_i64];omega
       have hj1:j+1≤K.length:=by omega
       have hj1r:j+1≤rc:=by omega
       obtain⟨ya,hya,hyb⟩:∃ ya:Addr,(if rc=j+1 then some (⟨g,0,none⟩:Addr) else some ⟨g,(j+1)*6,none⟩)=some ya∧(rc≠j+1→ya=⟨g,(j+1)*6,none⟩):=by
        by_cases e:rc=j+1
        ·exact⟨⟨g,0,none⟩,if_pos e,fun q=>absurd e q⟩
        ·exact⟨⟨g,(j+1)*6,none⟩,if_neg e,fun _=>rfl⟩
       have HYA:=Zb hya
       have HYB:=Zb hyb
       clear hya hyb
       refine wp_region_held_drew (S:=fun W=>Below W8.heap.size W8 W) (by kernel_rfl) (Zi _) (fun Zic=>?_)
       refine Zt 0 ⟨some 115,.move (.tmp 14),29, "second.go:99",#[],none⟩ ?_ rfl ?_ Zic ?_
       rotate_left
       ·(intro W hSw;(try dsimp only at hSw);go_simp;first|done|with_reducible rfl)
       (try simp only[Act.put,ZA,ZB,ZC])
       refine Zt 1 ⟨some 116,.move (.tmp 17),3, "second.go:99",#[],none⟩ ?_ rfl ?_ Zic ?_
       rotate_left
       ·(intro W hSw;(try dsimp only at hSw);go_simp;first|done|with_reducible rfl)
       (try simp only[Act.put,ZA,ZB,ZC])
       refine Zt 2 ⟨some 117,.slice 29 (.tmp 115) none (some (.tmp 116)) none,29, "second.go:99",#[⟨0,.data⟩,⟨1,.data⟩],none⟩ (.slice (some ⟨g,0,none⟩) j rc) rfl ?_ Zic ?_
       ·(intro W hSw;(try dsimp only at hSw);go_simp;first|done|rw[if_pos hjr])
       (try simp only[Act.put,ZA,ZB,ZC])
       refine Zt 3 ⟨some 118,.move (.tmp 14),29, "second.go:99",#[],none⟩ ?_ rfl ?_ Zic ?_
       rotate_left
       ·(intro W hSw;(try dsimp only at hSw);go_simp;first|done|with_reducible rfl)
       (try simp only[Act.put,ZA,ZB,ZC])
       refine Zt 4 ⟨some 119,.move (.tmp 17),3, "second.go:99",#[],none⟩ ?_ rfl ?_ Zic ?_
       rotate_left
       ·(intro W hSw;(try dsimp only at hSw);go_simp;first|done|with_reducible rfl)
       (try simp only[Act.put,ZA,ZB,ZC])
       refine Zt 5 ⟨some 120,.binOp BinOp.add 3 (.tmp 119) (.const (Value.int IntKind.i64 1)) 3,3, "second.go:99",#[⟨4,.data⟩],none⟩ ?_ rfl ?_ Zic ?_
       rotate_left
       ·(intro W hSw;(try dsimp only at hSw);go_simp;first|done|with_reducible rfl)
       (try simp only[Act.put,ZA,ZB,ZC])
       refine Zt 6 ⟨some 121,.slice 29 (.tmp 118) (some (.tmp 120)) none none,29, "second.go:99",#[⟨3,.data⟩,⟨5,.data⟩],none⟩ (.slice (some ya) (K.length - (j+1)) (rc - (j+1))) rfl ?_ Zic ?_
       ·(intro W hSw;(try dsimp only at hSw);go_simp;rw[if_pos ⟨by omega,by omega⟩,Za HYA])
       (try simp only[Act.put,ZA,ZB,ZC])
       obtain⟨W9,hW9⟩:∃ W9,W9=(W8.alloc (.cells #[.slice (some ⟨g,0,none⟩) j rc,.slice (some ya) (K.length - (j+1)) (rc - (j+1))] 29)).drew:=⟨_,rfl⟩
       have hb9:Below W8.heap.size W8 W9:=by rw[hW9];exact Ze (Zf W8 _) (Zi _)
       have pr:W9.heap[W8.heap.size]? = some (.cells [.slice (some ⟨g,0,none⟩) j rc,.slice (some ya) (K.length - (j+1)) (rc - (j+1))].toArray 29 (0,0)):=by rw[hW9];exact heap_alloc_new _ _
       have OR9:=(Gr.of (S:=fun _=>False) hb9).own (Za OR8) (fun _ _ q=>q)
       obtain⟨cl1,cl2⟩:=Ps OR9 j rc hj1 hKr ya (Za HYB)
       have CC:=Zb (Pk W8.heap.size ⟨g,0,none⟩ ya j rc (K.length - (j+1)) (rc - (j+1)) (K.take j) (K.drop (j+1)) W9 (by have:=Za HLN;omega) (by rw[List.length_take];omega) (by rw[List.length_drop]) cl1 cl2 (Zd pr 0 _ rfl) (Zd pr 1 _ rfl))
       have HB9:=Zb hb9
       clear cl1 cl2 OR9 pr hb9
       refine wpAnyH_ready (rs:=[7]) (by kernel_rfl) (by simp) ?_
       refine AllReadyH.cons (o:=⟨some 122,.buildSlice 230 2 #[(0,.tmp 117),(1,.tmp 121)],230, "second.go:99",#[⟨2,.data⟩,⟨6,.data⟩],none⟩) rfl (fun K0 hK=>?_) AllReadyH.nil
       go_simp
       (first|rw[←hW9]|(rw[show (W8.drew).alloc (.cells #[.slice (some ⟨g,0,none⟩) j rc,.slice (some ya) (K.length - (j+1)) (rc - (j+1))] 29)=W9 from hW9.symm]))
       refine hK.out _ _ (Za HB9) (fun Zid=>?_)
       clear hK K0 Zic hW9
       have Zic:=Zid
       clear Zid
       (try simp only[Act.put,ZA,ZB,ZC])
       refine wpAnyH_ready (rs:=[8]) (by kernel_rfl) (by simp) ?_
       refine AllReadyH.cons (o:=⟨some 123,.call { callee:=Callee.value (.func 112),args:=#[.tmp 122],argTypes:=#[230] },29, "second.go:99",#[⟨7,.data⟩],none⟩) rfl (fun K0 hK=>?_) AllReadyH.nil
       refine Yf (by kernel_rfl) 112 #[.slice (some ⟨W8.heap.size,0,none⟩) 2 2] (by kernel_rfl) (Za CC) ?_
       rintro e W10 ⟨v10,rfl,ho10,hb10⟩
       refine⟨_,rfl,?_⟩
       have HB10:=Zb (Ze (Za HB9) hb10)
       have HO10:=Zb ho10
       have S9:=(Za HB9).size
       clear CC ho10 hb10
       refine hK.out _ _ (Za HB10) (fun Zid=>?_)
       clear hK K0 Zic
       have Zic:=Zid
       clear Zid
       (try simp only[Act.put,ZA,ZB,ZC])
       refine Zt 9 ⟨some 14,.assign (.tmp 123),29, "second.go:99",#[⟨8,.data⟩,⟨8,.chain⟩,⟨0,.phase⟩,⟨1,.phase⟩,⟨2,.phase⟩,⟨3,.phase⟩,⟨4,.phase⟩,⟨5,.phase⟩,⟨6,.phase⟩,⟨7,.phase⟩,⟨8,.phase⟩],none⟩ ?_ rfl ?_ Zic ?_
       rotate_left
       ·(intro W hSw;(try dsimp only at hSw);go_simp;first|done|with_reducible rfl)
       (try simp only[Act.put,ZA,ZB,ZC])
       refine wpAnyH_done (by kernel_rfl) ?_ _
       clear Zic HR0
       have hmp:∀ (A:List CV),(A.take j++A.drop (j+1)).map (·.1)=(A.map (·.1)).take j++(A.map (·.1)).drop (j+1):=fun A=>by rw[List.map_append,List.map_take,List.map_drop]
       have hnl:(K.take j++K.drop (j+1)).length=j+(K.length - (j+1)):=by rw[List.length_append,List.length_take,List.length_drop];omega
       have AS:Hid (ApS w Y (w.heap.size+1+1) W10 v10 (.slice (some ⟨g7,0,none⟩) (SK.length+1) cap7) (K.take j++K.drop (j+1)) (SK++[(((c1,c2,vv,lk,hg,true):Zg),la,ln,lc)])):=by
        have hs8:=(Gr.of (S:=fun _=>False) (Za HB10)).own (Za OS8) (fun _ _ q=>q)
        refine⟨?_,((Za HB10).block _ (lt_of_block (Za BX8))).trans (Za BX8),?_,fun x hx=>?_,?_,(Za GY8).on (Za HB10),fun b e e2=>?_⟩
        ·rw[hnl]
         exact Vp (Za HO10) (Nat.le_trans (Za GY8).size S9)
        ·rw[List.length_append,Zu]
         exact hs8
        ·rcases hx with hx|hx
         ·rcases List.mem_append.1 hx with hx|hx
          ·exact (Za HS).lks x (.inl (List.mem_of_mem_take hx))
          ·exact (Za HS).lks x (.inl (List.mem_of_mem_drop hx))
         ·rcases List.mem_append.1 hx with hx|hx
          ·exact (Za HS).lks x (.inr hx)
          ·rw[List.mem_singleton.1 hx];exact Za HCK
        ·rw[hmp];exact Tx (Za TK) (Za HS).srt
        ·have q1:=Yk (Za HO10) b e
         have q2:=((Za OS8).lt g7 rfl).2
         have q3:g7=b:=by injection e2
         omega
       have HE2:Hid (Zm ht (I.drop (k+1)) ((SK++[(((c1,c2,vv,lk,hg,true):Zg),la,ln,lc)]).map (·.1)) ((K.take j++K.drop (j+1)).map (·.1))=(x2,S2,M2)):=by
        have e:=(Za SO) _ _ (by rw[hq];exact Za TK) (Za NL) (by rw[hq];exact Za HOP)
        rw[Za HE] at e
        show _=_
        rw[hmp,List.map_append]
        exact e.symm
       have L2:Hid ((SK++[(((c1,c2,vv,lk,hg,true):Zg),la,ln,lc)]).length=k+1):=by show _=_;rw[List.length_append,Za HKK];rfl
       have L3:Hid ((K.take j++K.drop (j+1)).length≤720):=by show _≤_;rw[hnl];have:=Za HLN;omega
       clear hmp hnl
       go_wp2
       go_roundw
       case rel=>first|exact⟨k+1,_,_,_,by omega,by go_num,L2,L3,AS,HE2⟩|((repeat apply Exists.intro);refine⟨?_,rfl⟩;exact⟨k+1,_,_,_,by omega,by go_num,L2,L3,AS,HE2⟩)
       case measure=>simp[intOf];omega
    | false=>
     have NL:Hid (¬(cr ((c1,c2,vv,lk,hg,false):Zg)=true∧ht<ch ((c1,c2,vv,lk,hg,false):Zg)+2)):=fun q=>Bool.noConfusion q.1
     have OB:∃ ob,Wx lk pk ht=ob:=⟨_,rfl⟩
     obtain⟨ob,hob⟩:=OB
     have C5:=Zb (G4 la ka ln lc kn kc lk pk ht W3 (Za LO) (Za KO) hcl hqc (Za HHT))
     rw[hob] at C5
     have HOP:Hid (Yw lk pk ht=ob):=by show _=_;rw[←Sy hcl hqc (Za HHT)];exact hob
     clear hob
     have q1:=Zd (Za CB) 1 _ rfl
     have q2:=Zd (Za CB) 2 _ rfl
     have q3:=Zd (Za CB) 3 _ rfl
     have q4:=Zd (Za CB) 4 _ rfl
     have q5:=Zd (Za CB) 5 _ rfl
     have q0:=Zd (Za CB) 0 _ rfl
     have ql:=lt_of_block (Za CB)
     have r2:=Zd (Za IB3) 2 _ rfl
     have r0:=Zd (Za IB3) 0 _ rfl
     have rl:=lt_of_block (Za IB3)
     have s2:=Zd (Za IB) 2 _ rfl
     have sl:=lt_of_block (Za IB)
     go_wp2_with fail
     rw[←hW3]
     go_wp2_with fail
     refine (Za C5).mono ?_
     rintro e W4 ⟨rfl,hb4⟩
     have HB4:=Zb (Ze (Za HB3) hb4)
     have HBW4:=Zb (Ze (Za HBW3) hb4)
     have BU4:=Zb ((hb4.block _ (lt_of_block (Za BU3))).trans (Za BU3))
     have CB4:=Zb ((hb4.block _ (lt_of_block (Za CB))).trans (Za CB))
     clear hb4 C5 q0 q1 q2 q3 q4 q5 ql r0 r2 rl s2 sl m0 m1 m2 m3 m4 m5 LO KO
     cases ob with
     | false=>
      have HEE:Hid ((x,M,S)=((8:Int),([]:List Zg),([]:List Zg))∧w.heap.size≤w.heap.size+1):=by
       have e:=(Za SY) _ _ (by rw[hq];exact Za TK) (Za NL) (by rw[hq];exact Za HOP)
       rw[Za HE] at e
       obtain⟨rfl,_⟩:=Prod.mk.inj e
       exact⟨(Za HX).symm.trans (if_pos (by decide)),Nat.le_succ _⟩
      clear HE SN SL SY SO HX TK
      have CF:=Zb (Yj 8 W4)
      go_wp2_with fail
      refine (Za CF).mono ?_
      rintro e wf ⟨rfl,hbf⟩
      have BUF:=Zb ((hbf.block _ (lt_of_block (Za BU4))).trans (Za BU4))
      have HBF:=Zb (Ze (Za HBW4) hbf)
      have uuc:=Zd (Za BUF) 0 _ rfl
      have uuf:=Zh (Za BUF) 0
      have uul:=lt_of_block (Za BUF)
      clear hbf CF
      go_wp2
      (try simp only[Exit.inBlock,Exit.then])
      refine bodyPost_ret (v:=.tuple #[.slice none 0 0,.agg #[.slice none 0 0],.int .i64 8]) ?_ rfl ?_
      ·rw[Zq rfl]
       go_simp
      ·exact (Xl (Za HEE) (Za HBF)).plain
     | true=>
      have BX4:=Zb (((Za HB4).block _ (lt_of_block (Za HS).box)).trans (Za HS).box)
      have OS4:=(Gr.of (S:=fun _=>False) (Za HB4)).own (Za HS).spent (fun _ _ q=>q)
      have OR4:=Zb ((Gr.of (S:=fun _=>False) (Za HB4)).own (Za HS).rest (fun _ _ q=>q))
      have hbn:=Zf W4 (.cells #[.int .i64 c1,.int .i64 c2,.int .i64 vv,.slice la ln lc,.int .i64 hg,.bool false] 103)
      have OWN5:=Zb ((Gr.of (S:=fun _=>False) hbn).own OS4 (fun _ _ q=>q))
      have OR5:=Zb ((Gr.of (S:=fun _=>False) hbn).own (Za OR4) (fun _ _ q=>q))
      have BX5:=Zb ((hbn.block _ (lt_of_block (Za BX4))).trans (Za BX4))
      have NEWS:=Zb (World.news_of_block (heap_alloc_new W4 (.cells #[.int .i64 c1,.int .i64 c2,.int .i64 vv,.slice la ln lc,.int .i64 hg,.bool false] 103)))
      have HB5:=Zb (Ze (Za HB4) hbn)
      have YS:Y.heap.size≤(W4.alloc (.cells #[.int .i64 c1,.int .i64 c2,.int .i64 vv,.slice la ln lc,.int .i64 hg,.bool false] 103)).heap.size:=Nat.le_trans (Za HS).gr.size (Nat.le_trans (Za HB4).size hbn.size)
      have SKL:SK.length≤6:=by have:=Za HKK;omega
      obtain⟨i0,hi,hz0,hz1,hz2⟩:=info_parts Tryz.infoCoin
      have u0:=Zd (Za BX4) 0 _ rfl
      have ul:=lt_of_block (Za BX4)
      have v0:=Zd (Za CB4) 0 _ rfl
      have v1:=Zd (Za CB4) 1 _ rfl
      have v2:=Zd (Za CB4) 2 _ rfl
      have v3:=Zd (Za CB4) 3 _ rfl
      have v4:=Zd (Za CB4) 4 _ rfl
      have v5:=Zd (Za CB4) 5 _ rfl
      have vl:=lt_of_block (Za CB4)
      clear hbn OS4
      go_wp2_with (at_builtin;refine wpList_append_lies _ rfl _ _ 29 rfl Y.heap.size 103 i0 zeroC 6 64 Tryz.underlying29 hi hz0 hz1 hz2 rfl (by decide) _ _ _ rfl (Za OWN5) ⟨W4.heap.size,0,none⟩ 1 1 [.int .i64 c1,.int .i64 c2,.int .i64 vv,.slice la ln lc,.int .i64 hg,.bool false] rfl rfl (Za NEWS) (fun u hu=>by simp at hu;rcases hu with rfl|rfl|rfl|rfl|rfl|rfl <;> rfl) (by decide) (by unfold maxLen;omega) (by omega) YS _ rfl ?_;intro g7 cap7 w7 hown7 hgrow7 hor7 _;have hx7:=(hgrow7.block (w.heap.size+1+1) (lt_of_block (Za BX5)) (fun e=>Yy (Za OWN5) (Za BX5) (by decide) e.symm)).trans (Za BX5);have HX7:=Zb hx7;have HO7:=Zb hown7;have HG7:=Zb hgrow7;have yy0:=Zd hx7 0 _ rfl;have yyl:=lt_of_block hx7;have yyf:=Zh hx7 0;clear hx7 hown7 hgrow7 hor7)
      obtain⟨W8,hW8⟩:∃ W8,W8=w7.setCell ⟨w.heap.size+1+1,0,none⟩ (.slice (some ⟨g7,0,none⟩) (SK.length+1) cap7):=⟨_,rfl⟩
      have G7:Gr (W4.alloc (.cells #[.int .i64 c1,.int .i64 c2,.int .i64 vv,.slice la ln lc,.int .i64 hg,.bool false] 103)) w7 (fun q=>sv.ownBlock=some q):=(Gr.refl _ _).grown (Za HG7) (fun q e=>.inl e)
      have OR7:=G7.own (Za OR5) (fun q e=>(Za HS).apart q e)
      have G8:Gr w7 W8 (fun q=>q=w.heap.size+1+1):=by rw[hW8];exact (Gr.refl w7 (fun q=>q=w.heap.size+1+1)).set (p:=⟨w.heap.size+1+1,0,none⟩) (.inl rfl) _
      have OR8:=Zb (G8.own OR7 (fun q e e2=>Yy OR7 (Za HX7) (by decide) (by rw[←e2];exact e)))
      have OS8:=Zb (G8.own (Za HO7) (fun q e e2=>Yy (Za HO7) (Za HX7) (by decide) (by rw[←e2];exact e)))
      have BX8:Hid (W8.heap[w.heap.size+1+1]? = some (.cells #[.slice (some ⟨g7,0,none⟩) (SK.length+1) cap7] 130 (0,0))):=by show _=_;rw[hW8];exact Ur (Za HX7)
      have GY8:Hid (Gr Y W8 (fun q=>q=w.heap.size+1+1)):=by
       have e1:=(((Za HS).gr.on (Za HB5)).grown (Za HG7) (fun q e=>.inr (Yk (Za OWN5) q e)))
       show Gr _ _ _
       rw[hW8]
       exact e1.set (p:=⟨w.heap.size+1+1,0,none⟩) (.inl rfl) _
      have GW8:Hid (g<W8.heap.size):=(Za OR8).lt g rfl |>.2
      have hKr:K.length≤rc:=hso.1
      rw[←hW8]
      clear hW8 G7 OR7 G8 OWN5 OR5 OR4 NEWS HX7 HO7 yy0 yyl yyf u0 ul v0 v1 v2 v3 v4 v5 vl
      have HR0:=Zb (Zi W8)
      have hjr:j≤rc:=by omega
      have hwj:IntKind.i64.wrap ((j:Int)+1)=((j+1:Nat):Int):=by have:=Za HLN;rw[IntKind.wrap_i64];omega
      have hj1:j+1≤K.length:=by omega
      have hj1r:j+1≤rc:=by omega
      obtain⟨ya,hya,hyb⟩:∃ ya:Addr,(if rc=j+1 then some (⟨g,0,none⟩:Addr) else some ⟨g,(j+1)*6,none⟩)=some ya∧(rc≠j+1→ya=⟨g,(j+1)*6,none⟩):=by
       by_cases e:rc=j+1
       ·exact⟨⟨g,0,none⟩,if_pos e,fun q=>absurd e q⟩
       ·exact⟨⟨g,(j+1)*6,none⟩,if_neg e,fun _=>rfl⟩
      have HYA:=Zb hya
      have HYB:=Zb hyb
      clear hya hyb
      refine wp_region_held_drew (S:=fun W=>Below W8.heap.size W8 W) (by kernel_rfl) (Zi _) (fun Zic=>?_)
      refine Zt 0 ⟨some 115,.move (.tmp 14),29, "second.go:99",#[],none⟩ ?_ rfl ?_ Zic ?_
      rotate_left
      ·(intro W hSw;(try dsimp only at hSw);go_simp;first|done|with_reducible rfl)
      (try simp only[Act.put,ZA,ZB,ZC])
      refine Zt 1 ⟨some 116,.move (.tmp 17),3, "second.go:99",#[],none⟩ ?_ rfl ?_ Zic ?_
      rotate_left
      ·(intro W hSw;(try dsimp only at hSw);go_simp;first|done|with_reducible rfl)
      (try simp only[Act.put,ZA,ZB,ZC])
      refine Zt 2 ⟨some 117,.slice 29 (.tmp 115) none (some (.tmp 116)) none,29, "second.go:99",#[⟨0,.data⟩,⟨1,.data⟩],none⟩ (.slice (some ⟨g,0,none⟩) j rc) rfl ?_ Zic ?_
      ·(intro W hSw;(try dsimp only at hSw);go_simp;first|done|rw[if_pos hjr])
      (try simp only[Act.put,ZA,ZB,ZC])
      refine Zt 3 ⟨some 118,.move (.tmp 14),29, "second.go:99",#[],none⟩ ?_ rfl ?_ Zic ?_
      rotate_left
      ·(intro W hSw;(try dsimp only at hSw);go_simp;first|done|with_reducible rfl)
      (try simp only[Act.put,ZA,ZB,ZC])
      refine Zt 4 ⟨some 119,.move (.tmp 17),3, "second.go:99",#[],none⟩ ?_ rfl ?_ Zic ?_
      rotate_left
      ·(intro W hSw;(try dsimp only at hSw);go_simp;first|done|with_reducible rfl)
      (try simp only[Act.put,ZA,ZB,ZC])
      refine Zt 5 ⟨some 120,.binOp BinOp.add 3 (.tmp 119) (.const (Value.int IntKind.i64 1)) 3,3, "second.go:99",#[⟨4,.data⟩],none⟩ ?_ rfl ?_ Zic ?_
      rotate_left
      ·(intro W hSw;(try dsimp only at hSw);go_simp;first|done|with_reducible rfl)
      (try simp only[Act.put,ZA,ZB,ZC])
      refine Zt 6 ⟨some 121,.slice 29 (.tmp 118) (some (.tmp 120)) none none,29, "second.go:99",#[⟨3,.data⟩,⟨5,.data⟩],none⟩ (.slice (some ya) (K.length - (j+1)) (rc - (j+1))) rfl ?_ Zic ?_
      ·(intro W hSw;(try dsimp only at hSw);go_simp;rw[if_pos ⟨by omega,by omega⟩,Za HYA])
      (try simp only[Act.put,ZA,ZB,ZC])
      obtain⟨W9,hW9⟩:∃ W9,W9=(W8.alloc (.cells #[.slice (some ⟨g,0,none⟩) j rc,.slice (some ya) (K.length - (j+1)) (rc - (j+1))] 29)).drew:=⟨_,rfl⟩
      have hb9:Below W8.heap.size W8 W9:=by rw[hW9];exact Ze (Zf W8 _) (Zi _)
      have pr:W9.heap[W8.heap.size]? = some (.cells [.slice (some ⟨g,0,none⟩) j rc,.slice (some ya) (K.length - (j+1)) (rc - (j+1))].toArray 29 (0,0)):=by rw[hW9];exact heap_alloc_new _ _
      have OR9:=(Gr.of (S:=fun _=>False) hb9).own (Za OR8) (fun _ _ q=>q)
      obtain⟨cl1,cl2⟩:=Ps OR9 j rc hj1 hKr ya (Za HYB)
      have CC:=Zb (Pk W8.heap.size ⟨g,0,none⟩ ya j rc (K.length - (j+1)) (rc - (j+1)) (K.take j) (K.drop (j+1)) W9 (by have:=Za HLN;omega) (by rw[List.length_take];omega) (by rw[List.length_drop]) cl1 cl2 (Zd pr 0 _ rfl) (Zd pr 1 _ rfl))
      have HB9:=Zb hb9
      clear cl1 cl2 OR9 pr hb9
      refine wpAnyH_ready (rs:=[7]) (by kernel_rfl) (by simp) ?_
      refine AllReadyH.cons (o:=⟨some 122,.buildSlice 230 2 #[(0,.tmp 117),(1,.tmp 121)],230, "second.go:99",#[⟨2,.data⟩,⟨6,.data⟩],none⟩) rfl (fun K0 hK=>?_) AllReadyH.nil
      go_simp
      (first|rw[←hW9]|(rw[show (W8.drew).alloc (.cells #[.slice (some ⟨g,0,none⟩) j rc,.slice (some ya) (K.length - (j+1)) (rc - (j+1))] 29)=W9 from hW9.symm]))
      refine hK.out _ _ (Za HB9) (fun Zid=>?_)
      clear hK K0 Zic hW9
      have Zic:=Zid
      clear Zid
      (try simp only[Act.put,ZA,ZB,ZC])
      refine wpAnyH_ready (rs:=[8]) (by kernel_rfl) (by simp) ?_
      refine AllReadyH.cons (o:=⟨some 123,.call { callee:=Callee.value (.func 112),args:=#[.tmp 122],argTypes:=#[230] },29, "second.go:99",#[⟨7,.data⟩],none⟩) rfl (fun K0 hK=>?_) AllReadyH.nil
      refine Yf (by kernel_rfl) 112 #[.slice (some ⟨W8.heap.size,0,none⟩) 2 2] (by kernel_rfl) (Za CC) ?_
      rintro e W10 ⟨v10,rfl,ho10,hb10⟩
      refine⟨_,rfl,?_⟩
      have HB10:=Zb (Ze (Za HB9) hb10)
      have HO10:=Zb ho10
      have S9:=(Za HB9).size
      clear CC ho10 hb10
      refine hK.out _ _ (Za HB10) (fun Zid=>?_)
      clear hK K0 Zic
      have Zic:=Zid
      clear Zid
      (try simp only[Act.put,ZA,ZB,ZC])
      refine Zt 9 ⟨some 14,.assign (.tmp 123),29, "second.go:99",#[⟨8,.data⟩,⟨8,.chain⟩,⟨0,.phase⟩,⟨1,.phase⟩,⟨2,.phase⟩,⟨3,.phase⟩,⟨4,.phase⟩,⟨5,.phase⟩,⟨6,.phase⟩,⟨7,.phase⟩,⟨8,.phase⟩],none⟩ ?_ rfl ?_ Zic ?_
      rotate_left
      ·(intro W hSw;(try dsimp only at hSw);go_simp;first|done|with_reducible rfl)
      (try simp only[Act.put,ZA,ZB,ZC])
      refine wpAnyH_done (by kernel_rfl) ?_ _
      clear Zic HR0
      have hmp:∀ (A:List CV),(A.take j++A.drop (j+1)).map (·.1)=(A.map (·.1)).take j++(A.map (·.1)).drop (j+1):=fun A=>by rw[List.map_append,List.map_take,List.map_drop]
      have hnl:(K.take j++K.drop (j+1)).length=j+(K.length - (j+1)):=by rw[List.length_append,List.length_take,List.length_drop];omega
      have AS:Hid (ApS w Y (w.heap.size+1+1) W10 v10 (.slice (some ⟨g7,0,none⟩) (SK.length+1) cap7) (K.take j++K.drop (j+1)) (SK++[(((c1,c2,vv,lk,hg,false):Zg),la,ln,lc)])):=by
       have hs8:=(Gr.of (S:=fun _=>False) (Za HB10)).own (Za OS8) (fun _ _ q=>q)
       refine⟨?_,((Za HB10).block _ (lt_of_block (Za BX8))).trans (Za BX8),?_,fun x hx=>?_,?_,(Za GY8).on (Za HB10),fun b e e2=>?_⟩
       ·rw[hnl]
        exact Vp (Za HO10) (Nat.le_trans (Za GY8).size S9)
       ·rw[List.length_append,Zu]
        exact hs8
       ·rcases hx with hx|hx
        ·rcases List.mem_append.1 hx with hx|hx
         ·exact (Za HS).lks x (.inl (List.mem_of_mem_take hx))
         ·exact (Za HS).lks x (.inl (List.mem_of_mem_drop hx))
        ·rcases List.mem_append.1 hx with hx|hx
         ·exact (Za HS).lks x (.inr hx)
         ·rw[List.mem_singleton.1 hx];exact Za HCK
       ·rw[hmp];exact Tx (Za TK) (Za HS).srt
       ·have q1:=Yk (Za HO10) b e
        have q2:=((Za OS8).lt g7 rfl).2
        have q3:g7=b:=by injection e2
        omega
      have HE2:Hid (Zm ht (I.drop (k+1)) ((SK++[(((c1,c2,vv,lk,hg,false):Zg),la,ln,lc)]).map (·.1)) ((K.take j++K.drop (j+1)).map (·.1))=(x2,S2,M2)):=by
       have e:=(Za SO) _ _ (by rw[hq];exact Za TK) (Za NL) (by rw[hq];exact Za HOP)
       rw[Za HE] at e
       show _=_
       rw[hmp,List.map_append]
       exact e.symm
      have L2:Hid ((SK++[(((c1,c2,vv,lk,hg,false):Zg),la,ln,lc)]).length=k+1):=by show _=_;rw[List.length_append,Za HKK];rfl
      have L3:Hid ((K.take j++K.drop (j+1)).length≤720):=by show _≤_;rw[hnl];have:=Za HLN;omega
      clear hmp hnl
      go_wp2
      go_roundw
      case rel=>first|exact⟨k+1,_,_,_,by omega,by go_num,L2,L3,AS,HE2⟩|((repeat apply Exists.intro);refine⟨?_,rfl⟩;exact⟨k+1,_,_,_,by omega,by go_num,L2,L3,AS,HE2⟩)
      case measure=>simp[intOf];omega
  ·obtain rfl:k=ni:=by omega
   have e:=Za HE
   rw[Sq ht I k (by rw[Za HZI];exact Nat.le_refl _)] at e
   obtain⟨e0,e2⟩:=Prod.mk.inj e
   obtain⟨e3,e4⟩:=Prod.mk.inj e2
   subst e0 e3 e4
   have HX2:=Za HX
   rw[if_neg (by decide)] at HX2
   have HXa:=Zb HX2
   clear HX HX2 e e2 HE
   have hls:∀ x∈SK,LkAt wr x:=fun x hx=>((Za HS).lks x (.inr hx)).1.later (Za HBW)
   obtain⟨sa,sc,rfl,hsc,hss⟩:=Z3 (Za HS).spent hls
   obtain⟨d,hd⟩:∃ d,Zp (SK.map (·.1)) - Xk O=d:=⟨_,rfl⟩
   have CFE:=Zb (Bx sa SK.length sc (SK.map (·.1)) h ai ao k ci no co O d wr (by have:=Za HKK;omega) hno hsc ((Za HO) wr hBX) (fun c hc=>by
    obtain⟨y,hy,rfl⟩:=List.mem_map.1 hc
    have q:=Yp ((Za HS).lks y (.inr hy)).2
    exact⟨by omega,by omega⟩) (Za HOB) hd)
   have t0:=Zd (Za BT) 0 _ rfl
   have t1:=Zd (Za BT) 1 _ rfl
   have t2:=Zd (Za BT) 2 _ rfl
   have tl:=lt_of_block (Za BT)
   have u0:=Zd (Za HS).box 0 _ rfl
   have ul:=lt_of_block (Za HS).box
   have HCS:=Zb hsc
   have HSS:=Zb hss
   clear hsc hss hls hlt
   have HCV:Hid (x3=if d<0 then 9 else 0):=by
    show _=_
    rw[←Za H3]
    unfold Pz
    simp only[hd,Za HRR,and_true]
   clear hd H3
   go_wp2_with fail
   refine (Za CFE).mono ?_
   rintro e w5 ⟨rfl,hb5⟩
   have HB5:=Zb hb5
   have HBW5:=Zb (Ze (Za HBW) hb5)
   have BU5:=Zb ((hb5.block _ (lt_of_block (Za BU))).trans (Za BU))
   have BT5:=Zb ((hb5.block _ (lt_of_block (Za BT))).trans (Za BT))
   clear hb5 CFE t0 t1 t2 tl u0 ul
   by_cases hneg:d<0
   ·have HEE:Hid ((x,M,S)=((9:Int),([]:List Zg),([]:List Zg))∧w.heap.size≤w.heap.size+1):=by
     have e:=Za HCV
     rw[if_pos hneg] at e
     subst e
     exact⟨(Za HXa).symm.trans (if_pos (by decide)),Nat.le_succ _⟩
    clear HCV HXa
    have CF:=Zb (Yj 9 w5)
    go_wp2_with fail
    refine (Za CF).mono ?_
    rintro e wf ⟨rfl,hbf⟩
    have BUF:=Zb ((hbf.block _ (lt_of_block (Za BU5))).trans (Za BU5))
    have HBF:=Zb (Ze (Za HBW5) hbf)
    have uuc:=Zd (Za BUF) 0 _ rfl
    have uuf:=Zh (Za BUF) 0
    have uul:=lt_of_block (Za BUF)
    clear hbf CF
    go_wp2
    (try simp only[Exit.inBlock,Exit.then])
    refine bodyPost_ret (v:=.tuple #[.slice none 0 0,.agg #[.slice none 0 0],.int .i64 9]) ?_ rfl ?_
    ·rw[Zq rfl]
     go_simp
    ·exact (Xl (Za HEE) (Za HBF)).plain
   ·have e:=Za HCV
    rw[if_neg hneg] at e
    subst e
    have HX2:=Za HXa
    rw[if_neg (by decide)] at HX2
    have HXb:=Zb HX2
    clear HXa HX2 HCV
    have t2:=Zd (Za BT5) 2 _ rfl
    have tl:=lt_of_block (Za BT5)
    go_wp2_with fail
    have hlr:∀ x∈K,LkAt wr x:=fun x hx=>((Za HS).lks x (.inl hx)).1.later (Za HBW)
    obtain⟨ra,rc,rfl,_,_⟩:=Z3 (Za HS).rest hlr
    have HA:Hid (A2 w w5 Y.heap.size w5 (.slice ra K.length rc) K):=⟨(Gr.of (S:=fun _=>False) (Za HB5)).own (Za HS).rest (fun _ _ q=>q),fun x hx=>((Za HS).lks x (.inl hx)).1,Below.refl _ _⟩
    have HP0:Hid ((K.map (·.1)).Perm (K.map (·.1))∧Srt (K.map (·.1))):=⟨List.Perm.refl _,(Za HS).srt⟩
    have HSP:=Zb ((Gr.of (S:=fun _=>False) (Za HB5)).own (Za HS).spent (fun _ _ q=>q))
    have HSX:=Zb (((Za HB5).block _ (lt_of_block (Za HS).box)).trans (Za HS).box)
    have HSL:Hid (∀ x∈SK,LkAt w x):=fun x hx=>((Za HS).lks x (.inr hx)).1
    have HG4:Hid (Z6 name ht false 0 (O.drop 0) (K.map (·.1))=(x4,M4)):=Za H4
    have HN0:Hid (K.length≤720+0):=Za HLN
    have hYL:w.heap.size+1+1+1≤w5.heap.size:=by rw[←hYs];exact Nat.le_trans (Za HS).gr.size (Za HB5).size
    clear hlr HS HB5 HBW HBX H4 HLN BU BT t2 tl
    go_loopw [14,142] (fun rv i wr=>∃ (j:Nat) (K2:List CV) (G:List Zg),j≤no∧i = .int .i64 j∧Hid (K2.length≤720+j)∧Hid (A2 w w5 Y.heap.size wr rv K2)∧Hid ((K2.map (·.1)).Perm G∧Srt G)∧Hid (Z6 name ht false j (O.drop j) G=(x4,M4))) (fun _ i _=>no - (intOf i).toNat)
    case atStart=>exact⟨0,K,K.map (·.1),Nat.zero_le _,rfl,HN0,HA,HP0,HG4⟩
    case round=>
     clear HA HP0 HG4 HN0
     obtain⟨j,K2,G,hj,rfl,HL2,HA2,HP,HGV⟩:=hrel
     have HWJ:=Zb (Ze (Za HBW5) (Za HA2).bel)
     have BUJ:=Zb (((Za HA2).bel.block _ (lt_of_block (Za BU5))).trans (Za BU5))
     have hlw:∀ x∈K2,LkAt wr x:=fun x hx=>((Za HA2).lks x hx).later (Za HWJ)
     obtain⟨ra,rc,rfl,hco,hso⟩:=Z3 (Za HA2).own hlw
     by_cases hlt:j<no
     ·have hlj:j<O.length:=by rw[Za HZO];exact hlt
      obtain⟨ob,oo,rfl,_,hoc⟩:=(Za HOW).2 (by omega)
      have hout:=hoc j hlj
      obtain⟨q,hq⟩:∃ q,O[j]=q:=⟨_,rfl⟩
      have GA:=Zb (fun L hf=>Si (name:=name) (h:=ht) (r:=false) hlj L hf)
      have GN:=Zb (fun L hf=>Sh (name:=name) (h:=ht) (r:=false) hlj L hf)
      rw[hq] at hout GA
      obtain⟨ov,okk⟩:=q
      obtain⟨g0,la,ln,lc,g1,lO,lS⟩:=hout
      simp only at g0 g1 lO
      have e0:=Zc (Za HWJ) g0
      have e1:=Zc (Za HWJ) g1
      have ol:=World.block_lt_of_cell? _ _ e0
      have LK:Hid (LkAt w (((name,(j:Int),ov,okk,ht,false):Zg),la,ln,lc)):=⟨lO,lS⟩
      obtain⟨W1,hW1⟩:∃ W1,W1=(wr.alloc (.cells #[.int .i64 ov,.slice la ln lc] 101)).alloc (.cells #[.int .i64 name,.int .i64 j] 99):=⟨_,rfl⟩
      have hb1:Below wr.heap.size wr W1:=by rw[hW1];exact Ze (Zf _ _) (Zf _ _)
      obtain⟨z,hz⟩:∃ z,plc (name,(j:Int)) (K2.map (·.1)) 0=z:=⟨_,rfl⟩
      have CP:=Zb (Rg ra K2.length rc (K2.map (·.1)) (name,(j:Int)) z W1 (by have:=Za HL2;omega) (hco.later hb1) hz)
      have p0:W1.heap[wr.heap.size+1]? = some (.cells [.int .i64 name,.int .i64 j].toArray 99 (0,0)):=by
       rw[hW1]
       have:=heap_alloc_new (wr.alloc (.cells #[.int .i64 ov,.slice la ln lc] 101)) (.cells #[.int .i64 name,.int .i64 j] 99)
       rw[show (wr.alloc (.cells #[.int .i64 ov,.slice la ln lc] 101)).heap.size=wr.heap.size+1 by simp] at this
       exact this
      have p1:W1.heap[wr.heap.size]? = some (.cells [.int .i64 ov,.slice la ln lc].toArray 101 (0,0)):=by
       rw[hW1,Below.heap_alloc _ _ _ (by simp)];exact heap_alloc_new _ _
      have pc0:=Zd p0 0 _ rfl
      have pc1:=Zd p0 1 _ rfl
      have pl:=lt_of_block p0
      have HB1:=Zb hb1
      have HP0:=Zb p0
      have HP1:=Zb p1
      clear hb1 hoc lO g0 g1 p0 p1 hco
      go_wp2_with fail
      rw[←hW1]
      (try go_wp2_with fail)
      refine (Za CP).mono ?_
      rintro e W2 ⟨rfl,hb2⟩
      have HB2:=Zb (Ze (Za HB1) hb2)
      have HW2:=Zb (Ze (Za HWJ) (Za HB2))
      have BU2:=Zb (((Za HB2).block _ (lt_of_block (Za BUJ))).trans (Za BUJ))
      have PB:=Zb ((hb2.block _ (lt_of_block (Za HP0))).trans (Za HP0))
      have OB:=Zb ((hb2.block _ (lt_of_block (Za HP1))).trans (Za HP1))
      clear hb2 CP hW1 HB1 HP0 HP1 pc0 pc1 pl e0 e1
      rcases Tb (name,(j:Int)) (K2.map (·.1)) 0 with ⟨hz1,hz2⟩|⟨i2,hi2,hz1,hz2,hz3⟩
      ·obtain rfl:z = -1:=hz.symm.trans hz1
       have HF:Hid (We (name,(j:Int)) G=false):=by show _=_;rw[←Jv (Za HP).1];exact hz2
       have OW2:=Zb ((Gr.of (S:=fun _=>False) (Za HB2)).own (Za HA2).own (fun _ _ q=>q))
       have KS:Hid (∀ W,Below W2.heap.size W2 W→SAo W2 wr.heap.size ov la ln lc name j W):=fun W hb=>⟨Zc hb (Zd (Za OB) 0 _ rfl),Zc hb (Zd (Za OB) 1 _ rfl),Zc hb (Zd (Za PB) 0 _ rfl),Zc hb (Zd (Za PB) 1 _ rfl),Nat.lt_of_lt_of_le (lt_of_block (Za PB)) hb.size,hb⟩
       obtain⟨i0,hi,hz0,zi1,zi2⟩:=info_parts Tryz.infoCoin
       clear hz hz1 hz2
       go_wp2_with fail
       refine wp_region_held_drew (S:=SAo W2 wr.heap.size ov la ln lc name j) (by kernel_rfl) ((Za KS) _ (Zi _)) (fun Zic=>?_)
       refine Zt 0 ⟨some 159,.move (.tmp 14),29, "second.go:109",#[],none⟩ ?_ rfl ?_ Zic ?_
       rotate_left
       ·(intro W hSw;obtain⟨sw0,sw1,sw2,sw3,sw4,_⟩:=hSw;go_simp;first|done|with_reducible rfl)
       (try simp only[Act.put,ZA,ZB,ZC])
       refine Zt 2 ⟨some 161,.load 99 (.tmp 21),99, "second.go:109",#[],none⟩ ?_ rfl ?_ Zic ?_
       rotate_left
       ·(intro W hSw;obtain⟨sw0,sw1,sw2,sw3,sw4,_⟩:=hSw;go_simp;first|done|with_reducible rfl)
       (try simp only[Act.put,ZA,ZB,ZC])
       refine Zt 3 ⟨some 162,.load 101 (.tmp 20),101, "second.go:109",#[],none⟩ ?_ rfl ?_ Zic ?_
       rotate_left
       ·(intro W hSw;obtain⟨sw0,sw1,sw2,sw3,sw4,_⟩:=hSw;go_simp;first|done|with_reducible rfl)
       (try simp only[Act.put,ZA,ZB,ZC])
       refine Zt 4 ⟨some 163,.move (.tmp 3),3, "second.go:109",#[],none⟩ ?_ rfl ?_ Zic ?_
       rotate_left
       ·(intro W hSw;obtain⟨sw0,sw1,sw2,sw3,sw4,_⟩:=hSw;go_simp;first|done|with_reducible rfl)
       (try simp only[Act.put,ZA,ZB,ZC])
       refine Zt 5 ⟨some 164,.move (.tmp 12),4, "second.go:109",#[],none⟩ ?_ rfl ?_ Zic ?_
       rotate_left
       ·(intro W hSw;obtain⟨sw0,sw1,sw2,sw3,sw4,_⟩:=hSw;go_simp;first|done|with_reducible rfl)
       (try simp only[Act.put,ZA,ZB,ZC])
       refine Zt 6 ⟨some 165,.build 103 #[(0,.tmp 161),(1,.tmp 162),(2,.tmp 163),(3,.tmp 164)],103, "second.go:109",#[⟨2,.data⟩,⟨3,.data⟩,⟨4,.data⟩,⟨5,.data⟩],none⟩ ?_ rfl ?_ Zic ?_
       rotate_left
       ·(intro W hSw;obtain⟨sw0,sw1,sw2,sw3,sw4,_⟩:=hSw;go_simp;first|done|with_reducible rfl)
       (try simp only[Act.put,ZA,ZB,ZC])
       refine wpAnyH_ready (rs:=[1,7]) (by kernel_rfl) (by simp) ?_
       refine AllReadyH.cons (o:=⟨some 160,.call { callee:=Callee.value (.func 88),args:=#[.tmp 159],argTypes:=#[29] },29, "second.go:109",#[⟨0,.data⟩],none⟩) rfl (fun K0 hK=>?_) (AllReadyH.cons (o:=⟨some 166,.buildSlice 29 1 #[(0,.tmp 165)],29, "second.go:109",#[⟨6,.data⟩],none⟩) rfl (fun K0 hK=>?_) AllReadyH.nil)
       ·refine Yf (by kernel_rfl) 88 #[.slice ra K2.length rc] (by kernel_rfl) (Wi (.slice ra K2.length rc) K2 W2.drew (by have:=Za HL2;omega) ((Gr.of (S:=fun _=>False) (Zi W2)).own (Za OW2) (fun _ _ q=>q))) ?_
        rintro e WA ⟨vz,rfl,hoA,hbA⟩
        refine⟨_,rfl,?_⟩
        have HBA:Hid (Below W2.heap.size W2 WA):=Ze (Zi W2) hbA
        have HOA:Hid (WA.ownsRow W2.heap.size 103 6 vz K2.length (Zj K2)):=hoA
        clear hoA hbA
        refine hK.out _ _ ((Za KS) _ (Za HBA)) (fun Zid=>?_)
        clear hK K0 Zic
        have Zic:=Zid
        clear Zid
        (try simp only[Act.put,ZA,ZB,ZC])
        refine wpAnyH_ready (rs:=[7]) (by kernel_rfl) (by simp) ?_
        refine AllReadyH.cons (o:=⟨some 166,.buildSlice 29 1 #[(0,.tmp 165)],29, "second.go:109",#[⟨6,.data⟩],none⟩) rfl (fun K0 hK=>?_) AllReadyH.nil
        go_simp
        obtain⟨WZ,hWZ⟩:∃ WZ,WZ=WA.alloc (.cells #[.int .i64 name,.int .i64 j,.int .i64 ov,.slice la ln lc,.int .i64 ht,.bool false] 103):=⟨_,rfl⟩
        rw[←hWZ]
        obtain⟨mz,hmz⟩:∃ mz,mz=WA.heap.size:=⟨_,rfl⟩
        have MZ:Hid (WZ.heap[mz]? = some (.cells #[.int .i64 name,.int .i64 j,.int .i64 ov,.slice la ln lc,.int .i64 ht,.bool false] 103 (0,0))):=by show _=_;rw[hWZ,hmz];exact heap_alloc_new _ _
        have hbz:Below WA.heap.size WA WZ:=by rw[hWZ];exact Zf _ _
        have OZ:=Zb ((Gr.of (S:=fun _=>False) hbz).own (Za HOA) (fun _ _ q=>q))
        have BZ:=Zb (Ze (Za HBA) hbz)
        rw[←hmz]
        clear hbz hWZ hmz HBA HOA
        refine hK.out _ _ ((Za KS) _ (Za BZ)) (fun Zid=>?_)
        clear hK K0 Zic
        have Zic:=Zid
        clear Zid
        (try simp only[Act.put,ZA,ZB,ZC])
        refine wpAnyH_ready (rs:=[8]) (by kernel_rfl) (by simp) ?_
        refine AllReadyH.cons (o:=⟨some 167,.call { callee:=Callee.builtin Builtin.append,args:=#[.tmp 160,.tmp 166],argTypes:=#[29,29] },29, "second.go:109",#[⟨1,.data⟩,⟨7,.data⟩,⟨1,.chain⟩],none⟩) rfl (fun K0 hK=>?_) AllReadyH.nil
        refine step_append_lies _ (by rfl) _ _ _ (by rfl) W2.heap.size 103 i0 zeroC 6 64 Tryz.underlying29 hi hz0 zi1 zi2 rfl (by decide) vz K2.length (Zj K2) (by rfl) (Za OZ) ⟨mz,0,none⟩ 1 1 [.int .i64 name,.int .i64 j,.int .i64 ov,.slice la ln lc,.int .i64 ht,.bool false] (by rfl) (by rfl) (World.news_of_block (cs:=#[.int .i64 name,.int .i64 j,.int .i64 ov,.slice la ln lc,.int .i64 ht,.bool false]) (Za MZ)) (fun u hu=>by simp at hu;rcases hu with rfl|rfl|rfl|rfl|rfl|rfl <;> rfl) (by decide) (by have:=Za HL2;unfold maxLen;omega) (by have:=Za HL2;omega) (Za BZ).size _ rfl ?_
        intro g8 cap8 w8 hown8 hgrow8 _ _
        have HB8:Hid (Below W2.heap.size W2 w8):=(Za BZ).grown hgrow8 (Za BZ).size (Yk (Za OZ))
        have HO8:=Zb hown8
        clear hown8 hgrow8 OZ MZ BZ
        refine hK.out _ _ ((Za KS) _ (Za HB8)) (fun Zid=>?_)
        clear hK K0 Zic
        have Zic:=Zid
        clear Zid
        (try simp only[Act.put,ZA,ZB,ZC])
        refine Zt 9 ⟨some 14,.assign (.tmp 167),29, "second.go:109",#[⟨8,.data⟩,⟨8,.chain⟩,⟨0,.phase⟩,⟨1,.phase⟩,⟨2,.phase⟩,⟨3,.phase⟩,⟨4,.phase⟩,⟨5,.phase⟩,⟨6,.phase⟩,⟨7,.phase⟩,⟨8,.phase⟩],none⟩ ?_ rfl ?_ Zic ?_
        rotate_left
        ·(intro W hSw;obtain⟨sw0,sw1,sw2,sw3,sw4,_⟩:=hSw;go_simp;first|done|with_reducible rfl)
        (try simp only[Act.put,ZA,ZB,ZC])
        refine wpAnyH_done (by kernel_rfl) ?_ _
        clear Zic KS
        have AS:Hid (A2 w w5 Y.heap.size w8 (.slice (some ⟨g8,0,none⟩) (K2.length+1) cap8) (K2++[(((name,(j:Int),ov,okk,ht,false):Zg),la,ln,lc)])):=by
         refine⟨?_,fun x hx=>?_,Ze (Ze (Za HA2).bel (Za HB2)) (Za HB8)⟩
         ·rw[List.length_append,Zu]
          exact Vp (Za HO8) (by have:=(Za HB2).size;have:=(Za HA2).bel.size;rw[hYs];omega)
         ·rcases List.mem_append.1 hx with hx|hx
          ·exact (Za HA2).lks x hx
          ·rw[List.mem_singleton.1 hx];exact Za LK
        have L3:Hid ((K2++[(((name,(j:Int),ov,okk,ht,false):Zg),la,ln,lc)]).length≤720+(j+1)):=by show _≤_;rw[List.length_append];have:=Za HL2;simp;omega
        have P3:Hid (((K2++[(((name,(j:Int),ov,okk,ht,false):Zg),la,ln,lc)]).map (·.1)).Perm (Vz (Qg name j (ov,okk) ht false) G)∧Srt (Vz (Qg name j (ov,okk) ht false) G)):=by
         refine⟨?_,U1 (Za HP).2⟩
         rw[List.map_append]
         exact Jq (Za HP).1 (Za HF)
        have E3:Hid (Z6 name ht false (j+1) (O.drop (j+1)) (Vz (Qg name j (ov,okk) ht false) G)=(x4,M4)):=((Za GA) G (Za HF)).symm.trans (Za HGV)
        clear GA GN HGV
        go_wp2
        go_roundw
        case rel=>first|exact⟨j+1,_,_,by omega,by go_num,L3,AS,P3,E3⟩|((repeat apply Exists.intro);refine⟨?_,rfl⟩;exact⟨j+1,_,_,by omega,by go_num,L3,AS,P3,E3⟩)
        case measure=>simp[intOf];omega
       ·go_simp
        obtain⟨WA,hWA⟩:∃ WA,WA=W2.drew.alloc (.cells #[.int .i64 name,.int .i64 j,.int .i64 ov,.slice la ln lc,.int .i64 ht,.bool false] 103):=⟨_,rfl⟩
        (first|rw[←hWA]|(rw[show (W2.alloc (.cells #[.int .i64 name,.int .i64 j,.int .i64 ov,.slice la ln lc,.int .i64 ht,.bool false] 103)).drew=WA from hWA.symm]))
        have hbA:Below W2.heap.size W2 WA:=by rw[hWA];exact Ze (Zi W2) (Zf _ _)
        obtain⟨mz,hmz⟩:∃ mz,mz=W2.heap.size:=⟨_,rfl⟩
        have ma:WA.heap[mz]? = some (.cells #[.int .i64 name,.int .i64 j,.int .i64 ov,.slice la ln lc,.int .i64 ht,.bool false] 103 (0,0)):=by rw[hWA,hmz];exact heap_alloc_new W2.drew _
        rw[←hmz]
        have OWA:=(Gr.of (S:=fun _=>False) hbA).own (Za OW2) (fun _ _ q=>q)
        have MA:=Zb ma
        have HBA:=Zb hbA
        clear hWA hmz ma hbA
        refine hK.out _ _ ((Za KS) _ (Za HBA)) (fun Zid=>?_)
        clear hK K0 Zic
        have Zic:=Zid
        clear Zid
        (try simp only[Act.put,ZA,ZB,ZC])
        refine wpAnyH_ready (rs:=[1]) (by kernel_rfl) (by simp) ?_
        refine AllReadyH.cons (o:=⟨some 160,.call { callee:=Callee.value (.func 88),args:=#[.tmp 159],argTypes:=#[29] },29, "second.go:109",#[⟨0,.data⟩],none⟩) rfl (fun K0 hK=>?_) AllReadyH.nil
        refine Yf (by kernel_rfl) 88 #[.slice ra K2.length rc] (by kernel_rfl) (Wi (.slice ra K2.length rc) K2 WA (by have:=Za HL2;omega) OWA) ?_
        rintro e WZ ⟨vz,rfl,hoz,hbz⟩
        refine⟨_,rfl,?_⟩
        have BZ:=Zb (Ze (Za HBA) hbz)
        have OZ:=Zb (Vp hoz (Za HBA).size)
        have MZ:=Zb ((hbz.block _ (lt_of_block (Za MA))).trans (Za MA))
        clear hoz hbz OWA MA HBA
        refine hK.out _ _ ((Za KS) _ (Za BZ)) (fun Zid=>?_)
        clear hK K0 Zic
        have Zic:=Zid
        clear Zid
        (try simp only[Act.put,ZA,ZB,ZC])
        refine wpAnyH_ready (rs:=[8]) (by kernel_rfl) (by simp) ?_
        refine AllReadyH.cons (o:=⟨some 167,.call { callee:=Callee.builtin Builtin.append,args:=#[.tmp 160,.tmp 166],argTypes:=#[29,29] },29, "second.go:109",#[⟨1,.data⟩,⟨7,.data⟩,⟨1,.chain⟩],none⟩) rfl (fun K0 hK=>?_) AllReadyH.nil
        refine step_append_lies _ (by rfl) _ _ _ (by rfl) W2.heap.size 103 i0 zeroC 6 64 Tryz.underlying29 hi hz0 zi1 zi2 rfl (by decide) vz K2.length (Zj K2) (by rfl) (Za OZ) ⟨mz,0,none⟩ 1 1 [.int .i64 name,.int .i64 j,.int .i64 ov,.slice la ln lc,.int .i64 ht,.bool false] (by rfl) (by rfl) (World.news_of_block (cs:=#[.int .i64 name,.int .i64 j,.int .i64 ov,.slice la ln lc,.int .i64 ht,.bool false]) (Za MZ)) (fun u hu=>by simp at hu;rcases hu with rfl|rfl|rfl|rfl|rfl|rfl <;> rfl) (by decide) (by have:=Za HL2;unfold maxLen;omega) (by have:=Za HL2;omega) (Za BZ).size _ rfl ?_
        intro g8 cap8 w8 hown8 hgrow8 _ _
        have HB8:Hid (Below W2.heap.size W2 w8):=(Za BZ).grown hgrow8 (Za BZ).size (Yk (Za OZ))
        have HO8:=Zb hown8
        clear hown8 hgrow8 OZ MZ BZ
        refine hK.out _ _ ((Za KS) _ (Za HB8)) (fun Zid=>?_)
        clear hK K0 Zic
        have Zic:=Zid
        clear Zid
        (try simp only[Act.put,ZA,ZB,ZC])
        refine Zt 9 ⟨some 14,.assign (.tmp 167),29, "second.go:109",#[⟨8,.data⟩,⟨8,.chain⟩,⟨0,.phase⟩,⟨1,.phase⟩,⟨2,.phase⟩,⟨3,.phase⟩,⟨4,.phase⟩,⟨5,.phase⟩,⟨6,.phase⟩,⟨7,.phase⟩,⟨8,.phase⟩],none⟩ ?_ rfl ?_ Zic ?_
        rotate_left
        ·(intro W hSw;obtain⟨sw0,sw1,sw2,sw3,sw4,_⟩:=hSw;go_simp;first|done|with_reducible rfl)
        (try simp only[Act.put,ZA,ZB,ZC])
        refine wpAnyH_done (by kernel_rfl) ?_ _
        clear Zic KS
        have AS:Hid (A2 w w5 Y.heap.size w8 (.slice (some ⟨g8,0,none⟩) (K2.length+1) cap8) (K2++[(((name,(j:Int),ov,okk,ht,false):Zg),la,ln,lc)])):=by
         refine⟨?_,fun x hx=>?_,Ze (Ze (Za HA2).bel (Za HB2)) (Za HB8)⟩
         ·rw[List.length_append,Zu]
          exact Vp (Za HO8) (by have:=(Za HB2).size;have:=(Za HA2).bel.size;rw[hYs];omega)
         ·rcases List.mem_append.1 hx with hx|hx
          ·exact (Za HA2).lks x hx
          ·rw[List.mem_singleton.1 hx];exact Za LK
        have L3:Hid ((K2++[(((name,(j:Int),ov,okk,ht,false):Zg),la,ln,lc)]).length≤720+(j+1)):=by show _≤_;rw[List.length_append];have:=Za HL2;simp;omega
        have P3:Hid (((K2++[(((name,(j:Int),ov,okk,ht,false):Zg),la,ln,lc)]).map (·.1)).Perm (Vz (Qg name j (ov,okk) ht false) G)∧Srt (Vz (Qg name j (ov,okk) ht false) G)):=by
         refine⟨?_,U1 (Za HP).2⟩
         rw[List.map_append]
         exact Jq (Za HP).1 (Za HF)
        have E3:Hid (Z6 name ht false (j+1) (O.drop (j+1)) (Vz (Qg name j (ov,okk) ht false) G)=(x4,M4)):=((Za GA) G (Za HF)).symm.trans (Za HGV)
        clear GA GN HGV
        go_wp2
        go_roundw
        case rel=>first|exact⟨j+1,_,_,by omega,by go_num,L3,AS,P3,E3⟩|((repeat apply Exists.intro);refine⟨?_,rfl⟩;exact⟨j+1,_,_,by omega,by go_num,L3,AS,P3,E3⟩)
        case measure=>simp[intOf];omega
      ·have hjz:z=(i2:Int):=by rw[←hz,hz1];simp
       subst hjz
       have HEE:Hid ((x,M,S)=((6:Int),([]:List Zg),([]:List Zg))∧w.heap.size≤w.heap.size+1):=by
        have e:=(Za GN) G (by rw[←Jv (Za HP).1];exact hz3)
        rw[Za HGV] at e
        obtain⟨rfl,_⟩:=Prod.mk.inj e
        exact⟨(Za HXb).symm.trans (if_pos (by decide)),Nat.le_succ _⟩
       have hge:¬((i2:Int)<0):=by omega
       clear hz hz1 hz2 hz3 hi2 GA GN HGV HXb
       have CF:=Zb (Yj 6 W2)
       go_wp2_with fail
       refine (Za CF).mono ?_
       rintro e wf ⟨rfl,hbf⟩
       have BUF:=Zb ((hbf.block _ (lt_of_block (Za BU2))).trans (Za BU2))
       have HBF:=Zb (Ze (Za HW2) hbf)
       have uuc:=Zd (Za BUF) 0 _ rfl
       have uuf:=Zh (Za BUF) 0
       have uul:=lt_of_block (Za BUF)
       clear hbf CF
       go_wp2
       (try simp only[Exit.inBlock,Exit.then])
       refine bodyPost_ret (v:=.tuple #[.slice none 0 0,.agg #[.slice none 0 0],.int .i64 6]) ?_ rfl ?_
       ·rw[Zq rfl]
        go_simp
       ·exact (Xl (Za HEE) (Za HBF)).plain
     ·obtain rfl:j=no:=by omega
      have e:=Za HGV
      rw[Rn (by rw[Za HZO];exact Nat.le_refl _)] at e
      obtain⟨e0,e1⟩:=Prod.mk.inj e
      subst e0 e1
      clear e HGV
      have HX2:=Za HXb
      rw[if_neg (by decide)] at HX2
      have HXc:=Zb HX2
      clear HXb HX2
      have CSO:=Zb (Gk ra K2.length rc K2 w wr (by have:=Za HL2;omega) rfl (Za HA2).own (Za HA2).lks (Za HWJ))
      clear hco hlw
      go_wp2_with fail
      refine (Za CSO).mono ?_
      rintro e w6 ⟨a6,c6,L6,rfl,hst,hs6,hpm,hwk,hb6⟩
      have e6:L6=G:=Kz hwk (hpm.trans (Za HP).1) (Za HP).2
      subst e6
      have hc6:CoinsAt w6 a6 K2.length L6:=hst w6 (Gr.refl _ _)
      have CCH:=Zb (Rh a6 K2.length c6 L6 x5 w6 hc6 (Za H5))
      have HST:=Zb hst
      have HB6:=Zb hb6
      clear hst hpm hwk hb6 hc6 CSO
      go_wp2_with fail
      refine (Za CCH).mono ?_
      rintro e w7 ⟨rfl,hb7⟩
      have HB7:=Zb hb7
      have HWR7:=Zb (Ze (Za HB6) hb7)
      have HW7:=Zb (Ze (Za HWJ) (Za HWR7))
      have BU7:=Zb (((Za HWR7).block _ (lt_of_block (Za BUJ))).trans (Za BUJ))
      clear hb7 CCH
      by_cases e5:x5=0
      ·subst e5
       have HX2:=Za HXc
       rw[if_neg (by decide)] at HX2
       obtain⟨rfl,e2⟩:=Prod.mk.inj HX2
       obtain⟨rfl,rfl⟩:=Prod.mk.inj e2
       have HB57:=Zb (Ze (Za HA2).bel (Za HWR7))
       have SX7:=Zb (((Za HB57).block _ (lt_of_block (Za HSX))).trans (Za HSX))
       have SP7:=Zb ((Gr.of (S:=fun _=>False) (Za HB57)).own (Za HSP) (fun _ _ q=>q))
       have HEND:Hid (∀ W,Gr w7 W (fun q=>q=w.heap.size+1)→ApR w W 0 L6 (SK.map (·.1)) (.returned (.tuple #[.slice a6 K2.length c6,.agg #[.slice sa SK.length sc],.int .i64 0]))):=by
        intro W hg
        have hbW:Below w.heap.size w W:=hg.below (Za HW7) (Za HW7).size (fun k q=>by omega)
        have hwr:=(Za HA2).bel.size
        have hsp:=hg.own (Za SP7) (fun k q e=>by have:=Yk (Za SP7) k q;omega)
        obtain⟨sa2,sc2,e,hco2,hso2⟩:=Z3 hsp (fun x hx=>((Za HSL) x hx).later hbW)
        obtain⟨rfl,rfl⟩:sa=sa2∧sc=sc2:=by injection e with e1 e2 e3;exact⟨e1,e3⟩
        exact⟨a6,K2.length,c6,sa,SK.length,sc,rfl,(Za HST) W ((Gr.of (Za HB7)).trans (hg.mono (fun k _ q=>⟨by omega,by omega⟩))),hs6,hco2,hso2,hbW⟩
       have u0:=Zd (Za SX7) 0 _ rfl
       have ul:=lt_of_block (Za SX7)
       have r0:=Zd (Za BU7) 0 _ rfl
       have rl:=lt_of_block (Za BU7)
       have rf:=Zh (Za BU7) 0
       clear HXc HX2 e2 HST HSX HSP SP7 SX7 HA2
       go_wp2
       go_region
       go_wp2
       (try simp only[Exit.inBlock,Exit.then])
       all_goals (refine bodyPost_ret (v:=.tuple #[.slice a6 K2.length c6,.agg #[.slice sa SK.length sc],.int .i64 0]) ?_ rfl ?_)
       ·rw[Zq rfl]
        go_simp
       ·first|exact (Za HEND) _ (((Gr.refl w7 (fun q=>q=w.heap.size+1)).draw).set (p:=⟨w.heap.size+1,0,none⟩) (.inl rfl) _)|exact (Za HEND) _ (((Gr.refl w7 (fun q=>q=w.heap.size+1)).set (p:=⟨w.heap.size+1,0,none⟩) (.inl rfl) _).draw)
      ·have HEE:Hid ((x,M,S)=((x5:Int),([]:List Zg),([]:List Zg))∧w.heap.size≤w.heap.size+1):=⟨(Za HXc).symm.trans (if_pos e5),Nat.le_succ _⟩
       have g9:(x5 != 0)=true:=by simp[e5]
       clear HXc HST
       have CF:=Zb (Yj x5 w7)
       go_wp2_with fail
       refine (Za CF).mono ?_
       rintro e wf ⟨rfl,hbf⟩
       have BUF:=Zb ((hbf.block _ (lt_of_block (Za BU7))).trans (Za BU7))
       have HBF:=Zb (Ze (Za HW7) hbf)
       have uuc:=Zd (Za BUF) 0 _ rfl
       have uuf:=Zh (Za BUF) 0
       have uul:=lt_of_block (Za BUF)
       clear hbf CF
       go_wp2
       (try simp only[Exit.inBlock,Exit.then])
       refine bodyPost_ret (v:=.tuple #[.slice none 0 0,.agg #[.slice none 0 0],.int .i64 x5]) ?_ rfl ?_
       ·rw[Zq rfl]
        go_simp
       ·exact (Xl (Za HEE) (Za HBF)).plain
theorem Zas(a:Option Addr)(n c:Nat)(L:List Zg)(h:Int)(ai ao:Option Addr)(ni ci no co:Nat)(I:List InD)(O:List Zw)(name ht:Int)(x:Int)(M S:List Zg)(w:World)(hL:CoinsAt w a n L)(sL:SlOk a n c)(hI:InsAt w ai ni I)(hO:OutsAt w ao no O)(hRC:Z5 L)(hTx:Zo (h,I,O)=0)(hx:apD L (h,I,O) name ht=(x,M,S))(n1:¬name<1)(n2:¬120<name)(n3:¬ht<1)(n4:¬1000<ht)(hr:ni=0)(hh:h=ht) :
  Calls Tryz.prog 60 #[.slice a n c,.agg #[.int .i64 h,.slice ai ni ci,.slice ao no co],.int .i64 name,.int .i64 ht] w fun e w'=>ApR w w' x M S e:=by
 obtain⟨X0,hX0⟩:∃ X0,X0=(w.alloc (.cells #[.int .i64 h,.slice ai ni ci,.slice ao no co] 52)).alloc (.cells #[.slice none 0 0] 130):=⟨_,rfl⟩
 have hb0:Below w.heap.size w X0:=by rw[hX0];exact Ze (Zf _ _) (Zf _ _)
 have hX1:X0.heap[w.heap.size]? = some (.cells [.int .i64 h,.slice ai ni ci,.slice ao no co].toArray 52 (0,0)):=by
  rw[hX0,Below.heap_alloc _ _ _ (by simp)];exact Zl _ _ _ _ _
 have hX2:X0.heap[w.heap.size+1]? = some (.cells [.slice none 0 0].toArray 130 (0,0)):=by
  rw[hX0]
  have:=heap_alloc_new (w.alloc (.cells #[.int .i64 h,.slice ai ni ci,.slice ao no co] 52)) (.cells #[.slice none 0 0] 130)
  rw[show (w.alloc (.cells #[.int .i64 h,.slice ai ni ci,.slice ao no co] 52)).heap.size=w.heap.size+1 by simp] at this
  exact this
 obtain⟨⟨x2,S2,M2⟩,h2⟩:∃ r,Zm ht I [] L=r:=⟨_,rfl⟩
 obtain⟨x3,h3⟩:∃ x3,Pz S2 (h,I,O)=x3:=⟨_,rfl⟩
 have hR:isR (h,I,O)=true:=by unfold isR;rw[hI.1];exact decide_eq_true hr
 obtain⟨⟨x4,M4⟩,h4⟩:∃ r,Z6 name ht true 0 O M2=r:=⟨_,rfl⟩
 obtain⟨x5,h5⟩:∃ x5,Yi M4=x5:=⟨_,rfl⟩
 rw[M7 (Hq hRC hTx (by unfold okN okH;simp only[Bool.and_eq_true,decide_eq_true_eq];omega) (by intro q;exact q.2 hh)) h2 h3 (by rw[hR];exact h4) h5,if_neg (by decide)] at hx
 obtain⟨t1,t2,t3,_,tI,_⟩:=Wm hTx
 have hni:ni≤6:=by rw[←hI.1];exact t1
 have hno:no≤6:=by rw[←hO.1];exact t2
 have hn:n≤720:=by rw[←hL.1];exact hRC.len
 have HOB:=Zb (Ga hTx)
 have HRR:=Zb hR
 have HIC:=Zb (Mi tI)
 have HHT:=Zb (Zdl n3 n4)
 obtain⟨Y,hY⟩:∃ Y,Y=X0.alloc (.cells #[.slice none 0 0] 130):=⟨_,rfl⟩
 have hbY:Below X0.heap.size X0 Y:=by rw[hY];exact Zf _ _
 have hYu:Y.heap[X0.heap.size]? = some (.cells #[.slice none 0 0] 130 (0,0)):=by rw[hY];exact heap_alloc_new _ _
 have hXs:X0.heap.size=w.heap.size+1+1:=by rw[hX0];simp
 have hYs:Y.heap.size=w.heap.size+1+1+1:=by rw[hY];simp[hXs]
 rw[hXs] at hYu
 have C1:=Zb (Ts a n c L w Y (Ze hb0 hbY) (by omega) hL sL)
 have HI:=Zb (fun w' (hb:Below X0.heap.size X0 w')=>(hI.later hb0).later hb)
 have HO:=Zb (fun w' (hb:Below X0.heap.size X0 w')=>(hO.later hb0).later hb)
 have HOW:=Zb hO
 have HB0:=Zb hb0
 have HBY:=Zb hbY
 have HX1:=Zb hX1
 have HX2:=Zb hX2
 have HYU:=Zb hYu
 have H2:=Zb h2
 have H3:=Zb h3
 have H4:=Zb h4
 have H5:=Zb h5
 have HX:=Zb hx
 have HRC:=Zb hRC
 have HZI:=Zb hI.1
 have HZO:=Zb hO.1
 have HZL:=Zb hL.1
 have x00:=Zd hX1 0 _ rfl
 have x01:=Zd hX1 1 _ rfl
 have x02:=Zd hX1 2 _ rfl
 have xl:=lt_of_block hX1
 have hXX:w.heap.size+1<X0.heap.size:=lt_of_block hX2
 have y00:=Zc hbY x00
 have y01:=Zc hbY x01
 have y02:=Zc hbY x02
 have g0:((ni:Int) == 0)=true:=by simp[hr]
 have g1:(h != ht)=false:=by simp[hh]
 have hni0:ni≤0:=by omega
 clear hr hh
 clear hL sL hI hO hRC hTx hx hX1 hX2 hb0 hbY hYu h2 h3 h4 h5 hR t1 t2 t3 tI
 go_enter Tryz.func60,Tryz.ntmps60
 go_wp2_with fail
 rw[←hX0]
 clear hX0
 go_wp2_with fail
 rw[←hY]
 clear hY
 refine (Za C1).mono ?_
 rintro e wr ⟨v,K,rfl,hKL,hlk,ho,hb2⟩
 obtain⟨SK,hSK⟩:∃ SK:List CV,SK=[]:=⟨_,rfl⟩
 obtain⟨sa,hsa⟩:∃ sa:Option Addr,sa=none:=⟨_,rfl⟩
 obtain⟨sc,hsc⟩:∃ sc:Nat,sc=0:=⟨_,rfl⟩
 have HS:Hid (ApS w Y (w.heap.size+1+1) wr v (.slice sa SK.length sc) K SK):=by
  subst hSK hsa hsc
  refine⟨ho,(hb2.block _ (by omega)).trans (Za HYU),⟨rfl,.inl ⟨rfl,rfl⟩⟩,fun x hx=>?_,by rw[hKL];exact (Za HRC).srt,Gr.of hb2,fun _ _ e=>by cases e⟩
  rcases hx with hx|hx
  ·exact⟨hlk x hx,(Za HRC).one x.1 (by rw[←hKL];exact List.mem_map_of_mem hx)⟩
  ·cases hx
 have HLN:Hid (K.length≤720):=by show _≤_;rw[←List.length_map (f:=fun (x:CV)=>x.1),hKL];exact (Za HRC).len
 have hBX:Below X0.heap.size X0 wr:=(Za HS).gr.below (Za HBY) (Za HBY).size (fun q e=>by omega)
 have HBX:=Zb hBX
 have HBW:=Zb (Ze (Za HB0) hBX)
 have BU:=Zb ((hBX.block _ (lt_of_block (Za HX2))).trans (Za HX2))
 have BT:=Zb ((hBX.block _ (lt_of_block (Za HX1))).trans (Za HX1))
 have hI0:I=[]:=List.length_eq_zero_iff.1 ((Za HZI).trans (by omega))
 have e:((0:Int),([]:List Zg),L)=(x2,S2,M2):=by
  have e:=Za H2
  rw[hI0] at e
  exact e
 obtain⟨e0,e2⟩:=Prod.mk.inj e
 obtain⟨e3,e4⟩:=Prod.mk.inj e2
 subst e0 e3 e4
 have e5:x3=0:=by
  rw[←Za H3]
  unfold Pz
  rw[Za HRR,if_neg (by intro q;exact Bool.noConfusion q.2)]
 subst e5
 have HX2:=Za HX
 rw[if_neg (by decide),if_neg (by decide)] at HX2
 have hs0:([]:List Zg)=SK.map (·.1):=by rw[hSK];rfl
 have HXb:Hid ((if x4≠0 then (x4,([]:List Zg),([]:List Zg)) else if x5≠0 then (x5,[],[]) else (0,M4,SK.map (·.1)))=(x,M,S)):=by show _=_;rw[←hs0];exact HX2
 have hnd:decide ((0:Int)<(ni:Int))=false:=by simp;omega
 have hnd2:decide (0<ni)=false:=by simp;omega
 have h4b:=Za H4
 rw[←hKL] at h4b
 clear H4
 have H4:=Zb h4b
 obtain⟨w5,hw5⟩:∃ w5,w5=wr:=⟨_,rfl⟩
 have HB5:Hid (Below wr.heap.size wr w5):=by show Below _ _ _;rw[hw5];exact Below.refl _ _
 have HBW5:=Zb (Ze (Za HBW) (Za HB5))
 have BU5:=Zb (((Za HB5).block _ (lt_of_block (Za BU))).trans (Za BU))
 have BT5:=Zb (((Za HB5).block _ (lt_of_block (Za BT))).trans (Za BT))
 have t1:=Zd (Za BT5) 1 _ rfl
 have t2:=Zd (Za BT5) 2 _ rfl
 have tl:=lt_of_block (Za BT5)
 rw[←hw5]
 clear hw5 hs0 HX2 e e2 hI0 hKL hlk ho hb2 C1 H2 H3 HX hSK hsa hsc y00 y01 y02 x00 x01 x02 h4b
 go_wp2
 refine wp_loop_rounds 1 ?_
 rw[rounds_succ]
 go_wp2_with fail
 have hlr:∀ x∈K,LkAt wr x:=fun x hx=>((Za HS).lks x (.inl hx)).1.later (Za HBW)
 obtain⟨ra,rc,rfl,_,_⟩:=Z3 (Za HS).rest hlr
 have HA:Hid (A2 w w5 Y.heap.size w5 (.slice ra K.length rc) K):=⟨(Gr.of (S:=fun _=>False) (Za HB5)).own (Za HS).rest (fun _ _ q=>q),fun x hx=>((Za HS).lks x (.inl hx)).1,Below.refl _ _⟩
 have HP0:Hid ((K.map (·.1)).Perm (K.map (·.1))∧Srt (K.map (·.1))):=⟨List.Perm.refl _,(Za HS).srt⟩
 have HSP:=Zb ((Gr.of (S:=fun _=>False) (Za HB5)).own (Za HS).spent (fun _ _ q=>q))
 have HSX:=Zb (((Za HB5).block _ (lt_of_block (Za HS).box)).trans (Za HS).box)
 have HSL:Hid (∀ x∈SK,LkAt w x):=fun x hx=>((Za HS).lks x (.inr hx)).1
 have HG4:Hid (Z6 name ht true 0 (O.drop 0) (K.map (·.1))=(x4,M4)):=Za H4
 have HN0:Hid (K.length≤720+0):=Za HLN
 have hYL:w.heap.size+1+1+1≤w5.heap.size:=by rw[←hYs];exact Nat.le_trans (Za HS).gr.size (Za HB5).size
 clear hlr HS HB5 HBW HBX H4 HLN BU BT t2 tl
 go_loopw [14,142] (fun rv i wr=>∃ (j:Nat) (K2:List CV) (G:List Zg),j≤no∧i = .int .i64 j∧Hid (K2.length≤720+j)∧Hid (A2 w w5 Y.heap.size wr rv K2)∧Hid ((K2.map (·.1)).Perm G∧Srt G)∧Hid (Z6 name ht true j (O.drop j) G=(x4,M4))) (fun _ i _=>no - (intOf i).toNat)
 case atStart=>exact⟨0,K,K.map (·.1),Nat.zero_le _,rfl,HN0,HA,HP0,HG4⟩
 case round=>
  clear HA HP0 HG4 HN0
  obtain⟨j,K2,G,hj,rfl,HL2,HA2,HP,HGV⟩:=hrel
  have HWJ:=Zb (Ze (Za HBW5) (Za HA2).bel)
  have BUJ:=Zb (((Za HA2).bel.block _ (lt_of_block (Za BU5))).trans (Za BU5))
  have hlw:∀ x∈K2,LkAt wr x:=fun x hx=>((Za HA2).lks x hx).later (Za HWJ)
  obtain⟨ra,rc,rfl,hco,hso⟩:=Z3 (Za HA2).own hlw
  by_cases hlt:j<no
  ·have hlj:j<O.length:=by rw[Za HZO];exact hlt
   obtain⟨ob,oo,rfl,_,hoc⟩:=(Za HOW).2 (by omega)
   have hout:=hoc j hlj
   obtain⟨q,hq⟩:∃ q,O[j]=q:=⟨_,rfl⟩
   have GA:=Zb (fun L hf=>Si (name:=name) (h:=ht) (r:=true) hlj L hf)
   have GN:=Zb (fun L hf=>Sh (name:=name) (h:=ht) (r:=true) hlj L hf)
   rw[hq] at hout GA
   obtain⟨ov,okk⟩:=q
   obtain⟨g0,la,ln,lc,g1,lO,lS⟩:=hout
   simp only at g0 g1 lO
   have e0:=Zc (Za HWJ) g0
   have e1:=Zc (Za HWJ) g1
   have ol:=World.block_lt_of_cell? _ _ e0
   have LK:Hid (LkAt w (((name,(j:Int),ov,okk,ht,true):Zg),la,ln,lc)):=⟨lO,lS⟩
   obtain⟨W1,hW1⟩:∃ W1,W1=(wr.alloc (.cells #[.int .i64 ov,.slice la ln lc] 101)).alloc (.cells #[.int .i64 name,.int .i64 j] 99):=⟨_,rfl⟩
   have hb1:Below wr.heap.size wr W1:=by rw[hW1];exact Ze (Zf _ _) (Zf _ _)
   obtain⟨z,hz⟩:∃ z,plc (name,(j:Int)) (K2.map (·.1)) 0=z:=⟨_,rfl⟩
   have CP:=Zb (Rg ra K2.length rc (K2.map (·.1)) (name,(j:Int)) z W1 (by have:=Za HL2;omega) (hco.later hb1) hz)
   have p0:W1.heap[wr.heap.size+1]? = some (.cells [.int .i64 name,.int .i64 j].toArray 99 (0,0)):=by
    rw[hW1]
    have:=heap_alloc_new (wr.alloc (.cells #[.int .i64 ov,.slice la ln lc] 101)) (.cells #[.int .i64 name,.int .i64 j] 99)
    rw[show (wr.alloc (.cells #[.int .i64 ov,.slice la ln lc] 101)).heap.size=wr.heap.size+1 by simp] at this
    exact this
   have p1:W1.heap[wr.heap.size]? = some (.cells [.int .i64 ov,.slice la ln lc].toArray 101 (0,0)):=by
    rw[hW1,Below.heap_alloc _ _ _ (by simp)];exact heap_alloc_new _ _
   have pc0:=Zd p0 0 _ rfl
   have pc1:=Zd p0 1 _ rfl
   have pl:=lt_of_block p0
   have HB1:=Zb hb1
   have HP0:=Zb p0
   have HP1:=Zb p1
   clear hb1 hoc lO g0 g1 p0 p1 hco
   go_wp2_with fail
   rw[←hW1]
   (try go_wp2_with fail)
   refine (Za CP).mono ?_
   rintro e W2 ⟨rfl,hb2⟩
   have HB2:=Zb (Ze (Za HB1) hb2)
   have HW2:=Zb (Ze (Za HWJ) (Za HB2))
   have BU2:=Zb (((Za HB2).block _ (lt_of_block (Za BUJ))).trans (Za BUJ))
   have PB:=Zb ((hb2.block _ (lt_of_block (Za HP0))).trans (Za HP0))
   have OB:=Zb ((hb2.block _ (lt_of_block (Za HP1))).trans (Za HP1))
   clear hb2 CP hW1 HB1 HP0 HP1 pc0 pc1 pl e0 e1
   rcases Tb (name,(j:Int)) (K2.map (·.1)) 0 with ⟨hz1,hz2⟩|⟨i2,hi2,hz1,hz2,hz3⟩
   ·obtain rfl:z = -1:=hz.symm.trans hz1
    have HF:Hid (We (name,(j:Int)) G=false):=by show _=_;rw[←Jv (Za HP).1];exact hz2
    have OW2:=Zb ((Gr.of (S:=fun _=>False) (Za HB2)).own (Za HA2).own (fun _ _ q=>q))
    have KS:Hid (∀ W,Below W2.heap.size W2 W→SAo W2 wr.heap.size ov la ln lc name j W):=fun W hb=>⟨Zc hb (Zd (Za OB) 0 _ rfl),Zc hb (Zd (Za OB) 1 _ rfl),Zc hb (Zd (Za PB) 0 _ rfl),Zc hb (Zd (Za PB) 1 _ rfl),Nat.lt_of_lt_of_le (lt_of_block (Za PB)) hb.size,hb⟩
    obtain⟨i0,hi,hz0,zi1,zi2⟩:=info_parts Tryz.infoCoin
    clear hz hz1 hz2
    go_wp2_with fail
    refine wp_region_held_drew (S:=SAo W2 wr.heap.size ov la ln lc name j) (by kernel_rfl) ((Za KS) _ (Zi _)) (fun Zic=>?_)
    refine Zt 0 ⟨some 159,.move (.tmp 14),29, "second.go:109",#[],none⟩ ?_ rfl ?_ Zic ?_
    rotate_left
    ·(intro W hSw;obtain⟨sw0,sw1,sw2,sw3,sw4,_⟩:=hSw;go_simp;first|done|with_reducible rfl)
    (try simp only[Act.put,ZA,ZB,ZC])
    refine Zt 2 ⟨some 161,.load 99 (.tmp 21),99, "second.go:109",#[],none⟩ ?_ rfl ?_ Zic ?_
    rotate_left
    ·(intro W hSw;obtain⟨sw0,sw1,sw2,sw3,sw4,_⟩:=hSw;go_simp;first|done|with_reducible rfl)
    (try simp only[Act.put,ZA,ZB,ZC])
    refine Zt 3 ⟨some 162,.load 101 (.tmp 20),101, "second.go:109",#[],none⟩ ?_ rfl ?_ Zic ?_
    rotate_left
    ·(intro W hSw;obtain⟨sw0,sw1,sw2,sw3,sw4,_⟩:=hSw;go_simp;first|done|with_reducible rfl)
    (try simp only[Act.put,ZA,ZB,ZC])
    refine Zt 4 ⟨some 163,.move (.tmp 3),3, "second.go:109",#[],none⟩ ?_ rfl ?_ Zic ?_
    rotate_left
    ·(intro W hSw;obtain⟨sw0,sw1,sw2,sw3,sw4,_⟩:=hSw;go_simp;first|done|with_reducible rfl)
    (try simp only[Act.put,ZA,ZB,ZC])
    refine Zt 5 ⟨some 164,.move (.tmp 12),4, "second.go:109",#[],none⟩ ?_ rfl ?_ Zic ?_
    rotate_left
    ·(intro W hSw;obtain⟨sw0,sw1,sw2,sw3,sw4,_⟩:=hSw;go_simp;first|done|with_reducible rfl)
    (try simp only[Act.put,ZA,ZB,ZC])
    refine Zt 6 ⟨some 165,.build 103 #[(0,.tmp 161),(1,.tmp 162),(2,.tmp 163),(3,.tmp 164)],103, "second.go:109",#[⟨2,.data⟩,⟨3,.data⟩,⟨4,.data⟩,⟨5,.data⟩],none⟩ ?_ rfl ?_ Zic ?_
    rotate_left
    ·(intro W hSw;obtain⟨sw0,sw1,sw2,sw3,sw4,_⟩:=hSw;go_simp;first|done|with_reducible rfl)
    (try simp only[Act.put,ZA,ZB,ZC])
    refine wpAnyH_ready (rs:=[1,7]) (by kernel_rfl) (by simp) ?_
    refine AllReadyH.cons (o:=⟨some 160,.call { callee:=Callee.value (.func 88),args:=#[.tmp 159],argTypes:=#[29] },29, "second.go:109",#[⟨0,.data⟩],none⟩) rfl (fun K0 hK=>?_) (AllReadyH.cons (o:=⟨some 166,.buildSlice 29 1 #[(0,.tmp 165)],29, "second.go:109",#[⟨6,.data⟩],none⟩) rfl (fun K0 hK=>?_) AllReadyH.nil)
    ·refine Yf (by kernel_rfl) 88 #[.slice ra K2.length rc] (by kernel_rfl) (Wi (.slice ra K2.length rc) K2 W2.drew (by have:=Za HL2;omega) ((Gr.of (S:=fun _=>False) (Zi W2)).own (Za OW2) (fun _ _ q=>q))) ?_
     rintro e WA ⟨vz,rfl,hoA,hbA⟩
     refine⟨_,rfl,?_⟩
     have HBA:Hid (Below W2.heap.size W2 WA):=Ze (Zi W2) hbA
     have HOA:Hid (WA.ownsRow W2.heap.size 103 6 vz K2.length (Zj K2)):=hoA
     clear hoA hbA
     refine hK.out _ _ ((Za KS) _ (Za HBA)) (fun Zid=>?_)
     clear hK K0 Zic
     have Zic:=Zid
     clear Zid
     (try simp only[Act.put,ZA,ZB,ZC])
     refine wpAnyH_ready (rs:=[7]) (by kernel_rfl) (by simp) ?_
     refine AllReadyH.cons (o:=⟨some 166,.buildSlice 29 1 #[(0,.tmp 165)],29, "second.go:109",#[⟨6,.data⟩],none⟩) rfl (fun K0 hK=>?_) AllReadyH.nil
     go_simp
     obtain⟨WZ,hWZ⟩:∃ WZ,WZ=WA.alloc (.cells #[.int .i64 name,.int .i64 j,.int .i64 ov,.slice la ln lc,.int .i64 ht,.bool true] 103):=⟨_,rfl⟩
     rw[←hWZ]
     obtain⟨mz,hmz⟩:∃ mz,mz=WA.heap.size:=⟨_,rfl⟩
     have MZ:Hid (WZ.heap[mz]? = some (.cells #[.int .i64 name,.int .i64 j,.int .i64 ov,.slice la ln lc,.int .i64 ht,.bool true] 103 (0,0))):=by show _=_;rw[hWZ,hmz];exact heap_alloc_new _ _
     have hbz:Below WA.heap.size WA WZ:=by rw[hWZ];exact Zf _ _
     have OZ:=Zb ((Gr.of (S:=fun _=>False) hbz).own (Za HOA) (fun _ _ q=>q))
     have BZ:=Zb (Ze (Za HBA) hbz)
     rw[←hmz]
     clear hbz hWZ hmz HBA HOA
     refine hK.out _ _ ((Za KS) _ (Za BZ)) (fun Zid=>?_)
     clear hK K0 Zic
     have Zic:=Zid
     clear Zid
     (try simp only[Act.put,ZA,ZB,ZC])
     refine wpAnyH_ready (rs:=[8]) (by kernel_rfl) (by simp) ?_
     refine AllReadyH.cons (o:=⟨some 167,.call { callee:=Callee.builtin Builtin.append,args:=#[.tmp 160,.tmp 166],argTypes:=#[29,29] },29, "second.go:109",#[⟨1,.data⟩,⟨7,.data⟩,⟨1,.chain⟩],none⟩) rfl (fun K0 hK=>?_) AllReadyH.nil
     refine step_append_lies _ (by rfl) _ _ _ (by rfl) W2.heap.size 103 i0 zeroC 6 64 Tryz.underlying29 hi hz0 zi1 zi2 rfl (by decide) vz K2.length (Zj K2) (by rfl) (Za OZ) ⟨mz,0,none⟩ 1 1 [.int .i64 name,.int .i64 j,.int .i64 ov,.slice la ln lc,.int .i64 ht,.bool true] (by rfl) (by rfl) (World.news_of_block (cs:=#[.int .i64 name,.int .i64 j,.int .i64 ov,.slice la ln lc,.int .i64 ht,.bool true]) (Za MZ)) (fun u hu=>by simp at hu;rcases hu with rfl|rfl|rfl|rfl|rfl|rfl <;> rfl) (by decide) (by have:=Za HL2;unfold maxLen;omega) (by have:=Za HL2;omega) (Za BZ).size _ rfl ?_
     intro g8 cap8 w8 hown8 hgrow8 _ _
     have HB8:Hid (Below W2.heap.size W2 w8):=(Za BZ).grown hgrow8 (Za BZ).size (Yk (Za OZ))
     have HO8:=Zb hown8
     clear hown8 hgrow8 OZ MZ BZ
     refine hK.out _ _ ((Za KS) _ (Za HB8)) (fun Zid=>?_)
     clear hK K0 Zic
     have Zic:=Zid
     clear Zid
     (try simp only[Act.put,ZA,ZB,ZC])
     refine Zt 9 ⟨some 14,.assign (.tmp 167),29, "second.go:109",#[⟨8,.data⟩,⟨8,.chain⟩,⟨0,.phase⟩,⟨1,.phase⟩,⟨2,.phase⟩,⟨3,.phase⟩,⟨4,.phase⟩,⟨5,.phase⟩,⟨6,.phase⟩,⟨7,.phase⟩,⟨8,.phase⟩],none⟩ ?_ rfl ?_ Zic ?_
     rotate_left
     ·(intro W hSw;obtain⟨sw0,sw1,sw2,sw3,sw4,_⟩:=hSw;go_simp;first|done|with_reducible rfl)
     (try simp only[Act.put,ZA,ZB,ZC])
     refine wpAnyH_done (by kernel_rfl) ?_ _
     clear Zic KS
     have AS:Hid (A2 w w5 Y.heap.size w8 (.slice (some ⟨g8,0,none⟩) (K2.length+1) cap8) (K2++[(((name,(j:Int),ov,okk,ht,true):Zg),la,ln,lc)])):=by
      refine⟨?_,fun x hx=>?_,Ze (Ze (Za HA2).bel (Za HB2)) (Za HB8)⟩
      ·rw[List.length_append,Zu]
       exact Vp (Za HO8) (by have:=(Za HB2).size;have:=(Za HA2).bel.size;rw[hYs];omega)
      ·rcases List.mem_append.1 hx with hx|hx
       ·exact (Za HA2).lks x hx
       ·rw[List.mem_singleton.1 hx];exact Za LK
     have L3:Hid ((K2++[(((name,(j:Int),ov,okk,ht,true):Zg),la,ln,lc)]).length≤720+(j+1)):=by show _≤_;rw[List.length_append];have:=Za HL2;simp;omega
     have P3:Hid (((K2++[(((name,(j:Int),ov,okk,ht,true):Zg),la,ln,lc)]).map (·.1)).Perm (Vz (Qg name j (ov,okk) ht true) G)∧Srt (Vz (Qg name j (ov,okk) ht true) G)):=by
      refine⟨?_,U1 (Za HP).2⟩
      rw[List.map_append]
      exact Jq (Za HP).1 (Za HF)
     have E3:Hid (Z6 name ht true (j+1) (O.drop (j+1)) (Vz (Qg name j (ov,okk) ht true) G)=(x4,M4)):=((Za GA) G (Za HF)).symm.trans (Za HGV)
     clear GA GN HGV
     go_wp2
     go_roundw
     case rel=>first|exact⟨j+1,_,_,by omega,by go_num,L3,AS,P3,E3⟩|((repeat apply Exists.intro);refine⟨?_,rfl⟩;exact⟨j+1,_,_,by omega,by go_num,L3,AS,P3,E3⟩)
     case measure=>simp[intOf];omega
    ·go_simp
     obtain⟨WA,hWA⟩:∃ WA,WA=W2.drew.alloc (.cells #[.int .i64 name,.int .i64 j,.int .i64 ov,.slice la ln lc,.int .i64 ht,.bool true] 103):=⟨_,rfl⟩
     (first|rw[←hWA]|(rw[show (W2.alloc (.cells #[.int .i64 name,.int .i64 j,.int .i64 ov,.slice la ln lc,.int .i64 ht,.bool true] 103)).drew=WA from hWA.symm]))
     have hbA:Below W2.heap.size W2 WA:=by rw[hWA];exact Ze (Zi W2) (Zf _ _)
     obtain⟨mz,hmz⟩:∃ mz,mz=W2.heap.size:=⟨_,rfl⟩
     have ma:WA.heap[mz]? = some (.cells #[.int .i64 name,.int .i64 j,.int .i64 ov,.slice la ln lc,.int .i64 ht,.bool true] 103 (0,0)):=by rw[hWA,hmz];exact heap_alloc_new W2.drew _
     rw[←hmz]
     have OWA:=(Gr.of (S:=fun _=>False) hbA).own (Za OW2) (fun _ _ q=>q)
     have MA:=Zb ma
     have HBA:=Zb hbA
     clear hWA hmz ma hbA
     refine hK.out _ _ ((Za KS) _ (Za HBA)) (fun Zid=>?_)
     clear hK K0 Zic
     have Zic:=Zid
     clear Zid
     (try simp only[Act.put,ZA,ZB,ZC])
     refine wpAnyH_ready (rs:=[1]) (by kernel_rfl) (by simp) ?_
     refine AllReadyH.cons (o:=⟨some 160,.call { callee:=Callee.value (.func 88),args:=#[.tmp 159],argTypes:=#[29] },29, "second.go:109",#[⟨0,.data⟩],none⟩) rfl (fun K0 hK=>?_) AllReadyH.nil
     refine Yf (by kernel_rfl) 88 #[.slice ra K2.length rc] (by kernel_rfl) (Wi (.slice ra K2.length rc) K2 WA (by have:=Za HL2;omega) OWA) ?_
     rintro e WZ ⟨vz,rfl,hoz,hbz⟩
     refine⟨_,rfl,?_⟩
     have BZ:=Zb (Ze (Za HBA) hbz)
     have OZ:=Zb (Vp hoz (Za HBA).size)
     have MZ:=Zb ((hbz.block _ (lt_of_block (Za MA))).trans (Za MA))
     clear hoz hbz OWA MA HBA
     refine hK.out _ _ ((Za KS) _ (Za BZ)) (fun Zid=>?_)
     clear hK K0 Zic
     have Zic:=Zid
     clear Zid
     (try simp only[Act.put,ZA,ZB,ZC])
     refine wpAnyH_ready (rs:=[8]) (by kernel_rfl) (by simp) ?_
     refine AllReadyH.cons (o:=⟨some 167,.call { callee:=Callee.builtin Builtin.append,args:=#[.tmp 160,.tmp 166],argTypes:=#[29,29] },29, "second.go:109",#[⟨1,.data⟩,⟨7,.data⟩,⟨1,.chain⟩],none⟩) rfl (fun K0 hK=>?_) AllReadyH.nil
     refine step_append_lies _ (by rfl) _ _ _ (by rfl) W2.heap.size 103 i0 zeroC 6 64 Tryz.underlying29 hi hz0 zi1 zi2 rfl (by decide) vz K2.length (Zj K2) (by rfl) (Za OZ) ⟨mz,0,none⟩ 1 1 [.int .i64 name,.int .i64 j,.int .i64 ov,.slice la ln lc,.int .i64 ht,.bool true] (by rfl) (by rfl) (World.news_of_block (cs:=#[.int .i64 name,.int .i64 j,.int .i64 ov,.slice la ln lc,.int .i64 ht,.bool true]) (Za MZ)) (fun u hu=>by simp at hu;rcases hu with rfl|rfl|rfl|rfl|rfl|rfl <;> rfl) (by decide) (by have:=Za HL2;unfold maxLen;omega) (by have:=Za HL2;omega) (Za BZ).size _ rfl ?_
     intro g8 cap8 w8 hown8 hgrow8 _ _
     have HB8:Hid (Below W2.heap.size W2 w8):=(Za BZ).grown hgrow8 (Za BZ).size (Yk (Za OZ))
     have HO8:=Zb hown8
     clear hown8 hgrow8 OZ MZ BZ
     refine hK.out _ _ ((Za KS) _ (Za HB8)) (fun Zid=>?_)
     clear hK K0 Zic
     have Zic:=Zid
     clear Zid
     (try simp only[Act.put,ZA,ZB,ZC])
     refine Zt 9 ⟨some 14,.assign (.tmp 167),29, "second.go:109",#[⟨8,.data⟩,⟨8,.chain⟩,⟨0,.phase⟩,⟨1,.phase⟩,⟨2,.phase⟩,⟨3,.phase⟩,⟨4,.phase⟩,⟨5,.phase⟩,⟨6,.phase⟩,⟨7,.phase⟩,⟨8,.phase⟩],none⟩ ?_ rfl ?_ Zic ?_
     rotate_left
     ·(intro W hSw;obtain⟨sw0,sw1,sw2,sw3,sw4,_⟩:=hSw;go_simp;first|done|with_reducible rfl)
     (try simp only[Act.put,ZA,ZB,ZC])
     refine wpAnyH_done (by kernel_rfl) ?_ _
     clear Zic KS
     have AS:Hid (A2 w w5 Y.heap.size w8 (.slice (some ⟨g8,0,none⟩) (K2.length+1) cap8) (K2++[(((name,(j:Int),ov,okk,ht,true):Zg),la,ln,lc)])):=by
      refine⟨?_,fun x hx=>?_,Ze (Ze (Za HA2).bel (Za HB2)) (Za HB8)⟩
      ·rw[List.length_append,Zu]
       exact Vp (Za HO8) (by have:=(Za HB2).size;have:=(Za HA2).bel.size;rw[hYs];omega)
      ·rcases List.mem_append.1 hx with hx|hx
       ·exact (Za HA2).lks x hx
       ·rw[List.mem_singleton.1 hx];exact Za LK
     have L3:Hid ((K2++[(((name,(j:Int),ov,okk,ht,true):Zg),la,ln,lc)]).length≤720+(j+1)):=by show _≤_;rw[List.length_append];have:=Za HL2;simp;omega
     have P3:Hid (((K2++[(((name,(j:Int),ov,okk,ht,true):Zg),la,ln,lc)]).map (·.1)).Perm (Vz (Qg name j (ov,okk) ht true) G)∧Srt (Vz (Qg name j (ov,okk) ht true) G)):=by
      refine⟨?_,U1 (Za HP).2⟩
      rw[List.map_append]
      exact Jq (Za HP).1 (Za HF)
     have E3:Hid (Z6 name ht true (j+1) (O.drop (j+1)) (Vz (Qg name j (ov,okk) ht true) G)=(x4,M4)):=((Za GA) G (Za HF)).symm.trans (Za HGV)
     clear GA GN HGV
     go_wp2
     go_roundw
     case rel=>first|exact⟨j+1,_,_,by omega,by go_num,L3,AS,P3,E3⟩|((repeat apply Exists.intro);refine⟨?_,rfl⟩;exact⟨j+1,_,_,by omega,by go_num,L3,AS,P3,E3⟩)
     case measure=>simp[intOf];omega
   ·have hjz:z=(i2:Int):=by rw[←hz,hz1];simp
    subst hjz
    have HEE:Hid ((x,M,S)=((6:Int),([]:List Zg),([]:List Zg))∧w.heap.size≤w.heap.size+1):=by
     have e:=(Za GN) G (by rw[←Jv (Za HP).1];exact hz3)
     rw[Za HGV] at e
     obtain⟨rfl,_⟩:=Prod.mk.inj e
     exact⟨(Za HXb).symm.trans (if_pos (by decide)),Nat.le_succ _⟩
    have hge:¬((i2:Int)<0):=by omega
    clear hz hz1 hz2 hz3 hi2 GA GN HGV HXb
    have CF:=Zb (Yj 6 W2)
    go_wp2_with fail
    refine (Za CF).mono ?_
    rintro e wf ⟨rfl,hbf⟩
    have BUF:=Zb ((hbf.block _ (lt_of_block (Za BU2))).trans (Za BU2))
    have HBF:=Zb (Ze (Za HW2) hbf)
    have uuc:=Zd (Za BUF) 0 _ rfl
    have uuf:=Zh (Za BUF) 0
    have uul:=lt_of_block (Za BUF)
    clear hbf CF
    go_wp2
    (try simp only[Exit.inBlock,Exit.then])
    refine bodyPost_ret (v:=.tuple #[.slice none 0 0,.agg #[.slice none 0 0],.int .i64 6]) ?_ rfl ?_
    ·rw[Zq rfl]
     go_simp
    ·exact (Xl (Za HEE) (Za HBF)).plain
  ·obtain rfl:j=no:=by omega
   have e:=Za HGV
   rw[Rn (by rw[Za HZO];exact Nat.le_refl _)] at e
   obtain⟨e0,e1⟩:=Prod.mk.inj e
   subst e0 e1
   clear e HGV
   have HX2:=Za HXb
   rw[if_neg (by decide)] at HX2
   have HXc:=Zb HX2
   clear HXb HX2
   have CSO:=Zb (Gk ra K2.length rc K2 w wr (by have:=Za HL2;omega) rfl (Za HA2).own (Za HA2).lks (Za HWJ))
   clear hco hlw
   go_wp2_with fail
   refine (Za CSO).mono ?_
   rintro e w6 ⟨a6,c6,L6,rfl,hst,hs6,hpm,hwk,hb6⟩
   have e6:L6=G:=Kz hwk (hpm.trans (Za HP).1) (Za HP).2
   subst e6
   have hc6:CoinsAt w6 a6 K2.length L6:=hst w6 (Gr.refl _ _)
   have CCH:=Zb (Rh a6 K2.length c6 L6 x5 w6 hc6 (Za H5))
   have HST:=Zb hst
   have HB6:=Zb hb6
   clear hst hpm hwk hb6 hc6 CSO
   go_wp2_with fail
   refine (Za CCH).mono ?_
   rintro e w7 ⟨rfl,hb7⟩
   have HB7:=Zb hb7
   have HWR7:=Zb (Ze (Za HB6) hb7)
   have HW7:=Zb (Ze (Za HWJ) (Za HWR7))
   have BU7:=Zb (((Za HWR7).block _ (lt_of_block (Za BUJ))).trans (Za BUJ))
   clear hb7 CCH
   by_cases e5:x5=0
   ·subst e5
    have HX2:=Za HXc
    rw[if_neg (by decide)] at HX2
    obtain⟨rfl,e2⟩:=Prod.mk.inj HX2
    obtain⟨rfl,rfl⟩:=Prod.mk.inj e2
    have HB57:=Zb (Ze (Za HA2).bel (Za HWR7))
    have SX7:=Zb (((Za HB57).block _ (lt_of_block (Za HSX))).trans (Za HSX))
    have SP7:=Zb ((Gr.of (S:=fun _=>False) (Za HB57)).own (Za HSP) (fun _ _ q=>q))
    have HEND:Hid (∀ W,Gr w7 W (fun q=>q=w.heap.size+1)→ApR w W 0 L6 (SK.map (·.1)) (.returned (.tuple #[.slice a6 K2.length c6,.agg #[.slice sa SK.length sc],.int .i64 0]))):=by
     intro W hg
     have hbW:Below w.heap.size w W:=hg.below (Za HW7) (Za HW7).size (fun k q=>by omega)
     have hwr:=(Za HA2).bel.size
     have hsp:=hg.own (Za SP7) (fun k q e=>by have:=Yk (Za SP7) k q;omega)
     obtain⟨sa2,sc2,e,hco2,hso2⟩:=Z3 hsp (fun x hx=>((Za HSL) x hx).later hbW)
     obtain⟨rfl,rfl⟩:sa=sa2∧sc=sc2:=by injection e with e1 e2 e3;exact⟨e1,e3⟩
     exact⟨a6,K2.length,c6,sa,SK.length,sc,rfl,(Za HST) W ((Gr.of (Za HB7)).trans (hg.mono (fun k _ q=>⟨by omega,by omega⟩))),hs6,hco2,hso2,hbW⟩
    have u0:=Zd (Za SX7) 0 _ rfl
    have ul:=lt_of_block (Za SX7)
    have r0:=Zd (Za BU7) 0 _ rfl
    have rl:=lt_of_block (Za BU7)
    have rf:=Zh (Za BU7) 0
    clear HXc HX2 e2 HST HSX HSP SP7 SX7 HA2
    go_wp2
    go_region
    go_wp2
    (try simp only[Exit.inBlock,Exit.then])
    all_goals (refine bodyPost_ret (v:=.tuple #[.slice a6 K2.length c6,.agg #[.slice sa SK.length sc],.int .i64 0]) ?_ rfl ?_)
    ·rw[Zq rfl]
     go_simp
    ·first|exact (Za HEND) _ (((Gr.refl w7 (fun q=>q=w.heap.size+1)).draw).set (p:=⟨w.heap.size+1,0,none⟩) (.inl rfl) _)|exact (Za HEND) _ (((Gr.refl w7 (fun q=>q=w.heap.size+1)).set (p:=⟨w.heap.size+1,0,none⟩) (.inl rfl) _).draw)
   ·have HEE:Hid ((x,M,S)=((x5:Int),([]:List Zg),([]:List Zg))∧w.heap.size≤w.heap.size+1):=⟨(Za HXc).symm.trans (if_pos e5),Nat.le_succ _⟩
    have g9:(x5 != 0)=true:=by simp[e5]
    clear HXc HST
    have CF:=Zb (Yj x5 w7)
    go_wp2_with fail
    refine (Za CF).mono ?_
    rintro e wf ⟨rfl,hbf⟩
    have BUF:=Zb ((hbf.block _ (lt_of_block (Za BU7))).trans (Za BU7))
    have HBF:=Zb (Ze (Za HW7) hbf)
    have uuc:=Zd (Za BUF) 0 _ rfl
    have uuf:=Zh (Za BUF) 0
    have uul:=lt_of_block (Za BUF)
    clear hbf CF
    go_wp2
    (try simp only[Exit.inBlock,Exit.then])
    refine bodyPost_ret (v:=.tuple #[.slice none 0 0,.agg #[.slice none 0 0],.int .i64 x5]) ?_ rfl ?_
    ·rw[Zq rfl]
     go_simp
    ·exact (Xl (Za HEE) (Za HBF)).plain
end Go.Proofs.YtpikejjiignchaaGreatDoor
