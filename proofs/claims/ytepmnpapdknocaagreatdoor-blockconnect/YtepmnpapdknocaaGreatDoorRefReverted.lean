/- The contract of the reference's Reverted: of right coins and a right transaction it answers as Revert does. -/
import Derived.Test.YtepmnpapdknocaaGreatDoorSortCoinBToRefEq
import Derived.Test.YtepmnpapdknocaaGreatDoorCoinBackAToTrStep
import Derived.Deep.RegionHeld3
import Derived.Deep.AppendLies
import Derived.BigQuiet
import Derived.Deep.QuietTactic
namespace Go.Proofs.YtepmnpapdknocaaGreatDoor
open Go.RowKit
structure Rv1(w X0 wr:World)(v:Value)(K:List CV):Prop where
 own:wr.ownsRow X0.heap.size 88 6 v K.length (Ze K)
 lks:∀ x∈K,LkAt w x
 bel:Below X0.heap.size X0 wr
theorem Zcj{L S:List Zb}{t:TxD}{name x:Int}{M:List Zb}(hRC:Zs L)(hTx:Zj t=0)(hl:S.length≠t.2.1.length)(hx:rvD L t name S=(x,M)):(x,M)=((4:Int),([]:List Zb)):=by
 have e:Xh L t=0:=by unfold Xh;rw[(Z6 L).2 hRC,if_neg (by decide)];exact hTx
 unfold rvD at hx
 rw[e,if_neg (by decide),if_pos hl] at hx
 exact hx.symm
set_option maxRecDepth 10000 in
set_option maxHeartbeats 12800000 in
theorem Mm(a:Option Addr)(n c:Nat)(L:List Zb)(h:Int)(ai ao:Option Addr)(ni ci no co:Nat)(I:List InD)(O:List Z7)(name:Int)(sa:Option Addr)(ns cs:Nat)(S:List Zb)(x:Int)(M:List Zb)(w:World)(hL:CoinsAt w a n L)(sL:SlOk a n c)(hI:InsAt w ai ni I)(hO:OutsAt w ao no O)(hS:CoinsAt w sa ns S)(hRC:Zs L)(hTx:Zj (h,I,O)=0)(hx:rvD L (h,I,O) name S=(x,M)) :
  Calls Tryz.prog 44 #[.slice a n c,.agg #[.int .i64 h,.slice ai ni ci,.slice ao no co],.int .i64 name,.agg #[.slice sa ns cs]] w fun e w'=>RvR w w' x M e:=by
 obtain⟨X0,hX0⟩:∃ X0,X0=(w.alloc (.cells #[.int .i64 h,.slice ai ni ci,.slice ao no co] 74)).alloc (.cells #[.slice sa ns cs] 68):=⟨_,rfl⟩
 have hb0:Below w.heap.size w X0:=by rw[hX0];exact bel_on (bel_new _ _) (bel_new _ _)
 have hX1:X0.heap[w.heap.size]? = some (.cells [.int .i64 h,.slice ai ni ci,.slice ao no co].toArray 74 (0,0)):=by
  rw[hX0,Below.heap_alloc _ _ _ (by simp)];exact Zp _ _ _ _ _
 have hX2:X0.heap[w.heap.size+1]? = some (.cells [.slice sa ns cs].toArray 68 (0,0)):=by
  rw[hX0]
  have:=heap_alloc_new (w.alloc (.cells #[.int .i64 h,.slice ai ni ci,.slice ao no co] 74)) (.cells #[.slice sa ns cs] 68)
  rw[show (w.alloc (.cells #[.int .i64 h,.slice ai ni ci,.slice ao no co] 74)).heap.size=w.heap.size+1 by simp] at this
  exact this
 have x00:=Za hX1 0 _ rfl
 have x01:=Za hX1 1 _ rfl
 have x02:=Za hX1 2 _ rfl
 have xl:=lt_of_block hX1
 have x10:=Za hX2 0 _ rfl
 have xl2:=lt_of_block hX2
 by_cases hns:ns=ni
 ·subst hns
  obtain⟨⟨x2,M2⟩,h2⟩:∃ r,Yb name 0 O L=r:=⟨_,rfl⟩
  obtain⟨⟨x3,M3⟩,h3⟩:∃ r,Yg I S M2=r:=⟨_,rfl⟩
  obtain⟨x4,h4⟩:∃ x4,Zh M3=x4:=⟨_,rfl⟩
  have hbo:Xh L (h,I,O)=0:=by unfold Xh;rw[(Z6 L).2 hRC,if_neg (by decide)];exact hTx
  rw[Ao hbo h2 h3 h4,if_neg (by decide),if_neg (by intro q;exact q (by rw[hS.1,hI.1]))] at hx
  obtain⟨t1,t2,t3,_,tI,_⟩:=Ya hTx
  have hni:ns≤6:=by rw[←hI.1];exact t1
  have hno:no≤6:=by rw[←hO.1];exact t2
  have hn:n≤720:=by rw[←hL.1];exact hRC.len
  have C1:=hide (Vz a n c L w X0 hb0 (by omega) hL sL)
  have HIW:=hide hI
  have HOW:=hide hO
  have HSW:=hide hS
  have HB0:=hide hb0
  have HX1:=hide hX1
  have HX2:=hide hX2
  have H2:=hide h2
  have H3:=hide h3
  have H4:=hide h4
  have HX:=hide hx
  have HRC:=hide hRC
  have HZI:=hide hI.1
  have HZO:=hide hO.1
  have HZS:=hide hS.1
  have g0:((ns:Int) != (ns:Int))=false:=by simp
  clear hL sL hI hO hS hRC hTx hx hX1 hX2 hb0 h2 h3 h4 t1 t2 t3 tI hbo
  go_enter Tryz.func44,Tryz.ntmps44
  go_wp2_with fail
  rw[←hX0]
  clear hX0
  go_wp2_with fail
  refine (unhide C1).mono ?_
  rintro e w2 ⟨v,K,rfl,hKL,hlk,ho,hb2⟩
  have xb:=cell_later hb2 x02
  have xbl:=World.block_lt_of_cell? _ _ xb
  have ST:Hid (Rv1 w X0 w2 v K):=⟨ho,hlk,hb2⟩
  have SR:Hid (Srt (K.map (·.1))):=by show Srt _;rw[hKL];exact (unhide HRC).srt
  have EQ:Hid (Yb name 0 (O.drop 0) (K.map (·.1))=(x2,M2)):=by show _=_;rw[hKL];exact unhide H2
  have LN:Hid (K.length≤720):=by show _≤_;rw[←List.length_map (f:=fun (x:CV)=>x.1),hKL];exact (unhide HRC).len
  clear hKL hlk ho hb2 C1 x00 x01 x02 x10 xl xl2 H2
  go_wp2
  go_loopw [0,28] (fun rv i wr=>∃ (k:Nat) (K:List CV),k≤no∧i = .int .i64 k∧Hid (K.length≤720)∧Hid (Rv1 w X0 wr rv K)∧Hid (Srt (K.map (·.1)))∧Hid (Yb name k (O.drop k) (K.map (·.1))=(x2,M2))) (fun _ i _=>no - (intOf i).toNat)
  case atStart=>exact⟨0,K,Nat.zero_le _,rfl,LN,ST,SR,EQ⟩
  case round=>
   clear ST EQ LN SR xb xbl
   obtain⟨k,K,hk,rfl,HLN,HS,HSR,HE⟩:=hrel
   have HWR:=hide (bel_on (unhide HB0) (unhide HS).bel)
   have BT:=hide (((unhide HS).bel.block _ (lt_of_block (unhide HX1))).trans (unhide HX1))
   have BU:=hide (((unhide HS).bel.block _ (lt_of_block (unhide HX2))).trans (unhide HX2))
   have hlw:∀ x∈K,LkAt wr x:=fun x hx=>((unhide HS).lks x hx).later (unhide HWR)
   obtain⟨ra,rc,rfl,hco,hso⟩:=Zm (unhide HS).own hlw
   by_cases hlt:k<no
   ·have hlk:k<O.length:=by rw[unhide HZO];exact hlt
    obtain⟨ob,oo,rfl,_,hoc⟩:=(unhide HOW).2 (by omega)
    have hout:=hoc k hlk
    obtain⟨q,hq⟩:∃ q,O[k]=q:=⟨_,rfl⟩
    have BN:=hide (fun L ht=>Pf (name:=name) hlk (L:=L) ht)
    have BL:=hide (fun L M c ht hu=>J2 (name:=name) hlk (L:=L) (M:=M) (c:=c) ht hu)
    have BO:=hide (fun L M c ht hu=>Mb (name:=name) hlk (L:=L) (M:=M) (c:=c) ht hu)
    rw[hq] at hout BL BO
    obtain⟨ov,okk⟩:=q
    obtain⟨g0',la,ln,lc,g1,lO,lS⟩:=hout
    simp only at g0' g1 lO
    have e0:=cell_later (unhide HWR) g0'
    have e1:=cell_later (unhide HWR) g1
    have ol:=World.block_lt_of_cell? _ _ e0
    obtain⟨W1,hW1⟩:∃ W1,W1=wr.alloc (.cells #[.int .i64 ov,.slice la ln lc] 84):=⟨_,rfl⟩
    have hb1:Below wr.heap.size wr W1:=by rw[hW1];exact bel_new _ _
    have p1:W1.heap[wr.heap.size]? = some (.cells [.int .i64 ov,.slice la ln lc].toArray 84 (0,0)):=by rw[hW1];exact heap_alloc_new _ _
    obtain⟨z,hz⟩:∃ z,plc (name,(k:Int)) (K.map (·.1)) 0=z:=⟨_,rfl⟩
    have CP:=hide (Ug ra K.length rc (K.map (·.1)) (name,(k:Int)) z W1 (by have:=unhide HLN;omega) (hco.later hb1) hz)
    have HB1:=hide hb1
    have HP1:=hide p1
    have LOO:=hide lO
    have LSS:=hide lS.len
    clear hb1 hoc lO g0' g1 p1 hco hlw
    go_wp2_with fail
    rw[←hW1]
    clear hW1
    (try go_wp2_with fail)
    refine (unhide CP).mono ?_
    rintro e W2 ⟨rfl,hb2⟩
    have HB2:=hide (bel_on (unhide HB1) hb2)
    have HW2:=hide (bel_on (unhide HWR) (unhide HB2))
    have OB:=hide ((hb2.block _ (lt_of_block (unhide HP1))).trans (unhide HP1))
    clear hb2 CP HB1 HP1 e0 e1
    rcases U9 (name,(k:Int)) (K.map (·.1)) 0 with ⟨hz1,hz2⟩|⟨j,hj,hz1,hz2,hz3⟩
    ·obtain rfl:z = -1:=hz.symm.trans hz1
     have HEE:Hid ((x,M)=((7:Int),([]:List Zb))):=by
      have e:=(unhide BN) _ (Nu hz2)
      rw[unhide HE] at e
      obtain⟨rfl,_⟩:=Prod.mk.inj e
      exact (unhide HX).symm.trans (if_pos (by decide))
     clear hz hz1 hz2 BN BL BO HE HX
     go_wp2_with fail
     go_quiet (fail)
     go_wp2
     go_ret2
     first|exact Xg (unhide HEE) (unhide HW2)|exact Xg (unhide HEE) (bel_on (unhide HW2) ⟨rfl,rfl,rfl,Nat.le_refl _,fun _ _=>rfl⟩)
    ·have hjz:z=(j:Int):=by rw[←hz,hz1];simp
     subst hjz
     have hjK:j<K.length:=by simpa using hj
     have TK:=hide (Th (unhide HSR) j hj hz2)
     obtain⟨cx,hcx⟩:∃ cx,K[j]=cx:=⟨_,rfl⟩
     have hcm:cx∈K:=hcx ▸ List.getElem_mem hjK
     obtain⟨g,rfl⟩:∃ g,ra=some ⟨g,0,none⟩:=by
      rcases (unhide HS).own.2 with ⟨e,q⟩|⟨g,cap,cur,e,_⟩
      ·omega
      ·exact⟨g,by injection e⟩
     have OW2:=hide ((Gr.of (S:=fun _=>False) (unhide HB2)).own (unhide HS).own (fun _ _ q=>q))
     obtain⟨f0,f1,f2,f3,f4,f5⟩:=Ul K j hjK
     have cc:=fun u (hu:u<6)=>World.ownsRow.cellAt (unhide OW2) (j*6+u) (by omega)
     have m2:=(cc 2 (by decide)).trans f2
     have m3:=(cc 3 (by decide)).trans f3
     have hck:=(unhide HS).lks cx hcm
     rw[List.getElem_map,hcx] at TK
     rw[hcx] at m2 m3
     obtain⟨⟨c1,c2,vv,lk,hg,rr⟩,la2,ln2,lc2⟩:=cx
     simp only[cv] at m2 m3
     obtain⟨lO2,lS2⟩:=hck
     simp only[ck] at lO2 lS2
     have o0:=Za (unhide OB) 0 _ rfl
     have o1:=Za (unhide OB) 1 _ rfl
     have ol2:=lt_of_block (unhide OB)
     have gl:g<W2.heap.size:=World.block_lt_of_cell? _ _ m2
     have hj0:¬((j:Int)<0):=by omega
     have hjd:decide ((j:Int)<0)=false:=by simp
     have hjI:(j:Int)<(K.length:Int):=by omega
     have SO:Hid (∀ o W,Below W2.heap.size W2 W→decide ((vv,lk)=(ov,okk))=o→Calls Tryz.prog 47 #[.agg #[.int .i64 vv,.slice la2 ln2 lc2],.agg #[.int .i64 ov,.slice la ln lc]] W fun e w'=>e = .returned (.bool o)∧Below W.heap.size W w'):=fun o W hw ho=>
      Sf (vv,lk) (ov,okk) la2 la ln2 lc2 ln lc o W lS2.len ((lO2.later (unhide HW2)).later hw) (((unhide LOO).later (unhide HW2)).later hw) ho
     clear f0 f1 f2 f3 f4 f5 cc hcm lO2 lS2 hz2 hz3 hz hz1 BN
     by_cases hse:(vv,lk)=(ov,okk)
     ·have C:=hide (fun W hw=>(unhide SO) true W hw (decide_eq_true hse))
      have HE2:Hid (Yb name (k+1) (O.drop (k+1)) ((K.map (·.1)).take j++(K.map (·.1)).drop (j+1))=(x2,M2)):=((unhide BO) _ _ _ (unhide TK) hse).symm.trans (unhide HE)
      clear SO hse BL BO HE
      go_wp2_with fail
      go_region_held3 (fun w'=>Below W2.heap.size W2 w'∧w'.cell? ⟨wr.heap.size,0,none⟩=some (.int .i64 ov)∧w'.cell? ⟨wr.heap.size,1,none⟩=some (.slice la ln lc)∧w'.cell? ⟨g,j*6+2,none⟩=some (.int .i64 vv)∧w'.cell? ⟨g,j*6+3,none⟩=some (.slice la2 ln2 lc2))
       (first
       | exact⟨Zc _,o0,o1,m2,m3⟩
       | (go_split_ands;refine⟨bel_on (by assumption) hbc,cell_later hbc (by assumption),cell_later hbc (by assumption),cell_later hbc (by assumption),cell_later hbc (by assumption)⟩))
       (first|(go_at_call 47;go_split_ands;refine ((unhide C) _ (by assumption)).mono ?_;rintro e w' ⟨rfl,hbc⟩))
      rename_i hH
      have HB3:=hide (bel_on (unhide HB2) hH.1)
      have OW3:=(Gr.of (S:=fun _=>False) hH.1).own (unhide OW2) (fun _ _ q=>q)
      have CD:Hid (Calls Tryz.prog 89 #[.slice (some ⟨g,0,none⟩) K.length rc,.int .i64 j,.int .i64 ((j:Int)+1)] w' fun e w2=>e = .returned (.slice (some ⟨g,0,none⟩) (K.length - 1) rc)∧w2.ownsRow X0.heap.size 88 6 (.slice (some ⟨g,0,none⟩) (K.length - 1) rc) (K.length - 1) (Ze (K.take j++K.drop (j+1)))∧w'.grownBy w2 (some g)):=by
       have q:=Jy X0.heap.size g K.length rc j (j+1) K w' hjK rfl rfl OW3
       rw[show ((j+1:Nat):Int)=(j:Int)+1 by omega] at q
       exact q
      have OW3h:=hide OW3
      have hjb:(j:Int)≤720:=by have:=unhide HLN;omega
      clear hH OW3 o0 o1 m2 m3 C
      go_wp2_with fail
      refine (unhide CD).mono ?_
      rintro e w4 ⟨rfl,ho4,hg4⟩
      have hnl:(K.take j++K.drop (j+1)).length=K.length - 1:=by rw[List.length_append,List.length_take,List.length_drop];omega
      have hmp:(K.take j++K.drop (j+1)).map (·.1)=(K.map (·.1)).take j++(K.map (·.1)).drop (j+1):=by rw[List.map_append,List.map_take,List.map_drop]
      have ST2:Hid (Rv1 w X0 w4 (.slice (some ⟨g,0,none⟩) (K.length - 1) rc) (K.take j++K.drop (j+1))):=by
       refine⟨by rw[hnl];exact ho4,fun x hx=>?_,?_⟩
       ·rcases List.mem_append.1 hx with hx|hx
        ·exact (unhide HS).lks x (List.mem_of_mem_take hx)
        ·exact (unhide HS).lks x (List.mem_of_mem_drop hx)
       ·have hb3:=bel_on (unhide HS).bel (unhide HB3)
        exact hb3.grown hg4 hb3.size (Yp (unhide OW3h))
      have SR2:Hid (Srt ((K.take j++K.drop (j+1)).map (·.1))):=by show Srt _;rw[hmp];exact U5 (unhide TK) (unhide HSR)
      have HE3:Hid (Yb name (k+1) (O.drop (k+1)) ((K.take j++K.drop (j+1)).map (·.1))=(x2,M2)):=by show _=_;rw[hmp];exact unhide HE2
      have L3:Hid ((K.take j++K.drop (j+1)).length≤720):=by show _≤_;rw[hnl];have:=unhide HLN;omega
      clear hnl hmp ho4 hg4 HE2 OW3h CD
      go_wp2
      go_roundw
      case rel=>exact⟨k+1,_,by omega,by go_num,L3,ST2,SR2,HE3⟩
      case measure=>simp[intOf];omega
     ·have C:=hide (fun W hw=>(unhide SO) false W hw (decide_eq_false hse))
      have HEE:Hid ((x,M)=((7:Int),([]:List Zb))):=by
       have e:=(unhide BL) _ _ _ (unhide TK) hse
       rw[unhide HE] at e
       obtain⟨rfl,_⟩:=Prod.mk.inj e
       exact (unhide HX).symm.trans (if_pos (by decide))
      clear SO hse BL BO HE HX
      go_wp2_with fail
      go_region_held3 (fun w'=>Below W2.heap.size W2 w'∧w'.cell? ⟨wr.heap.size,0,none⟩=some (.int .i64 ov)∧w'.cell? ⟨wr.heap.size,1,none⟩=some (.slice la ln lc)∧w'.cell? ⟨g,j*6+2,none⟩=some (.int .i64 vv)∧w'.cell? ⟨g,j*6+3,none⟩=some (.slice la2 ln2 lc2))
       (first
       | exact⟨Zc _,o0,o1,m2,m3⟩
       | (go_split_ands;refine⟨bel_on (by assumption) hbc,cell_later hbc (by assumption),cell_later hbc (by assumption),cell_later hbc (by assumption),cell_later hbc (by assumption)⟩))
       (first|(go_at_call 47;go_split_ands;refine ((unhide C) _ (by assumption)).mono ?_;rintro e w' ⟨rfl,hbc⟩))
      rename_i hH
      have HW3:=hide (bel_on (unhide HW2) hH.1)
      clear hH
      go_wp2
      go_ret2
      exact Xg (unhide HEE) (unhide HW3)
   ·obtain rfl:k=no:=by omega
    have e:=unhide HE
    rw[H6 (by rw[unhide HZO];exact Nat.le_refl _)] at e
    obtain⟨e0,e1⟩:=Prod.mk.inj e
    subst e0 e1
    have HX2':=unhide HX
    rw[if_neg (by decide)] at HX2'
    have HXa:=hide HX2'
    have uub:=Za (unhide BU) 0 _ rfl
    have uul:=lt_of_block (unhide BU)
    have P0:Hid ((K.map (·.1)).Perm (K.map (·.1))∧Srt (K.map (·.1))):=⟨List.Perm.refl _,unhide HSR⟩
    have N0:Hid (K.length≤720+0):=unhide HLN
    have E0:Hid (Yg (I.drop 0) (S.drop 0) (K.map (·.1))=(x3,M3)):=unhide H3
    clear HX HX2' e HE H3 hlt HSR HLN BT BU HWR hco hlw
    go_wp2
    go_loopw [0,59] (fun rv i wr=>∃ (k:Nat) (K:List CV) (G:List Zb),k≤ns∧i = .int .i64 k∧Hid (K.length≤720+k)∧Hid (Rv1 w X0 wr rv K)∧Hid ((K.map (·.1)).Perm G∧Srt G)∧Hid (Yg (I.drop k) (S.drop k) G=(x3,M3))) (fun _ i _=>ns - (intOf i).toNat)
    case atStart=>exact⟨0,K,K.map (·.1),Nat.zero_le _,rfl,N0,HS,P0,E0⟩
    case round=>
     clear HS P0 N0 E0 uub uul
     obtain⟨k,K,G,hk,rfl,HLN,HS,HP,HE⟩:=hrel
     have HX:=HXa
     have HWR:=hide (bel_on (unhide HB0) (unhide HS).bel)
     have BT:=hide (((unhide HS).bel.block _ (lt_of_block (unhide HX1))).trans (unhide HX1))
     have hlw:∀ x∈K,LkAt wr x:=fun x hx=>((unhide HS).lks x hx).later (unhide HWR)
     obtain⟨ra,rc,rfl,hco,hso⟩:=Zm (unhide HS).own hlw
     by_cases hlt:k<ns
     ·have hlk:k<S.length:=by rw[unhide HZS];exact hlt
      have hli:k<I.length:=by rw[unhide HZI];exact hlt
      obtain⟨sb,so,rfl,_,hsc⟩:=(unhide HSW).2 (by omega)
      obtain⟨ib,io,rfl,_,hic⟩:=(unhide HIW).2 (by omega)
      have hcn:=hsc k hlk
      have hin:=hic k hli
      obtain⟨q,hq⟩:∃ q,S[k]=q:=⟨_,rfl⟩
      obtain⟨r,hr⟩:∃ r,I[k]=r:=⟨_,rfl⟩
      have PN:=hide (fun hh=>Lb hli hlk (L:=G) hh)
      have PO:=hide (fun hh=>La hli hlk (L:=G) hh)
      rw[hq] at hcn
      rw[hr] at hin
      rw[hq,hr] at PN PO
      obtain⟨la,ln,lc,g0',g1,g2,g3,g4,g5,lO,lS⟩:=hcn.val
      obtain⟨f1,f2,ka,kn,kc,f3,f4,_⟩:=hin
      obtain⟨c1,c2,vv,lk,hg,rr⟩:=q
      obtain⟨r1,r2,rk⟩:=r
      simp only[cv,ch,cr,ck,pt] at g0' g1 g2 g3 g4 g5 lO f1 f2 f3 PN PO
      have e0:=cell_later (unhide HWR) g0'
      have e1:=cell_later (unhide HWR) g1
      have e2:=cell_later (unhide HWR) g2
      have e3:=cell_later (unhide HWR) g3
      have e4:=cell_later (unhide HWR) g4
      have e5:=cell_later (unhide HWR) g5
      have ol:=World.block_lt_of_cell? _ _ e0
      obtain⟨W1,hW1⟩:∃ W1,W1=wr.alloc (.cells #[.int .i64 c1,.int .i64 c2,.int .i64 vv,.slice la ln lc,.int .i64 hg,.bool rr] 88):=⟨_,rfl⟩
      have hb1:Below wr.heap.size wr W1:=by rw[hW1];exact bel_new _ _
      have pw:W1.heap[wr.heap.size]? = some (.cells [.int .i64 c1,.int .i64 c2,.int .i64 vv,.slice la ln lc,.int .i64 hg,.bool rr].toArray 88 (0,0)):=by rw[hW1];exact heap_alloc_new _ _
      have n1:=cell_later hb1 (cell_later (unhide HWR) f1)
      have n2:=cell_later hb1 (cell_later (unhide HWR) f2)
      have t1:=cell_later hb1 (Za (unhide BT) 1 _ rfl)
      have p0:=Za pw 0 _ rfl
      have p1:=Za pw 1 _ rfl
      have LK:Hid (LkAt w (((c1,c2,vv,lk,hg,rr):Zb),la,ln,lc)):=⟨lO,lS⟩
      obtain⟨z,hz⟩:∃ z,plc (c1,c2) (K.map (·.1)) 0=z:=⟨_,rfl⟩
      have CP:=hide (fun W (hw:Below W1.heap.size W1 W)=>Ug ra K.length rc (K.map (·.1)) (c1,c2) z W (by have:=unhide HLN;omega) ((hco.later hb1).later hw) hz)
      have HB1:=hide hb1
      have HPW:=hide pw
      have hk0:(0:Int)≤(k:Int):=Int.natCast_nonneg _
      have hk1:(k:Int)<(ns:Int):=by omega
      clear hb1 pw hsc hic g0' g1 g2 g3 g4 g5 f1 f2 f3 f4 lO hco hcn
      rcases U9 (c1,c2) (K.map (·.1)) 0 with ⟨hz1,hz2⟩|⟨j,hj,hz1,hz2,hz3⟩
      ·obtain rfl:z = -1:=hz.symm.trans hz1
       have HF:Hid (Yv (c1,c2) G=false):=by show _=_;rw[←Ua (unhide HP).1];exact hz2
       clear hz hz1 hz2
       by_cases q1:c1=r1
       ·subst q1
        by_cases q2:c2=r2
        ·subst q2
         have HE2:Hid (Yg (I.drop (k+1)) (S.drop (k+1)) (Xy (c1,c2,vv,lk,hg,rr) G)=(x3,M3)):=((unhide PO) (by rintro (q|q);exact q rfl;rw[unhide HF] at q;exact Bool.noConfusion q)).symm.trans (unhide HE)
         clear PN PO HE
         go_wp2_with fail
         rw[←hW1]
         clear hW1
         go_region_held3 (fun w'=>Below W1.heap.size W1 w'∧w'.cell? ⟨wr.heap.size,0,none⟩=some (.int .i64 c1)∧w'.cell? ⟨wr.heap.size,1,none⟩=some (.int .i64 c2)∧w'.cell? ⟨w.heap.size,1,none⟩=some (.slice (some ⟨ib,io,none⟩) ns ci)∧w'.cell? ⟨ib,io+k*3,none⟩=some (.int .i64 c1)∧w'.cell? ⟨ib,io+k*3+1,none⟩=some (.int .i64 c2))
       (first
       | exact⟨Zc _,p0,p1,t1,n1,n2⟩
       | (go_split_ands;refine⟨bel_on (by assumption) hbc,cell_later hbc (by assumption),cell_later hbc (by assumption),cell_later hbc (by assumption),cell_later hbc (by assumption),cell_later hbc (by assumption)⟩))
       (first|(go_at_call 85;go_split_ands;refine ((unhide CP) _ (by assumption)).mono ?_;rintro e w' ⟨rfl,hbc⟩))
         rename_i hH
         have HB3:=hide (bel_on (unhide HB1) hH.1)
         have pw3:=(hH.1.block _ (lt_of_block (unhide HPW))).trans (unhide HPW)
         have k0:=Za pw3 0 _ rfl
         have k1:=Za pw3 1 _ rfl
         have k2:=Za pw3 2 _ rfl
         have k3:=Za pw3 3 _ rfl
         have k4:=Za pw3 4 _ rfl
         have k5:=Za pw3 5 _ rfl
         have kl:=lt_of_block pw3
         have OW3:=(Gr.of (S:=fun _=>False) (unhide HB3)).own (unhide HS).own (fun _ _ q=>q)
         obtain⟨W3,hW3⟩:∃ W3,W3=w':=⟨_,rfl⟩
         rw[←hW3] at HB3 pw3 k0 k1 k2 k3 k4 k5 kl OW3 ⊢
         have hbn:=bel_new W3 (.cells #[.int .i64 c1,.int .i64 c2,.int .i64 vv,.slice la ln lc,.int .i64 hg,.bool rr] 88)
         have OWN5:=hide ((Gr.of (S:=fun _=>False) hbn).own OW3 (fun _ _ q=>q))
         have NEWS:=hide (World.news_of_block (heap_alloc_new W3 (.cells #[.int .i64 c1,.int .i64 c2,.int .i64 vv,.slice la ln lc,.int .i64 hg,.bool rr] 88)))
         have hbX:=bel_on (unhide HS).bel (unhide HB3)
         have YS:X0.heap.size≤(W3.alloc (.cells #[.int .i64 c1,.int .i64 c2,.int .i64 vv,.slice la ln lc,.int .i64 hg,.bool rr] 88)).heap.size:=Nat.le_trans hbX.size hbn.size
         have HBXN:=hide (bel_on hbX hbn)
         have KL:K.length≤726:=by have:=unhide HLN;omega
         obtain⟨i0,hi,hz0,zi1,zi2⟩:=info_parts Tryz.infoCoin
         clear hH OW3 hbn hbX hW3 p0 p1 t1 n1 n2 CP pw3
         go_wp2_with (at_builtin;refine wpList_append_lies _ rfl _ _ 25 rfl X0.heap.size 88 i0 zeroC 6 64 Tryz.underlying25 hi hz0 zi1 zi2 rfl (by decide) _ _ _ rfl (unhide OWN5) ⟨W3.heap.size,0,none⟩ 1 1 [.int .i64 c1,.int .i64 c2,.int .i64 vv,.slice la ln lc,.int .i64 hg,.bool rr] rfl rfl (unhide NEWS) (fun u hu=>by simp at hu;rcases hu with rfl|rfl|rfl|rfl|rfl|rfl <;> rfl) (by decide) (by unfold maxLen;omega) (by omega) YS _ rfl ?_;intro g7 cap7 w7 hown7 hgrow7 hor7 _;have HO7:=hide hown7;have HG7:=hide hgrow7;clear hown7 hgrow7 hor7)
         have ST2:Hid (Rv1 w X0 w7 (.slice (some ⟨g7,0,none⟩) (K.length+1) cap7) (K++[(((c1,c2,vv,lk,hg,rr):Zb),la,ln,lc)])):=by
          refine⟨?_,fun x hx=>?_,(unhide HBXN).grown (unhide HG7) (unhide HBXN).size (Yp (unhide OWN5))⟩
          ·rw[List.length_append,Zk]
           exact unhide HO7
          ·rcases List.mem_append.1 hx with hx|hx
           ·exact (unhide HS).lks x hx
           ·rw[List.mem_singleton.1 hx];exact unhide LK
         have P3:Hid (((K++[(((c1,c2,vv,lk,hg,rr):Zb),la,ln,lc)]).map (·.1)).Perm (Xy (c1,c2,vv,lk,hg,rr) G)∧Srt (Xy (c1,c2,vv,lk,hg,rr) G)):=by
          refine⟨?_,X2 (unhide HP).2⟩
          rw[List.map_append]
          exact U8 (unhide HP).1 (unhide HF)
         have L3:Hid ((K++[(((c1,c2,vv,lk,hg,rr):Zb),la,ln,lc)]).length≤720+(k+1)):=by show _≤_;rw[List.length_append];have:=unhide HLN;simp;omega
         go_wp2
         go_roundw
         case rel=>exact⟨k+1,_,_,by omega,by go_num,L3,ST2,P3,HE2⟩
         case measure=>simp[intOf];omega
        ·have hne:(c2 == r2)=false:=by simp[q2]
         have HEE:Hid ((x,M)=((6:Int),([]:List Zb))):=by
          have e:=(unhide PN) (.inl (fun e=>q2 (by injection e)))
          rw[unhide HE] at e
          obtain⟨rfl,_⟩:=Prod.mk.inj e
          exact (unhide HX).symm.trans (if_pos (by decide))
         clear PN PO HE HX
         go_wp2_with fail
         rw[←hW1]
         clear hW1
         go_region_held3 (fun w'=>Below W1.heap.size W1 w'∧w'.cell? ⟨wr.heap.size,0,none⟩=some (.int .i64 c1)∧w'.cell? ⟨wr.heap.size,1,none⟩=some (.int .i64 c2)∧w'.cell? ⟨w.heap.size,1,none⟩=some (.slice (some ⟨ib,io,none⟩) ns ci)∧w'.cell? ⟨ib,io+k*3,none⟩=some (.int .i64 c1)∧w'.cell? ⟨ib,io+k*3+1,none⟩=some (.int .i64 r2))
                (first
                | exact⟨Zc _,p0,p1,t1,n1,n2⟩
                | (go_split_ands;refine⟨bel_on (by assumption) hbc,cell_later hbc (by assumption),cell_later hbc (by assumption),cell_later hbc (by assumption),cell_later hbc (by assumption),cell_later hbc (by assumption)⟩))
                (first|(go_at_call 85;go_split_ands;refine ((unhide CP) _ (by assumption)).mono ?_;rintro e w' ⟨rfl,hbc⟩))
         rename_i hH
         have HW3:=hide (bel_on (bel_on (unhide HWR) (unhide HB1)) hH.1)
         clear hH
         go_wp2
         go_ret2
         exact Xg (unhide HEE) (unhide HW3)
       ·have hne:(c1 == r1)=false:=by simp[q1]
        have HEE:Hid ((x,M)=((6:Int),([]:List Zb))):=by
         have e:=(unhide PN) (.inl (fun e=>q1 (by injection e)))
         rw[unhide HE] at e
         obtain⟨rfl,_⟩:=Prod.mk.inj e
         exact (unhide HX).symm.trans (if_pos (by decide))
        clear PN PO HE HX
        go_wp2_with fail
        rw[←hW1]
        clear hW1
        go_region_held3 (fun w'=>Below W1.heap.size W1 w'∧w'.cell? ⟨wr.heap.size,0,none⟩=some (.int .i64 c1)∧w'.cell? ⟨wr.heap.size,1,none⟩=some (.int .i64 c2)∧w'.cell? ⟨w.heap.size,1,none⟩=some (.slice (some ⟨ib,io,none⟩) ns ci)∧w'.cell? ⟨ib,io+k*3,none⟩=some (.int .i64 r1)∧w'.cell? ⟨ib,io+k*3+1,none⟩=some (.int .i64 r2))
               (first
               | exact⟨Zc _,p0,p1,t1,n1,n2⟩
               | (go_split_ands;refine⟨bel_on (by assumption) hbc,cell_later hbc (by assumption),cell_later hbc (by assumption),cell_later hbc (by assumption),cell_later hbc (by assumption),cell_later hbc (by assumption)⟩))
               (first|(go_at_call 85;go_split_ands;refine ((unhide CP) _ (by assumption)).mono ?_;rintro e w' ⟨rfl,hbc⟩))
        rename_i hH
        have HW3:=hide (bel_on (bel_on (unhide HWR) (unhide HB1)) hH.1)
        clear hH
        go_wp2
        go_ret2
        exact Xg (unhide HEE) (unhide HW3)
      ·have hjz:z=(j:Int):=by rw[←hz,hz1];simp
       subst hjz
       have hge:¬((j:Int)<0):=by omega
       have hgd:decide ((0:Int)≤(j:Int))=true:=by simp
       have HEE:Hid ((x,M)=((6:Int),([]:List Zb))):=by
        have e:=(unhide PN) (.inr (by rw[←Ua (unhide HP).1];exact hz3))
        rw[unhide HE] at e
        obtain⟨rfl,_⟩:=Prod.mk.inj e
        exact (unhide HX).symm.trans (if_pos (by decide))
       clear PN PO HE HX
       go_wp2_with fail
       rw[←hW1]
       clear hW1
       have pl:=World.block_lt_of_cell? _ _ p0
       have KS:Hid (∀ W,Below W1.heap.size W1 W→(fun W=>Below W1.heap.size W1 W∧W.cell? ⟨wr.heap.size,0,none⟩=some (.int .i64 c1)∧W.cell? ⟨wr.heap.size,1,none⟩=some (.int .i64 c2)∧wr.heap.size<W.heap.size) W):=fun W hb=>⟨hb,cell_later hb p0,cell_later hb p1,Nat.lt_of_lt_of_le pl hb.size⟩
       refine wp_region_held_drew (S:=fun W=>Below W1.heap.size W1 W∧W.cell? ⟨wr.heap.size,0,none⟩=some (.int .i64 c1)∧W.cell? ⟨wr.heap.size,1,none⟩=some (.int .i64 c2)∧wr.heap.size<W.heap.size) (by kernel_rfl) ((unhide KS) _ (Zc _)) (fun hHeld=>?_)
       refine wpAnyH_take (i:=0) (oi:={ dst:=some 64,op:=Op.move (Operand.tmp 0),type:=25,pos:= "second.go:132",after:=#[],guard:=none }) (v:=?_) rfl (by kernel_rfl) (by kernel_rfl) (by kernel_rfl) (fun _ _ _ h=>h) (Or.inl ⟨by rfl,?_⟩) hHeld ?_
       rotate_left
       ·(intro W hSw;(try dsimp only at hSw);go_simp;first|done|with_reducible rfl)
       (try simp only[Act.put,List.setIfInBounds_toArray,List.set_cons_zero,List.set_cons_succ])
       refine wpAnyH_take (i:=1) (oi:={ dst:=some 65,op:=Op.fieldAddr 88 (Operand.tmp 14) 0,type:=0,pos:= "second.go:132",after:=#[],guard:=none }) (v:=?_) rfl (by kernel_rfl) (by kernel_rfl) (by kernel_rfl) (fun _ _ _ h=>h) (Or.inl ⟨by rfl,?_⟩) hHeld ?_
       rotate_left
       ·(intro W hSw;(try dsimp only at hSw);go_simp;first|done|with_reducible rfl)
       (try simp only[Act.put,List.setIfInBounds_toArray,List.set_cons_zero,List.set_cons_succ])
       refine wpAnyH_take (i:=2) (oi:={ dst:=some 66,op:=Op.load 86 (Operand.tmp 65),type:=86,pos:= "second.go:132",after:=#[{ on:=1,ground:=Ground.data }],guard:=none }) (v:=?_) rfl (by kernel_rfl) (by kernel_rfl) (by kernel_rfl) (fun _ _ _ h=>h) (Or.inl ⟨by rfl,?_⟩) hHeld ?_
       rotate_left
       ·(intro W hSw;(try dsimp only at hSw);go_simp;first|done|with_reducible rfl)
       (try simp only[Act.put,List.setIfInBounds_toArray,List.set_cons_zero,List.set_cons_succ])
       refine wpAnyH_ready (rs:=[3]) (by kernel_rfl) (by simp) ?_
       refine AllReadyH.cons (o:={ dst:=some 67,op:=Op.call { callee:=Callee.value (Operand.func 85),args:=#[Operand.tmp 64,Operand.tmp 66],argTypes:=#[25,86] },type:=3,pos:= "second.go:132",after:=#[{ on:=0,ground:=Ground.data },{ on:=2,ground:=Ground.data }],guard:=none }) rfl (fun K0 hK=>?_) AllReadyH.nil
       refine Xe (by kernel_rfl) 85 #[.slice ra K.length rc,.agg #[.int .i64 c1,.int .i64 c2]] (by kernel_rfl) ((unhide CP) _ (Zc _)) ?_
       rintro e W3 ⟨rfl,hb3⟩
       refine⟨_,rfl,?_⟩
       have HB3:=hide (bel_on (Zc W1) hb3)
       refine hK.out _ _ ((unhide KS) _ (unhide HB3)) (fun hHeld2=>?_)
       clear hK K0 hHeld
       have hHeld:=hHeld2
       clear hHeld2
       (try simp only[Act.put,List.setIfInBounds_toArray,List.set_cons_zero,List.set_cons_succ])
       refine wpAnyH_take (i:=4) (oi:={ dst:=some 68,op:=Op.binOp BinOp.geq 3 (Operand.tmp 67) (Operand.const (Value.int IntKind.i64 0)) 3,type:=4,pos:= "second.go:132",after:=#[{ on:=3,ground:=Ground.data }],guard:=none }) (v:=.bool true) rfl (by kernel_rfl) (by kernel_rfl) (by kernel_rfl) (fun _ _ _ h=>h) (Or.inl ⟨by rfl,?_⟩) hHeld ?_
       ·(intro W hSw;(try dsimp only at hSw);go_simp;first|done|(rw[hgd];done)|(simp;done))
       (try simp only[Act.put,List.setIfInBounds_toArray,List.set_cons_zero,List.set_cons_succ])
       refine wpAnyH_take (i:=5) (oi:={ dst:=some 69,op:=Op.move (Operand.tmp 68),type:=4,pos:= "second.go:132",after:=#[{ on:=4,ground:=Ground.data },{ on:=3,ground:=Ground.chain }],guard:=none }) (v:=?_) rfl (by kernel_rfl) (by kernel_rfl) (by kernel_rfl) (fun _ _ _ h=>h) (Or.inl ⟨by rfl,?_⟩) hHeld ?_
       rotate_left
       ·(intro W hSw;(try dsimp only at hSw);go_simp;first|done|with_reducible rfl)
       (try simp only[Act.put,List.setIfInBounds_toArray,List.set_cons_zero,List.set_cons_succ])
       refine wpAnyH_take (i:=6) (oi:={ dst:=some 70,op:=Op.fieldAddr 88 (Operand.tmp 14) 0,type:=0,pos:= "second.go:132",after:=#[{ on:=5,ground:=Ground.guard }],guard:=some (5,false) }) (v:=undef) rfl (by kernel_rfl) (by kernel_rfl) (by kernel_rfl) (fun _ _ _ h=>h) (Or.inr ⟨by rfl,rfl⟩) hHeld ?_
       (try simp only[Act.put,List.setIfInBounds_toArray,List.set_cons_zero,List.set_cons_succ])
       refine wpAnyH_take (i:=7) (oi:={ dst:=some 71,op:=Op.load 86 (Operand.tmp 70),type:=86,pos:= "second.go:132",after:=#[{ on:=6,ground:=Ground.data },{ on:=5,ground:=Ground.guard }],guard:=some (5,false) }) (v:=undef) rfl (by kernel_rfl) (by kernel_rfl) (by kernel_rfl) (fun _ _ _ h=>h) (Or.inr ⟨by rfl,rfl⟩) hHeld ?_
       (try simp only[Act.put,List.setIfInBounds_toArray,List.set_cons_zero,List.set_cons_succ])
       refine wpAnyH_take (i:=8) (oi:={ dst:=some 72,op:=Op.fieldAddr 74 (Operand.tmp 5) 1,type:=0,pos:= "second.go:132",after:=#[{ on:=5,ground:=Ground.guard }],guard:=some (5,false) }) (v:=undef) rfl (by kernel_rfl) (by kernel_rfl) (by kernel_rfl) (fun _ _ _ h=>h) (Or.inr ⟨by rfl,rfl⟩) hHeld ?_
       (try simp only[Act.put,List.setIfInBounds_toArray,List.set_cons_zero,List.set_cons_succ])
       refine wpAnyH_take (i:=9) (oi:={ dst:=some 73,op:=Op.load 71 (Operand.tmp 72),type:=71,pos:= "second.go:132",after:=#[{ on:=8,ground:=Ground.data },{ on:=5,ground:=Ground.guard }],guard:=some (5,false) }) (v:=undef) rfl (by kernel_rfl) (by kernel_rfl) (by kernel_rfl) (fun _ _ _ h=>h) (Or.inr ⟨by rfl,rfl⟩) hHeld ?_
       (try simp only[Act.put,List.setIfInBounds_toArray,List.set_cons_zero,List.set_cons_succ])
       refine wpAnyH_take (i:=10) (oi:={ dst:=some 74,op:=Op.move (Operand.tmp 13),type:=3,pos:= "second.go:132",after:=#[{ on:=5,ground:=Ground.guard }],guard:=some (5,false) }) (v:=undef) rfl (by kernel_rfl) (by kernel_rfl) (by kernel_rfl) (fun _ _ _ h=>h) (Or.inr ⟨by rfl,rfl⟩) hHeld ?_
       (try simp only[Act.put,List.setIfInBounds_toArray,List.set_cons_zero,List.set_cons_succ])
       refine wpAnyH_take (i:=11) (oi:={ dst:=some 75,op:=Op.indexAddr 71 (Operand.tmp 73) (Operand.tmp 74),type:=0,pos:= "second.go:132",after:=#[{ on:=9,ground:=Ground.data },{ on:=10,ground:=Ground.data },{ on:=5,ground:=Ground.guard }],guard:=some (5,false) }) (v:=undef) rfl (by kernel_rfl) (by kernel_rfl) (by kernel_rfl) (fun _ _ _ h=>h) (Or.inr ⟨by rfl,rfl⟩) hHeld ?_
       (try simp only[Act.put,List.setIfInBounds_toArray,List.set_cons_zero,List.set_cons_succ])
       refine wpAnyH_take (i:=12) (oi:={ dst:=some 76,op:=Op.fieldAddr 140 (Operand.tmp 75) 0,type:=0,pos:= "second.go:132",after:=#[{ on:=11,ground:=Ground.data },{ on:=5,ground:=Ground.guard }],guard:=some (5,false) }) (v:=undef) rfl (by kernel_rfl) (by kernel_rfl) (by kernel_rfl) (fun _ _ _ h=>h) (Or.inr ⟨by rfl,rfl⟩) hHeld ?_
       (try simp only[Act.put,List.setIfInBounds_toArray,List.set_cons_zero,List.set_cons_succ])
       refine wpAnyH_take (i:=13) (oi:={ dst:=some 77,op:=Op.load 86 (Operand.tmp 76),type:=86,pos:= "second.go:132",after:=#[{ on:=12,ground:=Ground.data },{ on:=5,ground:=Ground.guard }],guard:=some (5,false) }) (v:=undef) rfl (by kernel_rfl) (by kernel_rfl) (by kernel_rfl) (fun _ _ _ h=>h) (Or.inr ⟨by rfl,rfl⟩) hHeld ?_
       (try simp only[Act.put,List.setIfInBounds_toArray,List.set_cons_zero,List.set_cons_succ])
       refine wpAnyH_take (i:=14) (oi:={ dst:=some 78,op:=Op.binOp BinOp.neq 86 (Operand.tmp 71) (Operand.tmp 77) 86,type:=4,pos:= "second.go:132",after:=#[{ on:=7,ground:=Ground.data },{ on:=13,ground:=Ground.data },{ on:=5,ground:=Ground.guard }],guard:=some (5,false) }) (v:=undef) rfl (by kernel_rfl) (by kernel_rfl) (by kernel_rfl) (fun _ _ _ h=>h) (Or.inr ⟨by rfl,rfl⟩) hHeld ?_
       (try simp only[Act.put,List.setIfInBounds_toArray,List.set_cons_zero,List.set_cons_succ])
       refine wpAnyH_take (i:=15) (oi:={ dst:=some 79,op:=Op.pick (Operand.tmp 69) (Operand.const (Value.bool true)) (Operand.tmp 78),type:=4,pos:= "second.go:132",after:=#[{ on:=5,ground:=Ground.data },{ on:=14,ground:=Ground.data }],guard:=none }) (v:=?_) rfl (by kernel_rfl) (by kernel_rfl) (by kernel_rfl) (fun _ _ _ h=>h) (Or.inl ⟨by rfl,?_⟩) hHeld ?_
       rotate_left
       ·(intro W hSw;(try dsimp only at hSw);go_simp;first|done|with_reducible rfl)
       (try simp only[Act.put,List.setIfInBounds_toArray,List.set_cons_zero,List.set_cons_succ])
       refine wpAnyH_done (by kernel_rfl) ?_ _
       clear hHeld KS
       have HW3:=hide (bel_on (bel_on (unhide HWR) (unhide HB1)) (unhide HB3))
       go_wp2
       go_ret2
       exact Xg (unhide HEE) (unhide HW3)
     ·obtain rfl:k=ns:=by omega
      have e:=unhide HE
      rw[Gg (by rw[unhide HZI];exact Nat.le_refl _)] at e
      obtain⟨e0,e1⟩:=Prod.mk.inj e
      subst e0 e1
      have HX2':=unhide HX
      rw[if_neg (by decide)] at HX2'
      have HXb:=hide HX2'
      have CSO:=hide (Aj ra K.length rc (K.map (·.1)) wr (by have:=unhide HLN;omega) hco hso)
      clear HX HX2' e HE hco hlw
      go_wp2_with fail
      refine (unhide CSO).mono ?_
      rintro e w6 ⟨a6,c6,L6,rfl,hc6,hs6,hpm,hwk,hb6⟩
      have e6:L6=G:=Tg hwk (hpm.trans (unhide HP).1) (unhide HP).2
      subst e6
      have CCH:=hide (Wc a6 K.length c6 L6 x4 w6 hc6 (unhide H4))
      have HC6:=hide hc6
      have HW6:=hide (bel_on (unhide HWR) hb6)
      clear hpm hwk hb6 hc6 CSO
      go_wp2_with fail
      refine (unhide CCH).mono ?_
      rintro e w7 ⟨rfl,hb7⟩
      have HW7:=hide (bel_on (unhide HW6) hb7)
      have HC7:=hide ((unhide HC6).later hb7)
      clear hb7 CCH
      by_cases e5:x4=0
      ·subst e5
       have HX2':=unhide HXb
       rw[if_neg (by decide)] at HX2'
       obtain⟨rfl,rfl⟩:=Prod.mk.inj HX2'
       have HEND:Hid (RvR w w7 0 L6 (.returned (.tuple #[.slice a6 K.length c6,.int .i64 0]))):=⟨a6,K.length,c6,rfl,unhide HC7,hs6,unhide HW7⟩
       clear HXb HX2' HC7 HC6
       go_wp2
       go_ret2
       exact unhide HEND
      ·have g9:(x4 != 0)=true:=by simp[e5]
       have HEE:Hid ((x,M)=((x4:Int),([]:List Zb))):=(unhide HXb).symm.trans (if_pos e5)
       clear HXb
       go_wp2
       go_ret2
       exact Xg (unhide HEE) (unhide HW7)
 ·have HEE:=hide (Zcj hRC hTx (by rw[hS.1,hI.1];exact hns) hx)
  have g0:((ns:Int) != (ni:Int))=true:=by simp;omega
  have HB0:=hide hb0
  clear hL sL hI hO hS hRC hTx hx hX1 hX2 hb0
  go_enter Tryz.func44,Tryz.ntmps44
  go_wp2_with fail
  rw[←hX0]
  clear hX0
  go_wp2
  go_ret2
  exact Xg (unhide HEE) (unhide HB0)
end Go.Proofs.YtepmnpapdknocaaGreatDoor

