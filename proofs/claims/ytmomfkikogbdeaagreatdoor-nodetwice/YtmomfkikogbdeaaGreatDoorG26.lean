import Derived.Test.YtmomfkikogbdeaaGreatDoorG25
set_option maxHeartbeats 12800000
set_option maxRecDepth 10000
namespace Go.Proofs.YtmomfkikogbdeaaGreatDoor.Tr
open Go.RowKit
theorem Zem{G B w0s:Nat}{w0 wr w5:World}{g cap n k:Nat}{K:List (List Value)}{T:List Zk}{x:Zk}{u0 u1 u2 u3 u4:Value}(h:Cl blkR 39 B G w0 wr (.slice (some ⟨g,0,none⟩) n cap) n K T k)(hk:k<T.length)(hkK:k<K.length)(hx:T[k]=x)(hb:Below wr.heap.size wr w5)(hf:Fresh w0s w5 (fun w2=>blkR.C w2 [u0,u1,u2,u3,u4] x))(hG:G≤w0s) :
  Cl blkR 39 B G w0 (((((w5.setCell ⟨g,k*5,none⟩ u0).setCell ⟨g,k*5+1,none⟩ u1).setCell ⟨g,k*5+2,none⟩ u2).setCell ⟨g,k*5+3,none⟩ u3).setCell ⟨g,k*5+4,none⟩ u4) (.slice (some ⟨g,0,none⟩) n cap) n (K.set k [u0,u1,u2,u3,u4]) T (k+1):=by
 have h5:=h.keep hb
 refine h5.step hk ?_ ((((((Gr.refl w5 (fun q=>q=g)).one g (k*5) (.inl rfl) _).one g (k*5+1) (.inl rfl) _).one g (k*5+2) (.inl rfl) _).one g (k*5+3) (.inl rfl) _).one g (k*5+4) (.inl rfl) _) ?_
 ·rw[hx]
  exact hf.less hG
 ·have h1:=(((((h5.own.stored (k*5) u0).1.stored (k*5+1) u1).1.stored (k*5+2) u2).1.stored (k*5+3) u3).1.stored (k*5+4) u4).1
  rw[put5 h5.wid k hkK] at h1
  exact h1
def Eb(w:World)(N:List Int)(T:List Zk)(n:Nat)(v1 v2:Value)(wx:World):Prop:=
 ∃ K,AllC blkR w K T∧wx.ownsRow (w.heap.size+2) 3 1 v1 n (N.map (Value.int .i64))∧wx.ownsRow (w.heap.size+2) 39 5 v2 n K.flatten ∧
  wx.heap[w.heap.size]? = some (.cells [v1,v2].toArray 28 (0,0))∧wx.heap[w.heap.size+1]? = some (.cells [.slice none 0 0,.slice none 0 0].toArray 28 (0,0))∧Below w.heap.size w wx
theorem Hk{w W wx:World}{N:List Int}{T:List Zk}{n:Nat}{v1 v2:Value}{K:List (List Value)}(h1:AllC blkR w K T)(o1:W.ownsRow (w.heap.size+2) 3 1 v1 n (N.map (Value.int .i64)))(o2:W.ownsRow (w.heap.size+2) 39 5 v2 n K.flatten)(hb:Below w.heap.size w W)
  (hz:W.heap[w.heap.size+1]? = some (.cells [.slice none 0 0,.slice none 0 0].toArray 28 (0,0))) (hg:Gr W wx (fun q=>q=w.heap.size)) (hx:wx.heap[w.heap.size]? = some (.cells [v1,v2].toArray 28 (0,0))):Eb w N T n v1 v2 wx:=
 ⟨K,h1,hg.own o1 (fun k hk=>by have:=(o1.lt k hk).1;omega),hg.own o2 (fun k hk=>by have:=(o2.lt k hk).1;omega),hx,hg.heap hz (by omega),hg.below hb (by have:=lt_of_block hz;omega) (fun k hk=>by omega)⟩
def BlkSmall(b:Zk):Prop:=b.2.2.2.2.length≤2513169434916∧∀ t∈b.2.2.2.2,TxSmall t
def TreeOwn(B:Nat)(w:World)(v1 v2:Value)(n:Nat)(N:List Int)(T:List Zk):Prop:=
 ∃ K G,w.ownsRow B 3 1 v1 n (N.map (Value.int .i64))∧w.ownsRow B 39 5 v2 n K.flatten∧(∀ q,v1.ownBlock=some q→q<G)∧(∀ q,v2.ownBlock=some q→q<G)∧B≤G∧T.length=n∧Fresh G w (fun w2=>AllC blkR w2 K T)
theorem TreeOwn.gr{B:Nat}{w w':World}{v1 v2:Value}{n:Nat}{N:List Int}{T:List Zk}(h:TreeOwn B w v1 v2 n N T)(g:Gr w w' (fun q=>q<B)):TreeOwn B w' v1 v2 n N T:=by
 obtain⟨K,G,h1,h2,h3,h4,h5,h6,h7⟩:=h
 exact⟨K,G,g.own h1 (fun q hq=>by have:=(h1.lt q hq).1;omega),g.own h2 (fun q hq=>by have:=(h2.lt q hq).1;omega),h3,h4,h5,h6,h7.on (g.mono fun q _ hq=>by omega)⟩
theorem TreeOwn.less{B B':Nat}{w:World}{v1 v2:Value}{n:Nat}{N:List Int}{T:List Zk}(h:TreeOwn B' w v1 v2 n N T)(hb:B≤B'):TreeOwn B w v1 v2 n N T:=by
 obtain⟨K,G,h1,h2,h3,h4,h5,h6,h7⟩:=h
 exact⟨K,G,Y8 h1 hb,Y8 h2 hb,h3,h4,by omega,h6,h7⟩
theorem TreeOwn.read{B:Nat}{w:World}{v1 v2:Value}{n:Nat}{N:List Int}{T:List Zk}(h:TreeOwn B w v1 v2 n N T):∃ a1 c1 a2 c2,v1 = .slice a1 n c1∧v2 = .slice a2 n c2∧IntsAt w a1 n N∧SlOk a1 n c1∧BlksAt w a2 n T∧SlOk a2 n c2:=by
 obtain⟨K,G,h1,h2,h3,h4,h5,h6,h7⟩:=h
 obtain⟨a1,c1,rfl,s1,i1⟩:=Uj h1
 obtain⟨a2,c2,rfl,r2,s2⟩:=rows_of_own blkR h2 h7.now h6
 exact⟨a1,c1,a2,c2,rfl,rfl,i1,s1,r2,s2⟩
theorem clTree_is(a b:Option Addr)(n c d:Nat)(N:List Int)(T:List Zk)(w:World)(hN:IntsAt w a n N)(hT:BlksAt w b n T)(sN:SlOk a n c)(sT:SlOk b n d)(hn:n≤4096)(hs:∀ t∈T,BlkSmall t) :
  Calls Tryz.prog 135 #[.agg #[.slice a n c,.slice b n d]] w fun e w'=>∃ v1 v2,e = .returned (.agg #[v1,v2])∧TreeOwn (w.heap.size+2) w' v1 v2 n N T∧Below w.heap.size w w':=by
 obtain⟨X,hX⟩:∃ X,X=(w.alloc (.cells #[.slice a n c,.slice b n d] 28)).alloc (.cells #[.slice none 0 0,.slice none 0 0] 28):=⟨_,rfl⟩
 have hbX:Below w.heap.size w X:=by rw[hX];exact Zf (Zi _ _) (Zi _ _)
 have hX0:X.heap[w.heap.size]? = some (.cells [.slice a n c,.slice b n d].toArray 28 (0,0)):=by
  rw[hX,Below.heap_alloc _ _ _ (by simp)];exact Yv _ _ _ _
 have hXs:X.heap.size=w.heap.size+2:=by rw[hX];simp
 have hX1:X.heap[w.heap.size+1]? = some (.cells [.slice none 0 0,.slice none 0 0].toArray 28 (0,0)):=by
  rw[hX]
  have:=Yv (w.alloc (.cells #[.slice a n c,.slice b n d] 28)) (.slice none 0 0) (.slice none 0 0) 28
  rw[show (w.alloc (.cells #[.slice a n c,.slice b n d] 28)).heap.size=w.heap.size+1 by simp] at this
  exact this
 have HBX:=Zb hbX
 have HX0:=Zb hX0
 have HX1:=Zb hX1
 have HXs:=Zb hXs
 have HSM:=Zb hs
 have HZN:=Zb hN.1
 have HZT:=Zb hT.1
 have C1:=Zb (Mt a n c N X.drew hn (hN.later (Zf hbX (Zj X))) sN)
 have C2:=Zb (fun W (hb:Below w.heap.size w W)=>Mv b n d T w W (Nat.le_trans hn (by decide)) hT hb sT)
 have x0:=Zd hX0 0 _ rfl
 have x1:=Zd hX0 1 _ rfl
 have xl:=lt_of_block hX0
 clear hbX hX0 hX1 hN hT sN sT hs hXs
 go_enter Tryz.func135,Tryz.ntmps135
 go_upto_region 1 with fail
 rw[←hX]
 clear hX
 go_cut [7,10] from 5 to 12 (fun s7 s10 wx=>Hid (Eb w N T n s7 s10 wx))
 case first=>
  go_region_with (first
   | (go_at_call 47;refine (Za C1).mono ?_;rintro e w3 ⟨v1,rfl,ho1,hb3⟩;have h30:=(hb3.block _ (lt_of_block (Za HX0))).trans (Za HX0);have d0:=Zd h30 0 _ rfl;have d1:=Zd h30 1 _ rfl;have dl:=lt_of_block h30;have HO1:Hid (w3.ownsRow (w.heap.size+2) 3 1 v1 n (N.map (Value.int .i64))):=Y8 ho1 (Nat.le_of_eq (Za HXs).symm);have HB3:=Zb (Zf (Zf (Za HBX) (Zj _)) hb3);have HB3X:=Zb (Zf (Zj X) hb3);clear ho1 hb3 h30)
   | (go_at_call 196;refine ((Za C2) _ (Za HB3)).mono ?_;rintro e w4 ⟨v2,K2,rfl,hA2,ho2,hb4⟩;have hbX4:=Zf (Za HB3X) hb4;have h40:=(hbX4.block _ (lt_of_block (Za HX0))).trans (Za HX0);have h41:=(hbX4.block _ (lt_of_block (Za HX1))).trans (Za HX1);have e0:=Zd h40 0 _ rfl;have e1:=Zd h40 1 _ rfl;have z0:=Zg h40 0;have z1:=Zg h40 1;have el:=lt_of_block h40;have HA2:=Zb hA2;have HO2:Hid (w4.ownsRow (w.heap.size+2) 39 5 v2 n K2.flatten):=Y8 ho2 (by have:=(Za HB3X).size;have:=Za HXs;omega);have HO14:=Zb ((Gr.of (S:=fun _=>False) hb4).own (Za HO1) (fun _ _ q=>q));have HB4:=Zb (Zf (Za HB3) hb4);have H40:=Zb h40;have H41:=Zb h41;obtain⟨a2,c2,rfl,_,_⟩:=Ym (Za HO2);obtain⟨a1,c1,rfl,_,_⟩:=Ym (Za HO1);clear hA2 ho2 hb4 hbX4 h40 h41))
  all_goals
   go_wp2_with fail
   go_meet
   case rel=>
    first
    | exact Hk (W:=w4) (Za HA2) (Za HO14) (Za HO2) (Za HB4) (Za H41) (((Gr.refl w4 (fun q=>q=w.heap.size)).one w.heap.size 0 (.inl rfl) _).one w.heap.size 1 (.inl rfl) _) (set_cells (set_cells (Za H40) 0 _) 1 _)
    | exact Hk (W:=w4) (Za HA2) (Za HO14) (Za HO2) (Za HB4) (Za H41) (((Gr.refl w4 (fun q=>q=w.heap.size)).one w.heap.size 1 (.inl rfl) _).one w.heap.size 0 (.inl rfl) _) (set_cells (set_cells (Za H40) 1 _) 0 _)
 case rest=>
  obtain⟨K1,hA1,ho1,ho2,h0,h1,hb⟩:=Za hcut
  obtain⟨a1,c1,rfl,_,_⟩:=Ym ho1
  obtain⟨a2,c2,rfl,_,_⟩:=Ym ho2
  obtain⟨G,hG⟩:∃ G,wc.heap.size=G:=⟨_,rfl⟩
  have hGw:w.heap.size+2≤G:=by rw[←hG];exact lt_of_block h1
  have ST1:Hid (wc.ownsRow (w.heap.size+2) 3 1 (.slice a1 n c1) n (N.map (Value.int .i64))):=ho1
  have HG1:Hid (∀ q,(Value.slice a1 n c1).ownBlock=some q→q<G):=fun q hq=>by have:=(ho1.lt q hq).2;omega
  have ST2:Hid (Cl blkR 39 (w.heap.size+2) G w wc (.slice a2 n c2) n K1 T 0):=Cl.start ho2 hA1 (Za HZT) (Nat.le_of_eq hG)
  have H0:=Zb h0
  have H1:=Zb h1
  have HB:=Zb hb
  have HGl:Hid (G≤wc.heap.size):=Nat.le_of_eq hG.symm
  have c10:=Zd h0 1 _ rfl
  have cl0:=lt_of_block h0
  clear hcut hA1 ho1 ho2 h0 h1 hb C1 C2 HX0 HX1 HBX x0 x1 xl hG
  go_wp2
  go_loopw [16] (fun i wr=>∃ (k:Nat) (K:List (List Value)),k≤n∧i = .int .i64 k∧Hid (wr.ownsRow (w.heap.size+2) 3 1 (.slice a1 n c1) n (N.map (Value.int .i64)))∧Hid (Cl blkR 39 (w.heap.size+2) G w wr (.slice a2 n c2) n K T k)∧Hid (wr.heap[w.heap.size]? = some (.cells [.slice a1 n c1,.slice a2 n c2].toArray 28 (0,0)))∧Hid (wr.heap[w.heap.size+1]? = some (.cells [.slice none 0 0,.slice none 0 0].toArray 28 (0,0)))∧Hid (Below w.heap.size w wr)∧Hid (G≤wr.heap.size)) (fun i _=>n - (intOf i).toNat)
  case atStart=>exact⟨0,K1,Nat.zero_le _,rfl,ST1,ST2,H0,H1,HB,HGl⟩
  case round=>
   obtain⟨k,K,hk,rfl,HN1,HC1,HB0,HB1,HBr,HGr⟩:=hrel
   clear ST1 ST2 H0 H1 HB HGl c10 cl0
   by_cases hlt:k<n
   ·have hlk:k<T.length:=by rw[Za HZT];exact hlt
    have hkK:k<K.length:=by rw[(Za HC1).len];exact hlk
    obtain⟨g,cap,ev,hgB,hgG,hgl⟩:=(Za HC1).form (by omega)
    cases ev
    obtain⟨ta,tn,tc,eK,hI,sI⟩:=(Za HC1).old k hlk hkK (Nat.le_refl _)
    have hsm:=(Za HSM) _ (List.getElem_mem hlk)
    obtain⟨x,hx⟩:∃ x,T[k]=x:=⟨_,rfl⟩
    rw[hx] at eK hI hsm
    obtain⟨x0,x1,x2,x3,x4⟩:=x
    simp only at eK hI
    have r0:=(Za HC1).cell k hkK 0 (by decide)
    have r1:=(Za HC1).cell k hkK 1 (by decide)
    have r2:=(Za HC1).cell k hkK 2 (by decide)
    have r3:=(Za HC1).cell k hkK 3 (by decide)
    have r4:=(Za HC1).cell k hkK 4 (by decide)
    rw[eK] at r0 r1 r2 r3 r4
    have r0:wr.cell? ⟨g,k*5,none⟩=some (.int .i64 x0):=r0
    have r1:wr.cell? ⟨g,k*5+1,none⟩=some (.int .i64 x1):=r1
    have r2:wr.cell? ⟨g,k*5+2,none⟩=some (.int .i64 x2):=r2
    have r3:wr.cell? ⟨g,k*5+3,none⟩=some (.int .i64 x3):=r3
    have r4:wr.cell? ⟨g,k*5+4,none⟩=some (.slice ta tn tc):=r4
    obtain⟨X1,hX1⟩:∃ X1,X1=wr.alloc (.cells #[.int .i64 x0,.int .i64 x1,.int .i64 x2,.int .i64 x3,.slice ta tn tc] 39):=⟨_,rfl⟩
    have hbX1:Below wr.heap.size wr X1:=by rw[hX1];exact Zi _ _
    have hXX:X1.heap[wr.heap.size]? = some (.cells [.int .i64 x0,.int .i64 x1,.int .i64 x2,.int .i64 x3,.slice ta tn tc].toArray 39 (0,0)):=by rw[hX1];exact Zv _ _ _ _ _ _ _
    have b0:=Zd hXX 0 _ rfl
    have b1:=Zd hXX 1 _ rfl
    have b2:=Zd hXX 2 _ rfl
    have b3:=Zd hXX 3 _ rfl
    have b4:=Zd hXX 4 _ rfl
    have bl:=lt_of_block hXX
    have t1:=Ze hbX1 (Zd (Za HB0) 1 _ rfl)
    have tl:=Nat.lt_of_lt_of_le (lt_of_block (Za HB0)) hbX1.size
    have HBX1:=Zb hbX1
    have hbb:=Zf (Zf (Za HBr) hbX1) (Zj _)
    have CO:=Zb (Rr x0 x1 x2 x3 ta tn tc x4 X1.drew (hI.later hbb) sI (by rw[←hI.1];exact hsm.1) hsm.2)
    have NX:Hid (∀ w5 u0 u1 u2 u3 u4,Below wr.heap.size wr w5→Fresh X1.drew.heap.size w5 (fun w2=>blkR.C w2 [u0,u1,u2,u3,u4] (x0,x1,x2,x3,x4)) →
      Hid ((((((w5.setCell ⟨g,k*5,none⟩ u0).setCell ⟨g,k*5+1,none⟩ u1).setCell ⟨g,k*5+2,none⟩ u2).setCell ⟨g,k*5+3,none⟩ u3).setCell ⟨g,k*5+4,none⟩ u4).ownsRow (w.heap.size+2) 3 1 (.slice a1 n c1) n (N.map (Value.int .i64)))∧Hid (Cl blkR 39 (w.heap.size+2) G w (((((w5.setCell ⟨g,k*5,none⟩ u0).setCell ⟨g,k*5+1,none⟩ u1).setCell ⟨g,k*5+2,none⟩ u2).setCell ⟨g,k*5+3,none⟩ u3).setCell ⟨g,k*5+4,none⟩ u4) (.slice (some ⟨g,0,none⟩) n c2) n (K.set k [u0,u1,u2,u3,u4]) T (k+1))∧Hid ((((((w5.setCell ⟨g,k*5,none⟩ u0).setCell ⟨g,k*5+1,none⟩ u1).setCell ⟨g,k*5+2,none⟩ u2).setCell ⟨g,k*5+3,none⟩ u3).setCell ⟨g,k*5+4,none⟩ u4).heap[w.heap.size]? = some (.cells [.slice a1 n c1,.slice (some ⟨g,0,none⟩) n c2].toArray 28 (0,0)))∧Hid ((((((w5.setCell ⟨g,k*5,none⟩ u0).setCell ⟨g,k*5+1,none⟩ u1).setCell ⟨g,k*5+2,none⟩ u2).setCell ⟨g,k*5+3,none⟩ u3).setCell ⟨g,k*5+4,none⟩ u4).heap[w.heap.size+1]? = some (.cells [.slice none 0 0,.slice none 0 0].toArray 28 (0,0)))∧Hid (Below w.heap.size w (((((w5.setCell ⟨g,k*5,none⟩ u0).setCell ⟨g,k*5+1,none⟩ u1).setCell ⟨g,k*5+2,none⟩ u2).setCell ⟨g,k*5+3,none⟩ u3).setCell ⟨g,k*5+4,none⟩ u4))∧Hid (G≤(((((w5.setCell ⟨g,k*5,none⟩ u0).setCell ⟨g,k*5+1,none⟩ u1).setCell ⟨g,k*5+2,none⟩ u2).setCell ⟨g,k*5+3,none⟩ u3).setCell ⟨g,k*5+4,none⟩ u4).heap.size)):=by
     intro w5 u0 u1 u2 u3 u4 hb5 hf5
     have hGr:=Za HGr
     have hg5:=(((((Gr.refl w5 (fun q=>q=g)).one g (k*5) (.inl rfl) u0).one g (k*5+1) (.inl rfl) u1).one g (k*5+2) (.inl rfl) u2).one g (k*5+3) (.inl rfl) u3).one g (k*5+4) (.inl rfl) u4
     have hs5:=hb5.size
     refine⟨?_,Zem (Za HC1) hlk hkK hx hb5 hf5 (Nat.le_trans hGr hbX1.size),?_,?_,?_,?_⟩
     ·exact hg5.own ((Gr.of (S:=fun _=>False) hb5).own (Za HN1) (fun _ _ q=>q)) (fun q hq e=>Vq (Za HC1).own (Za HN1) (by decide) q (by rw[e];rfl) hq)
     ·exact hg5.heap ((hb5.block _ (lt_of_block (Za HB0))).trans (Za HB0)) (by omega)
     ·exact hg5.heap ((hb5.block _ (lt_of_block (Za HB1))).trans (Za HB1)) (by omega)
     ·exact hg5.below (Zf (Za HBr) hb5) (by have:=lt_of_block (Za HB0);omega) (fun q e=>by omega)
     ·exact Nat.le_trans hGr (Nat.le_trans hs5 hg5.size)
    have FR:=Zb (fun j=>(Za HC1).free j)
    have hkI:(k:Int)<(n:Int):=by omega
    clear hI sI hsm hx eK hbX1 hXX hbb
    go_wp2_with fail
    rw[←hX1]
    clear hX1
    go_region_with (go_at_call 71;refine (Za CO).mono ?_;rintro e w5 ⟨a5,c5,rfl,hf5,hb5⟩;have hbw5:=Zf (Zf (Za HBX1) (Zj _)) hb5;have HN:=Zb ((Za NX) w5 _ _ _ _ _ hbw5 hf5);have q1:=Ze hb5 (Ze (Zj _) t1);have s0:=Ze hbw5 r0;have s1:=Ze hbw5 r1;have s2:=Ze hbw5 r2;have s3:=Ze hbw5 r3;have s4:=Ze hbw5 r4;have q3:w5.frozen? ⟨g,k*5,none⟩=false:=(World.frozen?_of_block (a:=⟨g,k*5,none⟩) (hbw5.block g hgl)).trans ((Za FR) _);have q33:w5.frozen? ⟨g,k*5+1,none⟩=false:=(World.frozen?_of_block (a:=⟨g,k*5+1,none⟩) (hbw5.block g hgl)).trans ((Za FR) _);have q34:w5.frozen? ⟨g,k*5+2,none⟩=false:=(World.frozen?_of_block (a:=⟨g,k*5+2,none⟩) (hbw5.block g hgl)).trans ((Za FR) _);have q35:w5.frozen? ⟨g,k*5+3,none⟩=false:=(World.frozen?_of_block (a:=⟨g,k*5+3,none⟩) (hbw5.block g hgl)).trans ((Za FR) _);have q36:w5.frozen? ⟨g,k*5+4,none⟩=false:=(World.frozen?_of_block (a:=⟨g,k*5+4,none⟩) (hbw5.block g hgl)).trans ((Za FR) _);have q4:=Nat.lt_of_lt_of_le hgl hbw5.size;have q5:=Nat.lt_of_lt_of_le (lt_of_block (Za HB0)) hbw5.size;clear hf5 hb5 hbw5)
    all_goals
     go_wp2
     go_roundw
     case rel=>
      obtain⟨f1,f2,f3,f4,f5,f6⟩:=Za HN
      exact⟨k+1,_,by omega,by go_num,f1,f2,f3,f4,f5,f6⟩
     case measure=>simp[intOf];omega
   ·have e:k=n:=by omega
    subst e
    have s0:=Zd (Za HB0) 0 _ rfl
    have s1:=Zd (Za HB0) 1 _ rfl
    have sl:=lt_of_block (Za HB0)
    have y0:=Zd (Za HB1) 0 _ rfl
    have y1:=Zd (Za HB1) 1 _ rfl
    have z0:=Zg (Za HB1) 0
    have z1:=Zg (Za HB1) 1
    have yl:=lt_of_block (Za HB1)
    have R:Hid (TreeOwn (w.heap.size+2) wr (.slice a1 k c1) (.slice a2 k c2) k N T):=
     ⟨K,G,Za HN1,(Za HC1).own,Za HG1,(Za HC1).gt,hGw,Za HZT,(Za HC1).done⟩
    clear HC1 HN1
    go_wp2
    (try simp only[Exit.inBlock,Exit.then])
    have hG:=((Gr.refl wr (fun q=>q=w.heap.size+1)).one (w.heap.size+1) 0 (.inl rfl) (.slice a1 k c1)).one (w.heap.size+1) 1 (.inl rfl) (.slice a2 k c2)
    refine bodyPost_ret (v:=.agg #[.slice a1 k c1,.slice a2 k c2]) ?_ rfl ⟨_,_,rfl,(Za R).gr (hG.mono fun q _ e=>by omega),?_⟩
    ·rw[Ye rfl]
     go_simp
    ·exact hG.below (Za HBr) (by omega) (fun q e=>by omega)
structure Up(B g H:Nat)(N:List Int)(T:List Zk)(s:Int)(wr:World)(k:Nat)(y:Int):Prop where
 ex:∃ xs:List Value,wr.ownsRow B 3 1 (.slice (some ⟨g,0,none⟩) H H) H xs∧(upD N T H s).map (Value.int .i64)=(upD N T (H - k) y).map (Value.int .i64)++xs.drop (H - k)
theorem Up.old{B g H:Nat}{N:List Int}{T:List Zk}{s:Int}{wr:World}{k:Nat}{y:Int}(h:Up B g H N T s wr k y){r:Nat}(hr:r<H):(∃ v,wr.cell? ⟨g,r,none⟩=some v)∧wr.frozen? ⟨g,r,none⟩=false∧B≤g∧g<wr.heap.size:=by
 obtain⟨xs,ho,_⟩:=h.ex
 have hl:xs.length=H:=by simpa using ho.1
 exact⟨⟨xs[r]'(by omega),by rw[ho.cellAt r (by omega)];simp[hl,hr]⟩,ho.frozenAt r,(ho.lt g rfl).1,(ho.lt g rfl).2⟩
theorem Up.step{B g H:Nat}{N:List Int}{T:List Zk}{s:Int}{wr:World}{k:Nat}{y:Int}(h:Up B g H N T s wr k y)(hk:k<H){r:Nat}(hr:r=H - 1 - k):Up B g H N T s (wr.setCell ⟨g,r,none⟩ (.int .i64 y)) (k+1) (fnd y N T).1:=by
 obtain⟨xs,ho,hx⟩:=h.ex
 have hl:xs.length=H:=by simpa using ho.1
 refine⟨xs.set r (.int .i64 y),(ho.stored r _).1,?_⟩
 rw[hx,show H - k=(H - (k+1))+1 by omega,upD,List.map_append,List.append_assoc]
 congr 1
 have e:r=H - (k+1):=by omega
 rw[←e]
 rw[List.drop_eq_getElem_cons (l:=xs.set r (.int .i64 y)) (i:=r) (by rw[List.length_set];omega),List.drop_set_of_lt (by omega)]
 simp
theorem Up.keep{B g H:Nat}{N:List Int}{T:List Zk}{s:Int}{wr w':World}{k:Nat}{y:Int}(h:Up B g H N T s wr k y)(hb:Below wr.heap.size wr w'):Up B g H N T s w' k y:=by
 obtain⟨xs,ho,hx⟩:=h.ex
 exact⟨xs,(Gr.of (S:=fun _=>False) hb).own ho (fun _ _ q=>q),hx⟩
theorem E0(a b:Option Addr)(n c d:Nat)(N:List Int)(T:List Zk)(s:Int)(w:World)(hn:n≤maxLen)(hN:IntsAt w a n N)(hT:BlksAt w b n T)(hH:Y7 T) :
  Calls Tryz.prog 131 #[.agg #[.slice a n c,.slice b n d],.int .i64 s] w fun e w'=>∃ v,e = .returned v∧w'.ownsRow w.heap.size 3 1 v (Xp N T s).length ((Xp N T s).map (Value.int .i64))∧Below w.heap.size w w':=by
 obtain⟨i0,hi,hz0,hz1,hz2⟩:=info_parts Tryz.infoInt
 obtain⟨X,hX⟩:∃ X,X=w.alloc (.cells #[.slice a n c,.slice b n d] 28):=⟨_,rfl⟩
 have hbX:Below w.heap.size w X:=by rw[hX];exact Zi _ _
 have hX0:X.heap[w.heap.size]? = some (.cells [.slice a n c,.slice b n d].toArray 28 (0,0)):=by rw[hX];exact Yv _ _ _ _
 obtain⟨H,hh⟩:∃ H:Nat,(fnd s N T).2.1=(H:Int):=⟨_,(Int.toNat_of_nonneg (Jf hH s N).1).symm⟩
 have hH1:H≤1000:=by have:=(Jf hH s N).2.1;omega
 have HP:Hid (Xp N T s=upD N T H s):=by show _=_;unfold Xp;rw[hh];rfl
 have C:=Zb (S8 a b n c d N T s H X hn (hN.later hbX) (hT.later hbX) hh)
 have HB:=Zb hbX
 have HX0:=Zb hX0
 have HN:=Zb hN
 have HT:=Zb hT
 have CF:=Zb (fun y W (hb:Below w.heap.size w W)=>Pv a b n c d N T y _ W hn (hN.later hb) (hT.later hb) rfl)
 have hXs:w.heap.size+1≤X.heap.size:=lt_of_block hX0
 clear hbX hX0 hN hT hH hh
 go_enter Tryz.func131,Tryz.ntmps131
 go_wp2_with fail
 rw[←hX]
 clear hX
 refine (Za C).mono ?_
 rintro e w1 ⟨rfl,hb1⟩
 have hw1s:w.heap.size+1≤w1.heap.size:=Nat.le_trans hXs hb1.size
 have HBW:=Zb (Zf (Za HB) hb1)
 have C1:=Zb ((hb1.block _ (lt_of_block (Za HX0))).trans (Za HX0))
 clear hb1
 go_wp2_with (at_make;refine wpList_make_full _ rfl _ _ 25 rfl (w.heap.size+1) 3 i0 (.int .i64 0) 1 Tryz.underlying25 hi hz0 hz1 .i64 .i64 _ _ H rfl rfl rfl rfl (by rw[hz2];omega) (by unfold maxLen;omega) hw1s ?_;intro w3 hown3 hgrow3)
 have hb3:Below w1.heap.size w1 w3:=(Below.refl _ _).grown hgrow3 (Nat.le_refl _) (fun k h=>by cases h)
 have HU:Hid (Up (w.heap.size+1) w1.heap.size H N T s w3 0 s):=⟨_,hown3,by
  rw[Nat.sub_zero,List.drop_of_length_le (by rw[hown3.1];omega),List.append_nil]⟩
 have C3:=Zb ((hb3.block _ (lt_of_block (Za C1))).trans (Za C1))
 have HB3:=Zb (Zf (Za HBW) hb3)
 obtain⟨g,hg⟩:∃ g,w1.heap.size=g:=⟨_,rfl⟩
 rw[hg] at HU ⊢
 clear hb3 hown3 hgrow3 C1 HBW hg hw1s
 go_loopw [1,14] (fun nm i wr=>∃ (k:Nat) (y:Int),k≤H∧nm = .int .i64 y∧i = .int .i64 k∧Hid (Up (w.heap.size+1) g H N T s wr k y)∧Hid (Below w.heap.size w wr)∧Hid (wr.heap[w.heap.size]? = some (.cells [.slice a n c,.slice b n d].toArray 28 (0,0)))) (fun _ i _=>H - (intOf i).toNat)
 case atStart=>exact⟨0,s,Nat.zero_le _,rfl,rfl,HU,HB3,C3⟩
 case round=>
  obtain⟨k,y,hk,rfl,rfl,HUr,HBr,HCr⟩:=hrel
  clear HU HB3 C3
  by_cases hlt:k<H
  ·obtain⟨r,hr⟩:∃ r,r=H - 1 - k:=⟨_,rfl⟩
   have hrl:r<H:=by omega
   obtain⟨⟨v0,hv0⟩,hfz,hgB,hgl⟩:=(Za HUr).old hrl
   have hwA:IntKind.i64.wrap ((H:Int) - 1)=(H:Int) - 1:=by rw[IntKind.wrap_i64];omega
   have hwB:IntKind.i64.wrap ((H:Int) - 1 - (k:Int))=(r:Int):=by rw[IntKind.wrap_i64];omega
   have hrI:(r:Int)<(H:Int):=by omega
   have ST:=Zb ((Za HUr).step hlt hr)
   have hG:Gr wr (wr.setCell ⟨g,r,none⟩ (.int .i64 y)) (fun q=>q=g):=(Gr.refl wr (fun q=>q=g)).one g r (.inl rfl) _
   have HB4:=Zb (hG.below (Za HBr) (by omega) (fun q hq=>by omega))
   have hc4:=hG.heap (Za HCr) (by omega)
   have HC4:=Zb hc4
   have CC:=Zb ((Za CF) y _ (Za HB4))
   have t0:=Zd hc4 0 _ rfl
   have t1:=Zd hc4 1 _ rfl
   have tl:=lt_of_block hc4
   have hkI:(k:Int)<(H:Int):=by omega
   clear hG hr hc4
   go_wp2_with fail
   refine (Za CC).mono ?_
   rintro e w5 ⟨ta,tn,tc,rfl,_,_,hb5⟩
   unfold Qy
   have hf:=(So (.int .i64 (fnd y N T).1) (.int .i64 (fnd y N T).2.1) (.int .i64 (fnd y N T).2.2.1) (.int .i64 (fnd y N T).2.2.2.1) (.slice ta tn tc) w5).1
   have R1:=Zb ((Za ST).keep hb5)
   have R2:=Zb (Zf (Za HB4) hb5)
   have R3:=Zb ((hb5.block _ (lt_of_block (Za HC4))).trans (Za HC4))
   clear hb5 CC ST
   go_wp2
   go_roundw
   case rel=>exact⟨k+1,_,by omega,rfl,by go_num,R1,R2,R3⟩
   case measure=>simp[intOf];omega
  ·have e:k=H:=by omega
   subst e
   have R:Hid (wr.ownsRow w.heap.size 3 1 (.slice (some ⟨g,0,none⟩) k k) (Xp N T s).length ((Xp N T s).map (Value.int .i64))):=by
    show World.ownsRow _ _ _ _ _ _ _
    rw[Za HP]
    obtain⟨xs,ho,hx⟩:=(Za HUr).ex
    rw[Nat.sub_self,List.drop_zero,upD,List.map_nil,List.nil_append] at hx
    rw[hx,L6]
    exact Y8 ho (by omega)
   clear HUr
   go_wp2
   go_ret
   exact⟨_,rfl,Za R,Za HBr⟩
theorem Py{N:List Int}{T:List Zk}(hH:Y7 T):∀ (P:List Int) (s:Int),s≤Xj N T s P∧Xj N T s P≤s+1000*P.length
 | [],s=>by simp[Xj]
 | x :: P,s=>by
  have h1:=(Jf hH x N).2.2
  have h2:=Py hH P (s+(fnd x N T).2.2.1) (N:=N)
  simp only[Xj,List.length_cons]
  omega
theorem Kx(a b pa:Option Addr)(n c d pn pc:Nat)(N:List Int)(T:List Zk)(P:List Int)(x:Int)(w:World)(hn:n≤maxLen)(hN:IntsAt w a n N)(hT:BlksAt w b n T)(hP:IntsAt w pa pn P)(hp:pn≤1000)(hH:Y7 T)(hx:Xj N T 0 P=x) :
  Calls Tryz.prog 102 #[.agg #[.slice a n c,.slice b n d],.slice pa pn pc] w fun e w'=>e = .returned (.int .i64 x)∧Below w.heap.size w w':=by
 obtain⟨X,hX⟩:∃ X,X=w.alloc (.cells #[.slice a n c,.slice b n d] 28):=⟨_,rfl⟩
 have hbX:Below w.heap.size w X:=by rw[hX];exact Zi _ _
 have hX0:X.heap[w.heap.size]? = some (.cells [.slice a n c,.slice b n d].toArray 28 (0,0)):=by rw[hX];exact Yv _ _ _ _
 have HB:=Zb hbX
 have HX0:=Zb hX0
 have HPA:=Zb (hP.later hbX)
 have HZ:=Zb hP.1
 have HO:=Zb hH
 have CF:=Zb (fun y W (hb:Below X.heap.size X W)=>Pv a b n c d N T y _ W hn (hN.later (Zf hbX hb)) (hT.later (Zf hbX hb)) rfl)
 have HX:Hid (Xj N T 0 (P.drop 0)=x):=hx
 clear hbX hX0 hN hT hP hH hx
 go_enter Tryz.func102,Tryz.ntmps102
 go_wp2_with fail
 rw[←hX]
 clear hX
 go_wp2
 go_loopw [5,10] (fun sv i wr=>∃ (k:Nat) (s:Int),k≤pn∧sv = .int .i64 s∧i = .int .i64 k∧Hid (Xj N T s (P.drop k)=x)∧Hid (0≤s∧s≤1000*k)∧Hid (Below X.heap.size X wr)) (fun _ i _=>pn - (intOf i).toNat)
 case atStart=>exact⟨0,0,Nat.zero_le _,rfl,rfl,HX,(⟨by omega,by omega⟩:(0:Int)≤0∧(0:Int)≤1000*(0:Nat)),(Below.refl _ _:Below X.heap.size X X)⟩
 case round=>
  obtain⟨k,s,hk,rfl,rfl,A,BD,HBr⟩:=hrel
  clear HX
  by_cases hlt:k<pn
  ·have h1:k<P.length:=by rw[Za HZ];exact hlt
   obtain⟨b1,off1,rfl,hl1,hc1⟩:=(Za HPA).2 (by omega)
   have f1:=Ze (Za HBr) (hc1 k h1)
   have AT:=Zb (Zfa N T s P k h1)
   obtain⟨y,hy⟩:∃ y,P[k]=y:=⟨_,rfl⟩
   rw[hy] at f1 AT
   have ll:=Nat.lt_of_lt_of_le hl1 (Za HBr).size
   have hcx:=((Za HBr).block _ (lt_of_block (Za HX0))).trans (Za HX0)
   have t0:=Zd hcx 0 _ rfl
   have t1:=Zd hcx 1 _ rfl
   have tl:=lt_of_block hcx
   have CC:=Zb ((Za CF) y _ (Za HBr))
   have hq:=(Jf (Za HO) y N).2.2
   have hbd:=Za BD
   obtain⟨v,hv⟩:∃ v,(fnd y N T).2.2.1=v:=⟨_,rfl⟩
   rw[hv] at hq AT
   have HV:=Zb hv
   have hw1:IntKind.i64.wrap (s+v)=s+v:=by rw[IntKind.wrap_i64];omega
   have R:Hid (Xj N T (s+v) (P.drop (k+1))=x):=by show _=_;rw[←Za A,Za AT]
   have BD2:Hid (0≤s+v∧s+v≤1000*((k+1:Nat):Int)):=by
    show _∧_
    omega
   have hkI:(k:Int)<(pn:Int):=by omega
   clear hc1 hy A AT hcx hq hbd BD hv hl1
   go_wp2_with fail
   refine (Za CC).mono ?_
   rintro e w5 ⟨ta,tn,tc,rfl,_,_,hb5⟩
   unfold Qy
   rw[Za HV]
   have hf:=(So (.int .i64 (fnd y N T).1) (.int .i64 (fnd y N T).2.1) (.int .i64 v) (.int .i64 (fnd y N T).2.2.2.1) (.slice ta tn tc) w5).2.2
   have R2:=Zb (Zf (Za HBr) hb5)
   clear hb5 CC
   go_wp2
   go_roundw
   case rel=>exact⟨k+1,s+v,by omega,rfl,by go_num,R,BD2,R2⟩
   case measure=>simp[intOf];omega
  ·have R:Hid (s=x):=by show _=_;rw[←Za A,Zbo N T s P k (by rw[Za HZ];omega)]
   have HBF:=Zb (Zf (Za HB) (Za HBr))
   clear A BD
   go_wp2
   go_ret
   exact⟨by rw[←Za R];rfl,Za HBF⟩
theorem Zdu(a b:Option Addr)(n c d k:Nat)(w:World)(hk:k≤n)(ha:SlOk a n c)(hb:SlOk b n d) :
  Calls Tryz.prog 140 #[.agg #[.slice a n c,.slice b n d],.int .i64 k] w fun e w'=>e = .returned (.agg #[.slice a k c,.slice b k d])∧Below w.heap.size w w':=by
 have hc:=Nat.le_trans hk ha.1
 have hd:=Nat.le_trans hk hb.1
 have hm:=ha.2.1
 have hm2:=hb.2.1
 unfold maxLen at hm hm2
 have hcI:(k:Int)≤(c:Int):=by omega
 have hdI:(k:Int)≤(d:Int):=by omega
 clear ha hb
 go_enter Tryz.func140,Tryz.ntmps140
 go_wp2_with fail
 go_region
 all_goals
  go_wp2
 all_goals (try simp only[Exit.inBlock,Exit.then])
 all_goals
  refine bodyPost_ret (v:=.agg #[.slice a k c,.slice b k d]) ?_ rfl ⟨rfl,?_⟩
  ·rw[Ye rfl]
   go_simp
  ·exact Zf (Zf (Zi _ _) (Zi _ _)) (Zj _)
theorem Cs(a b:Option Addr)(n c d:Nat)(N:List Int)(T:List Zk)(s:Int)(p h k m:Int)(ta:Option Addr)(tn tc:Nat)(L:List TxD)(x:Int)(w:World)(hn:n≤maxLen)(hN:IntsAt w a n N)(hT:BlksAt w b n T)(hL:TxsAt w ta tn L)(hH:Y7 T)(hx:nextD N T s (p,h,k,m,L)=x) :
  Calls Tryz.prog 134 #[.agg #[.slice a n c,.slice b n d],.int .i64 s,.agg #[.int .i64 p,.int .i64 h,.int .i64 k,.int .i64 m,.slice ta tn tc]] w fun e w'=>e = .returned (.int .i64 x)∧Below w.heap.size w w':=by
 obtain⟨X,hX⟩:∃ X,X=(w.alloc (.cells #[.slice a n c,.slice b n d] 28)).alloc (.cells #[.int .i64 p,.int .i64 h,.int .i64 k,.int .i64 m,.slice ta tn tc] 39):=⟨_,rfl⟩
 have hbX:Below w.heap.size w X:=by rw[hX];exact Zf (Zi _ _) (Zi _ _)
 have hX0:X.heap[w.heap.size]? = some (.cells [.slice a n c,.slice b n d].toArray 28 (0,0)):=by
  rw[hX,Below.heap_alloc _ _ _ (by simp)];exact Yv _ _ _ _
 have hX1:X.heap[w.heap.size+1]? = some (.cells [.int .i64 p,.int .i64 h,.int .i64 k,.int .i64 m,.slice ta tn tc].toArray 39 (0,0)):=by
  rw[hX]
  have:=Zv (w.alloc (.cells #[.slice a n c,.slice b n d] 28)) (.int .i64 p) (.int .i64 h) (.int .i64 k) (.int .i64 m) (.slice ta tn tc) 39
  rw[show (w.alloc (.cells #[.slice a n c,.slice b n d] 28)).heap.size=w.heap.size+1 by simp] at this
  exact this
 obtain⟨o1,ho1⟩:∃ o,(decide (1≤s) && decide (s≤120))=o:=⟨_,rfl⟩
 obtain⟨x2,hx2⟩:∃ x,Yt (p,h,k,m,L)=x:=⟨_,rfl⟩
 obtain⟨o3,ho3⟩:∃ o,decide (s∈N)=o:=⟨_,rfl⟩
 obtain⟨o4,ho4⟩:∃ o,decide (p∈N)=o:=⟨_,rfl⟩
 obtain⟨z,hz⟩:∃ z,(fnd p N T).2.1=z:=⟨_,rfl⟩
 have hz0:=(Jf hH p N).1
 have hz1:=(Jf hH p N).2.1
 rw[hz] at hz0 hz1
 have hw1:IntKind.i64.wrap (z+1)=z+1:=by rw[IntKind.wrap_i64];omega
 unfold nextD at hx
 simp only at hx
 rw[ho1,hx2,ho3,ho4,hz] at hx
 have HB:=Zb hbX
 have HX0:=Zb hX0
 have HX1:=Zb hX1
 have C1:=Zb (fun W=>Yi s 1 120 o1 W ho1.symm)
 have C2:=Zb (Vo p h k m ta tn tc L x2 X (hL.later hbX) hx2)
 have C3:=Zb (fun W (hb:Below X.heap.size X W)=>Ml a b n c n d N s o3 W hn (hN.later (Zf hbX hb)) ho3)
 have C4:=Zb (fun W (hb:Below X.heap.size X W)=>Ml a b n c n d N p o4 W hn (hN.later (Zf hbX hb)) ho4)
 have C5:=Zb (fun W (hb:Below X.heap.size X W)=>S8 a b n c d N T p z W hn (hN.later (Zf hbX hb)) (hT.later (Zf hbX hb)) hz)
 clear hbX hX0 hX1 hN hT hL hH ho1 hx2 ho3 ho4 hz
 have HXX:=Zb hx
 clear hx
 go_enter Tryz.func134,Tryz.ntmps134
 go_wp2_with fail
 rw[←hX]
 clear hX
 refine ((Za C1) _).mono ?_
 rintro e w1 ⟨rfl,rfl⟩
 cases o1 with
 | false=>
  have R:Hid (x=3):=by show _=_;rw[←Za HXX,if_pos rfl]
  clear HXX
  go_wp2
  go_ret
  exact⟨by rw[Za R];rfl,Za HB⟩
 | true=>
  have c0:=Zd (Za HX1) 0 _ rfl
  have c1:=Zd (Za HX1) 1 _ rfl
  have c2:=Zd (Za HX1) 2 _ rfl
  have c3:=Zd (Za HX1) 3 _ rfl
  have c4:=Zd (Za HX1) 4 _ rfl
  have cl:=lt_of_block (Za HX1)
  have HX2:Hid ((if x2≠0 then x2 else if o3=true then 6 else if p≠0∧o4=false then 5 else if h≠z+1 then 4 else 0)=x):=by
   have q:=Za HXX
   rw[if_neg (by decide)] at q
   exact q
  clear HXX
  go_wp2_with fail
  refine (Za C2).mono ?_
  rintro e w2 ⟨rfl,hb2⟩
  have HB2:=Zb hb2
  have h20:=(hb2.block _ (lt_of_block (Za HX0))).trans (Za HX0)
  clear hb2 c0 c1 c2 c3 c4 cl
  by_cases q2:x2=0
  ·subst q2
   have HX3:Hid ((if o3=true then 6 else if p≠0∧o4=false then 5 else if h≠z+1 then 4 else 0)=x):=by
    have q:=Za HX2
    rw[if_neg (by decide)] at q
    exact q
   have c0:=Zd h20 0 _ rfl
   have c1:=Zd h20 1 _ rfl
   have cl:=lt_of_block h20
   clear HX2 h20
   go_wp2_with fail
   refine ((Za C3) _ (Za HB2)).mono ?_
   rintro e w3 ⟨rfl,hb3⟩
   have HB3:=Zb (Zf (Za HB2) hb3)
   have h30:=((Za HB3).block _ (lt_of_block (Za HX0))).trans (Za HX0)
   have h31:=((Za HB3).block _ (lt_of_block (Za HX1))).trans (Za HX1)
   have HF:=Zb (Zf (Za HB) (Za HB3))
   clear hb3 c0 c1 cl
   cases o3 with
   | true=>
    have R:Hid (x=6):=by show _=_;rw[←Za HX3,if_pos rfl]
    clear HX3 h30 h31
    go_wp2
    go_ret
    exact⟨by rw[Za R];rfl,Za HF⟩
   | false=>
    have HX4:Hid ((if p≠0∧o4=false then 5 else if h≠z+1 then 4 else 0)=x):=by
     have q:=Za HX3
     rw[if_neg (by decide)] at q
     exact q
    have c0:=Zd h30 0 _ rfl
    have c1:=Zd h30 1 _ rfl
    have cl:=lt_of_block h30
    have d0:=Zd h31 0 _ rfl
    have d1:=Zd h31 1 _ rfl
    have dl:=lt_of_block h31
    clear HX3 h30 h31
    by_cases q4:p=0
    ·subst q4
     have HX5:Hid ((if h≠z+1 then (4:Int) else 0)=x):=by
      have q:=Za HX4
      rw[if_neg (by simp)] at q
      exact q
     clear HX4 C4
     by_cases q5:h=z+1
     ·have R:Hid (x=0):=by show _=_;rw[←Za HX5,if_neg (by simp[q5])]
      have g5:(h != z+1)=false:=by simp[q5]
      clear HX5 q5
      go_wp2_with fail
      go_region_with (go_at_call 194;refine ((Za C5) _ (Zf (Za HB3) (Zj _))).mono ?_;rintro e w5 ⟨rfl,hb5⟩;have e0:=Ze hb5 (Ze (Zj _) d0);have e1:=Ze hb5 (Ze (Zj _) d1);have el:=Nat.lt_of_lt_of_le dl hb5.size;have HF5:=Zb (Zf (Za HF) (Zf (Zj _) hb5));clear hb5)
      all_goals
       go_wp2
       go_ret
       exact⟨by rw[Za R];rfl,Za HF5⟩
     ·have R:Hid (x=4):=by show _=_;rw[←Za HX5,if_pos q5]
      have g5:(h != z+1)=true:=by simp[q5]
      clear HX5 q5
      go_wp2_with fail
      go_region_with (go_at_call 194;refine ((Za C5) _ (Zf (Za HB3) (Zj _))).mono ?_;rintro e w5 ⟨rfl,hb5⟩;have e0:=Ze hb5 (Ze (Zj _) d0);have e1:=Ze hb5 (Ze (Zj _) d1);have el:=Nat.lt_of_lt_of_le dl hb5.size;have HF5:=Zb (Zf (Za HF) (Zf (Zj _) hb5));clear hb5)
      all_goals
       go_wp2
       go_ret
       exact⟨by rw[Za R];rfl,Za HF5⟩
    ·have g4:(p != 0)=true:=by simp[q4]
     go_wp2_with fail
     refine ((Za C4) _ (Za HB3)).mono ?_
     rintro e w4 ⟨rfl,hb4⟩
     have HB4:=Zb (Zf (Za HB3) hb4)
     have HF4:=Zb (Zf (Za HB) (Za HB4))
     have k0:=Ze hb4 c0
     have k1:=Ze hb4 c1
     have kl:=Nat.lt_of_lt_of_le cl hb4.size
     have d0:=Ze hb4 d0
     have d1:=Ze hb4 d1
     have dl:=Nat.lt_of_lt_of_le dl hb4.size
     clear hb4 c0 c1 cl
     cases o4 with
     | false=>
      have R:Hid (x=5):=by show _=_;rw[←Za HX4,if_pos ⟨q4,rfl⟩]
      clear HX4 q4
      go_wp2
      go_ret
      exact⟨by rw[Za R];rfl,Za HF4⟩
     | true=>
      have HX5:Hid ((if h≠z+1 then (4:Int) else 0)=x):=by
       have q:=Za HX4
       rw[if_neg (by simp)] at q
       exact q
      clear HX4 q4
      by_cases q5:h=z+1
      ·have R:Hid (x=0):=by show _=_;rw[←Za HX5,if_neg (by simp[q5])]
       have g5:(h != z+1)=false:=by simp[q5]
       clear HX5 q5
       go_wp2_with fail
       go_region_with (go_at_call 194;refine ((Za C5) _ (Zf (Za HB4) (Zj _))).mono ?_;rintro e w5 ⟨rfl,hb5⟩;have e0:=Ze hb5 (Ze (Zj _) d0);have e1:=Ze hb5 (Ze (Zj _) d1);have el:=Nat.lt_of_lt_of_le dl hb5.size;have HF5:=Zb (Zf (Za HF4) (Zf (Zj _) hb5));clear hb5)
       all_goals
        go_wp2
        go_ret
        exact⟨by rw[Za R];rfl,Za HF5⟩
      ·have R:Hid (x=4):=by show _=_;rw[←Za HX5,if_pos q5]
       have g5:(h != z+1)=true:=by simp[q5]
       clear HX5 q5
       go_wp2_with fail
       go_region_with (go_at_call 194;refine ((Za C5) _ (Zf (Za HB4) (Zj _))).mono ?_;rintro e w5 ⟨rfl,hb5⟩;have e0:=Ze hb5 (Ze (Zj _) d0);have e1:=Ze hb5 (Ze (Zj _) d1);have el:=Nat.lt_of_lt_of_le dl hb5.size;have HF5:=Zb (Zf (Za HF4) (Zf (Zj _) hb5));clear hb5)
       all_goals
        go_wp2
        go_ret
        exact⟨by rw[Za R];rfl,Za HF5⟩
  ·have R:Hid (x=x2):=by show _=_;rw[←Za HX2,if_pos q2]
   have g2:(x2 != 0)=true:=by simp[q2]
   have HF:=Zb (Zf (Za HB) (Za HB2))
   clear HX2 q2 h20
   go_wp2
   go_ret
   exact⟨by rw[Za R];rfl,Za HF⟩
theorem Jb{N:List Int}{T:List Zk}{x:Int}{b:Zk}(h:nextD N T x b=0):Yt b=0:=by
 unfold nextD at h
 split at h
 ·cases h
 ·split at h
  ·next q=>exact absurd h q
  ·next q=>exact Classical.not_not.1 q
theorem A1{T:List Zk}{j:Nat}(hj:j<T.length)(h:Y7 (T.take j))(hb:Yt T[j]=0):Y7 (T.take (j+1)):=by
 rw[List.take_succ_eq_append_getElem hj]
 intro b hm
 rcases List.mem_append.1 hm with q|q
 ·exact h b q
 ·rw[List.mem_singleton.1 q];exact chkB_head hb
theorem Uc(a b:Option Addr)(n c m d:Nat)(N:List Int)(T:List Zk)(x:Int)(w:World)(hN:IntsAt w a n N)(hT:BlksAt w b m T)(sN:SlOk a n c)(sT:SlOk b m d)(hx:chkTr N T=x) :
  Calls Tryz.prog 69 #[.agg #[.slice a n c,.slice b m d]] w fun e w'=>e = .returned (.int .i64 x)∧Below w.heap.size w w':=by
 subst hx
 obtain⟨X,hX⟩:∃ X,X=w.alloc (.cells #[.slice a n c,.slice b m d] 28):=⟨_,rfl⟩
 have hbX:Below w.heap.size w X:=by rw[hX];exact Zi _ _
 have hX0:X.heap[w.heap.size]? = some (.cells [.slice a n c,.slice b m d].toArray 28 (0,0)):=by rw[hX];exact Yv _ _ _ _
 have HB:=Zb hbX
 have HX0:=Zb hX0
 have x0:=Zd hX0 0 _ rfl
 have x1:=Zd hX0 1 _ rfl
 have xl:=lt_of_block hX0
 have HN:=Zb (hN.later hbX)
 have HT:=Zb (hT.later hbX)
 have HZN:=Zb hN.1
 have HZT:=Zb hT.1
 have hm:=sN.2.1
 have hm2:=sT.2.1
 have hlc:=sN.1
 unfold maxLen at hm hm2
 by_cases e:n=m
 ·subst e
  by_cases h24:24<n
  ·have R:Hid (chkTr N T=2):=by show _=_;unfold chkTr;rw[hN.1,hT.1,if_neg (by simp),if_pos h24]
   have g0:((n:Int) != (n:Int))=false:=by simp
   have g1:(24:Int)<(n:Int):=by omega
   clear hN hT sN sT hX0 hbX
   go_enter Tryz.func69,Tryz.ntmps69
   go_wp2_with fail
   rw[←hX]
   clear hX
   go_wp2
   go_ret
   exact⟨by rw[Za R];rfl,Za HB⟩
  ·have R:Hid (chkTr N T=Xc (N.take 0) (T.take 0) (N.drop 0) (T.drop 0)):=by show _=_;unfold chkTr;rw[hN.1,hT.1,if_neg (by simp),if_neg h24];rfl
   have g0:((n:Int) != (n:Int))=false:=by simp
   have g1:¬(24:Int)<(n:Int):=by omega
   have SN:=Zb sN
   have ST:=Zb sT
   clear hN hT sN sT hX0 hbX
   go_enter Tryz.func69,Tryz.ntmps69
   go_wp2_with fail
   rw[←hX]
   clear hX
   go_wp2
   go_loopw [19] (fun i wr=>∃ j:Nat,j≤n∧i = .int .i64 j∧Hid (chkTr N T=Xc (N.take j) (T.take j) (N.drop j) (T.drop j))∧Hid (Y7 (T.take j))∧Hid (Below X.heap.size X wr)) (fun i _=>n - (intOf i).toNat)
   case atStart=>exact⟨0,Nat.zero_le _,rfl,R,(fun b hb=>(by simp at hb):Y7 (T.take 0)),(Below.refl _ _:Below X.heap.size X X)⟩
   case round=>
    obtain⟨j,hj,rfl,A,HH,HBr⟩:=hrel
    clear R
    by_cases hlt:j<n
    ·have h1:j<N.length:=by rw[Za HZN];exact hlt
     have h2:j<T.length:=by rw[Za HZT];exact hlt
     obtain⟨b1,off1,rfl,hl1,hc1⟩:=(Za HN).2 (by omega)
     obtain⟨b2,off2,rfl,hl2,hc2⟩:=(Za HT).2 (by omega)
     have f1:=Ze (Za HBr) (hc1 j h1)
     have hin:=BlkAt.kept _ _ _ _ _ (Za HBr) (hc2 j h2)
     have AT:=Zb (Zei N T j h1 h2)
     have HM:=Zb (A1 h2 (Za HH))
     obtain⟨s,hs⟩:∃ s,N[j]=s:=⟨_,rfl⟩
     obtain⟨t,ht⟩:∃ t,T[j]=t:=⟨_,rfl⟩
     rw[hs] at f1 AT
     rw[ht] at hin AT HM
     obtain⟨p,h,k,o,L⟩:=t
     obtain⟨g0',g1',g2,g3,ta,tn,tc,g4,hL,_⟩:=hin
     simp only at g0' g1' g2 g3 hL
     obtain⟨y,hy⟩:∃ y,nextD (N.take j) (T.take j) s (p,h,k,o,L)=y:=⟨_,rfl⟩
     have w0:=Ze (Za HBr) x0
     have w1:=Ze (Za HBr) x1
     have wl:=Nat.lt_of_lt_of_le xl (Za HBr).size
     have ll1:=Nat.lt_of_lt_of_le hl1 (Za HBr).size
     have ll2:=Nat.lt_of_lt_of_le hl2 (Za HBr).size
     have C1:=Zb (fun W=>Zdu (some ⟨b1,off1,none⟩) (some ⟨b2,off2,none⟩) n c d j W hj (Za SN) (Za ST))
     have hjm:j≤maxLen:=by unfold maxLen;omega
     have C2:=Zb (fun W (hb:Below wr.heap.size wr W)=>Cs (some ⟨b1,off1,none⟩) (some ⟨b2,off2,none⟩) j c d (N.take j) (T.take j) s p h k o ta tn tc L y W hjm (((Za HN).later (Zf (Za HBr) hb)).take j hj) (RowsAt.take ((Za HT).later (Zf (Za HBr) hb)) j hj) (hL.later hb) (Za HH) hy)
     rw[hy] at AT
     have HY:Hid (y=0→Yt (p,h,k,o,L)=0):=fun q=>Jb (hy.trans q)
     clear hc1 hc2 hL hs ht hy x0 x1 xl hl1 hl2
     by_cases q:y=0
     ·subst q
      have R:Hid (chkTr N T=Xc (N.take (j+1)) (T.take (j+1)) (N.drop (j+1)) (T.drop (j+1))):=by show _=_;rw[Za A,Za AT,if_neg (by simp)]
      have HH2:=Zb ((Za HM) ((Za HY) rfl))
      clear A AT HM HY
      go_wp2_with fail
      go_region_held3 (fun W'=>Below wr.heap.size wr W'∧W'.cell? ⟨w.heap.size,0,none⟩=some (.slice (some ⟨b1,off1,none⟩) n c)∧W'.cell? ⟨w.heap.size,1,none⟩=some (.slice (some ⟨b2,off2,none⟩) n d)∧W'.cell? ⟨b1,off1+j,none⟩=some (.int .i64 s)∧W'.cell? ⟨b2,off2+j*5,none⟩=some (.int .i64 p)∧W'.cell? ⟨b2,off2+j*5+1,none⟩=some (.int .i64 h)∧W'.cell? ⟨b2,off2+j*5+2,none⟩=some (.int .i64 k)∧W'.cell? ⟨b2,off2+j*5+3,none⟩=some (.int .i64 o)∧W'.cell? ⟨b2,off2+j*5+4,none⟩=some (.slice ta tn tc))
       (first
       | exact⟨Zj _,w0,w1,f1,g0',g1',g2,g3,g4⟩
       | (go_split_ands;refine⟨Zf (by assumption) hbc,Ze hbc (by assumption),Ze hbc (by assumption),Ze hbc (by assumption),Ze hbc (by assumption),Ze hbc (by assumption),Ze hbc (by assumption),Ze hbc (by assumption),Ze hbc (by assumption)⟩))
       (first|(go_at_call 140;refine ((Za C1) _).mono ?_;rintro e w' ⟨rfl,hbc⟩)|(go_at_call 134;go_split_ands;refine ((Za C2) _ (by assumption)).mono ?_;rintro e w' ⟨rfl,hbc⟩))
      rename_i hq
      have HB3:=Zb (Zf (Za HBr) hq.1)
      clear hq
      go_wp2
      go_roundw
      case rel=>exact⟨j+1,by omega,by go_num,R,HH2,HB3⟩
      case measure=>simp[intOf];omega
     ·have R:Hid (chkTr N T=y):=by show _=_;rw[Za A,Za AT,if_pos q]
      have gy:(y != 0)=true:=by simp[q]
      clear A AT HM HY q
      go_wp2_with fail
      go_region_held3 (fun W'=>Below wr.heap.size wr W'∧W'.cell? ⟨w.heap.size,0,none⟩=some (.slice (some ⟨b1,off1,none⟩) n c)∧W'.cell? ⟨w.heap.size,1,none⟩=some (.slice (some ⟨b2,off2,none⟩) n d)∧W'.cell? ⟨b1,off1+j,none⟩=some (.int .i64 s)∧W'.cell? ⟨b2,off2+j*5,none⟩=some (.int .i64 p)∧W'.cell? ⟨b2,off2+j*5+1,none⟩=some (.int .i64 h)∧W'.cell? ⟨b2,off2+j*5+2,none⟩=some (.int .i64 k)∧W'.cell? ⟨b2,off2+j*5+3,none⟩=some (.int .i64 o)∧W'.cell? ⟨b2,off2+j*5+4,none⟩=some (.slice ta tn tc))
       (first
       | exact⟨Zj _,w0,w1,f1,g0',g1',g2,g3,g4⟩
       | (go_split_ands;refine⟨Zf (by assumption) hbc,Ze hbc (by assumption),Ze hbc (by assumption),Ze hbc (by assumption),Ze hbc (by assumption),Ze hbc (by assumption),Ze hbc (by assumption),Ze hbc (by assumption),Ze hbc (by assumption)⟩))
       (first|(go_at_call 140;refine ((Za C1) _).mono ?_;rintro e w' ⟨rfl,hbc⟩)|(go_at_call 134;go_split_ands;refine ((Za C2) _ (by assumption)).mono ?_;rintro e w' ⟨rfl,hbc⟩))
      rename_i hq
      have HB3:=Zb (Zf (Za HB) (Zf (Za HBr) hq.1))
      clear hq
      go_wp2
      go_ret
      exact⟨by rw[Za R];rfl,Za HB3⟩
    ·have R:Hid (chkTr N T=0):=by show _=_;rw[Za A,Zbh N T j (by rw[Za HZN];omega)]
     have HBF:=Zb (Zf (Za HB) (Za HBr))
     clear A
     go_wp2
     go_ret
     exact⟨by rw[Za R];rfl,Za HBF⟩
 ·have R:Hid (chkTr N T=4):=by show _=_;unfold chkTr;rw[hN.1,hT.1,if_pos e]
  have g0:((n:Int) != (m:Int))=true:=by simp;omega
  clear hN hT sN sT hX0 hbX
  go_enter Tryz.func69,Tryz.ntmps69
  go_wp2_with fail
  rw[←hX]
  clear hX
  go_wp2
  go_ret
  exact⟨by rw[Za R];rfl,Za HB⟩
theorem Pf:∀ (M:List Int) (U:List Zk) (N:List Int) (T:List Zk),M.length=U.length→Xc N T M U=0→Y7 U
 | [],[],_,_,_,_=>fun b hb=>by cases hb
 | [],_ :: _,_,_,h,_=>by cases h
 | _ :: _,[],_,_,h,_=>by cases h
 | x :: M,b :: U,N,T,h,hc=>by
  rw[Xc] at hc
  split at hc
  ·next q=>exact absurd hc q
  ·next q=>
   have h1:=chkB_head (Jb (Classical.not_not.1 q))
   have h2:=Pf M U _ _ (by simpa using h) hc
   intro y hy
   rcases List.mem_cons.1 hy with rfl|hy
   ·exact h1
   ·exact h2 y hy
theorem Vc{N:List Int}{T:List Zk}(h:chkTr N T=0):N.length=T.length∧N.length≤24∧Y7 T∧Xc [] [] N T=0:=by
 unfold chkTr at h
 split at h
 ·cases h
 ·next q=>
  split at h
  ·cases h
  ·next q2=>exact⟨Classical.not_not.1 q,by omega,Pf N T [] [] (Classical.not_not.1 q) h,h⟩
theorem Pt{N:List Int}{T:List Zk}(h:Y7 T)(s:Int):(Xp N T s).length≤1000:=by
 unfold Xp
 rw[L6]
 have:=(Jf h s N)
 omega
theorem Lg(a b:Option Addr)(n c d:Nat)(N:List Int)(T:List Zk)(s:Int)(P:List Int)(pn:Nat)(w:World)(hn:n≤maxLen)(hN:IntsAt w a n N)(hT:BlksAt w b n T)(hH:Y7 T)(hP:Xp N T s=P)(hpn:P.length=pn) :
  Calls Tryz.prog 131 #[.agg #[.slice a n c,.slice b n d],.int .i64 s] w fun e w'=>∃ v,e = .returned v∧w'.ownsRow w.heap.size 3 1 v pn (P.map (Value.int .i64))∧Below w.heap.size w w':=by
 subst hP hpn
 exact E0 a b n c d N T s w hn hN hT hH
theorem Zfq(a b:Option Addr)(n c m d:Nat)(N:List Int)(T:List Zk)(s:Int)(P:List Int)(pn:Nat)(x:Int)(w:World)(hN:IntsAt w a n N)(hT:BlksAt w b m T)(sN:SlOk a n c)(sT:SlOk b m d)(hx:U6 N T s=(P,x))(hpn:P.length=pn) :
  Calls Tryz.prog 56 #[.agg #[.slice a n c,.slice b m d],.int .i64 s] w fun e w'=>∃ v,e = .returned (.tuple #[v,.int .i64 x])∧w'.ownsRow w.heap.size 3 1 v pn (P.map (Value.int .i64))∧Below w.heap.size w w':=by
 obtain⟨X,hX⟩:∃ X,X=w.alloc (.cells #[.slice a n c,.slice b m d] 28):=⟨_,rfl⟩
 have hbX:Below w.heap.size w X:=by rw[hX];exact Zi _ _
 have hX0:X.heap[w.heap.size]? = some (.cells [.slice a n c,.slice b m d].toArray 28 (0,0)):=by rw[hX];exact Yv _ _ _ _
 have HB:=Zb hbX
 have HX0:=Zb hX0
 obtain⟨y,hy⟩:∃ y,chkTr N T=y:=⟨_,rfl⟩
 have C1:=Zb (Uc a b n c m d N T y X (hN.later hbX) (hT.later hbX) sN sT hy)
 have x0:=Zd hX0 0 _ rfl
 have x1:=Zd hX0 1 _ rfl
 have xl:=lt_of_block hX0
 unfold U6 at hx
 rw[hy] at hx
 by_cases q:y=0
 ·subst q
  rw[if_neg (by simp)] at hx
  obtain⟨hl,h24,hH,_⟩:=Vc hy
  obtain rfl:n=m:=by rw[←hN.1,←hT.1,hl]
  have hnm:n≤maxLen:=sN.len
  obtain⟨o,ho⟩:∃ o,decide (s∈N)=o:=⟨_,rfl⟩
  rw[ho] at hx
  have C2:=Zb (fun W (hb:Below X.heap.size X W)=>Ml a b n c n d N s o W hnm (hN.later (Zf hbX hb)) ho)
  have C3:=Zb (fun W (hb:Below X.heap.size X W) (hP:Xp N T s=P)=>Lg a b n c d N T s P pn W hnm (hN.later (Zf hbX hb)) (hT.later (Zf hbX hb)) hH hP hpn)
  have HXX:=Zb hx
  have HPN:=Zb hpn
  clear hbX hX0 hN hT sN sT hy hx hl h24 hH ho hpn hnm
  by_cases q1:s=0
  ·subst q1
   have R:Hid (Xp N T 0=P∧0=x):=by
    have h:=Za HXX
    rw[if_neg (by simp)] at h
    exact⟨congrArg Prod.fst h,congrArg Prod.snd h⟩
   clear HXX C2
   obtain rfl:0=x:=(Za R).2
   go_enter Tryz.func56,Tryz.ntmps56
   go_wp2_with fail
   rw[←hX]
   clear hX
   refine (Za C1).mono ?_
   rintro e w1 ⟨rfl,hb1⟩
   have CC:=Zb ((Za C3) _ hb1 (Za R).1)
   have hc:=(hb1.block _ (lt_of_block (Za HX0))).trans (Za HX0)
   have t0:=Zd hc 0 _ rfl
   have t1:=Zd hc 1 _ rfl
   have tl:=lt_of_block hc
   have HB1:=Zb (Zf (Za HB) hb1)
   clear hb1 x0 x1 xl hc C1 C3
   go_wp2_with fail
   refine (Za CC).mono ?_
   rintro e w2 ⟨v,rfl,ho2,hb2⟩
   have R2:=Zb (Y8 ho2 (Za HB1).size)
   have HB2:=Zb (Zf (Za HB1) hb2)
   clear ho2 hb2
   go_wp2
   go_ret2
   exact⟨v,rfl,Za R2,Za HB2⟩
  ·have g1:(s != 0)=true:=by simp[q1]
   cases o with
   | false=>
    have R:Hid (([]:List Int)=P∧5=x):=by
     have h:=Za HXX
     rw[if_pos ⟨q1,rfl⟩] at h
     exact⟨congrArg Prod.fst h,congrArg Prod.snd h⟩
    clear HXX C3
    obtain⟨rfl,rfl⟩:=Za R
    obtain rfl:0=pn:=Za HPN
    clear q1
    go_enter Tryz.func56,Tryz.ntmps56
    go_wp2_with fail
    rw[←hX]
    clear hX
    refine (Za C1).mono ?_
    rintro e w1 ⟨rfl,hb1⟩
    have CC:=Zb ((Za C2) _ hb1)
    have hc:=(hb1.block _ (lt_of_block (Za HX0))).trans (Za HX0)
    have t0:=Zd hc 0 _ rfl
    have t1:=Zd hc 1 _ rfl
    have tl:=lt_of_block hc
    have HB1:=Zb (Zf (Za HB) hb1)
    clear hb1 x0 x1 xl hc C1 C2
    go_wp2_with fail
    refine (Za CC).mono ?_
    rintro e w2 ⟨rfl,hb2⟩
    have HB2:=Zb (Zf (Za HB1) hb2)
    clear hb2
    go_wp2
    go_ret2
    exact⟨_,rfl,World.ownsRow_nil _ _ _ _,Za HB2⟩
   | true=>
    have R:Hid (Xp N T s=P∧0=x):=by
     have h:=Za HXX
     rw[if_neg (by simp)] at h
     exact⟨congrArg Prod.fst h,congrArg Prod.snd h⟩
    clear HXX
    obtain rfl:0=x:=(Za R).2
    clear q1
    go_enter Tryz.func56,Tryz.ntmps56
    go_wp2_with fail
    rw[←hX]
    clear hX
    refine (Za C1).mono ?_
    rintro e w1 ⟨rfl,hb1⟩
    have CC:=Zb ((Za C2) _ hb1)
    have HB0:=Zb hb1
    have hc:=(hb1.block _ (lt_of_block (Za HX0))).trans (Za HX0)
    have t0:=Zd hc 0 _ rfl
    have t1:=Zd hc 1 _ rfl
    have tl:=lt_of_block hc
    clear hb1 x0 x1 xl hc C1 C2
    go_wp2_with fail
    refine (Za CC).mono ?_
    rintro e w2 ⟨rfl,hb2⟩
    have HB2:=Zb (Zf (Za HB) (Zf (Za HB0) hb2))
    have CC:=Zb ((Za C3) _ (Zf (Za HB0) hb2) (Za R).1)
    have k0:=Ze hb2 t0
    have k1:=Ze hb2 t1
    have kl:=Nat.lt_of_lt_of_le tl hb2.size
    clear hb2 t0 t1 tl HB0 C3
    go_wp2_with fail
    refine (Za CC).mono ?_
    rintro e w3 ⟨v,rfl,ho3,hb3⟩
    have R2:=Zb (Y8 ho3 (Za HB2).size)
    have HB3:=Zb (Zf (Za HB2) hb3)
    clear ho3 hb3
    go_wp2
    go_ret2
    exact⟨v,rfl,Za R2,Za HB3⟩
 ·rw[if_pos q] at hx
  obtain⟨rfl,rfl⟩:([]:List Int)=P∧y=x:=⟨congrArg Prod.fst hx,congrArg Prod.snd hx⟩
  obtain rfl:0=pn:=hpn
  have g:(y != 0)=true:=by simp[q]
  clear hbX hX0 hN hT sN sT hy hx q
  go_enter Tryz.func56,Tryz.ntmps56
  go_wp2_with fail
  rw[←hX]
  clear hX
  refine (Za C1).mono ?_
  rintro e w1 ⟨rfl,hb1⟩
  have HB1:=Zb (Zf (Za HB) hb1)
  clear hb1 x0 x1 xl
  go_wp2
  go_ret2
  exact⟨_,rfl,World.ownsRow_nil _ _ _ _,Za HB1⟩
theorem Zcq{N:List Int}{T:List Zk}{s:Int}(h:(U6 N T s).2=0):chkTr N T=0∧(s=0∨s∈N)∧(U6 N T s).1=Xp N T s:=by
 unfold U6 at h ⊢
 by_cases q:chkTr N T=0
 ·rw[if_neg (by simp[q])] at h ⊢
  by_cases q1:s≠0∧decide (s∈N)=false
  ·rw[if_pos q1] at h;cases h
  ·rw[if_neg q1]
   refine⟨q,?_,rfl⟩
   by_cases e:s=0
   ·exact .inl e
   ·right
    by_cases e2:s∈N
    ·exact e2
    ·exact absurd ⟨e,by simp[e2]⟩ q1
 ·rw[if_pos q] at h;exact absurd h q
theorem work_is(a b:Option Addr)(n c m d:Nat)(N:List Int)(T:List Zk)(s z x:Int)(w:World)(hN:IntsAt w a n N)(hT:BlksAt w b m T)(sN:SlOk a n c)(sT:SlOk b m d)(hx:workE N T s=(z,x)) :
  Calls Tryz.prog 34 #[.agg #[.slice a n c,.slice b m d],.int .i64 s] w fun e w'=>e = .returned (.tuple #[.int .i64 z,.int .i64 x])∧Below w.heap.size w w':=by
 obtain⟨X,hX⟩:∃ X,X=w.alloc (.cells #[.slice a n c,.slice b m d] 28):=⟨_,rfl⟩
 have hbX:Below w.heap.size w X:=by rw[hX];exact Zi _ _
 have hX0:X.heap[w.heap.size]? = some (.cells [.slice a n c,.slice b m d].toArray 28 (0,0)):=by rw[hX];exact Yv _ _ _ _
 have HB:=Zb hbX
 have HX0:=Zb hX0
 obtain⟨P,y,hP⟩:∃ P y,U6 N T s=(P,y):=⟨_,_,rfl⟩
 obtain⟨pn,hpn⟩:∃ pn,P.length=pn:=⟨_,rfl⟩
 have C1:=Zb (Zfq a b n c m d N T s P pn y X (hN.later hbX) (hT.later hbX) sN sT hP hpn)
 have x0:=Zd hX0 0 _ rfl
 have x1:=Zd hX0 1 _ rfl
 have xl:=lt_of_block hX0
 unfold workE at hx
 have hok:=Zcq (N:=N) (T:=T) (s:=s)
 rw[hP] at hx hok
 by_cases q:y=0
 ·subst q
  rw[if_neg (by simp)] at hx
  obtain⟨hc0,_,hp⟩:=hok rfl
  obtain⟨hl,h24,hH,_⟩:=Vc hc0
  obtain rfl:n=m:=by rw[←hN.1,←hT.1,hl]
  have hnm:n≤maxLen:=sN.len
  have hpl:pn≤1000:=by rw[←hpn];simp only at hp;rw[hp];exact Pt hH s
  obtain⟨hz,rfl⟩:Xj N T 0 P=z∧0=x:=⟨congrArg Prod.fst hx,congrArg Prod.snd hx⟩
  have C2:=Zb (fun pa pc W (hb:Below X.heap.size X W) (hPA:IntsAt W pa pn P)=>Kx a b pa n c d pn pc N T P z W hnm (hN.later (Zf hbX hb)) (hT.later (Zf hbX hb)) hPA hpl hH hz)
  clear hbX hX0 hN hT sN sT hP hx hl h24 hH hpn hnm hok hp hc0 hz
  go_enter Tryz.func34,Tryz.ntmps34
  go_wp2_with fail
  rw[←hX]
  clear hX
  refine (Za C1).mono ?_
  rintro e w1 ⟨v,rfl,ho1,hb1⟩
  obtain⟨pa,pc,rfl,_,hpa⟩:=Uj ho1
  have CC:=Zb ((Za C2) pa pc _ hb1 hpa)
  have hc:=(hb1.block _ (lt_of_block (Za HX0))).trans (Za HX0)
  have t0:=Zd hc 0 _ rfl
  have t1:=Zd hc 1 _ rfl
  have tl:=lt_of_block hc
  have HB1:=Zb (Zf (Za HB) hb1)
  clear hb1 x0 x1 xl hc C1 C2 ho1 hpa
  go_wp2_with fail
  refine (Za CC).mono ?_
  rintro e w2 ⟨rfl,hb2⟩
  have HB2:=Zb (Zf (Za HB1) hb2)
  clear hb2
  go_wp2
  go_ret2
  exact⟨rfl,Za HB2⟩
 ·rw[if_pos q] at hx
  obtain⟨rfl,rfl⟩:0=z∧y=x:=⟨congrArg Prod.fst hx,congrArg Prod.snd hx⟩
  have g:(y != 0)=true:=by simp[q]
  clear hbX hX0 hN hT sN sT hP hx q hpn hok
  go_enter Tryz.func34,Tryz.ntmps34
  go_wp2_with fail
  rw[←hX]
  clear hX
  refine (Za C1).mono ?_
  rintro e w1 ⟨v,rfl,_,hb1⟩
  have HB1:=Zb (Zf (Za HB) hb1)
  clear hb1 x0 x1 xl
  go_wp2
  go_ret2
  exact⟨rfl,Za HB1⟩
end Go.Proofs.YtmomfkikogbdeaaGreatDoor.Tr
