import Derived.Test.YtpikejjiignchaaGreatDoorG41
set_option maxHeartbeats 12800000
set_option maxRecDepth 10000
namespace Go.Proofs.YtpikejjiignchaaGreatDoor.Tr
open Go.RowKit
theorem Zii{G B w0s:Nat}{w0 wr w5:World}{g cap n k:Nat}{K:List (List Value)}{T:List Zk}{x:Zk}{u0 u1 u2 u3 u4:Value}(h:Cl blkR 68 B G w0 wr (.slice (some ⟨g,0,none⟩) n cap) n K T k)(hk:k<T.length)(hkK:k<K.length)(hx:T[k]=x)(hb:Below wr.heap.size wr w5)(hf:Fresh w0s w5 (fun w2=>blkR.C w2 [u0,u1,u2,u3,u4] x))(hG:G≤w0s) :
  Cl blkR 68 B G w0 (((((w5.setCell ⟨g,k*5,none⟩ u0).setCell ⟨g,k*5+1,none⟩ u1).setCell ⟨g,k*5+2,none⟩ u2).setCell ⟨g,k*5+3,none⟩ u3).setCell ⟨g,k*5+4,none⟩ u4) (.slice (some ⟨g,0,none⟩) n cap) n (K.set k [u0,u1,u2,u3,u4]) T (k+1):=by
 have h5:=h.keep hb
 refine h5.step hk ?_ ((((((Gr.refl w5 (fun q=>q=g)).one g (k*5) (.inl rfl) _).one g (k*5+1) (.inl rfl) _).one g (k*5+2) (.inl rfl) _).one g (k*5+3) (.inl rfl) _).one g (k*5+4) (.inl rfl) _) ?_
 ·rw[hx]
  exact hf.less hG
 ·have h1:=(((((h5.own.stored (k*5) u0).1.stored (k*5+1) u1).1.stored (k*5+2) u2).1.stored (k*5+3) u3).1.stored (k*5+4) u4).1
  rw[put5 h5.wid k hkK] at h1
  exact h1
def Zck(w:World)(N:List Int)(T:List Zk)(n:Nat)(v1 v2:Value)(wx:World):Prop:=
 ∃ K,AllC blkR w K T∧wx.ownsRow (w.heap.size+2) 3 1 v1 n (N.map (Value.int .i64))∧wx.ownsRow (w.heap.size+2) 68 5 v2 n K.flatten ∧
  wx.heap[w.heap.size]? = some (.cells [v1,v2].toArray 28 (0,0))∧wx.heap[w.heap.size+1]? = some (.cells [.slice none 0 0,.slice none 0 0].toArray 28 (0,0))∧Below w.heap.size w wx
theorem Lt{w W wx:World}{N:List Int}{T:List Zk}{n:Nat}{v1 v2:Value}{K:List (List Value)}(h1:AllC blkR w K T)(o1:W.ownsRow (w.heap.size+2) 3 1 v1 n (N.map (Value.int .i64)))(o2:W.ownsRow (w.heap.size+2) 68 5 v2 n K.flatten)(hb:Below w.heap.size w W)
  (hz:W.heap[w.heap.size+1]? = some (.cells [.slice none 0 0,.slice none 0 0].toArray 28 (0,0))) (hg:Gr W wx (fun q=>q=w.heap.size)) (hx:wx.heap[w.heap.size]? = some (.cells [v1,v2].toArray 28 (0,0))):Zck w N T n v1 v2 wx:=
 ⟨K,h1,hg.own o1 (fun k hk=>by have:=(o1.lt k hk).1;omega),hg.own o2 (fun k hk=>by have:=(o2.lt k hk).1;omega),hx,hg.heap hz (by omega),hg.below hb (by have:=lt_of_block hz;omega) (fun k hk=>by omega)⟩
def Eb(b:Zk):Prop:=b.2.2.2.2.length≤2513169434916∧∀ t∈b.2.2.2.2,Hr t
def TreeOwn(B:Nat)(w:World)(v1 v2:Value)(n:Nat)(N:List Int)(T:List Zk):Prop:=
 ∃ K G,w.ownsRow B 3 1 v1 n (N.map (Value.int .i64))∧w.ownsRow B 68 5 v2 n K.flatten∧(∀ q,v1.ownBlock=some q→q<G)∧(∀ q,v2.ownBlock=some q→q<G)∧B≤G∧T.length=n∧Fresh G w (fun w2=>AllC blkR w2 K T)
theorem TreeOwn.gr{B:Nat}{w w':World}{v1 v2:Value}{n:Nat}{N:List Int}{T:List Zk}(h:TreeOwn B w v1 v2 n N T)(g:Gr w w' (fun q=>q<B)):TreeOwn B w' v1 v2 n N T:=by
 obtain⟨K,G,h1,h2,h3,h4,h5,h6,h7⟩:=h
 exact⟨K,G,g.own h1 (fun q hq=>by have:=(h1.lt q hq).1;omega),g.own h2 (fun q hq=>by have:=(h2.lt q hq).1;omega),h3,h4,h5,h6,h7.on (g.mono fun q _ hq=>by omega)⟩
theorem TreeOwn.less{B B':Nat}{w:World}{v1 v2:Value}{n:Nat}{N:List Int}{T:List Zk}(h:TreeOwn B' w v1 v2 n N T)(hb:B≤B'):TreeOwn B w v1 v2 n N T:=by
 obtain⟨K,G,h1,h2,h3,h4,h5,h6,h7⟩:=h
 exact⟨K,G,Xv h1 hb,Xv h2 hb,h3,h4,by omega,h6,h7⟩
theorem TreeOwn.read{B:Nat}{w:World}{v1 v2:Value}{n:Nat}{N:List Int}{T:List Zk}(h:TreeOwn B w v1 v2 n N T):∃ a1 c1 a2 c2,v1 = .slice a1 n c1∧v2 = .slice a2 n c2∧IntsAt w a1 n N∧SlOk a1 n c1∧BlksAt w a2 n T∧SlOk a2 n c2:=by
 obtain⟨K,G,h1,h2,h3,h4,h5,h6,h7⟩:=h
 obtain⟨a1,c1,rfl,s1,i1⟩:=ints_of_own h1
 obtain⟨a2,c2,rfl,r2,s2⟩:=rows_of_own blkR h2 h7.now h6
 exact⟨a1,c1,a2,c2,rfl,rfl,i1,s1,r2,s2⟩
theorem Zeh(a b:Option Addr)(n c d:Nat)(N:List Int)(T:List Zk)(w:World)(hN:IntsAt w a n N)(hT:BlksAt w b n T)(sN:SlOk a n c)(sT:SlOk b n d)(hn:n≤4096)(hs:∀ t∈T,Eb t) :
  Calls Tryz.prog 83 #[.agg #[.slice a n c,.slice b n d]] w fun e w'=>∃ v1 v2,e = .returned (.agg #[v1,v2])∧TreeOwn (w.heap.size+2) w' v1 v2 n N T∧Below w.heap.size w w':=by
 obtain⟨X,hX⟩:∃ X,X=(w.alloc (.cells #[.slice a n c,.slice b n d] 28)).alloc (.cells #[.slice none 0 0,.slice none 0 0] 28):=⟨_,rfl⟩
 have hbX:Below w.heap.size w X:=by rw[hX];exact Ze (Zg _ _) (Zg _ _)
 have hX0:X.heap[w.heap.size]? = some (.cells [.slice a n c,.slice b n d].toArray 28 (0,0)):=by
  rw[hX,Below.heap_alloc _ _ _ (by simp)];exact two_heap _ _ _ _
 have hXs:X.heap.size=w.heap.size+2:=by rw[hX];simp
 have hX1:X.heap[w.heap.size+1]? = some (.cells [.slice none 0 0,.slice none 0 0].toArray 28 (0,0)):=by
  rw[hX]
  have:=two_heap (w.alloc (.cells #[.slice a n c,.slice b n d] 28)) (.slice none 0 0) (.slice none 0 0) 28
  rw[show (w.alloc (.cells #[.slice a n c,.slice b n d] 28)).heap.size=w.heap.size+1 by simp] at this
  exact this
 have HBX:=Zb hbX
 have HX0:=Zb hX0
 have HX1:=Zb hX1
 have HXs:=Zb hXs
 have HSM:=Zb hs
 have HZN:=Zb hN.1
 have HZT:=Zb hT.1
 have C1:=Zb (Fr a n c N X.drew hn (hN.later (Ze hbX (Zh X))) sN)
 have C2:=Zb (fun W (hb:Below w.heap.size w W)=>Ft b n d T w W (Nat.le_trans hn (by decide)) hT hb sT)
 have x0:=Zd hX0 0 _ rfl
 have x1:=Zd hX0 1 _ rfl
 have xl:=lt_of_block hX0
 clear hbX hX0 hX1 hN hT sN sT hs hXs
 go_enter Tryz.func83,Tryz.ntmps83
 go_upto_region 1 with fail
 rw[←hX]
 clear hX
 go_cut [7,10] from 5 to 12 (fun s7 s10 wx=>Hid (Zck w N T n s7 s10 wx))
 case first=>
  go_region_with (first
   | (go_at_call 129;refine (Za C1).mono ?_;rintro e w3 ⟨v1,rfl,ho1,hb3⟩;have h30:=(hb3.block _ (lt_of_block (Za HX0))).trans (Za HX0);have d0:=Zd h30 0 _ rfl;have d1:=Zd h30 1 _ rfl;have dl:=lt_of_block h30;have HO1:Hid (w3.ownsRow (w.heap.size+2) 3 1 v1 n (N.map (Value.int .i64))):=Xv ho1 (Nat.le_of_eq (Za HXs).symm);have HB3:=Zb (Ze (Ze (Za HBX) (Zh _)) hb3);have HB3X:=Zb (Ze (Zh X) hb3);clear ho1 hb3 h30)
   | (go_at_call 130;refine ((Za C2) _ (Za HB3)).mono ?_;rintro e w4 ⟨v2,K2,rfl,hA2,ho2,hb4⟩;have hbX4:=Ze (Za HB3X) hb4;have h40:=(hbX4.block _ (lt_of_block (Za HX0))).trans (Za HX0);have h41:=(hbX4.block _ (lt_of_block (Za HX1))).trans (Za HX1);have e0:=Zd h40 0 _ rfl;have e1:=Zd h40 1 _ rfl;have z0:=Zi h40 0;have z1:=Zi h40 1;have el:=lt_of_block h40;have HA2:=Zb hA2;have HO2:Hid (w4.ownsRow (w.heap.size+2) 68 5 v2 n K2.flatten):=Xv ho2 (by have:=(Za HB3X).size;have:=Za HXs;omega);have HO14:=Zb ((Gr.of (S:=fun _=>False) hb4).own (Za HO1) (fun _ _ q=>q));have HB4:=Zb (Ze (Za HB3) hb4);have H40:=Zb h40;have H41:=Zb h41;obtain⟨a2,c2,rfl,_,_⟩:=Yq (Za HO2);obtain⟨a1,c1,rfl,_,_⟩:=Yq (Za HO1);clear hA2 ho2 hb4 hbX4 h40 h41))
  all_goals
   go_wp2_with fail
   go_meet
   case rel=>
    first
    | exact Lt (W:=w4) (Za HA2) (Za HO14) (Za HO2) (Za HB4) (Za H41) (((Gr.refl w4 (fun q=>q=w.heap.size)).one w.heap.size 0 (.inl rfl) _).one w.heap.size 1 (.inl rfl) _) (set_cells (set_cells (Za H40) 0 _) 1 _)
    | exact Lt (W:=w4) (Za HA2) (Za HO14) (Za HO2) (Za HB4) (Za H41) (((Gr.refl w4 (fun q=>q=w.heap.size)).one w.heap.size 1 (.inl rfl) _).one w.heap.size 0 (.inl rfl) _) (set_cells (set_cells (Za H40) 1 _) 0 _)
 case rest=>
  obtain⟨K1,hA1,ho1,ho2,h0,h1,hb⟩:=Za hcut
  obtain⟨a1,c1,rfl,_,_⟩:=Yq ho1
  obtain⟨a2,c2,rfl,_,_⟩:=Yq ho2
  obtain⟨G,hG⟩:∃ G,wc.heap.size=G:=⟨_,rfl⟩
  have hGw:w.heap.size+2≤G:=by rw[←hG];exact lt_of_block h1
  have ST1:Hid (wc.ownsRow (w.heap.size+2) 3 1 (.slice a1 n c1) n (N.map (Value.int .i64))):=ho1
  have HG1:Hid (∀ q,(Value.slice a1 n c1).ownBlock=some q→q<G):=fun q hq=>by have:=(ho1.lt q hq).2;omega
  have ST2:Hid (Cl blkR 68 (w.heap.size+2) G w wc (.slice a2 n c2) n K1 T 0):=Cl.start ho2 hA1 (Za HZT) (Nat.le_of_eq hG)
  have H0:=Zb h0
  have H1:=Zb h1
  have HB:=Zb hb
  have HGl:Hid (G≤wc.heap.size):=Nat.le_of_eq hG.symm
  have c10:=Zd h0 1 _ rfl
  have cl0:=lt_of_block h0
  clear hcut hA1 ho1 ho2 h0 h1 hb C1 C2 HX0 HX1 HBX x0 x1 xl hG
  go_wp2
  go_loopw [16] (fun i wr=>∃ (k:Nat) (K:List (List Value)),k≤n∧i = .int .i64 k∧Hid (wr.ownsRow (w.heap.size+2) 3 1 (.slice a1 n c1) n (N.map (Value.int .i64)))∧Hid (Cl blkR 68 (w.heap.size+2) G w wr (.slice a2 n c2) n K T k)∧Hid (wr.heap[w.heap.size]? = some (.cells [.slice a1 n c1,.slice a2 n c2].toArray 28 (0,0)))∧Hid (wr.heap[w.heap.size+1]? = some (.cells [.slice none 0 0,.slice none 0 0].toArray 28 (0,0)))∧Hid (Below w.heap.size w wr)∧Hid (G≤wr.heap.size)) (fun i _=>n - (intOf i).toNat)
  case atStart=>exact⟨0,K1,Nat.zero_le _,rfl,ST1,ST2,H0,H1,HB,HGl⟩
  case round=>
   obtain⟨k,K,hk,rfl,HN1,HC1,HB0,HB1,HBr,HGr⟩:=hrel
   clear ST1 ST2 H0 H1 HB HGl c10 cl0
   by_cases hlt:k<n
   ·have hlk:k<T.length:=by rw[Za HZT];exact hlt
    have hkK:k<K.length:=by rw[(Za HC1).len];exact hlk
    obtain⟨g,cap,ev,hgB,hgG,hgl⟩:=(Za HC1).form (by omega)
    cases ev
    obtain⟨ta,tn,tc,eK,hI,sI⟩:=(Za HC1).old k hlk hkK (Nat.le_refl _)
    have hsm:=(Za HSM) _ (List.getElem_mem hlk)
    obtain⟨x,hx⟩:∃ x,T[k]=x:=⟨_,rfl⟩
    rw[hx] at eK hI hsm
    obtain⟨x0,x1,x2,x3,x4⟩:=x
    simp only at eK hI
    have r0:=(Za HC1).cell k hkK 0 (by decide)
    have r1:=(Za HC1).cell k hkK 1 (by decide)
    have r2:=(Za HC1).cell k hkK 2 (by decide)
    have r3:=(Za HC1).cell k hkK 3 (by decide)
    have r4:=(Za HC1).cell k hkK 4 (by decide)
    rw[eK] at r0 r1 r2 r3 r4
    have r0:wr.cell? ⟨g,k*5,none⟩=some (.int .i64 x0):=r0
    have r1:wr.cell? ⟨g,k*5+1,none⟩=some (.int .i64 x1):=r1
    have r2:wr.cell? ⟨g,k*5+2,none⟩=some (.int .i64 x2):=r2
    have r3:wr.cell? ⟨g,k*5+3,none⟩=some (.int .i64 x3):=r3
    have r4:wr.cell? ⟨g,k*5+4,none⟩=some (.slice ta tn tc):=r4
    obtain⟨X1,hX1⟩:∃ X1,X1=wr.alloc (.cells #[.int .i64 x0,.int .i64 x1,.int .i64 x2,.int .i64 x3,.slice ta tn tc] 68):=⟨_,rfl⟩
    have hbX1:Below wr.heap.size wr X1:=by rw[hX1];exact Zg _ _
    have hXX:X1.heap[wr.heap.size]? = some (.cells [.int .i64 x0,.int .i64 x1,.int .i64 x2,.int .i64 x3,.slice ta tn tc].toArray 68 (0,0)):=by rw[hX1];exact Yd _ _ _ _ _ _ _
    have b0:=Zd hXX 0 _ rfl
    have b1:=Zd hXX 1 _ rfl
    have b2:=Zd hXX 2 _ rfl
    have b3:=Zd hXX 3 _ rfl
    have b4:=Zd hXX 4 _ rfl
    have bl:=lt_of_block hXX
    have t1:=Zc hbX1 (Zd (Za HB0) 1 _ rfl)
    have tl:=Nat.lt_of_lt_of_le (lt_of_block (Za HB0)) hbX1.size
    have HBX1:=Zb hbX1
    have hbb:=Ze (Ze (Za HBr) hbX1) (Zh _)
    have CO:=Zb (Tm x0 x1 x2 x3 ta tn tc x4 X1.drew (hI.later hbb) sI (by rw[←hI.1];exact hsm.1) hsm.2)
    have NX:Hid (∀ w5 u0 u1 u2 u3 u4,Below wr.heap.size wr w5→Fresh X1.drew.heap.size w5 (fun w2=>blkR.C w2 [u0,u1,u2,u3,u4] (x0,x1,x2,x3,x4)) →
      Hid ((((((w5.setCell ⟨g,k*5,none⟩ u0).setCell ⟨g,k*5+1,none⟩ u1).setCell ⟨g,k*5+2,none⟩ u2).setCell ⟨g,k*5+3,none⟩ u3).setCell ⟨g,k*5+4,none⟩ u4).ownsRow (w.heap.size+2) 3 1 (.slice a1 n c1) n (N.map (Value.int .i64)))∧Hid (Cl blkR 68 (w.heap.size+2) G w (((((w5.setCell ⟨g,k*5,none⟩ u0).setCell ⟨g,k*5+1,none⟩ u1).setCell ⟨g,k*5+2,none⟩ u2).setCell ⟨g,k*5+3,none⟩ u3).setCell ⟨g,k*5+4,none⟩ u4) (.slice (some ⟨g,0,none⟩) n c2) n (K.set k [u0,u1,u2,u3,u4]) T (k+1))∧Hid ((((((w5.setCell ⟨g,k*5,none⟩ u0).setCell ⟨g,k*5+1,none⟩ u1).setCell ⟨g,k*5+2,none⟩ u2).setCell ⟨g,k*5+3,none⟩ u3).setCell ⟨g,k*5+4,none⟩ u4).heap[w.heap.size]? = some (.cells [.slice a1 n c1,.slice (some ⟨g,0,none⟩) n c2].toArray 28 (0,0)))∧Hid ((((((w5.setCell ⟨g,k*5,none⟩ u0).setCell ⟨g,k*5+1,none⟩ u1).setCell ⟨g,k*5+2,none⟩ u2).setCell ⟨g,k*5+3,none⟩ u3).setCell ⟨g,k*5+4,none⟩ u4).heap[w.heap.size+1]? = some (.cells [.slice none 0 0,.slice none 0 0].toArray 28 (0,0)))∧Hid (Below w.heap.size w (((((w5.setCell ⟨g,k*5,none⟩ u0).setCell ⟨g,k*5+1,none⟩ u1).setCell ⟨g,k*5+2,none⟩ u2).setCell ⟨g,k*5+3,none⟩ u3).setCell ⟨g,k*5+4,none⟩ u4))∧Hid (G≤(((((w5.setCell ⟨g,k*5,none⟩ u0).setCell ⟨g,k*5+1,none⟩ u1).setCell ⟨g,k*5+2,none⟩ u2).setCell ⟨g,k*5+3,none⟩ u3).setCell ⟨g,k*5+4,none⟩ u4).heap.size)):=by
     intro w5 u0 u1 u2 u3 u4 hb5 hf5
     have hGr:=Za HGr
     have hg5:=(((((Gr.refl w5 (fun q=>q=g)).one g (k*5) (.inl rfl) u0).one g (k*5+1) (.inl rfl) u1).one g (k*5+2) (.inl rfl) u2).one g (k*5+3) (.inl rfl) u3).one g (k*5+4) (.inl rfl) u4
     have hs5:=hb5.size
     refine⟨?_,Zii (Za HC1) hlk hkK hx hb5 hf5 (Nat.le_trans hGr hbX1.size),?_,?_,?_,?_⟩
     ·exact hg5.own ((Gr.of (S:=fun _=>False) hb5).own (Za HN1) (fun _ _ q=>q)) (fun q hq e=>Y8 (Za HC1).own (Za HN1) (by decide) q (by rw[e];rfl) hq)
     ·exact hg5.heap ((hb5.block _ (lt_of_block (Za HB0))).trans (Za HB0)) (by omega)
     ·exact hg5.heap ((hb5.block _ (lt_of_block (Za HB1))).trans (Za HB1)) (by omega)
     ·exact hg5.below (Ze (Za HBr) hb5) (by have:=lt_of_block (Za HB0);omega) (fun q e=>by omega)
     ·exact Nat.le_trans hGr (Nat.le_trans hs5 hg5.size)
    have FR:=Zb (fun j=>(Za HC1).free j)
    have hkI:(k:Int)<(n:Int):=by omega
    clear hI sI hsm hx eK hbX1 hXX hbb
    go_wp2_with fail
    rw[←hX1]
    clear hX1
    go_region_with (go_at_call 84;refine (Za CO).mono ?_;rintro e w5 ⟨a5,c5,rfl,hf5,hb5⟩;have hbw5:=Ze (Ze (Za HBX1) (Zh _)) hb5;have HN:=Zb ((Za NX) w5 _ _ _ _ _ hbw5 hf5);have q1:=Zc hb5 (Zc (Zh _) t1);have s0:=Zc hbw5 r0;have s1:=Zc hbw5 r1;have s2:=Zc hbw5 r2;have s3:=Zc hbw5 r3;have s4:=Zc hbw5 r4;have q3:w5.frozen? ⟨g,k*5,none⟩=false:=(World.frozen?_of_block (a:=⟨g,k*5,none⟩) (hbw5.block g hgl)).trans ((Za FR) _);have q33:w5.frozen? ⟨g,k*5+1,none⟩=false:=(World.frozen?_of_block (a:=⟨g,k*5+1,none⟩) (hbw5.block g hgl)).trans ((Za FR) _);have q34:w5.frozen? ⟨g,k*5+2,none⟩=false:=(World.frozen?_of_block (a:=⟨g,k*5+2,none⟩) (hbw5.block g hgl)).trans ((Za FR) _);have q35:w5.frozen? ⟨g,k*5+3,none⟩=false:=(World.frozen?_of_block (a:=⟨g,k*5+3,none⟩) (hbw5.block g hgl)).trans ((Za FR) _);have q36:w5.frozen? ⟨g,k*5+4,none⟩=false:=(World.frozen?_of_block (a:=⟨g,k*5+4,none⟩) (hbw5.block g hgl)).trans ((Za FR) _);have q4:=Nat.lt_of_lt_of_le hgl hbw5.size;have q5:=Nat.lt_of_lt_of_le (lt_of_block (Za HB0)) hbw5.size;clear hf5 hb5 hbw5)
    all_goals
     go_wp2
     go_roundw
     case rel=>
      obtain⟨f1,f2,f3,f4,f5,f6⟩:=Za HN
      exact⟨k+1,_,by omega,by go_num,f1,f2,f3,f4,f5,f6⟩
     case measure=>simp[intOf];omega
   ·have e:k=n:=by omega
    subst e
    have s0:=Zd (Za HB0) 0 _ rfl
    have s1:=Zd (Za HB0) 1 _ rfl
    have sl:=lt_of_block (Za HB0)
    have y0:=Zd (Za HB1) 0 _ rfl
    have y1:=Zd (Za HB1) 1 _ rfl
    have z0:=Zi (Za HB1) 0
    have z1:=Zi (Za HB1) 1
    have yl:=lt_of_block (Za HB1)
    have R:Hid (TreeOwn (w.heap.size+2) wr (.slice a1 k c1) (.slice a2 k c2) k N T):=
     ⟨K,G,Za HN1,(Za HC1).own,Za HG1,(Za HC1).gt,hGw,Za HZT,(Za HC1).done⟩
    clear HC1 HN1
    go_wp2
    (try simp only[Exit.inBlock,Exit.then])
    have hG:=((Gr.refl wr (fun q=>q=w.heap.size+1)).one (w.heap.size+1) 0 (.inl rfl) (.slice a1 k c1)).one (w.heap.size+1) 1 (.inl rfl) (.slice a2 k c2)
    refine bodyPost_ret (v:=.agg #[.slice a1 k c1,.slice a2 k c2]) ?_ rfl ⟨_,_,rfl,(Za R).gr (hG.mono fun q _ e=>by omega),?_⟩
    ·rw[Ys rfl]
     go_simp
    ·exact hG.below (Za HBr) (by omega) (fun q e=>by omega)
def addE(N:List Int)(T:List Zk)(x:Int)(b:Zk):List Int×List Zk×Int:=
 if chkTr N T≠0 then ([],[],chkTr N T) else if Xi N T x b≠0 then ([],[],Xi N T x b) else if N.length=24 then ([],[],12) else (N++[x],T++[b],0)
theorem Nv:∀ (l pre:List InD),Zy pre l=0→∀ x∈l,x.2.2.length≤16
 | [],_,_,x,hx=>by cases hx
 | y :: r,pre,h,x,hx=>by
  rw[Zy] at h
  split at h
  ·next q=>
   rcases List.mem_cons.1 hx with rfl|hx
   ·unfold Wo at q
    split at q
    ·cases q
    ·split at q
     ·next q1=>exact absurd q q1
     ·next q1=>exact Hq (Classical.not_not.1 q1)
   ·exact Nv r _ h x hx
  ·next q=>exact absurd h q
theorem Ks:∀ (l:List Yc),Zx l=0→∀ x∈l,x.2.length≤16
 | [],_,x,hx=>by cases hx
 | y :: r,h,x,hx=>by
  rw[Zx] at h
  split at h
  ·next q=>
   rcases List.mem_cons.1 hx with rfl|hx
   ·unfold Yw at q
    split at q
    ·cases q
    ·exact Hq q
   ·exact Ks r h x hx
  ·next q=>exact absurd h q
theorem Zfa{t:TxD}(h:Zo t=0):Hr t:=by
 unfold Zo at h
 split at h
 ·cases h
 ·next q0=>
  split at h
  ·cases h
  ·split at h
   ·cases h
   ·split at h
    ·next q=>exact absurd h q
    ·next q=>
     have h1:=Nv _ _ (Classical.not_not.1 q)
     unfold Zr at h
     split at h
     ·next q2=>
      have h2:=Ks _ q2
      exact⟨by omega,by omega,fun x hx=>by have:=h1 x hx;omega,fun x hx=>by have:=h2 x hx;omega⟩
     ·next q2=>exact absurd h q2
theorem Qy(h:Int):∀ (T:List TxD) (i:Nat),Yr h i T=0→∀ t∈T,Zo t=0
 | [],_,_,t,ht=>by cases ht
 | u :: r,i,q,t,ht=>by
  rw[Yr] at q
  split at q
  ·next q1=>exact absurd q q1
  ·next q1=>
   split at q
   ·cases q
   ·rcases List.mem_cons.1 ht with rfl|ht
    ·exact Classical.not_not.1 q1
    ·exact Qy h r _ q t ht
theorem Rq{b:Zk}(h:Xb b=0):Eb b:=by
 unfold Xb at h
 split at h
 ·cases h
 ·split at h
  ·cases h
  ·next q=>
   split at h
   ·cases h
   ·exact⟨by omega,fun t ht=>Zfa (Qy _ _ _ h t ht)⟩
theorem To:∀ (M:List Int) (U:List Zk) (N:List Int) (T:List Zk),M.length=U.length→Xo N T M U=0→∀ b∈U,Xb b=0
 | [],[],_,_,_,_=>fun b hb=>by cases hb
 | [],_ :: _,_,_,h,_=>by cases h
 | _ :: _,[],_,_,h,_=>by cases h
 | x :: M,b :: U,N,T,h,hc=>by
  rw[Xo] at hc
  split at hc
  ·next q=>exact absurd hc q
  ·next q=>
   have h1:=J5 (Classical.not_not.1 q)
   have h2:=To M U _ _ (by simpa using h) hc
   intro y hy
   rcases List.mem_cons.1 hy with rfl|hy
   ·exact h1
   ·exact h2 y hy
def AddR(w w':World)(N:List Int)(T:List Zk)(n:Nat)(x:Int)(e:Ending):Prop:=
 ∃ a1 c1 a2 c2,e = .returned (.tuple #[.agg #[.slice a1 n c1,.slice a2 n c2],.int .i64 x])∧Fresh w.heap.size w' (fun w2=>IntsAt w2 a1 n N∧BlksAt w2 a2 n T)∧SlOk a1 n c1∧SlOk a2 n c2∧Below w.heap.size w w'
theorem Mj{w w':World}{x:Int}(hb:Below w.heap.size w w'):AddR w w' [] [] 0 x (.returned (.tuple #[.agg #[.slice none 0 0,.slice none 0 0],.int .i64 x])):=
 ⟨none,0,none,0,rfl,fun _ _=>⟨IntsAt.nil _ _,RowsAt.nil _ _⟩,⟨Nat.le_refl _,Nat.zero_le _,fun _=>⟨rfl,rfl⟩⟩,⟨Nat.le_refl _,Nat.zero_le _,fun _=>⟨rfl,rfl⟩⟩,hb⟩
theorem Tp{w W:World}{t:Nat}(hb:Below w.heap.size w W)(ht:w.heap.size≤t)(hs:w.heap.size≤W.heap.size)(u v:Value):Below w.heap.size w ((W.setCell ⟨t,0,none⟩ u).setCell ⟨t,1,none⟩ v):=
 (((Gr.refl W (fun q=>q=t)).one t 0 (.inl rfl) u).one t 1 (.inl rfl) v).below hb hs (fun k e=>by omega)
theorem Zkn{B B5 G O t6 n:Nat}{w5 w9 w10 w12 wF:World}{v1 v2:Value}{g cap g2 cap2:Nat}{N:List Int}{T:List Zk}{s:Int}{b:Zk}{K:List (List Value)}{cs:List Value}
  (hB:B≤B5) (ht6:t6<B5) (hBG:B5≤G) (hTn:T.length=n) (hF:Fresh G w5 (fun w2=>AllC blkR w2 K T)) (hf:Fresh w9.heap.size w10 (fun w2=>blkR.C w2 cs b))
  (h1:∀ q,v1.ownBlock=some q→q<G) (h2:∀ q,v2.ownBlock=some q→q<G) (h2':∀ q,v2.ownBlock=some q→B5≤q∧q<w5.heap.size) (hO:O=w5.heap.size) (hO9:O<w9.heap.size) (hB9:B≤w9.heap.size) (ht9:t6<w9.heap.size)
  (g9:Gr w5 w9 (fun q=>v1.ownBlock=some q)) (gF:Gr w9 wF (fun q=>v2.ownBlock=some q∨q=O∨q=t6)) (g10:Gr w10 wF (fun q=>v2.ownBlock=some q∨q=O∨q=t6)) (g12:Gr w12 wF (fun q=>q=O∨q=t6))
  (on9:w9.ownsRow B5 3 1 (.slice (some ⟨g,0,none⟩) (n+1) cap) (n+1) ((N++[s]).map (Value.int .i64))) (hg:g≠O) (hg2:v2.ownBlock≠some g)
  (o12:w12.ownsRow B5 68 5 (.slice (some ⟨g2,0,none⟩) (n+1) cap2) (n+1) (K.flatten++cs)) (hgg:g2≠O) :
  Fresh B wF (fun w2=>IntsAt w2 (some ⟨g,0,none⟩) (n+1) (N++[s])∧BlksAt w2 (some ⟨g2,0,none⟩) (n+1) (T++[b]))∧SlOk (some ⟨g,0,none⟩) (n+1) cap∧SlOk (some ⟨g2,0,none⟩) (n+1) cap2:=by
 have gb:=(on9.lt g rfl).1
 have gb2:=(o12.lt g2 rfl).1
 have onF:=gF.own on9 (fun q hq e=>by
  cases hq
  rcases e with e|e|e
  ·exact hg2 e
  ·exact hg e
  ·simp only at e;omega)
 have obF:=g12.own o12 (fun q hq e=>by
  cases hq
  rcases e with e|e
  ·exact hgg e
  ·simp only at e;omega)
 have hFF:Fresh G wF (fun w2=>AllC blkR w2 K T):=hF.on (((g9.mono (T:=fun q=>v1.ownBlock=some q∨v2.ownBlock=some q∨q=O∨q=t6) fun q _ e=>.inl e).trans (gF.mono fun q _ e=>.inr e)).mono fun q hq e=>by
  rcases e with e|e|e|e
  ·exact h1 q e
  ·exact h2 q e
  ·omega
  ·omega)
 have hfF:Fresh w9.heap.size wF (fun w2=>blkR.C w2 cs b):=hf.on (g10.mono fun q _ e=>by
  rcases e with e|e|e
  ·have:=(h2' q e).2;omega
  ·omega
  ·omega)
 have s1:=Yq onF
 have s2:=Yq obF
 obtain⟨a1,c1,e1,s1,_⟩:=s1
 obtain⟨a2,c2,e2,s2,_⟩:=s2
 cases e1
 cases e2
 refine⟨fun w2 g2=>?_,s1,s2⟩
 have onW:=g2.own onF (fun q hq=>by have:=(onF.lt q hq).1;omega)
 have obW:=g2.own obF (fun q hq=>by have:=(obF.lt q hq).1;omega)
 obtain⟨a1,c1,e1,_,i1⟩:=ints_of_own onW
 cases e1
 have hA:=(hFF w2 (g2.mono fun q _ e=>by omega)).snoc (hfF w2 (g2.mono fun q _ e=>by omega))
 have hfl:K.flatten++cs=(K++[cs]).flatten:=by simp
 rw[hfl] at obW
 obtain⟨a2,c2,e2,r2,_⟩:=rows_of_own blkR obW hA (by rw[List.length_append,hTn];rfl)
 cases e2
 exact⟨i1,r2⟩
theorem add_is(a b:Option Addr)(n c m d:Nat)(N:List Int)(T:List Zk)(s p h k o:Int)(ta:Option Addr)(tn tc:Nat)(L:List TxD)(N':List Int)(T':List Zk)(n':Nat)(x:Int)(w:World)(hN:IntsAt w a n N)(hT:BlksAt w b m T)(sN:SlOk a n c)(sT:SlOk b m d)(hL:TxsAt w ta tn L)(sL:SlOk ta tn tc)(hx:addE N T s (p,h,k,o,L)=(N',T',x))(hn':N'.length=n') :
  Calls Tryz.prog 39 #[.agg #[.slice a n c,.slice b m d],.int .i64 s,.agg #[.int .i64 p,.int .i64 h,.int .i64 k,.int .i64 o,.slice ta tn tc]] w fun e w'=>AddR w w' N' T' n' x e:=by
 obtain⟨i0,hi,hz0,hz1,hz2⟩:=info_parts Tryz.infoInt
 obtain⟨j0,ji,jz0,jz1,jz2⟩:=info_parts Tryz.infoBlkC
 obtain⟨X,hX⟩:∃ X,X=((w.alloc (.cells #[.slice a n c,.slice b m d] 28)).alloc (.cells #[.int .i64 p,.int .i64 h,.int .i64 k,.int .i64 o,.slice ta tn tc] 68)).alloc (.cells #[.slice none 0 0,.slice none 0 0] 28):=⟨_,rfl⟩
 have hbX:Below w.heap.size w X:=by rw[hX];exact Ze (Ze (Zg _ _) (Zg _ _)) (Zg _ _)
 have hX0:X.heap[w.heap.size]? = some (.cells [.slice a n c,.slice b m d].toArray 28 (0,0)):=by
  rw[hX,Below.heap_alloc _ _ _ (by simp;omega),Below.heap_alloc _ _ _ (by simp)];exact two_heap _ _ _ _
 have hX1:X.heap[w.heap.size+1]? = some (.cells [.int .i64 p,.int .i64 h,.int .i64 k,.int .i64 o,.slice ta tn tc].toArray 68 (0,0)):=by
  rw[hX,Below.heap_alloc _ _ _ (by simp)]
  have:=Yd (w.alloc (.cells #[.slice a n c,.slice b m d] 28)) (.int .i64 p) (.int .i64 h) (.int .i64 k) (.int .i64 o) (.slice ta tn tc) 68
  rw[show (w.alloc (.cells #[.slice a n c,.slice b m d] 28)).heap.size=w.heap.size+1 by simp] at this
  exact this
 have hX2:X.heap[w.heap.size+2]? = some (.cells [.slice none 0 0,.slice none 0 0].toArray 28 (0,0)):=by
  rw[hX]
  have:=two_heap ((w.alloc (.cells #[.slice a n c,.slice b m d] 28)).alloc (.cells #[.int .i64 p,.int .i64 h,.int .i64 k,.int .i64 o,.slice ta tn tc] 68)) (.slice none 0 0) (.slice none 0 0) 28
  rw[show ((w.alloc (.cells #[.slice a n c,.slice b m d] 28)).alloc (.cells #[.int .i64 p,.int .i64 h,.int .i64 k,.int .i64 o,.slice ta tn tc] 68)).heap.size=w.heap.size+2 by simp] at this
  exact this
 have hm:=sN.2.1
 unfold maxLen at hm
 have hnc:=sN.1
 have HB:=Zb hbX
 have HX0:=Zb hX0
 have HX1:=Zb hX1
 have HX2:=Zb hX2
 obtain⟨y,hy⟩:∃ y,chkTr N T=y:=⟨_,rfl⟩
 obtain⟨z,hz⟩:∃ z,Xi N T s (p,h,k,o,L)=z:=⟨_,rfl⟩
 have C1:=Zb (Jv a b n c m d N T y X (hN.later hbX) (hT.later hbX) sN sT hy)
 have x0:=Zd hX0 0 _ rfl
 have x1:=Zd hX0 1 _ rfl
 have xl:=lt_of_block hX0
 unfold addE at hx
 rw[hy,hz] at hx
 by_cases q:y=0
 ·subst q
  rw[if_neg (by simp)] at hx
  obtain⟨hl,h24,hH,hgo⟩:=Qz hy
  obtain rfl:n=m:=by rw[←hN.1,←hT.1,hl]
  have hnm:n≤maxLen:=sN.len
  have hn24:n≤24:=by rw[←hN.1];exact h24
  have HS:=Zb (fun t ht=>Rq (To N T [] [] hl hgo t ht))
  have C2:=Zb (fun W (hb:Below X.heap.size X W)=>Zbx a b n c d N T s p h k o ta tn tc L z W hnm (hN.later (Ze hbX hb)) (hT.later (Ze hbX hb)) (hL.later (Ze hbX hb)) hH hz)
  rw[hN.1] at hx
  have HXX:=Zb hx
  have HNN:=Zb hn'
  have CT:=Zb (fun W (hb:Below X.heap.size X W)=>Zeh a b n c d N T W (hN.later (Ze hbX hb)) (hT.later (Ze hbX hb)) sN sT (by omega) (Za HS))
  have CB:=Zb (fun W (hb:Below w.heap.size w W) (q:z=0)=>Tm p h k o ta tn tc L W (hL.later hb) sL (by rw[←hL.1];exact (Rq (J5 (hz.trans q))).1) (Rq (J5 (hz.trans q))).2)
  have HZN:=Zb hN.1
  clear hbX hX0 hX1 hX2 hN hT sN sT hL sL hy hz hl h24 hH hgo hnm hx hn' HS
  go_enter Tryz.func39,Tryz.ntmps39
  go_wp2_with fail
  rw[←hX]
  clear hX
  refine (Za C1).mono ?_
  rintro e w1 ⟨rfl,hb1⟩
  have HB1:=Zb hb1
  have h0:=(hb1.block _ (lt_of_block (Za HX0))).trans (Za HX0)
  have h1:=(hb1.block _ (lt_of_block (Za HX1))).trans (Za HX1)
  have a0:=Zd h0 0 _ rfl
  have a1:=Zd h0 1 _ rfl
  have al:=lt_of_block h0
  have b0:=Zd h1 0 _ rfl
  have b1:=Zd h1 1 _ rfl
  have b2:=Zd h1 2 _ rfl
  have b3:=Zd h1 3 _ rfl
  have b4:=Zd h1 4 _ rfl
  have bl:=lt_of_block h1
  clear hb1 h0 h1 x0 x1 xl C1
  go_wp2_with fail
  refine ((Za C2) _ (Za HB1)).mono ?_
  rintro e w2 ⟨rfl,hb2⟩
  have HB2:=Zb (Ze (Za HB1) hb2)
  clear hb2 a0 a1 al b0 b1 b2 b3 b4 bl C2 HB1
  have h0:=((Za HB2).block _ (lt_of_block (Za HX0))).trans (Za HX0)
  have h1:=((Za HB2).block _ (lt_of_block (Za HX1))).trans (Za HX1)
  have h2:=((Za HB2).block _ (lt_of_block (Za HX2))).trans (Za HX2)
  have c0:=Zd h2 0 _ rfl
  have c1:=Zd h2 1 _ rfl
  have f0:=Zi h2 0
  have f1:=Zi h2 1
  have cl:=lt_of_block h2
  have HBW:=Zb (Ze (Za HB) (Za HB2))
  by_cases q2:z=0
  ·subst q2
   have a0:=Zd h0 0 _ rfl
   have a1:=Zd h0 1 _ rfl
   have al:=lt_of_block h0
   by_cases q3:n=24
   ·subst q3
    obtain⟨rfl,rfl,rfl⟩:([]:List Int)=N'∧([]:List Zk)=T'∧12=x:=by
     have q:=Za HXX
     rw[if_neg (by simp),if_pos rfl] at q
     exact⟨congrArg (·.1) q,congrArg (·.2.1) q,congrArg (·.2.2) q⟩
    obtain rfl:0=n':=Za HNN
    clear HXX h0 h1 h2
    go_wp2
    (try simp only[Exit.inBlock,Exit.then])
    refine bodyPost_ret (v:=.tuple #[.agg #[.slice none 0 0,.slice none 0 0],.int .i64 12]) ?_ rfl (Mj ?_)
    ·rw[Zw rfl]
     go_simp
    ·exact Tp (Za HBW) (by omega) (Za HBW).size _ _
   ·have R:Hid (N++[s]=N'∧T++[(p,h,k,o,L)]=T'∧0=x):=by
     have q:=Za HXX
     rw[if_neg (by simp),if_neg q3] at q
     exact⟨congrArg (·.1) q,congrArg (·.2.1) q,congrArg (·.2.2) q⟩
    obtain rfl:0=x:=(Za R).2.2
    have g3:((n:Int) == 24)=false:=by simp;omega
    have H0:=Zb h0
    have H1:=Zb h1
    have H2:=Zb h2
    obtain rfl:n+1=n':=by rw[←Za HNN,←(Za R).1,List.length_append,Za HZN];rfl
    clear HXX q3 h0 h1 h2 c0 c1 f0 f1
    go_wp2_with fail
    refine ((Za CT) _ (Za HB2)).mono ?_
    rintro e w5 ⟨v1,v2,rfl,hTO,hb5⟩
    obtain⟨K,G,o1,o2,g1,g2,hBG,hTn,hF⟩:=hTO
    obtain⟨a1',c1',rfl,s1,r1⟩:=Yq o1
    obtain⟨a2',c2',rfl,s2,r2⟩:=Yq o2
    obtain⟨t6,ht6⟩:∃ t6,t6=w.heap.size+2:=⟨_,rfl⟩
    have hB5:w.heap.size+3≤w2.heap.size+2:=by omega
    have hs5:w2.heap.size≤w5.heap.size:=hb5.size
    have hb1lt:∀ q,(Value.slice a1' n c1').ownBlock=some q→w2.heap.size+2≤q∧q<w5.heap.size:=fun q hq=>o1.lt q hq
    have hb2lt:∀ q,(Value.slice a2' n c2').ownBlock=some q→w2.heap.size+2≤q∧q<w5.heap.size:=fun q hq=>o2.lt q hq
    have OWN:Hid (((w5.alloc (.cells #[.slice a1' n c1',.slice a2' n c2'] 28)).alloc (.cells #[.int .i64 s] 3)).ownsRow (w2.heap.size+2) 3 1 (.slice a1' n c1') n (N.map (Value.int .i64))):=(o1.alloc _).alloc _
    have NEWS:Hid (∀ j u,([.int .i64 s]:List Value)[j]? = some u→((w5.alloc (.cells #[.slice a1' n c1',.slice a2' n c2'] 28)).alloc (.cells #[.int .i64 s] 3)).cell? ((⟨w5.heap.size+1,0,none⟩:Addr).add j)=some u):=by
     have:=heap_alloc_new (w5.alloc (.cells #[.slice a1' n c1',.slice a2' n c2'] 28)) (.cells #[.int .i64 s] 3)
     rw[show (w5.alloc (.cells #[.slice a1' n c1',.slice a2' n c2'] 28)).heap.size=w5.heap.size+1 by simp] at this
     exact World.news_of_block (cs:=#[.int .i64 s]) (t:=3) (fr:=(0,0)) this
    have BX:Hid (((w5.alloc (.cells #[.slice a1' n c1',.slice a2' n c2'] 28)).alloc (.cells #[.int .i64 s] 3)).heap[w5.heap.size]? = some (.cells [.slice a1' n c1',.slice a2' n c2'].toArray 28 (0,0))):=by
     show _=_
     rw[Below.heap_alloc _ _ _ (by simp)]
     exact two_heap _ _ _ _
    have HO2:=Zb o2
    have HF:=Zb hF
    have HG1:=Zb g1
    have HG2:=Zb g2
    have HL1:=Zb hb1lt
    have HL2:=Zb hb2lt
    have HB5:=Zb hb5
    have HTN:=Zb hTn
    have HBG:=Zb hBG
    have HS2:=Zb s2
    clear o1 o2 hF g1 g2 hb1lt hb2lt hb5 a0 a1 al r1 r2 CT hTn hBG s1 s2
    go_wp2_with (at_builtin;refine wpList_append_lies _ rfl _ _ 25 rfl (w2.heap.size+2) 3 i0 (.int .i64 0) 1 8 Tryz.underlying25 hi hz0 hz1 hz2 rfl (by decide) _ _ _ rfl (Za OWN) ⟨w5.heap.size+1,0,none⟩ 1 1 [.int .i64 s] rfl rfl (Za NEWS) (fun u hu=>by simp at hu;subst hu;rfl) (by decide) (by unfold maxLen;omega) (by omega) (by simp;omega) (w5.heap.size+2) (by simp) ?_;intro g cap w8 hown8 hgrow8 hor8 hlt8;have bx8:=(hgrow8.block w5.heap.size (by simp;omega) (fun e=>by have:=((Za HL1) _ e.symm).2;omega)).trans (Za BX);have d0:=Zd bx8 0 _ rfl;have d1:=Zd bx8 1 _ rfl;have df:=Zi bx8 0;have dl:=lt_of_block bx8;have HW8:=Zb hown8;have HGR8:=Zb hgrow8;have HOR8:=Zb hor8;have HX8:=Zb bx8;clear hown8 hgrow8 hor8 bx8)
    obtain⟨w9,hw9⟩:∃ w9,w9=w8.setCell ⟨w5.heap.size,0,none⟩ (.slice (some ⟨g,0,none⟩) (n+1) cap):=⟨_,rfl⟩
    rw[←hw9]
    have hG8:Gr w5 w8 (fun q=>(Value.slice a1' n c1').ownBlock=some q):=(((Gr.refl w5 (fun q=>(Value.slice a1' n c1').ownBlock=some q)).new _).new _).grown (Za HGR8) (fun k hk=>.inl hk)
    have hG9:Gr w5 w9 (fun q=>(Value.slice a1' n c1').ownBlock=some q):=by rw[hw9];exact hG8.one w5.heap.size 0 (.inr (Nat.le_refl _)) _
    have bx9:w9.heap[w5.heap.size]? = some (.cells [.slice (some ⟨g,0,none⟩) (n+1) cap,.slice a2' n c2'].toArray 28 (0,0)):=by rw[hw9];exact set_cells (Za HX8) 0 _
    have hb9:Below w.heap.size w w9:=hG9.below (Ze (Za HBW) (Za HB5)) (by omega) (fun q hq=>by have:=((Za HL1) q hq).1;omega)
    have h91:=hG9.heap (((Za HB5).block _ (lt_of_block (Za H1))).trans (Za H1)) (fun hq=>by have:=((Za HL1) _ hq).1;have:=lt_of_block (Za H1);omega)
    have h92:=hG9.heap (((Za HB5).block _ (lt_of_block (Za H2))).trans (Za H2)) (fun hq=>by have:=((Za HL1) _ hq).1;omega)
    have hg8:g≠w5.heap.size∧w2.heap.size+2≤g:=by
     rcases Za HOR8 with e|e
     ·have:=(Za HL1) g e;omega
     ·omega
    have hg82:(Value.slice a2' n c2').ownBlock≠some g:=by
     have o28:w8.ownsRow (w2.heap.size+2) 68 5 (.slice a2' n c2') n K.flatten:=hG8.own (Za HO2) (fun q hq e=>Y8 ((((Za OWN).kept (w':=(w5.alloc (.cells #[.slice a1' n c1',.slice a2' n c2'] 28)).alloc (.cells #[.int .i64 s] 3)) (row:=none) (World.grownBy.refl _ _) (by cases a1' <;> simp[Value.ownBlock])))) (((Za HO2).alloc _).alloc _) (by decide) q e hq)
     exact Y8 (Za HW8) o28 (by decide) g rfl
    have on9:w9.ownsRow (w2.heap.size+2) 3 1 (.slice (some ⟨g,0,none⟩) (n+1) cap) (n+1) ((N++[s]).map (Value.int .i64)):=by
     rw[hw9]
     have:=((Gr.refl w8 (fun q=>q=w5.heap.size)).one w5.heap.size 0 (.inl rfl) (.slice (some ⟨g,0,none⟩) (n+1) cap)).own (Za HW8) (fun q hq e=>by cases hq;exact hg8.1 e)
     simpa using this
    have ob9:w9.ownsRow (w2.heap.size+2) 68 5 (.slice a2' n c2') n K.flatten:=hG9.own (Za HO2) (fun q hq e=>Y8 (Za OWN) (((Za HO2).alloc _).alloc _) (by decide) q e hq)
    have l9:w5.heap.size<w9.heap.size:=lt_of_block bx9
    have CC:=Zb ((Za CB) w9.drew (Ze hb9 (Zh _)) (by trivial))
    have e0:=Zd bx9 0 _ rfl
    have e1:=Zd bx9 1 _ rfl
    have k0:=Zd h91 0 _ rfl
    have k1:=Zd h91 1 _ rfl
    have k2:=Zd h91 2 _ rfl
    have k3:=Zd h91 3 _ rfl
    have k4:=Zd h91 4 _ rfl
    have kl:=lt_of_block h91
    have HBX9:=Zb bx9
    have HG9:=Zb hG9
    have H92:=Zb h92
    have HON9:=Zb on9
    have HOB9:=Zb ob9
    have HB9:=Zb hb9
    clear hw9 hG8 hG9 bx9 hb9 h91 h92 on9 ob9 d0 d1 df dl CB
    go_region_law (first
     | (refine Dr (by rfl) 84 #[.agg #[.int .i64 p,.int .i64 h,.int .i64 k,.int .i64 o,.slice ta tn tc]] (by kernel_rfl) (Za CC) ?_;rintro e w10 ⟨a5,c5,rfl,hf10,hb10⟩;refine⟨_,rfl,?_⟩;have bx10:=(hb10.block _ (lt_of_block (Za HBX9))).trans (Za HBX9);have m0:=Zd bx10 0 _ rfl;have m1:=Zd bx10 1 _ rfl;have ml:=lt_of_block bx10;have HF10:=Zb hf10;have HB10:=Zb hb10;have HBX10:=Zb bx10;have HOB10:=Zb ((Gr.of (S:=fun _=>False) hb10).own (Za HOB9).drew (fun _ _ q=>q));clear hf10 hb10 bx10)
     | (refine step_append_lies _ (by rfl) _ _ _ (by rfl) (w2.heap.size+2) 68 j0 _ 5 56 Tryz.underlying26 ji jz0 jz1 jz2 rfl (by decide) (.slice a2' n c2') n K.flatten (by rfl) ((Za HOB10).alloc _) ⟨w10.heap.size,0,none⟩ 1 1 [.int .i64 p,.int .i64 h,.int .i64 k,.int .i64 o,.slice a5 tn c5] (by rfl) (by rfl) (World.news_of_block (cs:=#[.int .i64 p,.int .i64 h,.int .i64 k,.int .i64 o,.slice a5 tn c5]) (t:=68) (fr:=(0,0)) (heap_alloc_new w10 _)) (by simp[Value.oneCell']) (by decide) (by unfold maxLen;omega) (by omega) (by simp;omega) (w10.heap.size+1) (by simp) ?_;intro g2 cap2 w12 hown12 hgrow12 hor12 hlt12;have bx12:=(hgrow12.block w5.heap.size (by simp;omega) (fun e=>by have:=((Za HL2) _ e.symm).2;omega)).trans ((Below.heap_alloc _ _ _ ml).trans (Za HBX10));have n0:=Zd bx12 0 _ rfl;have n1:=Zd bx12 1 _ rfl;have nf:=Zi bx12 1;have nl:=lt_of_block bx12;have HW12:=Zb hown12;have HGR12:=Zb hgrow12;have HOR12:=Zb hor12;have HBX12:=Zb bx12;clear hown12 hgrow12 hor12 bx12))
    all_goals
     have g912:Gr w9 w12 (fun q=>(Value.slice a2' n c2').ownBlock=some q):=((Gr.of (Ze (Zh w9) (Za HB10))).new _).grown (Za HGR12) (fun k hk=>.inl hk)
     have g1012:Gr w10 w12 (fun q=>(Value.slice a2' n c2').ownBlock=some q):=((Gr.refl w10 _).new _).grown (Za HGR12) (fun k hk=>.inl hk)
     have t12:=g912.heap (Za H92) (fun e=>by have:=((Za HL2) _ e).1;omega)
     obtain⟨w13,hw13⟩:∃ w13,w13=w12.setCell ⟨w5.heap.size,1,none⟩ (.slice (some ⟨g2,0,none⟩) (n+1) cap2):=⟨_,rfl⟩
     have bx13:w13.heap[w5.heap.size]? = some (.cells [.slice (some ⟨g,0,none⟩) (n+1) cap,.slice (some ⟨g2,0,none⟩) (n+1) cap2].toArray 28 (0,0)):=by rw[hw13];exact set_cells (Za HBX12) 1 _
     have t13:w13.heap[w.heap.size+2]? = some (.cells [.slice none 0 0,.slice none 0 0].toArray 28 (0,0)):=by rw[hw13];exact ((Gr.refl w12 (fun q=>q=w5.heap.size)).one w5.heap.size 1 (.inl rfl) _).heap t12 (by omega)
     have gf:∀ {W:World} {S:Nat→Prop},Gr W w12 S→Gr W ((w13.setCell ⟨w.heap.size+2,0,none⟩ (.slice (some ⟨g,0,none⟩) (n+1) cap)).setCell ⟨w.heap.size+2,1,none⟩ (.slice (some ⟨g2,0,none⟩) (n+1) cap2)) (fun q=>S q∨q=w5.heap.size∨q=w.heap.size+2):=by
      intro W S hW
      rw[hw13]
      exact (((hW.mono (fun q _ e=>.inl e)).one w5.heap.size 1 (.inl (.inr (.inl rfl))) _).one (w.heap.size+2) 0 (.inl (.inr (.inr rfl))) _).one (w.heap.size+2) 1 (.inl (.inr (.inr rfl))) _
     have hsz9:=(Za HB10).size
     have FIN:=Zkn (w9:=w9) (B:=w.heap.size) (t6:=w.heap.size+2) (by omega) (by omega) (Za HBG) (Za HTN) (Za HF) (Za HF10) (Za HG1) (Za HG2) (Za HL2) rfl l9 (by omega) (by have:=lt_of_block (Za H92);omega) (Za HG9) (gf g912) (gf g1012) ((gf (Gr.refl w12 (fun _=>False))).mono fun q _ e=>by rcases e with e|e;exact e.elim;exact e) (Za HON9) hg8.1 hg82 (Za HW12) (by
      rcases Za HOR12 with e|e
      ·have:=(Za HL2) g2 e;omega
      ·have:w9.heap.size≤w10.heap.size:=hsz9
       omega)
     have HFIN:=Zb FIN
     have HBF:Hid (Below w.heap.size w ((w13.setCell ⟨w.heap.size+2,0,none⟩ (.slice (some ⟨g,0,none⟩) (n+1) cap)).setCell ⟨w.heap.size+2,1,none⟩ (.slice (some ⟨g2,0,none⟩) (n+1) cap2))):=(gf g912).below (Za HB9) (by omega) (fun q e=>by
      rcases e with e|e|e
      ·have:=((Za HL2) _ e).1;omega
      ·omega
      ·omega)
     have y0:=Zd bx13 0 _ rfl
     have y1:=Zd bx13 1 _ rfl
     have yl:=lt_of_block bx13
     have u0:=Zd t13 0 _ rfl
     have u1:=Zd t13 1 _ rfl
     have uf0:=Zi t13 0
     have uf1:=Zi t13 1
     have ul:=lt_of_block t13
     rw[←hw13]
     clear hw13 gf FIN g912 g1012 t12 bx13 t13 n0 n1 nf nl m0 m1 ml e0 e1 k0 k1 k2 k3 k4 kl
     go_wp2
     (try simp only[Exit.inBlock,Exit.then])
     refine bodyPost_ret (v:=.tuple #[.agg #[.slice (some ⟨g,0,none⟩) (n+1) cap,.slice (some ⟨g2,0,none⟩) (n+1) cap2],.int .i64 0]) ?_ rfl ?_
     ·rw[Zw rfl]
      go_simp
     ·obtain⟨f1,f2,f3⟩:=Za HFIN
      rw[←(Za R).1,←(Za R).2.1]
      exact⟨_,_,_,_,rfl,f1,f2,f3,Za HBF⟩
  ·obtain⟨rfl,rfl,rfl⟩:([]:List Int)=N'∧([]:List Zk)=T'∧z=x:=by
    have q:=Za HXX
    rw[if_pos q2] at q
    exact⟨congrArg (·.1) q,congrArg (·.2.1) q,congrArg (·.2.2) q⟩
   obtain rfl:0=n':=Za HNN
   have g2:(z != 0)=true:=by simp[q2]
   clear HXX h0 h1 h2 q2
   go_wp2
   (try simp only[Exit.inBlock,Exit.then])
   refine bodyPost_ret (v:=.tuple #[.agg #[.slice none 0 0,.slice none 0 0],.int .i64 z]) ?_ rfl (Mj ?_)
   ·rw[Zw rfl]
    go_simp
   ·exact Tp (Za HBW) (by omega) (Za HBW).size _ _
 ·rw[if_pos q] at hx
  obtain⟨rfl,rfl,rfl⟩:([]:List Int)=N'∧([]:List Zk)=T'∧y=x:=⟨congrArg (·.1) hx,congrArg (·.2.1) hx,congrArg (·.2.2) hx⟩
  obtain rfl:0=n':=hn'
  have g:(y != 0)=true:=by simp[q]
  clear hbX hX0 hX1 hX2 hN hT sN sT hL sL hy hz hx q
  go_enter Tryz.func39,Tryz.ntmps39
  go_wp2_with fail
  rw[←hX]
  clear hX
  refine (Za C1).mono ?_
  rintro e w1 ⟨rfl,hb1⟩
  have h2:=(hb1.block _ (lt_of_block (Za HX2))).trans (Za HX2)
  have c0:=Zd h2 0 _ rfl
  have c1:=Zd h2 1 _ rfl
  have f0:=Zi h2 0
  have f1:=Zi h2 1
  have cl:=lt_of_block h2
  have HB1:=Zb (Ze (Za HB) hb1)
  clear hb1 h2 x0 x1 xl C1
  go_wp2
  (try simp only[Exit.inBlock,Exit.then])
  refine bodyPost_ret (v:=.tuple #[.agg #[.slice none 0 0,.slice none 0 0],.int .i64 y]) ?_ rfl (Mj ?_)
  ·rw[Zw rfl]
   go_simp
  ·exact Tp (Za HB1) (by omega) (Za HB1).size _ _
theorem K7{N:List Int}{T:List Zk}{x:Int}{b:Zk}(h:Xi N T x b=0):(1≤x∧x≤120)∧Xb b=0∧x∉N∧(b.1=0∨b.1∈N)∧b.2.1=(fnd b.1 N T).2.1+1:=by
 unfold Xi at h
 split at h
 ·cases h
 ·next q1=>
  split at h
  ·next q2=>exact absurd h q2
  ·next q2=>
   split at h
   ·cases h
   ·next q3=>
    split at h
    ·cases h
    ·next q4=>
     split at h
     ·cases h
     ·next q5=>
      refine⟨by simpa using q1,Classical.not_not.1 q2,by simpa using q3,?_,Classical.not_not.1 q5⟩
      by_cases e:b.1=0
      ·exact .inl e
      ·right
       by_cases e2:b.1∈N
       ·exact e2
       ·exact absurd ⟨e,by simp[e2]⟩ q4
theorem Nz{N M:List Int}{T U:List Zk}{y:Int}:N.length=T.length→y∈N→fnd y (N++M) (T++U)=fnd y N T:=by
 induction N generalizing T with
 | nil=>intro _ h;cases h
 | cons a N ih=>
  intro hl h
  cases T with
  | nil=>cases hl
  | cons b T=>
   simp only[List.cons_append,fnd]
   by_cases e:y=a
   ·simp[e]
   ·rw[if_neg e,if_neg e]
    refine ih (by simpa using hl) ?_
    rcases List.mem_cons.1 h with h|h
    ·exact absurd h e
    ·exact h
theorem Qu{N M:List Int}{T U:List Zk}{y:Int}:N.length=T.length→y∉N→fnd y (N++M) (T++U)=fnd y M U:=by
 induction N generalizing T with
 | nil=>
  intro hl _
  cases T with
  | nil=>rfl
  | cons _ _=>cases hl
 | cons a N ih=>
  intro hl h
  cases T with
  | nil=>cases hl
  | cons b T=>
   simp only[List.cons_append,fnd]
   rw[if_neg (fun e=>h (by simp[e]))]
   exact ih (by simpa using hl) (fun q=>h (by simp[q]))
theorem Zce(x:Int)(b:Zk):fnd x [x] [b]=b:=by simp[fnd]
structure TrOk(N:List Int)(T:List Zk):Prop where
 len:N.length=T.length
 nd:N.Nodup
 nm:∀ x∈N,1≤x∧x≤120
 par:∀ x∈N,(fnd x N T).1=0∨(fnd x N T).1∈N
 hgt:∀ x∈N,(fnd x N T).2.1=(fnd (fnd x N T).1 N T).2.1+1
 chk:∀ b∈T,Xb b=0
theorem TrOk.nil:TrOk [] []:=⟨rfl,List.nodup_nil,fun _ h=>(by cases h),fun _ h=>(by cases h),fun _ h=>(by cases h),fun _ h=>(by cases h)⟩
theorem TrOk.zero{N:List Int}{T:List Zk}(h:TrOk N T):(0:Int)∉N:=fun q=>by have:=(h.nm 0 q).1;omega
theorem TrOk.heads{N:List Int}{T:List Zk}(h:TrOk N T):Wd T:=fun b hb=>Ro (h.chk b hb)
theorem TrOk.same{N:List Int}{T:List Zk}{x:Int}{b:Zk}(h:TrOk N T)(hx:1≤x){y:Int}(hy:y=0∨y∈N):fnd y (N++[x]) (T++[b])=fnd y N T:=by
 by_cases e:y∈N
 ·exact Nz h.len e
 ·have hy0:y=0:=by rcases hy with q|q;exact q;exact absurd q e
  rw[Qu h.len e,U8 h.len e]
  unfold fnd
  rw[if_neg (by omega)]
  unfold fnd
  rfl
theorem TrOk.new{N:List Int}{T:List Zk}{x:Int}{b:Zk}(h:TrOk N T)(hx:x∉N):fnd x (N++[x]) (T++[b])=b:=by
 rw[Qu h.len hx,Zce]
theorem TrOk.add{N:List Int}{T:List Zk}{x:Int}{b:Zk}(h:TrOk N T)(hn:Xi N T x b=0):TrOk (N++[x]) (T++[b]):=by
 obtain⟨h1,h2,h3,h4,h5⟩:=K7 hn
 refine⟨by simp[h.len],?_,fun y hy=>?_,fun y hy=>?_,fun y hy=>?_,fun c hc=>?_⟩
 ·rw[List.nodup_append]
  exact⟨h.nd,by simp,fun a ha c hc=>by rw[List.mem_singleton.1 hc];exact fun e=>h3 (e ▸ ha)⟩
 ·rcases List.mem_append.1 hy with q|q
  ·exact h.nm y q
  ·rw[List.mem_singleton.1 q];exact h1
 ·rcases List.mem_append.1 hy with q|q
  ·rw[h.same h1.1 (.inr q)]
   rcases h.par y q with e|e
   ·exact .inl e
   ·exact .inr (by simp[e])
  ·rw[List.mem_singleton.1 q,h.new h3]
   rcases h4 with e|e
   ·exact .inl e
   ·exact .inr (by simp[e])
 ·rcases List.mem_append.1 hy with q|q
  ·rw[h.same h1.1 (.inr q),h.same h1.1 (h.par y q)]
   exact h.hgt y q
  ·rw[List.mem_singleton.1 q,h.new h3,h.same h1.1 h4]
   exact h5
 ·rcases List.mem_append.1 hc with q|q
  ·exact h.chk c q
  ·rw[List.mem_singleton.1 q];exact h2
theorem L8:∀ (M:List Int) (U:List Zk) (N:List Int) (T:List Zk),M.length=U.length→TrOk N T→Xo N T M U=0→TrOk (N++M) (T++U)
 | [],[],N,T,_,h,_=>by simpa using h
 | [],_ :: _,_,_,h,_,_=>by cases h
 | _ :: _,[],_,_,h,_,_=>by cases h
 | x :: M,b :: U,N,T,hl,h,hc=>by
  rw[Xo] at hc
  split at hc
  ·next q=>exact absurd hc q
  ·next q=>
   have:=L8 M U _ _ (by simpa using hl) (h.add (Classical.not_not.1 q)) hc
   simpa using this
theorem TrOk.of{N:List Int}{T:List Zk}(h:chkTr N T=0):TrOk N T:=by
 obtain⟨h1,_,_,h4⟩:=Qz h
 simpa using L8 N T [] [] h1 TrOk.nil h4
theorem L9:∀ (M:List Int) (U:List Zk) (N:List Int) (T:List Zk) (x:Int) (b:Zk),M.length=U.length→Xo N T M U=0→Xi (N++M) (T++U) x b=0→Xo N T (M++[x]) (U++[b])=0
 | [],[],N,T,x,b,_,_,h=>by
  rw[List.append_nil,List.append_nil] at h
  simp[Xo,h]
 | [],_ :: _,_,_,_,_,h,_,_=>by cases h
 | _ :: _,[],_,_,_,_,h,_,_=>by cases h
 | y :: M,c :: U,N,T,x,b,h,hc,hn=>by
  rw[Xo] at hc
  split at hc
  ·next q=>exact absurd hc q
  ·next q=>
   rw[List.cons_append,List.cons_append,Xo,if_neg q]
   exact L9 M U _ _ x b (by simpa using h) hc (by simpa using hn)
theorem Zav{N:List Int}{T:List Zk}{x:Int}{b:Zk}(h:chkTr N T=0)(hn:Xi N T x b=0)(hl:N.length≠24):chkTr (N++[x]) (T++[b])=0:=by
 obtain⟨h1,h2,_,h4⟩:=Qz h
 unfold chkTr
 rw[if_neg (by simp[h1]),if_neg (by simp;omega)]
 exact L9 N T [] [] x b h1 h4 (by simpa using hn)
theorem TrOk.up{N:List Int}{T:List Zk}(h:TrOk N T)(y:Int):(fnd y N T).1=0∨(fnd y N T).1∈N:=by
 by_cases e:y∈N
 ·exact h.par y e
 ·rw[U8 h.len e];exact .inl rfl
end Go.Proofs.YtpikejjiignchaaGreatDoor.Tr
