import Derived.Test.YtpikejjiignchaaGreatDoorG40
set_option maxHeartbeats 12800000
set_option maxRecDepth 10000
namespace Go.Proofs.YtpikejjiignchaaGreatDoor.Tr
open Go.RowKit
theorem Zeg{G B w0s:Nat}{w0 wr w5:World}{g cap n k:Nat}{K:List (List Value)}{T:List Z4}{x:Z4}{u0 u1 u2 u3 u4:Value}(h:Cl blkR 68 B G w0 wr (.slice (some ⟨g,0,none⟩) n cap) n K T k)(hk:k<T.length)(hkK:k<K.length)(hx:T[k]=x)(hb:Below wr.heap.size wr w5)(hf:Fresh w0s w5 (fun w2=>blkR.C w2 [u0,u1,u2,u3,u4] x))(hG:G≤w0s) :
  Cl blkR 68 B G w0 (((((w5.setCell ⟨g,k*5,none⟩ u0).setCell ⟨g,k*5+1,none⟩ u1).setCell ⟨g,k*5+2,none⟩ u2).setCell ⟨g,k*5+3,none⟩ u3).setCell ⟨g,k*5+4,none⟩ u4) (.slice (some ⟨g,0,none⟩) n cap) n (K.set k [u0,u1,u2,u3,u4]) T (k+1):=by
 have h5:=h.keep hb
 refine h5.step hk ?_ ((((((Gr.refl w5 (fun q=>q=g)).one g (k*5) (.inl rfl) _).one g (k*5+1) (.inl rfl) _).one g (k*5+2) (.inl rfl) _).one g (k*5+3) (.inl rfl) _).one g (k*5+4) (.inl rfl) _) ?_
 ·rw[hx]
  exact hf.less hG
 ·have h1:=(((((h5.own.stored (k*5) u0).1.stored (k*5+1) u1).1.stored (k*5+2) u2).1.stored (k*5+3) u3).1.stored (k*5+4) u4).1
  rw[put5 h5.wid k hkK] at h1
  exact h1
def Cp(w:World)(N:List Int)(T:List Z4)(n:Nat)(v1 v2:Value)(wx:World):Prop:=
 ∃ K,AllC blkR w K T∧wx.ownsRow (w.heap.size+2) 3 1 v1 n (N.map (Value.int .i64))∧wx.ownsRow (w.heap.size+2) 68 5 v2 n K.flatten ∧
  wx.heap[w.heap.size]? = some (.cells [v1,v2].toArray 28 (0,0))∧wx.heap[w.heap.size+1]? = some (.cells [.slice none 0 0,.slice none 0 0].toArray 28 (0,0))∧Below w.heap.size w wx
theorem Hm{w W wx:World}{N:List Int}{T:List Z4}{n:Nat}{v1 v2:Value}{K:List (List Value)}(h1:AllC blkR w K T)(o1:W.ownsRow (w.heap.size+2) 3 1 v1 n (N.map (Value.int .i64)))(o2:W.ownsRow (w.heap.size+2) 68 5 v2 n K.flatten)(hb:Below w.heap.size w W)
  (hz:W.heap[w.heap.size+1]? = some (.cells [.slice none 0 0,.slice none 0 0].toArray 28 (0,0))) (hg:Gr W wx (fun q=>q=w.heap.size)) (hx:wx.heap[w.heap.size]? = some (.cells [v1,v2].toArray 28 (0,0))):Cp w N T n v1 v2 wx:=
 ⟨K,h1,hg.own o1 (fun k hk=>by have:=(o1.lt k hk).1;omega),hg.own o2 (fun k hk=>by have:=(o2.lt k hk).1;omega),hx,hg.heap hz (by omega),hg.below hb (by have:=lt_of_block hz;omega) (fun k hk=>by omega)⟩
def Fp(b:Z4):Prop:=b.2.2.2.2.length≤2513169434916∧∀ t∈b.2.2.2.2,Ge t
def TreeOwn(B:Nat)(w:World)(v1 v2:Value)(n:Nat)(N:List Int)(T:List Z4):Prop:=
 ∃ K G,w.ownsRow B 3 1 v1 n (N.map (Value.int .i64))∧w.ownsRow B 68 5 v2 n K.flatten∧(∀ q,v1.ownBlock=some q→q<G)∧(∀ q,v2.ownBlock=some q→q<G)∧B≤G∧T.length=n∧Fresh G w (fun w2=>AllC blkR w2 K T)
theorem TreeOwn.gr{B:Nat}{w w':World}{v1 v2:Value}{n:Nat}{N:List Int}{T:List Z4}(h:TreeOwn B w v1 v2 n N T)(g:Gr w w' (fun q=>q<B)):TreeOwn B w' v1 v2 n N T:=by
 obtain⟨K,G,h1,h2,h3,h4,h5,h6,h7⟩:=h
 exact⟨K,G,g.own h1 (fun q hq=>by have:=(h1.lt q hq).1;omega),g.own h2 (fun q hq=>by have:=(h2.lt q hq).1;omega),h3,h4,h5,h6,h7.on (g.mono fun q _ hq=>by omega)⟩
theorem TreeOwn.less{B B':Nat}{w:World}{v1 v2:Value}{n:Nat}{N:List Int}{T:List Z4}(h:TreeOwn B' w v1 v2 n N T)(hb:B≤B'):TreeOwn B w v1 v2 n N T:=by
 obtain⟨K,G,h1,h2,h3,h4,h5,h6,h7⟩:=h
 exact⟨K,G,Wv h1 hb,Wv h2 hb,h3,h4,by omega,h6,h7⟩
theorem TreeOwn.read{B:Nat}{w:World}{v1 v2:Value}{n:Nat}{N:List Int}{T:List Z4}(h:TreeOwn B w v1 v2 n N T):∃ a1 c1 a2 c2,v1 = .slice a1 n c1∧v2 = .slice a2 n c2∧IntsAt w a1 n N∧SlOk a1 n c1∧BlksAt w a2 n T∧SlOk a2 n c2:=by
 obtain⟨K,G,h1,h2,h3,h4,h5,h6,h7⟩:=h
 obtain⟨a1,c1,rfl,s1,i1⟩:=Pa h1
 obtain⟨a2,c2,rfl,r2,s2⟩:=rows_of_own blkR h2 h7.now h6
 exact⟨a1,c1,a2,c2,rfl,rfl,i1,s1,r2,s2⟩
theorem Zal(a b:Option Addr)(n c d:Nat)(N:List Int)(T:List Z4)(w:World)(hN:IntsAt w a n N)(hT:BlksAt w b n T)(sN:SlOk a n c)(sT:SlOk b n d)(hn:n≤4096)(hs:∀ t∈T,Fp t) :
  Calls Tryz.prog 83 #[.agg #[.slice a n c,.slice b n d]] w fun e w'=>∃ v1 v2,e = .returned (.agg #[v1,v2])∧TreeOwn (w.heap.size+2) w' v1 v2 n N T∧Below w.heap.size w w':=by
 obtain⟨X,hX⟩:∃ X,X=(w.alloc (.cells #[.slice a n c,.slice b n d] 28)).alloc (.cells #[.slice none 0 0,.slice none 0 0] 28):=⟨_,rfl⟩
 have hbX:Below w.heap.size w X:=by rw[hX];exact Ze (Zf _ _) (Zf _ _)
 have hX0:X.heap[w.heap.size]? = some (.cells [.slice a n c,.slice b n d].toArray 28 (0,0)):=by
  rw[hX,Below.heap_alloc _ _ _ (by simp)];exact Wt _ _ _ _
 have hXs:X.heap.size=w.heap.size+2:=by rw[hX];simp
 have hX1:X.heap[w.heap.size+1]? = some (.cells [.slice none 0 0,.slice none 0 0].toArray 28 (0,0)):=by
  rw[hX]
  have:=Wt (w.alloc (.cells #[.slice a n c,.slice b n d] 28)) (.slice none 0 0) (.slice none 0 0) 28
  rw[show (w.alloc (.cells #[.slice a n c,.slice b n d] 28)).heap.size=w.heap.size+1 by simp] at this
  exact this
 have HBX:=Zb hbX
 have HX0:=Zb hX0
 have HX1:=Zb hX1
 have HXs:=Zb hXs
 have HSM:=Zb hs
 have HZN:=Zb hN.1
 have HZT:=Zb hT.1
 have C1:=Zb (Mv a n c N X.drew hn (hN.later (Ze hbX (Zi X))) sN)
 have C2:=Zb (fun W (hb:Below w.heap.size w W)=>Mx b n d T w W (Nat.le_trans hn (by decide)) hT hb sT)
 have x0:=Zd hX0 0 _ rfl
 have x1:=Zd hX0 1 _ rfl
 have xl:=lt_of_block hX0
 clear hbX hX0 hX1 hN hT sN sT hs hXs
 go_enter Tryz.func83,Tryz.ntmps83
 go_upto_region 1 with fail
 rw[←hX]
 clear hX
 go_cut [7,10] from 5 to 12 (fun s7 s10 wx=>Hid (Cp w N T n s7 s10 wx))
 case first=>
  go_region_with (first
   | (go_at_call 129;refine (Za C1).mono ?_;rintro e w3 ⟨v1,rfl,ho1,hb3⟩;have h30:=(hb3.block _ (lt_of_block (Za HX0))).trans (Za HX0);have d0:=Zd h30 0 _ rfl;have d1:=Zd h30 1 _ rfl;have dl:=lt_of_block h30;have HO1:Hid (w3.ownsRow (w.heap.size+2) 3 1 v1 n (N.map (Value.int .i64))):=Wv ho1 (Nat.le_of_eq (Za HXs).symm);have HB3:=Zb (Ze (Ze (Za HBX) (Zi _)) hb3);have HB3X:=Zb (Ze (Zi X) hb3);clear ho1 hb3 h30)
   | (go_at_call 130;refine ((Za C2) _ (Za HB3)).mono ?_;rintro e w4 ⟨v2,K2,rfl,hA2,ho2,hb4⟩;have hbX4:=Ze (Za HB3X) hb4;have h40:=(hbX4.block _ (lt_of_block (Za HX0))).trans (Za HX0);have h41:=(hbX4.block _ (lt_of_block (Za HX1))).trans (Za HX1);have e0:=Zd h40 0 _ rfl;have e1:=Zd h40 1 _ rfl;have z0:=Zh h40 0;have z1:=Zh h40 1;have el:=lt_of_block h40;have HA2:=Zb hA2;have HO2:Hid (w4.ownsRow (w.heap.size+2) 68 5 v2 n K2.flatten):=Wv ho2 (by have:=(Za HB3X).size;have:=Za HXs;omega);have HO14:=Zb ((Gr.of (S:=fun _=>False) hb4).own (Za HO1) (fun _ _ q=>q));have HB4:=Zb (Ze (Za HB3) hb4);have H40:=Zb h40;have H41:=Zb h41;obtain⟨a2,c2,rfl,_,_⟩:=Ym (Za HO2);obtain⟨a1,c1,rfl,_,_⟩:=Ym (Za HO1);clear hA2 ho2 hb4 hbX4 h40 h41))
  all_goals
   go_wp2_with fail
   go_meet
   case rel=>
    first
    | exact Hm (W:=w4) (Za HA2) (Za HO14) (Za HO2) (Za HB4) (Za H41) (((Gr.refl w4 (fun q=>q=w.heap.size)).one w.heap.size 0 (.inl rfl) _).one w.heap.size 1 (.inl rfl) _) (set_cells (set_cells (Za H40) 0 _) 1 _)
    | exact Hm (W:=w4) (Za HA2) (Za HO14) (Za HO2) (Za HB4) (Za H41) (((Gr.refl w4 (fun q=>q=w.heap.size)).one w.heap.size 1 (.inl rfl) _).one w.heap.size 0 (.inl rfl) _) (set_cells (set_cells (Za H40) 1 _) 0 _)
 case rest=>
  obtain⟨K1,hA1,ho1,ho2,h0,h1,hb⟩:=Za hcut
  obtain⟨a1,c1,rfl,_,_⟩:=Ym ho1
  obtain⟨a2,c2,rfl,_,_⟩:=Ym ho2
  obtain⟨G,hG⟩:∃ G,wc.heap.size=G:=⟨_,rfl⟩
  have hGw:w.heap.size+2≤G:=by rw[←hG];exact lt_of_block h1
  have ST1:Hid (wc.ownsRow (w.heap.size+2) 3 1 (.slice a1 n c1) n (N.map (Value.int .i64))):=ho1
  have HG1:Hid (∀ q,(Value.slice a1 n c1).ownBlock=some q→q<G):=fun q hq=>by have:=(ho1.lt q hq).2;omega
  have ST2:Hid (Cl blkR 68 (w.heap.size+2) G w wc (.slice a2 n c2) n K1 T 0):=Cl.start ho2 hA1 (Za HZT) (Nat.le_of_eq hG)
  have H0:=Zb h0
  have H1:=Zb h1
  have HB:=Zb hb
  have HGl:Hid (G≤wc.heap.size):=Nat.le_of_eq hG.symm
  have c10:=Zd h0 1 _ rfl
  have cl0:=lt_of_block h0
  clear hcut hA1 ho1 ho2 h0 h1 hb C1 C2 HX0 HX1 HBX x0 x1 xl hG
  go_wp2
  go_loopw [16] (fun i wr=>∃ (k:Nat) (K:List (List Value)),k≤n∧i = .int .i64 k∧Hid (wr.ownsRow (w.heap.size+2) 3 1 (.slice a1 n c1) n (N.map (Value.int .i64)))∧Hid (Cl blkR 68 (w.heap.size+2) G w wr (.slice a2 n c2) n K T k)∧Hid (wr.heap[w.heap.size]? = some (.cells [.slice a1 n c1,.slice a2 n c2].toArray 28 (0,0)))∧Hid (wr.heap[w.heap.size+1]? = some (.cells [.slice none 0 0,.slice none 0 0].toArray 28 (0,0)))∧Hid (Below w.heap.size w wr)∧Hid (G≤wr.heap.size)) (fun i _=>n - (intOf i).toNat)
  case atStart=>exact⟨0,K1,Nat.zero_le _,rfl,ST1,ST2,H0,H1,HB,HGl⟩
  case round=>
   obtain⟨k,K,hk,rfl,HN1,HC1,HB0,HB1,HBr,HGr⟩:=hrel
   clear ST1 ST2 H0 H1 HB HGl c10 cl0
   by_cases hlt:k<n
   ·have hlk:k<T.length:=by rw[Za HZT];exact hlt
    have hkK:k<K.length:=by rw[(Za HC1).len];exact hlk
    obtain⟨g,cap,ev,hgB,hgG,hgl⟩:=(Za HC1).form (by omega)
    cases ev
    obtain⟨ta,tn,tc,eK,hI,sI⟩:=(Za HC1).old k hlk hkK (Nat.le_refl _)
    have hsm:=(Za HSM) _ (List.getElem_mem hlk)
    obtain⟨x,hx⟩:∃ x,T[k]=x:=⟨_,rfl⟩
    rw[hx] at eK hI hsm
    obtain⟨x0,x1,x2,x3,x4⟩:=x
    simp only at eK hI
    have r0:=(Za HC1).cell k hkK 0 (by decide)
    have r1:=(Za HC1).cell k hkK 1 (by decide)
    have r2:=(Za HC1).cell k hkK 2 (by decide)
    have r3:=(Za HC1).cell k hkK 3 (by decide)
    have r4:=(Za HC1).cell k hkK 4 (by decide)
    rw[eK] at r0 r1 r2 r3 r4
    have r0:wr.cell? ⟨g,k*5,none⟩=some (.int .i64 x0):=r0
    have r1:wr.cell? ⟨g,k*5+1,none⟩=some (.int .i64 x1):=r1
    have r2:wr.cell? ⟨g,k*5+2,none⟩=some (.int .i64 x2):=r2
    have r3:wr.cell? ⟨g,k*5+3,none⟩=some (.int .i64 x3):=r3
    have r4:wr.cell? ⟨g,k*5+4,none⟩=some (.slice ta tn tc):=r4
    obtain⟨X1,hX1⟩:∃ X1,X1=wr.alloc (.cells #[.int .i64 x0,.int .i64 x1,.int .i64 x2,.int .i64 x3,.slice ta tn tc] 68):=⟨_,rfl⟩
    have hbX1:Below wr.heap.size wr X1:=by rw[hX1];exact Zf _ _
    have hXX:X1.heap[wr.heap.size]? = some (.cells [.int .i64 x0,.int .i64 x1,.int .i64 x2,.int .i64 x3,.slice ta tn tc].toArray 68 (0,0)):=by rw[hX1];exact Xq _ _ _ _ _ _ _
    have b0:=Zd hXX 0 _ rfl
    have b1:=Zd hXX 1 _ rfl
    have b2:=Zd hXX 2 _ rfl
    have b3:=Zd hXX 3 _ rfl
    have b4:=Zd hXX 4 _ rfl
    have bl:=lt_of_block hXX
    have t1:=Zc hbX1 (Zd (Za HB0) 1 _ rfl)
    have tl:=Nat.lt_of_lt_of_le (lt_of_block (Za HB0)) hbX1.size
    have HBX1:=Zb hbX1
    have hbb:=Ze (Ze (Za HBr) hbX1) (Zi _)
    have CO:=Zb (Hp x0 x1 x2 x3 ta tn tc x4 X1.drew (hI.later hbb) sI (by rw[←hI.1];exact hsm.1) hsm.2)
    have NX:Hid (∀ w5 u0 u1 u2 u3 u4,Below wr.heap.size wr w5→Fresh X1.drew.heap.size w5 (fun w2=>blkR.C w2 [u0,u1,u2,u3,u4] (x0,x1,x2,x3,x4)) →
      Hid ((((((w5.setCell ⟨g,k*5,none⟩ u0).setCell ⟨g,k*5+1,none⟩ u1).setCell ⟨g,k*5+2,none⟩ u2).setCell ⟨g,k*5+3,none⟩ u3).setCell ⟨g,k*5+4,none⟩ u4).ownsRow (w.heap.size+2) 3 1 (.slice a1 n c1) n (N.map (Value.int .i64)))∧Hid (Cl blkR 68 (w.heap.size+2) G w (((((w5.setCell ⟨g,k*5,none⟩ u0).setCell ⟨g,k*5+1,none⟩ u1).setCell ⟨g,k*5+2,none⟩ u2).setCell ⟨g,k*5+3,none⟩ u3).setCell ⟨g,k*5+4,none⟩ u4) (.slice (some ⟨g,0,none⟩) n c2) n (K.set k [u0,u1,u2,u3,u4]) T (k+1))∧Hid ((((((w5.setCell ⟨g,k*5,none⟩ u0).setCell ⟨g,k*5+1,none⟩ u1).setCell ⟨g,k*5+2,none⟩ u2).setCell ⟨g,k*5+3,none⟩ u3).setCell ⟨g,k*5+4,none⟩ u4).heap[w.heap.size]? = some (.cells [.slice a1 n c1,.slice (some ⟨g,0,none⟩) n c2].toArray 28 (0,0)))∧Hid ((((((w5.setCell ⟨g,k*5,none⟩ u0).setCell ⟨g,k*5+1,none⟩ u1).setCell ⟨g,k*5+2,none⟩ u2).setCell ⟨g,k*5+3,none⟩ u3).setCell ⟨g,k*5+4,none⟩ u4).heap[w.heap.size+1]? = some (.cells [.slice none 0 0,.slice none 0 0].toArray 28 (0,0)))∧Hid (Below w.heap.size w (((((w5.setCell ⟨g,k*5,none⟩ u0).setCell ⟨g,k*5+1,none⟩ u1).setCell ⟨g,k*5+2,none⟩ u2).setCell ⟨g,k*5+3,none⟩ u3).setCell ⟨g,k*5+4,none⟩ u4))∧Hid (G≤(((((w5.setCell ⟨g,k*5,none⟩ u0).setCell ⟨g,k*5+1,none⟩ u1).setCell ⟨g,k*5+2,none⟩ u2).setCell ⟨g,k*5+3,none⟩ u3).setCell ⟨g,k*5+4,none⟩ u4).heap.size)):=by
     intro w5 u0 u1 u2 u3 u4 hb5 hf5
     have hGr:=Za HGr
     have hg5:=(((((Gr.refl w5 (fun q=>q=g)).one g (k*5) (.inl rfl) u0).one g (k*5+1) (.inl rfl) u1).one g (k*5+2) (.inl rfl) u2).one g (k*5+3) (.inl rfl) u3).one g (k*5+4) (.inl rfl) u4
     have hs5:=hb5.size
     refine⟨?_,Zeg (Za HC1) hlk hkK hx hb5 hf5 (Nat.le_trans hGr hbX1.size),?_,?_,?_,?_⟩
     ·exact hg5.own ((Gr.of (S:=fun _=>False) hb5).own (Za HN1) (fun _ _ q=>q)) (fun q hq e=>Yy (Za HC1).own (Za HN1) (by decide) q (by rw[e];rfl) hq)
     ·exact hg5.heap ((hb5.block _ (lt_of_block (Za HB0))).trans (Za HB0)) (by omega)
     ·exact hg5.heap ((hb5.block _ (lt_of_block (Za HB1))).trans (Za HB1)) (by omega)
     ·exact hg5.below (Ze (Za HBr) hb5) (by have:=lt_of_block (Za HB0);omega) (fun q e=>by omega)
     ·exact Nat.le_trans hGr (Nat.le_trans hs5 hg5.size)
    have FR:=Zb (fun j=>(Za HC1).free j)
    have hkI:(k:Int)<(n:Int):=by omega
    clear hI sI hsm hx eK hbX1 hXX hbb
    go_wp2_with fail
    rw[←hX1]
    clear hX1
    go_region_with (go_at_call 84;refine (Za CO).mono ?_;rintro e w5 ⟨a5,c5,rfl,hf5,hb5⟩;have hbw5:=Ze (Ze (Za HBX1) (Zi _)) hb5;have HN:=Zb ((Za NX) w5 _ _ _ _ _ hbw5 hf5);have q1:=Zc hb5 (Zc (Zi _) t1);have s0:=Zc hbw5 r0;have s1:=Zc hbw5 r1;have s2:=Zc hbw5 r2;have s3:=Zc hbw5 r3;have s4:=Zc hbw5 r4;have q3:w5.frozen? ⟨g,k*5,none⟩=false:=(World.frozen?_of_block (a:=⟨g,k*5,none⟩) (hbw5.block g hgl)).trans ((Za FR) _);have q33:w5.frozen? ⟨g,k*5+1,none⟩=false:=(World.frozen?_of_block (a:=⟨g,k*5+1,none⟩) (hbw5.block g hgl)).trans ((Za FR) _);have q34:w5.frozen? ⟨g,k*5+2,none⟩=false:=(World.frozen?_of_block (a:=⟨g,k*5+2,none⟩) (hbw5.block g hgl)).trans ((Za FR) _);have q35:w5.frozen? ⟨g,k*5+3,none⟩=false:=(World.frozen?_of_block (a:=⟨g,k*5+3,none⟩) (hbw5.block g hgl)).trans ((Za FR) _);have q36:w5.frozen? ⟨g,k*5+4,none⟩=false:=(World.frozen?_of_block (a:=⟨g,k*5+4,none⟩) (hbw5.block g hgl)).trans ((Za FR) _);have q4:=Nat.lt_of_lt_of_le hgl hbw5.size;have q5:=Nat.lt_of_lt_of_le (lt_of_block (Za HB0)) hbw5.size;clear hf5 hb5 hbw5)
    all_goals
     go_wp2
     go_roundw
     case rel=>
      obtain⟨f1,f2,f3,f4,f5,f6⟩:=Za HN
      exact⟨k+1,_,by omega,by go_num,f1,f2,f3,f4,f5,f6⟩
     case measure=>simp[intOf];omega
   ·have e:k=n:=by omega
    subst e
    have s0:=Zd (Za HB0) 0 _ rfl
    have s1:=Zd (Za HB0) 1 _ rfl
    have sl:=lt_of_block (Za HB0)
    have y0:=Zd (Za HB1) 0 _ rfl
    have y1:=Zd (Za HB1) 1 _ rfl
    have z0:=Zh (Za HB1) 0
    have z1:=Zh (Za HB1) 1
    have yl:=lt_of_block (Za HB1)
    have R:Hid (TreeOwn (w.heap.size+2) wr (.slice a1 k c1) (.slice a2 k c2) k N T):=
     ⟨K,G,Za HN1,(Za HC1).own,Za HG1,(Za HC1).gt,hGw,Za HZT,(Za HC1).done⟩
    clear HC1 HN1
    go_wp2
    (try simp only[Exit.inBlock,Exit.then])
    have hG:=((Gr.refl wr (fun q=>q=w.heap.size+1)).one (w.heap.size+1) 0 (.inl rfl) (.slice a1 k c1)).one (w.heap.size+1) 1 (.inl rfl) (.slice a2 k c2)
    refine bodyPost_ret (v:=.agg #[.slice a1 k c1,.slice a2 k c2]) ?_ rfl ⟨_,_,rfl,(Za R).gr (hG.mono fun q _ e=>by omega),?_⟩
    ·rw[Yn rfl]
     go_simp
    ·exact hG.below (Za HBr) (by omega) (fun q e=>by omega)
structure Up(B g H:Nat)(N:List Int)(T:List Z4)(s:Int)(wr:World)(k:Nat)(y:Int):Prop where
 ex:∃ xs:List Value,wr.ownsRow B 3 1 (.slice (some ⟨g,0,none⟩) H H) H xs∧(upD N T H s).map (Value.int .i64)=(upD N T (H - k) y).map (Value.int .i64)++xs.drop (H - k)
theorem Up.old{B g H:Nat}{N:List Int}{T:List Z4}{s:Int}{wr:World}{k:Nat}{y:Int}(h:Up B g H N T s wr k y){r:Nat}(hr:r<H):(∃ v,wr.cell? ⟨g,r,none⟩=some v)∧wr.frozen? ⟨g,r,none⟩=false∧B≤g∧g<wr.heap.size:=by
 obtain⟨xs,ho,_⟩:=h.ex
 have hl:xs.length=H:=by simpa using ho.1
 exact⟨⟨xs[r]'(by omega),by rw[ho.cellAt r (by omega)];simp[hl,hr]⟩,ho.frozenAt r,(ho.lt g rfl).1,(ho.lt g rfl).2⟩
theorem Up.step{B g H:Nat}{N:List Int}{T:List Z4}{s:Int}{wr:World}{k:Nat}{y:Int}(h:Up B g H N T s wr k y)(hk:k<H){r:Nat}(hr:r=H - 1 - k):Up B g H N T s (wr.setCell ⟨g,r,none⟩ (.int .i64 y)) (k+1) (fnd y N T).1:=by
 obtain⟨xs,ho,hx⟩:=h.ex
 have hl:xs.length=H:=by simpa using ho.1
 refine⟨xs.set r (.int .i64 y),(ho.stored r _).1,?_⟩
 rw[hx,show H - k=(H - (k+1))+1 by omega,upD,List.map_append,List.append_assoc]
 congr 1
 have e:r=H - (k+1):=by omega
 rw[←e]
 rw[List.drop_eq_getElem_cons (l:=xs.set r (.int .i64 y)) (i:=r) (by rw[List.length_set];omega),List.drop_set_of_lt (by omega)]
 simp
theorem Up.keep{B g H:Nat}{N:List Int}{T:List Z4}{s:Int}{wr w':World}{k:Nat}{y:Int}(h:Up B g H N T s wr k y)(hb:Below wr.heap.size wr w'):Up B g H N T s w' k y:=by
 obtain⟨xs,ho,hx⟩:=h.ex
 exact⟨xs,(Gr.of (S:=fun _=>False) hb).own ho (fun _ _ q=>q),hx⟩
theorem Zdr(a b:Option Addr)(n c d k:Nat)(w:World)(hk:k≤n)(ha:SlOk a n c)(hb:SlOk b n d) :
  Calls Tryz.prog 123 #[.agg #[.slice a n c,.slice b n d],.int .i64 k] w fun e w'=>e = .returned (.agg #[.slice a k c,.slice b k d])∧Below w.heap.size w w':=by
 have hc:=Nat.le_trans hk ha.1
 have hd:=Nat.le_trans hk hb.1
 have hm:=ha.2.1
 have hm2:=hb.2.1
 unfold maxLen at hm hm2
 have hcI:(k:Int)≤(c:Int):=by omega
 have hdI:(k:Int)≤(d:Int):=by omega
 clear ha hb
 go_enter Tryz.func123,Tryz.ntmps123
 go_wp2_with fail
 go_region
 all_goals
  go_wp2
 all_goals (try simp only[Exit.inBlock,Exit.then])
 all_goals
  refine bodyPost_ret (v:=.agg #[.slice a k c,.slice b k d]) ?_ rfl ⟨rfl,?_⟩
  ·rw[Yn rfl]
   go_simp
  ·exact Ze (Ze (Zf _ _) (Zf _ _)) (Zi _)
theorem Cd(a b:Option Addr)(n c d:Nat)(N:List Int)(T:List Z4)(s:Int)(p h k m:Int)(ta:Option Addr)(tn tc:Nat)(L:List TxD)(x:Int)(w:World)(hn:n≤maxLen)(hN:IntsAt w a n N)(hT:BlksAt w b n T)(hL:TxsAt w ta tn L)(hH:Us T)(hx:Qx N T s (p,h,k,m,L)=x) :
  Calls Tryz.prog 82 #[.agg #[.slice a n c,.slice b n d],.int .i64 s,.agg #[.int .i64 p,.int .i64 h,.int .i64 k,.int .i64 m,.slice ta tn tc]] w fun e w'=>e = .returned (.int .i64 x)∧Below w.heap.size w w':=by
 obtain⟨X,hX⟩:∃ X,X=(w.alloc (.cells #[.slice a n c,.slice b n d] 28)).alloc (.cells #[.int .i64 p,.int .i64 h,.int .i64 k,.int .i64 m,.slice ta tn tc] 68):=⟨_,rfl⟩
 have hbX:Below w.heap.size w X:=by rw[hX];exact Ze (Zf _ _) (Zf _ _)
 have hX0:X.heap[w.heap.size]? = some (.cells [.slice a n c,.slice b n d].toArray 28 (0,0)):=by
  rw[hX,Below.heap_alloc _ _ _ (by simp)];exact Wt _ _ _ _
 have hX1:X.heap[w.heap.size+1]? = some (.cells [.int .i64 p,.int .i64 h,.int .i64 k,.int .i64 m,.slice ta tn tc].toArray 68 (0,0)):=by
  rw[hX]
  have:=Xq (w.alloc (.cells #[.slice a n c,.slice b n d] 28)) (.int .i64 p) (.int .i64 h) (.int .i64 k) (.int .i64 m) (.slice ta tn tc) 68
  rw[show (w.alloc (.cells #[.slice a n c,.slice b n d] 28)).heap.size=w.heap.size+1 by simp] at this
  exact this
 obtain⟨o1,ho1⟩:∃ o,(decide (1≤s) && decide (s≤120))=o:=⟨_,rfl⟩
 obtain⟨x2,hx2⟩:∃ x,V5 (p,h,k,m,L)=x:=⟨_,rfl⟩
 obtain⟨o3,ho3⟩:∃ o,decide (s∈N)=o:=⟨_,rfl⟩
 obtain⟨o4,ho4⟩:∃ o,decide (p∈N)=o:=⟨_,rfl⟩
 obtain⟨z,hz⟩:∃ z,(fnd p N T).2.1=z:=⟨_,rfl⟩
 have hz0:=(Zdo hH p N).1
 have hz1:=(Zdo hH p N).2.1
 rw[hz] at hz0 hz1
 have hw1:IntKind.i64.wrap (z+1)=z+1:=by rw[IntKind.wrap_i64];omega
 unfold Qx at hx
 simp only at hx
 rw[ho1,hx2,ho3,ho4,hz] at hx
 have HB:=Zb hbX
 have HX0:=Zb hX0
 have HX1:=Zb hX1
 have C1:=Zb (fun W=>Yq s 1 120 o1 W ho1.symm)
 have C2:=Zb (Tv p h k m ta tn tc L x2 X (hL.later hbX) hx2)
 have C3:=Zb (fun W (hb:Below X.heap.size X W)=>Zdk a b n c n d N s o3 W hn (hN.later (Ze hbX hb)) ho3)
 have C4:=Zb (fun W (hb:Below X.heap.size X W)=>Zdk a b n c n d N p o4 W hn (hN.later (Ze hbX hb)) ho4)
 have C5:=Zb (fun W (hb:Below X.heap.size X W)=>Dv a b n c d N T p z W hn (hN.later (Ze hbX hb)) (hT.later (Ze hbX hb)) hz)
 clear hbX hX0 hX1 hN hT hL hH ho1 hx2 ho3 ho4 hz
 have HXX:=Zb hx
 clear hx
 go_enter Tryz.func82,Tryz.ntmps82
 go_wp2_with fail
 rw[←hX]
 clear hX
 refine ((Za C1) _).mono ?_
 rintro e w1 ⟨rfl,rfl⟩
 cases o1 with
 | false=>
  have R:Hid (x=3):=by show _=_;rw[←Za HXX,if_pos rfl]
  clear HXX
  go_wp2
  go_ret
  exact⟨by rw[Za R];rfl,Za HB⟩
 | true=>
  have c0:=Zd (Za HX1) 0 _ rfl
  have c1:=Zd (Za HX1) 1 _ rfl
  have c2:=Zd (Za HX1) 2 _ rfl
  have c3:=Zd (Za HX1) 3 _ rfl
  have c4:=Zd (Za HX1) 4 _ rfl
  have cl:=lt_of_block (Za HX1)
  have HX2:Hid ((if x2≠0 then x2 else if o3=true then 6 else if p≠0∧o4=false then 5 else if h≠z+1 then 4 else 0)=x):=by
   have q:=Za HXX
   rw[if_neg (by decide)] at q
   exact q
  clear HXX
  go_wp2_with fail
  refine (Za C2).mono ?_
  rintro e w2 ⟨rfl,hb2⟩
  have HB2:=Zb hb2
  have h20:=(hb2.block _ (lt_of_block (Za HX0))).trans (Za HX0)
  clear hb2 c0 c1 c2 c3 c4 cl
  by_cases q2:x2=0
  ·subst q2
   have HX3:Hid ((if o3=true then 6 else if p≠0∧o4=false then 5 else if h≠z+1 then 4 else 0)=x):=by
    have q:=Za HX2
    rw[if_neg (by decide)] at q
    exact q
   have c0:=Zd h20 0 _ rfl
   have c1:=Zd h20 1 _ rfl
   have cl:=lt_of_block h20
   clear HX2 h20
   go_wp2_with fail
   refine ((Za C3) _ (Za HB2)).mono ?_
   rintro e w3 ⟨rfl,hb3⟩
   have HB3:=Zb (Ze (Za HB2) hb3)
   have h30:=((Za HB3).block _ (lt_of_block (Za HX0))).trans (Za HX0)
   have h31:=((Za HB3).block _ (lt_of_block (Za HX1))).trans (Za HX1)
   have HF:=Zb (Ze (Za HB) (Za HB3))
   clear hb3 c0 c1 cl
   cases o3 with
   | true=>
    have R:Hid (x=6):=by show _=_;rw[←Za HX3,if_pos rfl]
    clear HX3 h30 h31
    go_wp2
    go_ret
    exact⟨by rw[Za R];rfl,Za HF⟩
   | false=>
    have HX4:Hid ((if p≠0∧o4=false then 5 else if h≠z+1 then 4 else 0)=x):=by
     have q:=Za HX3
     rw[if_neg (by decide)] at q
     exact q
    have c0:=Zd h30 0 _ rfl
    have c1:=Zd h30 1 _ rfl
    have cl:=lt_of_block h30
    have d0:=Zd h31 0 _ rfl
    have d1:=Zd h31 1 _ rfl
    have dl:=lt_of_block h31
    clear HX3 h30 h31
    by_cases q4:p=0
    ·subst q4
     have HX5:Hid ((if h≠z+1 then (4:Int) else 0)=x):=by
      have q:=Za HX4
      rw[if_neg (by simp)] at q
      exact q
     clear HX4 C4
     by_cases q5:h=z+1
     ·have R:Hid (x=0):=by show _=_;rw[←Za HX5,if_neg (by simp[q5])]
      have g5:(h != z+1)=false:=by simp[q5]
      clear HX5 q5
      go_wp2_with fail
      go_region_with (go_at_call 124;refine ((Za C5) _ (Ze (Za HB3) (Zi _))).mono ?_;rintro e w5 ⟨rfl,hb5⟩;have e0:=Zc hb5 (Zc (Zi _) d0);have e1:=Zc hb5 (Zc (Zi _) d1);have el:=Nat.lt_of_lt_of_le dl hb5.size;have HF5:=Zb (Ze (Za HF) (Ze (Zi _) hb5));clear hb5)
      all_goals
       go_wp2
       go_ret
       exact⟨by rw[Za R];rfl,Za HF5⟩
     ·have R:Hid (x=4):=by show _=_;rw[←Za HX5,if_pos q5]
      have g5:(h != z+1)=true:=by simp[q5]
      clear HX5 q5
      go_wp2_with fail
      go_region_with (go_at_call 124;refine ((Za C5) _ (Ze (Za HB3) (Zi _))).mono ?_;rintro e w5 ⟨rfl,hb5⟩;have e0:=Zc hb5 (Zc (Zi _) d0);have e1:=Zc hb5 (Zc (Zi _) d1);have el:=Nat.lt_of_lt_of_le dl hb5.size;have HF5:=Zb (Ze (Za HF) (Ze (Zi _) hb5));clear hb5)
      all_goals
       go_wp2
       go_ret
       exact⟨by rw[Za R];rfl,Za HF5⟩
    ·have g4:(p != 0)=true:=by simp[q4]
     go_wp2_with fail
     refine ((Za C4) _ (Za HB3)).mono ?_
     rintro e w4 ⟨rfl,hb4⟩
     have HB4:=Zb (Ze (Za HB3) hb4)
     have HF4:=Zb (Ze (Za HB) (Za HB4))
     have k0:=Zc hb4 c0
     have k1:=Zc hb4 c1
     have kl:=Nat.lt_of_lt_of_le cl hb4.size
     have d0:=Zc hb4 d0
     have d1:=Zc hb4 d1
     have dl:=Nat.lt_of_lt_of_le dl hb4.size
     clear hb4 c0 c1 cl
     cases o4 with
     | false=>
      have R:Hid (x=5):=by show _=_;rw[←Za HX4,if_pos ⟨q4,rfl⟩]
      clear HX4 q4
      go_wp2
      go_ret
      exact⟨by rw[Za R];rfl,Za HF4⟩
     | true=>
      have HX5:Hid ((if h≠z+1 then (4:Int) else 0)=x):=by
       have q:=Za HX4
       rw[if_neg (by simp)] at q
       exact q
      clear HX4 q4
      by_cases q5:h=z+1
      ·have R:Hid (x=0):=by show _=_;rw[←Za HX5,if_neg (by simp[q5])]
       have g5:(h != z+1)=false:=by simp[q5]
       clear HX5 q5
       go_wp2_with fail
       go_region_with (go_at_call 124;refine ((Za C5) _ (Ze (Za HB4) (Zi _))).mono ?_;rintro e w5 ⟨rfl,hb5⟩;have e0:=Zc hb5 (Zc (Zi _) d0);have e1:=Zc hb5 (Zc (Zi _) d1);have el:=Nat.lt_of_lt_of_le dl hb5.size;have HF5:=Zb (Ze (Za HF4) (Ze (Zi _) hb5));clear hb5)
       all_goals
        go_wp2
        go_ret
        exact⟨by rw[Za R];rfl,Za HF5⟩
      ·have R:Hid (x=4):=by show _=_;rw[←Za HX5,if_pos q5]
       have g5:(h != z+1)=true:=by simp[q5]
       clear HX5 q5
       go_wp2_with fail
       go_region_with (go_at_call 124;refine ((Za C5) _ (Ze (Za HB4) (Zi _))).mono ?_;rintro e w5 ⟨rfl,hb5⟩;have e0:=Zc hb5 (Zc (Zi _) d0);have e1:=Zc hb5 (Zc (Zi _) d1);have el:=Nat.lt_of_lt_of_le dl hb5.size;have HF5:=Zb (Ze (Za HF4) (Ze (Zi _) hb5));clear hb5)
       all_goals
        go_wp2
        go_ret
        exact⟨by rw[Za R];rfl,Za HF5⟩
  ·have R:Hid (x=x2):=by show _=_;rw[←Za HX2,if_pos q2]
   have g2:(x2 != 0)=true:=by simp[q2]
   have HF:=Zb (Ze (Za HB) (Za HB2))
   clear HX2 q2 h20
   go_wp2
   go_ret
   exact⟨by rw[Za R];rfl,Za HF⟩
theorem Jc{N:List Int}{T:List Z4}{x:Int}{b:Z4}(h:Qx N T x b=0):V5 b=0:=by
 unfold Qx at h
 split at h
 ·cases h
 ·split at h
  ·next q=>exact absurd h q
  ·next q=>exact Classical.not_not.1 q
theorem Ar{T:List Z4}{j:Nat}(hj:j<T.length)(h:Us (T.take j))(hb:V5 T[j]=0):Us (T.take (j+1)):=by
 rw[List.take_succ_eq_append_getElem hj]
 intro b hm
 rcases List.mem_append.1 hm with q|q
 ·exact h b q
 ·rw[List.mem_singleton.1 q];exact Lx hb
theorem Nd(a b:Option Addr)(n c m d:Nat)(N:List Int)(T:List Z4)(x:Int)(w:World)(hN:IntsAt w a n N)(hT:BlksAt w b m T)(sN:SlOk a n c)(sT:SlOk b m d)(hx:Vw N T=x) :
  Calls Tryz.prog 75 #[.agg #[.slice a n c,.slice b m d]] w fun e w'=>e = .returned (.int .i64 x)∧Below w.heap.size w w':=by
 subst hx
 obtain⟨X,hX⟩:∃ X,X=w.alloc (.cells #[.slice a n c,.slice b m d] 28):=⟨_,rfl⟩
 have hbX:Below w.heap.size w X:=by rw[hX];exact Zf _ _
 have hX0:X.heap[w.heap.size]? = some (.cells [.slice a n c,.slice b m d].toArray 28 (0,0)):=by rw[hX];exact Wt _ _ _ _
 have HB:=Zb hbX
 have HX0:=Zb hX0
 have x0:=Zd hX0 0 _ rfl
 have x1:=Zd hX0 1 _ rfl
 have xl:=lt_of_block hX0
 have HN:=Zb (hN.later hbX)
 have HT:=Zb (hT.later hbX)
 have HZN:=Zb hN.1
 have HZT:=Zb hT.1
 have hm:=sN.2.1
 have hm2:=sT.2.1
 have hlc:=sN.1
 unfold maxLen at hm hm2
 by_cases e:n=m
 ·subst e
  by_cases h24:24<n
  ·have R:Hid (Vw N T=2):=by show _=_;unfold Vw;rw[hN.1,hT.1,if_neg (by simp),if_pos h24]
   have g0:((n:Int) != (n:Int))=false:=by simp
   have g1:(24:Int)<(n:Int):=by omega
   clear hN hT sN sT hX0 hbX
   go_enter Tryz.func75,Tryz.ntmps75
   go_wp2_with fail
   rw[←hX]
   clear hX
   go_wp2
   go_ret
   exact⟨by rw[Za R];rfl,Za HB⟩
  ·have R:Hid (Vw N T=Uh (N.take 0) (T.take 0) (N.drop 0) (T.drop 0)):=by show _=_;unfold Vw;rw[hN.1,hT.1,if_neg (by simp),if_neg h24];rfl
   have g0:((n:Int) != (n:Int))=false:=by simp
   have g1:¬(24:Int)<(n:Int):=by omega
   have SN:=Zb sN
   have ST:=Zb sT
   clear hN hT sN sT hX0 hbX
   go_enter Tryz.func75,Tryz.ntmps75
   go_wp2_with fail
   rw[←hX]
   clear hX
   go_wp2
   go_loopw [19] (fun i wr=>∃ j:Nat,j≤n∧i = .int .i64 j∧Hid (Vw N T=Uh (N.take j) (T.take j) (N.drop j) (T.drop j))∧Hid (Us (T.take j))∧Hid (Below X.heap.size X wr)) (fun i _=>n - (intOf i).toNat)
   case atStart=>exact⟨0,Nat.zero_le _,rfl,R,(fun b hb=>(by simp at hb):Us (T.take 0)),(Below.refl _ _:Below X.heap.size X X)⟩
   case round=>
    obtain⟨j,hj,rfl,A,HH,HBr⟩:=hrel
    clear R
    by_cases hlt:j<n
    ·have h1:j<N.length:=by rw[Za HZN];exact hlt
     have h2:j<T.length:=by rw[Za HZT];exact hlt
     obtain⟨b1,off1,rfl,hl1,hc1⟩:=(Za HN).2 (by omega)
     obtain⟨b2,off2,rfl,hl2,hc2⟩:=(Za HT).2 (by omega)
     have f1:=Zc (Za HBr) (hc1 j h1)
     have hin:=BlkAt.kept _ _ _ _ _ (Za HBr) (hc2 j h2)
     have AT:=Zb (Zee N T j h1 h2)
     have HM:=Zb (Ar h2 (Za HH))
     obtain⟨s,hs⟩:∃ s,N[j]=s:=⟨_,rfl⟩
     obtain⟨t,ht⟩:∃ t,T[j]=t:=⟨_,rfl⟩
     rw[hs] at f1 AT
     rw[ht] at hin AT HM
     obtain⟨p,h,k,o,L⟩:=t
     obtain⟨g0',g1',g2,g3,ta,tn,tc,g4,hL,_⟩:=hin
     simp only at g0' g1' g2 g3 hL
     obtain⟨y,hy⟩:∃ y,Qx (N.take j) (T.take j) s (p,h,k,o,L)=y:=⟨_,rfl⟩
     have w0:=Zc (Za HBr) x0
     have w1:=Zc (Za HBr) x1
     have wl:=Nat.lt_of_lt_of_le xl (Za HBr).size
     have ll1:=Nat.lt_of_lt_of_le hl1 (Za HBr).size
     have ll2:=Nat.lt_of_lt_of_le hl2 (Za HBr).size
     have C1:=Zb (fun W=>Zdr (some ⟨b1,off1,none⟩) (some ⟨b2,off2,none⟩) n c d j W hj (Za SN) (Za ST))
     have hjm:j≤maxLen:=by unfold maxLen;omega
     have C2:=Zb (fun W (hb:Below wr.heap.size wr W)=>Cd (some ⟨b1,off1,none⟩) (some ⟨b2,off2,none⟩) j c d (N.take j) (T.take j) s p h k o ta tn tc L y W hjm (((Za HN).later (Ze (Za HBr) hb)).take j hj) (RowsAt.take ((Za HT).later (Ze (Za HBr) hb)) j hj) (hL.later hb) (Za HH) hy)
     rw[hy] at AT
     have HY:Hid (y=0→V5 (p,h,k,o,L)=0):=fun q=>Jc (hy.trans q)
     clear hc1 hc2 hL hs ht hy x0 x1 xl hl1 hl2
     by_cases q:y=0
     ·subst q
      have R:Hid (Vw N T=Uh (N.take (j+1)) (T.take (j+1)) (N.drop (j+1)) (T.drop (j+1))):=by show _=_;rw[Za A,Za AT,if_neg (by simp)]
      have HH2:=Zb ((Za HM) ((Za HY) rfl))
      clear A AT HM HY
      go_wp2_with fail
      go_region_held3 (fun W'=>Below wr.heap.size wr W'∧W'.cell? ⟨w.heap.size,0,none⟩=some (.slice (some ⟨b1,off1,none⟩) n c)∧W'.cell? ⟨w.heap.size,1,none⟩=some (.slice (some ⟨b2,off2,none⟩) n d)∧W'.cell? ⟨b1,off1+j,none⟩=some (.int .i64 s)∧W'.cell? ⟨b2,off2+j*5,none⟩=some (.int .i64 p)∧W'.cell? ⟨b2,off2+j*5+1,none⟩=some (.int .i64 h)∧W'.cell? ⟨b2,off2+j*5+2,none⟩=some (.int .i64 k)∧W'.cell? ⟨b2,off2+j*5+3,none⟩=some (.int .i64 o)∧W'.cell? ⟨b2,off2+j*5+4,none⟩=some (.slice ta tn tc))
       (first
       | exact⟨Zi _,w0,w1,f1,g0',g1',g2,g3,g4⟩
       | (go_split_ands;refine⟨Ze (by assumption) hbc,Zc hbc (by assumption),Zc hbc (by assumption),Zc hbc (by assumption),Zc hbc (by assumption),Zc hbc (by assumption),Zc hbc (by assumption),Zc hbc (by assumption),Zc hbc (by assumption)⟩))
       (first|(go_at_call 123;refine ((Za C1) _).mono ?_;rintro e w' ⟨rfl,hbc⟩)|(go_at_call 82;go_split_ands;refine ((Za C2) _ (by assumption)).mono ?_;rintro e w' ⟨rfl,hbc⟩))
      rename_i hq
      have HB3:=Zb (Ze (Za HBr) hq.1)
      clear hq
      go_wp2
      go_roundw
      case rel=>exact⟨j+1,by omega,by go_num,R,HH2,HB3⟩
      case measure=>simp[intOf];omega
     ·have R:Hid (Vw N T=y):=by show _=_;rw[Za A,Za AT,if_pos q]
      have gy:(y != 0)=true:=by simp[q]
      clear A AT HM HY q
      go_wp2_with fail
      go_region_held3 (fun W'=>Below wr.heap.size wr W'∧W'.cell? ⟨w.heap.size,0,none⟩=some (.slice (some ⟨b1,off1,none⟩) n c)∧W'.cell? ⟨w.heap.size,1,none⟩=some (.slice (some ⟨b2,off2,none⟩) n d)∧W'.cell? ⟨b1,off1+j,none⟩=some (.int .i64 s)∧W'.cell? ⟨b2,off2+j*5,none⟩=some (.int .i64 p)∧W'.cell? ⟨b2,off2+j*5+1,none⟩=some (.int .i64 h)∧W'.cell? ⟨b2,off2+j*5+2,none⟩=some (.int .i64 k)∧W'.cell? ⟨b2,off2+j*5+3,none⟩=some (.int .i64 o)∧W'.cell? ⟨b2,off2+j*5+4,none⟩=some (.slice ta tn tc))
       (first
       | exact⟨Zi _,w0,w1,f1,g0',g1',g2,g3,g4⟩
       | (go_split_ands;refine⟨Ze (by assumption) hbc,Zc hbc (by assumption),Zc hbc (by assumption),Zc hbc (by assumption),Zc hbc (by assumption),Zc hbc (by assumption),Zc hbc (by assumption),Zc hbc (by assumption),Zc hbc (by assumption)⟩))
       (first|(go_at_call 123;refine ((Za C1) _).mono ?_;rintro e w' ⟨rfl,hbc⟩)|(go_at_call 82;go_split_ands;refine ((Za C2) _ (by assumption)).mono ?_;rintro e w' ⟨rfl,hbc⟩))
      rename_i hq
      have HB3:=Zb (Ze (Za HB) (Ze (Za HBr) hq.1))
      clear hq
      go_wp2
      go_ret
      exact⟨by rw[Za R];rfl,Za HB3⟩
    ·have R:Hid (Vw N T=0):=by show _=_;rw[Za A,Zao N T j (by rw[Za HZN];omega)]
     have HBF:=Zb (Ze (Za HB) (Za HBr))
     clear A
     go_wp2
     go_ret
     exact⟨by rw[Za R];rfl,Za HBF⟩
 ·have R:Hid (Vw N T=4):=by show _=_;unfold Vw;rw[hN.1,hT.1,if_pos e]
  have g0:((n:Int) != (m:Int))=true:=by simp;omega
  clear hN hT sN sT hX0 hbX
  go_enter Tryz.func75,Tryz.ntmps75
  go_wp2_with fail
  rw[←hX]
  clear hX
  go_wp2
  go_ret
  exact⟨by rw[Za R];rfl,Za HB⟩
theorem Pq:∀ (M:List Int) (U:List Z4) (N:List Int) (T:List Z4),M.length=U.length→Uh N T M U=0→Us U
 | [],[],_,_,_,_=>fun b hb=>by cases hb
 | [],_ :: _,_,_,h,_=>by cases h
 | _ :: _,[],_,_,h,_=>by cases h
 | x :: M,b :: U,N,T,h,hc=>by
  rw[Uh] at hc
  split at hc
  ·next q=>exact absurd hc q
  ·next q=>
   have h1:=Lx (Jc (Classical.not_not.1 q))
   have h2:=Pq M U _ _ (by simpa using h) hc
   intro y hy
   rcases List.mem_cons.1 hy with rfl|hy
   ·exact h1
   ·exact h2 y hy
theorem Zed{N:List Int}{T:List Z4}(h:Vw N T=0):N.length=T.length∧N.length≤24∧Us T∧Uh [] [] N T=0:=by
 unfold Vw at h
 split at h
 ·cases h
 ·next q=>
  split at h
  ·cases h
  ·next q2=>exact⟨Classical.not_not.1 q,by omega,Pq N T [] [] (Classical.not_not.1 q) h,h⟩
end Go.Proofs.YtpikejjiignchaaGreatDoor.Tr
