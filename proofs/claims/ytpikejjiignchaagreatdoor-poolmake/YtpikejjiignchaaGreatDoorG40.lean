import Derived.Test.YtpikejjiignchaaGreatDoorG38
set_option maxHeartbeats 12800000
set_option maxRecDepth 10000
namespace Go.Proofs.YtpikejjiignchaaGreatDoor.Tr
open Go.RowKit
theorem Yy{w:World}{B B':Nat}{e e':TypeId}{sz sz' n n':Nat}{v v':Value}{xs xs':List Value}(h:w.ownsRow B e sz v n xs)(h':w.ownsRow B' e' sz' v' n' xs')(hn:e≠e')(q:Nat)(hq:v.ownBlock=some q):v'.ownBlock≠some q:=by
 intro hq'
 obtain⟨c,f,h1⟩:=Lib.ownsRow_kind h q hq
 obtain⟨c',f',h2⟩:=Lib.ownsRow_kind h' q hq'
 rw[h1] at h2
 injection h2 with h2
 injection h2 with _ h2
 exact hn h2
theorem Zfy{G B w0s:Nat}{w0 wr w5:World}{g cap n k:Nat}{K:List (List Value)}{I:List InD}{x:InD}{a a5:Option Addr}{m c c5:Nat}(h:Cl inR 124 B G w0 wr (.slice (some ⟨g,0,none⟩) n cap) n K I k)(hk:k<I.length)(hkK:k<K.length)(hx:I[k]=x)(e:K[k]=[.int .i64 x.1,.int .i64 x.2.1,.slice a m c])(hb:Below wr.heap.size wr w5)(hf:Fresh w0s w5 (fun w2=>OpsAt w2 a5 m x.2.2∧SlOk a5 m c5))(hG:G≤w0s) :
  Cl inR 124 B G w0 (w5.setCell ⟨g,k*3+2,none⟩ (.slice a5 m c5)) (.slice (some ⟨g,0,none⟩) n cap) n (K.set k [.int .i64 x.1,.int .i64 x.2.1,.slice a5 m c5]) I (k+1):=by
 have h5:=h.keep hb
 refine h5.step hk ?_ ((Gr.refl w5 (fun q=>q=g)).one g (k*3+2) (.inl rfl) _) ?_
 ·rw[hx]
  exact (hf.less hG).imp fun w2 q=>⟨a5,m,c5,rfl,q.1,q.2⟩
 ·have h1:=(h5.own.stored (k*3+2) (.slice a5 m c5)).1
  have h2:=Xn (sz:=3) h5.wid k hkK 2 (by decide) (.slice a5 m c5)
  rw[e] at h2
  rw[h2] at h1
  exact h1
theorem Zcr{G B w0s:Nat}{w0 wr w5:World}{g cap n k:Nat}{K:List (List Value)}{O:List Zw}{x:Zw}{a5:Option Addr}{m c5:Nat}(h:Cl outR 101 B G w0 wr (.slice (some ⟨g,0,none⟩) n cap) n K O k)(hk:k<O.length)(hkK:k<K.length)(hx:O[k]=x)(hb:Below wr.heap.size wr w5)(hf:Fresh w0s w5 (fun w2=>OpsAt w2 a5 m x.2∧SlOk a5 m c5))(hG:G≤w0s) :
  Cl outR 101 B G w0 ((w5.setCell ⟨g,k*2,none⟩ (.int .i64 x.1)).setCell ⟨g,k*2+1,none⟩ (.slice a5 m c5)) (.slice (some ⟨g,0,none⟩) n cap) n (K.set k [.int .i64 x.1,.slice a5 m c5]) O (k+1):=by
 have h5:=h.keep hb
 refine h5.step hk ?_ (((Gr.refl w5 (fun q=>q=g)).one g (k*2) (.inl rfl) _).one g (k*2+1) (.inl rfl) _) ?_
 ·rw[hx]
  exact (hf.less hG).imp fun w2 q=>⟨a5,m,c5,rfl,q.1,q.2⟩
 ·have h1:=((h5.own.stored (k*2) (.int .i64 x.1)).1.stored (k*2+1) (.slice a5 m c5)).1
  rw[put2 h5.wid k hkK] at h1
  exact h1
def Zgr(w:World)(h:Int)(I:List InD)(O:List Zw)(ni no:Nat)(v1 v2:Value)(wx:World):Prop:=
 ∃ K1 K2,AllC inR w K1 I∧AllC outR w K2 O∧wx.ownsRow (w.heap.size+2) 124 3 v1 ni K1.flatten∧wx.ownsRow (w.heap.size+2) 101 2 v2 no K2.flatten ∧
  wx.heap[w.heap.size]? = some (.cells [.int .i64 h,v1,v2].toArray 52 (0,0))∧wx.heap[w.heap.size+1]? = some (.cells [.int .i64 0,.slice none 0 0,.slice none 0 0].toArray 52 (0,0))∧Below w.heap.size w wx
theorem D9{w W wx:World}{h:Int}{I:List InD}{O:List Zw}{ni no:Nat}{v1 v2:Value}{K1 K2:List (List Value)}(h1:AllC inR w K1 I)(h2:AllC outR w K2 O)(o1:W.ownsRow (w.heap.size+2) 124 3 v1 ni K1.flatten)(o2:W.ownsRow (w.heap.size+2) 101 2 v2 no K2.flatten)(hb:Below w.heap.size w W)
  (hz:W.heap[w.heap.size+1]? = some (.cells [.int .i64 0,.slice none 0 0,.slice none 0 0].toArray 52 (0,0))) (hg:Gr W wx (fun q=>q=w.heap.size)) (hx:wx.heap[w.heap.size]? = some (.cells [.int .i64 h,v1,v2].toArray 52 (0,0))):Zgr w h I O ni no v1 v2 wx:=
 ⟨K1,K2,h1,h2,hg.own o1 (fun k hk=>by have:=(o1.lt k hk).1;omega),hg.own o2 (fun k hk=>by have:=(o2.lt k hk).1;omega),hx,hg.heap hz (by omega),hg.below hb (by have:=lt_of_block hz;omega) (fun k hk=>by omega)⟩
theorem clTx_is(h:Int)(ai ao:Option Addr)(ni ci no co:Nat)(I:List InD)(O:List Zw)(w:World)(hI:InsAt w ai ni I)(hO:OutsAt w ao no O)(sI:SlOk ai ni ci)(sO:SlOk ao no co)(hni:ni≤3518437208883)(hno:no≤4398046511104)(hk:∀ x∈I,x.2.2.length≤8796093022208)(hl:∀ x∈O,x.2.length≤8796093022208) :
  Calls Tryz.prog 56 #[.agg #[.int .i64 h,.slice ai ni ci,.slice ao no co]] w fun e w'=>∃ a1 c1 a2 c2,e = .returned (.agg #[.int .i64 h,.slice a1 ni c1,.slice a2 no c2])∧Fresh w.heap.size w' (fun w2=>txR.C w2 [.int .i64 h,.slice a1 ni c1,.slice a2 no c2] (h,I,O))∧Below w.heap.size w w':=by
 obtain⟨X,hX⟩:∃ X,X=(w.alloc (.cells #[.int .i64 h,.slice ai ni ci,.slice ao no co] 52)).alloc (.cells #[.int .i64 0,.slice none 0 0,.slice none 0 0] 52):=⟨_,rfl⟩
 have hbX:Below w.heap.size w X:=by rw[hX];exact Ze (Zf _ _) (Zf _ _)
 have hX0:X.heap[w.heap.size]? = some (.cells [.int .i64 h,.slice ai ni ci,.slice ao no co].toArray 52 (0,0)):=by
  rw[hX,Below.heap_alloc _ _ _ (by simp)];exact Zl _ _ _ _ _
 have hXs:X.heap.size=w.heap.size+2:=by rw[hX];simp
 have hX1:X.heap[w.heap.size+1]? = some (.cells [.int .i64 0,.slice none 0 0,.slice none 0 0].toArray 52 (0,0)):=by
  rw[hX]
  have:=Zl (w.alloc (.cells #[.int .i64 h,.slice ai ni ci,.slice ao no co] 52)) (.int .i64 0) (.slice none 0 0) (.slice none 0 0) 52
  rw[show (w.alloc (.cells #[.int .i64 h,.slice ai ni ci,.slice ao no co] 52)).heap.size=w.heap.size+1 by simp] at this
  exact this
 have HBX:=Zb hbX
 have HX0:=Zb hX0
 have HX1:=Zb hX1
 have HXs:=Zb hXs
 have HKI:=Zb hk
 have HLO:=Zb hl
 have HZI:=Zb hI.1
 have HZO:=Zb hO.1
 have C1:=Zb (Fh ai ni ci I w X.drew hni hI (Ze hbX (Zi X)) sI)
 have C2:=Zb (fun W (hb:Below w.heap.size w W)=>Ms ao no co O w W hno hO hb sO)
 have x1:=Zd hX0 1 _ rfl
 have x2:=Zd hX0 2 _ rfl
 have xl:=lt_of_block hX0
 clear hbX hX0 hX1 hI hO sI sO hk hl hXs
 go_enter Tryz.func56,Tryz.ntmps56
 go_upto_region 1 with fail
 rw[←hX]
 clear hX
 go_cut [9,12] from 7 to 14 (fun s9 s12 wx=>Hid (Zgr w h I O ni no s9 s12 wx))
 case first=>
  go_region_with (first
   | (go_at_call 100;refine (Za C1).mono ?_;rintro e w3 ⟨v1,K1,rfl,hA1,ho1,hb3⟩;have h30:=(hb3.block _ (lt_of_block (Za HX0))).trans (Za HX0);have d1:=Zd h30 1 _ rfl;have d2:=Zd h30 2 _ rfl;have dl:=lt_of_block h30;have HA1:=Zb hA1;have HO1:Hid (w3.ownsRow (w.heap.size+2) 124 3 v1 ni K1.flatten):=Wv ho1 (Nat.le_of_eq (Za HXs).symm);have HB3:=Zb (Ze (Ze (Za HBX) (Zi _)) hb3);have HB3X:=Zb (Ze (Zi X) hb3);clear hA1 ho1 hb3 h30)
   | (go_at_call 101;refine ((Za C2) _ (Za HB3)).mono ?_;rintro e w4 ⟨v2,K2,rfl,hA2,ho2,hb4⟩;have hbX4:=Ze (Za HB3X) hb4;have h40:=(hbX4.block _ (lt_of_block (Za HX0))).trans (Za HX0);have h41:=(hbX4.block _ (lt_of_block (Za HX1))).trans (Za HX1);have e0:=Zd h40 0 _ rfl;have e1:=Zd h40 1 _ rfl;have e2:=Zd h40 2 _ rfl;have z1:=Zh h40 1;have z2:=Zh h40 2;have el:=lt_of_block h40;have HA2:=Zb hA2;have HO2:Hid (w4.ownsRow (w.heap.size+2) 101 2 v2 no K2.flatten):=Wv ho2 (by have:=(Za HB3X).size;have:=Za HXs;omega);have HO14:=Zb ((Gr.of (S:=fun _=>False) hb4).own (Za HO1) (fun _ _ q=>q));have HB4:=Zb (Ze (Za HB3) hb4);have H40:=Zb h40;have H41:=Zb h41;obtain⟨a2,c2,rfl,_,_⟩:=Ym (Za HO2);obtain⟨a1,c1,rfl,_,_⟩:=Ym (Za HO1);clear hA2 ho2 hb4 hbX4 h40 h41))
  all_goals
   go_wp2_with fail
   go_meet
   case rel=>
    first
    | exact D9 (W:=w4) (Za HA1) (Za HA2) (Za HO14) (Za HO2) (Za HB4) (Za H41) (((Gr.refl w4 (fun q=>q=w.heap.size)).one w.heap.size 1 (.inl rfl) _).one w.heap.size 2 (.inl rfl) _) (set_cells (set_cells (Za H40) 1 _) 2 _)
    | exact D9 (W:=w4) (Za HA1) (Za HA2) (Za HO14) (Za HO2) (Za HB4) (Za H41) (((Gr.refl w4 (fun q=>q=w.heap.size)).one w.heap.size 2 (.inl rfl) _).one w.heap.size 1 (.inl rfl) _) (set_cells (set_cells (Za H40) 2 _) 1 _)
 case rest=>
  obtain⟨K1,K2,hA1,hA2,ho1,ho2,h0,h1,hb⟩:=Za hcut
  obtain⟨a1,c1,rfl,_,_⟩:=Ym ho1
  obtain⟨a2,c2,rfl,_,_⟩:=Ym ho2
  obtain⟨G,hG⟩:∃ G,wc.heap.size=G:=⟨_,rfl⟩
  have hGw:w.heap.size+2≤G:=by rw[←hG];exact lt_of_block h1
  have ST1:Hid (Cl inR 124 (w.heap.size+2) G w wc (.slice a1 ni c1) ni K1 I 0):=Cl.start ho1 hA1 (Za HZI) (Nat.le_of_eq hG)
  have ST2:Hid (Cl outR 101 (w.heap.size+2) G w wc (.slice a2 no c2) no K2 O 0):=Cl.start ho2 hA2 (Za HZO) (Nat.le_of_eq hG)
  have H0:=Zb h0
  have H1:=Zb h1
  have HB:=Zb hb
  have HGl:Hid (G≤wc.heap.size):=Nat.le_of_eq hG.symm
  have c10:=Zd h0 1 _ rfl
  have cl0:=lt_of_block h0
  clear hcut hA1 hA2 ho1 ho2 h0 h1 hb C1 C2 HX0 HX1 HBX x1 x2 xl hG
  go_wp2
  go_loopw [18] (fun i wr=>∃ (k:Nat) (K:List (List Value)),k≤ni∧i = .int .i64 k∧Hid (Cl inR 124 (w.heap.size+2) G w wr (.slice a1 ni c1) ni K I k)∧Hid (Cl outR 101 (w.heap.size+2) G w wr (.slice a2 no c2) no K2 O 0)∧Hid (wr.heap[w.heap.size]? = some (.cells [.int .i64 h,.slice a1 ni c1,.slice a2 no c2].toArray 52 (0,0)))∧Hid (wr.heap[w.heap.size+1]? = some (.cells [.int .i64 0,.slice none 0 0,.slice none 0 0].toArray 52 (0,0)))∧Hid (Below w.heap.size w wr)∧Hid (G≤wr.heap.size)) (fun i _=>ni - (intOf i).toNat)
  case atStart=>exact⟨0,K1,Nat.zero_le _,rfl,ST1,ST2,H0,H1,HB,HGl⟩
  case round=>
   obtain⟨k,K,hk,rfl,HC1,HC2,HB0,HB1,HBr,HGr⟩:=hrel
   clear ST1 ST2 H0 H1 HB HGl c10 cl0
   by_cases hlt:k<ni
   ·have hlk:k<I.length:=by rw[Za HZI];exact hlt
    have hkK:k<K.length:=by rw[(Za HC1).len];exact hlk
    obtain⟨g,cap,ev,hgB,hgG,hgl⟩:=(Za HC1).form (by omega)
    cases ev
    obtain⟨a,m,c,eK,hop,hsl⟩:=(Za HC1).old k hlk hkK (Nat.le_refl _)
    have hkl:=(Za HKI) _ (List.getElem_mem hlk)
    obtain⟨x,hx⟩:∃ x,I[k]=x:=⟨_,rfl⟩
    rw[hx] at eK hop hkl
    have r0:=(Za HC1).cell k hkK 0 (by decide)
    have r1:=(Za HC1).cell k hkK 1 (by decide)
    have r2:=(Za HC1).cell k hkK 2 (by decide)
    rw[eK] at r0 r1 r2
    have r0:wr.cell? ⟨g,k*3,none⟩=some (.int .i64 x.1):=r0
    have r1:wr.cell? ⟨g,k*3+1,none⟩=some (.int .i64 x.2.1):=r1
    have r2:wr.cell? ⟨g,k*3+2,none⟩=some (.slice a m c):=r2
    have hm:m≤8796093022208:=by rw[←hop.1];exact hkl
    obtain⟨X1,hX1⟩:∃ X1,X1=wr.alloc (.cells #[.int .i64 x.1,.int .i64 x.2.1,.slice a m c] 124):=⟨_,rfl⟩
    have hbX1:Below wr.heap.size wr X1:=by rw[hX1];exact Zf _ _
    have hXX:X1.heap[wr.heap.size]? = some (.cells [.int .i64 x.1,.int .i64 x.2.1,.slice a m c].toArray 124 (0,0)):=by rw[hX1];exact Zl _ _ _ _ _
    have b2:=Zd hXX 2 _ rfl
    have bl:=lt_of_block hXX
    have t1:=Zc hbX1 (Zd (Za HB0) 1 _ rfl)
    have tl:=Nat.lt_of_lt_of_le (lt_of_block (Za HB0)) hbX1.size
    have HBX1:=Zb hbX1
    have CO:=Zb (Uq a m c x.2.2 X1.drew hm (hop.later (Ze (Ze (Za HBr) hbX1) (Zi _))) hsl)
    have NX:Hid (∀ w5 a5 c5,Below wr.heap.size wr w5→Fresh X1.drew.heap.size w5 (fun w2=>OpsAt w2 a5 m x.2.2∧SlOk a5 m c5) →
      Hid (Cl inR 124 (w.heap.size+2) G w (w5.setCell ⟨g,k*3+2,none⟩ (.slice a5 m c5)) (.slice (some ⟨g,0,none⟩) ni c1) ni (K.set k [.int .i64 x.1,.int .i64 x.2.1,.slice a5 m c5]) I (k+1))∧Hid (Cl outR 101 (w.heap.size+2) G w (w5.setCell ⟨g,k*3+2,none⟩ (.slice a5 m c5)) (.slice a2 no c2) no K2 O 0)∧Hid ((w5.setCell ⟨g,k*3+2,none⟩ (.slice a5 m c5)).heap[w.heap.size]? = some (.cells [.int .i64 h,.slice (some ⟨g,0,none⟩) ni c1,.slice a2 no c2].toArray 52 (0,0)))∧Hid ((w5.setCell ⟨g,k*3+2,none⟩ (.slice a5 m c5)).heap[w.heap.size+1]? = some (.cells [.int .i64 0,.slice none 0 0,.slice none 0 0].toArray 52 (0,0)))∧Hid (Below w.heap.size w (w5.setCell ⟨g,k*3+2,none⟩ (.slice a5 m c5)))∧Hid (G≤(w5.setCell ⟨g,k*3+2,none⟩ (.slice a5 m c5)).heap.size)):=by
     intro w5 a5 c5 hb5 hf5
     have hGr:=Za HGr
     have hg5:=(Gr.refl w5 (fun q=>q=g)).one g (k*3+2) (.inl rfl) (.slice a5 m c5)
     have hs5:=hb5.size
     refine⟨Zfy (Za HC1) hlk hkK hx eK hb5 hf5 (Nat.le_trans hGr hbX1.size),?_,?_,?_,?_,?_⟩
     ·exact ((Za HC2).keep hb5).gr hg5 (fun q e=>by omega) (fun q hq e=>Yy (Za HC1).own (Za HC2).own (by decide) q (by rw[e];rfl) hq)
     ·exact hg5.heap ((hb5.block _ (lt_of_block (Za HB0))).trans (Za HB0)) (by omega)
     ·exact hg5.heap ((hb5.block _ (lt_of_block (Za HB1))).trans (Za HB1)) (by omega)
     ·exact hg5.below (Ze (Za HBr) hb5) (by have:=lt_of_block (Za HB0);omega) (fun q e=>by omega)
     ·exact Nat.le_trans hGr (Nat.le_trans hs5 hg5.size)
    have FR:=Zb (fun j=>(Za HC1).free j)
    have hkI:(k:Int)<(ni:Int):=by omega
    clear hop hsl hkl hx eK hbX1 hXX
    go_wp2_with fail
    rw[←hX1]
    clear hX1
    go_region_with (go_at_call 102;refine (Za CO).mono ?_;rintro e w5 ⟨a5,c5,rfl,hf5,hb5⟩;have hbw5:=Ze (Ze (Za HBX1) (Zi _)) hb5;have HN:=Zb ((Za NX) w5 a5 c5 hbw5 hf5);have q1:=Zc hb5 (Zc (Zi _) t1);have q2:=Zc hbw5 r2;have q3:w5.frozen? ⟨g,k*3+2,none⟩=false:=(World.frozen?_of_block (a:=⟨g,k*3+2,none⟩) (hbw5.block g hgl)).trans ((Za FR) _);have q4:=Nat.lt_of_lt_of_le hgl hbw5.size;have q5:=Nat.lt_of_lt_of_le (lt_of_block (Za HB0)) hbw5.size;clear hf5 hb5 hbw5)
    all_goals
     go_wp2
     go_roundw
     case rel=>
      obtain⟨f1,f2,f3,f4,f5,f6⟩:=Za HN
      exact⟨k+1,_,by omega,by go_num,f1,f2,f3,f4,f5,f6⟩
     case measure=>simp[intOf];omega
   ·have e:k=ni:=by omega
    subst e
    have c20:=Zd (Za HB0) 2 _ rfl
    have cl0:=lt_of_block (Za HB0)
    have DN:=HC1
    clear HC1
    go_wp2
    go_loopw [35] (fun i w2=>∃ (j:Nat) (Ko:List (List Value)),j≤no∧i = .int .i64 j∧Hid (Cl inR 124 (w.heap.size+2) G w w2 (.slice a1 k c1) k K I k)∧Hid (Cl outR 101 (w.heap.size+2) G w w2 (.slice a2 no c2) no Ko O j)∧Hid (w2.heap[w.heap.size]? = some (.cells [.int .i64 h,.slice a1 k c1,.slice a2 no c2].toArray 52 (0,0)))∧Hid (w2.heap[w.heap.size+1]? = some (.cells [.int .i64 0,.slice none 0 0,.slice none 0 0].toArray 52 (0,0)))∧Hid (Below w.heap.size w w2)∧Hid (G≤w2.heap.size)) (fun i _=>no - (intOf i).toNat)
    case atStart=>exact⟨0,K2,Nat.zero_le _,rfl,DN,HC2,HB0,HB1,HBr,HGr⟩
    case round=>
     obtain⟨j,Ko,hj,rfl,HD1,HD2,HE0,HE1,HEr,HEG⟩:=hrel
     clear DN HC2 HB0 HB1 HBr HGr c20 cl0
     by_cases hlt2:j<no
     ·have hlk:j<O.length:=by rw[Za HZO];exact hlt2
      have hkK:j<Ko.length:=by rw[(Za HD2).len];exact hlk
      obtain⟨g,cap,ev,hgB,hgG,hgl⟩:=(Za HD2).form (by omega)
      cases ev
      obtain⟨a,m,c,eK,hop,hsl⟩:=(Za HD2).old j hlk hkK (Nat.le_refl _)
      have hkl:=(Za HLO) _ (List.getElem_mem hlk)
      obtain⟨x,hx⟩:∃ x,O[j]=x:=⟨_,rfl⟩
      rw[hx] at eK hop hkl
      have r0:=(Za HD2).cell j hkK 0 (by decide)
      have r1:=(Za HD2).cell j hkK 1 (by decide)
      rw[eK] at r0 r1
      have r0:wr.cell? ⟨g,j*2,none⟩=some (.int .i64 x.1):=r0
      have r1:wr.cell? ⟨g,j*2+1,none⟩=some (.slice a m c):=r1
      have hm:m≤8796093022208:=by rw[←hop.1];exact hkl
      obtain⟨X1,hX1⟩:∃ X1,X1=wr.alloc (.cells #[.int .i64 x.1,.slice a m c] 101):=⟨_,rfl⟩
      have hbX1:Below wr.heap.size wr X1:=by rw[hX1];exact Zf _ _
      have hXX:X1.heap[wr.heap.size]? = some (.cells [.int .i64 x.1,.slice a m c].toArray 101 (0,0)):=by rw[hX1];exact Wt _ _ _ _
      have b0:=Zd hXX 0 _ rfl
      have b1:=Zd hXX 1 _ rfl
      have bl:=lt_of_block hXX
      have t2:=Zc hbX1 (Zd (Za HE0) 2 _ rfl)
      have tl:=Nat.lt_of_lt_of_le (lt_of_block (Za HE0)) hbX1.size
      have HBX1:=Zb hbX1
      have CO:=Zb (Rj x.1 a m c x.2 X1.drew hm (hop.later (Ze (Ze (Za HEr) hbX1) (Zi _))) hsl)
      have NX:Hid (∀ w5 a5 c5,Below wr.heap.size wr w5→Fresh X1.drew.heap.size w5 (fun w2=>OpsAt w2 a5 m x.2∧SlOk a5 m c5) →
        Hid (Cl inR 124 (w.heap.size+2) G w ((w5.setCell ⟨g,j*2,none⟩ (.int .i64 x.1)).setCell ⟨g,j*2+1,none⟩ (.slice a5 m c5)) (.slice a1 k c1) k K I k)∧Hid (Cl outR 101 (w.heap.size+2) G w ((w5.setCell ⟨g,j*2,none⟩ (.int .i64 x.1)).setCell ⟨g,j*2+1,none⟩ (.slice a5 m c5)) (.slice (some ⟨g,0,none⟩) no c2) no (Ko.set j [.int .i64 x.1,.slice a5 m c5]) O (j+1))∧Hid (((w5.setCell ⟨g,j*2,none⟩ (.int .i64 x.1)).setCell ⟨g,j*2+1,none⟩ (.slice a5 m c5)).heap[w.heap.size]? = some (.cells [.int .i64 h,.slice a1 k c1,.slice (some ⟨g,0,none⟩) no c2].toArray 52 (0,0)))∧Hid (((w5.setCell ⟨g,j*2,none⟩ (.int .i64 x.1)).setCell ⟨g,j*2+1,none⟩ (.slice a5 m c5)).heap[w.heap.size+1]? = some (.cells [.int .i64 0,.slice none 0 0,.slice none 0 0].toArray 52 (0,0)))∧Hid (Below w.heap.size w ((w5.setCell ⟨g,j*2,none⟩ (.int .i64 x.1)).setCell ⟨g,j*2+1,none⟩ (.slice a5 m c5)))∧Hid (G≤((w5.setCell ⟨g,j*2,none⟩ (.int .i64 x.1)).setCell ⟨g,j*2+1,none⟩ (.slice a5 m c5)).heap.size)):=by
       intro w5 a5 c5 hb5 hf5
       have hGr:=Za HEG
       have hg5:=((Gr.refl w5 (fun q=>q=g)).one g (j*2) (.inl rfl) (.int .i64 x.1)).one g (j*2+1) (.inl rfl) (.slice a5 m c5)
       have hs5:=hb5.size
       refine⟨?_,Zcr (Za HD2) hlk hkK hx hb5 hf5 (Nat.le_trans hGr hbX1.size),?_,?_,?_,?_⟩
       ·exact ((Za HD1).keep hb5).gr hg5 (fun q e=>by omega) (fun q hq e=>Yy (Za HD2).own (Za HD1).own (by decide) q (by rw[e];rfl) hq)
       ·exact hg5.heap ((hb5.block _ (lt_of_block (Za HE0))).trans (Za HE0)) (by omega)
       ·exact hg5.heap ((hb5.block _ (lt_of_block (Za HE1))).trans (Za HE1)) (by omega)
       ·exact hg5.below (Ze (Za HEr) hb5) (by have:=lt_of_block (Za HE0);omega) (fun q e=>by omega)
       ·exact Nat.le_trans hGr (Nat.le_trans hs5 hg5.size)
      have FR:=Zb (fun j=>(Za HD2).free j)
      have hkI:(j:Int)<(no:Int):=by omega
      clear hop hsl hkl hx eK hbX1 hXX
      go_wp2_with fail
      rw[←hX1]
      clear hX1
      go_region_with (go_at_call 103;refine (Za CO).mono ?_;rintro e w5 ⟨a5,c5,rfl,hf5,hb5⟩;have hbw5:=Ze (Ze (Za HBX1) (Zi _)) hb5;have HN:=Zb ((Za NX) w5 a5 c5 hbw5 hf5);have q1:=Zc hb5 (Zc (Zi _) t2);have q2:=Zc hbw5 r0;have q22:=Zc hbw5 r1;have q3:w5.frozen? ⟨g,j*2,none⟩=false:=(World.frozen?_of_block (a:=⟨g,j*2,none⟩) (hbw5.block g hgl)).trans ((Za FR) _);have q33:w5.frozen? ⟨g,j*2+1,none⟩=false:=(World.frozen?_of_block (a:=⟨g,j*2+1,none⟩) (hbw5.block g hgl)).trans ((Za FR) _);have q4:=Nat.lt_of_lt_of_le hgl hbw5.size;have q5:=Nat.lt_of_lt_of_le (lt_of_block (Za HE0)) hbw5.size;clear hf5 hb5 hbw5)
      all_goals
       go_wp2
       go_roundw
       case rel=>
        obtain⟨f1,f2,f3,f4,f5,f6⟩:=Za HN
        exact⟨j+1,_,by omega,by go_num,f1,f2,f3,f4,f5,f6⟩
       case measure=>simp[intOf];omega
     ·have e:j=no:=by omega
      subst e
      have s0:=Zd (Za HE0) 0 _ rfl
      have s1:=Zd (Za HE0) 1 _ rfl
      have s2:=Zd (Za HE0) 2 _ rfl
      have sl:=lt_of_block (Za HE0)
      have y0:=Zd (Za HE1) 0 _ rfl
      have y1:=Zd (Za HE1) 1 _ rfl
      have y2:=Zd (Za HE1) 2 _ rfl
      have z0:=Zh (Za HE1) 0
      have z1:=Zh (Za HE1) 1
      have z2:=Zh (Za HE1) 2
      have yl:=lt_of_block (Za HE1)
      have R:Hid (Fresh (w.heap.size+2) wr (fun w2=>txR.C w2 [.int .i64 h,.slice a1 k c1,.slice a2 j c2] (h,I,O))):=by
       obtain⟨a',c',e1,h1⟩:=(Za HD1).rows hGw
       obtain⟨a'',c'',e2,h2⟩:=(Za HD2).rows hGw
       cases e1
       cases e2
       exact fun w2 g2=>⟨_,_,_,_,_,_,rfl,(h1 w2 g2).1,(h1 w2 g2).2,(h2 w2 g2).1,(h2 w2 g2).2⟩
      clear HD1 HD2
      go_wp2
      (try simp only[Exit.inBlock,Exit.then])
      have hG:=((Gr.refl wr (fun q=>q=w.heap.size+1)).one (w.heap.size+1) 0 (.inl rfl) (.int .i64 h)).one (w.heap.size+1) 1 (.inl rfl) (.slice a1 k c1) |>.one (w.heap.size+1) 2 (.inl rfl) (.slice a2 j c2)
      refine bodyPost_ret (v:=.agg #[.int .i64 h,.slice a1 k c1,.slice a2 j c2]) ?_ rfl ⟨a1,c1,a2,c2,rfl,((Za R).on (hG.mono fun q _ e=>by omega)).less (by omega),?_⟩
      ·rw[Yn rfl]
       go_simp
      ·exact hG.below (Za HEr) (by omega) (fun q e=>by omega)
def Ge(t:TxD):Prop:=t.2.1.length≤3518437208883∧t.2.2.length≤4398046511104∧(∀ x∈t.2.1,x.2.2.length≤8796093022208)∧∀ x∈t.2.2,x.2.length≤8796093022208
theorem Zep{G B w0s:Nat}{w0 wr w5:World}{g cap n k:Nat}{K:List (List Value)}{T:List TxD}{x:TxD}{u0 u1 u2:Value}(h:Cl txR 52 B G w0 wr (.slice (some ⟨g,0,none⟩) n cap) n K T k)(hk:k<T.length)(hkK:k<K.length)(hx:T[k]=x)(hb:Below wr.heap.size wr w5)(hf:Fresh w0s w5 (fun w2=>txR.C w2 [u0,u1,u2] x))(hG:G≤w0s) :
  Cl txR 52 B G w0 (((w5.setCell ⟨g,k*3,none⟩ u0).setCell ⟨g,k*3+1,none⟩ u1).setCell ⟨g,k*3+2,none⟩ u2) (.slice (some ⟨g,0,none⟩) n cap) n (K.set k [u0,u1,u2]) T (k+1):=by
 have h5:=h.keep hb
 refine h5.step hk ?_ ((((Gr.refl w5 (fun q=>q=g)).one g (k*3) (.inl rfl) _).one g (k*3+1) (.inl rfl) _).one g (k*3+2) (.inl rfl) _) ?_
 ·rw[hx]
  exact hf.less hG
 ·have h1:=(((h5.own.stored (k*3) u0).1.stored (k*3+1) u1).1.stored (k*3+2) u2).1
  rw[put3 h5.wid k hkK] at h1
  exact h1
theorem Zeb(at_:Option Addr)(m c:Nat)(T:List TxD)(w:World)(hT:TxsAt w at_ m T)(sT:SlOk at_ m c)(hm:m≤2513169434916)(hs:∀ t∈T,Ge t) :
  Calls Tryz.prog 131 #[.slice at_ m c] w fun e w'=>∃ a' c',e = .returned (.slice a' m c')∧Fresh w.heap.size w' (fun w2=>TxsAt w2 a' m T∧SlOk a' m c')∧Below w.heap.size w w':=by
 have HSM:=Zb hs
 have HZT:=Zb hT.1
 have C1:=Zb (Ff at_ m c T w w hm hT ⟨rfl,rfl,rfl,Nat.le_refl _,fun _ _=>rfl⟩ sT)
 clear hT sT hs
 go_enter Tryz.func131,Tryz.ntmps131
 go_wp2_with fail
 refine (Za C1).mono ?_
 rintro e w3 ⟨v,K1,rfl,hA,ho,hb3⟩
 obtain⟨a1,c1,rfl,_,_⟩:=Ym ho
 obtain⟨G,hG⟩:∃ G,w3.heap.size=G:=⟨_,rfl⟩
 have hGw:w.heap.size≤G:=by rw[←hG];exact hb3.size
 have ST1:Hid (Cl txR 52 w.heap.size G w w3 (.slice a1 m c1) m K1 T 0):=Cl.start ho hA (Za HZT) (Nat.le_of_eq hG)
 have HB:=Zb hb3
 have HGl:Hid (G≤w3.heap.size):=Nat.le_of_eq hG.symm
 clear hA ho hb3 hG C1
 go_wp2
 go_loopw [9] (fun i wr=>∃ (k:Nat) (K:List (List Value)),k≤m∧i = .int .i64 k∧Hid (Cl txR 52 w.heap.size G w wr (.slice a1 m c1) m K T k)∧Hid (Below w.heap.size w wr)∧Hid (G≤wr.heap.size)) (fun i _=>m - (intOf i).toNat)
 case atStart=>exact⟨0,K1,Nat.zero_le _,rfl,ST1,HB,HGl⟩
 case round=>
  obtain⟨k,K,hk,rfl,HC1,HBr,HGr⟩:=hrel
  clear ST1 HB HGl
  by_cases hlt:k<m
  ·have hlk:k<T.length:=by rw[Za HZT];exact hlt
   have hkK:k<K.length:=by rw[(Za HC1).len];exact hlk
   obtain⟨g,cap,ev,hgB,hgG,hgl⟩:=(Za HC1).form (by omega)
   cases ev
   obtain⟨ai,ni,ci,ao,no,co,eK,hI,sI,hO,sO⟩:=(Za HC1).old k hlk hkK (Nat.le_refl _)
   have hsm:=(Za HSM) _ (List.getElem_mem hlk)
   obtain⟨x,hx⟩:∃ x,T[k]=x:=⟨_,rfl⟩
   rw[hx] at eK hI hO hsm
   have r0:=(Za HC1).cell k hkK 0 (by decide)
   have r1:=(Za HC1).cell k hkK 1 (by decide)
   have r2:=(Za HC1).cell k hkK 2 (by decide)
   rw[eK] at r0 r1 r2
   have r0:wr.cell? ⟨g,k*3,none⟩=some (.int .i64 x.1):=r0
   have r1:wr.cell? ⟨g,k*3+1,none⟩=some (.slice ai ni ci):=r1
   have r2:wr.cell? ⟨g,k*3+2,none⟩=some (.slice ao no co):=r2
   obtain⟨X1,hX1⟩:∃ X1,X1=wr.alloc (.cells #[.int .i64 x.1,.slice ai ni ci,.slice ao no co] 52):=⟨_,rfl⟩
   have hbX1:Below wr.heap.size wr X1:=by rw[hX1];exact Zf _ _
   have hXX:X1.heap[wr.heap.size]? = some (.cells [.int .i64 x.1,.slice ai ni ci,.slice ao no co].toArray 52 (0,0)):=by rw[hX1];exact Zl _ _ _ _ _
   have b0:=Zd hXX 0 _ rfl
   have b1:=Zd hXX 1 _ rfl
   have b2:=Zd hXX 2 _ rfl
   have bl:=lt_of_block hXX
   have HBX1:=Zb hbX1
   have hbb:=Ze (Za HBr) hbX1
   have CO:=Zb (clTx_is x.1 ai ao ni ci no co x.2.1 x.2.2 X1 (hI.later hbb) (hO.later hbb) sI sO (by rw[←hI.1];exact hsm.1) (by rw[←hO.1];exact hsm.2.1) hsm.2.2.1 hsm.2.2.2)
   have NX:Hid (∀ w5 u0 u1 u2,Below wr.heap.size wr w5→Fresh X1.heap.size w5 (fun w2=>txR.C w2 [u0,u1,u2] x) →
     Hid (Cl txR 52 w.heap.size G w (((w5.setCell ⟨g,k*3,none⟩ u0).setCell ⟨g,k*3+1,none⟩ u1).setCell ⟨g,k*3+2,none⟩ u2) (.slice (some ⟨g,0,none⟩) m c1) m (K.set k [u0,u1,u2]) T (k+1))∧Hid (Below w.heap.size w (((w5.setCell ⟨g,k*3,none⟩ u0).setCell ⟨g,k*3+1,none⟩ u1).setCell ⟨g,k*3+2,none⟩ u2))∧Hid (G≤(((w5.setCell ⟨g,k*3,none⟩ u0).setCell ⟨g,k*3+1,none⟩ u1).setCell ⟨g,k*3+2,none⟩ u2).heap.size)):=by
    intro w5 u0 u1 u2 hb5 hf5
    have hGr:=Za HGr
    have hg5:=(((Gr.refl w5 (fun q=>q=g)).one g (k*3) (.inl rfl) u0).one g (k*3+1) (.inl rfl) u1).one g (k*3+2) (.inl rfl) u2
    have hs5:=hb5.size
    refine⟨Zep (Za HC1) hlk hkK hx hb5 hf5 (Nat.le_trans hGr hbX1.size),?_,?_⟩
    ·exact hg5.below (Ze (Za HBr) hb5) (by have:=(Za HBr).size;omega) (fun q e=>by omega)
    ·exact Nat.le_trans hGr (Nat.le_trans hs5 hg5.size)
   have FR:=Zb (fun j=>(Za HC1).free j)
   have hkI:(k:Int)<(m:Int):=by omega
   clear hI hO sI sO hsm hx eK hbX1 hXX hbb
   go_wp2_with fail
   rw[←hX1]
   clear hX1
   (try go_wp2_with fail)
   refine (Za CO).mono ?_
   rintro e w5 ⟨a5,c5,a6,c6,rfl,hf5,hb5⟩
   have hbw5:=Ze (Za HBX1) hb5
   have HN:=Zb ((Za NX) w5 _ _ _ hbw5 hf5)
   have s0:=Zc hbw5 r0
   have s1:=Zc hbw5 r1
   have s2:=Zc hbw5 r2
   have q3:w5.frozen? ⟨g,k*3,none⟩=false:=(World.frozen?_of_block (a:=⟨g,k*3,none⟩) (hbw5.block g hgl)).trans ((Za FR) _)
   have q33:w5.frozen? ⟨g,k*3+1,none⟩=false:=(World.frozen?_of_block (a:=⟨g,k*3+1,none⟩) (hbw5.block g hgl)).trans ((Za FR) _)
   have q34:w5.frozen? ⟨g,k*3+2,none⟩=false:=(World.frozen?_of_block (a:=⟨g,k*3+2,none⟩) (hbw5.block g hgl)).trans ((Za FR) _)
   have q4:=Nat.lt_of_lt_of_le hgl hbw5.size
   clear hf5 hb5 hbw5
   go_wp2
   go_roundw
   case rel=>
    obtain⟨f1,f5,f6⟩:=Za HN
    exact⟨k+1,_,by omega,by go_num,f1,f5,f6⟩
   case measure=>simp[intOf];omega
  ·have e:k=m:=by omega
   subst e
   have R:Hid (Fresh w.heap.size wr (fun w2=>TxsAt w2 a1 k T∧SlOk a1 k c1)):=by
    obtain⟨a',c',e1,h1⟩:=(Za HC1).rows hGw
    cases e1
    exact h1
   clear HC1
   go_wp2
   go_ret
   exact⟨a1,c1,rfl,Za R,Za HBr⟩
theorem Hp(p h k0 o:Int)(at_:Option Addr)(m c:Nat)(T:List TxD)(w:World)(hT:TxsAt w at_ m T)(sT:SlOk at_ m c)(hm:m≤2513169434916)(hs:∀ t∈T,Ge t) :
  Calls Tryz.prog 84 #[.agg #[.int .i64 p,.int .i64 h,.int .i64 k0,.int .i64 o,.slice at_ m c]] w fun e w'=>∃ a' c',e = .returned (.agg #[.int .i64 p,.int .i64 h,.int .i64 k0,.int .i64 o,.slice a' m c'])∧Fresh w.heap.size w' (fun w2=>blkR.C w2 [.int .i64 p,.int .i64 h,.int .i64 k0,.int .i64 o,.slice a' m c'] (p,h,k0,o,T))∧Below w.heap.size w w':=by
 obtain⟨X,hX⟩:∃ X,X=(w.alloc (.cells #[.int .i64 p,.int .i64 h,.int .i64 k0,.int .i64 o,.slice at_ m c] 68)).alloc (.cells #[.int .i64 0,.int .i64 0,.int .i64 0,.int .i64 0,.slice none 0 0] 68):=⟨_,rfl⟩
 have hbX:Below w.heap.size w X:=by rw[hX];exact Ze (Zf _ _) (Zf _ _)
 have hX0:X.heap[w.heap.size]? = some (.cells [.int .i64 p,.int .i64 h,.int .i64 k0,.int .i64 o,.slice at_ m c].toArray 68 (0,0)):=by
  rw[hX,Below.heap_alloc _ _ _ (by simp)];exact Xq _ _ _ _ _ _ _
 have hXs:X.heap.size=w.heap.size+2:=by rw[hX];simp
 have hX1:X.heap[w.heap.size+1]? = some (.cells [.int .i64 0,.int .i64 0,.int .i64 0,.int .i64 0,.slice none 0 0].toArray 68 (0,0)):=by
  rw[hX]
  have:=Xq (w.alloc (.cells #[.int .i64 p,.int .i64 h,.int .i64 k0,.int .i64 o,.slice at_ m c] 68)) (.int .i64 0) (.int .i64 0) (.int .i64 0) (.int .i64 0) (.slice none 0 0) 68
  rw[show (w.alloc (.cells #[.int .i64 p,.int .i64 h,.int .i64 k0,.int .i64 o,.slice at_ m c] 68)).heap.size=w.heap.size+1 by simp] at this
  exact this
 have HBX:=Zb hbX
 have HX0:=Zb hX0
 have HX1:=Zb hX1
 have HXs:=Zb hXs
 have C1:=Zb (Zeb at_ m c T X (hT.later hbX) sT hm hs)
 have x4:=Zd hX0 4 _ rfl
 have xl:=lt_of_block hX0
 clear hbX hX0 hX1 hT sT hs hXs
 go_enter Tryz.func84,Tryz.ntmps84
 go_wp2_with fail
 rw[←hX]
 clear hX
 (try go_wp2_with fail)
 refine (Za C1).mono ?_
 rintro e w3 ⟨a1,c1,rfl,hf3,hb3⟩
 have h30:=(hb3.block _ (lt_of_block (Za HX0))).trans (Za HX0)
 have h31:=(hb3.block _ (lt_of_block (Za HX1))).trans (Za HX1)
 have d4:=Zd h30 4 _ rfl
 have z9:=Zh h30 4
 have dl:=lt_of_block h30
 have s0:=Zd h30 0 _ rfl
 have s1:=Zd h30 1 _ rfl
 have s2:=Zd h30 2 _ rfl
 have s3:=Zd h30 3 _ rfl
 have y0:=Zd h31 0 _ rfl
 have y1:=Zd h31 1 _ rfl
 have y2:=Zd h31 2 _ rfl
 have y3:=Zd h31 3 _ rfl
 have y4:=Zd h31 4 _ rfl
 have z0:=Zh h31 0
 have z1:=Zh h31 1
 have z2:=Zh h31 2
 have z3:=Zh h31 3
 have z4:=Zh h31 4
 have yl:=lt_of_block h31
 have HB3:=Zb (Ze (Za HBX) hb3)
 have HF:=Zb hf3
 clear hf3 hb3 h30 h31 C1 HX0 HX1 HBX x4 xl
 go_wp2
 (try simp only[Exit.inBlock,Exit.then])
 have hG:=((((((Gr.refl w3 (fun q=>q=w.heap.size∨q=w.heap.size+1)).one w.heap.size 4 (.inl (.inl rfl)) (.slice a1 m c1)).one (w.heap.size+1) 0 (.inl (.inr rfl)) (.int .i64 p)).one (w.heap.size+1) 1 (.inl (.inr rfl)) (.int .i64 h)).one (w.heap.size+1) 2 (.inl (.inr rfl)) (.int .i64 k0)).one (w.heap.size+1) 3 (.inl (.inr rfl)) (.int .i64 o)).one (w.heap.size+1) 4 (.inl (.inr rfl)) (.slice a1 m c1)
 refine bodyPost_ret (v:=.agg #[.int .i64 p,.int .i64 h,.int .i64 k0,.int .i64 o,.slice a1 m c1]) ?_ rfl ⟨a1,c1,rfl,?_,?_⟩
 ·rw[Yn rfl]
  go_simp
 ·refine ((Fresh.imp (Za HF) fun w2 h=>⟨_,_,_,rfl,h.1,h.2⟩).on (hG.mono fun q _ e=>by have:=Za HXs;omega)).less (by have:=Za HXs;omega)
 ·exact hG.below (Za HB3) (by omega) (fun q e=>by omega)
end Go.Proofs.YtpikejjiignchaaGreatDoor.Tr
