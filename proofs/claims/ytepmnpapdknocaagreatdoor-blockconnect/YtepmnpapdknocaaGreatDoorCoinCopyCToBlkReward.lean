/- The contract of clone.Coins. -/
import Derived.Test.YtepmnpapdknocaaGreatDoorBookRefAToCoinCopyB
import Derived.Test.YtepmnpapdknocaaGreatDoorCoinCheckBToCoinInsert
import Derived.Test.YtepmnpapdknocaaGreatDoorCoinTakeToBlkHead
set_option maxHeartbeats 6400000
set_option maxRecDepth 10000
namespace Go.Proofs.YtepmnpapdknocaaGreatDoor
open Go.RowKit
def LkIn(w:World)(s:Nat)(x:CV):Prop:=LkAt w x∧∀ ad,x.2.1=some ad→s≤ad.block
theorem LkIn.later{w w':World}{s:Nat}{x:CV}(h:LkIn w s x)(hb:Below w.heap.size w w'):LkIn w' s x:=⟨h.1.later hb,h.2⟩
def Zer(B:Nat)(w:World)(Q:World→Prop):Prop:=∀ w2,Gr w w2 (fun k=>k<B)→Q w2
theorem Gp{w:World}{base:Nat}{e:TypeId}{size:Nat}{v:Value}{n:Nat}{xs:List Value}(h:w.ownsRow base e size v n xs):∃ a c,v = .slice a n c∧SlOk a n c∧(0<n→∃ g,a=some ⟨g,0,none⟩∧base≤g∧g<w.heap.size):=by
 rcases h.2 with ⟨rfl,rfl⟩|⟨g,cap,cur,rfl,hg,hh,h1,h2,h3,h4⟩
 ·exact⟨none,0,rfl,⟨Nat.le_refl _,Nat.zero_le _,fun _=>⟨rfl,rfl⟩⟩,fun h=>absurd h (by omega)⟩
 ·exact⟨_,cap,rfl,⟨h1,h2,fun e=>by cases e⟩,fun _=>⟨g,rfl,hg,lt_of_block hh⟩⟩
theorem Qr(a:Option Addr)(n c:Nat)(L:List Zb)(w:World)(hn:n≤4096)(h:CoinsAt w a n L)(hsl:SlOk a n c)(hk:∀ x∈L,(ck x).length≤4096) :
  Calls Tryz.prog 73 #[.slice a n c] w fun e w'=>∃ a' c',e = .returned (.slice a' n c')∧Zer w.heap.size w' (fun w2=>CoinsAt w2 a' n L)∧SlOk a' n c'∧Below w.heap.size w w':=by
 have C1:=hide (J0 a n c L w hn h hsl)
 have HZ:=hide h.1
 have HK:=hide hk
 clear h hk hsl
 go_enter Tryz.func73,Tryz.ntmps73
 go_wp2_with fail
 refine (unhide C1).mono ?_
 rintro e w2 ⟨v,K,rfl,hK,hlk,hown,hb2⟩
 have hKn:K.length=n:=by rw[←unhide HZ,←hK,List.length_map]
 rw[hKn] at hown
 obtain⟨a1,c1,rfl,hs1,hg1⟩:=Gp hown
 obtain⟨G,hG⟩:∃ G,w2.heap.size=G:=⟨_,rfl⟩
 rw[hG] at hg1
 have HG1:=hide hg1
 have HS1:=hide hs1
 have HKK:=hide hK
 have HKL:=hide hKn
 have HLK:=hide hlk
 have ST:Hid (w2.ownsRow w.heap.size 88 6 (.slice a1 n c1) n (Ze ([]++K.drop 0))):=hown
 have HB2:=hide hb2
 have HGl:Hid (G≤w2.heap.size):=Nat.le_of_eq hG.symm
 have HwG:Hid (w.heap.size≤G):=by rw[←hG];exact hb2.size
 clear hown hb2 hK hlk hs1 hg1 C1 hG hKn
 go_wp2_with fail
 go_loopw [9] (fun i wr=>∃ (k:Nat) (T:List CV),k≤n∧i = .int .i64 k∧Hid (T.map (·.1)=L.take k)∧Hid (T.length=k)∧Hid (wr.ownsRow w.heap.size 88 6 (.slice a1 n c1) n (Ze (T++K.drop k)))∧Hid (∀ z∈T,LkIn wr G z)∧Hid (Below w.heap.size w wr)∧Hid (G≤wr.heap.size)) (fun i _=>n - (intOf i).toNat)
 case atStart=>exact⟨0,[],Nat.zero_le _,rfl,rfl,rfl,ST,(fun z hz=>(by cases hz):∀ z∈([]:List CV),LkIn w2 G z),HB2,HGl⟩
 case round=>
  obtain⟨k,T,hk,rfl,HT,HTl,HO,HLk,HB,HGr⟩:=hrel
  clear ST HB2 HGl
  by_cases hlt:k<n
  ·have hlk:k<L.length:=by rw[unhide HZ];exact hlt
   have hkK:k<K.length:=by rw[unhide HKL];exact hlt
   obtain⟨g,rfl,hgw,hgG⟩:=(unhide HG1) (by omega)
   have hKx:(K[k]).1=L[k]:=by
    have:=unhide HKK
    subst this
    rw[List.getElem_map]
   have hkl:=(unhide HK) _ (List.getElem_mem hlk)
   have hLK:=((unhide HLK) _ (List.getElem_mem hkK)).later (unhide HB)
   have HTK:Hid (L.take (k+1)=L.take k++[L[k]]):=List.take_succ_eq_append_getElem hlk
   have HR':Hid (T++K.drop k=T++K[k] :: K.drop (k+1)):=by
    show _=_
    rw[List.drop_eq_getElem_cons hkK]
   obtain⟨z,hz⟩:∃ z,K[k]=z:=⟨_,rfl⟩
   rw[hz] at hKx HR' hLK
   rw[←hKx] at HTK hkl
   obtain⟨x,la,ln,lc⟩:=z
   simp only at HTK hkl
   obtain⟨hO4,hs4⟩:=hLK
   simp only at hO4 hs4
   have hln:ln≤4096:=by rw[←hO4.1];exact hkl
   have hTk:=unhide HTl
   have hOr:=unhide HO
   rw[unhide HR'] at hOr
   have har:∀ j,j<6→wr.cell? ⟨g,k*6+j,none⟩=(N8 (x,la,ln,lc))[j]?:=fun j hj=>by
    rw[World.ownsRow.cellAt hOr _ (by omega),←hTk,Qp _ _ _ j hj]
   have g0:wr.cell? ⟨g,k*6,none⟩=some (.int .i64 x.1):=(har 0 (by decide)).trans rfl
   have g1:wr.cell? ⟨g,k*6+1,none⟩=some (.int .i64 x.2.1):=(har 1 (by decide)).trans rfl
   have g2:wr.cell? ⟨g,k*6+2,none⟩=some (.int .i64 (cv x)):=(har 2 (by decide)).trans rfl
   have g3:wr.cell? ⟨g,k*6+3,none⟩=some (.slice la ln lc):=(har 3 (by decide)).trans rfl
   have g4:wr.cell? ⟨g,k*6+4,none⟩=some (.int .i64 (ch x)):=(har 4 (by decide)).trans rfl
   have g5:wr.cell? ⟨g,k*6+5,none⟩=some (.bool (cr x)):=(har 5 (by decide)).trans rfl
   obtain⟨X,hX⟩:∃ X,X=wr.alloc (.cells #[.int .i64 x.1,.int .i64 x.2.1,.int .i64 (cv x),.slice la ln lc,.int .i64 (ch x),.bool (cr x)] 88):=⟨_,rfl⟩
   have hbX:Below wr.heap.size wr X:=by rw[hX];exact bel_new _ _
   have C:=Fv x la ln lc X hln (hO4.later hbX) hs4
   unfold cnV at C
   have HC:=hide C
   have HBX:=hide hbX
   have hkI:(k:Int)<(n:Int):=by omega
   have HOr:=hide hOr
   clear C hbX hO4 hs4 hkl hOr har hKx hz
   go_wp2_with fail
   rw[←hX]
   clear hX g0 g1 g2 g3 g4 g5
   refine (unhide HC).mono ?_
   rintro e w5 ⟨a5,c5,rfl,ho5,hs5,hba5,hb5⟩
   have hbw5:=bel_on (unhide HBX) hb5
   have hO5:=(Gr.of (S:=fun _=>False) hbw5).own (unhide HOr) (fun _ _ q=>q)
   have hat:∀ j,j<6→w5.cell? ⟨g,k*6+j,none⟩=(N8 (x,la,ln,lc))[j]?:=fun j hj=>by
    rw[World.ownsRow.cellAt hO5 _ (by omega),←hTk,Qp _ _ _ j hj]
   have t0:w5.cell? ⟨g,k*6,none⟩=some (.int .i64 x.1):=(hat 0 (by decide)).trans rfl
   have t1:w5.cell? ⟨g,k*6+1,none⟩=some (.int .i64 x.2.1):=(hat 1 (by decide)).trans rfl
   have t2:w5.cell? ⟨g,k*6+2,none⟩=some (.int .i64 (cv x)):=(hat 2 (by decide)).trans rfl
   have t3:w5.cell? ⟨g,k*6+3,none⟩=some (.slice la ln lc):=(hat 3 (by decide)).trans rfl
   have t4:w5.cell? ⟨g,k*6+4,none⟩=some (.int .i64 (ch x)):=(hat 4 (by decide)).trans rfl
   have t5:w5.cell? ⟨g,k*6+5,none⟩=some (.bool (cr x)):=(hat 5 (by decide)).trans rfl
   have z0:=hO5.frozenAt (k*6)
   have z1:=hO5.frozenAt (k*6+1)
   have z2:=hO5.frozenAt (k*6+2)
   have z3:=hO5.frozenAt (k*6+3)
   have z4:=hO5.frozenAt (k*6+4)
   have z5:=hO5.frozenAt (k*6+5)
   have hsl5:g<w5.heap.size:=(hO5.lt _ rfl).2
   have TAIL:Hid (∃ T':List CV,Hid (T'.map (·.1)=L.take (k+1))∧Hid (T'.length=k+1)∧Hid (((((((w5.setCell ⟨g,k*6,none⟩ (.int .i64 x.1)).setCell ⟨g,k*6+1,none⟩ (.int .i64 x.2.1)).setCell ⟨g,k*6+2,none⟩ (.int .i64 (cv x))).setCell ⟨g,k*6+3,none⟩ (.slice a5 ln c5)).setCell ⟨g,k*6+4,none⟩ (.int .i64 (ch x))).setCell ⟨g,k*6+5,none⟩ (.bool (cr x))).ownsRow w.heap.size 88 6 (.slice (some ⟨g,0,none⟩) n c1) n (Ze (T'++K.drop (k+1)))) ∧
     Hid (∀ z∈T',LkIn ((((((w5.setCell ⟨g,k*6,none⟩ (.int .i64 x.1)).setCell ⟨g,k*6+1,none⟩ (.int .i64 x.2.1)).setCell ⟨g,k*6+2,none⟩ (.int .i64 (cv x))).setCell ⟨g,k*6+3,none⟩ (.slice a5 ln c5)).setCell ⟨g,k*6+4,none⟩ (.int .i64 (ch x))).setCell ⟨g,k*6+5,none⟩ (.bool (cr x))) G z) ∧
     Hid (Below w.heap.size w ((((((w5.setCell ⟨g,k*6,none⟩ (.int .i64 x.1)).setCell ⟨g,k*6+1,none⟩ (.int .i64 x.2.1)).setCell ⟨g,k*6+2,none⟩ (.int .i64 (cv x))).setCell ⟨g,k*6+3,none⟩ (.slice a5 ln c5)).setCell ⟨g,k*6+4,none⟩ (.int .i64 (ch x))).setCell ⟨g,k*6+5,none⟩ (.bool (cr x)))) ∧
     Hid (G≤((((((w5.setCell ⟨g,k*6,none⟩ (.int .i64 x.1)).setCell ⟨g,k*6+1,none⟩ (.int .i64 x.2.1)).setCell ⟨g,k*6+2,none⟩ (.int .i64 (cv x))).setCell ⟨g,k*6+3,none⟩ (.slice a5 ln c5)).setCell ⟨g,k*6+4,none⟩ (.int .i64 (ch x))).setCell ⟨g,k*6+5,none⟩ (.bool (cr x))).heap.size)):=by
    have hG:=(Gr.refl w5 (fun q=>q=g)).sixAt g (k*6) (.inl rfl) (.int .i64 x.1) (.int .i64 x.2.1) (.int .i64 (cv x)) (.slice a5 ln c5) (.int .i64 (ch x)) (.bool (cr x))
    have hO6:=Cd hO5 (k*6) (.int .i64 x.1) (.int .i64 x.2.1) (.int .i64 (cv x)) (.slice a5 ln c5) (.int .i64 (ch x)) (.bool (cr x))
    have hset:=Jw T (K.drop (k+1)) (x,la,ln,lc) (x,a5,ln,c5)
    rw[hTk] at hset
    simp only at hset
    rw[hset] at hO6
    have hXs:wr.heap.size≤X.heap.size:=(unhide HBX).size
    have hGr:=unhide HGr
    have hs5':=hbw5.size
    have hs6:=hG.size
    refine⟨T++[(x,a5,ln,c5)],?_,?_,?_,?_,?_,?_⟩
    ·show _=_;rw[List.map_append,unhide HT,unhide HTK];rfl
    ·show _=_;rw[List.length_append,hTk];rfl
    ·show World.ownsRow _ _ _ _ _ _ _
     rw[List.append_assoc]
     exact hO6
    ·intro z hz
     rcases List.mem_append.1 hz with hz|hz
     ·have h1:=((unhide HLk) z hz).later hbw5
      exact⟨⟨h1.1.1.gr hG (fun ad e q=>by have:=h1.2 ad e;omega),h1.1.2⟩,h1.2⟩
     ·rw[List.mem_singleton.1 hz]
      have h3:∀ ad,a5=some ad→G≤ad.block:=fun ad e=>by have:=hba5 ad e;omega
      exact⟨⟨ho5.gr hG (fun ad e q=>by have:=h3 ad e;omega),hs5⟩,h3⟩
    ·exact hG.below (bel_on (unhide HB) hbw5) (by have:=unhide HwG;omega) (fun q hq=>by omega)
    ·show _≤_;omega
   clear ho5 hs5 hba5 hb5 hbw5 hO5 hat HC HOr
   go_wp2
   go_roundw
   case rel=>
    obtain⟨T',f1,f2,f3,f4,f5,f6⟩:=unhide TAIL
    exact⟨k+1,T',by omega,by go_num,f1,f2,f3,f4,f5,f6⟩
   case measure=>simp[intOf];omega
  ·have e:k=n:=by omega
   subst e
   have HR:Hid (Zer w.heap.size wr (fun w2=>CoinsAt w2 a1 k L)∧SlOk a1 k c1):=by
    have h1:=unhide HO
    have hKL:=unhide HKL
    rw[List.drop_of_length_le (by omega),List.append_nil,←unhide HTl] at h1
    have hF:Zer w.heap.size wr (fun w2=>CoinsAt w2 a1 k L):=fun w2 hG=>by
     have h2:=hG.own h1 (fun q hq=>by have:=(h1.lt q hq).1;omega)
     obtain⟨a',c',e,h3,_⟩:=Zm h2 (fun z hz=>⟨((unhide HLk) z hz).1.1.gr hG (fun ad e q=>by have:=((unhide HLk) z hz).2 ad e;have:=unhide HwG;omega),((unhide HLk) z hz).1.2⟩)
     cases e
     rw[unhide HT,List.take_of_length_le (by rw[unhide HZ];exact Nat.le_refl _)] at h3
     rw[unhide HTl] at h3
     exact h3
    exact⟨hF,unhide HS1⟩
   clear HO HT HTl HLk HG1
   go_wp2
   go_ret
   obtain⟨h1,h2⟩:=unhide HR
   exact⟨_,_,rfl,h1,h2,unhide HB⟩
def Ns(m i:Nat):Value:=.int .i64 (((i+1) % m:Nat):Int)
theorem Nr(m:Nat)(w:World)(h0:0<m)(hm:m≤4) :
  Calls Tryz.prog 28 #[.int .i64 m] w fun e w'=>e = .returned (.slice (some ⟨w.heap.size,0,none⟩) m m)∧FillV w.heap.size 3 m (Ns m) w w' m:=by
 obtain⟨i0,hi,hz0,hz1,hz2⟩:=info_parts Tryz.infoInt
 go_enter Tryz.func28,Tryz.ntmps28
 go_wp2_with (at_make;refine wpList_make_full _ rfl _ _ 30 rfl w.heap.size 3 i0 (.int .i64 0) 1 Tryz.underlying30 hi hz0 hz1 .i64 .i64 _ _ m rfl rfl rfl rfl (by rw[hz2];omega) (by unfold maxLen;omega) (Nat.le_refl _) ?_;intro w2 hown2 hgrow2)
 have hst:FillV w.heap.size 3 m (Ns m) w w2 0:=⟨⟨_,hown2,fun j hj=>absurd hj (by omega)⟩,(Below.refl _ _).grown hgrow2 (Nat.le_refl _) (fun k h=>by cases h)⟩
 have HST:=hide hst
 clear hst hown2 hgrow2
 go_loopw [8] (fun i wr=>∃ k:Nat,k≤m∧i = .int .i64 k∧FillV w.heap.size 3 m (Ns m) w wr k) (fun i _=>m - (intOf i).toNat)
 case atStart=>exact⟨0,Nat.zero_le _,rfl,unhide HST⟩
 case round=>
  obtain⟨k,hk,rfl,hfl⟩:=hrel
  have HF:=hide hfl
  by_cases hlt:k<m
  ·obtain⟨v,hold⟩:=hfl.old hlt
   have hfree:=hfl.free k
   have hl3:=hfl.lt
   have hne:(m:Int)≠0:=by omega
   have hmod:((k:Int)+1).tmod (m:Int)=(((k+1) % m:Nat):Int):=by
    rw[show ((k:Int)+1)=((k+1:Nat):Int) by omega]
    rfl
   have hlm:(k+1) % m<m:=Nat.mod_lt _ h0
   obtain⟨q,hq⟩:∃ q,(k+1) % m=q:=⟨_,rfl⟩
   rw[hq] at hmod hlm
   have HQ:=hide hq
   clear hfl hq
   go_wp2
   go_roundw
   case rel=>
    refine⟨k+1,by omega,by go_num,(unhide HF).step hlt ?_⟩
    unfold Ns
    rw[unhide HQ]
   case measure=>simp[intOf];omega
  ·clear hfl
   have e:k=m:=by omega
   subst e
   clear hk hlt
   go_wp2
   go_ret
   exact⟨rfl,unhide HF⟩
def rwN:Nat→Nat
 | 0=>64
 | n+1=>rwN n / 2
theorem Tk:∀ n,rwN n≤64
 | 0=>Nat.le_refl _
 | n+1=>by
  have:=Tk n
  unfold rwN
  omega
def rwD(h:Int):Int×Int:=if (decide (1≤h) && decide (h≤1000))=true then ((rwN ((h - 1).toNat / 8):Nat),0) else (0,3)
theorem Es(h r x:Int)(w:World)(hx:rwD h=(r,x)) :
  Calls Tryz.prog 23 #[.int .i64 h] w fun e w'=>e = .returned (.tuple #[.int .i64 r,.int .i64 x])∧Below w.heap.size w w':=by
 unfold rwD at hx
 cases q:(decide ((1:Int)≤h) && decide (h≤1000)) with
 | false=>
  rw[q,if_neg (by decide)] at hx
  injection hx with e1 e2
  subst e1 e2
  have CC:=hide (Y4 h 1 1000 false w q)
  clear q
  go_enter Tryz.func23,Tryz.ntmps23
  go_wp2_with fail
  refine (unhide CC).mono ?_
  rintro e w1 ⟨rfl,hb1⟩
  have HB:=hide hb1
  clear hb1
  go_wp2
  go_ret2
  exact⟨rfl,unhide HB⟩
 | true=>
  rw[q,if_pos rfl] at hx
  injection hx with e1 e2
  subst e2
  have CC:=hide (Y4 h 1 1000 true w q)
  rw[Bool.and_eq_true,decide_eq_true_eq,decide_eq_true_eq] at q
  obtain⟨k,rfl⟩:∃ k:Nat,h=(k:Int)+1:=⟨(h - 1).toNat,by omega⟩
  have hk:k<1000:=by omega
  rw[show (((k:Int)+1 - 1).toNat)=k by omega] at e1
  obtain⟨n,hn⟩:∃ n,k / 8=n:=⟨_,rfl⟩
  have hq:((k:Int)).tdiv 8=(n:Int):=by rw[←hn];rfl
  have hn2:n≤125:=by omega
  rw[hn] at e1
  have HR:=hide e1
  clear q e1 hn
  go_enter Tryz.func23,Tryz.ntmps23
  go_wp2_with fail
  refine (unhide CC).mono ?_
  rintro e w1 ⟨rfl,hb1⟩
  have HB:=hide hb1
  clear hb1
  go_wp2
  go_loopw [4,11] (fun v i wr=>∃ j:Nat,j≤n∧v = .int .i64 (rwN j:Nat)∧i = .int .i64 j∧Hid (Below w.heap.size w wr)) (fun _ i _=>n - (intOf i).toNat)
  case atStart=>exact⟨0,Nat.zero_le _,rfl,rfl,HB⟩
  case round=>
   obtain⟨j,hj,rfl,rfl,HBr⟩:=hrel
   have hle:=Tk j
   by_cases hlt:j<n
   ·have hd:((rwN j:Nat):Int).tdiv 2=((rwN (j+1):Nat):Int):=rfl
    have hle2:=Tk (j+1)
    obtain⟨a,ha⟩:∃ a,rwN j=a:=⟨_,rfl⟩
    obtain⟨b,hb⟩:∃ b,rwN (j+1)=b:=⟨_,rfl⟩
    rw[ha,hb] at hd
    rw[ha] at hle
    rw[hb] at hle2
    rw[ha]
    have HBB:=hide hb
    clear ha hb
    go_wp2
    go_roundw
    case rel=>exact⟨j+1,by omega,by rw[unhide HBB],by go_num,HBr⟩
    case measure=>simp[intOf];omega
   ·have e:j=n:=by omega
    subst e
    go_wp2
    go_ret2
    exact⟨by rw[unhide HR];rfl,unhide HBr⟩
end Go.Proofs.YtepmnpapdknocaaGreatDoor
