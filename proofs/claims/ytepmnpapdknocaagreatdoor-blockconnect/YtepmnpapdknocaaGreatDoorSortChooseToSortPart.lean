/- The contract of choosePivot_func: a place within the range, one of three hints. -/
import Derived.Test.YtepmnpapdknocaaGreatDoorRefPlaceToSortPivot
set_option maxHeartbeats 12800000
set_option maxRecDepth 10000
namespace Go.Proofs.YtepmnpapdknocaaGreatDoor
open Go.RowKit
theorem Zbc{α : Type}[Inhabited α]{g:Nat}{lb:Array Value}{sf:Nat}{sb:Array Value}{lt : α → α→Bool}{n B:Nat}{St:World→Array α→Prop}(H:Sr Tryz.prog g lb sf sb lt n B St)
  (a b:Nat) (d:Array α) (w:World) (h:St w d) (hab:a+13≤b) (hb:b≤n) :
  Calls Tryz.prog 202 #[lsV g lb sf sb,.int .i64 a,.int .i64 b] w fun e w'=>∃ x t:Nat,e = .returned (.tuple #[.int .i64 x,.int .i64 t])∧a≤x∧x<b∧t≤2∧St w' d∧Kp B w w':=by
 unfold lsV
 have hn:=H.small
 have hlow:=H.low _ _ h
 obtain⟨l,hl⟩:∃ l:Nat,l=b - a:=⟨_,rfl⟩
 have hlI:(b:Int) - (a:Int)=(l:Int):=by omega
 obtain⟨q,hq⟩:∃ q:Nat,q=l / 4:=⟨_,rfl⟩
 have hqI:(l:Int) / 4=(q:Int):=by omega
 have hqT:(l:Int).tdiv 4=(q:Int):=by rw[Int.tdiv_eq_ediv_of_nonneg (by omega)];exact hqI
 have hq4:4*q≤l:=by omega
 have hq4':l<4*q+4:=by omega
 have hlb:a+l=b:=by omega
 have hl13:13≤l:=by omega
 clear hq hl
 obtain⟨N0,N1⟩:=Wx w (.func (.func g) #[] lb) (.func (.func sf) #[] sb) 230
 have SX:=H.alloc _ d (.cells #[.int .i64 0] 3) (H.alloc w d (.cells #[.func (.func g) #[] lb,.func (.func sf) #[] sb] 230) h)
 have KX:=Kp.trans (Kp.alloc B w (.cells #[.func (.func g) #[] lb,.func (.func sf) #[] sb] 230)) (Kp.alloc B _ (.cells #[.int .i64 0] 3))
 have KY:=Kp.alloc B (w.alloc (.cells #[.func (.func g) #[] lb,.func (.func sf) #[] sb] 230)) (.cells #[.int .i64 0] 3)
 have m0:=KY.cell hlow N0
 have m1:=KY.cell hlow N1
 have hqs:(w.alloc (.cells #[.func (.func g) #[] lb,.func (.func sf) #[] sb] 230)).heap.size=w.heap.size+1:=by simp
 have hct:Ctr ((w.alloc (.cells #[.func (.func g) #[] lb,.func (.func sf) #[] sb] 230)).alloc (.cells #[.int .i64 0] 3)) (w.heap.size+1) 0:=by
  rw[←hqs]
  exact⟨by rw[World.cell?_alloc_at _ _ _ _ rfl];rfl,World.frozen?_alloc_at _ _ _ _ rfl⟩
 have hz0:=World.block_lt_of_cell? _ _ hct.1
 have hi:(a:Int)+(q:Int)=((a+q:Nat):Int):=by omega
 have hj:(a:Int)+(q:Int)*2=((a+q*2:Nat):Int):=by omega
 have hk:(a:Int)+(q:Int)*3=((a+q*3:Nat):Int):=by omega
 obtain⟨i,hi'⟩:∃ i:Nat,i=a+q:=⟨_,rfl⟩
 obtain⟨j,hj'⟩:∃ j:Nat,j=a+q*2:=⟨_,rfl⟩
 obtain⟨k,hk'⟩:∃ k:Nat,k=a+q*3:=⟨_,rfl⟩
 rw[←hi'] at hi
 rw[←hj'] at hj
 rw[←hk'] at hk
 have hib:a+3≤i∧i<j∧j<k∧k<b:=by omega
 have HH:=hide H
 have KH:=hide KX
 have M0:=hide m0
 have M1:=hide m1
 have HS:=hide SX
 have HC:=hide hct
 clear H h SX KX KY N0 N1 hct hi' hj' hk' hqs
 have A0:=M0
 have B0:=M1
 have HK0:=hide (Kq.refl B (w.heap.size+1) ((w.alloc (.cells #[.func (.func g) #[] lb,.func (.func sf) #[] sb] 230)).alloc (.cells #[.int .i64 0] 3)))
 have h8I:(8:Int)≤(l:Int):=by omega
 by_cases h50:50≤l
 ·have h50I:(50:Int)≤(l:Int):=by omega
  have C1:=hide (Tp (unhide HH) i (w.heap.size+1) 0 d _ (unhide HS) (by omega) (by omega) (by omega) (by omega) (unhide HC))
  unfold lsV at C1
  go_enter Tryz.func202,Tryz.ntmps202
  go_wp2_with fail
  refine (unhide C1).mono ?_
  rintro e w1 ⟨x1,s1,rfl,hx1,hs1,hc1,hS1,hK1⟩
  have ca1:=hK1.cell (p:=⟨w.heap.size,0,none⟩) hlow (by show w.heap.size≠w.heap.size+1;omega) (unhide A0)
  have cb1:=hK1.cell (p:=⟨w.heap.size,1,none⟩) hlow (by show w.heap.size≠w.heap.size+1;omega) (unhide B0)
  have cz1:=World.block_lt_of_cell? _ _ ca1
  have A1:=hide ca1
  have B1:=hide cb1
  have HK1:=hide (Kq.trans (unhide HK0) hK1)
  have HS1:=hide hS1
  have HC1:=hide hc1
  clear hK1 hS1 hc1 C1
  have C2:=hide (Tp (unhide HH) j (w.heap.size+1) s1 d _ (unhide HS1) (by omega) (by omega) (by omega) (by omega) (unhide HC1))
  unfold lsV at C2
  go_wp2_with fail
  refine (unhide C2).mono ?_
  rintro e w2 ⟨x2,s2,rfl,hx2,hs2,hc2,hS2,hK2⟩
  have ca2:=hK2.cell (p:=⟨w.heap.size,0,none⟩) hlow (by show w.heap.size≠w.heap.size+1;omega) (unhide A1)
  have cb2:=hK2.cell (p:=⟨w.heap.size,1,none⟩) hlow (by show w.heap.size≠w.heap.size+1;omega) (unhide B1)
  have cz2:=World.block_lt_of_cell? _ _ ca2
  have A2:=hide ca2
  have B2:=hide cb2
  have HK2:=hide (Kq.trans (unhide HK1) hK2)
  have HS2:=hide hS2
  have HC2:=hide hc2
  clear hK2 hS2 hc2 C2
  have C3:=hide (Tp (unhide HH) k (w.heap.size+1) s2 d _ (unhide HS2) (by omega) (by omega) (by omega) (by omega) (unhide HC2))
  unfold lsV at C3
  go_wp2_with fail
  refine (unhide C3).mono ?_
  rintro e w3 ⟨x3,s3,rfl,hx3,hs3,hc3,hS3,hK3⟩
  have ca3:=hK3.cell (p:=⟨w.heap.size,0,none⟩) hlow (by show w.heap.size≠w.heap.size+1;omega) (unhide A2)
  have cb3:=hK3.cell (p:=⟨w.heap.size,1,none⟩) hlow (by show w.heap.size≠w.heap.size+1;omega) (unhide B2)
  have cz3:=World.block_lt_of_cell? _ _ ca3
  have A3:=hide ca3
  have B3:=hide cb3
  have HK3:=hide (Kq.trans (unhide HK2) hK3)
  have HS3:=hide hS3
  have HC3:=hide hc3
  clear hK3 hS3 hc3 C3
  have C4:=hide (To (unhide HH) x1 x2 x3 (w.heap.size+1) s3 d _ (unhide HS3) (by omega) (by omega) (by omega) (by omega) (by omega) (unhide HC3))
  unfold lsV at C4
  go_wp2_with fail
  refine (unhide C4).mono ?_
  rintro e w4 ⟨x4,s4,rfl,hx4,hs4,hc4,hS4,hK4⟩
  have ca4:=hK4.cell (p:=⟨w.heap.size,0,none⟩) hlow (by show w.heap.size≠w.heap.size+1;omega) (unhide A3)
  have cb4:=hK4.cell (p:=⟨w.heap.size,1,none⟩) hlow (by show w.heap.size≠w.heap.size+1;omega) (unhide B3)
  have cz4:=World.block_lt_of_cell? _ _ ca4
  have A4:=hide ca4
  have B4:=hide cb4
  have HK4:=hide (Kq.trans (unhide HK3) hK4)
  have HS4:=hide hS4
  have HC4:=hide hc4
  clear hK4 hS4 hc4 C4
  obtain⟨ct,cf⟩:=unhide HC4
  have ctz:=World.block_lt_of_cell? _ _ ct
  have END:=hide (Kq.all (unhide KH) (unhide HK4) (by omega))
  by_cases e0:s4=0
  ·subst e0
   go_wp2
   go_ret2
   exact⟨x4,1,rfl,by omega,by omega,by omega,unhide HS4,unhide END⟩
  ·have e0I:¬((s4:Nat):Int)=0:=by omega
   have e0B:(((s4:Nat):Int) == 0)=false:=by simp[e0]
   by_cases e12:s4=12
   ·subst e12
    go_wp2
    go_ret2
    exact⟨x4,2,rfl,by omega,by omega,by omega,unhide HS4,unhide END⟩
   ·have e12I:¬((s4:Nat):Int)=12:=by omega
    have e12B:(((s4:Nat):Int) == 12)=false:=by simp;omega
    go_wp2
    go_ret2
    exact⟨x4,0,rfl,by omega,by omega,by omega,unhide HS4,unhide END⟩
 ·have h50I:¬(50:Int)≤(l:Int):=by omega
  have C1:=hide (To (unhide HH) i j k (w.heap.size+1) 0 d _ (unhide HS) (by omega) (by omega) (by omega) (by omega) (by omega) (unhide HC))
  unfold lsV at C1
  go_enter Tryz.func202,Tryz.ntmps202
  go_wp2_with fail
  refine (unhide C1).mono ?_
  rintro e w1 ⟨x1,s1,rfl,hx1,hs1,hc1,hS1,hK1⟩
  have ca1:=hK1.cell (p:=⟨w.heap.size,0,none⟩) hlow (by show w.heap.size≠w.heap.size+1;omega) (unhide A0)
  have cb1:=hK1.cell (p:=⟨w.heap.size,1,none⟩) hlow (by show w.heap.size≠w.heap.size+1;omega) (unhide B0)
  have cz1:=World.block_lt_of_cell? _ _ ca1
  have A1:=hide ca1
  have B1:=hide cb1
  have HK1:=hide (Kq.trans (unhide HK0) hK1)
  have HS1:=hide hS1
  have HC1:=hide hc1
  clear hK1 hS1 hc1 C1
  obtain⟨ct,cf⟩:=unhide HC1
  have ctz:=World.block_lt_of_cell? _ _ ct
  have END:=hide (Kq.all (unhide KH) (unhide HK1) (by omega))
  by_cases e0:s1=0
  ·subst e0
   go_wp2
   go_ret2
   exact⟨x1,1,rfl,by omega,by omega,by omega,unhide HS1,unhide END⟩
  ·have e0I:¬((s1:Nat):Int)=0:=by omega
   have e0B:(((s1:Nat):Int) == 0)=false:=by simp[e0]
   by_cases e12:s1=12
   ·subst e12
    go_wp2
    go_ret2
    exact⟨x1,2,rfl,by omega,by omega,by omega,unhide HS1,unhide END⟩
   ·have e12I:¬((s1:Nat):Int)=12:=by omega
    have e12B:(((s1:Nat):Int) == 12)=false:=by simp;omega
    go_wp2
    go_ret2
    exact⟨x1,0,rfl,by omega,by omega,by omega,unhide HS1,unhide END⟩
structure Pt{α : Type}[Inhabited α](q : α→Bool)(a b:Nat)(d1:Array α)(i j:Nat)(dk:Array α):Prop where
 perm:Sort.PermIn (a+1) b d1 dk
 left:∀ x,a<x→x<i→q dk[x]! = true
 right:∀ x,j<x→x<b→q dk[x]! = false
variable {α : Type} [Inhabited α] {q : α → Bool} {a b : Nat} {d1 : Array α} {i j : Nat} {dk : Array α}
theorem Pt.start(q : α→Bool)(a b:Nat)(d1:Array α)(j:Nat)(hj:b≤j+1):Pt q a b d1 (a+1) j d1:=
 ⟨Sort.permIn_refl _ _ _,fun x h1 h2=>by omega,fun x h1 h2=>by omega⟩
theorem Pt.piv(h:Pt q a b d1 i j dk):dk[a]! = d1[a]!:=h.perm.2.1 a (Or.inl (by omega))
theorem Pt.up(h:Pt q a b d1 i j dk)(hq:q dk[i]! = true):Pt q a b d1 (i+1) j dk:=
 ⟨h.perm,fun x h1 h2=>by
  by_cases e:x=i
  ·rw[e];exact hq
  ·exact h.left x h1 (by omega),h.right⟩
theorem Pt.down(h:Pt q a b d1 i j dk)(hq:q dk[j]! = false):Pt q a b d1 i (j - 1) dk:=
 ⟨h.perm,h.left,fun x h1 h2=>by
  by_cases e:x=j
  ·rw[e];exact hq
  ·exact h.right x (by omega) h2⟩
theorem Pt.swap(h:Pt q a b d1 i j dk)(hai:a<i)(hij:i<j)(hjb:j<b)(hb:b≤d1.size)(hi:q dk[i]! = false)(hj:q dk[j]! = true):Pt q a b d1 (i+1) (j - 1) (Sort.swp dk i j):=by
 have hs:dk.size=d1.size:=h.perm.1
 have g:=Sort.swp_get dk (show i<dk.size by omega) (show j<dk.size by omega)
 refine⟨Sort.permIn_trans _ _ _ _ _ h.perm (Sort.swp_permIn dk (a+1) b i j (by omega) (by omega) (by omega) hjb (by omega)),fun x h1 h2=>?_,fun x h1 h2=>?_⟩
 ·by_cases e:x=i
  ·subst e
   rw[Sort.swp_left dk x j (by omega) (by omega)]
   exact hj
  ·rw[Sort.swp_other dk i j x e (by omega)]
   exact h.left x h1 (by omega)
 ·by_cases e:x=j
  ·subst e
   rw[Sort.swp_right dk i x (by omega)]
   exact hi
  ·rw[Sort.swp_other dk i j x (by omega) e]
   exact h.right x (by omega) h2
theorem Vl(d:Array α)(a p:Nat)(ha:a<d.size)(hp:p<d.size):(Sort.swp d a p)[a]! = d[p]!:=by
 by_cases e:a=p
 ·subst e
  exact Sort.swp_right d a a ha
 ·exact Sort.swp_left d a p ha e
structure Zhx(lt : α → α→Bool)(d:Array α)(a b pivot m:Nat)(d':Array α):Prop where
 lo:a<m
 hi:m≤b
 perm:Sort.PermIn a b d d'
 left:∀ x,a≤x→x<m→lt d[pivot]! d'[x]! = false
 right:∀ x,m≤x→x<b→lt d[pivot]! d'[x]! = true
theorem Pt.eqok{lt : α → α→Bool}{d:Array α}{pivot:Nat}(hO:Sort.SWO lt)(hpa:a≤pivot)(hpb:pivot<b)(hb:b≤d.size)(h:Pt (fun x=>!lt d[pivot]! x) a b (Sort.swp d a pivot) i j dk)(hai:a<i)(hij:i=j+1)(hjb:j<b):Zhx lt d a b pivot i dk:=by
 have hp:=h.piv
 rw[Vl d a pivot (by omega) (by omega)] at hp
 refine⟨hai,by omega,Sort.permIn_trans _ _ _ _ _ (Sort.swp_permIn d a b a pivot (Nat.le_refl _) (by omega) hpa hpb hb) (Sort.permIn_mono _ _ _ _ _ _ (by omega) (Nat.le_refl _) (by rw[Sort.size_swp];exact hb) h.perm),fun x h1 h2=>?_,fun x h1 h2=>?_⟩
 ·by_cases e:x=a
  ·subst e
   rw[hp]
   exact hO.irrefl _
  ·have:=h.left x (by omega) h2
   simpa using this
 ·have:=h.right x (by omega) h2
  simpa using this
structure Zbj(lt : α → α→Bool)(d:Array α)(a b m:Nat)(d':Array α):Prop where
 lo:a≤m
 hi:m<b
 perm:Sort.PermIn a b d d'
 left:∀ x,a≤x→x<m→lt d'[x]! d'[m]! = true
 right:∀ x,m<x→x<b→lt d'[x]! d'[m]! = false
theorem Pt.paok{lt : α → α→Bool}{d:Array α}{pivot:Nat}(hpa:a≤pivot)(hpb:pivot<b)(hb:b≤d.size)(h:Pt (fun x=>lt x d[pivot]!) a b (Sort.swp d a pivot) i j dk)(hai:a<i)(hij:i=j+1)(hjb:j<b):Zbj lt d a b j (Sort.swp dk j a):=by
 have hp:=h.piv
 rw[Vl d a pivot (by omega) (by omega)] at hp
 have hs:dk.size=d.size:=by rw[h.perm.1,Sort.size_swp]
 have g:=Sort.swp_get dk (show j<dk.size by omega) (show a<dk.size by omega)
 have gj:(Sort.swp dk j a)[j]! = d[pivot]!:=by
  by_cases e:j=a
  ·subst e
   rw[Sort.swp_right dk j j (by omega)]
   exact hp
  ·rw[Sort.swp_left dk j a (by omega) e]
   exact hp
 refine⟨by omega,hjb,Sort.permIn_trans _ _ _ _ _ (Sort.permIn_trans _ _ _ _ _ (Sort.swp_permIn d a b a pivot (Nat.le_refl _) (by omega) hpa hpb hb) (Sort.permIn_mono _ _ _ _ _ _ (by omega) (Nat.le_refl _) (by rw[Sort.size_swp];exact hb) h.perm)) (Sort.swp_permIn dk a b j a (by omega) hjb (Nat.le_refl _) (by omega) (by omega)),fun x h1 h2=>?_,fun x h1 h2=>?_⟩
 ·rw[gj]
  by_cases e:x=a
  ·subst e
   rw[Sort.swp_right dk j x (by omega)]
   exact h.left j (by omega) (by omega)
  ·rw[Sort.swp_other dk j a x (by omega) e]
   exact h.left x (by omega) (by omega)
 ·rw[gj,Sort.swp_other dk j a x (by omega) (by omega)]
  exact h.right x h1 h2
theorem Zac{α : Type}[Inhabited α]{g:Nat}{lb:Array Value}{sf:Nat}{sb:Array Value}{lt : α → α→Bool}{n B:Nat}{St:World→Array α→Prop}(H:Sr Tryz.prog g lb sf sb lt n B St)
  (a b pivot:Nat) (d:Array α) (w:World) (h:St w d) (hpa:a≤pivot) (hpb:pivot<b) (hb:b≤n) :
  Calls Tryz.prog 205 #[lsV g lb sf sb,.int .i64 a,.int .i64 b,.int .i64 pivot] w fun e w'=>∃ (m:Nat) (d':Array α),e = .returned (.int .i64 m)∧Zhx lt d a b pivot m d'∧St w' d'∧Kp B w w':=by
 unfold lsV
 have hn:=H.small
 have eg:=H.enters
 have hlow:=H.low _ _ h
 have HD:=hide (H.size _ _ h)
 have HSW:=hide H.order
 obtain⟨N0,N1⟩:=Wx w (.func (.func g) #[] lb) (.func (.func sf) #[] sb) 230
 have SX:=hide (H.alloc w d (.cells #[.func (.func g) #[] lb,.func (.func sf) #[] sb] 230) h)
 have KX:=hide (Kp.alloc B w (.cells #[.func (.func g) #[] lb,.func (.func sf) #[] sb] 230))
 have HH:=hide H
 clear H h
 obtain⟨w1,hs,hS1,hK1⟩:=(unhide HH).swap _ d a pivot (unhide SX) (by omega) (by omega)
 have M0:=hide (hK1.cell hlow N0)
 have M1:=hide (hK1.cell hlow N1)
 have HS1:=hide hS1
 have KX1:=hide (Kp.trans (unhide KX) hK1)
 clear hS1 hK1
 obtain⟨jb,hjb⟩:∃ jb:Nat,jb+1=b:=⟨b - 1,by omega⟩
 have hjI:(b:Int) - 1=(jb:Int):=by omega
 have PST:=hide (Pt.start (fun x=>!lt d[pivot]! x) a b (Sort.swp d a pivot) jb (by omega))
 go_enter Tryz.func205,Tryz.ntmps205
 go_wp2
 clear N0 N1 hs
 go_loopw [9,10] (fun s9 s10 wr=>∃ (i j:Nat) (dk:Array α),s9 = .int .i64 i∧s10 = .int .i64 j∧a<i∧i≤j+1∧j<b∧Hid (Pt (fun x=>!lt d[pivot]! x) a b (Sort.swp d a pivot) i j dk)∧Hid (St wr dk)∧Hid (Kp B w1 wr)) (fun s9 s10 _=>(intOf s10).toNat+1 - (intOf s9).toNat)
 case atStart=>exact⟨a+1,jb,_,by go_num,rfl,by omega,by omega,by omega,PST,HS1,Kp.refl _ _⟩
 case round=>
  obtain⟨i0,j0,dk,rfl,rfl,hai0,hij0,hjb0,HP0,HS0,HK0⟩:=hrel
  go_wp2_with fail
  go_loopw [9] (fun sa wr=>∃ i:Nat,sa = .int .i64 i∧a<i∧i0≤i∧i≤j0+1∧Hid (Pt (fun x=>!lt d[pivot]! x) a b (Sort.swp d a pivot) i j0 dk)∧Hid (St wr dk)∧Hid (Kp B w1 wr)) (fun sa _=>j0+1 - (intOf sa).toNat)
  case atStart=>exact⟨i0,by first|rfl|go_num|(have:=unhide HI0;congr 1;omega),hai0,Nat.le_refl _,hij0,HP0,HS0,HK0⟩
  case round=>
   obtain⟨i,rfl,hai,hi0i,hij,HP,HS,HK⟩:=hrel
   have c0:=(unhide HK).cell hlow (unhide M0)
   have c1:=(unhide HK).cell hlow (unhide M1)
   have hsz:=World.block_lt_of_cell? _ _ c0
   have PV:=hide (unhide HP).piv
   by_cases hle:i≤j0
   ·have hl:=(unhide HH).less wr dk a i (unhide HS) (by omega) (by omega)
    have hpv:dk[a]! = d[pivot]!:=(unhide PV).trans (Vl d a pivot (by rw[unhide HD];omega) (by rw[unhide HD];omega))
    cases hlv:lt dk[a]! dk[i]! with
    | false=>
     rw[hlv] at hl
     have HQ:=hide ((unhide HP).up (by rw[hpv] at hlv;simp[hlv]))
     clear hlv hpv
     go_wp2_with (go_at_fn g;refine hl.mono ?_;rintro e w' ⟨rfl,hS2,hK2⟩;have HK2:=hide (Kp.trans (unhide HK) hK2);have HS2:=hide hS2;have d0:=(unhide HK2).cell hlow (unhide M0);have d1:=(unhide HK2).cell hlow (unhide M1);have dz:=World.block_lt_of_cell? _ _ d0;clear hS2 hK2)
     go_roundw
     case rel=>first|exact⟨i+1,by go_num,by omega,by omega,by omega,HQ,HS2,HK2⟩|((repeat apply Exists.intro);refine⟨?_,rfl⟩;exact⟨i+1,by go_num,by omega,by omega,by omega,HQ,HS2,HK2⟩)
     case measure=>simp[intOf];omega
    | true=>
     rw[hlv] at hl
     have HQ:Hid ((fun x=>!lt d[pivot]! x) dk[i]! = false):=by
      show _=_
      rw[hpv] at hlv
      simp[hlv]
     clear hlv hpv
     go_wp2_with (go_at_fn g;refine hl.mono ?_;rintro e w' ⟨rfl,hS2,hK2⟩;have HK2:=hide (Kp.trans (unhide HK) hK2);have HS2:=hide hS2;have d0:=(unhide HK2).cell hlow (unhide M0);have d1:=(unhide HK2).cell hlow (unhide M1);have dz:=World.block_lt_of_cell? _ _ d0;clear hS2 hK2)
     go_loopw [10] (fun sa wr=>∃ j:Nat,sa = .int .i64 j∧i≤j+1∧j≤j0∧Hid (Pt (fun x=>!lt d[pivot]! x) a b (Sort.swp d a pivot) i j dk)∧Hid (St wr dk)∧Hid (Kp B w1 wr)) (fun sa _=>(intOf sa).toNat)
     case atStart=>exact⟨j0,by first|rfl|go_num,hij,Nat.le_refl _,HP,HS2,HK2⟩
     case round=>
      clear HP HS HK HS2 HK2 d0 d1 dz hl hij c0 c1 hsz
      obtain⟨j,rfl,hij,hjj,HP,HS,HK⟩:=hrel
      have c0:=(unhide HK).cell hlow (unhide M0)
      have c1:=(unhide HK).cell hlow (unhide M1)
      have hsz:=World.block_lt_of_cell? _ _ c0
      by_cases hle2:i≤j
      ·have hl:=(unhide HH).less wr dk a j (unhide HS) (by omega) (by omega)
       have hpv:dk[a]! = d[pivot]!:=(unhide PV).trans (Vl d a pivot (by rw[unhide HD];omega) (by rw[unhide HD];omega))
       cases hlv:lt dk[a]! dk[j]! with
       | true=>
        rw[hlv] at hl
        have HQ2:=hide ((unhide HP).down (by rw[hpv] at hlv;simp[hlv]))
        clear hlv hpv
        go_wp2_with (go_at_fn g;refine hl.mono ?_;rintro e w' ⟨rfl,hS2,hK2⟩;have HK2:=hide (Kp.trans (unhide HK) hK2);have HS2:=hide hS2;have d0:=(unhide HK2).cell hlow (unhide M0);have d1:=(unhide HK2).cell hlow (unhide M1);have dz:=World.block_lt_of_cell? _ _ d0;clear hS2 hK2)
        go_roundw
        case rel=>first|exact⟨j - 1,by congr 1 <;> omega,by omega,by omega,HQ2,HS2,HK2⟩|((repeat apply Exists.intro);refine⟨?_,rfl⟩;exact⟨j - 1,by congr 1 <;> omega,by omega,by omega,HQ2,HS2,HK2⟩)
        case measure=>simp[intOf];omega
       | false=>
        rw[hlv] at hl
        have HQ2:Hid ((fun x=>!lt d[pivot]! x) dk[j]! = true):=by
         show _=_
         rw[hpv] at hlv
         simp[hlv]
        have hne:i<j:=by
         rcases Nat.lt_or_eq_of_le hle2 with q|q
         ·exact q
         ·subst q
          exact Bool.noConfusion ((unhide HQ).symm.trans (unhide HQ2))
        have hgtB:decide ((j:Int)<(i:Int))=false:=decide_eq_false (by omega)
        have hgtN:decide (j<i)=false:=decide_eq_false (by omega)
        have HP3:=hide ((unhide HP).swap hai hne (by omega) (by rw[Sort.size_swp,unhide HD];exact hb) (unhide HQ) (unhide HQ2))
        clear hlv hpv
        go_wp2_with (go_at_fn g;refine hl.mono ?_;rintro e w' ⟨rfl,hS2,hK2⟩;have HK2:=hide (Kp.trans (unhide HK) hK2);have d0:=(unhide HK2).cell hlow (unhide M0);have d1:=(unhide HK2).cell hlow (unhide M1);have dz:=World.block_lt_of_cell? _ _ d0;obtain⟨w3,hs,hS3,hK3⟩:=(unhide HH).swap w' dk i j hS2 (by omega) (by omega);have HS3:=hide hS3;have HK3:=hide (Kp.trans (unhide HK2) hK3);have e0:=(unhide HK3).cell hlow (unhide M0);have e1:=(unhide HK3).cell hlow (unhide M1);have ez:=World.block_lt_of_cell? _ _ e0;clear hS2 hK2 hS3 hK3)
        go_wp2
        go_roundw
        case rel=>first|exact⟨i+1,j - 1,_,by go_num,by congr 1 <;> omega,by omega,by omega,by omega,HP3,HS3,HK3⟩|((repeat apply Exists.intro);refine⟨?_,rfl⟩;exact⟨i+1,j - 1,_,by go_num,by congr 1 <;> omega,by omega,by omega,by omega,HP3,HS3,HK3⟩)
        case measure=>simp[intOf];omega
      ·have HEQ:Hid (i=j+1):=by show _=_;omega
       have hgt:j<i:=by omega
       clear HQ hle2
       go_wp2
       go_ret
       have RES:=Pt.eqok (unhide HSW) hpa hpb (by rw[unhide HD];exact hb) (unhide HP) hai (unhide HEQ) (by omega)
       first|exact⟨i,dk,rfl,RES,unhide HS,Kp.trans (unhide KX1) (unhide HK)⟩|exact⟨i,rfl,dk,RES,unhide HS,Kp.trans (unhide KX1) (unhide HK)⟩
   ·have HEQ:Hid (i=j0+1):=by show _=_;omega
    have hgt:j0<i:=by omega
    clear hle
    go_wp2_with fail
    refine wp_loop_rounds 1 ?_
    rw[rounds_succ]
    go_wp2
    go_ret
    have RES:=Pt.eqok (unhide HSW) hpa hpb (by rw[unhide HD];exact hb) (unhide HP) hai (unhide HEQ) (by omega)
    first|exact⟨i,dk,rfl,RES,unhide HS,Kp.trans (unhide KX1) (unhide HK)⟩|exact⟨i,rfl,dk,RES,unhide HS,Kp.trans (unhide KX1) (unhide HK)⟩
def PaPost{α : Type}[Inhabited α](lt : α → α→Bool)(d:Array α)(a b B:Nat)(St:World→Array α→Prop)(w:World)(e:Ending)(w':World):Prop:=
 ∃ (m:Nat) (t:Bool) (d':Array α),e = .returned (.tuple #[.int .i64 m,.bool t])∧Zbj lt d a b m d'∧St w' d'∧Kp B w w'
theorem PaPost.of{α : Type}[Inhabited α]{lt : α → α→Bool}{d:Array α}{a b B:Nat}{St:World→Array α→Prop}{w w':World}(m:Nat)(t:Bool)(d':Array α)(h1:Zbj lt d a b m d')(h2:St w' d')(h3:Kp B w w') :
  PaPost lt d a b B St w (.returned (.tuple #[.int .i64 m,.bool t])) w':=⟨m,t,d',rfl,h1,h2,h3⟩
theorem Zfd{α : Type}[Inhabited α]{g:Nat}{lb:Array Value}{sf:Nat}{sb:Array Value}{lt : α → α→Bool}{n B:Nat}{St:World→Array α→Prop}(H:Sr Tryz.prog g lb sf sb lt n B St)
  (a b pivot:Nat) (d:Array α) (w:World) (h:St w d) (hpa:a≤pivot) (hpb:pivot<b) (hb:b≤n) :
  Calls Tryz.prog 206 #[lsV g lb sf sb,.int .i64 a,.int .i64 b,.int .i64 pivot] w fun e w'=>PaPost lt d a b B St w e w':=by
 unfold lsV
 have hn:=H.small
 have eg:=H.enters
 have hlow:=H.low _ _ h
 have HD:=hide (H.size _ _ h)
 have HSW:=hide H.order
 obtain⟨N0,N1⟩:=Wx w (.func (.func g) #[] lb) (.func (.func sf) #[] sb) 230
 have SX:=hide (H.alloc w d (.cells #[.func (.func g) #[] lb,.func (.func sf) #[] sb] 230) h)
 have KX:=hide (Kp.alloc B w (.cells #[.func (.func g) #[] lb,.func (.func sf) #[] sb] 230))
 have HH:=hide H
 clear H h
 obtain⟨w1,hs,hS1,hK1⟩:=(unhide HH).swap _ d a pivot (unhide SX) (by omega) (by omega)
 have M0:=hide (hK1.cell hlow N0)
 have M1:=hide (hK1.cell hlow N1)
 have HS1:=hide hS1
 have KX1:=hide (Kp.trans (unhide KX) hK1)
 clear hS1 hK1
 obtain⟨jb,hjb⟩:∃ jb:Nat,jb+1=b:=⟨b - 1,by omega⟩
 have hjI:(b:Int) - 1=(jb:Int):=by omega
 have PST:=hide (Pt.start (fun x=>lt x d[pivot]!) a b (Sort.swp d a pivot) jb (by omega))
 go_enter Tryz.func206,Tryz.ntmps206
 go_wp2
 clear N0 N1 hs
 obtain⟨i0,hi0⟩:∃ i0:Nat,i0=a+1:=⟨_,rfl⟩
 have hiI:(a:Int)+1=(i0:Int):=by omega
 obtain⟨dk,hdk⟩:∃ dk,dk=Sort.swp d a pivot:=⟨_,rfl⟩
 have HP0:Hid (Pt (fun x=>lt x d[pivot]!) a b (Sort.swp d a pivot) i0 jb dk):=by
  show Pt _ _ _ _ _ _ _
  rw[hi0,hdk]
  exact unhide PST
 have HS0:Hid (St w1 dk):=by
  show St _ _
  rw[hdk]
  exact unhide HS1
 have HK0:=hide (Kp.refl B w1)
 have hai0:a<i0:=by omega
 have hij0:i0≤jb+1:=by omega
 have HI0:=hide hi0
 clear hi0 hiI hdk PST HS1
 go_loopw [10] (fun sa wr=>∃ i:Nat,sa = .int .i64 i∧a<i∧i0≤i∧i≤jb+1∧Hid (Pt (fun x=>lt x d[pivot]!) a b (Sort.swp d a pivot) i jb dk)∧Hid (St wr dk)∧Hid (Kp B w1 wr)) (fun sa _=>jb+1 - (intOf sa).toNat)
 case atStart=>exact⟨i0,by first|rfl|go_num|(have:=unhide HI0;congr 1;omega),hai0,Nat.le_refl _,hij0,HP0,HS0,HK0⟩
 case round=>
  obtain⟨i,rfl,hai,hi0i,hij,HP,HS,HK⟩:=hrel
  have c0:=(unhide HK).cell hlow (unhide M0)
  have c1:=(unhide HK).cell hlow (unhide M1)
  have hsz:=World.block_lt_of_cell? _ _ c0
  have PV:=hide (unhide HP).piv
  by_cases hle:i≤jb
  ·have hl:=(unhide HH).less wr dk i a (unhide HS) (by omega) (by omega)
   have hpv:dk[a]! = d[pivot]!:=(unhide PV).trans (Vl d a pivot (by rw[unhide HD];omega) (by rw[unhide HD];omega))
   cases hlv:lt dk[i]! dk[a]! with
   | true=>
    rw[hlv] at hl
    have HQ:=hide ((unhide HP).up (by rw[hpv] at hlv;simp[hlv]))
    clear hlv hpv
    go_wp2_with (go_at_fn g;refine hl.mono ?_;rintro e w' ⟨rfl,hS2,hK2⟩;have HK2:=hide (Kp.trans (unhide HK) hK2);have HS2:=hide hS2;have d0:=(unhide HK2).cell hlow (unhide M0);have d1:=(unhide HK2).cell hlow (unhide M1);have dz:=World.block_lt_of_cell? _ _ d0;clear hS2 hK2)
    go_roundw
    case rel=>first|exact⟨i+1,by go_num,by omega,by omega,by omega,HQ,HS2,HK2⟩|((repeat apply Exists.intro);refine⟨?_,rfl⟩;exact⟨i+1,by go_num,by omega,by omega,by omega,HQ,HS2,HK2⟩)
    case measure=>simp[intOf];omega
   | false=>
    rw[hlv] at hl
    have HQ:Hid ((fun x=>lt x d[pivot]!) dk[i]! = false):=by
     show _=_
     rw[hpv] at hlv
     simp[hlv]
    clear hlv hpv
    go_wp2_with (go_at_fn g;refine hl.mono ?_;rintro e w' ⟨rfl,hS2,hK2⟩;have HK2:=hide (Kp.trans (unhide HK) hK2);have HS2:=hide hS2;have d0:=(unhide HK2).cell hlow (unhide M0);have d1:=(unhide HK2).cell hlow (unhide M1);have dz:=World.block_lt_of_cell? _ _ d0;clear hS2 hK2)
    go_loopw [11] (fun sa wr=>∃ j:Nat,sa = .int .i64 j∧i≤j+1∧j≤jb∧Hid (Pt (fun x=>lt x d[pivot]!) a b (Sort.swp d a pivot) i j dk)∧Hid (St wr dk)∧Hid (Kp B w1 wr)) (fun sa _=>(intOf sa).toNat)
    case atStart=>exact⟨jb,by first|rfl|go_num,hij,Nat.le_refl _,HP,HS2,HK2⟩
    case round=>
     clear HP HS HK HS2 HK2 d0 d1 dz hl hij c0 c1 hsz
     obtain⟨j,rfl,hij,hjj,HP,HS,HK⟩:=hrel
     have c0:=(unhide HK).cell hlow (unhide M0)
     have c1:=(unhide HK).cell hlow (unhide M1)
     have hsz:=World.block_lt_of_cell? _ _ c0
     by_cases hle2:i≤j
     ·have hl:=(unhide HH).less wr dk j a (unhide HS) (by omega) (by omega)
      have hpv:dk[a]! = d[pivot]!:=(unhide PV).trans (Vl d a pivot (by rw[unhide HD];omega) (by rw[unhide HD];omega))
      cases hlv:lt dk[j]! dk[a]! with
      | false=>
       rw[hlv] at hl
       have HQ2:=hide ((unhide HP).down (by rw[hpv] at hlv;simp[hlv]))
       clear hlv hpv
       go_wp2_with (go_at_fn g;refine hl.mono ?_;rintro e w' ⟨rfl,hS2,hK2⟩;have HK2:=hide (Kp.trans (unhide HK) hK2);have HS2:=hide hS2;have d0:=(unhide HK2).cell hlow (unhide M0);have d1:=(unhide HK2).cell hlow (unhide M1);have dz:=World.block_lt_of_cell? _ _ d0;clear hS2 hK2)
       go_roundw
       case rel=>first|exact⟨j - 1,by congr 1 <;> omega,by omega,by omega,HQ2,HS2,HK2⟩|((repeat apply Exists.intro);refine⟨?_,rfl⟩;exact⟨j - 1,by congr 1 <;> omega,by omega,by omega,HQ2,HS2,HK2⟩)
       case measure=>simp[intOf];omega
      | true=>
       rw[hlv] at hl
       have HQ2:Hid ((fun x=>lt x d[pivot]!) dk[j]! = true):=by
        show _=_
        rw[hpv] at hlv
        simp[hlv]
       have hne:i<j:=by
        rcases Nat.lt_or_eq_of_le hle2 with q|q
        ·exact q
        ·subst q
         exact Bool.noConfusion ((unhide HQ).symm.trans (unhide HQ2))
       have hgtB:decide ((j:Int)<(i:Int))=false:=decide_eq_false (by omega)
       have hgtN:decide (j<i)=false:=decide_eq_false (by omega)
       have HP3:=hide ((unhide HP).swap hai hne (by omega) (by rw[Sort.size_swp,unhide HD];exact hb) (unhide HQ) (unhide HQ2))
       clear hlv hpv
       go_wp2_with (go_at_fn g;refine hl.mono ?_;rintro e w' ⟨rfl,hS2,hK2⟩;have HK2:=hide (Kp.trans (unhide HK) hK2);have d0:=(unhide HK2).cell hlow (unhide M0);have d1:=(unhide HK2).cell hlow (unhide M1);have dz:=World.block_lt_of_cell? _ _ d0;obtain⟨w3,hs,hS3,hK3⟩:=(unhide HH).swap w' dk i j hS2 (by omega) (by omega);have HS3:=hide hS3;have HK3:=hide (Kp.trans (unhide HK2) hK3);have e0:=(unhide HK3).cell hlow (unhide M0);have e1:=(unhide HK3).cell hlow (unhide M1);have ez:=World.block_lt_of_cell? _ _ e0;clear hS2 hK2 hS3 hK3)
       go_wp2
       clear HP HS HK HK2 d0 d1 dz hl hs e0 e1 ez HQ HQ2 PV
       go_loopw [10,11] (fun s10 s11 wr=>∃ (i j:Nat) (dk:Array α),s10 = .int .i64 i∧s11 = .int .i64 j∧a<i∧i≤j+1∧j<b∧Hid (Pt (fun x=>lt x d[pivot]!) a b (Sort.swp d a pivot) i j dk)∧Hid (St wr dk)∧Hid (Kp B w1 wr)) (fun s10 s11 _=>(intOf s11).toNat+1 - (intOf s10).toNat)
       case atStart=>exact⟨i+1,j - 1,_,by go_num,by congr 1 <;> omega,by omega,by omega,by omega,HP3,HS3,HK3⟩
       case round=>
        clear HP3 HS3 HK3 hai hij hle hle2 hjj hne hi0i hai0 hij0 HP0 HS0 HK0
        obtain⟨i0,j0,dk,rfl,rfl,hai0,hij0,hjb0,HP0,HS0,HK0⟩:=hrel
        go_wp2_with fail
        go_loopw [10] (fun sa wr=>∃ i:Nat,sa = .int .i64 i∧a<i∧i0≤i∧i≤j0+1∧Hid (Pt (fun x=>lt x d[pivot]!) a b (Sort.swp d a pivot) i j0 dk)∧Hid (St wr dk)∧Hid (Kp B w1 wr)) (fun sa _=>j0+1 - (intOf sa).toNat)
        case atStart=>exact⟨i0,by first|rfl|go_num|(have:=unhide HI0;congr 1;omega),hai0,Nat.le_refl _,hij0,HP0,HS0,HK0⟩
        case round=>
         obtain⟨i,rfl,hai,hi0i,hij,HP,HS,HK⟩:=hrel
         have c0:=(unhide HK).cell hlow (unhide M0)
         have c1:=(unhide HK).cell hlow (unhide M1)
         have hsz:=World.block_lt_of_cell? _ _ c0
         have PV:=hide (unhide HP).piv
         by_cases hle:i≤j0
         ·have hl:=(unhide HH).less wr dk i a (unhide HS) (by omega) (by omega)
          have hpv:dk[a]! = d[pivot]!:=(unhide PV).trans (Vl d a pivot (by rw[unhide HD];omega) (by rw[unhide HD];omega))
          cases hlv:lt dk[i]! dk[a]! with
          | true=>
           rw[hlv] at hl
           have HQ:=hide ((unhide HP).up (by rw[hpv] at hlv;simp[hlv]))
           clear hlv hpv
           go_wp2_with (go_at_fn g;refine hl.mono ?_;rintro e w' ⟨rfl,hS2,hK2⟩;have HK2:=hide (Kp.trans (unhide HK) hK2);have HS2:=hide hS2;have d0:=(unhide HK2).cell hlow (unhide M0);have d1:=(unhide HK2).cell hlow (unhide M1);have dz:=World.block_lt_of_cell? _ _ d0;clear hS2 hK2)
           go_roundw
           case rel=>first|exact⟨i+1,by go_num,by omega,by omega,by omega,HQ,HS2,HK2⟩|((repeat apply Exists.intro);refine⟨?_,rfl⟩;exact⟨i+1,by go_num,by omega,by omega,by omega,HQ,HS2,HK2⟩)
           case measure=>simp[intOf];omega
          | false=>
           rw[hlv] at hl
           have HQ:Hid ((fun x=>lt x d[pivot]!) dk[i]! = false):=by
            show _=_
            rw[hpv] at hlv
            simp[hlv]
           clear hlv hpv
           go_wp2_with (go_at_fn g;refine hl.mono ?_;rintro e w' ⟨rfl,hS2,hK2⟩;have HK2:=hide (Kp.trans (unhide HK) hK2);have HS2:=hide hS2;have d0:=(unhide HK2).cell hlow (unhide M0);have d1:=(unhide HK2).cell hlow (unhide M1);have dz:=World.block_lt_of_cell? _ _ d0;clear hS2 hK2)
           go_loopw [11] (fun sa wr=>∃ j:Nat,sa = .int .i64 j∧i≤j+1∧j≤j0∧Hid (Pt (fun x=>lt x d[pivot]!) a b (Sort.swp d a pivot) i j dk)∧Hid (St wr dk)∧Hid (Kp B w1 wr)) (fun sa _=>(intOf sa).toNat)
           case atStart=>exact⟨j0,by first|rfl|go_num,hij,Nat.le_refl _,HP,HS2,HK2⟩
           case round=>
            clear HP HS HK HS2 HK2 d0 d1 dz hl hij c0 c1 hsz
            obtain⟨j,rfl,hij,hjj,HP,HS,HK⟩:=hrel
            have c0:=(unhide HK).cell hlow (unhide M0)
            have c1:=(unhide HK).cell hlow (unhide M1)
            have hsz:=World.block_lt_of_cell? _ _ c0
            by_cases hle2:i≤j
            ·have hl:=(unhide HH).less wr dk j a (unhide HS) (by omega) (by omega)
             have hpv:dk[a]! = d[pivot]!:=(unhide PV).trans (Vl d a pivot (by rw[unhide HD];omega) (by rw[unhide HD];omega))
             cases hlv:lt dk[j]! dk[a]! with
             | false=>
              rw[hlv] at hl
              have HQ2:=hide ((unhide HP).down (by rw[hpv] at hlv;simp[hlv]))
              clear hlv hpv
              go_wp2_with (go_at_fn g;refine hl.mono ?_;rintro e w' ⟨rfl,hS2,hK2⟩;have HK2:=hide (Kp.trans (unhide HK) hK2);have HS2:=hide hS2;have d0:=(unhide HK2).cell hlow (unhide M0);have d1:=(unhide HK2).cell hlow (unhide M1);have dz:=World.block_lt_of_cell? _ _ d0;clear hS2 hK2)
              go_roundw
              case rel=>first|exact⟨j - 1,by congr 1 <;> omega,by omega,by omega,HQ2,HS2,HK2⟩|((repeat apply Exists.intro);refine⟨?_,rfl⟩;exact⟨j - 1,by congr 1 <;> omega,by omega,by omega,HQ2,HS2,HK2⟩)
              case measure=>simp[intOf];omega
             | true=>
              rw[hlv] at hl
              have HQ2:Hid ((fun x=>lt x d[pivot]!) dk[j]! = true):=by
               show _=_
               rw[hpv] at hlv
               simp[hlv]
              have hne:i<j:=by
               rcases Nat.lt_or_eq_of_le hle2 with q|q
               ·exact q
               ·subst q
                exact Bool.noConfusion ((unhide HQ).symm.trans (unhide HQ2))
              have hgtB:decide ((j:Int)<(i:Int))=false:=decide_eq_false (by omega)
              have hgtN:decide (j<i)=false:=decide_eq_false (by omega)
              have HP3:=hide ((unhide HP).swap hai hne (by omega) (by rw[Sort.size_swp,unhide HD];exact hb) (unhide HQ) (unhide HQ2))
              clear hlv hpv
              go_wp2_with (go_at_fn g;refine hl.mono ?_;rintro e w' ⟨rfl,hS2,hK2⟩;have HK2:=hide (Kp.trans (unhide HK) hK2);have d0:=(unhide HK2).cell hlow (unhide M0);have d1:=(unhide HK2).cell hlow (unhide M1);have dz:=World.block_lt_of_cell? _ _ d0;obtain⟨w3,hs,hS3,hK3⟩:=(unhide HH).swap w' dk i j hS2 (by omega) (by omega);have HS3:=hide hS3;have HK3:=hide (Kp.trans (unhide HK2) hK3);have e0:=(unhide HK3).cell hlow (unhide M0);have e1:=(unhide HK3).cell hlow (unhide M1);have ez:=World.block_lt_of_cell? _ _ e0;clear hS2 hK2 hS3 hK3)
              go_wp2
              go_roundw
              case rel=>first|exact⟨i+1,j - 1,_,by go_num,by congr 1 <;> omega,by omega,by omega,by omega,HP3,HS3,HK3⟩|((repeat apply Exists.intro);refine⟨?_,rfl⟩;exact⟨i+1,j - 1,_,by go_num,by congr 1 <;> omega,by omega,by omega,by omega,HP3,HS3,HK3⟩)
              case measure=>simp[intOf];omega
            ·have HEQ:Hid (i=j+1):=by show _=_;omega
             have hgt:j<i:=by omega
             clear HQ hle2
             obtain⟨w9,hs9,hS9,hK9⟩:=(unhide HH).swap _ dk j a (unhide HS) (by omega) (by omega)
             have HS9:=hide hS9
             have HK9:=hide (Kp.trans (unhide HK) hK9)
             clear hS9 hK9
             go_wp2
             go_ret2
             have RES:=Pt.paok hpa hpb (by rw[unhide HD];exact hb) (unhide HP) hai (unhide HEQ) (by omega)
             exact PaPost.of j false _ RES (unhide HS9) (Kp.trans (unhide KX1) (unhide HK9))
         ·have HEQ:Hid (i=j0+1):=by show _=_;omega
          have hgt:j0<i:=by omega
          clear hle
          go_wp2_with fail
          refine wp_loop_rounds 1 ?_
          rw[rounds_succ]
          obtain⟨w9,hs9,hS9,hK9⟩:=(unhide HH).swap _ dk j0 a (unhide HS) (by omega) (by omega)
          have HS9:=hide hS9
          have HK9:=hide (Kp.trans (unhide HK) hK9)
          clear hS9 hK9
          go_wp2
          go_ret2
          have RES:=Pt.paok hpa hpb (by rw[unhide HD];exact hb) (unhide HP) hai (unhide HEQ) (by omega)
          exact PaPost.of j0 false _ RES (unhide HS9) (Kp.trans (unhide KX1) (unhide HK9))
     ·have HEQ:Hid (i=j+1):=by show _=_;omega
      have hgt:j<i:=by omega
      clear HQ hle2
      obtain⟨w9,hs9,hS9,hK9⟩:=(unhide HH).swap _ dk j a (unhide HS) (by omega) (by omega)
      have HS9:=hide hS9
      have HK9:=hide (Kp.trans (unhide HK) hK9)
      clear hS9 hK9
      go_wp2
      go_ret2
      have RES:=Pt.paok hpa hpb (by rw[unhide HD];exact hb) (unhide HP) hai (unhide HEQ) (by omega)
      exact PaPost.of j true _ RES (unhide HS9) (Kp.trans (unhide KX1) (unhide HK9))
  ·have HEQ:Hid (i=jb+1):=by show _=_;omega
   have hgt:jb<i:=by omega
   clear hle
   go_wp2_with fail
   refine wp_loop_rounds 1 ?_
   rw[rounds_succ]
   obtain⟨w9,hs9,hS9,hK9⟩:=(unhide HH).swap _ dk jb a (unhide HS) (by omega) (by omega)
   have HS9:=hide hS9
   have HK9:=hide (Kp.trans (unhide HK) hK9)
   clear hS9 hK9
   go_wp2
   go_ret2
   have RES:=Pt.paok hpa hpb (by rw[unhide HD];exact hb) (unhide HP) hai (unhide HEQ) (by omega)
   exact PaPost.of jb true _ RES (unhide HS9) (Kp.trans (unhide KX1) (unhide HK9))
end Go.Proofs.YtepmnpapdknocaaGreatDoor
