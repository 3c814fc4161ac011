import Derived.Test.YtpikejjiignchaaGreatDoorG19
set_option maxHeartbeats 12800000
set_option maxRecDepth 10000
namespace Go.Proofs.YtpikejjiignchaaGreatDoor
open Go.RowKit
structure Pt{α : Type}[Inhabited α](q : α→Bool)(a b:Nat)(d1:Array α)(i j:Nat)(dk:Array α):Prop where
 perm:Sort.PermIn (a+1) b d1 dk
 left:∀ x,a<x→x<i→q dk[x]! = true
 right:∀ x,j<x→x<b→q dk[x]! = false
variable {α : Type} [Inhabited α] {q : α → Bool} {a b : Nat} {d1 : Array α} {i j : Nat} {dk : Array α}
theorem Pt.start(q : α→Bool)(a b:Nat)(d1:Array α)(j:Nat)(hj:b≤j+1):Pt q a b d1 (a+1) j d1:=
 ⟨Sort.permIn_refl _ _ _,fun x h1 h2=>by omega,fun x h1 h2=>by omega⟩
theorem Pt.piv(h:Pt q a b d1 i j dk):dk[a]! = d1[a]!:=h.perm.2.1 a (Or.inl (by omega))
theorem Pt.up(h:Pt q a b d1 i j dk)(hq:q dk[i]! = true):Pt q a b d1 (i+1) j dk:=
 ⟨h.perm,fun x h1 h2=>by
  by_cases e:x=i
  ·rw[e];exact hq
  ·exact h.left x h1 (by omega),h.right⟩
theorem Pt.down(h:Pt q a b d1 i j dk)(hq:q dk[j]! = false):Pt q a b d1 i (j - 1) dk:=
 ⟨h.perm,h.left,fun x h1 h2=>by
  by_cases e:x=j
  ·rw[e];exact hq
  ·exact h.right x (by omega) h2⟩
theorem Pt.swap(h:Pt q a b d1 i j dk)(hai:a<i)(hij:i<j)(hjb:j<b)(hb:b≤d1.size)(hi:q dk[i]! = false)(hj:q dk[j]! = true):Pt q a b d1 (i+1) (j - 1) (Sort.swp dk i j):=by
 have hs:dk.size=d1.size:=h.perm.1
 have g:=Sort.swp_get dk (show i<dk.size by omega) (show j<dk.size by omega)
 refine⟨Sort.permIn_trans _ _ _ _ _ h.perm (Sort.swp_permIn dk (a+1) b i j (by omega) (by omega) (by omega) hjb (by omega)),fun x h1 h2=>?_,fun x h1 h2=>?_⟩
 ·by_cases e:x=i
  ·subst e
   rw[Sort.swp_left dk x j (by omega) (by omega)]
   exact hj
  ·rw[Sort.swp_other dk i j x e (by omega)]
   exact h.left x h1 (by omega)
 ·by_cases e:x=j
  ·subst e
   rw[Sort.swp_right dk i x (by omega)]
   exact hi
  ·rw[Sort.swp_other dk i j x (by omega) e]
   exact h.right x (by omega) h2
theorem Vl(d:Array α)(a p:Nat)(ha:a<d.size)(hp:p<d.size):(Sort.swp d a p)[a]! = d[p]!:=by
 by_cases e:a=p
 ·subst e
  exact Sort.swp_right d a a ha
 ·exact Sort.swp_left d a p ha e
structure Zib(lt : α → α→Bool)(d:Array α)(a b pivot m:Nat)(d':Array α):Prop where
 lo:a<m
 hi:m≤b
 perm:Sort.PermIn a b d d'
 left:∀ x,a≤x→x<m→lt d[pivot]! d'[x]! = false
 right:∀ x,m≤x→x<b→lt d[pivot]! d'[x]! = true
theorem Pt.eqok{lt : α → α→Bool}{d:Array α}{pivot:Nat}(hO:Sort.SWO lt)(hpa:a≤pivot)(hpb:pivot<b)(hb:b≤d.size)(h:Pt (fun x=>!lt d[pivot]! x) a b (Sort.swp d a pivot) i j dk)(hai:a<i)(hij:i=j+1)(hjb:j<b):Zib lt d a b pivot i dk:=by
 have hp:=h.piv
 rw[Vl d a pivot (by omega) (by omega)] at hp
 refine⟨hai,by omega,Sort.permIn_trans _ _ _ _ _ (Sort.swp_permIn d a b a pivot (Nat.le_refl _) (by omega) hpa hpb hb) (Sort.permIn_mono _ _ _ _ _ _ (by omega) (Nat.le_refl _) (by rw[Sort.size_swp];exact hb) h.perm),fun x h1 h2=>?_,fun x h1 h2=>?_⟩
 ·by_cases e:x=a
  ·subst e
   rw[hp]
   exact hO.irrefl _
  ·have:=h.left x (by omega) h2
   simpa using this
 ·have:=h.right x (by omega) h2
  simpa using this
structure Zau(lt : α → α→Bool)(d:Array α)(a b m:Nat)(d':Array α):Prop where
 lo:a≤m
 hi:m<b
 perm:Sort.PermIn a b d d'
 left:∀ x,a≤x→x<m→lt d'[x]! d'[m]! = true
 right:∀ x,m<x→x<b→lt d'[x]! d'[m]! = false
theorem Pt.paok{lt : α → α→Bool}{d:Array α}{pivot:Nat}(hpa:a≤pivot)(hpb:pivot<b)(hb:b≤d.size)(h:Pt (fun x=>lt x d[pivot]!) a b (Sort.swp d a pivot) i j dk)(hai:a<i)(hij:i=j+1)(hjb:j<b):Zau lt d a b j (Sort.swp dk j a):=by
 have hp:=h.piv
 rw[Vl d a pivot (by omega) (by omega)] at hp
 have hs:dk.size=d.size:=by rw[h.perm.1,Sort.size_swp]
 have g:=Sort.swp_get dk (show j<dk.size by omega) (show a<dk.size by omega)
 have gj:(Sort.swp dk j a)[j]! = d[pivot]!:=by
  by_cases e:j=a
  ·subst e
   rw[Sort.swp_right dk j j (by omega)]
   exact hp
  ·rw[Sort.swp_left dk j a (by omega) e]
   exact hp
 refine⟨by omega,hjb,Sort.permIn_trans _ _ _ _ _ (Sort.permIn_trans _ _ _ _ _ (Sort.swp_permIn d a b a pivot (Nat.le_refl _) (by omega) hpa hpb hb) (Sort.permIn_mono _ _ _ _ _ _ (by omega) (Nat.le_refl _) (by rw[Sort.size_swp];exact hb) h.perm)) (Sort.swp_permIn dk a b j a (by omega) hjb (Nat.le_refl _) (by omega) (by omega)),fun x h1 h2=>?_,fun x h1 h2=>?_⟩
 ·rw[gj]
  by_cases e:x=a
  ·subst e
   rw[Sort.swp_right dk j x (by omega)]
   exact h.left j (by omega) (by omega)
  ·rw[Sort.swp_other dk j a x (by omega) e]
   exact h.left x (by omega) (by omega)
 ·rw[gj,Sort.swp_other dk j a x (by omega) (by omega)]
  exact h.right x h1 h2
theorem Ex{α : Type}[Inhabited α]{g:Nat}{lb:Array Value}{sf:Nat}{sb:Array Value}{lt : α → α→Bool}{n B:Nat}{St:World→Array α→Prop}(H:Sr Tryz.prog g lb sf sb lt n B St)
  (a b pivot:Nat) (d:Array α) (w:World) (h:St w d) (hpa:a≤pivot) (hpb:pivot<b) (hb:b≤n) :
  Calls Tryz.prog 220 #[lsV g lb sf sb,.int .i64 a,.int .i64 b,.int .i64 pivot] w fun e w'=>∃ (m:Nat) (d':Array α),e = .returned (.int .i64 m)∧Zib lt d a b pivot m d'∧St w' d'∧Kp B w w':=by
 unfold lsV
 have hn:=H.small
 have eg:=H.enters
 have hlow:=H.low _ _ h
 have HD:=Zb (H.size _ _ h)
 have HSW:=Zb H.order
 obtain⟨N0,N1⟩:=W7 w (.func (.func g) #[] lb) (.func (.func sf) #[] sb) 272
 have SX:=Zb (H.alloc w d (.cells #[.func (.func g) #[] lb,.func (.func sf) #[] sb] 272) h)
 have KX:=Zb (Kp.alloc B w (.cells #[.func (.func g) #[] lb,.func (.func sf) #[] sb] 272))
 have HH:=Zb H
 clear H h
 obtain⟨w1,hs,hS1,hK1⟩:=(Za HH).swap _ d a pivot (Za SX) (by omega) (by omega)
 have M0:=Zb (hK1.cell hlow N0)
 have M1:=Zb (hK1.cell hlow N1)
 have HS1:=Zb hS1
 have KX1:=Zb (Kp.trans (Za KX) hK1)
 clear hS1 hK1
 obtain⟨jb,hjb⟩:∃ jb:Nat,jb+1=b:=⟨b - 1,by omega⟩
 have hjI:(b:Int) - 1=(jb:Int):=by omega
 have PST:=Zb (Pt.start (fun x=>!lt d[pivot]! x) a b (Sort.swp d a pivot) jb (by omega))
 go_enter Tryz.func220,Tryz.ntmps220
 go_wp2
 clear N0 N1 hs
 go_loopw [9,10] (fun s9 s10 wr=>∃ (i j:Nat) (dk:Array α),s9 = .int .i64 i∧s10 = .int .i64 j∧a<i∧i≤j+1∧j<b∧Hid (Pt (fun x=>!lt d[pivot]! x) a b (Sort.swp d a pivot) i j dk)∧Hid (St wr dk)∧Hid (Kp B w1 wr)) (fun s9 s10 _=>(intOf s10).toNat+1 - (intOf s9).toNat)
 case atStart=>exact⟨a+1,jb,_,by go_num,rfl,by omega,by omega,by omega,PST,HS1,Kp.refl _ _⟩
 case round=>
  obtain⟨i0,j0,dk,rfl,rfl,hai0,hij0,hjb0,HP0,HS0,HK0⟩:=hrel
  go_wp2_with fail
  go_loopw [9] (fun sa wr=>∃ i:Nat,sa = .int .i64 i∧a<i∧i0≤i∧i≤j0+1∧Hid (Pt (fun x=>!lt d[pivot]! x) a b (Sort.swp d a pivot) i j0 dk)∧Hid (St wr dk)∧Hid (Kp B w1 wr)) (fun sa _=>j0+1 - (intOf sa).toNat)
  case atStart=>exact⟨i0,by first|rfl|go_num|(have:=Za HI0;congr 1;omega),hai0,Nat.le_refl _,hij0,HP0,HS0,HK0⟩
  case round=>
   obtain⟨i,rfl,hai,hi0i,hij,HP,HS,HK⟩:=hrel
   have c0:=(Za HK).cell hlow (Za M0)
   have c1:=(Za HK).cell hlow (Za M1)
   have hsz:=World.block_lt_of_cell? _ _ c0
   have PV:=Zb (Za HP).piv
   by_cases hle:i≤j0
   ·have hl:=(Za HH).less wr dk a i (Za HS) (by omega) (by omega)
    have hpv:dk[a]! = d[pivot]!:=(Za PV).trans (Vl d a pivot (by rw[Za HD];omega) (by rw[Za HD];omega))
    cases hlv:lt dk[a]! dk[i]! with
    | false=>
     rw[hlv] at hl
     have HQ:=Zb ((Za HP).up (by rw[hpv] at hlv;simp[hlv]))
     clear hlv hpv
     go_wp2_with (go_at_fn g;refine hl.mono ?_;rintro e w' ⟨rfl,hS2,hK2⟩;have HK2:=Zb (Kp.trans (Za HK) hK2);have HS2:=Zb hS2;have d0:=(Za HK2).cell hlow (Za M0);have d1:=(Za HK2).cell hlow (Za M1);have dz:=World.block_lt_of_cell? _ _ d0;clear hS2 hK2)
     go_roundw
     case rel=>first|exact⟨i+1,by go_num,by omega,by omega,by omega,HQ,HS2,HK2⟩|((repeat apply Exists.intro);refine⟨?_,rfl⟩;exact⟨i+1,by go_num,by omega,by omega,by omega,HQ,HS2,HK2⟩)
     case measure=>simp[intOf];omega
    | true=>
     rw[hlv] at hl
     have HQ:Hid ((fun x=>!lt d[pivot]! x) dk[i]! = false):=by
      show _=_
      rw[hpv] at hlv
      simp[hlv]
     clear hlv hpv
     go_wp2_with (go_at_fn g;refine hl.mono ?_;rintro e w' ⟨rfl,hS2,hK2⟩;have HK2:=Zb (Kp.trans (Za HK) hK2);have HS2:=Zb hS2;have d0:=(Za HK2).cell hlow (Za M0);have d1:=(Za HK2).cell hlow (Za M1);have dz:=World.block_lt_of_cell? _ _ d0;clear hS2 hK2)
     go_loopw [10] (fun sa wr=>∃ j:Nat,sa = .int .i64 j∧i≤j+1∧j≤j0∧Hid (Pt (fun x=>!lt d[pivot]! x) a b (Sort.swp d a pivot) i j dk)∧Hid (St wr dk)∧Hid (Kp B w1 wr)) (fun sa _=>(intOf sa).toNat)
     case atStart=>exact⟨j0,by first|rfl|go_num,hij,Nat.le_refl _,HP,HS2,HK2⟩
     case round=>
      clear HP HS HK HS2 HK2 d0 d1 dz hl hij c0 c1 hsz
      obtain⟨j,rfl,hij,hjj,HP,HS,HK⟩:=hrel
      have c0:=(Za HK).cell hlow (Za M0)
      have c1:=(Za HK).cell hlow (Za M1)
      have hsz:=World.block_lt_of_cell? _ _ c0
      by_cases hle2:i≤j
      ·have hl:=(Za HH).less wr dk a j (Za HS) (by omega) (by omega)
       have hpv:dk[a]! = d[pivot]!:=(Za PV).trans (Vl d a pivot (by rw[Za HD];omega) (by rw[Za HD];omega))
       cases hlv:lt dk[a]! dk[j]! with
       | true=>
        rw[hlv] at hl
        have HQ2:=Zb ((Za HP).down (by rw[hpv] at hlv;simp[hlv]))
        clear hlv hpv
        go_wp2_with (go_at_fn g;refine hl.mono ?_;rintro e w' ⟨rfl,hS2,hK2⟩;have HK2:=Zb (Kp.trans (Za HK) hK2);have HS2:=Zb hS2;have d0:=(Za HK2).cell hlow (Za M0);have d1:=(Za HK2).cell hlow (Za M1);have dz:=World.block_lt_of_cell? _ _ d0;clear hS2 hK2)
        go_roundw
        case rel=>first|exact⟨j - 1,by congr 1 <;> omega,by omega,by omega,HQ2,HS2,HK2⟩|((repeat apply Exists.intro);refine⟨?_,rfl⟩;exact⟨j - 1,by congr 1 <;> omega,by omega,by omega,HQ2,HS2,HK2⟩)
        case measure=>simp[intOf];omega
       | false=>
        rw[hlv] at hl
        have HQ2:Hid ((fun x=>!lt d[pivot]! x) dk[j]! = true):=by
         show _=_
         rw[hpv] at hlv
         simp[hlv]
        have hne:i<j:=by
         rcases Nat.lt_or_eq_of_le hle2 with q|q
         ·exact q
         ·subst q
          exact Bool.noConfusion ((Za HQ).symm.trans (Za HQ2))
        have hgtB:decide ((j:Int)<(i:Int))=false:=decide_eq_false (by omega)
        have hgtN:decide (j<i)=false:=decide_eq_false (by omega)
        have HP3:=Zb ((Za HP).swap hai hne (by omega) (by rw[Sort.size_swp,Za HD];exact hb) (Za HQ) (Za HQ2))
        clear hlv hpv
        go_wp2_with (go_at_fn g;refine hl.mono ?_;rintro e w' ⟨rfl,hS2,hK2⟩;have HK2:=Zb (Kp.trans (Za HK) hK2);have d0:=(Za HK2).cell hlow (Za M0);have d1:=(Za HK2).cell hlow (Za M1);have dz:=World.block_lt_of_cell? _ _ d0;obtain⟨w3,hs,hS3,hK3⟩:=(Za HH).swap w' dk i j hS2 (by omega) (by omega);have HS3:=Zb hS3;have HK3:=Zb (Kp.trans (Za HK2) hK3);have e0:=(Za HK3).cell hlow (Za M0);have e1:=(Za HK3).cell hlow (Za M1);have ez:=World.block_lt_of_cell? _ _ e0;clear hS2 hK2 hS3 hK3)
        go_wp2
        go_roundw
        case rel=>first|exact⟨i+1,j - 1,_,by go_num,by congr 1 <;> omega,by omega,by omega,by omega,HP3,HS3,HK3⟩|((repeat apply Exists.intro);refine⟨?_,rfl⟩;exact⟨i+1,j - 1,_,by go_num,by congr 1 <;> omega,by omega,by omega,by omega,HP3,HS3,HK3⟩)
        case measure=>simp[intOf];omega
      ·have HEQ:Hid (i=j+1):=by show _=_;omega
       have hgt:j<i:=by omega
       clear HQ hle2
       go_wp2
       go_ret
       have RES:=Pt.eqok (Za HSW) hpa hpb (by rw[Za HD];exact hb) (Za HP) hai (Za HEQ) (by omega)
       first|exact⟨i,dk,rfl,RES,Za HS,Kp.trans (Za KX1) (Za HK)⟩|exact⟨i,rfl,dk,RES,Za HS,Kp.trans (Za KX1) (Za HK)⟩
   ·have HEQ:Hid (i=j0+1):=by show _=_;omega
    have hgt:j0<i:=by omega
    clear hle
    go_wp2_with fail
    refine wp_loop_rounds 1 ?_
    rw[rounds_succ]
    go_wp2
    go_ret
    have RES:=Pt.eqok (Za HSW) hpa hpb (by rw[Za HD];exact hb) (Za HP) hai (Za HEQ) (by omega)
    first|exact⟨i,dk,rfl,RES,Za HS,Kp.trans (Za KX1) (Za HK)⟩|exact⟨i,rfl,dk,RES,Za HS,Kp.trans (Za KX1) (Za HK)⟩
def PaPost{α : Type}[Inhabited α](lt : α → α→Bool)(d:Array α)(a b B:Nat)(St:World→Array α→Prop)(w:World)(e:Ending)(w':World):Prop:=
 ∃ (m:Nat) (t:Bool) (d':Array α),e = .returned (.tuple #[.int .i64 m,.bool t])∧Zau lt d a b m d'∧St w' d'∧Kp B w w'
theorem PaPost.of{α : Type}[Inhabited α]{lt : α → α→Bool}{d:Array α}{a b B:Nat}{St:World→Array α→Prop}{w w':World}(m:Nat)(t:Bool)(d':Array α)(h1:Zau lt d a b m d')(h2:St w' d')(h3:Kp B w w') :
  PaPost lt d a b B St w (.returned (.tuple #[.int .i64 m,.bool t])) w':=⟨m,t,d',rfl,h1,h2,h3⟩
theorem Zfe{α : Type}[Inhabited α]{g:Nat}{lb:Array Value}{sf:Nat}{sb:Array Value}{lt : α → α→Bool}{n B:Nat}{St:World→Array α→Prop}(H:Sr Tryz.prog g lb sf sb lt n B St)
  (a b pivot:Nat) (d:Array α) (w:World) (h:St w d) (hpa:a≤pivot) (hpb:pivot<b) (hb:b≤n) :
  Calls Tryz.prog 221 #[lsV g lb sf sb,.int .i64 a,.int .i64 b,.int .i64 pivot] w fun e w'=>PaPost lt d a b B St w e w':=by
 unfold lsV
 have hn:=H.small
 have eg:=H.enters
 have hlow:=H.low _ _ h
 have HD:=Zb (H.size _ _ h)
 have HSW:=Zb H.order
 obtain⟨N0,N1⟩:=W7 w (.func (.func g) #[] lb) (.func (.func sf) #[] sb) 272
 have SX:=Zb (H.alloc w d (.cells #[.func (.func g) #[] lb,.func (.func sf) #[] sb] 272) h)
 have KX:=Zb (Kp.alloc B w (.cells #[.func (.func g) #[] lb,.func (.func sf) #[] sb] 272))
 have HH:=Zb H
 clear H h
 obtain⟨w1,hs,hS1,hK1⟩:=(Za HH).swap _ d a pivot (Za SX) (by omega) (by omega)
 have M0:=Zb (hK1.cell hlow N0)
 have M1:=Zb (hK1.cell hlow N1)
 have HS1:=Zb hS1
 have KX1:=Zb (Kp.trans (Za KX) hK1)
 clear hS1 hK1
 obtain⟨jb,hjb⟩:∃ jb:Nat,jb+1=b:=⟨b - 1,by omega⟩
 have hjI:(b:Int) - 1=(jb:Int):=by omega
 have PST:=Zb (Pt.start (fun x=>lt x d[pivot]!) a b (Sort.swp d a pivot) jb (by omega))
 go_enter Tryz.func221,Tryz.ntmps221
 go_wp2
 clear N0 N1 hs
 obtain⟨i0,hi0⟩:∃ i0:Nat,i0=a+1:=⟨_,rfl⟩
 have hiI:(a:Int)+1=(i0:Int):=by omega
 obtain⟨dk,hdk⟩:∃ dk,dk=Sort.swp d a pivot:=⟨_,rfl⟩
 have HP0:Hid (Pt (fun x=>lt x d[pivot]!) a b (Sort.swp d a pivot) i0 jb dk):=by
  show Pt _ _ _ _ _ _ _
  rw[hi0,hdk]
  exact Za PST
 have HS0:Hid (St w1 dk):=by
  show St _ _
  rw[hdk]
  exact Za HS1
 have HK0:=Zb (Kp.refl B w1)
 have hai0:a<i0:=by omega
 have hij0:i0≤jb+1:=by omega
 have HI0:=Zb hi0
 clear hi0 hiI hdk PST HS1
 go_loopw [10] (fun sa wr=>∃ i:Nat,sa = .int .i64 i∧a<i∧i0≤i∧i≤jb+1∧Hid (Pt (fun x=>lt x d[pivot]!) a b (Sort.swp d a pivot) i jb dk)∧Hid (St wr dk)∧Hid (Kp B w1 wr)) (fun sa _=>jb+1 - (intOf sa).toNat)
 case atStart=>exact⟨i0,by first|rfl|go_num|(have:=Za HI0;congr 1;omega),hai0,Nat.le_refl _,hij0,HP0,HS0,HK0⟩
 case round=>
  obtain⟨i,rfl,hai,hi0i,hij,HP,HS,HK⟩:=hrel
  have c0:=(Za HK).cell hlow (Za M0)
  have c1:=(Za HK).cell hlow (Za M1)
  have hsz:=World.block_lt_of_cell? _ _ c0
  have PV:=Zb (Za HP).piv
  by_cases hle:i≤jb
  ·have hl:=(Za HH).less wr dk i a (Za HS) (by omega) (by omega)
   have hpv:dk[a]! = d[pivot]!:=(Za PV).trans (Vl d a pivot (by rw[Za HD];omega) (by rw[Za HD];omega))
   cases hlv:lt dk[i]! dk[a]! with
   | true=>
    rw[hlv] at hl
    have HQ:=Zb ((Za HP).up (by rw[hpv] at hlv;simp[hlv]))
    clear hlv hpv
    go_wp2_with (go_at_fn g;refine hl.mono ?_;rintro e w' ⟨rfl,hS2,hK2⟩;have HK2:=Zb (Kp.trans (Za HK) hK2);have HS2:=Zb hS2;have d0:=(Za HK2).cell hlow (Za M0);have d1:=(Za HK2).cell hlow (Za M1);have dz:=World.block_lt_of_cell? _ _ d0;clear hS2 hK2)
    go_roundw
    case rel=>first|exact⟨i+1,by go_num,by omega,by omega,by omega,HQ,HS2,HK2⟩|((repeat apply Exists.intro);refine⟨?_,rfl⟩;exact⟨i+1,by go_num,by omega,by omega,by omega,HQ,HS2,HK2⟩)
    case measure=>simp[intOf];omega
   | false=>
    rw[hlv] at hl
    have HQ:Hid ((fun x=>lt x d[pivot]!) dk[i]! = false):=by
     show _=_
     rw[hpv] at hlv
     simp[hlv]
    clear hlv hpv
    go_wp2_with (go_at_fn g;refine hl.mono ?_;rintro e w' ⟨rfl,hS2,hK2⟩;have HK2:=Zb (Kp.trans (Za HK) hK2);have HS2:=Zb hS2;have d0:=(Za HK2).cell hlow (Za M0);have d1:=(Za HK2).cell hlow (Za M1);have dz:=World.block_lt_of_cell? _ _ d0;clear hS2 hK2)
    go_loopw [11] (fun sa wr=>∃ j:Nat,sa = .int .i64 j∧i≤j+1∧j≤jb∧Hid (Pt (fun x=>lt x d[pivot]!) a b (Sort.swp d a pivot) i j dk)∧Hid (St wr dk)∧Hid (Kp B w1 wr)) (fun sa _=>(intOf sa).toNat)
    case atStart=>exact⟨jb,by first|rfl|go_num,hij,Nat.le_refl _,HP,HS2,HK2⟩
    case round=>
     clear HP HS HK HS2 HK2 d0 d1 dz hl hij c0 c1 hsz
     obtain⟨j,rfl,hij,hjj,HP,HS,HK⟩:=hrel
     have c0:=(Za HK).cell hlow (Za M0)
     have c1:=(Za HK).cell hlow (Za M1)
     have hsz:=World.block_lt_of_cell? _ _ c0
     by_cases hle2:i≤j
     ·have hl:=(Za HH).less wr dk j a (Za HS) (by omega) (by omega)
      have hpv:dk[a]! = d[pivot]!:=(Za PV).trans (Vl d a pivot (by rw[Za HD];omega) (by rw[Za HD];omega))
      cases hlv:lt dk[j]! dk[a]! with
      | false=>
       rw[hlv] at hl
       have HQ2:=Zb ((Za HP).down (by rw[hpv] at hlv;simp[hlv]))
       clear hlv hpv
       go_wp2_with (go_at_fn g;refine hl.mono ?_;rintro e w' ⟨rfl,hS2,hK2⟩;have HK2:=Zb (Kp.trans (Za HK) hK2);have HS2:=Zb hS2;have d0:=(Za HK2).cell hlow (Za M0);have d1:=(Za HK2).cell hlow (Za M1);have dz:=World.block_lt_of_cell? _ _ d0;clear hS2 hK2)
       go_roundw
       case rel=>first|exact⟨j - 1,by congr 1 <;> omega,by omega,by omega,HQ2,HS2,HK2⟩|((repeat apply Exists.intro);refine⟨?_,rfl⟩;exact⟨j - 1,by congr 1 <;> omega,by omega,by omega,HQ2,HS2,HK2⟩)
       case measure=>simp[intOf];omega
      | true=>
       rw[hlv] at hl
       have HQ2:Hid ((fun x=>lt x d[pivot]!) dk[j]! = true):=by
        show _=_
        rw[hpv] at hlv
        simp[hlv]
       have hne:i<j:=by
        rcases Nat.lt_or_eq_of_le hle2 with q|q
        ·exact q
        ·subst q
         exact Bool.noConfusion ((Za HQ).symm.trans (Za HQ2))
       have hgtB:decide ((j:Int)<(i:Int))=false:=decide_eq_false (by omega)
       have hgtN:decide (j<i)=false:=decide_eq_false (by omega)
       have HP3:=Zb ((Za HP).swap hai hne (by omega) (by rw[Sort.size_swp,Za HD];exact hb) (Za HQ) (Za HQ2))
       clear hlv hpv
       go_wp2_with (go_at_fn g;refine hl.mono ?_;rintro e w' ⟨rfl,hS2,hK2⟩;have HK2:=Zb (Kp.trans (Za HK) hK2);have d0:=(Za HK2).cell hlow (Za M0);have d1:=(Za HK2).cell hlow (Za M1);have dz:=World.block_lt_of_cell? _ _ d0;obtain⟨w3,hs,hS3,hK3⟩:=(Za HH).swap w' dk i j hS2 (by omega) (by omega);have HS3:=Zb hS3;have HK3:=Zb (Kp.trans (Za HK2) hK3);have e0:=(Za HK3).cell hlow (Za M0);have e1:=(Za HK3).cell hlow (Za M1);have ez:=World.block_lt_of_cell? _ _ e0;clear hS2 hK2 hS3 hK3)
       go_wp2
       clear HP HS HK HK2 d0 d1 dz hl hs e0 e1 ez HQ HQ2 PV
       go_loopw [10,11] (fun s10 s11 wr=>∃ (i j:Nat) (dk:Array α),s10 = .int .i64 i∧s11 = .int .i64 j∧a<i∧i≤j+1∧j<b∧Hid (Pt (fun x=>lt x d[pivot]!) a b (Sort.swp d a pivot) i j dk)∧Hid (St wr dk)∧Hid (Kp B w1 wr)) (fun s10 s11 _=>(intOf s11).toNat+1 - (intOf s10).toNat)
       case atStart=>exact⟨i+1,j - 1,_,by go_num,by congr 1 <;> omega,by omega,by omega,by omega,HP3,HS3,HK3⟩
       case round=>
        clear HP3 HS3 HK3 hai hij hle hle2 hjj hne hi0i hai0 hij0 HP0 HS0 HK0
        obtain⟨i0,j0,dk,rfl,rfl,hai0,hij0,hjb0,HP0,HS0,HK0⟩:=hrel
        go_wp2_with fail
        go_loopw [10] (fun sa wr=>∃ i:Nat,sa = .int .i64 i∧a<i∧i0≤i∧i≤j0+1∧Hid (Pt (fun x=>lt x d[pivot]!) a b (Sort.swp d a pivot) i j0 dk)∧Hid (St wr dk)∧Hid (Kp B w1 wr)) (fun sa _=>j0+1 - (intOf sa).toNat)
        case atStart=>exact⟨i0,by first|rfl|go_num|(have:=Za HI0;congr 1;omega),hai0,Nat.le_refl _,hij0,HP0,HS0,HK0⟩
        case round=>
         obtain⟨i,rfl,hai,hi0i,hij,HP,HS,HK⟩:=hrel
         have c0:=(Za HK).cell hlow (Za M0)
         have c1:=(Za HK).cell hlow (Za M1)
         have hsz:=World.block_lt_of_cell? _ _ c0
         have PV:=Zb (Za HP).piv
         by_cases hle:i≤j0
         ·have hl:=(Za HH).less wr dk i a (Za HS) (by omega) (by omega)
          have hpv:dk[a]! = d[pivot]!:=(Za PV).trans (Vl d a pivot (by rw[Za HD];omega) (by rw[Za HD];omega))
          cases hlv:lt dk[i]! dk[a]! with
          | true=>
           rw[hlv] at hl
           have HQ:=Zb ((Za HP).up (by rw[hpv] at hlv;simp[hlv]))
           clear hlv hpv
           go_wp2_with (go_at_fn g;refine hl.mono ?_;rintro e w' ⟨rfl,hS2,hK2⟩;have HK2:=Zb (Kp.trans (Za HK) hK2);have HS2:=Zb hS2;have d0:=(Za HK2).cell hlow (Za M0);have d1:=(Za HK2).cell hlow (Za M1);have dz:=World.block_lt_of_cell? _ _ d0;clear hS2 hK2)
           go_roundw
           case rel=>first|exact⟨i+1,by go_num,by omega,by omega,by omega,HQ,HS2,HK2⟩|((repeat apply Exists.intro);refine⟨?_,rfl⟩;exact⟨i+1,by go_num,by omega,by omega,by omega,HQ,HS2,HK2⟩)
           case measure=>simp[intOf];omega
          | false=>
           rw[hlv] at hl
           have HQ:Hid ((fun x=>lt x d[pivot]!) dk[i]! = false):=by
            show _=_
            rw[hpv] at hlv
            simp[hlv]
           clear hlv hpv
           go_wp2_with (go_at_fn g;refine hl.mono ?_;rintro e w' ⟨rfl,hS2,hK2⟩;have HK2:=Zb (Kp.trans (Za HK) hK2);have HS2:=Zb hS2;have d0:=(Za HK2).cell hlow (Za M0);have d1:=(Za HK2).cell hlow (Za M1);have dz:=World.block_lt_of_cell? _ _ d0;clear hS2 hK2)
           go_loopw [11] (fun sa wr=>∃ j:Nat,sa = .int .i64 j∧i≤j+1∧j≤j0∧Hid (Pt (fun x=>lt x d[pivot]!) a b (Sort.swp d a pivot) i j dk)∧Hid (St wr dk)∧Hid (Kp B w1 wr)) (fun sa _=>(intOf sa).toNat)
           case atStart=>exact⟨j0,by first|rfl|go_num,hij,Nat.le_refl _,HP,HS2,HK2⟩
           case round=>
            clear HP HS HK HS2 HK2 d0 d1 dz hl hij c0 c1 hsz
            obtain⟨j,rfl,hij,hjj,HP,HS,HK⟩:=hrel
            have c0:=(Za HK).cell hlow (Za M0)
            have c1:=(Za HK).cell hlow (Za M1)
            have hsz:=World.block_lt_of_cell? _ _ c0
            by_cases hle2:i≤j
            ·have hl:=(Za HH).less wr dk j a (Za HS) (by omega) (by omega)
             have hpv:dk[a]! = d[pivot]!:=(Za PV).trans (Vl d a pivot (by rw[Za HD];omega) (by rw[Za HD];omega))
             cases hlv:lt dk[j]! dk[a]! with
             | false=>
              rw[hlv] at hl
              have HQ2:=Zb ((Za HP).down (by rw[hpv] at hlv;simp[hlv]))
              clear hlv hpv
              go_wp2_with (go_at_fn g;refine hl.mono ?_;rintro e w' ⟨rfl,hS2,hK2⟩;have HK2:=Zb (Kp.trans (Za HK) hK2);have HS2:=Zb hS2;have d0:=(Za HK2).cell hlow (Za M0);have d1:=(Za HK2).cell hlow (Za M1);have dz:=World.block_lt_of_cell? _ _ d0;clear hS2 hK2)
              go_roundw
              case rel=>first|exact⟨j - 1,by congr 1 <;> omega,by omega,by omega,HQ2,HS2,HK2⟩|((repeat apply Exists.intro);refine⟨?_,rfl⟩;exact⟨j - 1,by congr 1 <;> omega,by omega,by omega,HQ2,HS2,HK2⟩)
              case measure=>simp[intOf];omega
             | true=>
              rw[hlv] at hl
              have HQ2:Hid ((fun x=>lt x d[pivot]!) dk[j]! = true):=by
               show _=_
               rw[hpv] at hlv
               simp[hlv]
              have hne:i<j:=by
               rcases Nat.lt_or_eq_of_le hle2 with q|q
               ·exact q
               ·subst q
                exact Bool.noConfusion ((Za HQ).symm.trans (Za HQ2))
              have hgtB:decide ((j:Int)<(i:Int))=false:=decide_eq_false (by omega)
              have hgtN:decide (j<i)=false:=decide_eq_false (by omega)
              have HP3:=Zb ((Za HP).swap hai hne (by omega) (by rw[Sort.size_swp,Za HD];exact hb) (Za HQ) (Za HQ2))
              clear hlv hpv
              go_wp2_with (go_at_fn g;refine hl.mono ?_;rintro e w' ⟨rfl,hS2,hK2⟩;have HK2:=Zb (Kp.trans (Za HK) hK2);have d0:=(Za HK2).cell hlow (Za M0);have d1:=(Za HK2).cell hlow (Za M1);have dz:=World.block_lt_of_cell? _ _ d0;obtain⟨w3,hs,hS3,hK3⟩:=(Za HH).swap w' dk i j hS2 (by omega) (by omega);have HS3:=Zb hS3;have HK3:=Zb (Kp.trans (Za HK2) hK3);have e0:=(Za HK3).cell hlow (Za M0);have e1:=(Za HK3).cell hlow (Za M1);have ez:=World.block_lt_of_cell? _ _ e0;clear hS2 hK2 hS3 hK3)
              go_wp2
              go_roundw
              case rel=>first|exact⟨i+1,j - 1,_,by go_num,by congr 1 <;> omega,by omega,by omega,by omega,HP3,HS3,HK3⟩|((repeat apply Exists.intro);refine⟨?_,rfl⟩;exact⟨i+1,j - 1,_,by go_num,by congr 1 <;> omega,by omega,by omega,by omega,HP3,HS3,HK3⟩)
              case measure=>simp[intOf];omega
            ·have HEQ:Hid (i=j+1):=by show _=_;omega
             have hgt:j<i:=by omega
             clear HQ hle2
             obtain⟨w9,hs9,hS9,hK9⟩:=(Za HH).swap _ dk j a (Za HS) (by omega) (by omega)
             have HS9:=Zb hS9
             have HK9:=Zb (Kp.trans (Za HK) hK9)
             clear hS9 hK9
             go_wp2
             go_ret2
             have RES:=Pt.paok hpa hpb (by rw[Za HD];exact hb) (Za HP) hai (Za HEQ) (by omega)
             exact PaPost.of j false _ RES (Za HS9) (Kp.trans (Za KX1) (Za HK9))
         ·have HEQ:Hid (i=j0+1):=by show _=_;omega
          have hgt:j0<i:=by omega
          clear hle
          go_wp2_with fail
          refine wp_loop_rounds 1 ?_
          rw[rounds_succ]
          obtain⟨w9,hs9,hS9,hK9⟩:=(Za HH).swap _ dk j0 a (Za HS) (by omega) (by omega)
          have HS9:=Zb hS9
          have HK9:=Zb (Kp.trans (Za HK) hK9)
          clear hS9 hK9
          go_wp2
          go_ret2
          have RES:=Pt.paok hpa hpb (by rw[Za HD];exact hb) (Za HP) hai (Za HEQ) (by omega)
          exact PaPost.of j0 false _ RES (Za HS9) (Kp.trans (Za KX1) (Za HK9))
     ·have HEQ:Hid (i=j+1):=by show _=_;omega
      have hgt:j<i:=by omega
      clear HQ hle2
      obtain⟨w9,hs9,hS9,hK9⟩:=(Za HH).swap _ dk j a (Za HS) (by omega) (by omega)
      have HS9:=Zb hS9
      have HK9:=Zb (Kp.trans (Za HK) hK9)
      clear hS9 hK9
      go_wp2
      go_ret2
      have RES:=Pt.paok hpa hpb (by rw[Za HD];exact hb) (Za HP) hai (Za HEQ) (by omega)
      exact PaPost.of j true _ RES (Za HS9) (Kp.trans (Za KX1) (Za HK9))
  ·have HEQ:Hid (i=jb+1):=by show _=_;omega
   have hgt:jb<i:=by omega
   clear hle
   go_wp2_with fail
   refine wp_loop_rounds 1 ?_
   rw[rounds_succ]
   obtain⟨w9,hs9,hS9,hK9⟩:=(Za HH).swap _ dk jb a (Za HS) (by omega) (by omega)
   have HS9:=Zb hS9
   have HK9:=Zb (Kp.trans (Za HK) hK9)
   clear hS9 hK9
   go_wp2
   go_ret2
   have RES:=Pt.paok hpa hpb (by rw[Za HD];exact hb) (Za HP) hai (Za HEQ) (by omega)
   exact PaPost.of jb true _ RES (Za HS9) (Kp.trans (Za KX1) (Za HK9))
end Go.Proofs.YtpikejjiignchaaGreatDoor
