import Derived.Test.YtpikejjiignchaaGreatDoorG28
set_option maxHeartbeats 12800000
set_option maxRecDepth 10000
namespace Go.Proofs.YtpikejjiignchaaGreatDoor
open Go.RowKit
theorem Zdq{α : Type}[Inhabited α]{g:Nat}{lb:Array Value}{sf:Nat}{sb:Array Value}{lt : α → α→Bool}{n B:Nat}{St:World→Array α→Prop}(H:Sr Tryz.prog g lb sf sb lt n B St)
  (a b pivot:Nat) (d:Array α) (w:World) (h:St w d) (hpa:a≤pivot) (hpb:pivot<b) (hb:b≤n) :
  Calls Tryz.prog 220 #[lsV g lb sf sb,.int .i64 a,.int .i64 b,.int .i64 pivot] w fun e w'=>∃ (m:Nat) (d':Array α),e = .returned (.int .i64 m)∧Zly lt d a b pivot m d'∧St w' d'∧Kp B w w':=by
 unfold lsV
 have hn:=H.small
 have eg:=H.enters
 have hlow:=H.low _ _ h
 have HD:=Zb (H.size _ _ h)
 have HSW:=Zb H.order
 obtain⟨N0,N1⟩:=Vo w (.func (.func g) #[] lb) (.func (.func sf) #[] sb) 272
 have SX:=Zb (H.alloc w d (.cells #[.func (.func g) #[] lb,.func (.func sf) #[] sb] 272) h)
 have KX:=Zb (Kp.alloc B w (.cells #[.func (.func g) #[] lb,.func (.func sf) #[] sb] 272))
 have HH:=Zb H
 clear H h
 obtain⟨w1,hs,hS1,hK1⟩:=(Za HH).swap _ d a pivot (Za SX) (by omega) (by omega)
 have M0:=Zb (hK1.cell hlow N0)
 have M1:=Zb (hK1.cell hlow N1)
 have HS1:=Zb hS1
 have KX1:=Zb (Kp.trans (Za KX) hK1)
 clear hS1 hK1
 obtain⟨jb,hjb⟩:∃ jb:Nat,jb+1=b:=⟨b - 1,by omega⟩
 have hjI:(b:Int) - 1=(jb:Int):=by omega
 have PST:=Zb (Pt.start (fun x=>!lt d[pivot]! x) a b (Sort.swp d a pivot) jb (by omega))
 go_enter Tryz.func220,Tryz.ntmps220
 go_wp2
 clear N0 N1 hs
 go_loopw [9,10] (fun s9 s10 wr=>∃ (i j:Nat) (dk:Array α),s9 = .int .i64 i∧s10 = .int .i64 j∧a<i∧i≤j+1∧j<b∧Hid (Pt (fun x=>!lt d[pivot]! x) a b (Sort.swp d a pivot) i j dk)∧Hid (St wr dk)∧Hid (Kp B w1 wr)) (fun s9 s10 _=>(intOf s10).toNat+1 - (intOf s9).toNat)
 case atStart=>exact⟨a+1,jb,_,by go_num,rfl,by omega,by omega,by omega,PST,HS1,Kp.refl _ _⟩
 case round=>
  obtain⟨i0,j0,dk,rfl,rfl,hai0,hij0,hjb0,HP0,HS0,HK0⟩:=hrel
  go_wp2_with fail
  go_loopw [9] (fun sa wr=>∃ i:Nat,sa = .int .i64 i∧a<i∧i0≤i∧i≤j0+1∧Hid (Pt (fun x=>!lt d[pivot]! x) a b (Sort.swp d a pivot) i j0 dk)∧Hid (St wr dk)∧Hid (Kp B w1 wr)) (fun sa _=>j0+1 - (intOf sa).toNat)
  case atStart=>exact⟨i0,by first|rfl|go_num|(have:=Za HI0;congr 1;omega),hai0,Nat.le_refl _,hij0,HP0,HS0,HK0⟩
  case round=>
   obtain⟨i,rfl,hai,hi0i,hij,HP,HS,HK⟩:=hrel
   have c0:=(Za HK).cell hlow (Za M0)
   have c1:=(Za HK).cell hlow (Za M1)
   have hsz:=World.block_lt_of_cell? _ _ c0
   have PV:=Zb (Za HP).piv
   by_cases hle:i≤j0
   ·have hl:=(Za HH).less wr dk a i (Za HS) (by omega) (by omega)
    have hpv:dk[a]! = d[pivot]!:=(Za PV).trans (V5 d a pivot (by rw[Za HD];omega) (by rw[Za HD];omega))
    cases hlv:lt dk[a]! dk[i]! with
    | false=>
     rw[hlv] at hl
     have HQ:=Zb ((Za HP).up (by rw[hpv] at hlv;simp[hlv]))
     clear hlv hpv
     go_wp2_with (go_at_fn g;refine hl.mono ?_;rintro e w' ⟨rfl,hS2,hK2⟩;have HK2:=Zb (Kp.trans (Za HK) hK2);have HS2:=Zb hS2;have d0:=(Za HK2).cell hlow (Za M0);have d1:=(Za HK2).cell hlow (Za M1);have dz:=World.block_lt_of_cell? _ _ d0;clear hS2 hK2)
     go_roundw
     case rel=>first|exact⟨i+1,by go_num,by omega,by omega,by omega,HQ,HS2,HK2⟩|((repeat apply Exists.intro);refine⟨?_,rfl⟩;exact⟨i+1,by go_num,by omega,by omega,by omega,HQ,HS2,HK2⟩)
     case measure=>simp[intOf];omega
    | true=>
     rw[hlv] at hl
     have HQ:Hid ((fun x=>!lt d[pivot]! x) dk[i]! = false):=by
      show _=_
      rw[hpv] at hlv
      simp[hlv]
     clear hlv hpv
     go_wp2_with (go_at_fn g;refine hl.mono ?_;rintro e w' ⟨rfl,hS2,hK2⟩;have HK2:=Zb (Kp.trans (Za HK) hK2);have HS2:=Zb hS2;have d0:=(Za HK2).cell hlow (Za M0);have d1:=(Za HK2).cell hlow (Za M1);have dz:=World.block_lt_of_cell? _ _ d0;clear hS2 hK2)
     go_loopw [10] (fun sa wr=>∃ j:Nat,sa = .int .i64 j∧i≤j+1∧j≤j0∧Hid (Pt (fun x=>!lt d[pivot]! x) a b (Sort.swp d a pivot) i j dk)∧Hid (St wr dk)∧Hid (Kp B w1 wr)) (fun sa _=>(intOf sa).toNat)
     case atStart=>exact⟨j0,by first|rfl|go_num,hij,Nat.le_refl _,HP,HS2,HK2⟩
     case round=>
      clear HP HS HK HS2 HK2 d0 d1 dz hl hij c0 c1 hsz
      obtain⟨j,rfl,hij,hjj,HP,HS,HK⟩:=hrel
      have c0:=(Za HK).cell hlow (Za M0)
      have c1:=(Za HK).cell hlow (Za M1)
      have hsz:=World.block_lt_of_cell? _ _ c0
      by_cases hle2:i≤j
      ·have hl:=(Za HH).less wr dk a j (Za HS) (by omega) (by omega)
       have hpv:dk[a]! = d[pivot]!:=(Za PV).trans (V5 d a pivot (by rw[Za HD];omega) (by rw[Za HD];omega))
       cases hlv:lt dk[a]! dk[j]! with
       | true=>
        rw[hlv] at hl
        have HQ2:=Zb ((Za HP).down (by rw[hpv] at hlv;simp[hlv]))
        clear hlv hpv
        go_wp2_with (go_at_fn g;refine hl.mono ?_;rintro e w' ⟨rfl,hS2,hK2⟩;have HK2:=Zb (Kp.trans (Za HK) hK2);have HS2:=Zb hS2;have d0:=(Za HK2).cell hlow (Za M0);have d1:=(Za HK2).cell hlow (Za M1);have dz:=World.block_lt_of_cell? _ _ d0;clear hS2 hK2)
        go_roundw
        case rel=>first|exact⟨j - 1,by congr 1 <;> omega,by omega,by omega,HQ2,HS2,HK2⟩|((repeat apply Exists.intro);refine⟨?_,rfl⟩;exact⟨j - 1,by congr 1 <;> omega,by omega,by omega,HQ2,HS2,HK2⟩)
        case measure=>simp[intOf];omega
       | false=>
        rw[hlv] at hl
        have HQ2:Hid ((fun x=>!lt d[pivot]! x) dk[j]! = true):=by
         show _=_
         rw[hpv] at hlv
         simp[hlv]
        have hne:i<j:=by
         rcases Nat.lt_or_eq_of_le hle2 with q|q
         ·exact q
         ·subst q
          exact Bool.noConfusion ((Za HQ).symm.trans (Za HQ2))
        have hgtB:decide ((j:Int)<(i:Int))=false:=decide_eq_false (by omega)
        have hgtN:decide (j<i)=false:=decide_eq_false (by omega)
        have HP3:=Zb ((Za HP).swap hai hne (by omega) (by rw[Sort.size_swp,Za HD];exact hb) (Za HQ) (Za HQ2))
        clear hlv hpv
        go_wp2_with (go_at_fn g;refine hl.mono ?_;rintro e w' ⟨rfl,hS2,hK2⟩;have HK2:=Zb (Kp.trans (Za HK) hK2);have d0:=(Za HK2).cell hlow (Za M0);have d1:=(Za HK2).cell hlow (Za M1);have dz:=World.block_lt_of_cell? _ _ d0;obtain⟨w3,hs,hS3,hK3⟩:=(Za HH).swap w' dk i j hS2 (by omega) (by omega);have HS3:=Zb hS3;have HK3:=Zb (Kp.trans (Za HK2) hK3);have e0:=(Za HK3).cell hlow (Za M0);have e1:=(Za HK3).cell hlow (Za M1);have ez:=World.block_lt_of_cell? _ _ e0;clear hS2 hK2 hS3 hK3)
        go_wp2
        go_roundw
        case rel=>first|exact⟨i+1,j - 1,_,by go_num,by congr 1 <;> omega,by omega,by omega,by omega,HP3,HS3,HK3⟩|((repeat apply Exists.intro);refine⟨?_,rfl⟩;exact⟨i+1,j - 1,_,by go_num,by congr 1 <;> omega,by omega,by omega,by omega,HP3,HS3,HK3⟩)
        case measure=>simp[intOf];omega
      ·have HEQ:Hid (i=j+1):=by show _=_;omega
       have hgt:j<i:=by omega
       clear HQ hle2
       go_wp2
       go_ret
       have RES:=Pt.eqok (Za HSW) hpa hpb (by rw[Za HD];exact hb) (Za HP) hai (Za HEQ) (by omega)
       first|exact⟨i,dk,rfl,RES,Za HS,Kp.trans (Za KX1) (Za HK)⟩|exact⟨i,rfl,dk,RES,Za HS,Kp.trans (Za KX1) (Za HK)⟩
   ·have HEQ:Hid (i=j0+1):=by show _=_;omega
    have hgt:j0<i:=by omega
    clear hle
    go_wp2_with fail
    refine wp_loop_rounds 1 ?_
    rw[rounds_succ]
    go_wp2
    go_ret
    have RES:=Pt.eqok (Za HSW) hpa hpb (by rw[Za HD];exact hb) (Za HP) hai (Za HEQ) (by omega)
    first|exact⟨i,dk,rfl,RES,Za HS,Kp.trans (Za KX1) (Za HK)⟩|exact⟨i,rfl,dk,RES,Za HS,Kp.trans (Za KX1) (Za HK)⟩
def PaPost{α : Type}[Inhabited α](lt : α → α→Bool)(d:Array α)(a b B:Nat)(St:World→Array α→Prop)(w:World)(e:Ending)(w':World):Prop:=
 ∃ (m:Nat) (t:Bool) (d':Array α),e = .returned (.tuple #[.int .i64 m,.bool t])∧Zer lt d a b m d'∧St w' d'∧Kp B w w'
theorem PaPost.of{α : Type}[Inhabited α]{lt : α → α→Bool}{d:Array α}{a b B:Nat}{St:World→Array α→Prop}{w w':World}(m:Nat)(t:Bool)(d':Array α)(h1:Zer lt d a b m d')(h2:St w' d')(h3:Kp B w w') :
  PaPost lt d a b B St w (.returned (.tuple #[.int .i64 m,.bool t])) w':=⟨m,t,d',rfl,h1,h2,h3⟩
theorem Zjg{α : Type}[Inhabited α]{g:Nat}{lb:Array Value}{sf:Nat}{sb:Array Value}{lt : α → α→Bool}{n B:Nat}{St:World→Array α→Prop}(H:Sr Tryz.prog g lb sf sb lt n B St)
  (a b pivot:Nat) (d:Array α) (w:World) (h:St w d) (hpa:a≤pivot) (hpb:pivot<b) (hb:b≤n) :
  Calls Tryz.prog 221 #[lsV g lb sf sb,.int .i64 a,.int .i64 b,.int .i64 pivot] w fun e w'=>PaPost lt d a b B St w e w':=by
 unfold lsV
 have hn:=H.small
 have eg:=H.enters
 have hlow:=H.low _ _ h
 have HD:=Zb (H.size _ _ h)
 have HSW:=Zb H.order
 obtain⟨N0,N1⟩:=Vo w (.func (.func g) #[] lb) (.func (.func sf) #[] sb) 272
 have SX:=Zb (H.alloc w d (.cells #[.func (.func g) #[] lb,.func (.func sf) #[] sb] 272) h)
 have KX:=Zb (Kp.alloc B w (.cells #[.func (.func g) #[] lb,.func (.func sf) #[] sb] 272))
 have HH:=Zb H
 clear H h
 obtain⟨w1,hs,hS1,hK1⟩:=(Za HH).swap _ d a pivot (Za SX) (by omega) (by omega)
 have M0:=Zb (hK1.cell hlow N0)
 have M1:=Zb (hK1.cell hlow N1)
 have HS1:=Zb hS1
 have KX1:=Zb (Kp.trans (Za KX) hK1)
 clear hS1 hK1
 obtain⟨jb,hjb⟩:∃ jb:Nat,jb+1=b:=⟨b - 1,by omega⟩
 have hjI:(b:Int) - 1=(jb:Int):=by omega
 have PST:=Zb (Pt.start (fun x=>lt x d[pivot]!) a b (Sort.swp d a pivot) jb (by omega))
 go_enter Tryz.func221,Tryz.ntmps221
 go_wp2
 clear N0 N1 hs
 obtain⟨i0,hi0⟩:∃ i0:Nat,i0=a+1:=⟨_,rfl⟩
 have hiI:(a:Int)+1=(i0:Int):=by omega
 obtain⟨dk,hdk⟩:∃ dk,dk=Sort.swp d a pivot:=⟨_,rfl⟩
 have HP0:Hid (Pt (fun x=>lt x d[pivot]!) a b (Sort.swp d a pivot) i0 jb dk):=by
  show Pt _ _ _ _ _ _ _
  rw[hi0,hdk]
  exact Za PST
 have HS0:Hid (St w1 dk):=by
  show St _ _
  rw[hdk]
  exact Za HS1
 have HK0:=Zb (Kp.refl B w1)
 have hai0:a<i0:=by omega
 have hij0:i0≤jb+1:=by omega
 have HI0:=Zb hi0
 clear hi0 hiI hdk PST HS1
 go_loopw [10] (fun sa wr=>∃ i:Nat,sa = .int .i64 i∧a<i∧i0≤i∧i≤jb+1∧Hid (Pt (fun x=>lt x d[pivot]!) a b (Sort.swp d a pivot) i jb dk)∧Hid (St wr dk)∧Hid (Kp B w1 wr)) (fun sa _=>jb+1 - (intOf sa).toNat)
 case atStart=>exact⟨i0,by first|rfl|go_num|(have:=Za HI0;congr 1;omega),hai0,Nat.le_refl _,hij0,HP0,HS0,HK0⟩
 case round=>
  obtain⟨i,rfl,hai,hi0i,hij,HP,HS,HK⟩:=hrel
  have c0:=(Za HK).cell hlow (Za M0)
  have c1:=(Za HK).cell hlow (Za M1)
  have hsz:=World.block_lt_of_cell? _ _ c0
  have PV:=Zb (Za HP).piv
  by_cases hle:i≤jb
  ·have hl:=(Za HH).less wr dk i a (Za HS) (by omega) (by omega)
   have hpv:dk[a]! = d[pivot]!:=(Za PV).trans (V5 d a pivot (by rw[Za HD];omega) (by rw[Za HD];omega))
   cases hlv:lt dk[i]! dk[a]! with
   | true=>
    rw[hlv] at hl
    have HQ:=Zb ((Za HP).up (by rw[hpv] at hlv;simp[hlv]))
    clear hlv hpv
    go_wp2_with (go_at_fn g;refine hl.mono ?_;rintro e w' ⟨rfl,hS2,hK2⟩;have HK2:=Zb (Kp.trans (Za HK) hK2);have HS2:=Zb hS2;have d0:=(Za HK2).cell hlow (Za M0);have d1:=(Za HK2).cell hlow (Za M1);have dz:=World.block_lt_of_cell? _ _ d0;clear hS2 hK2)
    go_roundw
    case rel=>first|exact⟨i+1,by go_num,by omega,by omega,by omega,HQ,HS2,HK2⟩|((repeat apply Exists.intro);refine⟨?_,rfl⟩;exact⟨i+1,by go_num,by omega,by omega,by omega,HQ,HS2,HK2⟩)
    case measure=>simp[intOf];omega
   | false=>
    rw[hlv] at hl
    have HQ:Hid ((fun x=>lt x d[pivot]!) dk[i]! = false):=by
     show _=_
     rw[hpv] at hlv
     simp[hlv]
    clear hlv hpv
    go_wp2_with (go_at_fn g;refine hl.mono ?_;rintro e w' ⟨rfl,hS2,hK2⟩;have HK2:=Zb (Kp.trans (Za HK) hK2);have HS2:=Zb hS2;have d0:=(Za HK2).cell hlow (Za M0);have d1:=(Za HK2).cell hlow (Za M1);have dz:=World.block_lt_of_cell? _ _ d0;clear hS2 hK2)
    go_loopw [11] (fun sa wr=>∃ j:Nat,sa = .int .i64 j∧i≤j+1∧j≤jb∧Hid (Pt (fun x=>lt x d[pivot]!) a b (Sort.swp d a pivot) i j dk)∧Hid (St wr dk)∧Hid (Kp B w1 wr)) (fun sa _=>(intOf sa).toNat)
    case atStart=>exact⟨jb,by first|rfl|go_num,hij,Nat.le_refl _,HP,HS2,HK2⟩
    case round=>
     clear HP HS HK HS2 HK2 d0 d1 dz hl hij c0 c1 hsz
     obtain⟨j,rfl,hij,hjj,HP,HS,HK⟩:=hrel
     have c0:=(Za HK).cell hlow (Za M0)
     have c1:=(Za HK).cell hlow (Za M1)
     have hsz:=World.block_lt_of_cell? _ _ c0
     by_cases hle2:i≤j
     ·have hl:=(Za HH).less wr dk j a (Za HS) (by omega) (by omega)
      have hpv:dk[a]! = d[pivot]!:=(Za PV).trans (V5 d a pivot (by rw[Za HD];omega) (by rw[Za HD];omega))
      cases hlv:lt dk[j]! dk[a]! with
      | false=>
       rw[hlv] at hl
       have HQ2:=Zb ((Za HP).down (by rw[hpv] at hlv;simp[hlv]))
       clear hlv hpv
       go_wp2_with (go_at_fn g;refine hl.mono ?_;rintro e w' ⟨rfl,hS2,hK2⟩;have HK2:=Zb (Kp.trans (Za HK) hK2);have HS2:=Zb hS2;have d0:=(Za HK2).cell hlow (Za M0);have d1:=(Za HK2).cell hlow (Za M1);have dz:=World.block_lt_of_cell? _ _ d0;clear hS2 hK2)
       go_roundw
       case rel=>first|exact⟨j - 1,by congr 1 <;> omega,by omega,by omega,HQ2,HS2,HK2⟩|((repeat apply Exists.intro);refine⟨?_,rfl⟩;exact⟨j - 1,by congr 1 <;> omega,by omega,by omega,HQ2,HS2,HK2⟩)
       case measure=>simp[intOf];omega
      | true=>
       rw[hlv] at hl
       have HQ2:Hid ((fun x=>lt x d[pivot]!) dk[j]! = true):=by
        show _=_
        rw[hpv] at hlv
        simp[hlv]
       have hne:i<j:=by
        rcases Nat.lt_or_eq_of_le hle2 with q|q
        ·exact q
        ·subst q
         exact Bool.noConfusion ((Za HQ).symm.trans (Za HQ2))
       have hgtB:decide ((j:Int)<(i:Int))=false:=decide_eq_false (by omega)
       have hgtN:decide (j<i)=false:=decide_eq_false (by omega)
       have HP3:=Zb ((Za HP).swap hai hne (by omega) (by rw[Sort.size_swp,Za HD];exact hb) (Za HQ) (Za HQ2))
       clear hlv hpv
       go_wp2_with (go_at_fn g;refine hl.mono ?_;rintro e w' ⟨rfl,hS2,hK2⟩;have HK2:=Zb (Kp.trans (Za HK) hK2);have d0:=(Za HK2).cell hlow (Za M0);have d1:=(Za HK2).cell hlow (Za M1);have dz:=World.block_lt_of_cell? _ _ d0;obtain⟨w3,hs,hS3,hK3⟩:=(Za HH).swap w' dk i j hS2 (by omega) (by omega);have HS3:=Zb hS3;have HK3:=Zb (Kp.trans (Za HK2) hK3);have e0:=(Za HK3).cell hlow (Za M0);have e1:=(Za HK3).cell hlow (Za M1);have ez:=World.block_lt_of_cell? _ _ e0;clear hS2 hK2 hS3 hK3)
       go_wp2
       clear HP HS HK HK2 d0 d1 dz hl hs e0 e1 ez HQ HQ2 PV
       go_loopw [10,11] (fun s10 s11 wr=>∃ (i j:Nat) (dk:Array α),s10 = .int .i64 i∧s11 = .int .i64 j∧a<i∧i≤j+1∧j<b∧Hid (Pt (fun x=>lt x d[pivot]!) a b (Sort.swp d a pivot) i j dk)∧Hid (St wr dk)∧Hid (Kp B w1 wr)) (fun s10 s11 _=>(intOf s11).toNat+1 - (intOf s10).toNat)
       case atStart=>exact⟨i+1,j - 1,_,by go_num,by congr 1 <;> omega,by omega,by omega,by omega,HP3,HS3,HK3⟩
       case round=>
        clear HP3 HS3 HK3 hai hij hle hle2 hjj hne hi0i hai0 hij0 HP0 HS0 HK0
        obtain⟨i0,j0,dk,rfl,rfl,hai0,hij0,hjb0,HP0,HS0,HK0⟩:=hrel
        go_wp2_with fail
        go_loopw [10] (fun sa wr=>∃ i:Nat,sa = .int .i64 i∧a<i∧i0≤i∧i≤j0+1∧Hid (Pt (fun x=>lt x d[pivot]!) a b (Sort.swp d a pivot) i j0 dk)∧Hid (St wr dk)∧Hid (Kp B w1 wr)) (fun sa _=>j0+1 - (intOf sa).toNat)
        case atStart=>exact⟨i0,by first|rfl|go_num|(have:=Za HI0;congr 1;omega),hai0,Nat.le_refl _,hij0,HP0,HS0,HK0⟩
        case round=>
         obtain⟨i,rfl,hai,hi0i,hij,HP,HS,HK⟩:=hrel
         have c0:=(Za HK).cell hlow (Za M0)
         have c1:=(Za HK).cell hlow (Za M1)
         have hsz:=World.block_lt_of_cell? _ _ c0
         have PV:=Zb (Za HP).piv
         by_cases hle:i≤j0
         ·have hl:=(Za HH).less wr dk i a (Za HS) (by omega) (by omega)
          have hpv:dk[a]! = d[pivot]!:=(Za PV).trans (V5 d a pivot (by rw[Za HD];omega) (by rw[Za HD];omega))
          cases hlv:lt dk[i]! dk[a]! with
          | true=>
           rw[hlv] at hl
           have HQ:=Zb ((Za HP).up (by rw[hpv] at hlv;simp[hlv]))
           clear hlv hpv
           go_wp2_with (go_at_fn g;refine hl.mono ?_;rintro e w' ⟨rfl,hS2,hK2⟩;have HK2:=Zb (Kp.trans (Za HK) hK2);have HS2:=Zb hS2;have d0:=(Za HK2).cell hlow (Za M0);have d1:=(Za HK2).cell hlow (Za M1);have dz:=World.block_lt_of_cell? _ _ d0;clear hS2 hK2)
           go_roundw
           case rel=>first|exact⟨i+1,by go_num,by omega,by omega,by omega,HQ,HS2,HK2⟩|((repeat apply Exists.intro);refine⟨?_,rfl⟩;exact⟨i+1,by go_num,by omega,by omega,by omega,HQ,HS2,HK2⟩)
           case measure=>simp[intOf];omega
          | false=>
           rw[hlv] at hl
           have HQ:Hid ((fun x=>lt x d[pivot]!) dk[i]! = false):=by
            show _=_
            rw[hpv] at hlv
            simp[hlv]
           clear hlv hpv
           go_wp2_with (go_at_fn g;refine hl.mono ?_;rintro e w' ⟨rfl,hS2,hK2⟩;have HK2:=Zb (Kp.trans (Za HK) hK2);have HS2:=Zb hS2;have d0:=(Za HK2).cell hlow (Za M0);have d1:=(Za HK2).cell hlow (Za M1);have dz:=World.block_lt_of_cell? _ _ d0;clear hS2 hK2)
           go_loopw [11] (fun sa wr=>∃ j:Nat,sa = .int .i64 j∧i≤j+1∧j≤j0∧Hid (Pt (fun x=>lt x d[pivot]!) a b (Sort.swp d a pivot) i j dk)∧Hid (St wr dk)∧Hid (Kp B w1 wr)) (fun sa _=>(intOf sa).toNat)
           case atStart=>exact⟨j0,by first|rfl|go_num,hij,Nat.le_refl _,HP,HS2,HK2⟩
           case round=>
            clear HP HS HK HS2 HK2 d0 d1 dz hl hij c0 c1 hsz
            obtain⟨j,rfl,hij,hjj,HP,HS,HK⟩:=hrel
            have c0:=(Za HK).cell hlow (Za M0)
            have c1:=(Za HK).cell hlow (Za M1)
            have hsz:=World.block_lt_of_cell? _ _ c0
            by_cases hle2:i≤j
            ·have hl:=(Za HH).less wr dk j a (Za HS) (by omega) (by omega)
             have hpv:dk[a]! = d[pivot]!:=(Za PV).trans (V5 d a pivot (by rw[Za HD];omega) (by rw[Za HD];omega))
             cases hlv:lt dk[j]! dk[a]! with
             | false=>
              rw[hlv] at hl
              have HQ2:=Zb ((Za HP).down (by rw[hpv] at hlv;simp[hlv]))
              clear hlv hpv
              go_wp2_with (go_at_fn g;refine hl.mono ?_;rintro e w' ⟨rfl,hS2,hK2⟩;have HK2:=Zb (Kp.trans (Za HK) hK2);have HS2:=Zb hS2;have d0:=(Za HK2).cell hlow (Za M0);have d1:=(Za HK2).cell hlow (Za M1);have dz:=World.block_lt_of_cell? _ _ d0;clear hS2 hK2)
              go_roundw
              case rel=>first|exact⟨j - 1,by congr 1 <;> omega,by omega,by omega,HQ2,HS2,HK2⟩|((repeat apply Exists.intro);refine⟨?_,rfl⟩;exact⟨j - 1,by congr 1 <;> omega,by omega,by omega,HQ2,HS2,HK2⟩)
              case measure=>simp[intOf];omega
             | true=>
              rw[hlv] at hl
              have HQ2:Hid ((fun x=>lt x d[pivot]!) dk[j]! = true):=by
               show _=_
               rw[hpv] at hlv
               simp[hlv]
              have hne:i<j:=by
               rcases Nat.lt_or_eq_of_le hle2 with q|q
               ·exact q
               ·subst q
                exact Bool.noConfusion ((Za HQ).symm.trans (Za HQ2))
              have hgtB:decide ((j:Int)<(i:Int))=false:=decide_eq_false (by omega)
              have hgtN:decide (j<i)=false:=decide_eq_false (by omega)
              have HP3:=Zb ((Za HP).swap hai hne (by omega) (by rw[Sort.size_swp,Za HD];exact hb) (Za HQ) (Za HQ2))
              clear hlv hpv
              go_wp2_with (go_at_fn g;refine hl.mono ?_;rintro e w' ⟨rfl,hS2,hK2⟩;have HK2:=Zb (Kp.trans (Za HK) hK2);have d0:=(Za HK2).cell hlow (Za M0);have d1:=(Za HK2).cell hlow (Za M1);have dz:=World.block_lt_of_cell? _ _ d0;obtain⟨w3,hs,hS3,hK3⟩:=(Za HH).swap w' dk i j hS2 (by omega) (by omega);have HS3:=Zb hS3;have HK3:=Zb (Kp.trans (Za HK2) hK3);have e0:=(Za HK3).cell hlow (Za M0);have e1:=(Za HK3).cell hlow (Za M1);have ez:=World.block_lt_of_cell? _ _ e0;clear hS2 hK2 hS3 hK3)
              go_wp2
              go_roundw
              case rel=>first|exact⟨i+1,j - 1,_,by go_num,by congr 1 <;> omega,by omega,by omega,by omega,HP3,HS3,HK3⟩|((repeat apply Exists.intro);refine⟨?_,rfl⟩;exact⟨i+1,j - 1,_,by go_num,by congr 1 <;> omega,by omega,by omega,by omega,HP3,HS3,HK3⟩)
              case measure=>simp[intOf];omega
            ·have HEQ:Hid (i=j+1):=by show _=_;omega
             have hgt:j<i:=by omega
             clear HQ hle2
             obtain⟨w9,hs9,hS9,hK9⟩:=(Za HH).swap _ dk j a (Za HS) (by omega) (by omega)
             have HS9:=Zb hS9
             have HK9:=Zb (Kp.trans (Za HK) hK9)
             clear hS9 hK9
             go_wp2
             go_ret2
             have RES:=Pt.paok hpa hpb (by rw[Za HD];exact hb) (Za HP) hai (Za HEQ) (by omega)
             exact PaPost.of j false _ RES (Za HS9) (Kp.trans (Za KX1) (Za HK9))
         ·have HEQ:Hid (i=j0+1):=by show _=_;omega
          have hgt:j0<i:=by omega
          clear hle
          go_wp2_with fail
          refine wp_loop_rounds 1 ?_
          rw[rounds_succ]
          obtain⟨w9,hs9,hS9,hK9⟩:=(Za HH).swap _ dk j0 a (Za HS) (by omega) (by omega)
          have HS9:=Zb hS9
          have HK9:=Zb (Kp.trans (Za HK) hK9)
          clear hS9 hK9
          go_wp2
          go_ret2
          have RES:=Pt.paok hpa hpb (by rw[Za HD];exact hb) (Za HP) hai (Za HEQ) (by omega)
          exact PaPost.of j0 false _ RES (Za HS9) (Kp.trans (Za KX1) (Za HK9))
     ·have HEQ:Hid (i=j+1):=by show _=_;omega
      have hgt:j<i:=by omega
      clear HQ hle2
      obtain⟨w9,hs9,hS9,hK9⟩:=(Za HH).swap _ dk j a (Za HS) (by omega) (by omega)
      have HS9:=Zb hS9
      have HK9:=Zb (Kp.trans (Za HK) hK9)
      clear hS9 hK9
      go_wp2
      go_ret2
      have RES:=Pt.paok hpa hpb (by rw[Za HD];exact hb) (Za HP) hai (Za HEQ) (by omega)
      exact PaPost.of j true _ RES (Za HS9) (Kp.trans (Za KX1) (Za HK9))
  ·have HEQ:Hid (i=jb+1):=by show _=_;omega
   have hgt:jb<i:=by omega
   clear hle
   go_wp2_with fail
   refine wp_loop_rounds 1 ?_
   rw[rounds_succ]
   obtain⟨w9,hs9,hS9,hK9⟩:=(Za HH).swap _ dk jb a (Za HS) (by omega) (by omega)
   have HS9:=Zb hS9
   have HK9:=Zb (Kp.trans (Za HK) hK9)
   clear hS9 hK9
   go_wp2
   go_ret2
   have RES:=Pt.paok hpa hpb (by rw[Za HD];exact hb) (Za HP) hai (Za HEQ) (by omega)
   exact PaPost.of jb true _ RES (Za HS9) (Kp.trans (Za KX1) (Za HK9))
variable {α : Type} [Inhabited α]
theorem Ml(lt : α → α→Bool)(d:Array α)(b i:Nat)(h:i<b)(hl:lt d[i]! d[i - 1]! = false):Sort.scanSorted lt d b i=Sort.scanSorted lt d b (i+1):=by
 rw[Sort.scanSorted,if_pos (by simp[h,hl])]
theorem Jz(lt : α → α→Bool)(d:Array α)(b i:Nat)(h:¬i<b∨lt d[i]! d[i - 1]! = true):Sort.scanSorted lt d b i=i:=by
 rw[Sort.scanSorted,if_neg]
 rcases h with h|h
 ·simp[h]
 ·simp[h]
theorem Ta(lt : α → α→Bool)(b j:Nat)(d:Array α)(h:j<b)(hl:lt d[j]! d[j - 1]! = true):Sort.shiftUp lt b j d=Sort.shiftUp lt b (j+1) (Sort.swp d j (j - 1)):=by
 rw[Sort.shiftUp,if_pos h,if_neg (by simp[hl])]
theorem W7(lt : α → α→Bool)(b j:Nat)(d:Array α)(h:¬j<b∨lt d[j]! d[j - 1]! = false):Sort.shiftUp lt b j d=d:=by
 rw[Sort.shiftUp]
 rcases h with h|h
 ·rw[if_neg h]
 ·by_cases q:j<b
  ·rw[if_pos q,if_pos (by simp[h])]
  ·rw[if_neg q]
theorem Ds(lt : α → α→Bool)(j:Nat)(d:Array α)(h:1≤j)(hl:lt d[j]! d[j - 1]! = true):Sort.shiftDown lt j d=Sort.shiftDown lt (j - 1) (Sort.swp d j (j - 1)):=by
 obtain⟨k,rfl⟩:∃ k,j=k+1:=⟨j - 1,by omega⟩
 rw[Nat.add_sub_cancel] at hl ⊢
 rw[Sort.shiftDown,if_neg (by simp[hl])]
theorem Rs(lt : α → α→Bool)(j:Nat)(d:Array α)(h:¬1≤j∨lt d[j]! d[j - 1]! = false):Sort.shiftDown lt j d=d:=by
 cases j with
 | zero=>rfl
 | succ k=>
  rcases h with h|h
  ·omega
  ·rw[Nat.add_sub_cancel] at h
   rw[Sort.shiftDown,if_pos (by simp[h])]
theorem Qx(lt : α → α→Bool)(b i:Nat)(d:Array α)(h:i+2≤b):Sort.fixUp lt b i d=Sort.shiftUp lt b (i+1) d:=by
 rw[Sort.fixUp,if_pos (by omega)]
theorem Pz(lt : α → α→Bool)(b i:Nat)(d:Array α)(h:¬i+2≤b):Sort.fixUp lt b i d=d:=by
 rw[Sort.fixUp,if_neg (by omega)]
theorem Ln(lt : α → α→Bool)(a i:Nat)(d:Array α)(h:a+2≤i):Sort.fixDown lt a i d=Sort.shiftDown lt (i - 1) d:=by
 rw[Sort.fixDown,if_pos (by omega)]
theorem Ce(lt : α → α→Bool)(a i:Nat)(d:Array α)(h:¬a+2≤i):Sort.fixDown lt a i d=d:=by
 rw[Sort.fixDown,if_neg (by omega)]
theorem Ew{g:Nat}{lb:Array Value}{sf:Nat}{sb:Array Value}{lt : α → α→Bool}{n B:Nat}{St:World→Array α→Prop}(H:Sr Tryz.prog g lb sf sb lt n B St)
  (a b:Nat) (d:Array α) (w:World) (h:St w d) (hab:a<b) (hb:b≤n) (r:Array α×Bool) (hr:Sort.partialInsertionSort lt d a b=r) :
  Calls Tryz.prog 219 #[lsV g lb sf sb,.int .i64 a,.int .i64 b] w fun e w'=>e = .returned (.bool r.2)∧St w' r.1∧Kp B w w':=by
 unfold lsV
 unfold Sort.partialInsertionSort at hr
 have HR:=Zb hr
 have hn:=H.small
 have eg:=H.enters
 have hlow:=H.low _ _ h
 obtain⟨N0,N1⟩:=Vo w (.func (.func g) #[] lb) (.func (.func sf) #[] sb) 272
 have SX:=Zb (H.alloc w d (.cells #[.func (.func g) #[] lb,.func (.func sf) #[] sb] 272) h)
 have KX:=Zb (Kp.alloc B w (.cells #[.func (.func g) #[] lb,.func (.func sf) #[] sb] 272))
 have HH:=Zb H
 clear H h hr
 go_enter Tryz.func219,Tryz.ntmps219
 go_wp2
 generalize w.alloc (.cells #[.func (.func g) #[] lb,.func (.func sf) #[] sb] 272)=X at *
 have M0:=Zb N0
 have M1:=Zb N1
 clear N0 N1
 go_loopw [7,8] (fun s7 s8 wr=>∃ (i s t:Nat) (dk:Array α),s7 = .int .i64 i∧s8 = .int .i64 t∧Hid (t+s=5)∧a<i∧i≤b∧Hid (Sort.partialIns lt a b s i dk=r)∧Hid (St wr dk)∧Hid (Kp B X wr)) (fun _ s8 _=>5 - (intOf s8).toNat)
 case atStart=>exact⟨a+1,5,0,d,by go_num,rfl,rfl,by omega,by omega,HR,SX,Kp.refl _ _⟩
 case round=>
  obtain⟨i0,s,t,dk,rfl,rfl,HT,hai0,hib0,HO,HS0,HK0⟩:=hrel
  cases s with
  | zero=>
   have hnot:¬(t:Int)<5:=by have:=Za HT;omega
   have ER:Hid (r=(dk,false)):=(Za HO).symm
   go_wp2
   go_ret
   exact⟨by rw[Za ER];rfl,by rw[Za ER];exact Za HS0,Kp.trans (Za KX) (Za HK0)⟩
  | succ s=>
   have hlt5:t<5:=by have:=Za HT;omega
   have hdec:decide ((t:Int)<5)=true:=decide_eq_true (by omega)
   have HT2:Hid (t+1+s=5):=by show _=_;have:=Za HT;omega
   go_wp2_with fail
   go_loopw [7] (fun sa wr=>∃ i:Nat,sa = .int .i64 i∧a<i∧i≤b∧Hid (Sort.scanSorted lt dk b i=Sort.scanSorted lt dk b i0)∧Hid (St wr dk)∧Hid (Kp B X wr)) (fun sa _=>b - (intOf sa).toNat)
   case atStart=>exact⟨i0,rfl,hai0,hib0,rfl,HS0,HK0⟩
   case round=>
    obtain⟨i,rfl,hai,hib,HU,HS,HK⟩:=hrel
    have c0:=(Za HK).cell hlow (Za M0)
    have c1:=(Za HK).cell hlow (Za M1)
    have hsz:=World.block_lt_of_cell? _ _ c0
    by_cases hilt:i<b
    ·have hl:=(Za HH).less wr dk i (i - 1) (Za HS) (by omega) (by omega)
     rw[show (((i - 1:Nat):Int))=(i:Int) - 1 by omega] at hl
     cases hlv:lt dk[i]! dk[i - 1]! with
     | false=>
      rw[hlv] at hl
      have HU2:Hid (Sort.scanSorted lt dk b (i+1)=Sort.scanSorted lt dk b i0):=by show _=_;rw[←Za HU,Ml lt dk b i hilt hlv]
      clear hlv
      go_wp2_with (go_at_fn g;refine hl.mono ?_;rintro e w' ⟨rfl,hS2,hK2⟩;have HK2:=Zb (Kp.trans (Za HK) hK2);have HS2:=Zb hS2;have d0:=(Za HK2).cell hlow (Za M0);have d1:=(Za HK2).cell hlow (Za M1);have dz:=World.block_lt_of_cell? _ _ d0;clear hS2 hK2)
      go_roundw
      case rel=>first|exact⟨i+1,by go_num,by omega,by omega,HU2,HS2,HK2⟩|((repeat apply Exists.intro);refine⟨?_,rfl⟩;exact⟨i+1,by go_num,by omega,by omega,HU2,HS2,HK2⟩)
      case measure=>simp[intOf];omega
     | true=>
      rw[hlv] at hl
      have HSC:Hid (Sort.scanSorted lt dk b i0=i):=by show _=_;rw[←Za HU,Jz lt dk b i (Or.inr hlv)]
      clear hlv HU
      have hne:¬(i:Int)=(b:Int):=by omega
      have hneB:((i:Int) == (b:Int))=false:=by simp;omega
      by_cases h50:b<a+50
      ·have h50I:(b:Int) - (a:Int)<50:=by omega
       have ER:Hid (r=(dk,false)):=by
        show _=_
        rw[←Za HO,Sort.partialIns_succ,Za HSC,if_neg (by omega),if_pos (by omega)]
       go_wp2_with (go_at_fn g;refine hl.mono ?_;rintro e w' ⟨rfl,hS2,hK2⟩;have HK2:=Zb (Kp.trans (Za HK) hK2);have HS2:=Zb hS2;have d0:=(Za HK2).cell hlow (Za M0);have d1:=(Za HK2).cell hlow (Za M1);have dz:=World.block_lt_of_cell? _ _ d0;clear hS2 hK2)
       go_wp2
       go_ret
       exact⟨by rw[Za ER];rfl,by rw[Za ER];exact Za HS2,Kp.trans (Za KX) (Za HK2)⟩
      ·have h50I:¬(b:Int) - (a:Int)<50:=by omega
       by_cases hia:a+2≤i
       ·have hiaI:(2:Int)≤(i:Int) - (a:Int):=by omega
        go_wp2_with (go_at_fn g;refine hl.mono ?_;rintro e w' ⟨rfl,hS2,hK2⟩;have HK2:=Zb (Kp.trans (Za HK) hK2);have d0:=(Za HK2).cell hlow (Za M0);have d1:=(Za HK2).cell hlow (Za M1);have dz:=World.block_lt_of_cell? _ _ d0;obtain⟨w3,hs,hS3,hK3⟩:=(Za HH).swap w' dk i (i - 1) hS2 (by omega) (by omega);have HS3:=Zb hS3;have HK3:=Zb (Kp.trans (Za HK2) hK3);clear hS2 hK2 hS3 hK3;rw[show (((i - 1:Nat):Int))=(i:Int) - 1 by omega] at hs)
        clear HK2 d0 d1 dz hl hs c0 c1 hsz HS HK
        go_loopw [9] (fun sa wr=>∃ (j:Nat) (dj:Array α),sa = .int .i64 j∧j<i∧Hid (Sort.shiftDown lt j dj=Sort.shiftDown lt (i - 1) (Sort.swp dk i (i - 1)))∧Hid (St wr dj)∧Hid (Kp B X wr)) (fun sa _=>(intOf sa).toNat)
        case atStart=>exact⟨i - 1,_,by congr 1 <;> omega,by omega,rfl,HS3,HK3⟩
        case round=>
         clear HS3 HK3
         obtain⟨j,dj,rfl,hji,HU,HS,HK⟩:=hrel
         have c0:=(Za HK).cell hlow (Za M0)
         have c1:=(Za HK).cell hlow (Za M1)
         have hsz:=World.block_lt_of_cell? _ _ c0
         by_cases hj1:1≤j
         ·have hl:=(Za HH).less wr dj j (j - 1) (Za HS) (by omega) (by omega)
          rw[show (((j - 1:Nat):Int))=(j:Int) - 1 by omega] at hl
          cases hlv:lt dj[j]! dj[j - 1]! with
          | true=>
           rw[hlv] at hl
           have HU2:Hid (Sort.shiftDown lt (j - 1) (Sort.swp dj j (j - 1))=Sort.shiftDown lt (i - 1) (Sort.swp dk i (i - 1))):=by show _=_;rw[←Za HU,Ds lt j dj hj1 hlv]
           clear hlv
           go_wp2_with (go_at_fn g;refine hl.mono ?_;rintro e w' ⟨rfl,hS2,hK2⟩;have HK2:=Zb (Kp.trans (Za HK) hK2);have d0:=(Za HK2).cell hlow (Za M0);have d1:=(Za HK2).cell hlow (Za M1);have dz:=World.block_lt_of_cell? _ _ d0;obtain⟨w3,hs,hS3,hK3⟩:=(Za HH).swap w' dj j (j - 1) hS2 (by omega) (by omega);have HS3:=Zb hS3;have HK3:=Zb (Kp.trans (Za HK2) hK3);clear hS2 hK2 hS3 hK3;rw[show (((j - 1:Nat):Int))=(j:Int) - 1 by omega] at hs)
           go_roundw
           case rel=>first|exact⟨j - 1,_,by congr 1 <;> omega,by omega,HU2,HS3,HK3⟩|((repeat apply Exists.intro);refine⟨?_,rfl⟩;exact⟨j - 1,_,by congr 1 <;> omega,by omega,HU2,HS3,HK3⟩)
           case measure=>simp[intOf];omega
          | false=>
           rw[hlv] at hl
           have HE1:Hid (Sort.fixDown lt a i (Sort.swp dk i (i - 1))=dj):=by
            show _=_
            rw[Ln lt a i _ hia,←Za HU,Rs lt j dj (Or.inr hlv)]
           clear hlv
           go_upto_region 18 with (go_at_fn g;refine hl.mono ?_;rintro e w' ⟨rfl,hS2,hK2⟩;have HK2:=Zb (Kp.trans (Za HK) hK2);have HS2:=Zb hS2;have d0:=(Za HK2).cell hlow (Za M0);have d1:=(Za HK2).cell hlow (Za M1);have dz:=World.block_lt_of_cell? _ _ d0;clear hS2 hK2)
           obtain⟨dD,hD⟩:∃ dD,dD=dj:=⟨_,rfl⟩
           rw[←hD] at HE1 HS2
           clear hD HS HK c0 c1 hsz hl d0 d1 dz HU
           obtain⟨HS,HK⟩:Hid (St _ dD)∧Hid (Kp B X _):=⟨HS2,HK2⟩
           clear HS2 HK2
           have c0:=(Za HK).cell hlow (Za M0)
           have c1:=(Za HK).cell hlow (Za M1)
           have hsz:=World.block_lt_of_cell? _ _ c0
           by_cases hbi:i+2≤b
           ·have hbiI:(2:Int)≤(b:Int) - (i:Int):=by omega
            go_wp2_with fail
            go_loopw [10] (fun sa wr=>∃ (j:Nat) (dj:Array α),sa = .int .i64 j∧i+1≤j∧j≤b∧Hid (Sort.shiftUp lt b j dj=Sort.shiftUp lt b (i+1) dD)∧Hid (St wr dj)∧Hid (Kp B X wr)) (fun sa _=>b - (intOf sa).toNat)
            case atStart=>exact⟨i+1,dD,by go_num,Nat.le_refl _,by omega,rfl,HS,HK⟩
            case round=>
             clear HS HK c0 c1 hsz
             obtain⟨j,dj,rfl,hij,hjb,HU,HS,HK⟩:=hrel
             have c0:=(Za HK).cell hlow (Za M0)
             have c1:=(Za HK).cell hlow (Za M1)
             have hsz:=World.block_lt_of_cell? _ _ c0
             by_cases hjl:j<b
             ·have hl:=(Za HH).less wr dj j (j - 1) (Za HS) (by omega) (by omega)
              rw[show (((j - 1:Nat):Int))=(j:Int) - 1 by omega] at hl
              cases hlv:lt dj[j]! dj[j - 1]! with
              | true=>
               rw[hlv] at hl
               have HU2:Hid (Sort.shiftUp lt b (j+1) (Sort.swp dj j (j - 1))=Sort.shiftUp lt b (i+1) dD):=by show _=_;rw[←Za HU,Ta lt b j dj hjl hlv]
               clear hlv
               go_wp2_with (go_at_fn g;refine hl.mono ?_;rintro e w' ⟨rfl,hS2,hK2⟩;have HK2:=Zb (Kp.trans (Za HK) hK2);have d0:=(Za HK2).cell hlow (Za M0);have d1:=(Za HK2).cell hlow (Za M1);have dz:=World.block_lt_of_cell? _ _ d0;obtain⟨w3,hs,hS3,hK3⟩:=(Za HH).swap w' dj j (j - 1) hS2 (by omega) (by omega);have HS3:=Zb hS3;have HK3:=Zb (Kp.trans (Za HK2) hK3);clear hS2 hK2 hS3 hK3;rw[show (((j - 1:Nat):Int))=(j:Int) - 1 by omega] at hs)
               go_roundw
               case rel=>first|exact⟨j+1,_,by go_num,by omega,by omega,HU2,HS3,HK3⟩|((repeat apply Exists.intro);refine⟨?_,rfl⟩;exact⟨j+1,_,by go_num,by omega,by omega,HU2,HS3,HK3⟩)
               case measure=>simp[intOf];omega
              | false=>
               rw[hlv] at hl
               have HE:Hid (Sort.partialIns lt a b s i (Sort.fixUp lt b i (Sort.fixDown lt a i (Sort.swp dk i (i - 1))))=Sort.partialIns lt a b s i dj):=by
                show _=_
                rw[Za HE1,Qx lt b i dD hbi,←Za HU,W7 lt b j dj (Or.inr hlv)]
               clear hlv
               go_wp2_with (go_at_fn g;refine hl.mono ?_;rintro e w' ⟨rfl,hS2,hK2⟩;have HK2:=Zb (Kp.trans (Za HK) hK2);have HS2:=Zb hS2;have d0:=(Za HK2).cell hlow (Za M0);have d1:=(Za HK2).cell hlow (Za M1);have dz:=World.block_lt_of_cell? _ _ d0;clear hS2 hK2)
               go_wp2
               go_roundw
               case rel=>first|exact⟨i,s,t+1,_,rfl,by go_num,HT2,hai,by omega,by show _=_;rw[←Za HO,Sort.partialIns_succ,Za HSC,if_neg (by omega),if_neg (by omega)];exact (Za HE).symm,HS2,HK2⟩|((repeat apply Exists.intro);refine⟨?_,rfl⟩;exact⟨i,s,t+1,_,rfl,by go_num,HT2,hai,by omega,by show _=_;rw[←Za HO,Sort.partialIns_succ,Za HSC,if_neg (by omega),if_neg (by omega)];exact (Za HE).symm,HS2,HK2⟩)
               case measure=>simp[intOf];omega
             ·have HE:Hid (Sort.partialIns lt a b s i (Sort.fixUp lt b i (Sort.fixDown lt a i (Sort.swp dk i (i - 1))))=Sort.partialIns lt a b s i dj):=by
               show _=_
               rw[Za HE1,Qx lt b i dD hbi,←Za HU,W7 lt b j dj (Or.inl hjl)]
              go_wp2
              go_roundw
              case rel=>first|exact⟨i,s,t+1,_,rfl,by go_num,HT2,hai,by omega,by show _=_;rw[←Za HO,Sort.partialIns_succ,Za HSC,if_neg (by omega),if_neg (by omega)];exact (Za HE).symm,HS,HK⟩|((repeat apply Exists.intro);refine⟨?_,rfl⟩;exact⟨i,s,t+1,_,rfl,by go_num,HT2,hai,by omega,by show _=_;rw[←Za HO,Sort.partialIns_succ,Za HSC,if_neg (by omega),if_neg (by omega)];exact (Za HE).symm,HS,HK⟩)
              case measure=>simp[intOf];omega
           ·have hbiI:¬(2:Int)≤(b:Int) - (i:Int):=by omega
            have HE:Hid (Sort.partialIns lt a b s i (Sort.fixUp lt b i (Sort.fixDown lt a i (Sort.swp dk i (i - 1))))=Sort.partialIns lt a b s i dD):=by
             show _=_
             rw[Za HE1,Pz lt b i dD hbi]
            go_wp2
            go_roundw
            case rel=>first|exact⟨i,s,t+1,_,rfl,by go_num,HT2,hai,by omega,by show _=_;rw[←Za HO,Sort.partialIns_succ,Za HSC,if_neg (by omega),if_neg (by omega)];exact (Za HE).symm,HS,HK⟩|((repeat apply Exists.intro);refine⟨?_,rfl⟩;exact⟨i,s,t+1,_,rfl,by go_num,HT2,hai,by omega,by show _=_;rw[←Za HO,Sort.partialIns_succ,Za HSC,if_neg (by omega),if_neg (by omega)];exact (Za HE).symm,HS,HK⟩)
            case measure=>simp[intOf];omega
         ·have HE1:Hid (Sort.fixDown lt a i (Sort.swp dk i (i - 1))=dj):=by
           show _=_
           rw[Ln lt a i _ hia,←Za HU,Rs lt j dj (Or.inl hj1)]
          go_upto_region 18 with fail
          obtain⟨dD,hD⟩:∃ dD,dD=dj:=⟨_,rfl⟩
          rw[←hD] at HE1 HS
          clear hD c0 c1 hsz HU
          have c0:=(Za HK).cell hlow (Za M0)
          have c1:=(Za HK).cell hlow (Za M1)
          have hsz:=World.block_lt_of_cell? _ _ c0
          by_cases hbi:i+2≤b
          ·have hbiI:(2:Int)≤(b:Int) - (i:Int):=by omega
           go_wp2_with fail
           go_loopw [10] (fun sa wr=>∃ (j:Nat) (dj:Array α),sa = .int .i64 j∧i+1≤j∧j≤b∧Hid (Sort.shiftUp lt b j dj=Sort.shiftUp lt b (i+1) dD)∧Hid (St wr dj)∧Hid (Kp B X wr)) (fun sa _=>b - (intOf sa).toNat)
           case atStart=>exact⟨i+1,dD,by go_num,Nat.le_refl _,by omega,rfl,HS,HK⟩
           case round=>
            clear HS HK c0 c1 hsz
            obtain⟨j,dj,rfl,hij,hjb,HU,HS,HK⟩:=hrel
            have c0:=(Za HK).cell hlow (Za M0)
            have c1:=(Za HK).cell hlow (Za M1)
            have hsz:=World.block_lt_of_cell? _ _ c0
            by_cases hjl:j<b
            ·have hl:=(Za HH).less wr dj j (j - 1) (Za HS) (by omega) (by omega)
             rw[show (((j - 1:Nat):Int))=(j:Int) - 1 by omega] at hl
             cases hlv:lt dj[j]! dj[j - 1]! with
             | true=>
              rw[hlv] at hl
              have HU2:Hid (Sort.shiftUp lt b (j+1) (Sort.swp dj j (j - 1))=Sort.shiftUp lt b (i+1) dD):=by show _=_;rw[←Za HU,Ta lt b j dj hjl hlv]
              clear hlv
              go_wp2_with (go_at_fn g;refine hl.mono ?_;rintro e w' ⟨rfl,hS2,hK2⟩;have HK2:=Zb (Kp.trans (Za HK) hK2);have d0:=(Za HK2).cell hlow (Za M0);have d1:=(Za HK2).cell hlow (Za M1);have dz:=World.block_lt_of_cell? _ _ d0;obtain⟨w3,hs,hS3,hK3⟩:=(Za HH).swap w' dj j (j - 1) hS2 (by omega) (by omega);have HS3:=Zb hS3;have HK3:=Zb (Kp.trans (Za HK2) hK3);clear hS2 hK2 hS3 hK3;rw[show (((j - 1:Nat):Int))=(j:Int) - 1 by omega] at hs)
              go_roundw
              case rel=>first|exact⟨j+1,_,by go_num,by omega,by omega,HU2,HS3,HK3⟩|((repeat apply Exists.intro);refine⟨?_,rfl⟩;exact⟨j+1,_,by go_num,by omega,by omega,HU2,HS3,HK3⟩)
              case measure=>simp[intOf];omega
             | false=>
              rw[hlv] at hl
              have HE:Hid (Sort.partialIns lt a b s i (Sort.fixUp lt b i (Sort.fixDown lt a i (Sort.swp dk i (i - 1))))=Sort.partialIns lt a b s i dj):=by
               show _=_
               rw[Za HE1,Qx lt b i dD hbi,←Za HU,W7 lt b j dj (Or.inr hlv)]
              clear hlv
              go_wp2_with (go_at_fn g;refine hl.mono ?_;rintro e w' ⟨rfl,hS2,hK2⟩;have HK2:=Zb (Kp.trans (Za HK) hK2);have HS2:=Zb hS2;have d0:=(Za HK2).cell hlow (Za M0);have d1:=(Za HK2).cell hlow (Za M1);have dz:=World.block_lt_of_cell? _ _ d0;clear hS2 hK2)
              go_wp2
              go_roundw
              case rel=>first|exact⟨i,s,t+1,_,rfl,by go_num,HT2,hai,by omega,by show _=_;rw[←Za HO,Sort.partialIns_succ,Za HSC,if_neg (by omega),if_neg (by omega)];exact (Za HE).symm,HS2,HK2⟩|((repeat apply Exists.intro);refine⟨?_,rfl⟩;exact⟨i,s,t+1,_,rfl,by go_num,HT2,hai,by omega,by show _=_;rw[←Za HO,Sort.partialIns_succ,Za HSC,if_neg (by omega),if_neg (by omega)];exact (Za HE).symm,HS2,HK2⟩)
              case measure=>simp[intOf];omega
            ·have HE:Hid (Sort.partialIns lt a b s i (Sort.fixUp lt b i (Sort.fixDown lt a i (Sort.swp dk i (i - 1))))=Sort.partialIns lt a b s i dj):=by
              show _=_
              rw[Za HE1,Qx lt b i dD hbi,←Za HU,W7 lt b j dj (Or.inl hjl)]
             go_wp2
             go_roundw
             case rel=>first|exact⟨i,s,t+1,_,rfl,by go_num,HT2,hai,by omega,by show _=_;rw[←Za HO,Sort.partialIns_succ,Za HSC,if_neg (by omega),if_neg (by omega)];exact (Za HE).symm,HS,HK⟩|((repeat apply Exists.intro);refine⟨?_,rfl⟩;exact⟨i,s,t+1,_,rfl,by go_num,HT2,hai,by omega,by show _=_;rw[←Za HO,Sort.partialIns_succ,Za HSC,if_neg (by omega),if_neg (by omega)];exact (Za HE).symm,HS,HK⟩)
             case measure=>simp[intOf];omega
          ·have hbiI:¬(2:Int)≤(b:Int) - (i:Int):=by omega
           have HE:Hid (Sort.partialIns lt a b s i (Sort.fixUp lt b i (Sort.fixDown lt a i (Sort.swp dk i (i - 1))))=Sort.partialIns lt a b s i dD):=by
            show _=_
            rw[Za HE1,Pz lt b i dD hbi]
           go_wp2
           go_roundw
           case rel=>first|exact⟨i,s,t+1,_,rfl,by go_num,HT2,hai,by omega,by show _=_;rw[←Za HO,Sort.partialIns_succ,Za HSC,if_neg (by omega),if_neg (by omega)];exact (Za HE).symm,HS,HK⟩|((repeat apply Exists.intro);refine⟨?_,rfl⟩;exact⟨i,s,t+1,_,rfl,by go_num,HT2,hai,by omega,by show _=_;rw[←Za HO,Sort.partialIns_succ,Za HSC,if_neg (by omega),if_neg (by omega)];exact (Za HE).symm,HS,HK⟩)
           case measure=>simp[intOf];omega
       ·have hiaI:¬(2:Int)≤(i:Int) - (a:Int):=by omega
        have HE1:Hid (Sort.fixDown lt a i (Sort.swp dk i (i - 1))=Sort.swp dk i (i - 1)):=by
         show _=_
         rw[Ce lt a i _ hia]
        go_upto_region 18 with (go_at_fn g;refine hl.mono ?_;rintro e w' ⟨rfl,hS2,hK2⟩;have HK2:=Zb (Kp.trans (Za HK) hK2);have d0:=(Za HK2).cell hlow (Za M0);have d1:=(Za HK2).cell hlow (Za M1);have dz:=World.block_lt_of_cell? _ _ d0;obtain⟨w3,hs,hS3,hK3⟩:=(Za HH).swap w' dk i (i - 1) hS2 (by omega) (by omega);have HS3:=Zb hS3;have HK3:=Zb (Kp.trans (Za HK2) hK3);clear hS2 hK2 hS3 hK3;rw[show (((i - 1:Nat):Int))=(i:Int) - 1 by omega] at hs)
        obtain⟨dD,hD⟩:∃ dD,dD=Sort.swp dk i (i - 1):=⟨_,rfl⟩
        have HE1:Hid (Sort.fixDown lt a i (Sort.swp dk i (i - 1))=dD):=by show _=_;rw[hD];exact Za HE1
        rw[←hD] at HS3
        clear hD c0 c1 hsz HS HK HK2 d0 d1 dz hl hs
        obtain⟨HS,HK⟩:Hid (St _ dD)∧Hid (Kp B X _):=⟨HS3,HK3⟩
        clear HS3 HK3
        have c0:=(Za HK).cell hlow (Za M0)
        have c1:=(Za HK).cell hlow (Za M1)
        have hsz:=World.block_lt_of_cell? _ _ c0
        by_cases hbi:i+2≤b
        ·have hbiI:(2:Int)≤(b:Int) - (i:Int):=by omega
         go_wp2_with fail
         go_loopw [10] (fun sa wr=>∃ (j:Nat) (dj:Array α),sa = .int .i64 j∧i+1≤j∧j≤b∧Hid (Sort.shiftUp lt b j dj=Sort.shiftUp lt b (i+1) dD)∧Hid (St wr dj)∧Hid (Kp B X wr)) (fun sa _=>b - (intOf sa).toNat)
         case atStart=>exact⟨i+1,dD,by go_num,Nat.le_refl _,by omega,rfl,HS,HK⟩
         case round=>
          clear HS HK c0 c1 hsz
          obtain⟨j,dj,rfl,hij,hjb,HU,HS,HK⟩:=hrel
          have c0:=(Za HK).cell hlow (Za M0)
          have c1:=(Za HK).cell hlow (Za M1)
          have hsz:=World.block_lt_of_cell? _ _ c0
          by_cases hjl:j<b
          ·have hl:=(Za HH).less wr dj j (j - 1) (Za HS) (by omega) (by omega)
           rw[show (((j - 1:Nat):Int))=(j:Int) - 1 by omega] at hl
           cases hlv:lt dj[j]! dj[j - 1]! with
           | true=>
            rw[hlv] at hl
            have HU2:Hid (Sort.shiftUp lt b (j+1) (Sort.swp dj j (j - 1))=Sort.shiftUp lt b (i+1) dD):=by show _=_;rw[←Za HU,Ta lt b j dj hjl hlv]
            clear hlv
            go_wp2_with (go_at_fn g;refine hl.mono ?_;rintro e w' ⟨rfl,hS2,hK2⟩;have HK2:=Zb (Kp.trans (Za HK) hK2);have d0:=(Za HK2).cell hlow (Za M0);have d1:=(Za HK2).cell hlow (Za M1);have dz:=World.block_lt_of_cell? _ _ d0;obtain⟨w3,hs,hS3,hK3⟩:=(Za HH).swap w' dj j (j - 1) hS2 (by omega) (by omega);have HS3:=Zb hS3;have HK3:=Zb (Kp.trans (Za HK2) hK3);clear hS2 hK2 hS3 hK3;rw[show (((j - 1:Nat):Int))=(j:Int) - 1 by omega] at hs)
            go_roundw
            case rel=>first|exact⟨j+1,_,by go_num,by omega,by omega,HU2,HS3,HK3⟩|((repeat apply Exists.intro);refine⟨?_,rfl⟩;exact⟨j+1,_,by go_num,by omega,by omega,HU2,HS3,HK3⟩)
            case measure=>simp[intOf];omega
           | false=>
            rw[hlv] at hl
            have HE:Hid (Sort.partialIns lt a b s i (Sort.fixUp lt b i (Sort.fixDown lt a i (Sort.swp dk i (i - 1))))=Sort.partialIns lt a b s i dj):=by
             show _=_
             rw[Za HE1,Qx lt b i dD hbi,←Za HU,W7 lt b j dj (Or.inr hlv)]
            clear hlv
            go_wp2_with (go_at_fn g;refine hl.mono ?_;rintro e w' ⟨rfl,hS2,hK2⟩;have HK2:=Zb (Kp.trans (Za HK) hK2);have HS2:=Zb hS2;have d0:=(Za HK2).cell hlow (Za M0);have d1:=(Za HK2).cell hlow (Za M1);have dz:=World.block_lt_of_cell? _ _ d0;clear hS2 hK2)
            go_wp2
            go_roundw
            case rel=>first|exact⟨i,s,t+1,_,rfl,by go_num,HT2,hai,by omega,by show _=_;rw[←Za HO,Sort.partialIns_succ,Za HSC,if_neg (by omega),if_neg (by omega)];exact (Za HE).symm,HS2,HK2⟩|((repeat apply Exists.intro);refine⟨?_,rfl⟩;exact⟨i,s,t+1,_,rfl,by go_num,HT2,hai,by omega,by show _=_;rw[←Za HO,Sort.partialIns_succ,Za HSC,if_neg (by omega),if_neg (by omega)];exact (Za HE).symm,HS2,HK2⟩)
            case measure=>simp[intOf];omega
          ·have HE:Hid (Sort.partialIns lt a b s i (Sort.fixUp lt b i (Sort.fixDown lt a i (Sort.swp dk i (i - 1))))=Sort.partialIns lt a b s i dj):=by
            show _=_
            rw[Za HE1,Qx lt b i dD hbi,←Za HU,W7 lt b j dj (Or.inl hjl)]
           go_wp2
           go_roundw
           case rel=>first|exact⟨i,s,t+1,_,rfl,by go_num,HT2,hai,by omega,by show _=_;rw[←Za HO,Sort.partialIns_succ,Za HSC,if_neg (by omega),if_neg (by omega)];exact (Za HE).symm,HS,HK⟩|((repeat apply Exists.intro);refine⟨?_,rfl⟩;exact⟨i,s,t+1,_,rfl,by go_num,HT2,hai,by omega,by show _=_;rw[←Za HO,Sort.partialIns_succ,Za HSC,if_neg (by omega),if_neg (by omega)];exact (Za HE).symm,HS,HK⟩)
           case measure=>simp[intOf];omega
        ·have hbiI:¬(2:Int)≤(b:Int) - (i:Int):=by omega
         have HE:Hid (Sort.partialIns lt a b s i (Sort.fixUp lt b i (Sort.fixDown lt a i (Sort.swp dk i (i - 1))))=Sort.partialIns lt a b s i dD):=by
          show _=_
          rw[Za HE1,Pz lt b i dD hbi]
         go_wp2
         go_roundw
         case rel=>first|exact⟨i,s,t+1,_,rfl,by go_num,HT2,hai,by omega,by show _=_;rw[←Za HO,Sort.partialIns_succ,Za HSC,if_neg (by omega),if_neg (by omega)];exact (Za HE).symm,HS,HK⟩|((repeat apply Exists.intro);refine⟨?_,rfl⟩;exact⟨i,s,t+1,_,rfl,by go_num,HT2,hai,by omega,by show _=_;rw[←Za HO,Sort.partialIns_succ,Za HSC,if_neg (by omega),if_neg (by omega)];exact (Za HE).symm,HS,HK⟩)
         case measure=>simp[intOf];omega
    ·have HSC:Hid (Sort.scanSorted lt dk b i0=i):=by show _=_;rw[←Za HU,Jz lt dk b i (Or.inl hilt)]
     have he:(i:Int)=(b:Int):=by omega
     have heB:((i:Int) == (b:Int))=true:=by simp;omega
     have ER:Hid (r=(dk,true)):=by
      show _=_
      rw[←Za HO,Sort.partialIns_succ,Za HSC,if_pos (by omega)]
     go_wp2
     go_ret
     exact⟨by rw[Za ER];rfl,by rw[Za ER];exact Za HS,Kp.trans (Za KX) (Za HK)⟩
variable {α : Type} [Inhabited α] {lt : α → α → Bool} {a b a' b' m pivot : Nat} {d dk d2 d4 d5 d' : Array α}
theorem Tq(h:Sort.Below lt a b d)(p:Sort.PermIn a b d d')(hb:b≤d.size):Sort.Below lt a b d':=Sort.Below.permA Sort.permIn_all hb h p
def Ends(lt : α → α→Bool)(a b:Nat)(d:Array α)(a' b':Nat)(dk:Array α):Prop:=
 ∀ d',Sort.PermIn a' b' dk d'→Sort.SortedIn lt a' b' d'→Sort.PermIn a b d d'∧Sort.SortedIn lt a b d'
theorem Ends.perm(h:Ends lt a b d a' b' dk)(p:Sort.PermIn a' b' dk d2):Ends lt a b d a' b' d2:=fun d' h1 h2=>h d' (Sort.permIn_trans _ _ _ _ _ p h1) h2
theorem Ends.start(lt : α → α→Bool)(a b:Nat)(d:Array α):Ends lt a b d a b d:=fun _ h1 h2=>⟨h1,h2⟩
theorem Ends.on(h:Ends lt a b d a' b' dk){a2 b2:Nat}(k:Ends lt a' b' dk a2 b2 d2):Ends lt a b d a2 b2 d2:=fun d' h1 h2=>h d' (k d' h1 h2).1 (k d' h1 h2).2
theorem Nt{β : Type}{lt : β → β→Bool}(hO:Sort.SWO lt){x y : β}(h:lt x y=true):lt y x=false:=by
 rw[←Bool.not_eq_true]
 intro k
 have:=hO.trans _ _ _ h k
 rw[hO.irrefl] at this
 exact Bool.noConfusion this
theorem Zkb(hO:Sort.SWO lt)(hB:Sort.Below lt a b d)(ha:0<a)(hl:lt d[a - 1]! d[pivot]! = false)(h:Zly lt d a b pivot m d4)(hb:b≤d.size) :
  Sort.Below lt m b d4∧Ends lt a b d m b d4:=by
 have hs4:d4.size=d.size:=h.perm.1
 have hlo:=h.lo
 have hq:∀ x,a≤x→x<b→lt d4[x]! d[a - 1]! = false:=by
  refine Sort.permIn_all d d4 a b (fun v=>lt v d[a - 1]! = false) hb h.perm (fun i h1 h2=>?_)
  rcases hB with q|q
  ·omega
  ·exact q i h1 h2
 refine⟨Or.inr fun i h1 h2=>?_,fun d' h1 h2=>⟨Sort.permIn_trans _ _ _ _ _ h.perm (Sort.permIn_mono _ _ _ _ _ _ (by omega) (Nat.le_refl _) (by omega) h1),fun i j hi hij hj=>?_⟩⟩
 ·rw[←Bool.not_eq_true]
  intro k
  have:=hO.trans _ _ _ (h.right i h1 h2) k
  rw[h.left (m - 1) (by omega) (by omega)] at this
  exact Bool.noConfusion this
 ·have hr:∀ x,m≤x→x<b→lt d[pivot]! d'[x]! = true:=Sort.permIn_all d4 d' m b (fun v=>lt d[pivot]! v=true) (by omega) h1 h.right
  have ho:∀ x,x<m→d'[x]! = d4[x]!:=fun x hx=>h1.2.1 x (Or.inl hx)
  by_cases hjm:j<m
  ·rw[ho j hjm,ho i (by omega)]
   exact hO.ntrans _ _ _ (hO.ntrans _ _ _ (hq j (by omega) hj) hl) (h.left i hi (by omega))
  ·by_cases him:i<m
   ·rw[ho i him,←Bool.not_eq_true]
    intro k
    have:=hO.trans _ _ _ (hr j (by omega) hj) k
    rw[h.left i hi him] at this
    exact Bool.noConfusion this
   ·exact h2 i j (by omega) hij hj
theorem Zbt(hO:Sort.SWO lt){P : α}(hm:d'[m]! = P)(hl:∀ x,a≤x→x<m→lt d'[x]! P=true)(hr:∀ x,m<x→x<b→lt d'[x]! P=false)(h1:Sort.SortedIn lt a m d')(h2:Sort.SortedIn lt (m+1) b d'):Sort.SortedIn lt a b d':=by
 intro i j hi hij hj
 by_cases hjm:j<m
 ·exact h1 i j hi hij hjm
 ·by_cases hje:j=m
  ·subst hje
   rw[hm]
   exact Nt hO (hl i hi hij)
  ·by_cases him:i<m
   ·exact hO.ntrans _ _ _ (hr j (by omega) hj) (Nt hO (hl i hi him))
   ·by_cases hie:i=m
    ·subst hie
     rw[hm]
     exact hr j hij hj
    ·exact h2 i j (by omega) hij hj
theorem Bm(hB:Sort.Below lt a b d)(h:Zer lt d a b m d4)(hb:b≤d.size):Sort.Below lt a m d4∧Sort.Below lt (m+1) b d4:=by
 have hh:=h.hi
 refine⟨?_,Or.inr fun i h1 h2=>?_⟩
 ·rcases Tq hB h.perm hb with q|q
  ·exact Or.inl q
  ·exact Or.inr fun i h1 h2=>q i h1 (by omega)
 ·rw[Nat.add_sub_cancel]
  exact h.right i (by omega) h2
theorem Zjh(hO:Sort.SWO lt)(h:Zer lt d a b m d4)(hb:b≤d.size)(p:Sort.PermIn a m d4 d5)(s:Sort.SortedIn lt a m d5) :
  Sort.Below lt (m+1) b d5∧Ends lt a b d (m+1) b d5:=by
 have hlo:=h.lo
 have hhi:=h.hi
 have hs4:d4.size=d.size:=h.perm.1
 have hs5:d5.size=d4.size:=p.1
 have ho:∀ x,m≤x→d5[x]! = d4[x]!:=fun x hx=>p.2.1 x (Or.inr hx)
 have hl5:∀ x,a≤x→x<m→lt d5[x]! d4[m]! = true:=Sort.permIn_all d4 d5 a m (fun v=>lt v d4[m]! = true) (by omega) p h.left
 refine⟨Or.inr fun i h1 h2=>?_,fun d' h1 h2=>⟨Sort.permIn_trans _ _ _ _ _ (Sort.permIn_trans _ _ _ _ _ h.perm (Sort.permIn_mono _ _ _ _ _ _ (Nat.le_refl _) (by omega) (by omega) p)) (Sort.permIn_mono _ _ _ _ _ _ (by omega) (Nat.le_refl _) (by omega) h1),?_⟩⟩
 ·rw[Nat.add_sub_cancel,ho m (Nat.le_refl _),ho i (by omega)]
  exact h.right i (by omega) h2
 ·have ho':∀ x,x<m+1→d'[x]! = d5[x]!:=fun x hx=>h1.2.1 x (Or.inl hx)
  refine Zbt hO (P:=d4[m]!) (by rw[ho' m (by omega),ho m (Nat.le_refl _)]) (fun x hx1 hx2=>by rw[ho' x (by omega)];exact hl5 x hx1 hx2) ?_ (fun i j hi hij hj=>by rw[ho' i (by omega),ho' j (by omega)];exact s i j hi hij hj) h2
  have:=Sort.permIn_all d5 d' (m+1) b (fun v=>lt v d4[m]! = false) (by omega) h1 (fun i hi1 hi2=>by rw[ho i (by omega)];exact h.right i (by omega) hi2)
  exact fun x hx1 hx2=>this x (by omega) hx2
theorem Zgp(hO:Sort.SWO lt)(hB:Sort.Below lt a b d)(h:Zer lt d a b m d4)(hb:b≤d.size)(p:Sort.PermIn (m+1) b d4 d5)(s:Sort.SortedIn lt (m+1) b d5) :
  Sort.Below lt a m d5∧Ends lt a b d a m d5:=by
 have hlo:=h.lo
 have hhi:=h.hi
 have hs4:d4.size=d.size:=h.perm.1
 have hs5:d5.size=d4.size:=p.1
 have ho:∀ x,x<m+1→d5[x]! = d4[x]!:=fun x hx=>p.2.1 x (Or.inl hx)
 have hr5:∀ x,m+1≤x→x<b→lt d5[x]! d4[m]! = false:=Sort.permIn_all d4 d5 (m+1) b (fun v=>lt v d4[m]! = false) (by omega) p (fun i h1 h2=>h.right i (by omega) h2)
 refine⟨?_,fun d' h1 h2=>⟨Sort.permIn_trans _ _ _ _ _ (Sort.permIn_trans _ _ _ _ _ h.perm (Sort.permIn_mono _ _ _ _ _ _ (by omega) (Nat.le_refl _) (by omega) p)) (Sort.permIn_mono _ _ _ _ _ _ (Nat.le_refl _) (by omega) (by omega) h1),?_⟩⟩
 ·rcases (Bm hB h hb).1 with q|q
  ·exact Or.inl q
  ·exact Or.inr fun i h1 h2=>by rw[ho i (by omega),ho (a - 1) (by omega)];exact q i h1 h2
 ·have ho':∀ x,m≤x→d'[x]! = d5[x]!:=fun x hx=>h1.2.1 x (Or.inr hx)
  have hl:=Sort.permIn_all d5 d' a m (fun v=>lt v d4[m]! = true) (by omega) h1 (fun i hi1 hi2=>by rw[ho i (by omega)];exact h.left i hi1 hi2)
  exact Zbt hO (P:=d4[m]!) (by rw[ho' m (Nat.le_refl _),ho m (by omega)]) hl (fun x hx1 hx2=>by rw[ho' x (by omega)];exact hr5 x (by omega) hx2) h2 (fun i j hi hij hj=>by rw[ho' i (by omega),ho' j (by omega)];exact s i j hi hij hj)
end Go.Proofs.YtpikejjiignchaaGreatDoor
