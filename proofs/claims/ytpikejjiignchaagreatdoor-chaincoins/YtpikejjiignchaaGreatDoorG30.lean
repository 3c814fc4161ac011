import Derived.Test.YtpikejjiignchaaGreatDoorG29
set_option maxHeartbeats 25600000
set_option maxRecDepth 10000
namespace Go.Proofs.YtpikejjiignchaaGreatDoor
open Go.RowKit
def Pd{α : Type}[Inhabited α](P:Program)(f:Nat)(g:Nat)(lb:Array Value)(sf:Nat)(sb:Array Value)(n B:Nat)(St:World→Array α→Prop):Prop:=
 ∀ (a b:Nat) (d:Array α) (w:World),St w d→a≤b→b≤n→Calls P f #[lsV g lb sf sb,.int .i64 a,.int .i64 b] w fun e w'=>e = .returned (.tuple #[])∧∃ d',Sort.PermIn a b d d'∧St w' d'∧Kp B w w'
theorem Zkz{α : Type}[Inhabited α]{g:Nat}{lb:Array Value}{sf:Nat}{sb:Array Value}{lt : α → α→Bool}{n B:Nat}{St:World→Array α→Prop}(H:Sr Tryz.prog g lb sf sb lt n B St)
  (HB:Pd Tryz.prog 216 g lb sf sb n B St) (HV:Pd Tryz.prog 218 g lb sf sb n B St) (K:Nat) :
  ∀ (a b limit:Nat) (d:Array α) (w:World),St w d→a≤b→b≤n→b - a≤K→limit≤64→Sort.Below lt a b d →
  Calls Tryz.prog 183 #[lsV g lb sf sb,.int .i64 a,.int .i64 b,.int .i64 limit] w fun e w'=>e = .returned (.tuple #[])∧∃ d',(Sort.PermIn a b d d'∧Sort.SortedIn lt a b d')∧St w' d'∧Kp B w w':=by
 induction K using Nat.strongRecOn with
 | ind K ih=>
 intro a b limit d w h hab hb hK hlim hbel
 unfold lsV
 have IH:=Zb ih
 have hn:=H.small
 have eg:=H.enters
 have hlow:=H.low _ _ h
 have HO:=Zb H.order
 have HZ:Hid (∀ w d,St w d→d.size=n):=H.size
 obtain⟨N0,N1⟩:=Vo w (.func (.func g) #[] lb) (.func (.func sf) #[] sb) 272
 have SX:=Zb (H.alloc w d (.cells #[.func (.func g) #[] lb,.func (.func sf) #[] sb] 272) h)
 have KX:=Zb (Kp.alloc B w (.cells #[.func (.func g) #[] lb,.func (.func sf) #[] sb] 272))
 have HH:=Zb H
 have HBR:=Zb HB
 have HVR:=Zb HV
 have HBL:=Zb hbel
 clear H h ih HB HV hbel
 go_enter Tryz.func183,Tryz.ntmps183
 go_wp2
 generalize w.alloc (.cells #[.func (.func g) #[] lb,.func (.func sf) #[] sb] 272)=X at *
 have M0:=Zb N0
 have M1:=Zb N1
 clear N0 N1
 go_loopg [1,2,3,8,9] (b - a) (fun kx s1 s2 s3 s8 s9 wr=>∃ (a' b' lim:Nat) (wb wp:Bool) (dk:Array α),s1 = .int .i64 a'∧s2 = .int .i64 b'∧s3 = .int .i64 lim∧s8 = .bool wb∧s9 = .bool wp∧a'≤b'∧b'≤n∧b' - a'≤kx∧kx≤b - a∧lim≤64∧Hid (Sort.Below lt a' b' dk)∧Hid (Ends lt a b d a' b' dk)∧Hid (St wr dk)∧Hid (Kp B X wr))
 case atStart=>exact⟨a,b,limit,true,true,d,rfl,rfl,rfl,rfl,rfl,hab,hb,Nat.le_refl _,Nat.le_refl _,hlim,HBL,Ends.start lt a b d,SX,Kp.refl _ _⟩
 case round=>
  obtain⟨a',b',lim,wb,wp,dk,rfl,rfl,rfl,rfl,rfl,hab',hb',hkx,hkN,hlm,HBE,HE,HS,HK⟩:=hrel
  have c0:=(Za HK).cell hlow (Za M0)
  have c1:=(Za HK).cell hlow (Za M1)
  have cz:=World.block_lt_of_cell? _ _ c0
  have HDS:=Zb ((Za HZ) _ _ (Za HS))
  by_cases h12:b'≤a'+12
  ·have h12z:(b':Int) - (a':Int)≤12:=by omega
   have C:=Zb (Zlm (Za HH) a' b' dk wr (Za HS) hab' hb')
   unfold lsV at C
   go_wp2_with fail
   refine (Za C).mono ?_
   rintro e w1 ⟨rfl,hS1,hK1⟩
   have HS1:=Zb hS1
   have HK1:=Zb (Kp.trans (Za HK) hK1)
   clear hS1 hK1
   go_wp2
   (try simp only[Exit.inBlock,Exit.then]);refine bodyPost_ret (results_none rfl _ _ _) ?_ ?_;focus rfl
   have q:=Sort.insertionSort_holds (Za HO) dk a' b' hab' (by rw[Za HDS];exact hb')
   exact⟨rfl,_,(Za HE) _ q.1 q.2,Za HS1,Kp.trans (Za KX) (Za HK1)⟩
  ·have h12z:¬(b':Int) - (a':Int)≤12:=by omega
   by_cases hl0:lim=0
   ·subst hl0
    have C:=Zb (Zjy (Za HH) a' b' dk wr (Za HS) (by omega) hb')
    unfold lsV at C
    go_wp2_with fail
    refine (Za C).mono ?_
    rintro e w1 ⟨rfl,hS1,hK1⟩
    have HS1:=Zb hS1
    have HK1:=Zb (Kp.trans (Za HK) hK1)
    clear hS1 hK1
    go_wp2
    (try simp only[Exit.inBlock,Exit.then]);refine bodyPost_ret (results_none rfl _ _ _) ?_ ?_;focus rfl
    have q:=Sort.heapSort_holds (Za HO) dk a' b' hab' (by rw[Za HDS];exact hb')
    exact⟨rfl,_,(Za HE) _ q.1 q.2,Za HS1,Kp.trans (Za KX) (Za HK1)⟩
   ·have hl0z:¬(lim:Int)=0:=by omega
    have hl0B:((lim:Int) == 0)=false:=by simp;omega
    go_upto_if 35 with fail
    go_cut [3] from 19 (fun s3 wc=>∃ l2:Nat,s3 = .int .i64 l2∧l2≤64∧∃ d2:Array α,Hid (Sort.PermIn a' b' dk d2)∧Hid (St wc d2)∧Hid (Kp B X wc))
    case first=>
     cases wb
     ·have C:=Zb ((Za HBR) a' b' dk wr (Za HS) hab' hb')
      unfold lsV at C
      go_wp2_with fail
      refine (Za C).mono ?_
      rintro e w1 ⟨rfl,d2,hP1,hS1,hK1⟩
      have HP1:=Zb hP1
      have HS1:=Zb hS1
      have HK1:=Zb (Kp.trans (Za HK) hK1)
      clear hP1 hS1 hK1
      go_wp2
      go_meet
      case rel=>exact⟨lim - 1,by congr 1 <;> omega,by omega,d2,HP1,HS1,HK1⟩
     ·go_wp2_with fail
      go_meet
      case rel=>exact⟨lim,rfl,hlm,dk,Sort.permIn_refl _ _ _,HS,HK⟩
    case rest=>
     clear hl0 hl0z hl0B c0 c1 cz HS HK
     obtain⟨l2,rfl,hl2,d2,HP2,HS2,HK2⟩:=hcut
     have c0:=(Za HK2).cell hlow (Za M0)
     have c1:=(Za HK2).cell hlow (Za M1)
     have cz:=World.block_lt_of_cell? _ _ c0
     have C:=Zb (Zej (Za HH) a' b' d2 _ (Za HS2) (by omega) hb')
     unfold lsV at C
     go_upto_if 50 with (go_at_call 217;refine (Za C).mono ?_;rintro e w2 ⟨x,t,rfl,hx1,hx2,ht,hS3,hK3⟩;have HS3:=Zb hS3;have HK3:=Zb (Kp.trans (Za HK2) hK3);clear hS3 hK3)
     clear c0 c1 cz C
     have c0:=(Za HK3).cell hlow (Za M0)
     have c1:=(Za HK3).cell hlow (Za M1)
     have cz:=World.block_lt_of_cell? _ _ c0
     go_cut [11,12] from 19 (fun s11 s12 wc=>∃ x t:Nat,s11 = .int .i64 x∧s12 = .int .i64 t∧a'≤x∧x<b'∧∃ d2:Array α,Hid (Sort.PermIn a' b' dk d2)∧Hid (St wc d2)∧Hid (Kp B X wc))
     case first=>
      by_cases e2:t=2
      ·subst e2
       have C:=Zb ((Za HVR) a' b' d2 _ (Za HS3) hab' hb')
       unfold lsV at C
       go_wp2_with fail
       refine (Za C).mono ?_
       rintro e w1 ⟨rfl,d3,hP1,hS1,hK1⟩
       have HP1:=Zb (Sort.permIn_trans _ _ _ _ _ (Za HP2) hP1)
       have HS1:=Zb hS1
       have HK1:=Zb (Kp.trans (Za HK3) hK1)
       clear hP1 hS1 hK1
       go_wp2
       go_meet
       case rel=>exact⟨b' - 1 - (x - a'),1,by congr 1 <;> omega,rfl,by omega,by omega,d3,HP1,HS1,HK1⟩
      ·have e2z:¬(t:Int)=2:=by omega
       have e2B:((t:Int) == 2)=false:=by simp;omega
       go_wp2_with fail
       go_meet
       case rel=>exact⟨x,t,rfl,rfl,hx1,hx2,d2,HP2,HS3,HK3⟩
     case rest=>
      clear c0 c1 cz HS3 HK3 HS2 HK2 HP2 ht hx1 hx2
      obtain⟨x,t,rfl,rfl,hx1,hx2,d2,HP2,HS2,HK2⟩:=hcut
      have c0:=(Za HK2).cell hlow (Za M0)
      have c1:=(Za HK2).cell hlow (Za M1)
      have cz:=World.block_lt_of_cell? _ _ c0
      go_upto_region 16 with fail
      go_cut [68] from 19 (fun s68 wx=>∃ y:Bool,s68 = .bool y∧wx=wc)
      case first=>
       by_cases e1:t=1
       ·subst e1
        cases wb <;> cases wp <;> (go_wp2_with fail;go_meet;exact⟨_,rfl,rfl⟩)
       ·have e1z:¬(t:Int)=1:=by omega
        have e1B:((t:Int) == 1)=false:=by simp;omega
        cases wb <;> cases wp <;> (go_wp2_with fail;go_meet;exact⟨_,rfl,rfl⟩)
      case rest=>
       obtain⟨y,rfl,rfl⟩:=hcut
       go_upto_if 68 with fail
       go_cut [] from 19 (fun wc=>∃ d2:Array α,Hid (Sort.PermIn a' b' dk d2)∧Hid (St wc d2)∧Hid (Kp B X wc))
       case first=>
        cases y
        ·go_wp2_with fail
         go_meet
         case rel=>exact⟨d2,HP2,HS2,HK2⟩
        ·obtain⟨r,hr⟩:∃ r,Sort.partialInsertionSort lt d2 a' b'=r:=⟨_,rfl⟩
         have C:=Zb (Ew (Za HH) a' b' d2 _ (Za HS2) (by omega) hb' r hr)
         unfold lsV at C
         have hq:=Sort.partialInsertionSort_holds (Za HO) d2 a' b' (by omega) (by rw[(Za HZ) _ _ (Za HS2)];exact hb') (Tq (Za HBE) (Za HP2) (by rw[Za HDS];exact hb'))
         rw[hr] at hq
         have HQ:=Zb hq
         clear hq hr
         obtain⟨r1,r2⟩:=r
         cases r2
         ·go_wp2_with fail
          refine (Za C).mono ?_
          rintro e w1 ⟨rfl,hS1,hK1⟩
          have HS1:=Zb hS1
          have HK1:=Zb (Kp.trans (Za HK2) hK1)
          clear hS1 hK1
          go_wp2
          go_meet
          case rel=>exact⟨r1,Sort.permIn_trans _ _ _ _ _ (Za HP2) (Za HQ).1,HS1,HK1⟩
         ·go_wp2_with fail
          refine (Za C).mono ?_
          rintro e w1 ⟨rfl,hS1,hK1⟩
          have HS1:=Zb hS1
          have HK1:=Zb (Kp.trans (Za HK2) hK1)
          clear hS1 hK1
          go_wp2
          (try simp only[Exit.inBlock,Exit.then]);refine bodyPost_ret (results_none rfl _ _ _) ?_ ?_;focus rfl
          exact⟨rfl,r1,(Za HE).perm (Za HP2) _ (Za HQ).1 ((Za HQ).2 (by first|rfl|trivial)),Za HS1,Kp.trans (Za KX) (Za HK1)⟩
       case rest=>
        clear c0 c1 cz HS2 HK2 HP2
        obtain⟨d2,HP2,HS2,HK2⟩:=hcut
        have c0:=(Za HK2).cell hlow (Za M0)
        have c1:=(Za HK2).cell hlow (Za M1)
        have cz:=World.block_lt_of_cell? _ _ c0
        have HE2:=Zb ((Za HE).perm (Za HP2))
        have HBE2:=Zb (Tq (Za HBE) (Za HP2) (by rw[Za HDS];exact hb'))
        have HD2:=Zb ((Za HZ) _ _ (Za HS2))
        clear HE HBE HDS HP2
        go_upto_region 18 with fail
        go_cut [83] from 19 (fun s83 wc=>Hid (St wc d2)∧Hid (Kp B X wc)∧((s83 = .bool true∧0<a'∧Hid (lt d2[a' - 1]! d2[x]! = false))∨s83 = .bool false))
        case first=>
         by_cases ha0:0<a'
         ·have ha0z:decide ((0:Int)<(a':Int))=true:=decide_eq_true (by omega)
          have hl:=(Za HH).less _ d2 (a' - 1) x (Za HS2) (by omega) (by omega)
          rw[show (((a' - 1:Nat):Int))=(a':Int) - 1 by omega] at hl
          cases hlv:lt d2[a' - 1]! d2[x]! with
          | true=>
           rw[hlv] at hl
           clear hlv
           go_wp2_with (go_at_fn g;refine hl.mono ?_;rintro e w' ⟨rfl,hS3,hK3⟩;have HS3:=Zb hS3;have HK3:=Zb (Kp.trans (Za HK2) hK3);clear hS3 hK3)
           go_meet
           exact⟨HS3,HK3,Or.inr rfl⟩
          | false=>
           rw[hlv] at hl
           have HL:=Zb hlv
           clear hlv
           go_wp2_with (go_at_fn g;refine hl.mono ?_;rintro e w' ⟨rfl,hS3,hK3⟩;have HS3:=Zb hS3;have HK3:=Zb (Kp.trans (Za HK2) hK3);clear hS3 hK3)
           go_meet
           exact⟨HS3,HK3,Or.inl ⟨rfl,ha0,HL⟩⟩
         ·have ha0z:decide ((0:Int)<(a':Int))=false:=decide_eq_false (by omega)
          go_wp2_with fail
          go_meet
          exact⟨HS2,HK2,Or.inr rfl⟩
        case rest=>
         clear c0 c1 cz HS2 HK2
         obtain⟨HS2,HK2,hor⟩:=hcut
         have c0:=(Za HK2).cell hlow (Za M0)
         have c1:=(Za HK2).cell hlow (Za M1)
         have cz:=World.block_lt_of_cell? _ _ c0
         rcases hor with ⟨rfl,ha0,HL⟩|rfl
         ·have C:=Zb (Zdq (Za HH) a' b' x d2 _ (Za HS2) hx1 hx2 hb')
          unfold lsV at C
          go_wp2_with fail
          refine (Za C).mono ?_
          rintro e w3 ⟨mid,d4,rfl,hq,hS3,hK3⟩
          have q2:=Zkb (Za HO) (Za HBE2) ha0 (Za HL) hq (by rw[Za HD2];exact hb')
          have hm1:=hq.lo
          have hm2:=hq.hi
          have HQ:=Zb q2
          have HS3:=Zb hS3
          have HK3:=Zb (Kp.trans (Za HK2) hK3)
          clear q2 hq hS3 hK3
          go_wp2
          go_roundg (b' - mid)
          case measure=>omega
          case rel=>exact⟨mid,b',l2,wb,wp,d4,rfl,rfl,rfl,rfl,rfl,hm2,hb',Nat.le_refl _,by omega,hl2,(Za HQ).1,(Za HE2).on (Za HQ).2,HS3,HK3⟩
         ·have C:=Zb (Zjg (Za HH) a' b' x d2 _ (Za HS2) hx1 hx2 hb')
          unfold lsV at C
          go_upto_if 109 with (go_at_call 221;refine (Za C).mono ?_;rintro e w3 ⟨mid,ap,d4,rfl,hq,hS3,hK3⟩;have hm1:=hq.lo;have hm2:=hq.hi;have HS3:=Zb hS3;have HK3:=Zb (Kp.trans (Za HK2) hK3);clear hS3 hK3)
          have hbl:=Bm (Za HBE2) hq (by rw[Za HD2];exact hb')
          have HQ:=Zb hq
          have HBB:=Zb hbl
          clear hq hbl c0 c1 cz C
          have c0:=(Za HK3).cell hlow (Za M0)
          have c1:=(Za HK3).cell hlow (Za M1)
          have cz:=World.block_lt_of_cell? _ _ c0
          by_cases h4:mid - a'<b' - mid
          ·have h4z:(mid:Int) - (a':Int)<(b':Int) - (mid:Int):=by omega
           have C:=Zb ((Za IH) (mid - a') (by omega) a' mid l2 d4 w3 (Za HS3) hm1 (by omega) (Nat.le_refl _) hl2 (Za HBB).1)
           unfold lsV at C
           go_wp2_with fail
           refine (Za C).mono ?_
           rintro e w4 ⟨rfl,d5,hq5,hS4,hK4⟩
           have HQ5:=Zb (Zjh (Za HO) (Za HQ) (by rw[Za HD2];exact hb') hq5.1 hq5.2)
           have HS4:=Zb hS4
           have HK4:=Zb (Kp.trans (Za HK3) hK4)
           clear hq5 hS4 hK4
           go_wp2
           go_roundg (b' - (mid+1))
           case measure=>omega
           case rel=>exact⟨mid+1,b',l2,_,ap,d5,by go_num,rfl,rfl,rfl,rfl,by omega,hb',Nat.le_refl _,by omega,hl2,(Za HQ5).1,(Za HE2).on (Za HQ5).2,HS4,HK4⟩
          ·have h4z:¬(mid:Int) - (a':Int)<(b':Int) - (mid:Int):=by omega
           have C0:=(Za IH) (b' - (mid+1)) (by omega) (mid+1) b' l2 d4 w3 (Za HS3) (by omega) hb' (Nat.le_refl _) hl2 (Za HBB).2
           rw[show ((mid+1:Nat):Int)=(mid:Int)+1 by omega] at C0
           unfold lsV at C0
           have C:=Zb C0
           clear C0
           go_wp2_with fail
           refine (Za C).mono ?_
           rintro e w4 ⟨rfl,d5,hq5,hS4,hK4⟩
           have HQ5:=Zb (Zgp (Za HO) (Za HBE2) (Za HQ) (by rw[Za HD2];exact hb') hq5.1 hq5.2)
           have HS4:=Zb hS4
           have HK4:=Zb (Kp.trans (Za HK3) hK4)
           clear hq5 hS4 hK4
           go_wp2
           go_roundg (mid - a')
           case measure=>omega
           case rel=>exact⟨a',mid,l2,_,ap,d5,rfl,rfl,rfl,rfl,rfl,by omega,by omega,Nat.le_refl _,by omega,hl2,(Za HQ5).1,(Za HE2).on (Za HQ5).2,HS4,HK4⟩
theorem Zgw(x1 x2 v:Int)(lk:List (Int×Int))(hh:Int)(rr:Bool) :
  (okC (x1,x2,v,lk,hh,rr)=false∧(x1<1∨¬x1<1∧120<x1∨¬x1<1∧¬120<x1∧x2<0∨¬x1<1∧¬120<x1∧¬x2<0∧5<x2∨¬x1<1∧¬120<x1∧¬x2<0∧¬5<x2∧v<1∨¬x1<1∧¬120<x1∧¬x2<0∧¬5<x2∧¬v<1∧1000000000<v ∨
   ¬x1<1∧¬120<x1∧¬x2<0∧¬5<x2∧¬v<1∧¬1000000000<v∧hh<1∨¬x1<1∧¬120<x1∧¬x2<0∧¬5<x2∧¬v<1∧¬1000000000<v∧¬hh<1∧1000<hh)) ∨
  (okC (x1,x2,v,lk,hh,rr)=true∧¬x1<1∧¬120<x1∧¬x2<0∧¬5<x2∧¬v<1∧¬1000000000<v∧¬hh<1∧¬1000<hh):=by
 have e:okC (x1,x2,v,lk,hh,rr)=true↔((1≤x1∧x1≤120)∧(0≤x2∧x2≤5))∧(1≤v∧v≤1000000000)∧(1≤hh∧hh≤1000):=by
  unfold okC Zjm okV okH pt cv ch
  rw[Bool.and_eq_true,Bool.and_eq_true,Bool.and_eq_true,Bool.and_eq_true,Bool.and_eq_true,Bool.and_eq_true,Bool.and_eq_true]
  exact⟨fun ⟨⟨⟨a,b⟩,c,d⟩,⟨e,f⟩,g,h⟩=>⟨⟨⟨of_decide_eq_true a,of_decide_eq_true b⟩,of_decide_eq_true c,of_decide_eq_true d⟩,⟨of_decide_eq_true e,of_decide_eq_true f⟩,of_decide_eq_true g,of_decide_eq_true h⟩,
   fun ⟨⟨⟨a,b⟩,c,d⟩,⟨e,f⟩,g,h⟩=>⟨⟨⟨decide_eq_true a,decide_eq_true b⟩,decide_eq_true c,decide_eq_true d⟩,⟨decide_eq_true e,decide_eq_true f⟩,decide_eq_true g,decide_eq_true h⟩⟩
 cases q:okC (x1,x2,v,lk,hh,rr) with
 | true=>
  have:=e.1 q
  refine .inr ⟨rfl,?_⟩
  omega
 | false=>
  have:¬(((1≤x1∧x1≤120)∧(0≤x2∧x2≤5))∧(1≤v∧v≤1000000000)∧(1≤hh∧hh≤1000)):=fun h=>by rw[e.2 h] at q;cases q
  refine .inl ⟨rfl,?_⟩
  omega
theorem P7(p q:PtD)(o:Bool)(w:World)(ho:lt p q=o) :
  Calls Tryz.prog 70 #[.agg #[.int .i64 p.1,.int .i64 p.2],.agg #[.int .i64 q.1,.int .i64 q.2]] w fun e w'=>e = .returned (.bool o)∧Below w.heap.size w w':=by
 subst ho
 obtain⟨p1,p2⟩:=p
 obtain⟨q1,q2⟩:=q
 simp only
 have HB:=Zb (Ze (Zg w (.cells #[.int .i64 p1,.int .i64 p2] 99)) (Zg _ (.cells #[.int .i64 q1,.int .i64 q2] 99)))
 by_cases e1:p1<q1
 ·have R:Hid (lt (p1,p2) (q1,q2)=true):=(Uu _ _).2 (.inl e1)
  go_enter Tryz.func70,Tryz.ntmps70
  go_wp2
  go_ret
  exact⟨by rw[Za R];rfl,Za HB⟩
 ·by_cases e2:p1=q1
  ·subst e2
   clear e1
   by_cases e3:p2<q2
   ·have R:Hid (lt (p1,p2) (p1,q2)=true):=(Uu _ _).2 (.inr ⟨rfl,e3⟩)
    go_enter Tryz.func70,Tryz.ntmps70
    go_wp2
    go_ret
    exact⟨by rw[Za R];rfl,Za HB⟩
   ·have R:Hid (lt (p1,p2) (p1,q2)=false):=by
     show _=_
     rw[←Bool.not_eq_true,Uu]
     rintro (h|⟨_,h⟩)
     ·simp at h
     ·exact e3 h
    go_enter Tryz.func70,Tryz.ntmps70
    go_wp2
    go_ret
    exact⟨by rw[Za R];rfl,Za HB⟩
  ·have R:Hid (lt (p1,p2) (q1,q2)=false):=by
    show _=_
    rw[←Bool.not_eq_true,Uu]
    rintro (h|⟨h,_⟩)
    ·exact e1 h
    ·exact e2 h
   have g2:(p1 == q1)=false:=by simp[e2]
   clear e2
   go_enter Tryz.func70,Tryz.ntmps70
   go_wp2
   go_ret
   exact⟨by rw[Za R];rfl,Za HB⟩
theorem A8(b off n c:Nat)(L:List Zf)(w:World)(hn:n≤720)(hz:L.length=n)(hc:∀ i (h:i<L.length),CoinAt w b (off+i*6) L[i]) :
  Calls Tryz.prog 29 #[.slice (some ⟨b,off,none⟩) n c] w fun e w'=>e = .returned (.int .i64 (Yk none 0 L))∧Below w.heap.size w w':=by
 have HC:=Zb hc
 have HZ:=Zb hz
 clear hc hz
 go_enter Tryz.func29,Tryz.ntmps29
 go_wp2
 go_loopw [3,12] (fun sv i wr=>∃ (k:Nat) (S:Int),k≤n∧i = .int .i64 k∧sv = .int .i64 S∧0≤S∧S≤1000000000∧Hid (Yk none 0 L=Yk (Va L k) S (L.drop k))∧Below w.heap.size w wr) (fun _ i _=>n - (intOf i).toNat)
 case atStart=>exact⟨0,0,Nat.zero_le _,rfl,rfl,by decide,by decide,rfl,Below.refl _ _⟩
 case round=>
  obtain⟨k,S,hk,rfl,rfl,hS0,hS1,A,hb⟩:=hrel
  have HB:=Zb hb
  by_cases hlt:k<n
  ·have hlk:k<L.length:=by rw[Za HZ];exact hlt
   have hin:=CoinAt.kept _ _ _ _ _ hb ((Za HC) k hlk)
   have ST:=Zb (Zcj L k hlk (Va L k) S)
   have HL:Hid (∀ j,k=j+1→∃ q,Va L k=some (pt q)∧CoinAt wr b (off+j*6) q):=fun j hj=>by
    have hj2:j<L.length:=by omega
    exact⟨L[j],by rw[hj];exact Q8 L j hj2,CoinAt.kept _ _ _ _ _ hb ((Za HC) j hj2)⟩
   have HN:Hid (k+1≤L.length→Va L (k+1)=some (pt L[k])):=fun _=>Q8 L k hlk
   obtain⟨x,hx⟩:∃ x,L[k]=x:=⟨_,rfl⟩
   rw[hx] at hin ST HN
   have A2:Hid (Yk none 0 L=if ck1 x≠0 then ck1 x else if Rd (Va L k) x=false then 6 else if 1000000000<S+cv x then 12 else Yk (some (pt x)) (S+cv x) (L.drop (k+1))):=by show _=_;rw[Za A,Za ST]
   have PN:Hid (Va L (k+1)=some (pt x)):=(Za HN) hlk
   obtain⟨x1,x2,v,lk,hh,rr⟩:=x
   obtain⟨a,m,d,g1,g2,g3,g4,g5,g6,hO,_⟩:=hin.val
   simp only[cv,ck,ch,cr] at g1 g2 g3 g4 g5 g6 hO A2
   obtain⟨X,hX⟩:∃ X,X=wr.alloc (.cells #[.int .i64 x1,.int .i64 x2,.int .i64 v,.slice a m d,.int .i64 hh,.bool rr] 103):=⟨_,rfl⟩
   obtain⟨n0,n1,n2,n3,n4,n5⟩:=Rg wr (.int .i64 x1) (.int .i64 x2) (.int .i64 v) (.slice a m d) (.int .i64 hh) (.bool rr) 103
   rw[←hX] at n0 n1 n2 n3 n4 n5
   have hbX:Below wr.heap.size wr X:=by rw[hX];exact Zg _ _
   have hsX:wr.heap.size<X.heap.size:=World.block_lt_of_cell? _ _ n0
   have HBX:=Zb hbX
   have HO:=Zb (hO.later hbX)
   have N0:=Zb n0
   have N1:=Zb n1
   have N2:=Zb n2
   have HX:=Zb hX
   rcases Zgw x1 x2 v lk hh rr with ⟨q0,qq⟩|⟨q0,q1,q2,q3,q4,q5,q6,q7,q8⟩
   ·have R:Hid (Yk none 0 L=3):=by
     have e:ck1 (x1,x2,v,lk,hh,rr)=3:=by unfold ck1;rw[if_pos q0]
     show _=_
     rw[Za A2,e];rfl
    have HBF:=Zb (Ze (Za HB) (Za HBX))
    clear A A2 ST HN HL PN hx hin hO hb hX q0 HO N0 N1 N2 HBX
    rcases qq with qq|qq|qq|qq|qq|qq|qq|qq
    all_goals
     try obtain⟨q1,qq⟩:=qq
     try obtain⟨q2,qq⟩:=qq
     try obtain⟨q3,qq⟩:=qq
     try obtain⟨q4,qq⟩:=qq
     try obtain⟨q5,qq⟩:=qq
     try obtain⟨q6,qq⟩:=qq
     try obtain⟨q7,qq⟩:=qq
     go_wp2_with fail
     rw[←Za HX]
     go_wp2
     go_ret
     exact⟨by rw[Za R];rfl,Za HBF⟩
   have hck:ck1 (x1,x2,v,lk,hh,rr)=chk lk:=by unfold ck1;rw[if_neg (by rw[q0];decide)];rfl
   rw[hck] at A2
   obtain⟨z,hz⟩:∃ z,chk lk=z:=⟨_,rfl⟩
   have C1:=Zb (Q7 a m d lk X (Za HO))
   rw[hz] at A2 C1
   clear hck
   by_cases hz0:z=0
   ·subst hz0
    have A3:Hid (Yk none 0 L=if Rd (Va L k) (x1,x2,v,lk,hh,rr)=false then 6 else if 1000000000<S+v then 12 else Yk (some (pt (x1,x2,v,lk,hh,rr))) (S+v) (L.drop (k+1))):=by
     have h:=Za A2
     rw[if_neg (by decide)] at h
     exact h
    clear A A2 ST HN hx hin hO hb hz hX q0
    by_cases hk0:k=0
    ·have A4:Hid (Yk none 0 L=if 1000000000<S+v then 12 else Yk (some (pt (x1,x2,v,lk,hh,rr))) (S+v) (L.drop (k+1))):=by
      have h:=Za A3
      rw[hk0] at h
      rw[if_neg (by show ¬true=false;decide)] at h
      rw[hk0]
      exact h
     clear A3 HL
     have hg:decide ((0:Int)<(k:Int))=false:=by rw[hk0];decide
     have hg2:decide (0<k)=false:=by rw[hk0];decide
     clear hk0
     go_wp2_with fail
     rw[←Za HX]
     go_wp2_with fail
     refine (Za C1).mono ?_
     rintro e w2 ⟨rfl,hb2⟩
     have m2:=Zc hb2 (Za N2)
     have hs2:wr.heap.size<w2.heap.size:=World.block_lt_of_cell? _ _ m2
     have HB2:=Zb (Ze (Ze (Za HB) (Za HBX)) hb2)
     clear hb2
     go_wp2_with fail
     go_quiet (fail)
     by_cases hf:1000000000<S+v
     ·have R:Hid (Yk none 0 L=12):=by show _=_;rw[Za A4,if_pos hf]
      clear A4
      go_wp2
      go_ret
      exact⟨by rw[Za R];rfl,Ze (Za HB2) (P6 _ _)⟩
     ·have R:Hid (Yk none 0 L=Yk (Va L (k+1)) (S+v) (L.drop (k+1))):=by show _=_;rw[Za A4,if_neg hf,Za PN]
      clear A4
      go_wp2
      go_roundw
      case rel=>exact⟨k+1,S+v,by omega,by go_num,rfl,by omega,by omega,R,Ze (Za HB2) (P6 _ _)⟩
      case measure=>simp[intOf];omega
    ·obtain⟨j,rfl⟩:∃ j,k=j+1:=⟨k - 1,by omega⟩
     obtain⟨q,hq,hqa⟩:=(Za HL) j rfl
     obtain⟨_,_,_,q1,q2,_,_,_,_,_,_⟩:=hqa.val
     have A5:Hid (Yk none 0 L=if lt (pt q) (pt (x1,x2,v,lk,hh,rr))=false then 6 else if 1000000000<S+v then 12 else Yk (some (pt (x1,x2,v,lk,hh,rr))) (S+v) (L.drop (j+1+1))):=by
      have h:=Za A3
      rw[hq] at h
      exact h
     have Q1:=Zb (Zc hbX q1)
     have Q2:=Zb (Zc hbX q2)
     have G:Hid (decide ((0:Int)<((j+1:Nat):Int))=true):=by show _=_;simp
     have hj1:(j:Int)<(n:Int):=by omega
     have hw2:IntKind.i64.wrap (j:Int)=(j:Int):=by rw[IntKind.wrap_i64];omega
     have hw3:IntKind.i64.wrap ((j:Int)+1 - 1)=(j:Int):=by rw[IntKind.wrap_i64];omega
     have hj2:j<n:=by omega
     have hj0:(0:Int)≤(j:Int):=by omega
     have hw1:IntKind.i64.wrap (((j+1:Nat):Int) - 1)=(j:Int):=by rw[IntKind.wrap_i64];omega
     clear A3 HL hk0 hq hqa q1 q2
     cases hl:lt (pt q) (pt (x1,x2,v,lk,hh,rr)) with
     | false=>
      have R:Hid (Yk none 0 L=6):=by show _=_;rw[Za A5,if_pos hl]
      have CC:=Zb (fun w=>P7 (pt q) (pt (x1,x2,v,lk,hh,rr)) false w hl)
      unfold pt at CC
      simp only at CC
      clear A5 hl
      go_wp2_with fail
      rw[←Za HX]
      go_wp2_with fail
      refine (Za C1).mono ?_
      rintro e w2 ⟨rfl,hb2⟩
      have m0:=Zc hb2 (Za N0)
      have m1:=Zc hb2 (Za N1)
      have p0:=Zc hb2 (Za Q1)
      have p1:=Zc hb2 (Za Q2)
      have hs2:wr.heap.size<w2.heap.size:=World.block_lt_of_cell? _ _ m0
      have HB2:=Zb (Ze (Ze (Za HB) (Za HBX)) hb2)
      clear hb2 n0 n1 n2 g1 g2 g3 g4 g5 g6
      have hG:=Za G
      go_wp2_with fail
      go_region_held3 (fun w'=>Below w2.heap.size w2 w'∧w'.cell? ⟨wr.heap.size,0,none⟩=some (.int .i64 x1)∧w'.cell? ⟨wr.heap.size,1,none⟩=some (.int .i64 x2)∧w'.cell? ⟨b,off+j*6,none⟩=some (.int .i64 q.1)∧w'.cell? ⟨b,off+j*6+1,none⟩=some (.int .i64 q.2.1))
       (first
       | exact⟨Zh _,m0,m1,p0,p1⟩
       | (go_split_ands;refine⟨Ze (by assumption) hbc,Zc hbc (by assumption),Zc hbc (by assumption),Zc hbc (by assumption),Zc hbc (by assumption)⟩))
       (first|(go_at_call 70;refine ((Za CC) _).mono ?_;rintro e w' ⟨rfl,hbc⟩))
      rename_i hH
      have HH:=Zb (Ze (Za HB2) hH.1)
      clear hH
      go_wp2
      go_ret
      exact⟨by rw[Za R];rfl,Za HH⟩
     | true=>
      have A4:Hid (Yk none 0 L=if 1000000000<S+v then 12 else Yk (some (pt (x1,x2,v,lk,hh,rr))) (S+v) (L.drop (j+1+1))):=by
       have h:=Za A5
       rw[if_neg (by rw[hl];decide)] at h
       exact h
      have CC:=Zb (fun w=>P7 (pt q) (pt (x1,x2,v,lk,hh,rr)) true w hl)
      unfold pt at CC
      simp only at CC
      clear A5 hl
      go_wp2_with fail
      rw[←Za HX]
      go_wp2_with fail
      refine (Za C1).mono ?_
      rintro e w2 ⟨rfl,hb2⟩
      have m0:=Zc hb2 (Za N0)
      have m1:=Zc hb2 (Za N1)
      have M2:=Zb (Zc hb2 (Za N2))
      have p0:=Zc hb2 (Za Q1)
      have p1:=Zc hb2 (Za Q2)
      have hs2:wr.heap.size<w2.heap.size:=World.block_lt_of_cell? _ _ m0
      have HB2:=Zb (Ze (Ze (Za HB) (Za HBX)) hb2)
      clear hb2 n0 n1 n2 g1 g2 g3 g4 g5 g6
      have hG:=Za G
      go_wp2_with fail
      go_region_held3 (fun w'=>Below w2.heap.size w2 w'∧w'.cell? ⟨wr.heap.size,0,none⟩=some (.int .i64 x1)∧w'.cell? ⟨wr.heap.size,1,none⟩=some (.int .i64 x2)∧w'.cell? ⟨b,off+j*6,none⟩=some (.int .i64 q.1)∧w'.cell? ⟨b,off+j*6+1,none⟩=some (.int .i64 q.2.1))
       (first
       | exact⟨Zh _,m0,m1,p0,p1⟩
       | (go_split_ands;refine⟨Ze (by assumption) hbc,Zc hbc (by assumption),Zc hbc (by assumption),Zc hbc (by assumption),Zc hbc (by assumption)⟩))
       (first|(go_at_call 70;refine ((Za CC) _).mono ?_;rintro e w' ⟨rfl,hbc⟩))
      rename_i hH
      have HH:=Zb (Ze (Za HB2) hH.1)
      have m2:=Zc hH.1 (Za M2)
      have hs3:=World.block_lt_of_cell? _ _ m2
      clear hH
      by_cases hf:1000000000<S+v
      ·have R:Hid (Yk none 0 L=12):=by show _=_;rw[Za A4,if_pos hf]
       clear A4
       go_wp2
       go_ret
       exact⟨by rw[Za R];rfl,Za HH⟩
      ·have R:Hid (Yk none 0 L=Yk (Va L (j+1+1)) (S+v) (L.drop (j+1+1))):=by show _=_;rw[Za A4,if_neg hf,Za PN]
       clear A4
       go_wp2
       go_roundw
       case rel=>exact⟨j+1+1,S+v,by omega,by go_num,rfl,by omega,by omega,R,Za HH⟩
       case measure=>simp[intOf];omega
   ·have R:Hid (Yk none 0 L=z):=by show _=_;rw[Za A2,if_pos hz0]
    have gz:(z != 0)=true:=by simp[hz0]
    clear A A2 ST HN HL PN hx hin hO hb hz hX hz0 q0
    go_wp2_with fail
    rw[←Za HX]
    go_wp2_with fail
    refine (Za C1).mono ?_
    rintro e w2 ⟨rfl,hb2⟩
    have HB2:=Zb (Ze (Ze (Za HB) (Za HBX)) hb2)
    clear hb2
    go_wp2
    go_ret
    exact⟨by rw[Za R];rfl,Za HB2⟩
  ·have R:Hid (Yk none 0 L=0):=by show _=_;rw[Za A,Cu L k (by rw[Za HZ];omega)]
   clear A hb
   go_wp2
   go_ret
   exact⟨by rw[Za R];rfl,Za HB⟩
theorem Ba(a:Option Addr)(n c:Nat)(w:World)(h:720<n) :
  Calls Tryz.prog 29 #[.slice a n c] w fun e w'=>e = .returned (.int .i64 2)∧w=w':=by
 go_enter Tryz.func29,Tryz.ntmps29
 go_wp2
 go_ret
 exact⟨rfl,rfl⟩
theorem A9(a:Option Addr)(c:Nat)(w:World) :
  Calls Tryz.prog 29 #[.slice a 0 c] w fun e w'=>e = .returned (.int .i64 0)∧w=w':=by
 go_enter Tryz.func29,Tryz.ntmps29
 go_wp2
 refine wp_loop_rounds 1 ?_
 rw[rounds_succ]
 go_wp2
 go_ret
 exact⟨rfl,rfl⟩
theorem Kh(a:Option Addr)(n c:Nat)(L:List Zf)(z:Int)(w:World)(h:CoinsAt w a n L)(hz:Yj L=z) :
  Calls Tryz.prog 29 #[.slice a n c] w fun e w'=>e = .returned (.int .i64 z)∧Below w.heap.size w w':=by
 subst hz
 obtain⟨hl,hc⟩:=h
 unfold Yj
 rw[hl]
 by_cases h1:720<n
 ·rw[if_pos h1]
  exact (Ba a n c w h1).mono fun e w' ⟨x,y⟩=>⟨x,y ▸ Below.refl _ _⟩
 ·rw[if_neg h1]
  by_cases h2:n=0
  ·subst h2
   have e:L=[]:=List.length_eq_zero_iff.1 hl
   subst e
   exact (A9 a c w).mono fun e w' ⟨x,y⟩=>⟨x,y ▸ Below.refl _ _⟩
  ·obtain⟨b,off,rfl,_,hcell⟩:=hc (by omega)
   exact A8 b off n c L w (by omega) hl hcell
open Go.RowKit Go.Lib
theorem Ei(bx blk off n c i j:Nat)(p q:PtD)(o:Bool)(w:World)(hc:w.cell? ⟨bx,0,none⟩=some (.slice (some ⟨blk,off,none⟩) n c))(hi:i<n)(hj:j<n)
  (p0:w.cell? ⟨blk,off+i*6,none⟩=some (.int .i64 p.1)) (p1:w.cell? ⟨blk,off+i*6+1,none⟩=some (.int .i64 p.2))
  (q0:w.cell? ⟨blk,off+j*6,none⟩=some (.int .i64 q.1)) (q1:w.cell? ⟨blk,off+j*6+1,none⟩=some (.int .i64 q.2)) (ho:lt p q=o) :
  Calls Tryz.prog 154 #[.int .i64 i,.int .i64 j,.pointer (some ⟨bx,0,none⟩)] w fun e w'=>e = .returned (.bool o)∧Below w.heap.size w w':=by
 have C:=Zb (fun w=>P7 p q o w ho)
 have hiI:(i:Int)<(n:Int):=by omega
 have hjI:(j:Int)<(n:Int):=by omega
 clear ho
 go_enter Tryz.func154,Tryz.ntmps154
 go_wp2_with fail
 go_region_held3 (fun w'=>Below w.heap.size w w'∧w'.cell? ⟨bx,0,none⟩=some (.slice (some ⟨blk,off,none⟩) n c)∧w'.cell? ⟨blk,off+i*6,none⟩=some (.int .i64 p.1)∧w'.cell? ⟨blk,off+i*6+1,none⟩=some (.int .i64 p.2)∧w'.cell? ⟨blk,off+j*6,none⟩=some (.int .i64 q.1)∧w'.cell? ⟨blk,off+j*6+1,none⟩=some (.int .i64 q.2))
  (first
  | exact⟨Zh _,hc,p0,p1,q0,q1⟩
  | (go_split_ands;refine⟨Ze (by assumption) hbc,Zc hbc (by assumption),Zc hbc (by assumption),Zc hbc (by assumption),Zc hbc (by assumption),Zc hbc (by assumption)⟩))
  (first|(go_at_call 70;refine ((Za C) _).mono ?_;rintro e w' ⟨rfl,hbc⟩))
 rename_i hH
 have HH:=Zb hH.1
 clear hH
 go_wp2
 go_ret
 exact⟨rfl,Za HH⟩
def Ua(x:CV):List Value:=Zj [x]
def ltC(x y:CV):Bool:=lt (pt x.1) (pt y.1)
theorem Ziw:Sort.SWO ltC where
 irrefl x:=lt_irrefl _
 trans x y z h1 h2:=lt_trans h1 h2
 ntrans x y z h1 h2:=by
  unfold ltC at *
  rw[←Bool.not_eq_true,Uu] at *
  omega
structure CSt(w0:World)(blk off n:Nat)(w:World)(d:Array CV):Prop where
 holds:Sort.HoldsK Ua 6 w blk off d
 len:d.size=n
 gr:Gr w0 w (fun b=>b=blk)
theorem CSt.later{w0 w w':World}{blk off n:Nat}{d:Array CV}(h:CSt w0 blk off n w d)(hb:Below w.heap.size w w'):CSt w0 blk off n w' d:=
 ⟨fun j hj=>by
  have q:=h.holds j hj
  refine⟨Zc hb q.1,?_⟩
  have e:=hb.block blk (World.block_lt_of_cell? _ _ q.1)
  have f:=q.2
  simp only[World.frozen?] at f ⊢
  rw[e]
  exact f,h.len,h.gr.on hb⟩
theorem Bw{B:Nat}{w w':World}(hb:Below w.heap.size w w'):Kp B w w':=⟨hb.size,fun b _ hl=>hb.block b hl⟩
theorem Zdj(w:World)(blk off:Nat)(d:Array CV)(b:Nat)(h:b≠blk):(Sort.putRowK Ua 6 w blk off d).heap[b]? = w.heap[b]?:=by
 unfold Sort.putRowK Sort.putRow Sort.mapBlock
 simp only
 rw[Array.getElem?_modify,if_neg (Ne.symm h)]
theorem Zlq(w:World)(n blk off:Nat)(d:Array CV)(os:Array Obj):Gr w (Sort.grow (Sort.putRowK Ua 6 (Sort.ahead w n) blk off d) os) (fun b=>b=blk):=by
 have hs:(Sort.putRowK Ua 6 (Sort.ahead w n) blk off d).heap.size=w.heap.size:=by rw[Sort.size_putRowK];rfl
 refine⟨rfl,rfl,rfl,?_,fun k hk hn=>?_⟩
 ·simp only[Sort.grow,Array.size_append];omega
 ·rw[Sort.heap_grow_old _ _ (by omega),Zdj _ _ _ _ _ hn];rfl
theorem CSt.put{w0 w:World}{blk off n:Nat}{d d':Array CV}(h:CSt w0 blk off n w d)(hb:blk<w0.heap.size)(hs:d'.size=d.size)(m:Nat)(os:Array Obj) :
  CSt w0 blk off n (Sort.grow (Sort.putRowK Ua 6 (Sort.ahead w m) blk off d') os) d'∧Kp w0.heap.size w (Sort.grow (Sort.putRowK Ua 6 (Sort.ahead w m) blk off d') os):=by
 have g:=Zlq w m blk off d' os
 have hbw:blk<w.heap.size:=Nat.lt_of_lt_of_le hb h.gr.size
 refine⟨⟨Sort.holdsK_grow Ua 6 _ os blk off d' (by rw[Sort.size_putRowK];exact hbw) (Sort.holdsK_putRowK Ua 6 _ blk off d d' (Sort.holdsK_ahead Ua 6 _ _ _ _ _ h.holds) hs),hs.trans h.len,h.gr.trans g⟩,g.size,fun b hB hl=>g.block b hl (by omega)⟩
theorem Zfs(w0:World)(blk off n c bx:Nat)(sf:Nat)(sb:Array Value)(hn:n≤4096)(hb:blk<w0.heap.size)(hc:w0.cell? ⟨bx,0,none⟩=some (.slice (some ⟨blk,off,none⟩) n c))(hne:bx≠blk)
  (hs:SwapSwapsK Tryz.prog sf sb Ua 6 blk off n):Sr Tryz.prog 154 #[.pointer (some ⟨bx,0,none⟩)] sf sb ltC n w0.heap.size (CSt w0 blk off n) where
 order:=Ziw
 small:=hn
 enters:=enters_of Tryz.func154 (by kernel_rfl) rfl
 less w d i j h hi hj:=by
  have hbx:w.cell? ⟨bx,0,none⟩=some (.slice (some ⟨blk,off,none⟩) n c):=by
   have e:=h.gr.block bx (World.block_lt_of_cell? _ _ hc) hne
   simp only[World.cell?] at hc ⊢
   rw[e]
   exact hc
  have hl:=h.len
  have cell:=fun t ht u hu=>(Sort.HoldsK.cell (i:=t) (c:=u) h.holds ht hu).1
  refine (Ei bx blk off n c i j (pt d[i]!.1) (pt d[j]!.1) _ w hbx hi hj (cell i (by omega) 0 (by decide)) (cell i (by omega) 1 (by decide)) (cell j (by omega) 0 (by decide)) (cell j (by omega) 1 (by decide)) rfl).mono ?_
  rintro e w' ⟨rfl,hb'⟩
  exact⟨rfl,h.later hb',Bw hb'⟩
 swap w d i j h hi hj:=by
  have hl:=h.len
  have q:=hs w d h.holds hl i j hi hj
  have e:=Sort.putRowK_swp Ua 6 (fun _=>rfl) w blk off d i j (by omega) (by omega)
  rw[Sort.putRowK_self Ua 6 w blk off d h.holds] at e
  rw[e] at q
  have r:=h.put hb (d':=Sort.swp d i j) (by rw[Sort.size_swp]) 0 #[]
  have f:Sort.grow (Sort.putRowK Ua 6 (Sort.ahead w 0) blk off (Sort.swp d i j)) #[]=Sort.putRowK Ua 6 w blk off (Sort.swp d i j):=by
   simp[Sort.grow,Sort.ahead]
  rw[f] at r
  exact⟨_,q,r.1,r.2⟩
 size w d h:=h.len
 low w d h:=h.gr.size
 alloc w d o h:=h.later (Zg w o)
 store w d b o v h hB:=⟨fun j hj=>by
   have q:=h.holds j hj
   rw[World.cell?_setCell_other _ _ _ _ (by intro e;have:=congrArg Addr.block e;simp at this;omega),World.frozen?_setCell]
   exact q,h.len,h.gr.set (.inr hB) v⟩
open Go.RowKit Go.Lib
theorem Tryz.infoCoins:(Tryz.prog.info? 29).map (fun i=>i.desc)=some (.slice 103):=by kernel_rfl
theorem Tryz.infoCoinS:(Tryz.prog.info? 103).map (fun i=>(i.size,i.bytes,i.hasPointers))=some (6,64,true):=by kernel_rfl
theorem Lw:∃ i ie,Tryz.prog.info? 29=some i∧i.desc = .slice 103∧Tryz.prog.info? 103=some ie∧ie.size=6∧ie.bytes=64∧ie.hasPointers=true:=by
 have h1:=Tryz.infoCoins
 have h2:=Tryz.infoCoinS
 cases q1:Tryz.prog.info? 29 with
 | none=>rw[q1] at h1;cases h1
 | some i=>
  cases q2:Tryz.prog.info? 103 with
  | none=>rw[q2] at h2;cases h2
  | some ie=>
   rw[q1] at h1
   rw[q2] at h2
   simp only[Option.map_some,Option.some.injEq,Prod.mk.injEq] at h1 h2
   exact⟨i,ie,rfl,h1,rfl,h2.1,h2.2.1,h2.2.2⟩
theorem swap9(n:Nat)(ie:TypeInfo)(hb:ie.bytes=64)(hp:ie.hasPointers=true)(h2:2≤n):swapperK n ie 25=9:=by
 have e0:(n == 0)=false:=by simp;omega
 have e1:(n == 1)=false:=by simp;omega
 simp[swapperK,e0,e1,hb,hp]
theorem Zht(x:CV)(v:Value)(h:v∈Ua x):v.oneCell'=true:=Xe [x] v h
theorem El(w0:World)(blk off n:Nat)(g:Nat)(lb:Array Value)(sf:Nat)(sb:Array Value)(hn:n≤4096)(hb:blk<w0.heap.size)(hs:SwapSwapsK Tryz.prog sf sb Ua 6 blk off n) :
  Pd Tryz.prog 216 g lb sf sb n w0.heap.size (CSt w0 blk off n):=by
 intro a b d w h hab hbn
 have hl:=h.len
 refine (Any.breakPatterns_func_cells_w Tryz.laysGg28 Ua 6 (fun _=>rfl) (.func g) #[] lb sf sb blk off a b d w (by rw[hl];exact hs) h.holds (Nat.lt_of_lt_of_le hb h.gr.size) hab (by omega) (by omega)).mono ?_
 rintro e w' ⟨rfl,m,os,rfl⟩
 have hp:=Sort.breakPatterns_holds d a b hab (by omega)
 have r:=h.put hb (d':=Sort.breakPatterns d a b) hp.1 m os
 exact⟨rfl,_,hp,r.1,r.2⟩
theorem Zfx(w0:World)(blk off n:Nat)(g:Nat)(lb:Array Value)(sf:Nat)(sb:Array Value)(hn:n≤4096)(hb:blk<w0.heap.size)(hs:SwapSwapsK Tryz.prog sf sb Ua 6 blk off n) :
  Pd Tryz.prog 218 g lb sf sb n w0.heap.size (CSt w0 blk off n):=by
 intro a b d w h hab hbn
 have hl:=h.len
 refine (Any.reverseRange_func_cells_w Tryz.laysGg30 Ua 6 (fun _=>rfl) (.func g) #[] lb sf sb blk off a b d w (by rw[hl];exact hs) h.holds (Nat.lt_of_lt_of_le hb h.gr.size) hab (by omega) (by omega)).mono ?_
 rintro e w' ⟨rfl,m,os,rfl⟩
 have hp:=Sort.reverseRange_holds d a b hab (by omega)
 have r:=h.put hb (d':=Sort.reverseRange d a b) hp.1 m os
 exact⟨rfl,_,hp,r.1,r.2⟩
theorem Ek(w:World)(p:Option Addr)(n c:Nat)(h1:n≤1)(lf:Fn)(la lb:Array Value) :
  Calls Tryz.prog 153 #[.iface 29 (.slice p n c),.func lf la lb] w fun e w'=>e = .returned (.tuple #[])∧Below w.heap.size w w':=by
 obtain⟨i,ie,hi,hd,hie,hs,hby,hp⟩:=Lw
 have key:∀ f,Tryz.prog.funcs.findIdx? (·.name == "internal/reflectlite" ++ ".Swapper$" ++ toString (swapperK n ie 25))=some f→Calls Tryz.prog 153 #[.iface 29 (.slice p n c),.func lf la lb] w fun e w'=>e = .returned (.tuple #[])∧Below w.heap.size w w':=fun f hf=>by
  refine (Any.sort_Slice_tiny Tryz.laysGg6 29 103 i ie hi hd (by kernel_rfl) hie 25 (fun _=>by kernel_rfl) p n c h1 f hf lf la lb w).mono ?_
  rintro e w' ⟨rfl,os,rfl⟩
  exact⟨rfl,rfl,rfl,rfl,by simp[Sort.grow],fun k hk=>Sort.heap_grow_old w os hk⟩
 by_cases h0:n=0
 ·subst h0
  exact key 203 (by rw[show swapperK 0 ie 25=1 from rfl];kernel_rfl)
 ·obtain rfl:n=1:=by omega
  exact key 204 (by rw[show swapperK 1 ie 25=2 from rfl];kernel_rfl)
theorem Ej(w:World)(blk off n c bx:Nat)(d:Array CV)(hn:n≤4096)(h2:2≤n)(h:CSt w blk off n w d)(hb:blk<w.heap.size)(hc:w.cell? ⟨bx,0,none⟩=some (.slice (some ⟨blk,off,none⟩) n c))(hne:bx≠blk) :
  Calls Tryz.prog 153 #[.iface 29 (.slice (some ⟨blk,off,none⟩) n c),.func (.func 154) #[] #[.pointer (some ⟨bx,0,none⟩)]] w fun e w'=>e = .returned (.tuple #[])∧∃ d',(Sort.PermIn 0 n d d'∧Sort.SortedIn ltC 0 n d')∧CSt w blk off n w' d':=by
 obtain⟨i,ie,hi,hd,hie,hs,hby,hp⟩:=Lw
 have hk:=swap9 n ie hby hp h2
 have hx:∀ args W,(callFunc 211 args).run Tryz.prog W=((Extern.ReflectliteSwapper.swap false args).run Tryz.prog W).andThen fun v w'=>.ok (.value v) w':=
  fun args W=>run_callFunc_extern Tryz.func211 (by kernel_rfl) (by kernel_rfl) (by kernel_rfl) (e:=Extern.ReflectliteSwapper.swap false) (by kernel_rfl) args W
 have hsw:=swapSwapsK_of_literal (P:=Tryz.prog) false 211 hx 103 ie hie Ua 6 (fun _=>rfl) hs (fun _=>by kernel_rfl) Zht blk off n c
 have H:=Zfs w blk off n c bx 211 _ hn hb hc hne hsw
 refine Any.sort_Slice_of_pdq Tryz.laysGg6 29 103 i ie hi hd (by kernel_rfl) hie 25 (fun _=>by kernel_rfl) (some ⟨blk,off,none⟩) n c (by omega) 211 (by rw[hk];kernel_rfl) (.func 154) #[] #[.pointer (some ⟨bx,0,none⟩)] w (fun w'=>∃ d',(Sort.PermIn 0 n d d'∧Sort.SortedIn ltC 0 n d')∧CSt w blk off n w' d') ?_
 have hB:sliceBound Tryz.prog 103 ie 25 (some ⟨blk,off,none⟩) n c=#[.slice (some ⟨blk,off,none⟩) n c,typeHandle Tryz.prog 103]:=by
  unfold sliceBound
  rw[if_neg (by rw[hk];decide)]
 rw[hB]
 have hst:CSt w blk off n (sliceWorld Tryz.prog Tryz.laysGg6_ren 29 (some ⟨blk,off,none⟩) n c w) d:=by
  unfold sliceWorld
  exact (h.later (Zg _ _)).later (Zg _ _)
 have hlim:Lib.bitLen n≤62:=Lib.bitLen_le n 62 (by omega) (by omega)
 refine (Zkz H (El w blk off n _ _ _ _ hn hb hsw) (Zfx w blk off n _ _ _ _ hn hb hsw) n 0 n (Lib.bitLen n) d _ hst (Nat.zero_le _) (Nat.le_refl _) (by omega) (by omega) (Or.inl rfl)).mono ?_
 rintro e w' ⟨rfl,d',hq,hS,_⟩
 exact⟨rfl,d',hq,hS⟩
open Go.RowKit Go.Lib
def Wk(L:List Zf):Prop:=L.Pairwise fun x y=>lt (pt y) (pt x)=false
theorem Zeu:∀ (L:List Zf),L.length≤1→Wk L
 | [],_=>List.Pairwise.nil
 | [_],_=>List.pairwise_singleton _ _
 | _ :: _ :: _,h=>absurd h (by simp)
theorem Zlv(K:List CV)(i:Nat)(h:i<K.length):K.toArray[i]! = K[i]:=by
 rw[getElem!_pos K.toArray i (by simpa using h)]
 simp
theorem Fg{w:World}{base g cap:Nat}{K:List CV}(h:w.ownsRow base 103 6 (.slice (some ⟨g,0,none⟩) K.length cap) K.length (Zj K)):Sort.HoldsK Ua 6 w g 0 K.toArray:=by
 intro j hj
 rw[Sort.size_flatK,List.size_toArray] at hj
 have hf:w.frozen? ⟨g,0+j,none⟩=false:=by
  rcases h.2 with ⟨e,_⟩|⟨g',cap',cur,e,_,hh,_⟩
  ·cases e
  ·cases e
   exact Zi hh _
 refine⟨?_,hf⟩
 have hi:j / 6<K.length:=by omega
 rw[Nat.zero_add,World.ownsRow.cellAt h j hj,id,Sort.get_flatK Ua 6 K.toArray j (by simpa using hj),Zlv K (j / 6) hi]
 obtain⟨f0,f1,f2,f3,f4,f5⟩:=Qw K (j / 6) hi
 have hr:j % 6<6:=Nat.mod_lt _ (by decide)
 have e:j=j / 6*6+j % 6:=by omega
 generalize j / 6=i at *
 generalize j % 6=r at *
 subst e
 match r,hr with
 | 0,_=>exact f0
 | 1,_=>exact f1
 | 2,_=>exact f2
 | 3,_=>exact f3
 | 4,_=>exact f4
 | 5,_=>exact f5
theorem coins_of_holds{w:World}{g:Nat}{d:Array CV}(h:Sort.HoldsK Ua 6 w g 0 d)(hg:g<w.heap.size)(hl:∀ x∈d.toList,LkAt w x):CoinsAt w (some ⟨g,0,none⟩) d.size (d.toList.map (·.1)):=by
 refine⟨by simp,fun _=>⟨g,0,rfl,hg,fun i hi=>?_⟩⟩
 rw[List.length_map,Array.length_toList] at hi
 have e:d[i]! = d.toList[i]'(by simpa using hi):=by
  rw[getElem!_pos d i hi]
  simp
 have cell:=fun u hu=>(Sort.HoldsK.cell (i:=i) (c:=u) h hi hu).1
 rw[e] at cell
 rw[List.getElem_map]
 generalize hx:d.toList[i]'(by simpa using hi)=x at *
 have hm:x∈d.toList:=hx ▸ List.getElem_mem _
 exact⟨cell 0 (by decide),cell 1 (by decide),cell 2 (by decide),⟨_,_,_,cell 3 (by decide),(hl x hm).1,(hl x hm).2⟩,cell 4 (by decide),cell 5 (by decide)⟩
theorem Zjf{n:Nat}{d d':Array CV}(h:Sort.PermIn 0 n d d')(hn:d.size=n):d'.toList.Perm d.toList:=by
 have h1:=h.2.2
 have hn':d'.size=n:=h.1.trans hn
 rw[show d.extract 0 n=d by rw[←hn];simp,show d'.extract 0 n=d' by rw[←hn'];simp] at h1
 exact h1
theorem wk_of{n:Nat}{d:Array CV}(h:Sort.SortedIn ltC 0 n d)(hn:d.size=n):Wk (d.toList.map (·.1)):=by
 unfold Wk
 rw[List.pairwise_map,List.pairwise_iff_getElem]
 intro i j hi hj hij
 rw[Array.length_toList] at hi hj
 have q:=h i j (Nat.zero_le _) hij (by omega)
 rw[getElem!_pos d i hi,getElem!_pos d j hj] at q
 simpa[ltC] using q
theorem Sz(a:Option Addr)(n c:Nat)(L:List Zf)(w X:World)(hb:Below w.heap.size w X)(hn:n≤4096)(h:CoinsAt w a n L)(hs:SlOk a n c) :
  Calls Tryz.prog 88 #[.slice a n c] X fun e w'=>∃ v,∃ K:List CV,e = .returned v∧K.map (·.1)=L∧(∀ x∈K,LkAt w x)∧w'.ownsRow X.heap.size 103 6 v K.length (Zj K)∧Below X.heap.size X w':=by
 obtain⟨hl,hc⟩:=h
 cases a with
 | none=>
  obtain⟨rfl,rfl⟩:=hs.2.2 rfl
  have e:L=[]:=List.length_eq_zero_iff.1 hl
  subst e
  exact (Qh X).mono fun e w' ⟨x,y⟩=>⟨_,[],x,rfl,fun _ hx=>(by cases hx),y ▸ ⟨rfl,.inl ⟨rfl,rfl⟩⟩,y ▸ Below.refl _ _⟩
 | some ad=>
  by_cases h0:n=0
  ·subst h0
   have e:L=[]:=List.length_eq_zero_iff.1 hl
   subst e
   exact (Wi ad 0 c [] X hn rfl (fun j u hj=>by simp[Zj] at hj)).mono fun e w' ⟨v,x,y,z⟩=>⟨v,[],x,rfl,fun _ hx=>(by cases hx),y,z⟩
  ·obtain⟨b,off,e,_,hcell⟩:=hc (by omega)
   obtain⟨rfl⟩:=e
   obtain⟨K,h1,h2,h3⟩:=Ux hcell
   have hk:K.length=n:=by rw[←hl,←h1,List.length_map]
   exact (Wi ⟨b,off,none⟩ n c K X hn hk (fun j u hj=>by rw[Addr.add_lit];exact Zc hb (h3 j u hj))).mono fun e w' ⟨v,x,y,z⟩=>⟨v,K,x,h1,h2,by rw[hk];exact y,z⟩
end Go.Proofs.YtpikejjiignchaaGreatDoor
