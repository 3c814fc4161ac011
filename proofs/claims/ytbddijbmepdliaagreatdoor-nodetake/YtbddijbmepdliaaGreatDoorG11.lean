import Derived.Test.YtbddijbmepdliaaGreatDoorH
import Derived.Test.YtbddijbmepdliaaGreatDoorG10
open Option renaming none->aD,some->dG
open Go.Proofs.Tryz
open Bool renaming not_eq_true->cI,and_eq_true->aX
open Go renaming wp_loop_rounds->bB,rounds_succ->aS,bodyPost_ret->aL
open Go.Ending renaming returned->dB
open Go.Exit renaming inBlock->bQ
open Go.IntKind renaming wrap_i64->aP,i64->J
open Go.Obj renaming cells->dA
open Go.Proofs.Tryz renaming prog->aB
open Go.Sort renaming swp->cB
open Go.Value renaming int->E,slice->F,tuple->dC,pointer->dE,bool->dF
open Go.World renaming block_lt_of_cell?->aC,cell?->bF
open List renaming length_eq_zero_iff->aJ
open Nat renaming le_refl->aE,zero_le->aI,lt_of_lt_of_le->aF
open Option.some renaming injEq->aZ
set_option maxHeartbeats 25600000
namespace Go.Proofs.YtbddijbmepdliaaGreatDoor
open Go.RowKit
def PaPost{α : Type}[Inhabited α](lt : α -> α->Bool)(d:Array α)(a b B:Nat)(St:World->Array α->Prop)(w:World)(e:Ending)(w':World):Prop:=
 ∃ (m:Nat) (t:Bool) (d':Array α),e = dB (dC #[E J m,dF t])/\Zja lt d a b m d'/\St w' d'/\Kp B w w'
theorem PaPost.of{α : Type}[Inhabited α]{lt : α -> α->Bool}{d:Array α}{a b B:Nat}{St:World->Array α->Prop}{w w'}(m:Nat)(t:Bool)(d':Array α)(h1:Zja lt d a b m d')(h2:St w' d')(h3:Kp B w w') :
  PaPost lt d a b B St w (dB (dC #[E J m,dF t])) w':=⟨m,t,d',rfl,h1,h2,h3⟩
set_option maxRecDepth 10000 in
theorem Zpn{α : Type}[Inhabited α]{g:Nat}{lb}{sf:Nat}{sb}{lt : α -> α->Bool}{n B:Nat}{St:World->Array α->Prop}(H:Sr aB g lb sf sb lt n B St)
  (a b pivot:Nat) (d:Array α) (w) (h:St w d) (cm:a<=pivot) (cn:pivot<b) (hb:b<=n) :
  Calls aB 236 #[lsV g lb sf sb,E J a,E J b,E J pivot] w λe w'=>PaPost lt d a b B St w e w':=by
 unfold lsV;have hn:=H.small;have eg:=H.enters;have ab:=H.low _ _ h;obtain⟨HD,dr⟩:=kh2 (H.size _ _ h) H.order;obtain⟨N0,N1⟩:=Vr w (.func (.func g) #[] lb) (.func (.func sf) #[] sb) 275;obtain⟨SX,KX,HH⟩:=kh3 (H.alloc w d (dA #[.func (.func g) #[] lb,.func (.func sf) #[] sb] 275) h) (Kp.alloc B w (dA #[.func (.func g) #[] lb,.func (.func sf) #[] sb] 275)) H;clear H h;obtain⟨w1,hs,df,ce⟩:=HH.swap _ d a pivot SX (by omega) (by omega);obtain⟨M0,M1,di,cc⟩:=kh4 (ce.cell ab N0) (ce.cell ab N1) df (Kp.trans KX ce);clear df ce;obtain⟨jb,du⟩:∃ jb:Nat,jb+1=b:=⟨b - 1,by omega⟩;have dt:(b:Int) - 1=(jb:Int):=by omega
 have dl:=Zb (Pt.start (λx=>lt x d[pivot]!) a b (cB d a pivot) jb (by omega));go_enter func236,ntmps236;go_wp2;clear N0 N1 hs;obtain⟨i0,cx⟩:∃ i0:Nat,i0=a+1:=⟨_,rfl⟩;have dq:(a:Int)+1=(i0:Int):=by omega
 obtain⟨dk,cw⟩:=ZG (cB d a pivot)
 have ct:Hid (Pt (λx=>lt x d[pivot]!) a b (cB d a pivot) i0 jb dk):=by
  show Pt _ _ _ _ _ _ _;rw[cx,cw];exact Za dl
 have cu:Hid (St w1 dk):=by
  show St _ _;rw[cw];exact Za di
 have cq:=Zb (Kp.refl B w1);have cf:a<i0:=by omega
 have cg:i0<=jb+1:=by omega
 have db:=Zb cx;clear cx dq cw
 go_loopw [10] (λsa wr=>∃ i:Nat,sa = E J i/\a<i/\i0<=i/\i<=jb+1/\Hid (Pt (λx=>lt x d[pivot]!) a b (cB d a pivot) i jb dk)/\Hid (St wr dk)/\Hid (Kp B w1 wr)) (λsa _=>jb+1 - (intOf sa).toNat)
 case atStart=>exact⟨i0,by first|rfl|go_num|(have:=Za db;congr 1;omega),cf,aE _,cg,ct,cu,cq⟩
 case round=>
  obtain⟨i,rfl,bg,dg,bh,HP,HS,HK⟩:=hrel;have c0:=HK.cell ab M0;have c1:=HK.cell ab M1;have bz:=aC _ _ c0;have PV:=Zb HP.piv;by_cases cj:i<=jb
  ·have hl:=HH.less wr dk i a HS (by omega) (by omega);have ag:dk[a]! = d[pivot]!:=PV.trans (Ui d a pivot (by rw[Za HD];omega) (by rw[Za HD];omega));cases hlv:lt dk[i]! dk[a]! with
   | true=>
    rw[hlv] at hl;have HQ:=Zb (HP.up (by rw[ag] at hlv;simp[hlv]));clear hlv ag
    go_wp2_with (go_at_fn g;refine hl.mono ?_;rintro e w' ⟨rfl,ae,ad⟩;have aa:=Zb (Kp.trans HK ad);have al:=Zb ae;have d0:=aa.cell ab M0;have d1:=aa.cell ab M1;have dz:=aC _ _ d0;clear ae ad)
    go_roundw
    case rel=>first|exact⟨i+1,by go_num,by omega,by omega,by omega,HQ,al,aa⟩|((repeat apply Exists.intro);refine⟨?_,rfl⟩;exact⟨i+1,by go_num,by omega,by omega,by omega,HQ,al,aa⟩)
    case measure=>simp[intOf];omega
   | false=>
    rw[hlv] at hl
    have HQ:Hid ((λx=>lt x d[pivot]!) dk[i]! = false):=by
     show _=_;rw[ag] at hlv;simp[hlv]
    clear hlv ag
    go_wp2_with (go_at_fn g;refine hl.mono ?_;rintro e w' ⟨rfl,ae,ad⟩;have aa:=Zb (Kp.trans HK ad);have al:=Zb ae;have d0:=aa.cell ab M0;have d1:=aa.cell ab M1;have dz:=aC _ _ d0;clear ae ad)
    go_loopw [11] (λsa wr=>∃ j:Nat,sa = E J j/\i<=j+1/\j<=jb/\Hid (Pt (λx=>lt x d[pivot]!) a b (cB d a pivot) i j dk)/\Hid (St wr dk)/\Hid (Kp B w1 wr)) (λsa _=>(intOf sa).toNat)
    case atStart=>exact⟨jb,by first|rfl|go_num,bh,aE _,HP,al,aa⟩
    case round=>
     clear d0 d1 dz hl bh c0 c1 bz;obtain⟨j,rfl,bh,dh,HP,HS,HK⟩:=hrel;have c0:=HK.cell ab M0;have c1:=HK.cell ab M1;have bz:=aC _ _ c0;by_cases bu:i<=j
     ·have hl:=HH.less wr dk j a HS (by omega) (by omega);have ag:dk[a]! = d[pivot]!:=PV.trans (Ui d a pivot (by rw[Za HD];omega) (by rw[Za HD];omega));cases hlv:lt dk[j]! dk[a]! with
      | false=>
       rw[hlv] at hl;have av:=Zb (HP.down (by rw[ag] at hlv;simp[hlv]));clear hlv ag
       go_wp2_with (go_at_fn g;refine hl.mono ?_;rintro e w' ⟨rfl,ae,ad⟩;have aa:=Zb (Kp.trans HK ad);have al:=Zb ae;have d0:=aa.cell ab M0;have d1:=aa.cell ab M1;have dz:=aC _ _ d0;clear ae ad)
       go_roundw
       case rel=>first|exact⟨j - 1,by congr 1 <;> omega,by omega,by omega,av,al,aa⟩|((repeat apply Exists.intro);refine⟨?_,rfl⟩;exact⟨j - 1,by congr 1 <;> omega,by omega,by omega,av,al,aa⟩)
       case measure=>simp[intOf];omega
      | true=>
       rw[hlv] at hl
       have av:Hid ((λx=>lt x d[pivot]!) dk[j]! = true):=by
        show _=_;rw[ag] at hlv;simp[hlv]
       have cl:i<j:=by
        rcases Nat.lt_or_eq_of_le bu with q|q
        ·exact q
        ·subst q;exact Bool.noConfusion (HQ.symm.trans av)
       have dn:decide ((j:Int)<(i:Int))=false:=decide_eq_false (by omega);have dp:decide (j<i)=false:=decide_eq_false (by omega);have ca:=Zb (HP.swap bg cl (by omega) (by rw[Sort.size_swp,Za HD];exact hb) HQ av);clear hlv ag
       go_wp2_with (go_at_fn g;refine hl.mono ?_;rintro e w' ⟨rfl,ae,ad⟩;have aa:=Zb (Kp.trans HK ad);have d0:=aa.cell ab M0;have d1:=aa.cell ab M1;have dz:=aC _ _ d0;obtain⟨w3,hs,bx,bw⟩:=HH.swap w' dk i j ae (by omega) (by omega);have cb:=Zb bx;have bf:=Zb (Kp.trans aa bw);have e0:=bf.cell ab M0;have e1:=bf.cell ab M1;have ez:=aC _ _ e0;clear ae ad bx bw)
       go_wp2;clear d0 d1 dz hl hs e0 e1 ez
       go_loopw [10,11] (λcz da wr=>∃ (i j:Nat) (dk:Array α),cz = E J i/\da = E J j/\a<i/\i<=j+1/\j<b/\Hid (Pt (λx=>lt x d[pivot]!) a b (cB d a pivot) i j dk)/\Hid (St wr dk)/\Hid (Kp B w1 wr)) (λcz da _=>(intOf da).toNat+1 - (intOf cz).toNat)
       case atStart=>exact⟨i+1,j - 1,_,by go_num,by congr 1 <;> omega,by omega,by omega,by omega,ca,cb,bf⟩
       case round=>
        clear bg bh cj bu dh cl dg cf cg;obtain⟨i0,j0,dk,rfl,rfl,cf,cg,dv,ct,cu,cq⟩:=hrel;go_wp2_with fail
        go_loopw [10] (λsa wr=>∃ i:Nat,sa = E J i/\a<i/\i0<=i/\i<=j0+1/\Hid (Pt (λx=>lt x d[pivot]!) a b (cB d a pivot) i j0 dk)/\Hid (St wr dk)/\Hid (Kp B w1 wr)) (λsa _=>j0+1 - (intOf sa).toNat)
        case atStart=>exact⟨i0,by first|rfl|go_num|(have:=Za db;congr 1;omega),cf,aE _,cg,ct,cu,cq⟩
        case round=>
         obtain⟨i,rfl,bg,dg,bh,HP,HS,HK⟩:=hrel;have c0:=HK.cell ab M0;have c1:=HK.cell ab M1;have bz:=aC _ _ c0;have PV:=Zb HP.piv;by_cases cj:i<=j0
         ·have hl:=HH.less wr dk i a HS (by omega) (by omega);have ag:dk[a]! = d[pivot]!:=PV.trans (Ui d a pivot (by rw[Za HD];omega) (by rw[Za HD];omega));cases hlv:lt dk[i]! dk[a]! with
          | true=>
           rw[hlv] at hl;have HQ:=Zb (HP.up (by rw[ag] at hlv;simp[hlv]));clear hlv ag
           go_wp2_with (go_at_fn g;refine hl.mono ?_;rintro e w' ⟨rfl,ae,ad⟩;have aa:=Zb (Kp.trans HK ad);have al:=Zb ae;have d0:=aa.cell ab M0;have d1:=aa.cell ab M1;have dz:=aC _ _ d0;clear ae ad)
           go_roundw
           case rel=>first|exact⟨i+1,by go_num,by omega,by omega,by omega,HQ,al,aa⟩|((repeat apply Exists.intro);refine⟨?_,rfl⟩;exact⟨i+1,by go_num,by omega,by omega,by omega,HQ,al,aa⟩)
           case measure=>simp[intOf];omega
          | false=>
           rw[hlv] at hl
           have HQ:Hid ((λx=>lt x d[pivot]!) dk[i]! = false):=by
            show _=_;rw[ag] at hlv;simp[hlv]
           clear hlv ag
           go_wp2_with (go_at_fn g;refine hl.mono ?_;rintro e w' ⟨rfl,ae,ad⟩;have aa:=Zb (Kp.trans HK ad);have al:=Zb ae;have d0:=aa.cell ab M0;have d1:=aa.cell ab M1;have dz:=aC _ _ d0;clear ae ad)
           go_loopw [11] (λsa wr=>∃ j:Nat,sa = E J j/\i<=j+1/\j<=j0/\Hid (Pt (λx=>lt x d[pivot]!) a b (cB d a pivot) i j dk)/\Hid (St wr dk)/\Hid (Kp B w1 wr)) (λsa _=>(intOf sa).toNat)
           case atStart=>exact⟨j0,by first|rfl|go_num,bh,aE _,HP,al,aa⟩
           case round=>
            clear d0 d1 dz hl bh c0 c1 bz;obtain⟨j,rfl,bh,dh,HP,HS,HK⟩:=hrel;have c0:=HK.cell ab M0;have c1:=HK.cell ab M1;have bz:=aC _ _ c0;by_cases bu:i<=j
            ·have hl:=HH.less wr dk j a HS (by omega) (by omega);have ag:dk[a]! = d[pivot]!:=PV.trans (Ui d a pivot (by rw[Za HD];omega) (by rw[Za HD];omega));cases hlv:lt dk[j]! dk[a]! with
             | false=>
              rw[hlv] at hl;have av:=Zb (HP.down (by rw[ag] at hlv;simp[hlv]));clear hlv ag
              go_wp2_with (go_at_fn g;refine hl.mono ?_;rintro e w' ⟨rfl,ae,ad⟩;have aa:=Zb (Kp.trans HK ad);have al:=Zb ae;have d0:=aa.cell ab M0;have d1:=aa.cell ab M1;have dz:=aC _ _ d0;clear ae ad)
              go_roundw
              case rel=>first|exact⟨j - 1,by congr 1 <;> omega,by omega,by omega,av,al,aa⟩|((repeat apply Exists.intro);refine⟨?_,rfl⟩;exact⟨j - 1,by congr 1 <;> omega,by omega,by omega,av,al,aa⟩)
              case measure=>simp[intOf];omega
             | true=>
              rw[hlv] at hl
              have av:Hid ((λx=>lt x d[pivot]!) dk[j]! = true):=by
               show _=_;rw[ag] at hlv;simp[hlv]
              have cl:i<j:=by
               rcases Nat.lt_or_eq_of_le bu with q|q
               ·exact q
               ·subst q;exact Bool.noConfusion (HQ.symm.trans av)
              have dn:decide ((j:Int)<(i:Int))=false:=decide_eq_false (by omega);have dp:decide (j<i)=false:=decide_eq_false (by omega);have ca:=Zb (HP.swap bg cl (by omega) (by rw[Sort.size_swp,Za HD];exact hb) HQ av);clear hlv ag
              go_wp2_with (go_at_fn g;refine hl.mono ?_;rintro e w' ⟨rfl,ae,ad⟩;have aa:=Zb (Kp.trans HK ad);have d0:=aa.cell ab M0;have d1:=aa.cell ab M1;have dz:=aC _ _ d0;obtain⟨w3,hs,bx,bw⟩:=HH.swap w' dk i j ae (by omega) (by omega);have cb:=Zb bx;have bf:=Zb (Kp.trans aa bw);have e0:=bf.cell ab M0;have e1:=bf.cell ab M1;have ez:=aC _ _ e0;clear ae ad bx bw)
              go_wp2;go_roundw
              case rel=>first|exact⟨i+1,j - 1,_,by go_num,by congr 1 <;> omega,by omega,by omega,by omega,ca,cb,bf⟩|((repeat apply Exists.intro);refine⟨?_,rfl⟩;exact⟨i+1,j - 1,_,by go_num,by congr 1 <;> omega,by omega,by omega,by omega,ca,cb,bf⟩)
              case measure=>simp[intOf];omega
            ·have bi:Hid (i=j+1):=(by show _=_;omega);have hgt:j<i:=(by omega);clear bu;obtain⟨w9,cy,ay,ax⟩:=HH.swap _ dk j a HS (by omega) (by omega);obtain⟨bo,bj⟩:=kh2 ay (Kp.trans HK ax);clear ay ax;go_wp2;go_ret2;have bq:=Pt.paok cm cn (by rw[Za HD];exact hb) HP bg bi (by omega);exact PaPost.of j false _ bq bo (Kp.trans cc bj)
         ·have bi:Hid (i=j0+1):=(by show _=_;omega);have hgt:j0<i:=(by omega);clear cj;go_wp2_with fail;refine bB 1 ?_;rw[aS];obtain⟨w9,cy,ay,ax⟩:=HH.swap _ dk j0 a HS (by omega) (by omega);obtain⟨bo,bj⟩:=kh2 ay (Kp.trans HK ax);clear ay ax;go_wp2;go_ret2;have bq:=Pt.paok cm cn (by rw[Za HD];exact hb) HP bg bi (by omega);exact PaPost.of j0 false _ bq bo (Kp.trans cc bj)
     ·have bi:Hid (i=j+1):=(by show _=_;omega);have hgt:j<i:=(by omega);clear bu;obtain⟨w9,cy,ay,ax⟩:=HH.swap _ dk j a HS (by omega) (by omega);obtain⟨bo,bj⟩:=kh2 ay (Kp.trans HK ax);clear ay ax;go_wp2;go_ret2;have bq:=Pt.paok cm cn (by rw[Za HD];exact hb) HP bg bi (by omega);exact PaPost.of j true _ bq bo (Kp.trans cc bj)
  ·have bi:Hid (i=jb+1):=(by show _=_;omega);have hgt:jb<i:=(by omega);clear cj;go_wp2_with fail;refine bB 1 ?_;rw[aS];obtain⟨w9,cy,ay,ax⟩:=HH.swap _ dk jb a HS (by omega) (by omega);obtain⟨bo,bj⟩:=kh2 ay (Kp.trans HK ax);clear ay ax;go_wp2;go_ret2;have bq:=Pt.paok cm cn (by rw[Za HD];exact hb) HP bg bi (by omega);exact PaPost.of jb true _ bq bo (Kp.trans cc bj)
section
variable {α : Type} [Inhabited α]
theorem Nw(lt : α -> α->Bool)(d:Array α)(b i:Nat)(h:i<b)(hl:lt d[i]! d[i - 1]! = false):Sort.scanSorted lt d b i=Sort.scanSorted lt d b (i+1):=by
 rw[Sort.scanSorted,if_pos (by simp[h,hl])]
theorem J6(lt : α -> α->Bool)(d:Array α)(b i:Nat)(h:¬i<b\/lt d[i]! d[i - 1]! = true):Sort.scanSorted lt d b i=i:=by
 rw[Sort.scanSorted,if_neg]
 rcases h with h|h
 ·simp[h]
 ·simp[h]
theorem Zcc(lt : α -> α->Bool)(b j:Nat)(d:Array α)(h:j<b)(hl:lt d[j]! d[j - 1]! = true):Sort.shiftUp lt b j d=Sort.shiftUp lt b (j+1) (cB d j (j - 1)):=by
 rw[Sort.shiftUp,if_pos h,if_neg (by simp[hl])]
theorem Gs(lt : α -> α->Bool)(b j:Nat)(d:Array α)(h:¬j<b\/lt d[j]! d[j - 1]! = false):Sort.shiftUp lt b j d=d:=by
 rw[Sort.shiftUp]
 rcases h with h|h
 ·rw[if_neg h]
 ·by_cases q:j<b
  ·rw[if_pos q,if_pos (by simp[h])]
  ·rw[if_neg q]
theorem Ae(lt : α -> α->Bool)(j:Nat)(d:Array α)(h:1<=j)(hl:lt d[j]! d[j - 1]! = true):Sort.shiftDown lt j d=Sort.shiftDown lt (j - 1) (cB d j (j - 1)):=by
 obtain⟨k,rfl⟩:∃ k,j=k+1:=⟨j - 1,by omega⟩;rw[Nat.add_sub_cancel] at hl ⊢;rw[Sort.shiftDown,if_neg (by simp[hl])]
theorem R9(lt : α -> α->Bool)(j:Nat)(d:Array α)(h:¬1<=j\/lt d[j]! d[j - 1]! = false):Sort.shiftDown lt j d=d:=by
 cases j with
 | zero=>rfl
 | succ k=>
  rcases h with h|h
  ·omega
  ·rw[Nat.add_sub_cancel] at h;rw[Sort.shiftDown,if_pos (by simp[h])]
theorem Zah(lt : α -> α->Bool)(b i:Nat)(d:Array α)(h:i+2<=b):Sort.fixUp lt b i d=Sort.shiftUp lt b (i+1) d:=by
 rw[Sort.fixUp,if_pos (by omega)]
theorem Zid(lt : α -> α->Bool)(b i:Nat)(d:Array α)(h:¬i+2<=b):Sort.fixUp lt b i d=d:=by
 rw[Sort.fixUp,if_neg (by omega)]
theorem Mu(lt : α -> α->Bool)(a i:Nat)(d:Array α)(h:a+2<=i):Sort.fixDown lt a i d=Sort.shiftDown lt (i - 1) d:=by
 rw[Sort.fixDown,if_pos (by omega)]
theorem Zai(lt : α -> α->Bool)(a i:Nat)(d:Array α)(h:¬a+2<=i):Sort.fixDown lt a i d=d:=by
 rw[Sort.fixDown,if_neg (by omega)]
set_option maxRecDepth 10000 in
theorem Zco{g:Nat}{lb}{sf:Nat}{sb}{lt : α -> α->Bool}{n B:Nat}{St:World->Array α->Prop}(H:Sr aB g lb sf sb lt n B St)
  (a b:Nat) (d:Array α) (w) (h:St w d) (cw:a<b) (hb:b<=n) (r:Array α×Bool) (hr:Sort.partialInsertionSort lt d a b=r) :
  Calls aB 234 #[lsV g lb sf sb,E J a,E J b] w λe w'=>e = dB (dF r.2)/\St w' r.1/\Kp B w w':=by
 unfold lsV;unfold Sort.partialInsertionSort at hr;have HR:=Zb hr;have hn:=H.small;have eg:=H.enters;have ad:=H.low _ _ h;obtain⟨N0,N1⟩:=Vr w (.func (.func g) #[] lb) (.func (.func sf) #[] sb) 275;obtain⟨SX,KX,HH⟩:=kh3 (H.alloc w d (dA #[.func (.func g) #[] lb,.func (.func sf) #[] sb] 275) h) (Kp.alloc B w (dA #[.func (.func g) #[] lb,.func (.func sf) #[] sb] 275)) H;go_enter func234,ntmps234;go_wp2;generalize w.alloc (dA #[.func (.func g) #[] lb,.func (.func sf) #[] sb] 275)=X at *;obtain⟨M0,M1⟩:=kh2 N0 N1
 go_loopw [7,8] (λs7 s8 wr=>∃ (i s t:Nat) (dk:Array α),s7 = E J i/\s8 = E J t/\Hid (t+s=5)/\a<i/\i<=b/\Hid (Sort.partialIns lt a b s i dk=r)/\Hid (St wr dk)/\Hid (Kp B X wr)) (λ_ s8 _=>5 - (intOf s8).toNat)
 case atStart=>exact⟨a+1,5,0,d,by go_num,rfl,rfl,by omega,by omega,HR,SX,Kp.refl _ _⟩
 case round=>
  obtain⟨i0,s,t,dk,rfl,rfl,HT,cm,cq,HO,ca,bz⟩:=hrel;cases s with
  | zero=>
   have di:¬(t:Int)<5:=(by have:=Za HT;omega);have ER:Hid (r=(dk,false)):=HO.symm;go_wp2;go_ret;exact⟨by rw[Za ER];rfl,by rw[Za ER];exact Za ca,Kp.trans KX bz⟩
  | succ s=>
   have df:t<5:=(by have:=Za HT;omega);have cy:decide ((t:Int)<5)=true:=decide_eq_true (by omega);have bf:Hid (t+1+s=5):=(by show _=_;have:=Za HT;omega);go_wp2_with fail
   go_loopw [7] (λsa wr=>∃ i:Nat,sa = E J i/\a<i/\i<=b/\Hid (Sort.scanSorted lt dk b i=Sort.scanSorted lt dk b i0)/\Hid (St wr dk)/\Hid (Kp B X wr)) (λsa _=>b - (intOf sa).toNat)
   case atStart=>exact⟨i0,rfl,cm,cq,rfl,ca,bz⟩
   case round=>
    obtain⟨i,rfl,bh,db,HU,HS,HK⟩:=hrel;have c0:=HK.cell ad M0;have c1:=HK.cell ad M1;have br:=aC _ _ c0;by_cases cb:i<b
    ·have hl:=HH.less wr dk i (i - 1) HS (by omega) (by omega);rw[show (((i - 1:Nat):Int))=(i:Int) - 1 by omega] at hl;cases hlv:lt dk[i]! dk[i - 1]! with
     | false=>
      rw[hlv] at hl;have az:Hid (Sort.scanSorted lt dk b (i+1)=Sort.scanSorted lt dk b i0):=by show _=_;rw[<-Za HU,Nw lt dk b i cb hlv]
      go_wp2_with (go_at_fn g;refine hl.mono ?_;rintro e w' ⟨rfl,aj,ah⟩;have aa:=Zb (Kp.trans HK ah);have au:=Zb aj;have d0:=aa.cell ad M0;have d1:=aa.cell ad M1;have dz:=aC _ _ d0)
      go_roundw
      case rel=>first|exact⟨i+1,by go_num,by omega,by omega,az,au,aa⟩|((repeat apply Exists.intro);refine⟨?_,rfl⟩;exact⟨i+1,by go_num,by omega,by omega,az,au,aa⟩)
      case measure=>simp[intOf];omega
     | true=>
      rw[hlv] at hl;have av:Hid (Sort.scanSorted lt dk b i0=i):=(by show _=_;rw[<-Za HU,J6 lt dk b i (Or.inr hlv)]);have dg:¬(i:Int)=(b:Int):=(by omega);have dh:((i:Int) == (b:Int))=false:=(by simp;omega);by_cases h50:b<a+50
      ·have cl:(b:Int) - (a:Int)<50:=by omega
       have ER:Hid (r=(dk,false)):=by
        show _=_;rw[<-Za HO,Sort.partialIns_succ,Za av,if_neg (by omega),if_pos (by omega)]
       go_wp2_with (go_at_fn g;refine hl.mono ?_;rintro e w' ⟨rfl,aj,ah⟩;have aa:=Zb (Kp.trans HK ah);have au:=Zb aj;have d0:=aa.cell ad M0;have d1:=aa.cell ad M1;have dz:=aC _ _ d0)
       go_wp2;go_ret;exact⟨by rw[Za ER];rfl,by rw[Za ER];exact Za au,Kp.trans KX aa⟩
      ·have cl:¬(b:Int) - (a:Int)<50:=by omega
       go_upto_if 47 with (go_at_fn g;refine hl.mono ?_;rintro e w' ⟨rfl,aj,ah⟩;have aa:=Zb (Kp.trans HK ah);have d0:=aa.cell ad M0;have d1:=aa.cell ad M1;have dz:=aC _ _ d0;obtain⟨w3,hs,bj,bi⟩:=HH.swap w' dk i (i - 1) aj (by omega) (by omega);have ay:=Zb bj;have ap:=Zb (Kp.trans aa bi);rw[show (((i - 1:Nat):Int))=(i:Int) - 1 by omega] at hs)
       go_cut [9] from 47 to 66 (λu W=>∃ dD:Array α,Hid (Sort.fixDown lt a i (cB dk i (i - 1))=dD)/\Hid (St W dD)/\Hid (Kp B X W))
       case first=>
        by_cases bw:a+2<=i
        ·have cp:(2:Int)<=(i:Int) - (a:Int):=(by omega);have c0:=ap.cell ad M0;have c1:=ap.cell ad M1;have br:=aC _ _ c0;go_wp2_with fail
         go_loopw [9] (λsa wr=>∃ (j:Nat) (dj:Array α),sa = E J j/\j<i/\Hid (Sort.shiftDown lt j dj=Sort.shiftDown lt (i - 1) (cB dk i (i - 1)))/\Hid (St wr dj)/\Hid (Kp B X wr)) (λsa _=>(intOf sa).toNat)
         case atStart=>exact⟨i - 1,_,by congr 1 <;> omega,by omega,rfl,ay,ap⟩
         case round=>
          obtain⟨j,dj,rfl,de,HU,HS,HK⟩:=hrel;have c0:=HK.cell ad M0;have c1:=HK.cell ad M1;have br:=aC _ _ c0;by_cases cc:1<=j
          ·have hl:=HH.less wr dj j (j - 1) HS (by omega) (by omega);rw[show (((j - 1:Nat):Int))=(j:Int) - 1 by omega] at hl;cases hlv:lt dj[j]! dj[j - 1]! with
           | true=>
            rw[hlv] at hl;have az:Hid (Sort.shiftDown lt (j - 1) (cB dj j (j - 1))=Sort.shiftDown lt (i - 1) (cB dk i (i - 1))):=by show _=_;rw[<-Za HU,Ae lt j dj cc hlv]
            go_wp2_with (go_at_fn g;refine hl.mono ?_;rintro e w' ⟨rfl,aj,ah⟩;have aa:=Zb (Kp.trans HK ah);have d0:=aa.cell ad M0;have d1:=aa.cell ad M1;have dz:=aC _ _ d0;obtain⟨w3,hs,bj,bi⟩:=HH.swap w' dj j (j - 1) aj (by omega) (by omega);have ay:=Zb bj;have ap:=Zb (Kp.trans aa bi);rw[show (((j - 1:Nat):Int))=(j:Int) - 1 by omega] at hs)
            go_roundw
            case rel=>first|exact⟨j - 1,_,by congr 1 <;> omega,by omega,az,ay,ap⟩|((repeat apply Exists.intro);refine⟨?_,rfl⟩;exact⟨j - 1,_,by congr 1 <;> omega,by omega,az,ay,ap⟩)
            case measure=>simp[intOf];omega
           | false=>
            rw[hlv] at hl
            have bd:Hid (Sort.fixDown lt a i (cB dk i (i - 1))=dj):=by
             show _=_;rw[Mu lt a i _ bw,<-Za HU,R9 lt j dj (Or.inr hlv)]
            go_wp2_with (go_at_fn g;refine hl.mono ?_;rintro e w' ⟨rfl,aj,ah⟩;have aa:=Zb (Kp.trans HK ah);have au:=Zb aj;have d0:=aa.cell ad M0;have d1:=aa.cell ad M1;have dz:=aC _ _ d0)
            go_meet
            case rel=>exact⟨dj,bd,au,aa⟩
          ·have bd:Hid (Sort.fixDown lt a i (cB dk i (i - 1))=dj):=by
            show _=_;rw[Mu lt a i _ bw,<-Za HU,R9 lt j dj (Or.inl cc)]
           go_wp2_with fail;go_meet
           case rel=>exact⟨dj,bd,HS,HK⟩
        ·have cp:¬(2:Int)<=(i:Int) - (a:Int):=(by omega);go_wp2_with fail;go_meet
         case rel=>exact⟨_,Zai lt a i _ bw,ay,ap⟩
       obtain⟨dD,bd,HS,HK⟩:=hcut;have c0:=HK.cell ad M0;have c1:=HK.cell ad M1;have br:=aC _ _ c0;by_cases bv:i+2<=b
       ·have cn:(2:Int)<=(b:Int) - (i:Int):=(by omega);go_wp2_with fail
        go_loopw [10] (λsa wr=>∃ (j:Nat) (dj:Array α),sa = E J j/\i+1<=j/\j<=b/\Hid (Sort.shiftUp lt b j dj=Sort.shiftUp lt b (i+1) dD)/\Hid (St wr dj)/\Hid (Kp B X wr)) (λsa _=>b - (intOf sa).toNat)
        case atStart=>exact⟨i+1,dD,by go_num,aE _,by omega,rfl,HS,HK⟩
        case round=>
         obtain⟨j,dj,rfl,dc,dd,HU,HS,HK⟩:=hrel;have c0:=HK.cell ad M0;have c1:=HK.cell ad M1;have br:=aC _ _ c0;by_cases cd:j<b
         ·have hl:=HH.less wr dj j (j - 1) HS (by omega) (by omega);rw[show (((j - 1:Nat):Int))=(j:Int) - 1 by omega] at hl;cases hlv:lt dj[j]! dj[j - 1]! with
          | true=>
           rw[hlv] at hl;have az:Hid (Sort.shiftUp lt b (j+1) (cB dj j (j - 1))=Sort.shiftUp lt b (i+1) dD):=by show _=_;rw[<-Za HU,Zcc lt b j dj cd hlv]
           go_wp2_with (go_at_fn g;refine hl.mono ?_;rintro e w' ⟨rfl,aj,ah⟩;have aa:=Zb (Kp.trans HK ah);have d0:=aa.cell ad M0;have d1:=aa.cell ad M1;have dz:=aC _ _ d0;obtain⟨w3,hs,bj,bi⟩:=HH.swap w' dj j (j - 1) aj (by omega) (by omega);have ay:=Zb bj;have ap:=Zb (Kp.trans aa bi);rw[show (((j - 1:Nat):Int))=(j:Int) - 1 by omega] at hs)
           go_roundw
           case rel=>first|exact⟨j+1,_,by go_num,by omega,by omega,az,ay,ap⟩|((repeat apply Exists.intro);refine⟨?_,rfl⟩;exact⟨j+1,_,by go_num,by omega,by omega,az,ay,ap⟩)
           case measure=>simp[intOf];omega
          | false=>
           rw[hlv] at hl
           have HE:Hid (Sort.partialIns lt a b s i (Sort.fixUp lt b i (Sort.fixDown lt a i (cB dk i (i - 1))))=Sort.partialIns lt a b s i dj):=by
            show _=_;rw[Za bd,Zah lt b i dD bv,<-Za HU,Gs lt b j dj (Or.inr hlv)]
           go_wp2_with (go_at_fn g;refine hl.mono ?_;rintro e w' ⟨rfl,aj,ah⟩;have aa:=Zb (Kp.trans HK ah);have au:=Zb aj;have d0:=aa.cell ad M0;have d1:=aa.cell ad M1;have dz:=aC _ _ d0)
           go_wp2;go_roundw
           case rel=>first|exact⟨i,s,t+1,_,rfl,by go_num,bf,bh,by omega,by show _=_;rw[<-Za HO,Sort.partialIns_succ,Za av,if_neg (by omega),if_neg (by omega)];exact HE.symm,au,aa⟩|((repeat apply Exists.intro);refine⟨?_,rfl⟩;exact⟨i,s,t+1,_,rfl,by go_num,bf,bh,by omega,by show _=_;rw[<-Za HO,Sort.partialIns_succ,Za av,if_neg (by omega),if_neg (by omega)];exact HE.symm,au,aa⟩)
           case measure=>simp[intOf];omega
         ·have HE:Hid (Sort.partialIns lt a b s i (Sort.fixUp lt b i (Sort.fixDown lt a i (cB dk i (i - 1))))=Sort.partialIns lt a b s i dj):=by
           show _=_;rw[Za bd,Zah lt b i dD bv,<-Za HU,Gs lt b j dj (Or.inl cd)]
          go_wp2;go_roundw
          case rel=>first|exact⟨i,s,t+1,_,rfl,by go_num,bf,bh,by omega,by show _=_;rw[<-Za HO,Sort.partialIns_succ,Za av,if_neg (by omega),if_neg (by omega)];exact HE.symm,HS,HK⟩|((repeat apply Exists.intro);refine⟨?_,rfl⟩;exact⟨i,s,t+1,_,rfl,by go_num,bf,bh,by omega,by show _=_;rw[<-Za HO,Sort.partialIns_succ,Za av,if_neg (by omega),if_neg (by omega)];exact HE.symm,HS,HK⟩)
          case measure=>simp[intOf];omega
       ·have cn:¬(2:Int)<=(b:Int) - (i:Int):=by omega
        have HE:Hid (Sort.partialIns lt a b s i (Sort.fixUp lt b i (Sort.fixDown lt a i (cB dk i (i - 1))))=Sort.partialIns lt a b s i dD):=by
         show _=_;rw[Za bd,Zid lt b i dD bv]
        go_wp2;go_roundw
        case rel=>first|exact⟨i,s,t+1,_,rfl,by go_num,bf,bh,by omega,by show _=_;rw[<-Za HO,Sort.partialIns_succ,Za av,if_neg (by omega),if_neg (by omega)];exact HE.symm,HS,HK⟩|((repeat apply Exists.intro);refine⟨?_,rfl⟩;exact⟨i,s,t+1,_,rfl,by go_num,bf,bh,by omega,by show _=_;rw[<-Za HO,Sort.partialIns_succ,Za av,if_neg (by omega),if_neg (by omega)];exact HE.symm,HS,HK⟩)
        case measure=>simp[intOf];omega
    ·have av:Hid (Sort.scanSorted lt dk b i0=i):=(by show _=_;rw[<-Za HU,J6 lt dk b i (Or.inl cb)]);have he:(i:Int)=(b:Int):=(by omega);have da:((i:Int) == (b:Int))=true:=by simp;omega
     have ER:Hid (r=(dk,true)):=by
      show _=_;rw[<-Za HO,Sort.partialIns_succ,Za av,if_pos (by omega)]
     go_wp2;go_ret;exact⟨by rw[Za ER];rfl,by rw[Za ER];exact Za HS,Kp.trans KX HK⟩
end
section
variable {α : Type} [Inhabited α] {lt : α -> α -> Bool} {a b a' b' m pivot : Nat} {d dk d2 d4 d5 d' : Array α}
theorem Sf(h:Sort.Below lt a b d)(p:Sort.PermIn a b d d')(hb:b<=d.size):Sort.Below lt a b d':=Sort.Below.permA Sort.permIn_all hb h p
def Ends(lt : α -> α->Bool)(a b:Nat)(d:Array α)(a' b':Nat)(dk:Array α):Prop:=
 ∀ d',Sort.PermIn a' b' dk d'->Sort.SortedIn lt a' b' d'->Sort.PermIn a b d d'/\Sort.SortedIn lt a b d'
theorem Ends.perm(h:Ends lt a b d a' b' dk)(p:Sort.PermIn a' b' dk d2):Ends lt a b d a' b' d2:=λd' h1 h2=>h d' (Sort.permIn_trans _ _ _ _ _ p h1) h2
theorem Ends.start(lt : α -> α->Bool)(a b:Nat)(d:Array α):Ends lt a b d a b d:=λ_ h1 h2=>⟨h1,h2⟩
theorem Ends.on(h:Ends lt a b d a' b' dk){a2 b2:Nat}(k:Ends lt a' b' dk a2 b2 d2):Ends lt a b d a2 b2 d2:=λd' h1 h2=>h d' (k d' h1 h2).1 (k d' h1 h2).2
theorem Fc{β : Type}{lt : β -> β->Bool}(hO:Sort.SWO lt){x y : β}(h:lt x y=true):lt y x=false:=by
 rw[<-cI];intro k;have:=hO.trans _ _ _ h k;rw[hO.irrefl] at this;exact Bool.noConfusion this
theorem Zqt(hO:Sort.SWO lt)(hB:Sort.Below lt a b d)(ha:0<a)(hl:lt d[a - 1]! d[pivot]! = false)(h:Ztl lt d a b pivot m d4)(hb:b<=d.size) :
  Sort.Below lt m b d4/\Ends lt a b d m b d4:=by
 have aq:d4.size=d.size:=h.perm.1;have ap:=h.lo
 have hq:∀ x,a<=x->x<b->lt d4[x]! d[a - 1]! = false:=by
  refine Sort.permIn_all d d4 a b (λv=>lt v d[a - 1]! = false) hb h.perm (λi h1 h2=>?_)
  rcases hB with q|q
  ·omega
  ·exact q i h1 h2
 refine⟨Or.inr λi h1 h2=>?_,λd' h1 h2=>⟨Sort.permIn_trans _ _ _ _ _ h.perm (Sort.permIn_mono _ _ _ _ _ _ (by omega) (aE _) (by omega) h1),λi j hi ag hj=>?_⟩⟩
 ·rw[<-cI];intro k;have:=hO.trans _ _ _ (h.right i h1 h2) k;rw[h.left (m - 1) (by omega) (by omega)] at this;exact Bool.noConfusion this
 ·have hr:∀ x,m<=x->x<b->lt d[pivot]! d'[x]! = true:=Sort.permIn_all d4 d' m b (λv=>lt d[pivot]! v=true) (by omega) h1 h.right;have ho:∀ x,x<m->d'[x]! = d4[x]!:=λx hx=>h1.2.1 x (Or.inl hx);by_cases ah:j<m
  ·rw[ho j ah,ho i (by omega)];exact hO.ntrans _ _ _ (hO.ntrans _ _ _ (hq j (by omega) hj) hl) (h.left i hi (by omega))
  ·by_cases ad:i<m
   ·rw[ho i ad,<-cI];intro k;have:=hO.trans _ _ _ (hr j (by omega) hj) k;rw[h.left i hi ad] at this;exact Bool.noConfusion this
   ·exact h2 i j (by omega) ag hj
theorem Zez(hO:Sort.SWO lt){P : α}(hm:d'[m]! = P)(hl:∀ x,a<=x->x<m->lt d'[x]! P=true)(hr:∀ x,m<x->x<b->lt d'[x]! P=false)(h1:Sort.SortedIn lt a m d')(h2:Sort.SortedIn lt (m+1) b d'):Sort.SortedIn lt a b d':=by
 intro i j hi aa hj;by_cases ak:j<m
 ·exact h1 i j hi aa ak
 ·by_cases aj:j=m
  ·subst aj;rw[hm];exact Fc hO (hl i hi aa)
  ·by_cases ah:i<m
   ·exact hO.ntrans _ _ _ (hr j (by omega) hj) (Fc hO (hl i hi ah))
   ·by_cases ag:i=m
    ·subst ag;rw[hm];exact hr j aa hj
    ·exact h2 i j (by omega) aa hj
theorem Eh(hB:Sort.Below lt a b d)(h:Zja lt d a b m d4)(hb:b<=d.size):Sort.Below lt a m d4/\Sort.Below lt (m+1) b d4:=by
 have hh:=h.hi;refine⟨?_,Or.inr λi h1 h2=>?_⟩
 ·rcases Sf hB h.perm hb with q|q
  ·exact Or.inl q
  ·exact Or.inr λi h1 h2=>q i h1 (by omega)
 ·rw[Nat.add_sub_cancel];exact h.right i (by omega) h2
theorem Zpo(hO:Sort.SWO lt)(h:Zja lt d a b m d4)(hb:b<=d.size)(p:Sort.PermIn a m d4 d5)(s:Sort.SortedIn lt a m d5) :
  Sort.Below lt (m+1) b d5/\Ends lt a b d (m+1) b d5:=by
 have ap:=h.lo;have am:=h.hi;have aq:d4.size=d.size:=h.perm.1;have ar:d5.size=d4.size:=p.1;have ho:∀ x,m<=x->d5[x]! = d4[x]!:=λx hx=>p.2.1 x (Or.inr hx);have ak:∀ x,a<=x->x<m->lt d5[x]! d4[m]! = true:=Sort.permIn_all d4 d5 a m (λv=>lt v d4[m]! = true) (by omega) p h.left;refine⟨Or.inr λi h1 h2=>?_,λd' h1 h2=>⟨Sort.permIn_trans _ _ _ _ _ (Sort.permIn_trans _ _ _ _ _ h.perm (Sort.permIn_mono _ _ _ _ _ _ (aE _) (by omega) (by omega) p)) (Sort.permIn_mono _ _ _ _ _ _ (by omega) (aE _) (by omega) h1),?_⟩⟩
 ·rw[Nat.add_sub_cancel,ho m (aE _),ho i (by omega)];exact h.right i (by omega) h2
 ·have ab:∀ x,x<m+1->d'[x]! = d5[x]!:=λx hx=>h1.2.1 x (Or.inl hx);refine Zez hO (P:=d4[m]!) (by rw[ab m (by omega),ho m (aE _)]) (λx ae ad=>by rw[ab x (by omega)];exact ak x ae ad) ?_ (λi j hi ah hj=>by rw[ab i (by omega),ab j (by omega)];exact s i j hi ah hj) h2;have:=Sort.permIn_all d5 d' (m+1) b (λv=>lt v d4[m]! = false) (by omega) h1 (λi an ag=>by rw[ho i (by omega)];exact h.right i (by omega) ag);exact λx ae ad=>this x (by omega) ad
theorem Zll(hO:Sort.SWO lt)(hB:Sort.Below lt a b d)(h:Zja lt d a b m d4)(hb:b<=d.size)(p:Sort.PermIn (m+1) b d4 d5)(s:Sort.SortedIn lt (m+1) b d5) :
  Sort.Below lt a m d5/\Ends lt a b d a m d5:=by
 have aq:=h.lo;have ap:=h.hi;have ar:d4.size=d.size:=h.perm.1;have au:d5.size=d4.size:=p.1;have ho:∀ x,x<m+1->d5[x]! = d4[x]!:=λx hx=>p.2.1 x (Or.inl hx);have am:∀ x,m+1<=x->x<b->lt d5[x]! d4[m]! = false:=Sort.permIn_all d4 d5 (m+1) b (λv=>lt v d4[m]! = false) (by omega) p (λi h1 h2=>h.right i (by omega) h2);refine⟨?_,λd' h1 h2=>⟨Sort.permIn_trans _ _ _ _ _ (Sort.permIn_trans _ _ _ _ _ h.perm (Sort.permIn_mono _ _ _ _ _ _ (by omega) (aE _) (by omega) p)) (Sort.permIn_mono _ _ _ _ _ _ (aE _) (by omega) (by omega) h1),?_⟩⟩
 ·rcases (Eh hB h hb).1 with q|q
  ·exact Or.inl q
  ·exact Or.inr λi h1 h2=>by rw[ho i (by omega),ho (a - 1) (by omega)];exact q i h1 h2
 ·have ab:∀ x,m<=x->d'[x]! = d5[x]!:=λx hx=>h1.2.1 x (Or.inr hx);have hl:=Sort.permIn_all d5 d' a m (λv=>lt v d4[m]! = true) (by omega) h1 (λi ag ah=>by rw[ho i (by omega)];exact h.left i ag ah);exact Zez hO (P:=d4[m]!) (by rw[ab m (aE _),ho m (by omega)]) hl (λx av an=>by rw[ab x (by omega)];exact am x (by omega) an) h2 (λi j hi aj hj=>by rw[ab i (by omega),ab j (by omega)];exact s i j hi aj hj)
end
def Pz{α : Type}[Inhabited α](P:Program)(f:Nat)(g:Nat)(lb:Array Value)(sf:Nat)(sb:Array Value)(n B:Nat)(St:World->Array α->Prop):Prop:=
 ∀ (a b:Nat) (d:Array α) (w:World),St w d->a<=b->b<=n->Calls P f #[lsV g lb sf sb,E J a,E J b] w λe w'=>e = dB (dC #[])/\∃ d',Sort.PermIn a b d d'/\St w' d'/\Kp B w w'
set_option maxRecDepth 10000 in
theorem Zrz{α : Type}[Inhabited α]{g:Nat}{lb}{sf:Nat}{sb}{lt : α -> α->Bool}{n B:Nat}{St:World->Array α->Prop}(H:Sr aB g lb sf sb lt n B St)
  (HB:Pz aB 231 g lb sf sb n B St) (HV:Pz aB 233 g lb sf sb n B St) (K:Nat) :
  ∀ (a b cb:Nat) (d:Array α) (w:World),St w d->a<=b->b<=n->b - a<=K->cb<=64->Sort.Below lt a b d ->
  Calls aB 185 #[lsV g lb sf sb,E J a,E J b,E J cb] w λe w'=>e = dB (dC #[])/\∃ d',(Sort.PermIn a b d d'/\Sort.SortedIn lt a b d')/\St w' d'/\Kp B w w':=by
 induction K using Nat.strongRecOn with
 | ind K ih=>
 intro a b cb d w h dw hb hK ea cz;unfold lsV;have IH:=Zb ih;have hn:=H.small;have fa:=H.enters;have ah:=H.low _ _ h;have HO:=Zb H.order;have HZ:Hid (∀ w d,St w d->d.size=n):=H.size;obtain⟨N0,N1⟩:=Vr w (.func (.func g) #[] lb) (.func (.func sf) #[] sb) 275;obtain⟨SX,KX,HH,dl,dn,dj⟩:=kh6 (H.alloc w d (dA #[.func (.func g) #[] lb,.func (.func sf) #[] sb] 275) h) (Kp.alloc B w (dA #[.func (.func g) #[] lb,.func (.func sf) #[] sb] 275)) H HB HV cz;clear H h ih cz;go_enter func185,ntmps185;go_wp2;generalize w.alloc (dA #[.func (.func g) #[] lb,.func (.func sf) #[] sb] 275)=X at *;obtain⟨M0,M1⟩:=kh2 N0 N1;clear N0 N1
 go_loopg [1,2,3,8,9] (b - a) (λkx s1 s2 s3 s8 s9 wr=>∃ (a' b' av:Nat) (wb wp:Bool) (dk:Array α),s1 = E J a'/\s2 = E J b'/\s3 = E J av/\s8 = dF wb/\s9 = dF wp/\a'<=b'/\b'<=n/\b' - a'<=kx/\kx<=b - a/\av<=64/\Hid (Sort.Below lt a' b' dk)/\Hid (Ends lt a b d a' b' dk)/\Hid (St wr dk)/\Hid (Kp B X wr))
 case atStart=>exact⟨a,b,cb,true,true,d,rfl,rfl,rfl,rfl,rfl,dw,hb,aE _,aE _,ea,dj,Ends.start lt a b d,SX,Kp.refl _ _⟩
 case round=>
  obtain⟨a',b',av,wb,wp,dk,rfl,rfl,rfl,rfl,rfl,bq,ab,ew,ev,eb,cu,HE,HS,HK⟩:=hrel;have c0:=HK.cell ah M0;have c1:=HK.cell ah M1;have ey:=aC _ _ c0;have bz:=Zb (HZ _ _ HS);by_cases h12:b'<=a'+12
  ·have dt:(b':Int) - (a':Int)<=12:=(by omega);have C:=Zb (Zsy HH a' b' dk wr HS bq ab);unfold lsV at C;go_wp2_with fail;refine C.mono ?_;rintro e w1 ⟨rfl,ad,ac⟩;obtain⟨an,am⟩:=kh2 ad (Kp.trans HK ac);clear ad ac;go_wp2;(try simp only[bQ,Exit.then]);refine aL (results_none rfl _ _ _) ?_ ?_;focus rfl
   have q:=Sort.insertionSort_holds HO dk a' b' bq (by rw[Za bz];exact ab);exact⟨rfl,_,HE _ q.1 q.2,Za an,Kp.trans KX am⟩
  ·have dt:¬(b':Int) - (a':Int)<=12:=(by omega);by_cases db:av=0
   ·subst db;have C:=Zb (Zqp HH a' b' dk wr HS (by omega) ab);unfold lsV at C;go_wp2_with fail;refine C.mono ?_;rintro e w1 ⟨rfl,ad,ac⟩;obtain⟨an,am⟩:=kh2 ad (Kp.trans HK ac);clear ad ac;go_wp2;(try simp only[bQ,Exit.then]);refine aL (results_none rfl _ _ _) ?_ ?_;focus rfl
    have q:=Sort.heapSort_holds HO dk a' b' bq (by rw[Za bz];exact ab);exact⟨rfl,_,HE _ q.1 q.2,Za an,Kp.trans KX am⟩
   ·have dz:¬(av:Int)=0:=(by omega);have dy:((av:Int) == 0)=false:=by simp;omega
    go_upto_if 35 with fail
    go_cut [3] from 19 (λs3 wc=>∃ l2:Nat,s3 = E J l2/\l2<=64/\∃ d2:Array α,Hid (Sort.PermIn a' b' dk d2)/\Hid (St wc d2)/\Hid (Kp B X wc))
    case first=>
     cases wb
     ·have C:=Zb (dl a' b' dk wr HS bq ab);unfold lsV at C;go_wp2_with fail;refine C.mono ?_;rintro e w1 ⟨rfl,d2,bj,ad,ac⟩;obtain⟨cg,an,am⟩:=kh3 bj ad (Kp.trans HK ac);clear bj ad ac;go_wp2;go_meet
      case rel=>exact⟨av - 1,by congr 1 <;> omega,by omega,d2,cg,an,am⟩
     ·go_wp2_with fail;go_meet
      case rel=>exact⟨av,rfl,eb,dk,Sort.permIn_refl _ _ _,HS,HK⟩
    case rest=>
     clear db dz dy c0 c1 ey;obtain⟨l2,rfl,bs,d2,aq,ak,aa⟩:=hcut;have c0:=aa.cell ah M0;have c1:=aa.cell ah M1;have ey:=aC _ _ c0;have C:=Zb (Zir HH a' b' d2 _ ak (by omega) ab);unfold lsV at C
     go_upto_if 50 with (go_at_call 232;refine C.mono ?_;rintro e w2 ⟨x,t,rfl,bu,bv,ht,ag,af⟩;have ap:=Zb ag;have ae:=Zb (Kp.trans aa af);clear ag af)
     clear c0 c1 ey;have c0:=ae.cell ah M0;have c1:=ae.cell ah M1;have ey:=aC _ _ c0
     go_cut [11,12] from 19 (λeg eh wc=>∃ x t:Nat,eg = E J x/\eh = E J t/\a'<=x/\x<b'/\∃ d2:Array α,Hid (Sort.PermIn a' b' dk d2)/\Hid (St wc d2)/\Hid (Kp B X wc))
     case first=>
      by_cases e2:t=2
      ·subst e2;have C:=Zb (dn a' b' d2 _ ap bq ab);unfold lsV at C;go_wp2_with fail;refine C.mono ?_;rintro e w1 ⟨rfl,d3,bj,ad,ac⟩;obtain⟨cg,an,am⟩:=kh3 (Sort.permIn_trans _ _ _ _ _ aq bj) ad (Kp.trans ae ac);clear bj ad ac;go_wp2;go_meet
       case rel=>exact⟨b' - 1 - (x - a'),1,by congr 1 <;> omega,rfl,by omega,by omega,d3,cg,an,am⟩
      ·have es:¬(t:Int)=2:=(by omega);have er:((t:Int) == 2)=false:=(by simp;omega);go_wp2_with fail;go_meet
       case rel=>exact⟨x,t,rfl,rfl,bu,bv,d2,aq,ap,ae⟩
     case rest=>
      clear c0 c1 ey ht bu bv;obtain⟨x,t,rfl,rfl,bu,bv,d2,aq,ak,aa⟩:=hcut;have c0:=aa.cell ah M0;have c1:=aa.cell ah M1;have ey:=aC _ _ c0
      go_upto_region 16 with fail
      go_cut [68] from 19 (λej wx=>∃ y:Bool,ej = dF y/\wx=wc)
      case first=>
       by_cases e1:t=1
       ·subst e1;cases wb <;> cases wp <;> (go_wp2_with fail;go_meet;exact⟨_,rfl,rfl⟩)
       ·have eq:¬(t:Int)=1:=(by omega);have ep:((t:Int) == 1)=false:=(by simp;omega);cases wb <;> cases wp <;> (go_wp2_with fail;go_meet;exact⟨_,rfl,rfl⟩)
      case rest=>
       obtain⟨y,rfl,rfl⟩:=hcut
       go_upto_if 68 with fail
       go_cut [] from 19 (λwc=>∃ d2:Array α,Hid (Sort.PermIn a' b' dk d2)/\Hid (St wc d2)/\Hid (Kp B X wc))
       case first=>
        cases y
        ·go_wp2_with fail;go_meet
         case rel=>exact⟨d2,aq,ak,aa⟩
        ·obtain⟨r,hr⟩:=ZF (Sort.partialInsertionSort lt d2 a' b');have C:=Zb (Zco HH a' b' d2 _ ak (by omega) ab r hr);unfold lsV at C;have hq:=Sort.partialInsertionSort_holds HO d2 a' b' (by omega) (by rw[(Za HZ) _ _ ak];exact ab) (Sf cu aq (by rw[Za bz];exact ab));rw[hr] at hq;have HQ:=Zb hq;clear hq hr;obtain⟨r1,r2⟩:=r;cases r2
         ·go_wp2_with fail;refine C.mono ?_;rintro e w1 ⟨rfl,ad,ac⟩;obtain⟨an,am⟩:=kh2 ad (Kp.trans aa ac);clear ad ac;go_wp2;go_meet
          case rel=>exact⟨r1,Sort.permIn_trans _ _ _ _ _ aq HQ.1,an,am⟩
         ·go_wp2_with fail;refine C.mono ?_;rintro e w1 ⟨rfl,ad,ac⟩;obtain⟨an,am⟩:=kh2 ad (Kp.trans aa ac);clear ad ac;go_wp2;(try simp only[bQ,Exit.then]);refine aL (results_none rfl _ _ _) ?_ ?_;focus rfl
          exact⟨rfl,r1,HE.perm aq _ HQ.1 (HQ.2 (by first|rfl|trivial)),Za an,Kp.trans KX am⟩
       case rest=>
        clear c0 c1 ey;obtain⟨d2,aq,ak,aa⟩:=hcut;have c0:=aa.cell ah M0;have c1:=aa.cell ah M1;have ey:=aC _ _ c0;obtain⟨cd,cc,bx⟩:=kh3 (HE.perm aq) (Sf cu aq (by rw[Za bz];exact ab)) (HZ _ _ ak)
        go_upto_region 18 with fail
        go_cut [83] from 19 (λdh wc=>Hid (St wc d2)/\Hid (Kp B X wc)/\((dh = dF true/\0<a'/\Hid (lt d2[a' - 1]! d2[x]! = false))\/dh = dF false))
        case first=>
         by_cases cn:0<a'
         ·have dv:decide ((0:Int)<(a':Int))=true:=decide_eq_true (by omega);have hl:=HH.less _ d2 (a' - 1) x ak (by omega) (by omega);rw[show (((a' - 1:Nat):Int))=(a':Int) - 1 by omega] at hl;cases hlv:lt d2[a' - 1]! d2[x]! with
          | true=>
           rw[hlv] at hl;clear hlv
           go_wp2_with (go_at_fn g;refine hl.mono ?_;rintro e w' ⟨rfl,ag,af⟩;have ap:=Zb ag;have ae:=Zb (Kp.trans aa af);clear ag af)
           go_meet;exact⟨ap,ae,Or.inr rfl⟩
          | false=>
           rw[hlv] at hl;have HL:=Zb hlv;clear hlv
           go_wp2_with (go_at_fn g;refine hl.mono ?_;rintro e w' ⟨rfl,ag,af⟩;have ap:=Zb ag;have ae:=Zb (Kp.trans aa af);clear ag af)
           go_meet;exact⟨ap,ae,Or.inl ⟨rfl,cn,HL⟩⟩
         ·have dv:decide ((0:Int)<(a':Int))=false:=decide_eq_false (by omega);go_wp2_with fail;go_meet;exact⟨ak,aa,Or.inr rfl⟩
        case rest=>
         clear c0 c1 ey;obtain⟨ak,aa,ec⟩:=hcut;have c0:=aa.cell ah M0;have c1:=aa.cell ah M1;have ey:=aC _ _ c0
         rcases ec with ⟨rfl,cn,HL⟩|rfl
         ·have C:=Zb (Zhi HH a' b' x d2 _ ak bu bv ab);unfold lsV at C;go_wp2_with fail;refine C.mono ?_;rintro e w3 ⟨mid,d4,rfl,hq,ag,af⟩;have q2:=Zqt HO cc cn HL hq (by rw[Za bx];exact ab);have dc:=hq.lo;have dd:=hq.hi;obtain⟨HQ,ap,ae⟩:=kh3 q2 ag (Kp.trans aa af);clear q2 hq ag af;go_wp2
          go_roundg (b' - mid)
          case measure=>omega
          case rel=>exact⟨mid,b',l2,wb,wp,d4,rfl,rfl,rfl,rfl,rfl,dd,ab,aE _,by omega,bs,HQ.1,cd.on HQ.2,ap,ae⟩
         ·have C:=Zb (Zpn HH a' b' x d2 _ ak bu bv ab);unfold lsV at C
          go_upto_if 109 with (go_at_call 236;refine C.mono ?_;rintro e w3 ⟨mid,ez,d4,rfl,hq,ag,af⟩;have dc:=hq.lo;have dd:=hq.hi;have ap:=Zb ag;have ae:=Zb (Kp.trans aa af);clear ag af)
          have da:=Eh cc hq (by rw[Za bx];exact ab);obtain⟨HQ,ct⟩:=kh2 hq da;clear hq da c0 c1 ey;have c0:=ae.cell ah M0;have c1:=ae.cell ah M1;have ey:=aC _ _ c0;by_cases h4:mid - a'<b' - mid
          ·have du:(mid:Int) - (a':Int)<(b':Int) - (mid:Int):=(by omega);have C:=Zb (IH (mid - a') (by omega) a' mid l2 d4 w3 ap dc (by omega) (aE _) bs ct.1);unfold lsV at C;go_wp2_with fail;refine C.mono ?_;rintro e w4 ⟨rfl,d5,az,bo,bi⟩;obtain⟨bg,cj,ce⟩:=kh3 (Zpo HO HQ (by rw[Za bx];exact ab) az.1 az.2) bo (Kp.trans ae bi);clear az bo bi;go_wp2
           go_roundg (b' - (mid+1))
           case measure=>omega
           case rel=>exact⟨mid+1,b',l2,_,ez,d5,by go_num,rfl,rfl,rfl,rfl,by omega,ab,aE _,by omega,bs,bg.1,cd.on bg.2,cj,ce⟩
          ·have du:¬(mid:Int) - (a':Int)<(b':Int) - (mid:Int):=(by omega);have C0:=IH (b' - (mid+1)) (by omega) (mid+1) b' l2 d4 w3 ap (by omega) ab (aE _) bs ct.2;rw[show ((mid+1:Nat):Int)=(mid:Int)+1 by omega] at C0;unfold lsV at C0;have C:=Zb C0;clear C0;go_wp2_with fail;refine C.mono ?_;rintro e w4 ⟨rfl,d5,az,bo,bi⟩;obtain⟨bg,cj,ce⟩:=kh3 (Zll HO cc HQ (by rw[Za bx];exact ab) az.1 az.2) bo (Kp.trans ae bi);clear az bo bi;go_wp2
           go_roundg (mid - a')
           case measure=>omega
           case rel=>exact⟨a',mid,l2,_,ez,d5,rfl,rfl,rfl,rfl,rfl,by omega,by omega,aE _,by omega,bs,bg.1,cd.on bg.2,cj,ce⟩
theorem Zlw(x1 x2 v:Int)(lk)(hh:Int)(rr:Bool) :
  (okC (x1,x2,v,lk,hh,rr)=false/\(x1<1\/¬x1<1/\120<x1\/¬x1<1/\¬120<x1/\x2<0\/¬x1<1/\¬120<x1/\¬x2<0/\5<x2\/¬x1<1/\¬120<x1/\¬x2<0/\¬5<x2/\v<1\/¬x1<1/\¬120<x1/\¬x2<0/\¬5<x2/\¬v<1/\1000000000<v \/
   ¬x1<1/\¬120<x1/\¬x2<0/\¬5<x2/\¬v<1/\¬1000000000<v/\hh<1\/¬x1<1/\¬120<x1/\¬x2<0/\¬5<x2/\¬v<1/\¬1000000000<v/\¬hh<1/\1000<hh)) \/
  (okC (x1,x2,v,lk,hh,rr)=true/\¬x1<1/\¬120<x1/\¬x2<0/\¬5<x2/\¬v<1/\¬1000000000<v/\¬hh<1/\¬1000<hh):=by
 have e:okC (x1,x2,v,lk,hh,rr)=true↔((1<=x1/\x1<=120)/\(0<=x2/\x2<=5))/\(1<=v/\v<=1000000000)/\(1<=hh/\hh<=1000):=by
  unfold okC Zpw okV okH pt cv ch;rw[aX,aX,aX,aX,aX,aX,aX]
  exact⟨λ⟨⟨⟨a,b⟩,c,d⟩,⟨e,f⟩,g,h⟩=>⟨⟨⟨of_decide_eq_true a,of_decide_eq_true b⟩,of_decide_eq_true c,of_decide_eq_true d⟩,⟨of_decide_eq_true e,of_decide_eq_true f⟩,of_decide_eq_true g,of_decide_eq_true h⟩,
   λ⟨⟨⟨a,b⟩,c,d⟩,⟨e,f⟩,g,h⟩=>⟨⟨⟨decide_eq_true a,decide_eq_true b⟩,decide_eq_true c,decide_eq_true d⟩,⟨decide_eq_true e,decide_eq_true f⟩,decide_eq_true g,decide_eq_true h⟩⟩
 cases q:okC (x1,x2,v,lk,hh,rr) with
 | true=>
  have:=e.1 q;refine .inr ⟨rfl,?_⟩;omega
 | false=>
  have:¬(((1<=x1/\x1<=120)/\(0<=x2/\x2<=5))/\(1<=v/\v<=1000000000)/\(1<=hh/\hh<=1000)):=λh=>by rw[e.2 h] at q;cases q
  refine .inl ⟨rfl,?_⟩;omega
theorem Gm(p q:PtD)(o:Bool)(w:World)(ho:lt p q=o) :
  ZH 95 #[.agg #[E J p.1,E J p.2],.agg #[E J q.1,E J q.2]] w (dF o):=by
 subst ho;obtain⟨p1,p2⟩:=p;obtain⟨q1,q2⟩:=q;simp only;have HB:=Zb (Zf (Zh w (dA #[E J p1,E J p2] 87)) (Zh _ (dA #[E J q1,E J q2] 87)));by_cases e1:p1<q1
 ·have R:Hid (lt (p1,p2) (q1,q2)=true):=(Qf _ _).2 (.inl e1);go_enter func95,ntmps95;go_wp2;go_ret;exact⟨by rw[Za R];rfl,Za HB⟩
 ·by_cases e2:p1=q1
  ·subst e2;clear e1;by_cases e3:p2<q2
   ·have R:Hid (lt (p1,p2) (p1,q2)=true):=(Qf _ _).2 (.inr ⟨rfl,e3⟩);go_enter func95,ntmps95;go_wp2;go_ret;exact⟨by rw[Za R];rfl,Za HB⟩
   ·have R:Hid (lt (p1,p2) (p1,q2)=false):=by
     show _=_;rw[<-cI,Qf];rintro (h|⟨_,h⟩)
     ·simp at h
     ·exact e3 h
    go_enter func95,ntmps95;go_wp2;go_ret;exact⟨by rw[Za R];rfl,Za HB⟩
  ·have R:Hid (lt (p1,p2) (q1,q2)=false):=by
    show _=_;rw[<-cI,Qf];rintro (h|⟨h,_⟩)
    ·exact e1 h
    ·exact e2 h
   have g2:(p1 == q1)=false:=(by simp[e2]);clear e2;go_enter func95,ntmps95;go_wp2;go_ret;exact⟨by rw[Za R];rfl,Za HB⟩
set_option maxRecDepth 10000 in
theorem Ct(b off n c:Nat)(L:List Zi)(w:World)(hn:n<=720)(hz:L.length=n)(hc:∀ i (h:i<L.length),CoinAt w b (off+i*6) L[i]) :
  ZH 57 #[F (dG ⟨b,off,aD⟩) n c] w (E J (Ys aD 0 L)):=by
 obtain⟨HC,HZ⟩:=kh2 hc hz;clear hc hz;go_enter func57,ntmps57;go_wp2
 go_loopw [3,12] (λsv i wr=>∃ (k:Nat) (S:Int),k<=n/\i = E J k/\sv = E J S/\0<=S/\S<=1000000000/\Hid (Ys aD 0 L=Ys (Vg L k) S (L.drop k))/\ZD w wr) (λ_ i _=>n - (intOf i).toNat)
 case atStart=>exact⟨0,0,aI _,rfl,rfl,by decide,by decide,rfl,Below.refl _ _⟩
 case round=>
  obtain⟨k,S,hk,rfl,rfl,dl,dm,A,hb⟩:=hrel;have HB:=Zb hb;by_cases db:k<n
  ·have be:k<L.length:=(by rw[Za HZ];exact db);have ay:=CoinAt.kept _ _ _ _ _ hb (HC k be);have ST:=Zb (Zfo L k be (Vg L k) S)
   have HL:Hid (∀ j,k=j+1->∃ q,Vg L k=dG (pt q)/\CoinAt wr b (off+j*6) q):=λj hj=>by
    have bw:j<L.length:=(by omega);exact⟨L[j],by rw[hj];exact Jl L j bw,CoinAt.kept _ _ _ _ _ hb (HC j bw)⟩
   have HN:Hid (k+1<=L.length->Vg L (k+1)=dG (pt L[k])):=λ_=>Jl L k be;obtain⟨x,hx⟩:=ZF (L[k]);rw[hx] at ay ST HN;have A2:Hid (Ys aD 0 L=if ck1 x≠0 then ck1 x else if Rn (Vg L k) x=false then 6 else if 1000000000<S+cv x then 12 else Ys (dG (pt x)) (S+cv x) (L.drop (k+1))):=(by show _=_;rw[Za A,Za ST]);have PN:Hid (Vg L (k+1)=dG (pt x)):=HN be;obtain⟨x1,x2,v,lk,hh,rr⟩:=x;obtain⟨a,m,d,g1,g2,g3,g4,g5,g6,hO,_⟩:=ay.val;simp only[cv,ck,ch,cr] at g1 g2 g3 g4 g5 g6 hO A2;obtain⟨X,hX⟩:=ZG (wr.alloc (dA #[E J x1,E J x2,E J v,F a m d,E J hh,dF rr] 162));obtain⟨n0,n1,n2,n3,n4,n5⟩:=Kf wr (E J x1) (E J x2) (E J v) (F a m d) (E J hh) (dF rr) 162;rw[<-hX] at n0 n1 n2 n3 n4 n5;have bd:ZD wr X:=(by rw[hX];exact Zh _ _);have du:wr.heap.size<X.heap.size:=aC _ _ n0;obtain⟨au,HO,N0,N1,N2,HX⟩:=kh6 bd (hO.later bd) n0 n1 n2 hX
   rcases Zlw x1 x2 v lk hh rr with ⟨q0,qq⟩|⟨q0,q1,q2,q3,q4,q5,q6,q7,q8⟩
   ·have R:Hid (Ys aD 0 L=3):=by
     have e:ck1 (x1,x2,v,lk,hh,rr)=3:=(by unfold ck1;rw[if_pos q0]);show _=_;rw[Za A2,e];rfl
    have cu:=Zb (Zf HB au);clear A hx ay hO hb hX q0 N0 N1 N2
    rcases qq with qq|qq|qq|qq|qq|qq|qq|qq
    all_goals
     try obtain⟨q1,qq⟩:=qq
     try obtain⟨q2,qq⟩:=qq
     try obtain⟨q3,qq⟩:=qq
     try obtain⟨q4,qq⟩:=qq
     try obtain⟨q5,qq⟩:=qq
     try obtain⟨q6,qq⟩:=qq
     try obtain⟨q7,qq⟩:=qq
     go_wp2_with fail;rw[<-Za HX];go_wp2;go_ret;exact⟨by rw[Za R];rfl,Za cu⟩
   have cn:ck1 (x1,x2,v,lk,hh,rr)=chk lk:=(by unfold ck1;rw[if_neg (by rw[q0];decide)];rfl);rw[cn] at A2;obtain⟨z,hz⟩:=ZF (chk lk);have C1:=Zb (Jj a m d lk X HO);rw[hz] at A2 C1;clear cn;by_cases bg:z=0
   ·subst bg
    have A3:Hid (Ys aD 0 L=if Rn (Vg L k) (x1,x2,v,lk,hh,rr)=false then 6 else if 1000000000<S+v then 12 else Ys (dG (pt (x1,x2,v,lk,hh,rr))) (S+v) (L.drop (k+1))):=by
     have h:=Za A2;rw[if_neg (by decide)] at h;exact h
    clear A hx ay hO hb hz hX q0;by_cases am:k=0
    ·have A4:Hid (Ys aD 0 L=if 1000000000<S+v then 12 else Ys (dG (pt (x1,x2,v,lk,hh,rr))) (S+v) (L.drop (k+1))):=by
      have h:=Za A3;rw[am] at h;rw[if_neg (by show ¬true=false;decide)] at h;rw[am];exact h
     have hg:decide ((0:Int)<(k:Int))=false:=(by rw[am];decide);have dp:decide (0<k)=false:=(by rw[am];decide);clear am;go_wp2_with fail;rw[<-Za HX];go_wp2_with fail;refine C1.mono ?_;rintro e w2 ⟨rfl,ab⟩;have m2:=Ze ab N2;have ct:wr.heap.size<w2.heap.size:=aC _ _ m2;have af:=Zb (Zf (Zf HB au) ab);clear ab;go_wp2_with fail
     go_quiet (fail)
     by_cases hf:1000000000<S+v
     ·have R:Hid (Ys aD 0 L=12):=(by show _=_;rw[Za A4,if_pos hf]);go_wp2;go_ret;exact⟨by rw[Za R];rfl,Zf af (Gl _ _)⟩
     ·have R:Hid (Ys aD 0 L=Ys (Vg L (k+1)) (S+v) (L.drop (k+1))):=(by show _=_;rw[Za A4,if_neg hf,Za PN]);go_wp2;go_roundw
      case rel=>exact⟨k+1,S+v,by omega,by go_num,rfl,by omega,by omega,R,Zf af (Gl _ _)⟩
      case measure=>simp[intOf];omega
    ·obtain⟨j,rfl⟩:∃ j,k=j+1:=⟨k - 1,by omega⟩;obtain⟨q,hq,cq⟩:=HL j rfl;obtain⟨_,_,_,q1,q2,_,_,_,_,_,_⟩:=cq.val
     have A5:Hid (Ys aD 0 L=if lt (pt q) (pt (x1,x2,v,lk,hh,rr))=false then 6 else if 1000000000<S+v then 12 else Ys (dG (pt (x1,x2,v,lk,hh,rr))) (S+v) (L.drop (j+1+1))):=by
      have h:=Za A3;rw[hq] at h;exact h
     obtain⟨Q1,Q2⟩:=kh2 (Ze bd q1) (Ze bd q2);have G:Hid (decide ((0:Int)<((j+1:Nat):Int))=true):=(by show _=_;simp);have dr:(j:Int)<(n:Int):=(by omega);have dw:IntKind.i64.wrap (j:Int)=(j:Int):=(by rw[aP];omega);have dx:IntKind.i64.wrap ((j:Int)+1 - 1)=(j:Int):=(by rw[aP];omega);have bw:j<n:=(by omega);have dq:(0:Int)<=(j:Int):=(by omega);have dv:IntKind.i64.wrap (((j+1:Nat):Int) - 1)=(j:Int):=(by rw[aP];omega);clear am hq cq q1 q2;cases hl:lt (pt q) (pt (x1,x2,v,lk,hh,rr)) with
     | false=>
      have R:Hid (Ys aD 0 L=6):=(by show _=_;rw[Za A5,if_pos hl]);have CC:=Zb (λw=>Gm (pt q) (pt (x1,x2,v,lk,hh,rr)) false w hl);unfold pt at CC;simp only at CC;clear hl;go_wp2_with fail;rw[<-Za HX];go_wp2_with fail;refine C1.mono ?_;rintro e w2 ⟨rfl,ab⟩;have m0:=Ze ab N0;have m1:=Ze ab N1;have p0:=Ze ab Q1;have p1:=Ze ab Q2;have ct:wr.heap.size<w2.heap.size:=aC _ _ m0;have af:=Zb (Zf (Zf HB au) ab);clear ab n0 n1 n2 g1 g2 g3 g4 g5 g6;have hG:=Za G;go_wp2_with fail
      go_region_held3 (λw'=>ZD w2 w'/\w'.cell? ⟨wr.heap.size,0,aD⟩=dG (E J x1)/\w'.cell? ⟨wr.heap.size,1,aD⟩=dG (E J x2)/\w'.cell? ⟨b,off+j*6,aD⟩=dG (E J q.1)/\w'.cell? ⟨b,off+j*6+1,aD⟩=dG (E J q.2.1))
       (first
       | exact⟨Zj _,m0,m1,p0,p1⟩
       | (go_split_ands;refine⟨Zf (by assumption) ae,Ze ae (by assumption),Ze ae (by assumption),Ze ae (by assumption),Ze ae (by assumption)⟩))
       (first|(go_at_call 95;refine (CC _).mono ?_;rintro e w' ⟨rfl,ae⟩))
      rename_i hH;have HH:=Zb (Zf af hH.1);clear hH;go_wp2;go_ret;exact⟨by rw[Za R];rfl,Za HH⟩
     | true=>
      have A4:Hid (Ys aD 0 L=if 1000000000<S+v then 12 else Ys (dG (pt (x1,x2,v,lk,hh,rr))) (S+v) (L.drop (j+1+1))):=by
       have h:=Za A5;rw[if_neg (by rw[hl];decide)] at h;exact h
      have CC:=Zb (λw=>Gm (pt q) (pt (x1,x2,v,lk,hh,rr)) true w hl);unfold pt at CC;simp only at CC;clear hl;go_wp2_with fail;rw[<-Za HX];go_wp2_with fail;refine C1.mono ?_;rintro e w2 ⟨rfl,ab⟩;have m0:=Ze ab N0;have m1:=Ze ab N1;have M2:=Zb (Ze ab N2);have p0:=Ze ab Q1;have p1:=Ze ab Q2;have ct:wr.heap.size<w2.heap.size:=aC _ _ m0;have af:=Zb (Zf (Zf HB au) ab);clear ab n0 n1 n2 g1 g2 g3 g4 g5 g6;have hG:=Za G;go_wp2_with fail
      go_region_held3 (λw'=>ZD w2 w'/\w'.cell? ⟨wr.heap.size,0,aD⟩=dG (E J x1)/\w'.cell? ⟨wr.heap.size,1,aD⟩=dG (E J x2)/\w'.cell? ⟨b,off+j*6,aD⟩=dG (E J q.1)/\w'.cell? ⟨b,off+j*6+1,aD⟩=dG (E J q.2.1))
       (first
       | exact⟨Zj _,m0,m1,p0,p1⟩
       | (go_split_ands;refine⟨Zf (by assumption) ae,Ze ae (by assumption),Ze ae (by assumption),Ze ae (by assumption),Ze ae (by assumption)⟩))
       (first|(go_at_call 95;refine (CC _).mono ?_;rintro e w' ⟨rfl,ae⟩))
      rename_i hH;have HH:=Zb (Zf af hH.1);have m2:=Ze hH.1 M2;have dt:=aC _ _ m2;clear hH;by_cases hf:1000000000<S+v
      ·have R:Hid (Ys aD 0 L=12):=(by show _=_;rw[Za A4,if_pos hf]);go_wp2;go_ret;exact⟨by rw[Za R];rfl,Za HH⟩
      ·have R:Hid (Ys aD 0 L=Ys (Vg L (j+1+1)) (S+v) (L.drop (j+1+1))):=(by show _=_;rw[Za A4,if_neg hf,Za PN]);go_wp2;go_roundw
       case rel=>exact⟨j+1+1,S+v,by omega,by go_num,rfl,by omega,by omega,R,Za HH⟩
       case measure=>simp[intOf];omega
   ·have R:Hid (Ys aD 0 L=z):=(by show _=_;rw[Za A2,if_pos bg]);have gz:(z != 0)=true:=(by simp[bg]);clear A hx ay hO hb hz hX bg q0;go_wp2_with fail;rw[<-Za HX];go_wp2_with fail;refine C1.mono ?_;rintro e w2 ⟨rfl,ab⟩;have af:=Zb (Zf (Zf HB au) ab);clear ab;go_wp2;go_ret;exact⟨by rw[Za R];rfl,Za af⟩
  ·have R:Hid (Ys aD 0 L=0):=(by show _=_;rw[Za A,Zbc L k (by rw[Za HZ];omega)]);clear A hb;go_wp2;go_ret;exact⟨by rw[Za R];rfl,Za HB⟩
theorem Cv(a)(n c:Nat)(w)(h:720<n) :
  Calls aB 57 #[F a n c] w λe w'=>e = dB (E J 2)/\w=w':=by
 go_enter func57,ntmps57;go_wp2;go_ret;exact⟨rfl,rfl⟩
theorem Cu(a c w) :
  Calls aB 57 #[F a 0 c] w λe w'=>e = dB (E J 0)/\w=w':=by
 go_enter func57,ntmps57;go_wp2;refine bB 1 ?_;rw[aS];go_wp2;go_ret;exact⟨rfl,rfl⟩
theorem Lr(a n c L)(z:Int)(w:World)(h:CoinsAt w a n L)(hz:Zz L=z) :
  ZH 57 #[F a n c] w (E J z):=by
 subst hz;obtain⟨hl,hc⟩:=h;unfold Zz;rw[hl];by_cases h1:720<n
 ·rw[if_pos h1];exact (Cv a n c w h1).mono λe w' ⟨x,y⟩=>⟨x,y ▸ Below.refl _ _⟩
 ·rw[if_neg h1];by_cases h2:n=0
  ·subst h2;have e:L=[]:=aJ.1 hl;subst e;exact (Cu a c w).mono λe w' ⟨x,y⟩=>⟨x,y ▸ Below.refl _ _⟩
  ·obtain⟨b,off,rfl,_,ac⟩:=hc (by omega);exact Ct b off n c L w (by omega) hl ac
open Go.RowKit Go.Lib
set_option maxRecDepth 10000 in
theorem Zby(bx blk off n c i j:Nat)(p q:PtD)(o:Bool)(w:World)(hc:w.cell? ⟨bx,0,aD⟩=dG (F (dG ⟨blk,off,aD⟩) n c))(hi:i<n)(hj:j<n)
  (p0:w.cell? ⟨blk,off+i*6,aD⟩=dG (E J p.1)) (p1:w.cell? ⟨blk,off+i*6+1,aD⟩=dG (E J p.2))
  (q0:w.cell? ⟨blk,off+j*6,aD⟩=dG (E J q.1)) (q1:w.cell? ⟨blk,off+j*6+1,aD⟩=dG (E J q.2)) (ho:lt p q=o) :
  ZH 138 #[E J i,E J j,dE (dG ⟨bx,0,aD⟩)] w (dF o):=by
 have C:=Zb (λw=>Gm p q o w ho);have al:(i:Int)<(n:Int):=by omega
 have an:(j:Int)<(n:Int):=by omega
 go_enter func138,ntmps138;go_wp2_with fail
 go_region_held3 (λw'=>ZD w w'/\w'.cell? ⟨bx,0,aD⟩=dG (F (dG ⟨blk,off,aD⟩) n c)/\w'.cell? ⟨blk,off+i*6,aD⟩=dG (E J p.1)/\w'.cell? ⟨blk,off+i*6+1,aD⟩=dG (E J p.2)/\w'.cell? ⟨blk,off+j*6,aD⟩=dG (E J q.1)/\w'.cell? ⟨blk,off+j*6+1,aD⟩=dG (E J q.2))
  (first
  | exact⟨Zj _,hc,p0,p1,q0,q1⟩
  | (go_split_ands;refine⟨Zf (by assumption) aa,Ze aa (by assumption),Ze aa (by assumption),Ze aa (by assumption),Ze aa (by assumption),Ze aa (by assumption)⟩))
  (first|(go_at_call 95;refine (C _).mono ?_;rintro e w' ⟨rfl,aa⟩))
 rename_i hH;have HH:=Zb hH.1;go_wp2;go_ret;exact⟨rfl,Za HH⟩
def Ut(x:CV):List Value:=Zl [x]
def ltC(x y:CV):Bool:=lt (pt x.1) (pt y.1)
theorem Zoy:Sort.SWO ltC where
 irrefl x:=lt_irrefl _
 trans x y z h1 h2:=lt_trans h1 h2
 ntrans x y z h1 h2:=by
  unfold ltC at *;rw[<-cI,Qf] at *;omega
structure CSt(w0:World)(blk off n:Nat)(w:World)(d:Array CV):Prop where
 holds:Sort.HoldsK Ut 6 w blk off d
 len:d.size=n
 gr:Gr w0 w (λb=>b=blk)
theorem CSt.later{w0 w w':World}{blk off n:Nat}{d:Array CV}(h:CSt w0 blk off n w d)(hb:ZD w w'):CSt w0 blk off n w' d:=
 ⟨λj hj=>by
  have q:=h.holds j hj;refine⟨Ze hb q.1,?_⟩;have e:=hb.block blk (aC _ _ q.1);have f:=q.2;simp only[World.frozen?] at f ⊢;rw[e];exact f,h.len,h.gr.on hb⟩
theorem E7{B:Nat}{w w':World}(hb:ZD w w'):Kp B w w':=⟨hb.size,λb _ hl=>hb.block b hl⟩
theorem Zha(w:World)(blk off:Nat)(d:Array CV)(b:Nat)(h:b≠blk):(Sort.putRowK Ut 6 w blk off d).heap[b]? = w.heap[b]?:=by
 unfold Sort.putRowK Sort.putRow Sort.mapBlock;simp only;rw[Array.getElem?_modify,if_neg (Ne.symm h)]
theorem Ztd(w)(n blk off:Nat)(d:Array CV)(os:Array Obj):Gr w (Sort.grow (Sort.putRowK Ut 6 (Sort.ahead w n) blk off d) os) (λb=>b=blk):=by
 have hs:(Sort.putRowK Ut 6 (Sort.ahead w n) blk off d).heap.size=w.heap.size:=by rw[Sort.size_putRowK];rfl
 refine⟨rfl,rfl,rfl,?_,λk hk hn=>?_⟩
 ·simp only[Sort.grow,Array.size_append];omega
 ·rw[Sort.heap_grow_old _ _ (by omega),Zha _ _ _ _ _ hn];rfl
theorem CSt.put{w0 w:World}{blk off n:Nat}{d d':Array CV}(h:CSt w0 blk off n w d)(hb:blk<w0.heap.size)(hs:d'.size=d.size)(m:Nat)(os:Array Obj) :
  CSt w0 blk off n (Sort.grow (Sort.putRowK Ut 6 (Sort.ahead w m) blk off d') os) d'/\Kp w0.heap.size w (Sort.grow (Sort.putRowK Ut 6 (Sort.ahead w m) blk off d') os):=by
 have g:=Ztd w m blk off d' os;have ac:blk<w.heap.size:=aF hb h.gr.size;refine⟨⟨Sort.holdsK_grow Ut 6 _ os blk off d' (by rw[Sort.size_putRowK];exact ac) (Sort.holdsK_putRowK Ut 6 _ blk off d d' (Sort.holdsK_ahead Ut 6 _ _ _ _ _ h.holds) hs),hs.trans h.len,h.gr.trans g⟩,g.size,λb hB hl=>g.block b hl (by omega)⟩
theorem Zkh(w0:World)(blk off n c bx:Nat)(sf:Nat)(sb)(hn:n<=4096)(hb:blk<w0.heap.size)(hc:w0.cell? ⟨bx,0,aD⟩=dG (F (dG ⟨blk,off,aD⟩) n c))(ah:bx≠blk)
  (hs:SwapSwapsK aB sf sb Ut 6 blk off n):Sr aB 138 #[dE (dG ⟨bx,0,aD⟩)] sf sb ltC n w0.heap.size (CSt w0 blk off n) where
 order:=Zoy
 small:=hn
 enters:=enters_of func138 (by kernel_rfl) rfl
 less w d i j h hi hj:=by
  have ag:w.cell? ⟨bx,0,aD⟩=dG (F (dG ⟨blk,off,aD⟩) n c):=by
   have e:=h.gr.block bx (aC _ _ hc) ah;simp only[bF] at hc ⊢;rw[e];exact hc
  have hl:=h.len;have cell:=λt ht u hu=>(Sort.HoldsK.cell (i:=t) (c:=u) h.holds ht hu).1;refine (Zby bx blk off n c i j (pt d[i]!.1) (pt d[j]!.1) _ w ag hi hj (cell i (by omega) 0 (by decide)) (cell i (by omega) 1 (by decide)) (cell j (by omega) 0 (by decide)) (cell j (by omega) 1 (by decide)) rfl).mono ?_;rintro e w' ⟨rfl,ad⟩;exact⟨rfl,h.later ad,E7 ad⟩
 swap w d i j h hi hj:=by
  have hl:=h.len;have q:=hs w d h.holds hl i j hi hj;have e:=Sort.putRowK_swp Ut 6 (λ_=>rfl) w blk off d i j (by omega) (by omega);rw[Sort.putRowK_self Ut 6 w blk off d h.holds] at e;rw[e] at q;have r:=h.put hb (d':=cB d i j) (by rw[Sort.size_swp]) 0 #[]
  have f:Sort.grow (Sort.putRowK Ut 6 (Sort.ahead w 0) blk off (cB d i j)) #[]=Sort.putRowK Ut 6 w blk off (cB d i j):=by
   simp[Sort.grow,Sort.ahead]
  rw[f] at r;exact⟨_,q,r.1,r.2⟩
 size w d h:=h.len
 low w d h:=h.gr.size
 alloc w d o h:=h.later (Zh w o)
 store w d b o v h hB:=⟨λj hj=>by
   have q:=h.holds j hj;rw[World.cell?_setCell_other _ _ _ _ (by intro e;have:=congrArg Addr.block e;simp at this;omega),World.frozen?_setCell];exact q,h.len,h.gr.set (.inr hB) v⟩
open Go.RowKit Go.Lib
theorem Tryz.infoCoins:(Tryz.prog.info? 64).map (λi=>i.desc)=dG (.slice 162):=by kernel_rfl
theorem Tryz.infoCoinS:(Tryz.prog.info? 162).map (λi=>(i.size,i.bytes,i.hasPointers))=dG (6,64,true):=by kernel_rfl
theorem M7:∃ i ie,Tryz.prog.info? 64=dG i/\i.desc = .slice 162/\Tryz.prog.info? 162=dG ie/\ie.size=6/\ie.bytes=64/\ie.hasPointers=true:=by
 have h1:=Tryz.infoCoins;have h2:=Tryz.infoCoinS;cases q1:Tryz.prog.info? 64 with
 | none=>rw[q1] at h1;cases h1
 | some i=>
  cases q2:Tryz.prog.info? 162 with
  | none=>rw[q2] at h2;cases h2
  | some ie=>
   rw[q1] at h1;rw[q2] at h2;simp only[Option.map_some,aZ,Prod.mk.injEq] at h1 h2;exact⟨i,ie,rfl,h1,rfl,h2.1,h2.2.1,h2.2.2⟩
theorem swap9(n:Nat)(ie:TypeInfo)(hb:ie.bytes=64)(hp:ie.hasPointers=true)(h2:2<=n):swapperK n ie 25=9:=by
 have e0:(n == 0)=false:=by simp;omega
 have e1:(n == 1)=false:=by simp;omega
 simp[swapperK,e0,e1,hb,hp]
theorem Zmx(x:CV)(v:Value)(h:v∈Ut x):v.oneCell'=true:=Xg [x] v h
theorem Zcb(w0:World)(blk off n:Nat)(g:Nat)(lb)(sf:Nat)(sb)(hn:n<=4096)(hb:blk<w0.heap.size)(hs:SwapSwapsK aB sf sb Ut 6 blk off n) :
  Pz aB 231 g lb sf sb n w0.heap.size (CSt w0 blk off n):=by
 intro a b d w h aa af;have hl:=h.len;refine (Any.breakPatterns_func_cells_w Tryz.laysGg28 Ut 6 (λ_=>rfl) (.func g) #[] lb sf sb blk off a b d w (by rw[hl];exact hs) h.holds (aF hb h.gr.size) aa (by omega) (by omega)).mono ?_;rintro e w' ⟨rfl,m,os,rfl⟩;have hp:=Sort.breakPatterns_holds d a b aa (by omega);have r:=h.put hb (d':=Sort.breakPatterns d a b) hp.1 m os;exact⟨rfl,_,hp,r.1,r.2⟩
theorem Zkm(w0:World)(blk off n:Nat)(g:Nat)(lb)(sf:Nat)(sb)(hn:n<=4096)(hb:blk<w0.heap.size)(hs:SwapSwapsK aB sf sb Ut 6 blk off n) :
  Pz aB 233 g lb sf sb n w0.heap.size (CSt w0 blk off n):=by
 intro a b d w h aa af;have hl:=h.len;refine (Any.reverseRange_func_cells_w Tryz.laysGg30 Ut 6 (λ_=>rfl) (.func g) #[] lb sf sb blk off a b d w (by rw[hl];exact hs) h.holds (aF hb h.gr.size) aa (by omega) (by omega)).mono ?_;rintro e w' ⟨rfl,m,os,rfl⟩;have hp:=Sort.reverseRange_holds d a b aa (by omega);have r:=h.put hb (d':=Sort.reverseRange d a b) hp.1 m os;exact⟨rfl,_,hp,r.1,r.2⟩
