import Derived.Test.YtpikejjiignchaaGreatDoorH
import Derived.Test.YtpikejjiignchaaGreatDoorG26
open Go.Proofs.Tryz
open Bool renaming not_eq_true->cS,noConfusion->dE,and_eq_true->bL
open Go.Ending renaming returned->dX
open Go.IntKind renaming wrap_i64->bF,i64->J
open Go.Obj renaming cells->dW
open Go.Proofs renaming intOf->aV
open Go.Proofs.Tryz renaming prog->aB
open Go.Sort renaming scanSorted->dG,shiftUp->cL,swp->bM,fixDown->cP,partialIns->bP,partialIns_succ->bA,PermIn->dS,permIn_trans->cY
open Go.Value renaming int->E,slice->F,tuple->dY,bool->eA
open Go.World renaming block_lt_of_cell?->aC
open Nat renaming le_refl->aE
set_option maxHeartbeats 25600000
set_option maxRecDepth 10000
namespace Go.Proofs.YtpikejjiignchaaGreatDoor
open Go.RowKit
variable {α : Type} [Inhabited α]
theorem Fd(lt : α -> α->Bool)(d:Array α)(b i:Nat)(h:i<b)(z:lt d[i]! d[i - 1]! = false):dG lt d b i=dG lt d b (i+1):=by
 rw[dG,if_pos (by simp[h,z])]
theorem Te(lt : α -> α->Bool)(d:Array α)(b i:Nat)(h:¬i<b\/lt d[i]! d[i - 1]! = true):dG lt d b i=i:=by
 rw[dG,if_neg]
 rcases h with h|h
 ·simp[h]
 ·simp[h]
theorem Pd(lt : α -> α->Bool)(b j:Nat)(d:Array α)(h:j<b)(z:lt d[j]! d[j - 1]! = true):cL lt b j d=cL lt b (j+1) (bM d j (j - 1)):=by
 rw[cL,if_pos h,if_neg (by simp[z])]
theorem Vr(lt : α -> α->Bool)(b j:Nat)(d:Array α)(h:¬j<b\/lt d[j]! d[j - 1]! = false):cL lt b j d=d:=by
 rw[cL]
 rcases h with h|h
 ·rw[if_neg h]
 ·by_cases q:j<b
  ·rw[if_pos q,if_pos (by simp[h])]
  ·rw[if_neg q]
theorem Bn(lt : α -> α->Bool)(j:Nat)(d:Array α)(h:1<=j)(z:lt d[j]! d[j - 1]! = true):Sort.shiftDown lt j d=Sort.shiftDown lt (j - 1) (bM d j (j - 1)):=by
 obtain⟨k,rfl⟩:∃ k,j=k+1:=⟨j - 1,by omega⟩;rw[Nat.add_sub_cancel] at z ⊢;rw[Sort.shiftDown,if_neg (by simp[z])]
theorem Sj(lt : α -> α->Bool)(j:Nat)(d:Array α)(h:¬1<=j\/lt d[j]! d[j - 1]! = false):Sort.shiftDown lt j d=d:=by
 cases j with
 | zero=>rfl
 | succ k=>
  rcases h with h|h
  ·omega
  ·rw[Nat.add_sub_cancel] at h;rw[Sort.shiftDown,if_pos (by simp[h])]
theorem J5(lt : α -> α->Bool)(b i:Nat)(d:Array α)(h:i+2<=b):Sort.fixUp lt b i d=cL lt b (i+1) d:=by
 rw[Sort.fixUp,if_pos (by omega)]
theorem Hw(lt : α -> α->Bool)(b i:Nat)(d:Array α)(h:¬i+2<=b):Sort.fixUp lt b i d=d:=by
 rw[Sort.fixUp,if_neg (by omega)]
theorem Dd(lt : α -> α->Bool)(a i:Nat)(d:Array α)(h:a+2<=i):cP lt a i d=Sort.shiftDown lt (i - 1) d:=by
 rw[cP,if_pos (by omega)]
theorem Zbr(lt : α -> α->Bool)(a i:Nat)(d:Array α)(h:¬a+2<=i):cP lt a i d=d:=by
 rw[cP,if_neg (by omega)]
theorem Zdm{g:Nat}{lb}{sf:Nat}{sb}{lt : α -> α->Bool}{n B:Nat}{St:World->Array α->Prop}(H:Sr aB g lb sf sb lt n B St)
  (a b:Nat) (d:Array α) (w) (h:St w d) (cl:a<b) (hb:b<=n) (r:Array α×Bool) (hr:Sort.partialInsertionSort lt d a b=r) :
  Calls aB 219 #[lsV g lb sf sb,E J a,E J b] w λe w'=>e = dX (eA r.2)/\St w' r.1/\Kp B w w':=by
 unfold lsV;unfold Sort.partialInsertionSort at hr;have HR:=Zb hr;have hn:=H.small;have eg:=H.enters;have ab:=H.low _ _ h;obtain⟨N0,N1⟩:=Ug w (.func (.func g) #[] lb) (.func (.func sf) #[] sb) 272;have SX:=Zb (H.alloc w d (dW #[.func (.func g) #[] lb,.func (.func sf) #[] sb] 272) h);have KX:=Zb (Kp.alloc B w (dW #[.func (.func g) #[] lb,.func (.func sf) #[] sb] 272));have HH:=Zb H;clear H h hr;go_enter func219,ntmps219;go_wp2;generalize w.alloc (dW #[.func (.func g) #[] lb,.func (.func sf) #[] sb] 272)=X at *;have M0:=Zb N0;have M1:=Zb N1;clear N0 N1
 go_loopw [7,8] (λs7 s8 wr=>∃ (i s t:Nat) (dk:Array α),s7 = E J i/\s8 = E J t/\Hid (t+s=5)/\a<i/\i<=b/\Hid (bP lt a b s i dk=r)/\Hid (St wr dk)/\Hid (Kp B X wr)) (λ_ s8 _=>5 - (aV s8).toNat)
 case atStart=>exact⟨a+1,5,0,d,by go_num,rfl,rfl,by omega,by omega,HR,SX,Kp.refl _ _⟩
 case round=>
  obtain⟨i0,s,t,dk,rfl,rfl,HT,ce,cg,HO,bt,bs⟩:=hrel;cases s with
  | zero=>
   have cz:¬(t:Int)<5:=(by have:=Za HT;omega);have ER:Hid (r=(dk,false)):=HO.symm;go_wp2;go_ret;exact⟨by rw[Za ER];rfl,by rw[Za ER];exact Za bt,Kp.trans KX bs⟩
  | succ s=>
   have cu:t<5:=(by have:=Za HT;omega);have cn:decide ((t:Int)<5)=true:=decide_eq_true (by omega);have ap:Hid (t+1+s=5):=(by show _=_;have:=Za HT;omega);go_wp2_with fail
   go_loopw [7] (λsa wr=>∃ i:Nat,sa = E J i/\a<i/\i<=b/\Hid (dG lt dk b i=dG lt dk b i0)/\Hid (St wr dk)/\Hid (Kp B X wr)) (λsa _=>b - (aV sa).toNat)
   case atStart=>exact⟨i0,rfl,ce,cg,rfl,bt,bs⟩
   case round=>
    obtain⟨i,rfl,aq,cq,HU,HS,HK⟩:=hrel;have c0:=HK.cell ab M0;have c1:=HK.cell ab M1;have bb:=aC _ _ c0;by_cases bx:i<b
    ·have hl:=HH.less wr dk i (i - 1) HS (by omega) (by omega);rw[show (((i - 1:Nat):Int))=(i:Int) - 1 by omega] at hl;cases hlv:lt dk[i]! dk[i - 1]! with
     | false=>
      rw[hlv] at hl;have az:Hid (dG lt dk b (i+1)=dG lt dk b i0):=(by show _=_;rw[<-Za HU,Fd lt dk b i bx hlv]);clear hlv
      go_wp2_with (go_at_fn g;refine hl.mono ?_;rintro e w' ⟨rfl,ad,ac⟩;have O:=Zb (Kp.trans HK ac);have av:=Zb ad;have d0:=O.cell ab M0;have d1:=O.cell ab M1;have dz:=aC _ _ d0;clear ad ac)
      go_roundw
      case rel=>first|exact⟨i+1,by go_num,by omega,by omega,az,av,O⟩|((repeat apply Exists.intro);refine⟨?_,rfl⟩;exact⟨i+1,by go_num,by omega,by omega,az,av,O⟩)
      case measure=>simp[aV];omega
     | true=>
      rw[hlv] at hl;have ak:Hid (dG lt dk b i0=i):=(by show _=_;rw[<-Za HU,Te lt dk b i (Or.inr hlv)]);clear hlv;have cx:¬(i:Int)=(b:Int):=(by omega);have cy:((i:Int) == (b:Int))=false:=(by simp;omega);by_cases h50:b<a+50
      ·have cd:(b:Int) - (a:Int)<50:=by omega
       have ER:Hid (r=(dk,false)):=by
        show _=_;rw[<-Za HO,bA,Za ak,if_neg (by omega),if_pos (by omega)]
       go_wp2_with (go_at_fn g;refine hl.mono ?_;rintro e w' ⟨rfl,ad,ac⟩;have O:=Zb (Kp.trans HK ac);have av:=Zb ad;have d0:=O.cell ab M0;have d1:=O.cell ab M1;have dz:=aC _ _ d0;clear ad ac)
       go_wp2;go_ret;exact⟨by rw[Za ER];rfl,by rw[Za ER];exact Za av,Kp.trans KX O⟩
      ·have cd:¬(b:Int) - (a:Int)<50:=(by omega);by_cases bo:a+2<=i
       ·have cf:(2:Int)<=(i:Int) - (a:Int):=by omega
        go_wp2_with (go_at_fn g;refine hl.mono ?_;rintro e w' ⟨rfl,ad,ac⟩;have O:=Zb (Kp.trans HK ac);have d0:=O.cell ab M0;have d1:=O.cell ab M1;have dz:=aC _ _ d0;obtain⟨w3,hs,au,ar⟩:=HH.swap w' dk i (i - 1) ad (by omega) (by omega);have aw:=Zb au;have ay:=Zb (Kp.trans O ar);clear ad ac au ar;rw[show (((i - 1:Nat):Int))=(i:Int) - 1 by omega] at hs)
        clear d0 d1 dz hl hs c0 c1 bb
        go_loopw [9] (λsa wr=>∃ (j:Nat) (z:Array α),sa = E J j/\j<i/\Hid (Sort.shiftDown lt j z=Sort.shiftDown lt (i - 1) (bM dk i (i - 1)))/\Hid (St wr z)/\Hid (Kp B X wr)) (λsa _=>(aV sa).toNat)
        case atStart=>exact⟨i - 1,_,by congr 1 <;> omega,by omega,rfl,aw,ay⟩
        case round=>
         obtain⟨j,z,rfl,ct,HU,HS,HK⟩:=hrel;have c0:=HK.cell ab M0;have c1:=HK.cell ab M1;have bb:=aC _ _ c0;by_cases bz:1<=j
         ·have hl:=HH.less wr z j (j - 1) HS (by omega) (by omega);rw[show (((j - 1:Nat):Int))=(j:Int) - 1 by omega] at hl;cases hlv:lt z[j]! z[j - 1]! with
          | true=>
           rw[hlv] at hl;have az:Hid (Sort.shiftDown lt (j - 1) (bM z j (j - 1))=Sort.shiftDown lt (i - 1) (bM dk i (i - 1))):=(by show _=_;rw[<-Za HU,Bn lt j z bz hlv]);clear hlv
           go_wp2_with (go_at_fn g;refine hl.mono ?_;rintro e w' ⟨rfl,ad,ac⟩;have O:=Zb (Kp.trans HK ac);have d0:=O.cell ab M0;have d1:=O.cell ab M1;have dz:=aC _ _ d0;obtain⟨w3,hs,au,ar⟩:=HH.swap w' z j (j - 1) ad (by omega) (by omega);have aw:=Zb au;have ay:=Zb (Kp.trans O ar);clear ad ac au ar;rw[show (((j - 1:Nat):Int))=(j:Int) - 1 by omega] at hs)
           go_roundw
           case rel=>first|exact⟨j - 1,_,by congr 1 <;> omega,by omega,az,aw,ay⟩|((repeat apply Exists.intro);refine⟨?_,rfl⟩;exact⟨j - 1,_,by congr 1 <;> omega,by omega,az,aw,ay⟩)
           case measure=>simp[aV];omega
          | false=>
           rw[hlv] at hl
           have ax:Hid (cP lt a i (bM dk i (i - 1))=z):=by
            show _=_;rw[Dd lt a i _ bo,<-Za HU,Sj lt j z (Or.inr hlv)]
           clear hlv
           go_upto_region 18 with (go_at_fn g;refine hl.mono ?_;rintro e w' ⟨rfl,ad,ac⟩;have O:=Zb (Kp.trans HK ac);have av:=Zb ad;have d0:=O.cell ab M0;have d1:=O.cell ab M1;have dz:=aC _ _ d0;clear ad ac)
           obtain⟨dD,hD⟩:=ZG (z);rw[<-hD] at ax av;clear hD c0 c1 bb hl d0 d1 dz;obtain⟨HS,HK⟩:Hid (St _ dD)/\Hid (Kp B X _):=⟨av,O⟩;have c0:=HK.cell ab M0;have c1:=HK.cell ab M1;have bb:=aC _ _ c0;by_cases be:i+2<=b
           ·have bi:(2:Int)<=(b:Int) - (i:Int):=(by omega);go_wp2_with fail
            go_loopw [10] (λsa wr=>∃ (j:Nat) (z:Array α),sa = E J j/\i+1<=j/\j<=b/\Hid (cL lt b j z=cL lt b (i+1) dD)/\Hid (St wr z)/\Hid (Kp B X wr)) (λsa _=>b - (aV sa).toNat)
            case atStart=>exact⟨i+1,dD,by go_num,aE _,by omega,rfl,HS,HK⟩
            case round=>
             clear c0 c1 bb;obtain⟨j,z,rfl,bw,ca,HU,HS,HK⟩:=hrel;have c0:=HK.cell ab M0;have c1:=HK.cell ab M1;have bb:=aC _ _ c0;by_cases bh:j<b
             ·have hl:=HH.less wr z j (j - 1) HS (by omega) (by omega);rw[show (((j - 1:Nat):Int))=(j:Int) - 1 by omega] at hl;cases hlv:lt z[j]! z[j - 1]! with
              | true=>
               rw[hlv] at hl;have az:Hid (cL lt b (j+1) (bM z j (j - 1))=cL lt b (i+1) dD):=(by show _=_;rw[<-Za HU,Pd lt b j z bh hlv]);clear hlv
               go_wp2_with (go_at_fn g;refine hl.mono ?_;rintro e w' ⟨rfl,ad,ac⟩;have O:=Zb (Kp.trans HK ac);have d0:=O.cell ab M0;have d1:=O.cell ab M1;have dz:=aC _ _ d0;obtain⟨w3,hs,au,ar⟩:=HH.swap w' z j (j - 1) ad (by omega) (by omega);have aw:=Zb au;have ay:=Zb (Kp.trans O ar);clear ad ac au ar;rw[show (((j - 1:Nat):Int))=(j:Int) - 1 by omega] at hs)
               go_roundw
               case rel=>first|exact⟨j+1,_,by go_num,by omega,by omega,az,aw,ay⟩|((repeat apply Exists.intro);refine⟨?_,rfl⟩;exact⟨j+1,_,by go_num,by omega,by omega,az,aw,ay⟩)
               case measure=>simp[aV];omega
              | false=>
               rw[hlv] at hl
               have HE:Hid (bP lt a b s i (Sort.fixUp lt b i (cP lt a i (bM dk i (i - 1))))=bP lt a b s i z):=by
                show _=_;rw[Za ax,J5 lt b i dD be,<-Za HU,Vr lt b j z (Or.inr hlv)]
               clear hlv
               go_wp2_with (go_at_fn g;refine hl.mono ?_;rintro e w' ⟨rfl,ad,ac⟩;have O:=Zb (Kp.trans HK ac);have av:=Zb ad;have d0:=O.cell ab M0;have d1:=O.cell ab M1;have dz:=aC _ _ d0;clear ad ac)
               go_wp2;go_roundw
               case rel=>first|exact⟨i,s,t+1,_,rfl,by go_num,ap,aq,by omega,by show _=_;rw[<-Za HO,bA,Za ak,if_neg (by omega),if_neg (by omega)];exact HE.symm,av,O⟩|((repeat apply Exists.intro);refine⟨?_,rfl⟩;exact⟨i,s,t+1,_,rfl,by go_num,ap,aq,by omega,by show _=_;rw[<-Za HO,bA,Za ak,if_neg (by omega),if_neg (by omega)];exact HE.symm,av,O⟩)
               case measure=>simp[aV];omega
             ·have HE:Hid (bP lt a b s i (Sort.fixUp lt b i (cP lt a i (bM dk i (i - 1))))=bP lt a b s i z):=by
               show _=_;rw[Za ax,J5 lt b i dD be,<-Za HU,Vr lt b j z (Or.inl bh)]
              go_wp2;go_roundw
              case rel=>first|exact⟨i,s,t+1,_,rfl,by go_num,ap,aq,by omega,by show _=_;rw[<-Za HO,bA,Za ak,if_neg (by omega),if_neg (by omega)];exact HE.symm,HS,HK⟩|((repeat apply Exists.intro);refine⟨?_,rfl⟩;exact⟨i,s,t+1,_,rfl,by go_num,ap,aq,by omega,by show _=_;rw[<-Za HO,bA,Za ak,if_neg (by omega),if_neg (by omega)];exact HE.symm,HS,HK⟩)
              case measure=>simp[aV];omega
           ·have bi:¬(2:Int)<=(b:Int) - (i:Int):=by omega
            have HE:Hid (bP lt a b s i (Sort.fixUp lt b i (cP lt a i (bM dk i (i - 1))))=bP lt a b s i dD):=by
             show _=_;rw[Za ax,Hw lt b i dD be]
            go_wp2;go_roundw
            case rel=>first|exact⟨i,s,t+1,_,rfl,by go_num,ap,aq,by omega,by show _=_;rw[<-Za HO,bA,Za ak,if_neg (by omega),if_neg (by omega)];exact HE.symm,HS,HK⟩|((repeat apply Exists.intro);refine⟨?_,rfl⟩;exact⟨i,s,t+1,_,rfl,by go_num,ap,aq,by omega,by show _=_;rw[<-Za HO,bA,Za ak,if_neg (by omega),if_neg (by omega)];exact HE.symm,HS,HK⟩)
            case measure=>simp[aV];omega
         ·have ax:Hid (cP lt a i (bM dk i (i - 1))=z):=by
           show _=_;rw[Dd lt a i _ bo,<-Za HU,Sj lt j z (Or.inl bz)]
          go_upto_region 18 with fail
          obtain⟨dD,hD⟩:=ZG (z);rw[<-hD] at ax HS;clear hD c0 c1 bb;have c0:=HK.cell ab M0;have c1:=HK.cell ab M1;have bb:=aC _ _ c0;by_cases be:i+2<=b
          ·have bi:(2:Int)<=(b:Int) - (i:Int):=(by omega);go_wp2_with fail
           go_loopw [10] (λsa wr=>∃ (j:Nat) (z:Array α),sa = E J j/\i+1<=j/\j<=b/\Hid (cL lt b j z=cL lt b (i+1) dD)/\Hid (St wr z)/\Hid (Kp B X wr)) (λsa _=>b - (aV sa).toNat)
           case atStart=>exact⟨i+1,dD,by go_num,aE _,by omega,rfl,HS,HK⟩
           case round=>
            clear c0 c1 bb;obtain⟨j,z,rfl,bw,ca,HU,HS,HK⟩:=hrel;have c0:=HK.cell ab M0;have c1:=HK.cell ab M1;have bb:=aC _ _ c0;by_cases bh:j<b
            ·have hl:=HH.less wr z j (j - 1) HS (by omega) (by omega);rw[show (((j - 1:Nat):Int))=(j:Int) - 1 by omega] at hl;cases hlv:lt z[j]! z[j - 1]! with
             | true=>
              rw[hlv] at hl;have az:Hid (cL lt b (j+1) (bM z j (j - 1))=cL lt b (i+1) dD):=(by show _=_;rw[<-Za HU,Pd lt b j z bh hlv]);clear hlv
              go_wp2_with (go_at_fn g;refine hl.mono ?_;rintro e w' ⟨rfl,ad,ac⟩;have O:=Zb (Kp.trans HK ac);have d0:=O.cell ab M0;have d1:=O.cell ab M1;have dz:=aC _ _ d0;obtain⟨w3,hs,au,ar⟩:=HH.swap w' z j (j - 1) ad (by omega) (by omega);have aw:=Zb au;have ay:=Zb (Kp.trans O ar);clear ad ac au ar;rw[show (((j - 1:Nat):Int))=(j:Int) - 1 by omega] at hs)
              go_roundw
              case rel=>first|exact⟨j+1,_,by go_num,by omega,by omega,az,aw,ay⟩|((repeat apply Exists.intro);refine⟨?_,rfl⟩;exact⟨j+1,_,by go_num,by omega,by omega,az,aw,ay⟩)
              case measure=>simp[aV];omega
             | false=>
              rw[hlv] at hl
              have HE:Hid (bP lt a b s i (Sort.fixUp lt b i (cP lt a i (bM dk i (i - 1))))=bP lt a b s i z):=by
               show _=_;rw[Za ax,J5 lt b i dD be,<-Za HU,Vr lt b j z (Or.inr hlv)]
              clear hlv
              go_wp2_with (go_at_fn g;refine hl.mono ?_;rintro e w' ⟨rfl,ad,ac⟩;have O:=Zb (Kp.trans HK ac);have av:=Zb ad;have d0:=O.cell ab M0;have d1:=O.cell ab M1;have dz:=aC _ _ d0;clear ad ac)
              go_wp2;go_roundw
              case rel=>first|exact⟨i,s,t+1,_,rfl,by go_num,ap,aq,by omega,by show _=_;rw[<-Za HO,bA,Za ak,if_neg (by omega),if_neg (by omega)];exact HE.symm,av,O⟩|((repeat apply Exists.intro);refine⟨?_,rfl⟩;exact⟨i,s,t+1,_,rfl,by go_num,ap,aq,by omega,by show _=_;rw[<-Za HO,bA,Za ak,if_neg (by omega),if_neg (by omega)];exact HE.symm,av,O⟩)
              case measure=>simp[aV];omega
            ·have HE:Hid (bP lt a b s i (Sort.fixUp lt b i (cP lt a i (bM dk i (i - 1))))=bP lt a b s i z):=by
              show _=_;rw[Za ax,J5 lt b i dD be,<-Za HU,Vr lt b j z (Or.inl bh)]
             go_wp2;go_roundw
             case rel=>first|exact⟨i,s,t+1,_,rfl,by go_num,ap,aq,by omega,by show _=_;rw[<-Za HO,bA,Za ak,if_neg (by omega),if_neg (by omega)];exact HE.symm,HS,HK⟩|((repeat apply Exists.intro);refine⟨?_,rfl⟩;exact⟨i,s,t+1,_,rfl,by go_num,ap,aq,by omega,by show _=_;rw[<-Za HO,bA,Za ak,if_neg (by omega),if_neg (by omega)];exact HE.symm,HS,HK⟩)
             case measure=>simp[aV];omega
          ·have bi:¬(2:Int)<=(b:Int) - (i:Int):=by omega
           have HE:Hid (bP lt a b s i (Sort.fixUp lt b i (cP lt a i (bM dk i (i - 1))))=bP lt a b s i dD):=by
            show _=_;rw[Za ax,Hw lt b i dD be]
           go_wp2;go_roundw
           case rel=>first|exact⟨i,s,t+1,_,rfl,by go_num,ap,aq,by omega,by show _=_;rw[<-Za HO,bA,Za ak,if_neg (by omega),if_neg (by omega)];exact HE.symm,HS,HK⟩|((repeat apply Exists.intro);refine⟨?_,rfl⟩;exact⟨i,s,t+1,_,rfl,by go_num,ap,aq,by omega,by show _=_;rw[<-Za HO,bA,Za ak,if_neg (by omega),if_neg (by omega)];exact HE.symm,HS,HK⟩)
           case measure=>simp[aV];omega
       ·have cf:¬(2:Int)<=(i:Int) - (a:Int):=by omega
        have ax:Hid (cP lt a i (bM dk i (i - 1))=bM dk i (i - 1)):=by
         show _=_;rw[Zbr lt a i _ bo]
        go_upto_region 18 with (go_at_fn g;refine hl.mono ?_;rintro e w' ⟨rfl,ad,ac⟩;have O:=Zb (Kp.trans HK ac);have d0:=O.cell ab M0;have d1:=O.cell ab M1;have dz:=aC _ _ d0;obtain⟨w3,hs,au,ar⟩:=HH.swap w' dk i (i - 1) ad (by omega) (by omega);have aw:=Zb au;have ay:=Zb (Kp.trans O ar);clear ad ac au ar;rw[show (((i - 1:Nat):Int))=(i:Int) - 1 by omega] at hs)
        obtain⟨dD,hD⟩:=ZG (bM dk i (i - 1));have ax:Hid (cP lt a i (bM dk i (i - 1))=dD):=(by show _=_;rw[hD];exact Za ax);rw[<-hD] at aw;clear hD c0 c1 bb d0 d1 dz hl hs;obtain⟨HS,HK⟩:Hid (St _ dD)/\Hid (Kp B X _):=⟨aw,ay⟩;have c0:=HK.cell ab M0;have c1:=HK.cell ab M1;have bb:=aC _ _ c0;by_cases be:i+2<=b
        ·have bi:(2:Int)<=(b:Int) - (i:Int):=(by omega);go_wp2_with fail
         go_loopw [10] (λsa wr=>∃ (j:Nat) (z:Array α),sa = E J j/\i+1<=j/\j<=b/\Hid (cL lt b j z=cL lt b (i+1) dD)/\Hid (St wr z)/\Hid (Kp B X wr)) (λsa _=>b - (aV sa).toNat)
         case atStart=>exact⟨i+1,dD,by go_num,aE _,by omega,rfl,HS,HK⟩
         case round=>
          clear c0 c1 bb;obtain⟨j,z,rfl,bw,ca,HU,HS,HK⟩:=hrel;have c0:=HK.cell ab M0;have c1:=HK.cell ab M1;have bb:=aC _ _ c0;by_cases bh:j<b
          ·have hl:=HH.less wr z j (j - 1) HS (by omega) (by omega);rw[show (((j - 1:Nat):Int))=(j:Int) - 1 by omega] at hl;cases hlv:lt z[j]! z[j - 1]! with
           | true=>
            rw[hlv] at hl;have az:Hid (cL lt b (j+1) (bM z j (j - 1))=cL lt b (i+1) dD):=(by show _=_;rw[<-Za HU,Pd lt b j z bh hlv]);clear hlv
            go_wp2_with (go_at_fn g;refine hl.mono ?_;rintro e w' ⟨rfl,ad,ac⟩;have O:=Zb (Kp.trans HK ac);have d0:=O.cell ab M0;have d1:=O.cell ab M1;have dz:=aC _ _ d0;obtain⟨w3,hs,au,ar⟩:=HH.swap w' z j (j - 1) ad (by omega) (by omega);have aw:=Zb au;have ay:=Zb (Kp.trans O ar);clear ad ac au ar;rw[show (((j - 1:Nat):Int))=(j:Int) - 1 by omega] at hs)
            go_roundw
            case rel=>first|exact⟨j+1,_,by go_num,by omega,by omega,az,aw,ay⟩|((repeat apply Exists.intro);refine⟨?_,rfl⟩;exact⟨j+1,_,by go_num,by omega,by omega,az,aw,ay⟩)
            case measure=>simp[aV];omega
           | false=>
            rw[hlv] at hl
            have HE:Hid (bP lt a b s i (Sort.fixUp lt b i (cP lt a i (bM dk i (i - 1))))=bP lt a b s i z):=by
             show _=_;rw[Za ax,J5 lt b i dD be,<-Za HU,Vr lt b j z (Or.inr hlv)]
            clear hlv
            go_wp2_with (go_at_fn g;refine hl.mono ?_;rintro e w' ⟨rfl,ad,ac⟩;have O:=Zb (Kp.trans HK ac);have av:=Zb ad;have d0:=O.cell ab M0;have d1:=O.cell ab M1;have dz:=aC _ _ d0;clear ad ac)
            go_wp2;go_roundw
            case rel=>first|exact⟨i,s,t+1,_,rfl,by go_num,ap,aq,by omega,by show _=_;rw[<-Za HO,bA,Za ak,if_neg (by omega),if_neg (by omega)];exact HE.symm,av,O⟩|((repeat apply Exists.intro);refine⟨?_,rfl⟩;exact⟨i,s,t+1,_,rfl,by go_num,ap,aq,by omega,by show _=_;rw[<-Za HO,bA,Za ak,if_neg (by omega),if_neg (by omega)];exact HE.symm,av,O⟩)
            case measure=>simp[aV];omega
          ·have HE:Hid (bP lt a b s i (Sort.fixUp lt b i (cP lt a i (bM dk i (i - 1))))=bP lt a b s i z):=by
            show _=_;rw[Za ax,J5 lt b i dD be,<-Za HU,Vr lt b j z (Or.inl bh)]
           go_wp2;go_roundw
           case rel=>first|exact⟨i,s,t+1,_,rfl,by go_num,ap,aq,by omega,by show _=_;rw[<-Za HO,bA,Za ak,if_neg (by omega),if_neg (by omega)];exact HE.symm,HS,HK⟩|((repeat apply Exists.intro);refine⟨?_,rfl⟩;exact⟨i,s,t+1,_,rfl,by go_num,ap,aq,by omega,by show _=_;rw[<-Za HO,bA,Za ak,if_neg (by omega),if_neg (by omega)];exact HE.symm,HS,HK⟩)
           case measure=>simp[aV];omega
        ·have bi:¬(2:Int)<=(b:Int) - (i:Int):=by omega
         have HE:Hid (bP lt a b s i (Sort.fixUp lt b i (cP lt a i (bM dk i (i - 1))))=bP lt a b s i dD):=by
          show _=_;rw[Za ax,Hw lt b i dD be]
         go_wp2;go_roundw
         case rel=>first|exact⟨i,s,t+1,_,rfl,by go_num,ap,aq,by omega,by show _=_;rw[<-Za HO,bA,Za ak,if_neg (by omega),if_neg (by omega)];exact HE.symm,HS,HK⟩|((repeat apply Exists.intro);refine⟨?_,rfl⟩;exact⟨i,s,t+1,_,rfl,by go_num,ap,aq,by omega,by show _=_;rw[<-Za HO,bA,Za ak,if_neg (by omega),if_neg (by omega)];exact HE.symm,HS,HK⟩)
         case measure=>simp[aV];omega
    ·have ak:Hid (dG lt dk b i0=i):=(by show _=_;rw[<-Za HU,Te lt dk b i (Or.inl bx)]);have he:(i:Int)=(b:Int):=(by omega);have cp:((i:Int) == (b:Int))=true:=by simp;omega
     have ER:Hid (r=(dk,true)):=by
      show _=_;rw[<-Za HO,bA,Za ak,if_pos (by omega)]
     go_wp2;go_ret;exact⟨by rw[Za ER];rfl,by rw[Za ER];exact Za HS,Kp.trans KX HK⟩
section
variable {α : Type} [Inhabited α] {lt : α -> α -> Bool} {a b a' b' m pivot : Nat} {d dk d2 d4 d5 d' : Array α}
theorem Px(h:Sort.Below lt a b d)(p:dS a b d d')(z:b<=d.size):Sort.Below lt a b d':=Sort.Below.permA Sort.permIn_all z h p
def Ends(lt : α -> α->Bool)(a b:Nat)(d:Array α)(a' b':Nat)(dk:Array α):Prop:=
 ∀ d',dS a' b' dk d'->Sort.SortedIn lt a' b' d'->dS a b d d'/\Sort.SortedIn lt a b d'
theorem Ends.perm(h:Ends lt a b d a' b' dk)(p:dS a' b' dk d2):Ends lt a b d a' b' d2:=λd' h1 h2=>h d' (cY _ _ _ _ _ p h1) h2
theorem Ends.start(lt : α -> α->Bool)(a b:Nat)(d:Array α):Ends lt a b d a b d:=λ_ h1 h2=>⟨h1,h2⟩
theorem Ends.on(h:Ends lt a b d a' b' dk){z O:Nat}(k:Ends lt a' b' dk z O d2):Ends lt a b d z O d2:=λd' h1 h2=>h d' (k d' h1 h2).1 (k d' h1 h2).2
theorem Ak{β : Type}{lt : β -> β->Bool}(z:Sort.SWO lt){x y : β}(h:lt x y=true):lt y x=false:=by
 rw[<-cS];intro k;have:=z.trans _ _ _ h k;rw[z.irrefl] at this;exact dE this
theorem Zoz(z:Sort.SWO lt)(hB:Sort.Below lt a b d)(ha:0<a)(hl:lt d[a - 1]! d[pivot]! = false)(h:Zrj lt d a b pivot m d4)(hb:b<=d.size) :
  Sort.Below lt m b d4/\Ends lt a b d m b d4:=by
 have am:d4.size=d.size:=h.perm.1;have al:=h.lo
 have hq:∀ x,a<=x->x<b->lt d4[x]! d[a - 1]! = false:=by
  refine Sort.permIn_all d d4 a b (λv=>lt v d[a - 1]! = false) hb h.perm (λi h1 h2=>?_)
  rcases hB with q|q
  ·omega
  ·exact q i h1 h2
 refine⟨Or.inr λi h1 h2=>?_,λd' h1 h2=>⟨cY _ _ _ _ _ h.perm (Sort.permIn_mono _ _ _ _ _ _ (by omega) (aE _) (by omega) h1),λi j hi ae O=>?_⟩⟩
 ·rw[<-cS];intro k;have:=z.trans _ _ _ (h.right i h1 h2) k;rw[h.left (m - 1) (by omega) (by omega)] at this;exact dE this
 ·have hr:∀ x,m<=x->x<b->lt d[pivot]! d'[x]! = true:=Sort.permIn_all d4 d' m b (λv=>lt d[pivot]! v=true) (by omega) h1 h.right;have ho:∀ x,x<m->d'[x]! = d4[x]!:=λx hx=>h1.2.1 x (Or.inl hx);by_cases af:j<m
  ·rw[ho j af,ho i (by omega)];exact z.ntrans _ _ _ (z.ntrans _ _ _ (hq j (by omega) O) hl) (h.left i hi (by omega))
  ·by_cases ab:i<m
   ·rw[ho i ab,<-cS];intro k;have:=z.trans _ _ _ (hr j (by omega) O) k;rw[h.left i hi ab] at this;exact dE this
   ·exact h2 i j (by omega) ae O
theorem Zfr(O:Sort.SWO lt){P : α}(hm:d'[m]! = P)(hl:∀ x,a<=x->x<m->lt d'[x]! P=true)(hr:∀ x,m<x->x<b->lt d'[x]! P=false)(h1:Sort.SortedIn lt a m d')(h2:Sort.SortedIn lt (m+1) b d'):Sort.SortedIn lt a b d':=by
 intro i j hi z hj;by_cases ah:j<m
 ·exact h1 i j hi z ah
 ·by_cases ag:j=m
  ·subst ag;rw[hm];exact Ak O (hl i hi z)
  ·by_cases af:i<m
   ·exact O.ntrans _ _ _ (hr j (by omega) hj) (Ak O (hl i hi af))
   ·by_cases ae:i=m
    ·subst ae;rw[hm];exact hr j z hj
    ·exact h2 i j (by omega) z hj
theorem Zba(z:Sort.Below lt a b d)(h:Zjg lt d a b m d4)(O:b<=d.size):Sort.Below lt a m d4/\Sort.Below lt (m+1) b d4:=by
 have hh:=h.hi;refine⟨?_,Or.inr λi h1 h2=>?_⟩
 ·rcases Px z h.perm O with q|q
  ·exact Or.inl q
  ·exact Or.inr λi h1 h2=>q i h1 (by omega)
 ·rw[Nat.add_sub_cancel];exact h.right i (by omega) h2
theorem Zob(hO:Sort.SWO lt)(h:Zjg lt d a b m d4)(hb:b<=d.size)(p:dS a m d4 d5)(s:Sort.SortedIn lt a m d5) :
  Sort.Below lt (m+1) b d5/\Ends lt a b d (m+1) b d5:=by
 have al:=h.lo;have aj:=h.hi;have am:d4.size=d.size:=h.perm.1;have an:d5.size=d4.size:=p.1;have z:∀ x,m<=x->d5[x]! = d4[x]!:=λx hx=>p.2.1 x (Or.inr hx);have ah:∀ x,a<=x->x<m->lt d5[x]! d4[m]! = true:=Sort.permIn_all d4 d5 a m (λv=>lt v d4[m]! = true) (by omega) p h.left;refine⟨Or.inr λi h1 h2=>?_,λd' h1 h2=>⟨cY _ _ _ _ _ (cY _ _ _ _ _ h.perm (Sort.permIn_mono _ _ _ _ _ _ (aE _) (by omega) (by omega) p)) (Sort.permIn_mono _ _ _ _ _ _ (by omega) (aE _) (by omega) h1),?_⟩⟩
 ·rw[Nat.add_sub_cancel,z m (aE _),z i (by omega)];exact h.right i (by omega) h2
 ·have O:∀ x,x<m+1->d'[x]! = d5[x]!:=λx hx=>h1.2.1 x (Or.inl hx);refine Zfr hO (P:=d4[m]!) (by rw[O m (by omega),z m (aE _)]) (λx ac ab=>by rw[O x (by omega)];exact ah x ac ab) ?_ (λi j hi af hj=>by rw[O i (by omega),O j (by omega)];exact s i j hi af hj) h2;have:=Sort.permIn_all d5 d' (m+1) b (λv=>lt v d4[m]! = false) (by omega) h1 (λi ak ae=>by rw[z i (by omega)];exact h.right i (by omega) ae);exact λx ac ab=>this x (by omega) ab
theorem Zld(hO:Sort.SWO lt)(hB:Sort.Below lt a b d)(h:Zjg lt d a b m d4)(hb:b<=d.size)(p:dS (m+1) b d4 d5)(s:Sort.SortedIn lt (m+1) b d5) :
  Sort.Below lt a m d5/\Ends lt a b d a m d5:=by
 have am:=h.lo;have al:=h.hi;have an:d4.size=d.size:=h.perm.1;have ao:d5.size=d4.size:=p.1;have z:∀ x,x<m+1->d5[x]! = d4[x]!:=λx hx=>p.2.1 x (Or.inl hx);have aj:∀ x,m+1<=x->x<b->lt d5[x]! d4[m]! = false:=Sort.permIn_all d4 d5 (m+1) b (λv=>lt v d4[m]! = false) (by omega) p (λi h1 h2=>h.right i (by omega) h2);refine⟨?_,λd' h1 h2=>⟨cY _ _ _ _ _ (cY _ _ _ _ _ h.perm (Sort.permIn_mono _ _ _ _ _ _ (by omega) (aE _) (by omega) p)) (Sort.permIn_mono _ _ _ _ _ _ (aE _) (by omega) (by omega) h1),?_⟩⟩
 ·rcases (Zba hB h hb).1 with q|q
  ·exact Or.inl q
  ·exact Or.inr λi h1 h2=>by rw[z i (by omega),z (a - 1) (by omega)];exact q i h1 h2
 ·have O:∀ x,m<=x->d'[x]! = d5[x]!:=λx hx=>h1.2.1 x (Or.inr hx);have hl:=Sort.permIn_all d5 d' a m (λv=>lt v d4[m]! = true) (by omega) h1 (λi ae af=>by rw[z i (by omega)];exact h.left i ae af);exact Zfr hO (P:=d4[m]!) (by rw[O m (aE _),z m (by omega)]) hl (λx ap ak=>by rw[O x (by omega)];exact aj x (by omega) ak) h2 (λi j hi ag hj=>by rw[O i (by omega),O j (by omega)];exact s i j hi ag hj)
def G9{α : Type}[Inhabited α](P:Program)(f:Nat)(g:Nat)(lb:Array Value)(sf:Nat)(sb:Array Value)(n B:Nat)(St:World->Array α->Prop):Prop:=
 ∀ (a b:Nat) (d:Array α) (w:World),St w d->a<=b->b<=n->Calls P f #[lsV g lb sf sb,E J a,E J b] w λe w'=>e = dX (dY #[])/\∃ d',dS a b d d'/\St w' d'/\Kp B w w'
theorem Zqe{α : Type}[Inhabited α]{g:Nat}{lb}{sf:Nat}{sb}{lt : α -> α->Bool}{n B:Nat}{St:World->Array α->Prop}(H:Sr aB g lb sf sb lt n B St)
  (HB:G9 aB 216 g lb sf sb n B St) (HV:G9 aB 218 g lb sf sb n B St) (K:Nat) :
  ∀ (a b bq:Nat) (d:Array α) (w:World),St w d->a<=b->b<=n->b - a<=K->bq<=64->Sort.Below lt a b d ->
  Calls aB 183 #[lsV g lb sf sb,E J a,E J b,E J bq] w λe w'=>e = dX (dY #[])/\∃ d',(dS a b d d'/\Sort.SortedIn lt a b d')/\St w' d'/\Kp B w w':=by
 induction K using Nat.strongRecOn with
 | ind K ih=>
 intro a b bq d w h dj hb hK dp cn;unfold lsV;have IH:=Zb ih;have hn:=H.small;have ep:=H.enters;have af:=H.low _ _ h;have HO:=Zb H.order;have HZ:Hid (∀ w d,St w d->d.size=n):=H.size;obtain⟨N0,N1⟩:=Ug w (.func (.func g) #[] lb) (.func (.func sf) #[] sb) 272;have SX:=Zb (H.alloc w d (dW #[.func (.func g) #[] lb,.func (.func sf) #[] sb] 272) h);have KX:=Zb (Kp.alloc B w (dW #[.func (.func g) #[] lb,.func (.func sf) #[] sb] 272));have HH:=Zb H;have da:=Zb HB;have db:=Zb HV;have cz:=Zb cn;clear H h ih HB HV cn;go_enter func183,ntmps183;go_wp2;generalize w.alloc (dW #[.func (.func g) #[] lb,.func (.func sf) #[] sb] 272)=X at *;have M0:=Zb N0;have M1:=Zb N1;clear N0 N1
 go_loopg [1,2,3,8,9] (b - a) (λkx s1 s2 s3 s8 s9 wr=>∃ (a' b' ap:Nat) (wb wp:Bool) (dk:Array α),s1 = E J a'/\s2 = E J b'/\s3 = E J ap/\s8 = eA wb/\s9 = eA wp/\a'<=b'/\b'<=n/\b' - a'<=kx/\kx<=b - a/\ap<=64/\Hid (Sort.Below lt a' b' dk)/\Hid (Ends lt a b d a' b' dk)/\Hid (St wr dk)/\Hid (Kp B X wr))
 case atStart=>exact⟨a,b,bq,true,true,d,rfl,rfl,rfl,rfl,rfl,dj,hb,aE _,aE _,dp,cz,Ends.start lt a b d,SX,Kp.refl _ _⟩
 case round=>
  obtain⟨a',b',ap,wb,wp,dk,rfl,rfl,rfl,rfl,rfl,be,O,ek,ej,dq,cf,HE,HS,HK⟩:=hrel;have c0:=HK.cell af M0;have c1:=HK.cell af M1;have en:=aC _ _ c0;have bn:=Zb (HZ _ _ HS);by_cases h12:b'<=a'+12
  ·have dg:(b':Int) - (a':Int)<=12:=(by omega);have C:=Zb (Zqt HH a' b' dk wr HS be O);unfold lsV at C;go_wp2_with fail;refine C.mono ?_;rintro e w1 ⟨rfl,ab,aa⟩;have ak:=Zb ab;have aj:=Zb (Kp.trans HK aa);clear ab aa;go_wp2;(try simp only[Exit.inBlock,Exit.then]);refine bodyPost_ret (results_none rfl _ _ _) ?_ ?_;focus rfl
   have q:=Sort.insertionSort_holds HO dk a' b' be (by rw[Za bn];exact O);exact⟨rfl,_,HE _ q.1 q.2,Za ak,Kp.trans KX aj⟩
  ·have dg:¬(b':Int) - (a':Int)<=12:=(by omega);by_cases cp:ap=0
   ·subst cp;have C:=Zb (Zow HH a' b' dk wr HS (by omega) O);unfold lsV at C;go_wp2_with fail;refine C.mono ?_;rintro e w1 ⟨rfl,ab,aa⟩;have ak:=Zb ab;have aj:=Zb (Kp.trans HK aa);clear ab aa;go_wp2;(try simp only[Exit.inBlock,Exit.then]);refine bodyPost_ret (results_none rfl _ _ _) ?_ ?_;focus rfl
    have q:=Sort.heapSort_holds HO dk a' b' be (by rw[Za bn];exact O);exact⟨rfl,_,HE _ q.1 q.2,Za ak,Kp.trans KX aj⟩
   ·have dn:¬(ap:Int)=0:=(by omega);have dm:((ap:Int) == 0)=false:=by simp;omega
    go_upto_if 35 with fail
    go_cut [3] from 19 (λs3 wc=>∃ l2:Nat,s3 = E J l2/\l2<=64/\∃ d2:Array α,Hid (dS a' b' dk d2)/\Hid (St wc d2)/\Hid (Kp B X wc))
    case first=>
     cases wb
     ·have C:=Zb (da a' b' dk wr HS be O);unfold lsV at C;go_wp2_with fail;refine C.mono ?_;rintro e w1 ⟨rfl,d2,bc,ab,aa⟩;have bv:=Zb bc;have ak:=Zb ab;have aj:=Zb (Kp.trans HK aa);clear bc ab aa;go_wp2;go_meet
      case rel=>exact⟨ap - 1,by congr 1 <;> omega,by omega,d2,bv,ak,aj⟩
     ·go_wp2_with fail;go_meet
      case rel=>exact⟨ap,rfl,dq,dk,Sort.permIn_refl _ _ _,HS,HK⟩
    case rest=>
     clear cp dn dm c0 c1 en;obtain⟨l2,rfl,bg,d2,am,ah,z⟩:=hcut;have c0:=z.cell af M0;have c1:=z.cell af M1;have en:=aC _ _ c0;have C:=Zb (Zix HH a' b' d2 _ ah (by omega) O);unfold lsV at C
     go_upto_if 50 with (go_at_call 217;refine C.mono ?_;rintro e w2 ⟨x,t,rfl,bh,bi,ht,ae,ad⟩;have al:=Zb ae;have ac:=Zb (Kp.trans z ad);clear ae ad)
     clear c0 c1 en;have c0:=ac.cell af M0;have c1:=ac.cell af M1;have en:=aC _ _ c0
     go_cut [11,12] from 19 (λdv dw wc=>∃ x t:Nat,dv = E J x/\dw = E J t/\a'<=x/\x<b'/\∃ d2:Array α,Hid (dS a' b' dk d2)/\Hid (St wc d2)/\Hid (Kp B X wc))
     case first=>
      by_cases e2:t=2
      ·subst e2;have C:=Zb (db a' b' d2 _ al be O);unfold lsV at C;go_wp2_with fail;refine C.mono ?_;rintro e w1 ⟨rfl,d3,bc,ab,aa⟩;have bv:=Zb (cY _ _ _ _ _ am bc);have ak:=Zb ab;have aj:=Zb (Kp.trans ac aa);clear bc ab aa;go_wp2;go_meet
       case rel=>exact⟨b' - 1 - (x - a'),1,by congr 1 <;> omega,rfl,by omega,by omega,d3,bv,ak,aj⟩
      ·have eg:¬(t:Int)=2:=(by omega);have ef:((t:Int) == 2)=false:=(by simp;omega);go_wp2_with fail;go_meet
       case rel=>exact⟨x,t,rfl,rfl,bh,bi,d2,am,al,ac⟩
     case rest=>
      clear c0 c1 en ht bh bi;obtain⟨x,t,rfl,rfl,bh,bi,d2,am,ah,z⟩:=hcut;have c0:=z.cell af M0;have c1:=z.cell af M1;have en:=aC _ _ c0
      go_upto_region 16 with fail
      go_cut [68] from 19 (λdy wx=>∃ y:Bool,dy = eA y/\wx=wc)
      case first=>
       by_cases e1:t=1
       ·subst e1;cases wb <;> cases wp <;> (go_wp2_with fail;go_meet;exact⟨_,rfl,rfl⟩)
       ·have ee:¬(t:Int)=1:=(by omega);have ed:((t:Int) == 1)=false:=(by simp;omega);cases wb <;> cases wp <;> (go_wp2_with fail;go_meet;exact⟨_,rfl,rfl⟩)
      case rest=>
       obtain⟨y,rfl,rfl⟩:=hcut
       go_upto_if 68 with fail
       go_cut [] from 19 (λwc=>∃ d2:Array α,Hid (dS a' b' dk d2)/\Hid (St wc d2)/\Hid (Kp B X wc))
       case first=>
        cases y
        ·go_wp2_with fail;go_meet
         case rel=>exact⟨d2,am,ah,z⟩
        ·obtain⟨r,hr⟩:=ZF (Sort.partialInsertionSort lt d2 a' b');have C:=Zb (Zdm HH a' b' d2 _ ah (by omega) O r hr);unfold lsV at C;have hq:=Sort.partialInsertionSort_holds HO d2 a' b' (by omega) (by rw[(Za HZ) _ _ (Za ah)];exact O) (Px cf am (by rw[Za bn];exact O));rw[hr] at hq;have HQ:=Zb hq;clear hq hr;obtain⟨r1,r2⟩:=r;cases r2
         ·go_wp2_with fail;refine C.mono ?_;rintro e w1 ⟨rfl,ab,aa⟩;have ak:=Zb ab;have aj:=Zb (Kp.trans z aa);clear ab aa;go_wp2;go_meet
          case rel=>exact⟨r1,cY _ _ _ _ _ am HQ.1,ak,aj⟩
         ·go_wp2_with fail;refine C.mono ?_;rintro e w1 ⟨rfl,ab,aa⟩;have ak:=Zb ab;have aj:=Zb (Kp.trans z aa);clear ab aa;go_wp2;(try simp only[Exit.inBlock,Exit.then]);refine bodyPost_ret (results_none rfl _ _ _) ?_ ?_;focus rfl
          exact⟨rfl,r1,HE.perm am _ HQ.1 (HQ.2 (by first|rfl|trivial)),Za ak,Kp.trans KX aj⟩
       case rest=>
        clear c0 c1 en;obtain⟨d2,am,ah,z⟩:=hcut;have c0:=z.cell af M0;have c1:=z.cell af M1;have en:=aC _ _ c0;have bs:=Zb (HE.perm am);have br:=Zb (Px cf am (by rw[Za bn];exact O));have bk:=Zb (HZ _ _ ah)
        go_upto_region 18 with fail
        go_cut [83] from 19 (λcy wc=>Hid (St wc d2)/\Hid (Kp B X wc)/\((cy = eA true/\0<a'/\Hid (lt d2[a' - 1]! d2[x]! = false))\/cy = eA false))
        case first=>
         by_cases ca:0<a'
         ·have di:decide ((0:Int)<(a':Int))=true:=decide_eq_true (by omega);have hl:=HH.less _ d2 (a' - 1) x ah (by omega) (by omega);rw[show (((a' - 1:Nat):Int))=(a':Int) - 1 by omega] at hl;cases hlv:lt d2[a' - 1]! d2[x]! with
          | true=>
           rw[hlv] at hl;clear hlv
           go_wp2_with (go_at_fn g;refine hl.mono ?_;rintro e w' ⟨rfl,ae,ad⟩;have al:=Zb ae;have ac:=Zb (Kp.trans z ad);clear ae ad)
           go_meet;exact⟨al,ac,Or.inr rfl⟩
          | false=>
           rw[hlv] at hl;have HL:=Zb hlv;clear hlv
           go_wp2_with (go_at_fn g;refine hl.mono ?_;rintro e w' ⟨rfl,ae,ad⟩;have al:=Zb ae;have ac:=Zb (Kp.trans z ad);clear ae ad)
           go_meet;exact⟨al,ac,Or.inl ⟨rfl,ca,HL⟩⟩
         ·have di:decide ((0:Int)<(a':Int))=false:=decide_eq_false (by omega);go_wp2_with fail;go_meet;exact⟨ah,z,Or.inr rfl⟩
        case rest=>
         clear c0 c1 en;obtain⟨ah,z,dr⟩:=hcut;have c0:=z.cell af M0;have c1:=z.cell af M1;have en:=aC _ _ c0
         rcases dr with ⟨rfl,ca,HL⟩|rfl
         ·have C:=Zb (Zhy HH a' b' x d2 _ ah bh bi O);unfold lsV at C;go_wp2_with fail;refine C.mono ?_;rintro e w3 ⟨mid,d4,rfl,hq,ae,ad⟩;have q2:=Zoz HO br ca HL hq (by rw[Za bk];exact O);have cq:=hq.lo;have ct:=hq.hi;have HQ:=Zb q2;have al:=Zb ae;have ac:=Zb (Kp.trans z ad);clear q2 hq ae ad;go_wp2
          go_roundg (b' - mid)
          case measure=>omega
          case rel=>exact⟨mid,b',l2,wb,wp,d4,rfl,rfl,rfl,rfl,rfl,ct,O,aE _,by omega,bg,HQ.1,bs.on HQ.2,al,ac⟩
         ·have C:=Zb (Zoa HH a' b' x d2 _ ah bh bi O);unfold lsV at C
          go_upto_if 109 with (go_at_call 221;refine C.mono ?_;rintro e w3 ⟨mid,eo,d4,rfl,hq,ae,ad⟩;have cq:=hq.lo;have ct:=hq.hi;have al:=Zb ae;have ac:=Zb (Kp.trans z ad);clear ae ad)
          have co:=Zba br hq (by rw[Za bk];exact O);have HQ:=Zb hq;have ce:=Zb co;clear hq co c0 c1 en;have c0:=ac.cell af M0;have c1:=ac.cell af M1;have en:=aC _ _ c0;by_cases h4:mid - a'<b' - mid
          ·have dh:(mid:Int) - (a':Int)<(b':Int) - (mid:Int):=(by omega);have C:=Zb (IH (mid - a') (by omega) a' mid l2 d4 w3 al cq (by omega) (aE _) bg ce.1);unfold lsV at C;go_wp2_with fail;refine C.mono ?_;rintro e w4 ⟨rfl,d5,av,bd,bb⟩;have az:=Zb (Zob HO HQ (by rw[Za bk];exact O) av.1 av.2);have bw:=Zb bd;have bt:=Zb (Kp.trans ac bb);clear av bd bb;go_wp2
           go_roundg (b' - (mid+1))
           case measure=>omega
           case rel=>exact⟨mid+1,b',l2,_,eo,d5,by go_num,rfl,rfl,rfl,rfl,by omega,O,aE _,by omega,bg,az.1,bs.on az.2,bw,bt⟩
          ·have dh:¬(mid:Int) - (a':Int)<(b':Int) - (mid:Int):=(by omega);have C0:=IH (b' - (mid+1)) (by omega) (mid+1) b' l2 d4 w3 al (by omega) O (aE _) bg ce.2;rw[show ((mid+1:Nat):Int)=(mid:Int)+1 by omega] at C0;unfold lsV at C0;have C:=Zb C0;clear C0;go_wp2_with fail;refine C.mono ?_;rintro e w4 ⟨rfl,d5,av,bd,bb⟩;have az:=Zb (Zld HO br HQ (by rw[Za bk];exact O) av.1 av.2);have bw:=Zb bd;have bt:=Zb (Kp.trans ac bb);clear av bd bb;go_wp2
           go_roundg (mid - a')
           case measure=>omega
           case rel=>exact⟨a',mid,l2,_,eo,d5,rfl,rfl,rfl,rfl,rfl,by omega,by omega,aE _,by omega,bg,az.1,bs.on az.2,bw,bt⟩
end
theorem Zlm(z O v:Int)(lk)(hh:Int)(rr:Bool) :
  (okC (z,O,v,lk,hh,rr)=false/\(z<1\/¬z<1/\120<z\/¬z<1/\¬120<z/\O<0\/¬z<1/\¬120<z/\¬O<0/\5<O\/¬z<1/\¬120<z/\¬O<0/\¬5<O/\v<1\/¬z<1/\¬120<z/\¬O<0/\¬5<O/\¬v<1/\1000000000<v \/
   ¬z<1/\¬120<z/\¬O<0/\¬5<O/\¬v<1/\¬1000000000<v/\hh<1\/¬z<1/\¬120<z/\¬O<0/\¬5<O/\¬v<1/\¬1000000000<v/\¬hh<1/\1000<hh)) \/
  (okC (z,O,v,lk,hh,rr)=true/\¬z<1/\¬120<z/\¬O<0/\¬5<O/\¬v<1/\¬1000000000<v/\¬hh<1/\¬1000<hh):=by
 have e:okC (z,O,v,lk,hh,rr)=true↔((1<=z/\z<=120)/\(0<=O/\O<=5))/\(1<=v/\v<=1000000000)/\(1<=hh/\hh<=1000):=by
  unfold okC Zoi okV okH pt cv ch;rw[bL,bL,bL,bL,bL,bL,bL]
  exact⟨λ⟨⟨⟨a,b⟩,c,d⟩,⟨e,f⟩,g,h⟩=>⟨⟨⟨of_decide_eq_true a,of_decide_eq_true b⟩,of_decide_eq_true c,of_decide_eq_true d⟩,⟨of_decide_eq_true e,of_decide_eq_true f⟩,of_decide_eq_true g,of_decide_eq_true h⟩,
   λ⟨⟨⟨a,b⟩,c,d⟩,⟨e,f⟩,g,h⟩=>⟨⟨⟨decide_eq_true a,decide_eq_true b⟩,decide_eq_true c,decide_eq_true d⟩,⟨decide_eq_true e,decide_eq_true f⟩,decide_eq_true g,decide_eq_true h⟩⟩
 cases q:okC (z,O,v,lk,hh,rr) with
 | true=>
  have:=e.1 q;refine .inr ⟨rfl,?_⟩;omega
 | false=>
  have:¬(((1<=z/\z<=120)/\(0<=O/\O<=5))/\(1<=v/\v<=1000000000)/\(1<=hh/\hh<=1000)):=λh=>by rw[e.2 h] at q;cases q
  refine .inl ⟨rfl,?_⟩;omega
theorem H9(p q:PtD)(o:Bool)(w:World)(ho:lt p q=o) :
  ZH 70 #[.agg #[E J p.1,E J p.2],.agg #[E J q.1,E J q.2]] w (eA o):=by
 subst ho;obtain⟨z,O⟩:=p;obtain⟨q1,q2⟩:=q;simp only;have HB:=Zb (Ze (Zg w (dW #[E J z,E J O] 99)) (Zg _ (dW #[E J q1,E J q2] 99)));by_cases e1:z<q1
 ·have R:Hid (lt (z,O) (q1,q2)=true):=(Qu _ _).2 (.inl e1);go_enter func70,ntmps70;go_wp2;go_ret;exact⟨by rw[Za R];rfl,Za HB⟩
 ·by_cases e2:z=q1
  ·subst e2;clear e1;by_cases e3:O<q2
   ·have R:Hid (lt (z,O) (z,q2)=true):=(Qu _ _).2 (.inr ⟨rfl,e3⟩);go_enter func70,ntmps70;go_wp2;go_ret;exact⟨by rw[Za R];rfl,Za HB⟩
   ·have R:Hid (lt (z,O) (z,q2)=false):=by
     show _=_;rw[<-cS,Qu];rintro (h|⟨_,h⟩)
     ·simp at h
     ·exact e3 h
    go_enter func70,ntmps70;go_wp2;go_ret;exact⟨by rw[Za R];rfl,Za HB⟩
  ·have R:Hid (lt (z,O) (q1,q2)=false):=by
    show _=_;rw[<-cS,Qu];rintro (h|⟨h,_⟩)
    ·exact e1 h
    ·exact e2 h
   have g2:(z == q1)=false:=(by simp[e2]);clear e2;go_enter func70,ntmps70;go_wp2;go_ret;exact⟨by rw[Za R];rfl,Za HB⟩
theorem Zan(b off n c:Nat)(L:List Zf)(w:World)(hn:n<=720)(hz:L.length=n)(hc:∀ i (h:i<L.length),CoinAt w b (off+i*6) L[i]) :
  ZH 29 #[F (some ⟨b,off,none⟩) n c] w (E J (Yv none 0 L)):=by
 have HC:=Zb hc;have HZ:=Zb hz;clear hc hz;go_enter func29,ntmps29;go_wp2
 go_loopw [3,12] (λsv i wr=>∃ (k:Nat) (S:Int),k<=n/\i = E J k/\sv = E J S/\0<=S/\S<=1000000000/\Hid (Yv none 0 L=Yv (Vs L k) S (L.drop k))/\ZD w wr) (λ_ i _=>n - (aV i).toNat)
 case atStart=>exact⟨0,0,Nat.zero_le _,rfl,rfl,by decide,by decide,rfl,Below.refl _ _⟩
 case round=>
  obtain⟨k,S,hk,rfl,rfl,dc,dd,A,hb⟩:=hrel;have HB:=Zb hb;by_cases cq:k<n
  ·have az:k<L.length:=(by rw[Za HZ];exact cq);have aw:=CoinAt.kept _ _ _ _ _ hb (HC k az);have ST:=Zb (Zgk L k az (Vs L k) S)
   have HL:Hid (∀ j,k=j+1->∃ q,Vs L k=some (pt q)/\CoinAt wr b (off+j*6) q):=λj hj=>by
    have bj:j<L.length:=(by omega);exact⟨L[j],by rw[hj];exact Ri L j bj,CoinAt.kept _ _ _ _ _ hb (HC j bj)⟩
   have HN:Hid (k+1<=L.length->Vs L (k+1)=some (pt L[k])):=λ_=>Ri L k az;obtain⟨x,hx⟩:=ZF (L[k]);rw[hx] at aw ST HN;have A2:Hid (Yv none 0 L=if ck1 x≠0 then ck1 x else if Tw (Vs L k) x=false then 6 else if 1000000000<S+cv x then 12 else Yv (some (pt x)) (S+cv x) (L.drop (k+1))):=(by show _=_;rw[Za A,Za ST]);have PN:Hid (Vs L (k+1)=some (pt x)):=HN az;obtain⟨x1,x2,v,lk,hh,rr⟩:=x;obtain⟨a,m,d,g1,g2,g3,g4,g5,g6,hO,_⟩:=aw.val;simp only[cv,ck,ch,cr] at g1 g2 g3 g4 g5 g6 hO A2;obtain⟨X,hX⟩:=ZG (wr.alloc (dW #[E J x1,E J x2,E J v,F a m d,E J hh,eA rr] 103));obtain⟨n0,n1,n2,n3,n4,n5⟩:=T8 wr (E J x1) (E J x2) (E J v) (F a m d) (E J hh) (eA rr) 103;rw[<-hX] at n0 n1 n2 n3 n4 n5;have ay:ZD wr X:=(by rw[hX];exact Zg _ _);have dm:wr.heap.size<X.heap.size:=aC _ _ n0;have aq:=Zb ay;have HO:=Zb (hO.later ay);have N0:=Zb n0;have N1:=Zb n1;have N2:=Zb n2;have HX:=Zb hX
   rcases Zlm x1 x2 v lk hh rr with ⟨q0,z⟩|⟨q0,q1,q2,q3,q4,q5,q6,q7,q8⟩
   ·have R:Hid (Yv none 0 L=3):=by
     have e:ck1 (x1,x2,v,lk,hh,rr)=3:=(by unfold ck1;rw[if_pos q0]);show _=_;rw[Za A2,e];rfl
    have cj:=Zb (Ze HB aq);clear A hx aw hO hb hX q0
    rcases z with z|z|z|z|z|z|z|z
    all_goals
     try obtain⟨q1,z⟩:=z
     try obtain⟨q2,z⟩:=z
     try obtain⟨q3,z⟩:=z
     try obtain⟨q4,z⟩:=z
     try obtain⟨q5,z⟩:=z
     try obtain⟨q6,z⟩:=z
     try obtain⟨q7,z⟩:=z
     go_wp2_with fail;rw[<-Za HX];go_wp2;go_ret;exact⟨by rw[Za R];rfl,Za cj⟩
   have ce:ck1 (x1,x2,v,lk,hh,rr)=chk lk:=(by unfold ck1;rw[if_neg (by rw[q0];decide)];rfl);rw[ce] at A2;obtain⟨ds,hz⟩:=ZF (chk lk);have C1:=Zb (Rh a m d lk X HO);rw[hz] at A2 C1;clear ce;by_cases bb:ds=0
   ·subst bb
    have A3:Hid (Yv none 0 L=if Tw (Vs L k) (x1,x2,v,lk,hh,rr)=false then 6 else if 1000000000<S+v then 12 else Yv (some (pt (x1,x2,v,lk,hh,rr))) (S+v) (L.drop (k+1))):=by
     have h:=Za A2;rw[if_neg (by decide)] at h;exact h
    clear A hx aw hO hb hz hX q0;by_cases al:k=0
    ·have A4:Hid (Yv none 0 L=if 1000000000<S+v then 12 else Yv (some (pt (x1,x2,v,lk,hh,rr))) (S+v) (L.drop (k+1))):=by
      have h:=Za A3;rw[al] at h;rw[if_neg (by show ¬true=false;decide)] at h;rw[al];exact h
     have hg:decide ((0:Int)<(k:Int))=false:=(by rw[al];decide);have df:decide (0<k)=false:=(by rw[al];decide);clear al;go_wp2_with fail;rw[<-Za HX];go_wp2_with fail;refine C1.mono ?_;rintro e w2 ⟨rfl,O⟩;have m2:=Zc O N2;have ci:wr.heap.size<w2.heap.size:=aC _ _ m2;have af:=Zb (Ze (Ze HB aq) O);clear O;go_wp2_with fail
     go_quiet (fail)
     by_cases hf:1000000000<S+v
     ·have R:Hid (Yv none 0 L=12):=(by show _=_;rw[Za A4,if_pos hf]);go_wp2;go_ret;exact⟨by rw[Za R];rfl,Ze af (H8 _ _)⟩
     ·have R:Hid (Yv none 0 L=Yv (Vs L (k+1)) (S+v) (L.drop (k+1))):=(by show _=_;rw[Za A4,if_neg hf,Za PN]);go_wp2;go_roundw
      case rel=>exact⟨k+1,S+v,by omega,by go_num,rfl,by omega,by omega,R,Ze af (H8 _ _)⟩
      case measure=>simp[aV];omega
    ·obtain⟨j,rfl⟩:∃ j,k=j+1:=⟨k - 1,by omega⟩;obtain⟨q,hq,cg⟩:=HL j rfl;obtain⟨_,_,_,q1,q2,_,_,_,_,_,_⟩:=cg.val
     have A5:Hid (Yv none 0 L=if lt (pt q) (pt (x1,x2,v,lk,hh,rr))=false then 6 else if 1000000000<S+v then 12 else Yv (some (pt (x1,x2,v,lk,hh,rr))) (S+v) (L.drop (j+1+1))):=by
      have h:=Za A3;rw[hq] at h;exact h
     have Q1:=Zb (Zc ay q1);have Q2:=Zb (Zc ay q2);have G:Hid (decide ((0:Int)<((j+1:Nat):Int))=true):=(by show _=_;simp);have dh:(j:Int)<(n:Int):=(by omega);have dp:IntKind.i64.wrap (j:Int)=(j:Int):=(by rw[bF];omega);have dq:IntKind.i64.wrap ((j:Int)+1 - 1)=(j:Int):=(by rw[bF];omega);have bj:j<n:=(by omega);have dg:(0:Int)<=(j:Int):=(by omega);have dn:IntKind.i64.wrap (((j+1:Nat):Int) - 1)=(j:Int):=(by rw[bF];omega);clear al hq cg q1 q2;cases hl:lt (pt q) (pt (x1,x2,v,lk,hh,rr)) with
     | false=>
      have R:Hid (Yv none 0 L=6):=(by show _=_;rw[Za A5,if_pos hl]);have CC:=Zb (λw=>H9 (pt q) (pt (x1,x2,v,lk,hh,rr)) false w hl);unfold pt at CC;simp only at CC;clear hl;go_wp2_with fail;rw[<-Za HX];go_wp2_with fail;refine C1.mono ?_;rintro e w2 ⟨rfl,O⟩;have m0:=Zc O N0;have m1:=Zc O N1;have p0:=Zc O Q1;have p1:=Zc O Q2;have ci:wr.heap.size<w2.heap.size:=aC _ _ m0;have af:=Zb (Ze (Ze HB aq) O);clear O n0 n1 n2 g1 g2 g3 g4 g5 g6;have hG:=Za G;go_wp2_with fail
      go_region_held3 (λw'=>ZD w2 w'/\w'.cell? ⟨wr.heap.size,0,none⟩=some (E J x1)/\w'.cell? ⟨wr.heap.size,1,none⟩=some (E J x2)/\w'.cell? ⟨b,off+j*6,none⟩=some (E J q.1)/\w'.cell? ⟨b,off+j*6+1,none⟩=some (E J q.2.1))
       (first
       | exact⟨Zh _,m0,m1,p0,p1⟩
       | (go_split_ands;refine⟨Ze (by assumption) ae,Zc ae (by assumption),Zc ae (by assumption),Zc ae (by assumption),Zc ae (by assumption)⟩))
       (first|(go_at_call 70;refine (CC _).mono ?_;rintro e w' ⟨rfl,ae⟩))
      rename_i hH;have HH:=Zb (Ze af hH.1);clear hH;go_wp2;go_ret;exact⟨by rw[Za R];rfl,Za HH⟩
     | true=>
      have A4:Hid (Yv none 0 L=if 1000000000<S+v then 12 else Yv (some (pt (x1,x2,v,lk,hh,rr))) (S+v) (L.drop (j+1+1))):=by
       have h:=Za A5;rw[if_neg (by rw[hl];decide)] at h;exact h
      have CC:=Zb (λw=>H9 (pt q) (pt (x1,x2,v,lk,hh,rr)) true w hl);unfold pt at CC;simp only at CC;clear hl;go_wp2_with fail;rw[<-Za HX];go_wp2_with fail;refine C1.mono ?_;rintro e w2 ⟨rfl,O⟩;have m0:=Zc O N0;have m1:=Zc O N1;have M2:=Zb (Zc O N2);have p0:=Zc O Q1;have p1:=Zc O Q2;have ci:wr.heap.size<w2.heap.size:=aC _ _ m0;have af:=Zb (Ze (Ze HB aq) O);clear O n0 n1 n2 g1 g2 g3 g4 g5 g6;have hG:=Za G;go_wp2_with fail
      go_region_held3 (λw'=>ZD w2 w'/\w'.cell? ⟨wr.heap.size,0,none⟩=some (E J x1)/\w'.cell? ⟨wr.heap.size,1,none⟩=some (E J x2)/\w'.cell? ⟨b,off+j*6,none⟩=some (E J q.1)/\w'.cell? ⟨b,off+j*6+1,none⟩=some (E J q.2.1))
       (first
       | exact⟨Zh _,m0,m1,p0,p1⟩
       | (go_split_ands;refine⟨Ze (by assumption) ae,Zc ae (by assumption),Zc ae (by assumption),Zc ae (by assumption),Zc ae (by assumption)⟩))
       (first|(go_at_call 70;refine (CC _).mono ?_;rintro e w' ⟨rfl,ae⟩))
      rename_i hH;have HH:=Zb (Ze af hH.1);have m2:=Zc hH.1 M2;have dl:=aC _ _ m2;clear hH;by_cases hf:1000000000<S+v
      ·have R:Hid (Yv none 0 L=12):=(by show _=_;rw[Za A4,if_pos hf]);go_wp2;go_ret;exact⟨by rw[Za R];rfl,Za HH⟩
      ·have R:Hid (Yv none 0 L=Yv (Vs L (j+1+1)) (S+v) (L.drop (j+1+1))):=(by show _=_;rw[Za A4,if_neg hf,Za PN]);go_wp2;go_roundw
       case rel=>exact⟨j+1+1,S+v,by omega,by go_num,rfl,by omega,by omega,R,Za HH⟩
       case measure=>simp[aV];omega
   ·have R:Hid (Yv none 0 L=ds):=(by show _=_;rw[Za A2,if_pos bb]);have gz:(ds != 0)=true:=(by simp[bb]);clear A hx aw hO hb hz hX bb q0;go_wp2_with fail;rw[<-Za HX];go_wp2_with fail;refine C1.mono ?_;rintro e w2 ⟨rfl,O⟩;have af:=Zb (Ze (Ze HB aq) O);clear O;go_wp2;go_ret;exact⟨by rw[Za R];rfl,Za af⟩
  ·have R:Hid (Yv none 0 L=0):=(by show _=_;rw[Za A,Zch L k (by rw[Za HZ];omega)]);clear A hb;go_wp2;go_ret;exact⟨by rw[Za R];rfl,Za HB⟩
theorem Zap(a)(n c:Nat)(w)(h:720<n) :
  Calls aB 29 #[F a n c] w λe w'=>e = dX (E J 2)/\w=w':=by
 go_enter func29,ntmps29;go_wp2;go_ret;exact⟨rfl,rfl⟩
theorem Zao(a c)(w) :
  Calls aB 29 #[F a 0 c] w λe w'=>e = dX (E J 0)/\w=w':=by
 go_enter func29,ntmps29;go_wp2;refine wp_loop_rounds 1 ?_;rw[rounds_succ];go_wp2;go_ret;exact⟨rfl,rfl⟩
theorem Qq(a n c L)(ad:Int)(w:World)(h:CoinsAt w a n L)(hz:Zo L=ad) :
  ZH 29 #[F a n c] w (E J ad):=by
 subst hz;obtain⟨z,hc⟩:=h;unfold Zo;rw[z];by_cases h1:720<n
 ·rw[if_pos h1];exact (Zap a n c w h1).mono λe w' ⟨x,y⟩=>⟨x,y ▸ Below.refl _ _⟩
 ·rw[if_neg h1];by_cases h2:n=0
  ·subst h2;have e:L=[]:=List.length_eq_zero_iff.1 z;subst e;exact (Zao a c w).mono λe w' ⟨x,y⟩=>⟨x,y ▸ Below.refl _ _⟩
  ·obtain⟨b,off,rfl,_,ab⟩:=hc (by omega);exact Zan b off n c L w (by omega) z ab
