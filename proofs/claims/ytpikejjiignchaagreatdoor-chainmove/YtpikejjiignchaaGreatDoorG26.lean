import Derived.Test.YtpikejjiignchaaGreatDoorH
import Derived.Test.YtpikejjiignchaaGreatDoorG25
open Go.Proofs.Tryz
open Bool renaming noConfusion->dE
open Go renaming bodyPost_ret->aR,wp_loop_rounds->aQ,rounds_succ->aL
open Go.Ending renaming returned->dX
open Go.IntKind renaming i64->J
open Go.Obj renaming cells->dW
open Go.Proofs renaming intOf->aV
open Go.Proofs.Tryz renaming prog->aB
open Go.Sort renaming swp->bM,PermIn->dS,permIn_trans->cY
open Go.Value renaming int->E,tuple->dY,pointer->dZ,bool->eA
open Go.World renaming block_lt_of_cell?->aC
open Nat renaming le_refl->aE,le_trans->aT,lt_of_lt_of_le->aI
set_option maxHeartbeats 12800000
set_option maxRecDepth 10000
namespace Go.Proofs.YtpikejjiignchaaGreatDoor
open Go.RowKit
theorem Zqt{α : Type}[Inhabited α]{g:Nat}{lb}{sf:Nat}{sb}{lt : α -> α->Bool}{n B:Nat}{St:World->Array α->Prop}(H:Sr aB g lb sf sb lt n B St)
  (a b:Nat) (d:Array α) (w) (h:St w d) (be:a<=b) (hb:b<=n) :
  Calls aB 214 #[lsV g lb sf sb,E J a,E J b] w λe w'=>e = dX (dY #[])/\St w' (Sort.insertionSort lt d a b)/\Kp B w w':=by
 unfold lsV Sort.insertionSort;have hn:=H.small;have eg:=H.enters;have aq:=H.low _ _ h;obtain⟨N0,N1⟩:=Ug w (.func (.func g) #[] lb) (.func (.func sf) #[] sb) 272;have SX:=Zb (H.alloc w d (dW #[.func (.func g) #[] lb,.func (.func sf) #[] sb] 272) h);have KX:=Zb (Kp.alloc B w (dW #[.func (.func g) #[] lb,.func (.func sf) #[] sb] 272));have HH:=Zb H;clear H h;go_enter func214,ntmps214;go_wp2;generalize w.alloc (dW #[.func (.func g) #[] lb,.func (.func sf) #[] sb] 272)=X at *;have M0:=Zb N0;have M1:=Zb N1;clear N0 N1
 go_loopw [6] (λs6 wr=>∃ (i:Nat) (dk:Array α),s6 = E J i/\a<i/\i<=b+1/\Hid (Sort.insOuter lt a b i dk=Sort.insOuter lt a b (a+1) d)/\Hid (St wr dk)/\Hid (Kp B X wr)) (λs6 _=>b+1 - (aV s6).toNat)
 case atStart=>exact⟨a+1,d,by go_num,by omega,by omega,rfl,SX,Kp.refl _ _⟩
 case round=>
  obtain⟨i,dk,rfl,bf,bi,HO,HS,O⟩:=hrel;by_cases ai:i<b
  ·go_wp2_with fail
   go_loopw [7] (λs7 ar=>∃ (j:Nat) (z:Array α),s7 = E J j/\a<=j/\j<=i/\Hid (Sort.insInner lt a j z=Sort.insInner lt a i dk)/\Hid (St ar z)/\Hid (Kp B X ar)) (λs7 _=>(aV s7).toNat)
   case atStart=>exact⟨i,dk,rfl,by omega,aE _,rfl,HS,O⟩
   case round=>
    obtain⟨j,z,rfl,bg,bj,HI,HS,O⟩:=hrel;have c0:=O.cell aq M0;have bn:=aC _ _ c0;by_cases bb:a<j
    ·have hl:=HH.less wr z j (j - 1) HS (by omega) (by omega);rw[show (((j - 1:Nat):Int))=(j:Int) - 1 by omega] at hl;cases hlv:lt z[j]! z[j - 1]! with
     | true=>
      rw[hlv] at hl;have HL:=Zb hlv;clear hlv
      go_wp2_with (go_at_fn g;refine hl.mono ?_;rintro e w' ⟨rfl,ac,ab⟩;have ae:=Zb (Kp.trans O ab);have c1:=ae.cell aq M1;obtain⟨w3,hs,ap,ao⟩:=HH.swap w' z j (j - 1) ac (by omega) (by omega);have aw:=Zb ap;have au:=Zb (Kp.trans ae ao);clear ac ab ap ao;rw[show (((j - 1:Nat):Int))=(j:Int) - 1 by omega] at hs)
      go_roundw
      case rel=>exact⟨j - 1,bM z j (j - 1),by congr 1 <;> omega,by omega,by omega,by show _=_;rw[<-Za HI,Zbl lt a j z bb (Za HL)],aw,au⟩
      case measure=>simp[aV];omega
     | false=>
      rw[hlv] at hl;have HL:=Zb hlv;clear hlv
      go_wp2_with (go_at_fn g;refine hl.mono ?_;rintro e w' ⟨rfl,ac,ab⟩;have ae:=Zb (Kp.trans O ab);have av:=Zb ac;clear ac ab)
      go_roundw
      case rel=>exact⟨i+1,z,by go_num,by omega,by omega,by show _=_;rw[<-Za HO,Kv _ _ _ _ _ ai,<-Za HI,Gn _ _ _ _ (Or.inr (Za HL))],av,ae⟩
      case measure=>simp[aV];omega
    ·go_wp2;go_roundw
     case rel=>exact⟨i+1,z,by go_num,by omega,by omega,by show _=_;rw[<-Za HO,Kv _ _ _ _ _ ai,<-Za HI,Gn _ _ _ _ (Or.inl (by omega))],HS,O⟩
     case measure=>simp[aV];omega
  ·go_wp2_with fail;go_end0;exact⟨rfl,by rw[<-Za HO,Cd _ _ _ _ _ ai];exact Za HS,Kp.trans KX O⟩
theorem Zki{α : Type}[Inhabited α](lt : α -> α->Bool)(hi first z:Nat)(d:Array α)(h:hi<=2*z+1):Sort.siftDown lt hi first z d=d:=by
 rw[Sort.siftDown,dif_pos h]
theorem Ez{α : Type}[Inhabited α](lt : α -> α->Bool)(hi first z:Nat)(d:Array α)(h:2*z+2<hi)(O:lt d[first+(2*z+1)]! d[first+(2*z+1)+1]! = true) :
  Sort.siftDown lt hi first z d=if lt d[first+z]! d[first+(2*z+2)]! then Sort.siftDown lt hi first (2*z+2) (bM d (first+z) (first+(2*z+2))) else d:=by
 rw[Sort.siftDown,dif_neg (by omega),if_pos (by simp[O];omega),dif_pos h];cases lt d[first+z]! d[first+(2*z+2)]! <;> rfl
theorem Ga{α : Type}[Inhabited α](lt : α -> α->Bool)(hi first z:Nat)(d:Array α)(h:2*z+1<hi)(O:hi<=2*z+2\/lt d[first+(2*z+1)]! d[first+(2*z+1)+1]! = false) :
  Sort.siftDown lt hi first z d=if lt d[first+z]! d[first+(2*z+1)]! then Sort.siftDown lt hi first (2*z+1) (bM d (first+z) (first+(2*z+1))) else d:=by
 rw[Sort.siftDown,dif_neg (by omega),if_neg]
 ·cases lt d[first+z]! d[first+(2*z+1)]! <;> rfl
 ·rcases O with q|q
  ·simp;omega
  ·simp[q]
theorem Zfg{α : Type}[Inhabited α]{g:Nat}{lb}{sf:Nat}{sb}{lt : α -> α->Bool}{n B:Nat}{St:World->Array α->Prop}(H:Sr aB g lb sf sb lt n B St)
  (lo hi first:Nat) (d:Array α) (w) (h:St w d) (hb:first+hi<=n) (bk:lo<=n) :
  Calls aB 241 #[lsV g lb sf sb,E J lo,E J hi,E J first] w λe w'=>e = dX (dY #[])/\St w' (Sort.siftDown lt hi first lo d)/\Kp B w w':=by
 unfold lsV;have hn:=H.small;have eg:=H.enters;have an:=H.low _ _ h;obtain⟨N0,N1⟩:=Ug w (.func (.func g) #[] lb) (.func (.func sf) #[] sb) 272;have SX:=Zb (H.alloc w d (dW #[.func (.func g) #[] lb,.func (.func sf) #[] sb] 272) h);have KX:=Zb (Kp.alloc B w (dW #[.func (.func g) #[] lb,.func (.func sf) #[] sb] 272));have HH:=Zb H;clear H h;go_enter func241,ntmps241;go_wp2;generalize w.alloc (dW #[.func (.func g) #[] lb,.func (.func sf) #[] sb] 272)=X at *;have M0:=Zb N0;have M1:=Zb N1;clear N0 N1
 go_loopw [8] (λs8 wr=>∃ (z:Nat) (dk:Array α),s8 = E J z/\z<=n/\Hid (Sort.siftDown lt hi first z dk=Sort.siftDown lt hi first lo d)/\Hid (St wr dk)/\Hid (Kp B X wr)) (λs8 _=>n+1 - (aV s8).toNat)
 case atStart=>exact⟨lo,d,rfl,bk,rfl,SX,Kp.refl _ _⟩
 case round=>
  obtain⟨z,dk,rfl,bw,HO,HS,HK⟩:=hrel;have c0:=HK.cell an M0;have bx:=aC _ _ c0;obtain⟨c,hc⟩:∃ c:Nat,c=2*z+1:=⟨_,rfl⟩;have br:2*(z:Int)+1=(c:Int):=by omega
  have bv:z<c:=by omega
  have HC:=Zb hc;clear hc;by_cases bs:hi<=c
  ·go_wp2_with fail;go_end0;exact⟨rfl,by rw[<-Za HO,Zki _ _ _ _ _ (by have:=Za HC;omega)];exact Za HS,Kp.trans KX HK⟩
  ·
   by_cases bt:c+1<hi
   ·have hl:=HH.less wr dk (first+c) (first+c+1) HS (by omega) (by omega);rw[show (((first+c+1:Nat):Int))=(first:Int)+c+1 by omega,show (((first+c:Nat):Int))=(first:Int)+c by omega] at hl;cases hlv:lt dk[first+c]! dk[first+c+1]! with
    | true=>
     rw[hlv] at hl;have HL:=Zb hlv;clear hlv;go_wp2_with fail;refine hl.mono ?_;rintro e w2 ⟨rfl,ak,av⟩;have ai:=Zb (Kp.trans HK av);have bi:=Zb ak;have bb:=ai.cell an M0;have O:=HH.less w2 dk (first+z) (first+(c+1)) ak (by omega) (by omega);rw[show (((first+(c+1):Nat):Int))=(first:Int)+(c+1) by omega,show (((first+z:Nat):Int))=(first:Int)+z by omega] at O;have bn:=aC _ _ bb;clear ak av hl c0;cases hlv:lt dk[first+z]! dk[first+(c+1)]! with
     | true=>
      rw[hlv] at O;have ae:=Zb hlv;clear hlv;go_wp2_with fail;refine O.mono ?_;rintro e w3 ⟨rfl,ac,ab⟩;have ad:=Zb (Kp.trans ai ab);have au:=ad.cell an M1;have bg:=aC _ _ au;obtain⟨w4,hs,ag,af⟩:=HH.swap w3 dk (first+z) (first+(c+1)) ac (by omega) (by omega);rw[show (((first+(c+1):Nat):Int))=(first:Int)+(c+1) by omega,show (((first+z:Nat):Int))=(first:Int)+z by omega] at hs;have ar:=Zb ag;have ao:=Zb (Kp.trans ad af);clear ac ab ag af O;go_wp2;go_roundw
      case rel=>exact⟨c+1,_,by go_num,by omega,by show _=_;rw[<-Za HO,Ez lt hi first z dk (by have:=Za HC;omega) (by rw[<-Za HC];exact Za HL),show 2*z+2=c+1 by have:=Za HC;omega,if_pos (Za ae)],ar,ao⟩
      case measure=>simp[aV];omega
     | false=>
      rw[hlv] at O;have ae:=Zb hlv;clear hlv;go_wp2_with fail;refine O.mono ?_;rintro e w3 ⟨rfl,ac,ab⟩;have ad:=Zb (Kp.trans ai ab);have aq:=Zb ac;clear ac ab O;go_wp2;(try simp only[Exit.inBlock,Exit.then]);refine aR (results_none rfl _ _ _) rfl ?_;exact⟨rfl,by rw[<-Za HO,Ez lt hi first z dk (by have:=Za HC;omega) (by rw[<-Za HC];exact Za HL),show 2*z+2=c+1 by have:=Za HC;omega,if_neg (by rw[Za ae];decide)];exact Za aq,Kp.trans KX ad⟩
    | false=>
     rw[hlv] at hl;have HL:=Zb hlv;clear hlv;go_wp2_with fail;refine hl.mono ?_;rintro e w2 ⟨rfl,ak,av⟩;have ai:=Zb (Kp.trans HK av);have bi:=Zb ak;have bb:=ai.cell an M0;have O:=HH.less w2 dk (first+z) (first+c) ak (by omega) (by omega);rw[show (((first+c:Nat):Int))=(first:Int)+c by omega,show (((first+z:Nat):Int))=(first:Int)+z by omega] at O;have bn:=aC _ _ bb;clear ak av hl c0;cases hlv:lt dk[first+z]! dk[first+c]! with
     | true=>
      rw[hlv] at O;have ae:=Zb hlv;clear hlv;go_wp2_with fail;refine O.mono ?_;rintro e w3 ⟨rfl,ac,ab⟩;have ad:=Zb (Kp.trans ai ab);have au:=ad.cell an M1;have bg:=aC _ _ au;obtain⟨w4,hs,ag,af⟩:=HH.swap w3 dk (first+z) (first+c) ac (by omega) (by omega);rw[show (((first+c:Nat):Int))=(first:Int)+c by omega,show (((first+z:Nat):Int))=(first:Int)+z by omega] at hs;have ar:=Zb ag;have ao:=Zb (Kp.trans ad af);clear ac ab ag af O;go_wp2;go_roundw
      case rel=>exact⟨c,_,by go_num,by omega,by show _=_;rw[<-Za HO,Ga lt hi first z dk (by have:=Za HC;omega) (Or.inr (by rw[<-Za HC];exact Za HL)),<-Za HC,if_pos (Za ae)],ar,ao⟩
      case measure=>simp[aV];omega
     | false=>
      rw[hlv] at O;have ae:=Zb hlv;clear hlv;go_wp2_with fail;refine O.mono ?_;rintro e w3 ⟨rfl,ac,ab⟩;have ad:=Zb (Kp.trans ai ab);have aq:=Zb ac;clear ac ab O;go_wp2;(try simp only[Exit.inBlock,Exit.then]);refine aR (results_none rfl _ _ _) rfl ?_;exact⟨rfl,by rw[<-Za HO,Ga lt hi first z dk (by have:=Za HC;omega) (Or.inr (by rw[<-Za HC];exact Za HL)),<-Za HC,if_neg (by rw[Za ae];decide)];exact Za aq,Kp.trans KX ad⟩
   ·have O:=HH.less wr dk (first+z) (first+c) HS (by omega) (by omega);rw[show (((first+c:Nat):Int))=(first:Int)+c by omega,show (((first+z:Nat):Int))=(first:Int)+z by omega] at O;cases hlv:lt dk[first+z]! dk[first+c]! with
    | true=>
     rw[hlv] at O;have ae:=Zb hlv;clear hlv;go_wp2_with fail;refine O.mono ?_;rintro e w3 ⟨rfl,ac,ab⟩;have ad:=Zb (Kp.trans HK ab);have au:=ad.cell an M1;have bg:=aC _ _ au;obtain⟨w4,hs,ag,af⟩:=HH.swap w3 dk (first+z) (first+c) ac (by omega) (by omega);rw[show (((first+c:Nat):Int))=(first:Int)+c by omega,show (((first+z:Nat):Int))=(first:Int)+z by omega] at hs;have ar:=Zb ag;have ao:=Zb (Kp.trans ad af);clear ac ab ag af O;go_wp2;go_roundw
     case rel=>exact⟨c,_,by go_num,by omega,by show _=_;rw[<-Za HO,Ga lt hi first z dk (by have:=Za HC;omega) (Or.inl (by have:=Za HC;omega)),<-Za HC,if_pos (Za ae)],ar,ao⟩
     case measure=>simp[aV];omega
    | false=>
     rw[hlv] at O;have ae:=Zb hlv;clear hlv;go_wp2_with fail;refine O.mono ?_;rintro e w3 ⟨rfl,ac,ab⟩;have ad:=Zb (Kp.trans HK ab);have aq:=Zb ac;clear ac ab O;go_wp2;(try simp only[Exit.inBlock,Exit.then]);refine aR (results_none rfl _ _ _) rfl ?_;exact⟨rfl,by rw[<-Za HO,Ga lt hi first z dk (by have:=Za HC;omega) (Or.inl (by have:=Za HC;omega)),<-Za HC,if_neg (by rw[Za ae];decide)];exact Za aq,Kp.trans KX ad⟩
theorem Zow{α : Type}[Inhabited α]{g:Nat}{lb}{sf:Nat}{sb}{lt : α -> α->Bool}{n B:Nat}{St:World->Array α->Prop}(H:Sr aB g lb sf sb lt n B St)
  (a b:Nat) (d:Array α) (w) (h:St w d) (bg:a+2<=b) (hb:b<=n) :
  Calls aB 215 #[lsV g lb sf sb,E J a,E J b] w λe w'=>e = dX (dY #[])/\St w' (Sort.heapSort lt d a b)/\Kp B w w':=by
 unfold lsV Sort.heapSort;have hn:=H.small;have O:=H.low _ _ h;obtain⟨N0,N1⟩:=Ug w (.func (.func g) #[] lb) (.func (.func sf) #[] sb) 272;have SX:=Zb (H.alloc w d (dW #[.func (.func g) #[] lb,.func (.func sf) #[] sb] 272) h);have KX:=Zb (Kp.alloc B w (dW #[.func (.func g) #[] lb,.func (.func sf) #[] sb] 272));have HH:=Zb H;clear H h;obtain⟨hi,au⟩:∃ hi:Nat,hi=b - a:=⟨_,rfl⟩;have bi:(b:Int) - (a:Int)=(hi:Int):=by omega
 obtain⟨m,hm⟩:∃ m:Nat,m=(hi - 1) / 2:=⟨_,rfl⟩;have bc:((hi:Int) - 1) / 2=(m:Int):=by omega
 have bn:((hi:Int) - 1).tdiv 2=(m:Int):=by rw[Int.tdiv_eq_ediv_of_nonneg (by omega)];exact bc
 rw[<-au,<-hm];have bj:2<=hi:=by omega
 have bk:a+hi<=n:=by omega
 have bo:m<hi:=by omega
 clear hm au;go_enter func215,ntmps215;go_wp2;generalize w.alloc (dW #[.func (.func g) #[] lb,.func (.func sf) #[] sb] 272)=X at *;have M0:=Zb N0;have M1:=Zb N1;clear N0 N1
 go_loopw [9] (λs9 wr=>∃ (k:Nat) (dk:Array α),s9 = E J ((k:Int) - 1)/\k<=hi/\Hid (Sort.heapBuild lt hi a k dk=Sort.heapBuild lt hi a (m+1) d)/\Hid (St wr dk)/\Hid (Kp B X wr)) (λs9 _=>(aV s9+1).toNat)
 case atStart=>exact⟨m+1,d,by congr 1;omega,by omega,rfl,SX,Kp.refl _ _⟩
 case round=>
  obtain⟨k,dk,rfl,bb,HO,HS,z⟩:=hrel;have c0:=z.cell O M0;have c1:=z.cell O M1;have aw:=aC _ _ c0;cases k with
  | zero=>
   have HD:Hid (dk=Sort.heapBuild lt hi a (m+1) d):=Za HO;have bd:¬(0:Int)<=((0:Nat):Int) - 1:=(by omega);go_wp2_with fail
   go_loopw [10] (λam wr=>∃ (k:Nat) (dj:Array α),am = E J ((k:Int) - 1)/\k<=hi/\Hid (Sort.heapPop lt a k dj=Sort.heapPop lt a hi dk)/\Hid (St wr dj)/\Hid (Kp B X wr)) (λam _=>(aV am+1).toNat)
   case atStart=>exact⟨hi,dk,rfl,aE _,rfl,HS,z⟩
   case round=>
    clear c0 c1 aw;obtain⟨k,dj,rfl,bb,HO,HS,z⟩:=hrel;have c0:=z.cell O M0;have c1:=z.cell O M1;have aw:=aC _ _ c0;cases k with
    | zero=>
     have bd:¬(0:Int)<=((0:Nat):Int) - 1:=(by omega);go_wp2_with fail;go_end0;exact⟨rfl,by rw[<-Za HD,<-Za HO];exact Za HS,Kp.trans KX z⟩
    | succ k=>
     have al:((k+1:Nat):Int) - 1=(k:Int):=(by omega);rw[al];obtain⟨w2,hs,ar,aq⟩:=HH.swap wr dj a (a+k) HS (by omega) (by omega);rw[show (((a+k:Nat):Int))=(a:Int)+k by omega] at hs;have ag:=Zb (Kp.trans z aq);have ba:=ag.cell O M0;have bf:=ag.cell O M1;have br:=aC _ _ ba;have C:=Zb (Zfg HH 0 k a (bM dj a (a+k)) w2 ar (by omega) (by omega));unfold lsV at C;clear ar aq c0;go_wp2_with fail;refine C.mono ?_;rintro e w3 ⟨rfl,ae,ad⟩;have ai:=Zb ae;have ah:=Zb (Kp.trans ag ad);clear ae ad;go_wp2;go_roundw
     case rel=>exact⟨k,_,rfl,by omega,by show _=_;rw[<-Za HO];rfl,ai,ah⟩
     case measure=>simp[aV]
  | succ k=>
   have al:((k+1:Nat):Int) - 1=(k:Int):=(by omega);rw[al];have C:=Zb (Zfg HH k hi a dk wr HS (by omega) (by omega));unfold lsV at C;go_wp2_with fail;refine C.mono ?_;rintro e w3 ⟨rfl,ae,ad⟩;have ai:=Zb ae;have ah:=Zb (Kp.trans z ad);clear ae ad;go_wp2;go_roundw
   case rel=>exact⟨k,_,rfl,by omega,by show _=_;rw[<-Za HO];rfl,ai,ah⟩
   case measure=>simp[aV]
structure Kq(B q:Nat)(w w':World):Prop where
 size:w.heap.size<=w'.heap.size
 same:∀ b,B<=b->b≠q->b<w.heap.size->w'.heap[b]? = w.heap[b]?
theorem Kq.refl(B q:Nat)(w):Kq B q w w:=⟨aE _,λ_ _ _ _=>rfl⟩
theorem Kq.trans{B q:Nat}{w1 w2 w3}(h:Kq B q w1 w2)(k:Kq B q w2 w3):Kq B q w1 w3:=
 ⟨aT h.size k.size,λb z hq O=>(k.same b z hq (aI O h.size)).trans (h.same b z hq O)⟩
theorem Kp.but{B q:Nat}{w w'}(h:Kp B w w'):Kq B q w w':=⟨h.size,λb z _ O=>h.same b z O⟩
theorem Kq.set(B q:Nat)(w:World)(v):Kq B q w (w.setCell ⟨q,0,none⟩ v):=
 ⟨by simp[World.setCell],λb _ z _=>Below.heap_setCell w ⟨q,0,none⟩ v b z⟩
theorem Kq.cell{B q:Nat}{w w':World}(h:Kq B q w w'){p:Addr}{v}(O:B<=p.block)(hq:p.block≠q)(z:w.cell? p=some v):w'.cell? p=some v:=by
 have hl:=aC w p z;have e:=h.same p.block O hq hl;simp only[World.cell?] at z ⊢;rw[e];exact z
theorem Kq.all{B q:Nat}{w w1 w2:World}(h:Kp B w w1)(k:Kq B q w1 w2)(hq:w.heap.size<=q):Kp B w w2:=
 ⟨aT h.size k.size,λb z O=>(k.same b z (by omega) (aI O h.size)).trans (h.same b z O)⟩
def Ctr(w:World)(q s:Nat):Prop:=w.cell? ⟨q,0,none⟩=some (E J s)/\w.frozen? ⟨q,0,none⟩=false
theorem Ctr.kp{B q s:Nat}{w w'}(c:Ctr w q s)(h:Kp B w w')(z:B<=q):Ctr w' q s:=
 ⟨h.cell (p:=⟨q,0,none⟩) z c.1,by
  have e:=h.same q z (aC _ _ c.1);have f:=c.2;simp only[World.frozen?] at f ⊢;rw[e];exact f⟩
theorem Hj{α : Type}[Inhabited α]{g:Nat}{lb}{sf:Nat}{sb}{lt : α -> α->Bool}{n B:Nat}{St:World->Array α->Prop}(H:Sr aB g lb sf sb lt n B St)
  (a b q s:Nat) (d:Array α) (w) (h:St w d) (ha:a<n) (hb:b<n) (hq:B<=q) (hs:s<=100) (hc:Ctr w q s) :
  Calls aB 252 #[lsV g lb sf sb,E J a,E J b,dZ (some ⟨q,0,none⟩)] w λe w'=>∃ x y s':Nat,e = dX (dY #[E J x,E J y])/\((x=a/\y=b)\/(x=b/\y=a))/\s'<=s+1/\Ctr w' q s'/\St w' d/\Kq B q w w':=by
 unfold lsV;have hn:=H.small;have eg:=H.enters;have ay:=H.low _ _ h;obtain⟨N0,N1⟩:=Ug w (.func (.func g) #[] lb) (.func (.func sf) #[] sb) 272;have ba:=aC _ _ hc.1;have SX:=H.alloc w d (dW #[.func (.func g) #[] lb,.func (.func sf) #[] sb] 272) h;have KX:=Kp.alloc B w (dW #[.func (.func g) #[] lb,.func (.func sf) #[] sb] 272);have cX:=hc.kp KX hq;have O:=H.less _ d b a SX hb ha;have HH:=Zb H;have KH:=Zb KX;clear H h KX SX hc;cases hlv:lt d[b]! d[a]! with
 | true=>
  rw[hlv] at O;clear hlv;go_enter func252,ntmps252;go_wp2_with fail;refine O.mono ?_;rintro e w2 ⟨rfl,aa,z⟩;obtain⟨c2,f2⟩:=cX.kp z hq;have bc:=aC _ _ c2;have ar:=Zb (HH.store w2 d q 0 (E J ((s+1:Nat):Int)) aa hq);have ap:=Zb (Kq.trans (Kq.trans KH.but z.but) (Kq.set B q w2 (E J ((s+1:Nat):Int))));have am:Hid (Ctr (w2.setCell ⟨q,0,none⟩ (E J ((s+1:Nat):Int))) q (s+1)):=⟨World.cell?_setCell_same _ _ _ c2,by rw[World.frozen?_setCell];exact f2⟩;clear aa z O N0 N1 cX;go_wp2;go_ret2;exact⟨b,a,s+1,rfl,Or.inr ⟨rfl,rfl⟩,aE _,Za am,Za ar,Za ap⟩
 | false=>
  rw[hlv] at O;clear hlv;go_enter func252,ntmps252;go_wp2_with fail;refine O.mono ?_;rintro e w2 ⟨rfl,aa,z⟩;have al:=Zb (cX.kp z hq);have aq:=Zb aa;have ao:=Zb (Kq.trans (q:=q) KH.but z.but);clear aa z O N0 N1 cX;go_wp2;go_ret2;exact⟨a,b,s,rfl,Or.inl ⟨rfl,rfl⟩,by omega,Za al,Za aq,Za ao⟩
theorem Hm{α : Type}[Inhabited α]{g:Nat}{lb}{sf:Nat}{sb}{lt : α -> α->Bool}{n B:Nat}{St:World->Array α->Prop}(H:Sr aB g lb sf sb lt n B St)
  (a b c q s:Nat) (d:Array α) (w) (h:St w d) (ha:a<n) (hb:b<n) (bg:c<n) (hq:B<=q) (hs:s<=90) (hc:Ctr w q s) :
  Calls aB 245 #[lsV g lb sf sb,E J a,E J b,E J c,dZ (some ⟨q,0,none⟩)] w λe w'=>∃ x s':Nat,e = dX (E J x)/\(x=a\/x=b\/x=c)/\s'<=s+3/\Ctr w' q s'/\St w' d/\Kq B q w w':=by
 unfold lsV;have aa:=H.low _ _ h;have br:=aC _ _ hc.1;obtain⟨N0,N1⟩:=Ug w (.func (.func g) #[] lb) (.func (.func sf) #[] sb) 272;have SX:=H.alloc w d (dW #[.func (.func g) #[] lb,.func (.func sf) #[] sb] 272) h;have KX:=Kp.alloc B w (dW #[.func (.func g) #[] lb,.func (.func sf) #[] sb] 272);have cX:=hc.kp KX hq;have C:=Zb (Hj H a b q s d _ SX ha hb hq (by omega) cX);unfold lsV at C;have HH:=Zb H;have KH:=Zb KX;have M0:=Zb N0;have M1:=Zb N1;clear H h KX SX hc cX;go_enter func245,ntmps245;go_wp2_with fail;refine C.mono ?_;rintro e w2 ⟨x1,y1,s1,rfl,bw,bt,c1,ao,z⟩;have m0:=z.cell (p:=⟨w.heap.size,0,none⟩) aa (by show w.heap.size≠q;omega) M0;have m1:=z.cell (p:=⟨w.heap.size,1,none⟩) aa (by show w.heap.size≠q;omega) M1;have ca:=aC _ _ m0;have C2:=Zb (Hj HH y1 c q s1 d _ ao (by omega) bg hq (by omega) c1);unfold lsV at C2;have av:=Zb (Kq.trans KH.but z);have P0:=Zb m0;have P1:=Zb m1;clear N0 N1 z ao c1;go_wp2_with fail;refine C2.mono ?_;rintro e w3 ⟨x2,y2,s2,rfl,bx,bu,c2,ap,O⟩;have n0:=O.cell (p:=⟨w.heap.size,0,none⟩) aa (by show w.heap.size≠q;omega) P0;have n1:=O.cell (p:=⟨w.heap.size,1,none⟩) aa (by show w.heap.size≠q;omega) P1;have cb:=aC _ _ n0;have C3:=Zb (Hj HH x1 x2 q s2 d _ ap (by omega) (by omega) hq (by omega) c2);unfold lsV at C3;have aw:=Zb (Kq.trans av O);clear m0 m1 O ap c2;go_wp2_with fail;refine C3.mono ?_;rintro e w4 ⟨x3,y3,s3,rfl,bz,bv,c3,aq,an⟩;have au:=Zb c3;have ay:=Zb aq
 have ax:=Zb (Kq.trans aw an);clear n0 n1 an aq c3;go_wp2;go_ret;exact⟨y3,s3,rfl,by omega,by omega,Za au,Za ay,Za ax⟩
theorem Hn{α : Type}[Inhabited α]{g:Nat}{lb}{sf:Nat}{sb}{lt : α -> α->Bool}{n B:Nat}{St:World->Array α->Prop}(H:Sr aB g lb sf sb lt n B St)
  (a q s:Nat) (d:Array α) (w) (h:St w d) (ha:a+1<n) (aq:1<=a) (hq:B<=q) (hs:s<=90) (hc:Ctr w q s) :
  Calls aB 244 #[lsV g lb sf sb,E J a,dZ (some ⟨q,0,none⟩)] w λe w'=>∃ x s':Nat,e = dX (E J x)/\(a<=x+1/\x<=a+1)/\s'<=s+3/\Ctr w' q s'/\St w' d/\Kq B q w w':=by
 unfold lsV;have hn:=H.small;have ar:=H.low _ _ h;obtain⟨N0,N1⟩:=Ug w (.func (.func g) #[] lb) (.func (.func sf) #[] sb) 272;have O:=H.alloc w d (dW #[.func (.func g) #[] lb,.func (.func sf) #[] sb] 272) h;have z:=Kp.alloc B w (dW #[.func (.func g) #[] lb,.func (.func sf) #[] sb] 272);have cX:=hc.kp z hq;have C:=Hm H (a - 1) a (a+1) q s d _ O (by omega) (by omega) (by omega) hq hs cX;unfold lsV at C;rw[show (((a - 1:Nat):Int))=(a:Int) - 1 by omega,show (((a+1:Nat):Int))=(a:Int)+1 by omega] at C;have C:=Zb C;have KH:=Zb z;clear H h z O hc cX;go_enter func244,ntmps244;go_wp2_with fail;refine C.mono ?_;rintro e w2 ⟨x1,s1,rfl,aw,av,c1,ac,ab⟩;have ag:=Zb c1;have ai:=Zb ac;have ah:=Zb (Kq.trans KH.but ab);clear N0 N1 ab ac c1;go_wp2;go_ret;exact⟨x1,s1,rfl,by omega,by omega,Za ag,Za ai,Za ah⟩
theorem Zix{α : Type}[Inhabited α]{g:Nat}{lb}{sf:Nat}{sb}{lt : α -> α->Bool}{n B:Nat}{St:World->Array α->Prop}(H:Sr aB g lb sf sb lt n B St)
  (a b:Nat) (d:Array α) (w) (h:St w d) (ec:a+13<=b) (hb:b<=n) :
  Calls aB 217 #[lsV g lb sf sb,E J a,E J b] w λe w'=>∃ x t:Nat,e = dX (dY #[E J x,E J t])/\a<=x/\x<b/\t<=2/\St w' d/\Kp B w w':=by
 unfold lsV;have hn:=H.small;have z:=H.low _ _ h;obtain⟨l,hl⟩:∃ l:Nat,l=b - a:=⟨_,rfl⟩;have eg:(b:Int) - (a:Int)=(l:Int):=by omega
 obtain⟨q,hq⟩:∃ q:Nat,q=l / 4:=⟨_,rfl⟩;have dn:(l:Int) / 4=(q:Int):=by omega
 have el:(l:Int).tdiv 4=(q:Int):=by rw[Int.tdiv_eq_ediv_of_nonneg (by omega)];exact dn
 have ej:4*q<=l:=by omega
 have ek:l<4*q+4:=by omega
 have eh:a+l=b:=by omega
 have ef:13<=l:=by omega
 clear hq hl;obtain⟨N0,N1⟩:=Ug w (.func (.func g) #[] lb) (.func (.func sf) #[] sb) 272;have SX:=H.alloc _ d (dW #[E J 0] 3) (H.alloc w d (dW #[.func (.func g) #[] lb,.func (.func sf) #[] sb] 272) h);have KX:=Kp.trans (Kp.alloc B w (dW #[.func (.func g) #[] lb,.func (.func sf) #[] sb] 272)) (Kp.alloc B _ (dW #[E J 0] 3));have KY:=Kp.alloc B (w.alloc (dW #[.func (.func g) #[] lb,.func (.func sf) #[] sb] 272)) (dW #[E J 0] 3);have m0:=KY.cell z N0;have m1:=KY.cell z N1;have ce:(w.alloc (dW #[.func (.func g) #[] lb,.func (.func sf) #[] sb] 272)).heap.size=w.heap.size+1:=by simp
 have ax:Ctr ((w.alloc (dW #[.func (.func g) #[] lb,.func (.func sf) #[] sb] 272)).alloc (dW #[E J 0] 3)) (w.heap.size+1) 0:=by
  rw[<-ce];exact⟨by rw[World.cell?_alloc_at _ _ _ _ rfl];rfl,World.frozen?_alloc_at _ _ _ _ rfl⟩
 have et:=aC _ _ ax.1;have hi:(a:Int)+(q:Int)=((a+q:Nat):Int):=by omega
 have hj:(a:Int)+(q:Int)*2=((a+q*2:Nat):Int):=by omega
 have hk:(a:Int)+(q:Int)*3=((a+q*3:Nat):Int):=by omega
 obtain⟨i,cb⟩:∃ i:Nat,i=a+q:=⟨_,rfl⟩;obtain⟨j,cc⟩:∃ j:Nat,j=a+q*2:=⟨_,rfl⟩;obtain⟨k,cd⟩:∃ k:Nat,k=a+q*3:=⟨_,rfl⟩;rw[<-cb] at hi;rw[<-cc] at hj;rw[<-cd] at hk;have ee:a+3<=i/\i<j/\j<k/\k<b:=by omega
 have HH:=Zb H;have KH:=Zb KX;have M0:=Zb m0;have M1:=Zb m1;have HS:=Zb SX;have HC:=Zb ax;clear H h SX KX KY N0 N1 ax cb cc cd ce;have A0:=M0;have B0:=M1;have bh:=Zb (Kq.refl B (w.heap.size+1) ((w.alloc (dW #[.func (.func g) #[] lb,.func (.func sf) #[] sb] 272)).alloc (dW #[E J 0] 3)));have eb:(8:Int)<=(l:Int):=by omega
 by_cases h50:50<=l
 ·have dh:(50:Int)<=(l:Int):=by omega
  have C1:=Zb (Hn HH i (w.heap.size+1) 0 d _ HS (by omega) (by omega) (by omega) (by omega) HC);unfold lsV at C1;go_enter func217,ntmps217;go_wp2_with fail;refine C1.mono ?_;rintro e w1 ⟨x1,s1,rfl,dq,dp,aj,ai,O⟩;have ag:=O.cell (p:=⟨w.heap.size,0,none⟩) z (by show w.heap.size≠w.heap.size+1;omega) A0;have au:=O.cell (p:=⟨w.heap.size,1,none⟩) z (by show w.heap.size≠w.heap.size+1;omega) B0;have dc:=aC _ _ ag;have A1:=Zb ag;have B1:=Zb au;have ap:=Zb (Kq.trans bh O);have af:=Zb ai;have ao:=Zb aj;clear O ai aj;have C2:=Zb (Hn HH j (w.heap.size+1) s1 d _ af (by omega) (by omega) (by omega) (by omega) ao);unfold lsV at C2;go_wp2_with fail;refine C2.mono ?_;rintro e w2 ⟨x2,s2,rfl,eq,en,bx,bu,al⟩;have br:=al.cell (p:=⟨w.heap.size,0,none⟩) z (by show w.heap.size≠w.heap.size+1;omega) A1;have cx:=al.cell (p:=⟨w.heap.size,1,none⟩) z (by show w.heap.size≠w.heap.size+1;omega) B1;have dy:=aC _ _ br;have A2:=Zb br;have B2:=Zb cx;have cn:=Zb (Kq.trans ap al);have cq:=Zb bu;have cj:=Zb bx;clear al bu bx;have C3:=Zb (Hn HH k (w.heap.size+1) s2 d _ cq (by omega) (by omega) (by omega) (by omega) cj);unfold lsV at C3;go_wp2_with fail;refine C3.mono ?_;rintro e w3 ⟨x3,s3,rfl,er,eo,bz,bv,am⟩;have bs:=am.cell (p:=⟨w.heap.size,0,none⟩) z (by show w.heap.size≠w.heap.size+1;omega) A2;have cy:=am.cell (p:=⟨w.heap.size,1,none⟩) z (by show w.heap.size≠w.heap.size+1;omega) B2;have dz:=aC _ _ bs;have A3:=Zb bs;have B3:=Zb cy
  have co:=Zb (Kq.trans cn am);have ct:=Zb bv;have cl:=Zb bz;clear am bv bz;have C4:=Zb (Hm HH x1 x2 x3 (w.heap.size+1) s3 d _ ct (by omega) (by omega) (by omega) (by omega) (by omega) cl);unfold lsV at C4;go_wp2_with fail;refine C4.mono ?_;rintro e w4 ⟨x4,s4,rfl,es,ep,ca,bw,an⟩;have bt:=an.cell (p:=⟨w.heap.size,0,none⟩) z (by show w.heap.size≠w.heap.size+1;omega) A3;have cz:=an.cell (p:=⟨w.heap.size,1,none⟩) z (by show w.heap.size≠w.heap.size+1;omega) B3;have ea:=aC _ _ bt;have A4:=Zb bt;have B4:=Zb cz;have cp:=Zb (Kq.trans co an);have aq:=Zb bw;have cm:=Zb ca;clear an bw ca;obtain⟨ev,cf⟩:=Za cm;have db:=aC _ _ ev;have ab:=Zb (Kq.all KH cp (by omega));by_cases e0:s4=0
  ·subst e0;go_wp2;go_ret2;exact⟨x4,1,rfl,by omega,by omega,by omega,Za aq,Za ab⟩
  ·have de:¬((s4:Nat):Int)=0:=(by omega);have dd:(((s4:Nat):Int) == 0)=false:=(by simp[e0]);by_cases aw:s4=12
   ·subst aw;go_wp2;go_ret2;exact⟨x4,2,rfl,by omega,by omega,by omega,Za aq,Za ab⟩
   ·have dg:¬((s4:Nat):Int)=12:=(by omega);have df:(((s4:Nat):Int) == 12)=false:=(by simp;omega);go_wp2;go_ret2;exact⟨x4,0,rfl,by omega,by omega,by omega,Za aq,Za ab⟩
 ·have dh:¬(50:Int)<=(l:Int):=by omega
  have C1:=Zb (Hm HH i j k (w.heap.size+1) 0 d _ HS (by omega) (by omega) (by omega) (by omega) (by omega) HC);unfold lsV at C1;go_enter func217,ntmps217;go_wp2_with fail;refine C1.mono ?_;rintro e w1 ⟨x1,s1,rfl,dq,dp,aj,ai,O⟩;have ag:=O.cell (p:=⟨w.heap.size,0,none⟩) z (by show w.heap.size≠w.heap.size+1;omega) A0;have au:=O.cell (p:=⟨w.heap.size,1,none⟩) z (by show w.heap.size≠w.heap.size+1;omega) B0;have dc:=aC _ _ ag;have A1:=Zb ag;have B1:=Zb au;have ap:=Zb (Kq.trans bh O);have af:=Zb ai;have ao:=Zb aj;clear O ai aj;obtain⟨ev,cf⟩:=Za ao;have db:=aC _ _ ev;have ab:=Zb (Kq.all KH ap (by omega));by_cases e0:s1=0
  ·subst e0;go_wp2;go_ret2;exact⟨x1,1,rfl,by omega,by omega,by omega,Za af,Za ab⟩
  ·have de:¬((s1:Nat):Int)=0:=(by omega);have dd:(((s1:Nat):Int) == 0)=false:=(by simp[e0]);by_cases aw:s1=12
   ·subst aw;go_wp2;go_ret2;exact⟨x1,2,rfl,by omega,by omega,by omega,Za af,Za ab⟩
   ·have dg:¬((s1:Nat):Int)=12:=(by omega);have df:(((s1:Nat):Int) == 12)=false:=(by simp;omega);go_wp2;go_ret2;exact⟨x1,0,rfl,by omega,by omega,by omega,Za af,Za ab⟩
structure Pt{α : Type}[Inhabited α](q : α->Bool)(a b:Nat)(d1:Array α)(i j:Nat)(dk:Array α):Prop where
 perm:dS (a+1) b d1 dk
 left:∀ x,a<x->x<i->q dk[x]! = true
 right:∀ x,j<x->x<b->q dk[x]! = false
variable {α : Type} [Inhabited α] {q : α -> Bool} {a b : Nat} {d1 : Array α} {i j : Nat} {dk : Array α}
theorem Pt.start(q : α->Bool)(a b:Nat)(d1:Array α)(j:Nat)(z:b<=j+1):Pt q a b d1 (a+1) j d1:=
 ⟨Sort.permIn_refl _ _ _,λx h1 h2=>by omega,λx h1 h2=>by omega⟩
theorem Pt.piv(h:Pt q a b d1 i j dk):dk[a]! = d1[a]!:=h.perm.2.1 a (Or.inl (by omega))
theorem Pt.up(h:Pt q a b d1 i j dk)(z:q dk[i]! = true):Pt q a b d1 (i+1) j dk:=
 ⟨h.perm,λx h1 h2=>by
  by_cases e:x=i
  ·rw[e];exact z
  ·exact h.left x h1 (by omega),h.right⟩
theorem Pt.down(h:Pt q a b d1 i j dk)(z:q dk[j]! = false):Pt q a b d1 i (j - 1) dk:=
 ⟨h.perm,h.left,λx h1 h2=>by
  by_cases e:x=j
  ·rw[e];exact z
  ·exact h.right x (by omega) h2⟩
theorem Pt.swap(h:Pt q a b d1 i j dk)(aa:a<i)(ac:i<j)(O:j<b)(hb:b<=d1.size)(hi:q dk[i]! = false)(z:q dk[j]! = true):Pt q a b d1 (i+1) (j - 1) (bM dk i j):=by
 have hs:dk.size=d1.size:=h.perm.1;have g:=Sort.swp_get dk (show i<dk.size by omega) (show j<dk.size by omega);refine⟨cY _ _ _ _ _ h.perm (Sort.swp_permIn dk (a+1) b i j (by omega) (by omega) (by omega) O (by omega)),λx h1 h2=>?_,λx h1 h2=>?_⟩
 ·by_cases e:x=i
  ·subst e;rw[Sort.swp_left dk x j (by omega) (by omega)];exact z
  ·rw[Sort.swp_other dk i j x e (by omega)];exact h.left x h1 (by omega)
 ·by_cases e:x=j
  ·subst e;rw[Sort.swp_right dk i x (by omega)];exact hi
  ·rw[Sort.swp_other dk i j x (by omega) e];exact h.right x (by omega) h2
theorem Uu(d:Array α)(a p:Nat)(z:a<d.size)(O:p<d.size):(bM d a p)[a]! = d[p]!:=by
 by_cases e:a=p
 ·subst e;exact Sort.swp_right d a a z
 ·exact Sort.swp_left d a p z e
structure Zrj(lt : α -> α->Bool)(d:Array α)(a b pivot m:Nat)(d':Array α):Prop where
 lo:a<m
 hi:m<=b
 perm:dS a b d d'
 left:∀ x,a<=x->x<m->lt d[pivot]! d'[x]! = false
 right:∀ x,m<=x->x<b->lt d[pivot]! d'[x]! = true
theorem Pt.eqok{lt : α -> α->Bool}{d:Array α}{pivot:Nat}(hO:Sort.SWO lt)(ac:a<=pivot)(ad:pivot<b)(z:b<=d.size)(h:Pt (λx=>!lt d[pivot]! x) a b (bM d a pivot) i j dk)(ab:a<i)(ae:i=j+1)(af:j<b):Zrj lt d a b pivot i dk:=by
 have O:=h.piv;rw[Uu d a pivot (by omega) (by omega)] at O;refine⟨ab,by omega,cY _ _ _ _ _ (Sort.swp_permIn d a b a pivot (aE _) (by omega) ac ad z) (Sort.permIn_mono _ _ _ _ _ _ (by omega) (aE _) (by rw[Sort.size_swp];exact z) h.perm),λx h1 h2=>?_,λx h1 h2=>?_⟩
 ·by_cases e:x=a
  ·subst e;rw[O];exact hO.irrefl _
  ·have:=h.left x (by omega) h2;simpa using this
 ·have:=h.right x (by omega) h2;simpa using this
structure Zjg(lt : α -> α->Bool)(d:Array α)(a b m:Nat)(d':Array α):Prop where
 lo:a<=m
 hi:m<b
 perm:dS a b d d'
 left:∀ x,a<=x->x<m->lt d'[x]! d'[m]! = true
 right:∀ x,m<x->x<b->lt d'[x]! d'[m]! = false
theorem Pt.paok{lt : α -> α->Bool}{d:Array α}{pivot:Nat}(ac:a<=pivot)(ad:pivot<b)(hb:b<=d.size)(h:Pt (λx=>lt x d[pivot]!) a b (bM d a pivot) i j dk)(ae:a<i)(af:i=j+1)(ab:j<b):Zjg lt d a b j (bM dk j a):=by
 have z:=h.piv;rw[Uu d a pivot (by omega) (by omega)] at z;have hs:dk.size=d.size:=by rw[h.perm.1,Sort.size_swp]
 have g:=Sort.swp_get dk (show j<dk.size by omega) (show a<dk.size by omega)
 have O:(bM dk j a)[j]! = d[pivot]!:=by
  by_cases e:j=a
  ·subst e;rw[Sort.swp_right dk j j (by omega)];exact z
  ·rw[Sort.swp_left dk j a (by omega) e];exact z
 refine⟨by omega,ab,cY _ _ _ _ _ (cY _ _ _ _ _ (Sort.swp_permIn d a b a pivot (aE _) (by omega) ac ad hb) (Sort.permIn_mono _ _ _ _ _ _ (by omega) (aE _) (by rw[Sort.size_swp];exact hb) h.perm)) (Sort.swp_permIn dk a b j a (by omega) ab (aE _) (by omega) (by omega)),λx h1 h2=>?_,λx h1 h2=>?_⟩
 ·rw[O];by_cases e:x=a
  ·subst e;rw[Sort.swp_right dk j x (by omega)];exact h.left j (by omega) (by omega)
  ·rw[Sort.swp_other dk j a x (by omega) e];exact h.left x (by omega) (by omega)
 ·rw[O,Sort.swp_other dk j a x (by omega) (by omega)];exact h.right x h1 h2
theorem Zhy{α : Type}[Inhabited α]{g:Nat}{lb}{sf:Nat}{sb}{lt : α -> α->Bool}{n B:Nat}{St:World->Array α->Prop}(H:Sr aB g lb sf sb lt n B St)
  (a b pivot:Nat) (d:Array α) (w) (h:St w d) (bt:a<=pivot) (bu:pivot<b) (hb:b<=n) :
  Calls aB 220 #[lsV g lb sf sb,E J a,E J b,E J pivot] w λe w'=>∃ (m:Nat) (d':Array α),e = dX (E J m)/\Zrj lt d a b pivot m d'/\St w' d'/\Kp B w w':=by
 unfold lsV;have hn:=H.small;have eg:=H.enters;have O:=H.low _ _ h;have HD:=Zb (H.size _ _ h);have bi:=Zb H.order;obtain⟨N0,N1⟩:=Ug w (.func (.func g) #[] lb) (.func (.func sf) #[] sb) 272;have SX:=Zb (H.alloc w d (dW #[.func (.func g) #[] lb,.func (.func sf) #[] sb] 272) h);have KX:=Zb (Kp.alloc B w (dW #[.func (.func g) #[] lb,.func (.func sf) #[] sb] 272));have HH:=Zb H;clear H h;obtain⟨w1,hs,bq,ay⟩:=HH.swap _ d a pivot SX (by omega) (by omega);have M0:=Zb (ay.cell O N0);have M1:=Zb (ay.cell O N1);have cc:=Zb bq;have aw:=Zb (Kp.trans KX ay);clear bq ay;obtain⟨jb,cx⟩:∃ jb:Nat,jb+1=b:=⟨b - 1,by omega⟩;have cw:(b:Int) - 1=(jb:Int):=by omega
 have ce:=Zb (Pt.start (λx=>!lt d[pivot]! x) a b (bM d a pivot) jb (by omega));go_enter func220,ntmps220;go_wp2;clear N0 N1 hs
 go_loopw [9,10] (λs9 bd wr=>∃ (i j:Nat) (dk:Array α),s9 = E J i/\bd = E J j/\a<i/\i<=j+1/\j<b/\Hid (Pt (λx=>!lt d[pivot]! x) a b (bM d a pivot) i j dk)/\Hid (St wr dk)/\Hid (Kp B w1 wr)) (λs9 bd _=>(aV bd).toNat+1 - (aV s9).toNat)
 case atStart=>exact⟨a+1,jb,_,by go_num,rfl,by omega,by omega,by omega,ce,cc,Kp.refl _ _⟩
 case round=>
  obtain⟨i0,j0,dk,rfl,rfl,ci,cj,cy,ca,cb,bz⟩:=hrel;go_wp2_with fail
  go_loopw [9] (λsa wr=>∃ i:Nat,sa = E J i/\a<i/\i0<=i/\i<=j0+1/\Hid (Pt (λx=>!lt d[pivot]! x) a b (bM d a pivot) i j0 dk)/\Hid (St wr dk)/\Hid (Kp B w1 wr)) (λsa _=>j0+1 - (aV sa).toNat)
  case atStart=>exact⟨i0,by first|rfl|go_num|(have:=Za HI0;congr 1;omega),ci,aE _,cj,ca,cb,bz⟩
  case round=>
   obtain⟨i,rfl,ba,cu,bc,HP,HS,HK⟩:=hrel;have c0:=HK.cell O M0;have c1:=HK.cell O M1;have bw:=aC _ _ c0;have PV:=Zb HP.piv;by_cases cl:i<=j0
   ·have hl:=HH.less wr dk a i HS (by omega) (by omega);have ae:dk[a]! = d[pivot]!:=PV.trans (Uu d a pivot (by rw[Za HD];omega) (by rw[Za HD];omega));cases hlv:lt dk[a]! dk[i]! with
    | false=>
     rw[hlv] at hl;have HQ:=Zb (HP.up (by rw[ae] at hlv;simp[hlv]));clear hlv ae
     go_wp2_with (go_at_fn g;refine hl.mono ?_;rintro e w' ⟨rfl,ac,ab⟩;have z:=Zb (Kp.trans HK ab);have ak:=Zb ac;have d0:=z.cell O M0;have d1:=z.cell O M1;have dz:=aC _ _ d0;clear ac ab)
     go_roundw
     case rel=>first|exact⟨i+1,by go_num,by omega,by omega,by omega,HQ,ak,z⟩|((repeat apply Exists.intro);refine⟨?_,rfl⟩;exact⟨i+1,by go_num,by omega,by omega,by omega,HQ,ak,z⟩)
     case measure=>simp[aV];omega
    | true=>
     rw[hlv] at hl
     have HQ:Hid ((λx=>!lt d[pivot]! x) dk[i]! = false):=by
      show _=_;rw[ae] at hlv;simp[hlv]
     clear hlv ae
     go_wp2_with (go_at_fn g;refine hl.mono ?_;rintro e w' ⟨rfl,ac,ab⟩;have z:=Zb (Kp.trans HK ab);have ak:=Zb ac;have d0:=z.cell O M0;have d1:=z.cell O M1;have dz:=aC _ _ d0;clear ac ab)
     go_loopw [10] (λsa wr=>∃ j:Nat,sa = E J j/\i<=j+1/\j<=j0/\Hid (Pt (λx=>!lt d[pivot]! x) a b (bM d a pivot) i j dk)/\Hid (St wr dk)/\Hid (Kp B w1 wr)) (λsa _=>(aV sa).toNat)
     case atStart=>exact⟨j0,by first|rfl|go_num,bc,aE _,HP,ak,z⟩
     case round=>
      clear d0 d1 dz hl bc c0 c1 bw;obtain⟨j,rfl,bc,cz,HP,HS,HK⟩:=hrel;have c0:=HK.cell O M0;have c1:=HK.cell O M1;have bw:=aC _ _ c0;by_cases bs:i<=j
      ·have hl:=HH.less wr dk a j HS (by omega) (by omega);have ae:dk[a]! = d[pivot]!:=PV.trans (Uu d a pivot (by rw[Za HD];omega) (by rw[Za HD];omega));cases hlv:lt dk[a]! dk[j]! with
       | true=>
        rw[hlv] at hl;have ap:=Zb (HP.down (by rw[ae] at hlv;simp[hlv]));clear hlv ae
        go_wp2_with (go_at_fn g;refine hl.mono ?_;rintro e w' ⟨rfl,ac,ab⟩;have z:=Zb (Kp.trans HK ab);have ak:=Zb ac;have d0:=z.cell O M0;have d1:=z.cell O M1;have dz:=aC _ _ d0;clear ac ab)
        go_roundw
        case rel=>first|exact⟨j - 1,by congr 1 <;> omega,by omega,by omega,ap,ak,z⟩|((repeat apply Exists.intro);refine⟨?_,rfl⟩;exact⟨j - 1,by congr 1 <;> omega,by omega,by omega,ap,ak,z⟩)
        case measure=>simp[aV];omega
       | false=>
        rw[hlv] at hl
        have ap:Hid ((λx=>!lt d[pivot]! x) dk[j]! = true):=by
         show _=_;rw[ae] at hlv;simp[hlv]
        have cm:i<j:=by
         rcases Nat.lt_or_eq_of_le bs with q|q
         ·exact q
         ·subst q;exact dE (HQ.symm.trans ap)
        have cq:decide ((j:Int)<(i:Int))=false:=decide_eq_false (by omega);have ct:decide (j<i)=false:=decide_eq_false (by omega);have bg:=Zb (HP.swap ba cm (by omega) (by rw[Sort.size_swp,Za HD];exact hb) HQ ap);clear hlv ae
        go_wp2_with (go_at_fn g;refine hl.mono ?_;rintro e w' ⟨rfl,ac,ab⟩;have z:=Zb (Kp.trans HK ab);have d0:=z.cell O M0;have d1:=z.cell O M1;have dz:=aC _ _ d0;obtain⟨w3,hs,br,bo⟩:=HH.swap w' dk i j ac (by omega) (by omega);have bh:=Zb br;have av:=Zb (Kp.trans z bo);have e0:=av.cell O M0;have e1:=av.cell O M1;have ez:=aC _ _ e0;clear ac ab br bo)
        go_wp2;go_roundw
        case rel=>first|exact⟨i+1,j - 1,_,by go_num,by congr 1 <;> omega,by omega,by omega,by omega,bg,bh,av⟩|((repeat apply Exists.intro);refine⟨?_,rfl⟩;exact⟨i+1,j - 1,_,by go_num,by congr 1 <;> omega,by omega,by omega,by omega,bg,bh,av⟩)
        case measure=>simp[aV];omega
      ·have az:Hid (i=j+1):=(by show _=_;omega);have hgt:j<i:=(by omega);clear bs;go_wp2;go_ret;have aq:=Pt.eqok bi bt bu (by rw[Za HD];exact hb) HP ba az (by omega)
       first|exact⟨i,dk,rfl,aq,Za HS,Kp.trans aw HK⟩|exact⟨i,rfl,dk,aq,Za HS,Kp.trans aw HK⟩
   ·have az:Hid (i=j0+1):=(by show _=_;omega);have hgt:j0<i:=(by omega);clear cl;go_wp2_with fail;refine aQ 1 ?_;rw[aL];go_wp2;go_ret;have aq:=Pt.eqok bi bt bu (by rw[Za HD];exact hb) HP ba az (by omega)
    first|exact⟨i,dk,rfl,aq,Za HS,Kp.trans aw HK⟩|exact⟨i,rfl,dk,aq,Za HS,Kp.trans aw HK⟩
def PaPost{α : Type}[Inhabited α](lt : α -> α->Bool)(d:Array α)(a b B:Nat)(St:World->Array α->Prop)(w:World)(e:Ending)(w':World):Prop:=
 ∃ (m:Nat) (t:Bool) (d':Array α),e = dX (dY #[E J m,eA t])/\Zjg lt d a b m d'/\St w' d'/\Kp B w w'
theorem PaPost.of{α : Type}[Inhabited α]{lt : α -> α->Bool}{d:Array α}{a b B:Nat}{St:World->Array α->Prop}{w w'}(m:Nat)(t:Bool)(d':Array α)(h1:Zjg lt d a b m d')(h2:St w' d')(h3:Kp B w w') :
  PaPost lt d a b B St w (dX (dY #[E J m,eA t])) w':=⟨m,t,d',rfl,h1,h2,h3⟩
theorem Zoa{α : Type}[Inhabited α]{g:Nat}{lb}{sf:Nat}{sb}{lt : α -> α->Bool}{n B:Nat}{St:World->Array α->Prop}(H:Sr aB g lb sf sb lt n B St)
  (a b pivot:Nat) (d:Array α) (w) (h:St w d) (bz:a<=pivot) (ca:pivot<b) (hb:b<=n) :
  Calls aB 221 #[lsV g lb sf sb,E J a,E J b,E J pivot] w λe w'=>PaPost lt d a b B St w e w':=by
 unfold lsV;have hn:=H.small;have eg:=H.enters;have O:=H.low _ _ h;have HD:=Zb (H.size _ _ h);have de:=Zb H.order;obtain⟨N0,N1⟩:=Ug w (.func (.func g) #[] lb) (.func (.func sf) #[] sb) 272;have SX:=Zb (H.alloc w d (dW #[.func (.func g) #[] lb,.func (.func sf) #[] sb] 272) h);have KX:=Zb (Kp.alloc B w (dW #[.func (.func g) #[] lb,.func (.func sf) #[] sb] 272));have HH:=Zb H;clear H h;obtain⟨w1,hs,ct,bt⟩:=HH.swap _ d a pivot SX (by omega) (by omega);have M0:=Zb (bt.cell O N0);have M1:=Zb (bt.cell O N1);have cx:=Zb ct;have br:=Zb (Kp.trans KX bt);clear ct bt;obtain⟨jb,dh⟩:∃ jb:Nat,jb+1=b:=⟨b - 1,by omega⟩;have dg:(b:Int) - 1=(jb:Int):=by omega
 have cz:=Zb (Pt.start (λx=>lt x d[pivot]!) a b (bM d a pivot) jb (by omega));go_enter func221,ntmps221;go_wp2;clear N0 N1 hs;obtain⟨i0,cg⟩:∃ i0:Nat,i0=a+1:=⟨_,rfl⟩;have dd:(a:Int)+1=(i0:Int):=by omega
 obtain⟨dk,cf⟩:=ZG (bM d a pivot)
 have cd:Hid (Pt (λx=>lt x d[pivot]!) a b (bM d a pivot) i0 jb dk):=by
  show Pt _ _ _ _ _ _ _;rw[cg,cf];exact Za cz
 have ce:Hid (St w1 dk):=by
  show St _ _;rw[cf];exact Za cx
 have cc:=Zb (Kp.refl B w1);have bu:a<i0:=by omega
 have bv:i0<=jb+1:=by omega
 have cm:=Zb cg;clear cg dd cf
 go_loopw [10] (λsa wr=>∃ i:Nat,sa = E J i/\a<i/\i0<=i/\i<=jb+1/\Hid (Pt (λx=>lt x d[pivot]!) a b (bM d a pivot) i jb dk)/\Hid (St wr dk)/\Hid (Kp B w1 wr)) (λsa _=>jb+1 - (aV sa).toNat)
 case atStart=>exact⟨i0,by first|rfl|go_num|(have:=Za cm;congr 1;omega),bu,aE _,bv,cd,ce,cc⟩
 case round=>
  obtain⟨i,rfl,az,cu,ba,HP,HS,HK⟩:=hrel;have c0:=HK.cell O M0;have c1:=HK.cell O M1;have bn:=aC _ _ c0;have PV:=Zb HP.piv;by_cases bw:i<=jb
  ·have hl:=HH.less wr dk i a HS (by omega) (by omega);have ae:dk[a]! = d[pivot]!:=PV.trans (Uu d a pivot (by rw[Za HD];omega) (by rw[Za HD];omega));cases hlv:lt dk[i]! dk[a]! with
   | true=>
    rw[hlv] at hl;have HQ:=Zb (HP.up (by rw[ae] at hlv;simp[hlv]));clear hlv ae
    go_wp2_with (go_at_fn g;refine hl.mono ?_;rintro e w' ⟨rfl,ac,ab⟩;have z:=Zb (Kp.trans HK ab);have ai:=Zb ac;have d0:=z.cell O M0;have d1:=z.cell O M1;have dz:=aC _ _ d0;clear ac ab)
    go_roundw
    case rel=>first|exact⟨i+1,by go_num,by omega,by omega,by omega,HQ,ai,z⟩|((repeat apply Exists.intro);refine⟨?_,rfl⟩;exact⟨i+1,by go_num,by omega,by omega,by omega,HQ,ai,z⟩)
    case measure=>simp[aV];omega
   | false=>
    rw[hlv] at hl
    have HQ:Hid ((λx=>lt x d[pivot]!) dk[i]! = false):=by
     show _=_;rw[ae] at hlv;simp[hlv]
    clear hlv ae
    go_wp2_with (go_at_fn g;refine hl.mono ?_;rintro e w' ⟨rfl,ac,ab⟩;have z:=Zb (Kp.trans HK ab);have ai:=Zb ac;have d0:=z.cell O M0;have d1:=z.cell O M1;have dz:=aC _ _ d0;clear ac ab)
    go_loopw [11] (λsa wr=>∃ j:Nat,sa = E J j/\i<=j+1/\j<=jb/\Hid (Pt (λx=>lt x d[pivot]!) a b (bM d a pivot) i j dk)/\Hid (St wr dk)/\Hid (Kp B w1 wr)) (λsa _=>(aV sa).toNat)
    case atStart=>exact⟨jb,by first|rfl|go_num,ba,aE _,HP,ai,z⟩
    case round=>
     clear d0 d1 dz hl ba c0 c1 bn;obtain⟨j,rfl,ba,cw,HP,HS,HK⟩:=hrel;have c0:=HK.cell O M0;have c1:=HK.cell O M1;have bn:=aC _ _ c0;by_cases bh:i<=j
     ·have hl:=HH.less wr dk j a HS (by omega) (by omega);have ae:dk[a]! = d[pivot]!:=PV.trans (Uu d a pivot (by rw[Za HD];omega) (by rw[Za HD];omega));cases hlv:lt dk[j]! dk[a]! with
      | false=>
       rw[hlv] at hl;have ap:=Zb (HP.down (by rw[ae] at hlv;simp[hlv]));clear hlv ae
       go_wp2_with (go_at_fn g;refine hl.mono ?_;rintro e w' ⟨rfl,ac,ab⟩;have z:=Zb (Kp.trans HK ab);have ai:=Zb ac;have d0:=z.cell O M0;have d1:=z.cell O M1;have dz:=aC _ _ d0;clear ac ab)
       go_roundw
       case rel=>first|exact⟨j - 1,by congr 1 <;> omega,by omega,by omega,ap,ai,z⟩|((repeat apply Exists.intro);refine⟨?_,rfl⟩;exact⟨j - 1,by congr 1 <;> omega,by omega,by omega,ap,ai,z⟩)
       case measure=>simp[aV];omega
      | true=>
       rw[hlv] at hl
       have ap:Hid ((λx=>lt x d[pivot]!) dk[j]! = true):=by
        show _=_;rw[ae] at hlv;simp[hlv]
       have bx:i<j:=by
        rcases Nat.lt_or_eq_of_le bh with q|q
        ·exact q
        ·subst q;exact dE (HQ.symm.trans ap)
       have db:decide ((j:Int)<(i:Int))=false:=decide_eq_false (by omega);have dc:decide (j<i)=false:=decide_eq_false (by omega);have bo:=Zb (HP.swap az bx (by omega) (by rw[Sort.size_swp,Za HD];exact hb) HQ ap);clear hlv ae
       go_wp2_with (go_at_fn g;refine hl.mono ?_;rintro e w' ⟨rfl,ac,ab⟩;have z:=Zb (Kp.trans HK ab);have d0:=z.cell O M0;have d1:=z.cell O M1;have dz:=aC _ _ d0;obtain⟨w3,hs,bk,bj⟩:=HH.swap w' dk i j ac (by omega) (by omega);have bq:=Zb bk;have ay:=Zb (Kp.trans z bj);have e0:=ay.cell O M0;have e1:=ay.cell O M1;have ez:=aC _ _ e0;clear ac ab bk bj)
       go_wp2;clear d0 d1 dz hl hs e0 e1 ez
       go_loopw [10,11] (λcj cl wr=>∃ (i j:Nat) (dk:Array α),cj = E J i/\cl = E J j/\a<i/\i<=j+1/\j<b/\Hid (Pt (λx=>lt x d[pivot]!) a b (bM d a pivot) i j dk)/\Hid (St wr dk)/\Hid (Kp B w1 wr)) (λcj cl _=>(aV cl).toNat+1 - (aV cj).toNat)
       case atStart=>exact⟨i+1,j - 1,_,by go_num,by congr 1 <;> omega,by omega,by omega,by omega,bo,bq,ay⟩
       case round=>
        clear az ba bw bh cw bx cu bu bv;obtain⟨i0,j0,dk,rfl,rfl,bu,bv,di,cd,ce,cc⟩:=hrel;go_wp2_with fail
        go_loopw [10] (λsa wr=>∃ i:Nat,sa = E J i/\a<i/\i0<=i/\i<=j0+1/\Hid (Pt (λx=>lt x d[pivot]!) a b (bM d a pivot) i j0 dk)/\Hid (St wr dk)/\Hid (Kp B w1 wr)) (λsa _=>j0+1 - (aV sa).toNat)
        case atStart=>exact⟨i0,by first|rfl|go_num|(have:=Za cm;congr 1;omega),bu,aE _,bv,cd,ce,cc⟩
        case round=>
         obtain⟨i,rfl,az,cu,ba,HP,HS,HK⟩:=hrel;have c0:=HK.cell O M0;have c1:=HK.cell O M1;have bn:=aC _ _ c0;have PV:=Zb HP.piv;by_cases bw:i<=j0
         ·have hl:=HH.less wr dk i a HS (by omega) (by omega);have ae:dk[a]! = d[pivot]!:=PV.trans (Uu d a pivot (by rw[Za HD];omega) (by rw[Za HD];omega));cases hlv:lt dk[i]! dk[a]! with
          | true=>
           rw[hlv] at hl;have HQ:=Zb (HP.up (by rw[ae] at hlv;simp[hlv]));clear hlv ae
           go_wp2_with (go_at_fn g;refine hl.mono ?_;rintro e w' ⟨rfl,ac,ab⟩;have z:=Zb (Kp.trans HK ab);have ai:=Zb ac;have d0:=z.cell O M0;have d1:=z.cell O M1;have dz:=aC _ _ d0;clear ac ab)
           go_roundw
           case rel=>first|exact⟨i+1,by go_num,by omega,by omega,by omega,HQ,ai,z⟩|((repeat apply Exists.intro);refine⟨?_,rfl⟩;exact⟨i+1,by go_num,by omega,by omega,by omega,HQ,ai,z⟩)
           case measure=>simp[aV];omega
          | false=>
           rw[hlv] at hl
           have HQ:Hid ((λx=>lt x d[pivot]!) dk[i]! = false):=by
            show _=_;rw[ae] at hlv;simp[hlv]
           clear hlv ae
           go_wp2_with (go_at_fn g;refine hl.mono ?_;rintro e w' ⟨rfl,ac,ab⟩;have z:=Zb (Kp.trans HK ab);have ai:=Zb ac;have d0:=z.cell O M0;have d1:=z.cell O M1;have dz:=aC _ _ d0;clear ac ab)
           go_loopw [11] (λsa wr=>∃ j:Nat,sa = E J j/\i<=j+1/\j<=j0/\Hid (Pt (λx=>lt x d[pivot]!) a b (bM d a pivot) i j dk)/\Hid (St wr dk)/\Hid (Kp B w1 wr)) (λsa _=>(aV sa).toNat)
           case atStart=>exact⟨j0,by first|rfl|go_num,ba,aE _,HP,ai,z⟩
           case round=>
            clear d0 d1 dz hl ba c0 c1 bn;obtain⟨j,rfl,ba,cw,HP,HS,HK⟩:=hrel;have c0:=HK.cell O M0;have c1:=HK.cell O M1;have bn:=aC _ _ c0;by_cases bh:i<=j
            ·have hl:=HH.less wr dk j a HS (by omega) (by omega);have ae:dk[a]! = d[pivot]!:=PV.trans (Uu d a pivot (by rw[Za HD];omega) (by rw[Za HD];omega));cases hlv:lt dk[j]! dk[a]! with
             | false=>
              rw[hlv] at hl;have ap:=Zb (HP.down (by rw[ae] at hlv;simp[hlv]));clear hlv ae
              go_wp2_with (go_at_fn g;refine hl.mono ?_;rintro e w' ⟨rfl,ac,ab⟩;have z:=Zb (Kp.trans HK ab);have ai:=Zb ac;have d0:=z.cell O M0;have d1:=z.cell O M1;have dz:=aC _ _ d0;clear ac ab)
              go_roundw
              case rel=>first|exact⟨j - 1,by congr 1 <;> omega,by omega,by omega,ap,ai,z⟩|((repeat apply Exists.intro);refine⟨?_,rfl⟩;exact⟨j - 1,by congr 1 <;> omega,by omega,by omega,ap,ai,z⟩)
              case measure=>simp[aV];omega
             | true=>
              rw[hlv] at hl
              have ap:Hid ((λx=>lt x d[pivot]!) dk[j]! = true):=by
               show _=_;rw[ae] at hlv;simp[hlv]
              have bx:i<j:=by
               rcases Nat.lt_or_eq_of_le bh with q|q
               ·exact q
               ·subst q;exact dE (HQ.symm.trans ap)
              have db:decide ((j:Int)<(i:Int))=false:=decide_eq_false (by omega);have dc:decide (j<i)=false:=decide_eq_false (by omega);have bo:=Zb (HP.swap az bx (by omega) (by rw[Sort.size_swp,Za HD];exact hb) HQ ap);clear hlv ae
              go_wp2_with (go_at_fn g;refine hl.mono ?_;rintro e w' ⟨rfl,ac,ab⟩;have z:=Zb (Kp.trans HK ab);have d0:=z.cell O M0;have d1:=z.cell O M1;have dz:=aC _ _ d0;obtain⟨w3,hs,bk,bj⟩:=HH.swap w' dk i j ac (by omega) (by omega);have bq:=Zb bk;have ay:=Zb (Kp.trans z bj);have e0:=ay.cell O M0;have e1:=ay.cell O M1;have ez:=aC _ _ e0;clear ac ab bk bj)
              go_wp2;go_roundw
              case rel=>first|exact⟨i+1,j - 1,_,by go_num,by congr 1 <;> omega,by omega,by omega,by omega,bo,bq,ay⟩|((repeat apply Exists.intro);refine⟨?_,rfl⟩;exact⟨i+1,j - 1,_,by go_num,by congr 1 <;> omega,by omega,by omega,by omega,bo,bq,ay⟩)
              case measure=>simp[aV];omega
            ·have bb:Hid (i=j+1):=(by show _=_;omega);have hgt:j<i:=(by omega);clear bh;obtain⟨w9,ci,au,ar⟩:=HH.swap _ dk j a HS (by omega) (by omega);have bd:=Zb au;have bc:=Zb (Kp.trans HK ar);clear au ar;go_wp2;go_ret2;have be:=Pt.paok bz ca (by rw[Za HD];exact hb) HP az bb (by omega);exact PaPost.of j false _ be bd (Kp.trans br bc)
         ·have bb:Hid (i=j0+1):=(by show _=_;omega);have hgt:j0<i:=(by omega);clear bw;go_wp2_with fail;refine aQ 1 ?_;rw[aL];obtain⟨w9,ci,au,ar⟩:=HH.swap _ dk j0 a HS (by omega) (by omega);have bd:=Zb au;have bc:=Zb (Kp.trans HK ar);clear au ar;go_wp2;go_ret2;have be:=Pt.paok bz ca (by rw[Za HD];exact hb) HP az bb (by omega);exact PaPost.of j0 false _ be bd (Kp.trans br bc)
     ·have bb:Hid (i=j+1):=(by show _=_;omega);have hgt:j<i:=(by omega);clear bh;obtain⟨w9,ci,au,ar⟩:=HH.swap _ dk j a HS (by omega) (by omega);have bd:=Zb au;have bc:=Zb (Kp.trans HK ar);clear au ar;go_wp2;go_ret2;have be:=Pt.paok bz ca (by rw[Za HD];exact hb) HP az bb (by omega);exact PaPost.of j true _ be bd (Kp.trans br bc)
  ·have bb:Hid (i=jb+1):=(by show _=_;omega);have hgt:jb<i:=(by omega);clear bw;go_wp2_with fail;refine aQ 1 ?_;rw[aL];obtain⟨w9,ci,au,ar⟩:=HH.swap _ dk jb a HS (by omega) (by omega);have bd:=Zb au;have bc:=Zb (Kp.trans HK ar);clear au ar;go_wp2;go_ret2;have be:=Pt.paok bz ca (by rw[Za HD];exact hb) HP az bb (by omega);exact PaPost.of jb true _ be bd (Kp.trans br bc)
