import Derived.Test.YtbddijbmepdliaaGreatDoorH
import Derived.Test.YtbddijbmepdliaaGreatDoorG9
open Option renaming none->aD,some->dG
open Go.Proofs.Tryz
open Go renaming wp_loop_rounds->bB,rounds_succ->aS,maxLen->aT,info_parts->bX,heap_alloc_new->aG,lt_of_block->aA,bodyPost_ret->aL
open Go.Ending renaming returned->dB
open Go.Exit renaming inBlock->bQ
open Go.IntKind renaming i64->J
open Go.Obj renaming cells->dA
open Go.Proofs.Tryz renaming prog->aB,underlying25->cR,underlying22->cU
open Go.Sort renaming swp->cB
open Go.Value renaming int->aU,string->cF,slice->bW,int->E,slice->F,tuple->dC,pointer->dE,bool->dF
open Go.World renaming block_lt_of_cell?->aC,news_of_block->bI,ownsRow->cP,cell?_alloc_at->bG,cell?->bF
open List renaming getElem_mem->aQ,take_succ_eq_append_getElem->aH,length_take->aV,take_of_length_le->aM,length_eq_zero_iff->aJ,drop_eq_getElem_cons->aK,drop_of_length_le->bA,map_append->bN,length_map->cO,length_append->bL
open Nat renaming le_refl->aE,zero_le->aI,zero_add->bO,le_trans->aO,lt_of_lt_of_le->aF
open Prod.mk renaming injEq->aR,inj->cA
set_option maxHeartbeats 12800000
namespace Go.Proofs.YtbddijbmepdliaaGreatDoor
open Go.RowKit
theorem Km(z:Int)(hz : -10000000000<=z/\z<=10000000000)(w:World)(hw:Env w):ZH 49 #[E J z] w (.string (Xq z)):=
 (Tryz.strconv_Itoa z (by omega) (by omega) w hw.tab).mono λe w' ⟨h1,k,os,h2⟩=>⟨h1,by rw[h2];exact Lib.below_grow _ _ (aE _) k os⟩
theorem Zmm(h:Int):Vn h=((⟨#[116,120,32]⟩:ByteArray)++Xq h)++⟨#[10]⟩:=by
 apply Qy
 simp[Vn,Va,txB]
theorem Zsz(x1 x2:Int)(aa):Ty (x1,x2,aa)=(((((((⟨#[105,110,32]⟩:ByteArray)++Xq x1)++⟨#[32]⟩)++Xq x2)++⟨#[58]⟩)++Yg aa)++⟨#[10]⟩):=by
 apply Qy
 simp[Ty,G9,Va,inB]
theorem Zpq(x1:Int)(aa):Jo (x1,aa)=(((((⟨#[111,117,116,32]⟩:ByteArray)++Xq x1)++⟨#[58]⟩)++Yg aa)++⟨#[10]⟩):=by
 apply Qy
 simp[Jo,G9,Va,Zpr]
set_option maxRecDepth 10000 in
theorem Qz(h:Int)(ai ao ni ci no co I O)(w:World)(hE:EnvF w)(hI:InsAt w ai ni I)(hO:OutsAt w ao no O)(hx:Zp (h,I,O)=0) :
  ZH 23 #[.agg #[E J h,F ai ni ci,F ao no co]] w (.string (Zr (h,I,O))):=by
 have ok:=TxOk.of hx;have hb:=Zh w (dA #[E J h,F ai ni ci,F ao no co] 50);obtain⟨n0,n1,n2⟩:=Vd w (E J h) (F ai ni ci) (F ao no co) 50;have dh:ni<=6:=by have:=ok.ins6;have:=hI.1;simp only at *;omega
 have dw:no<=6:=by have:=ok.outs6;have:=hO.1;simp only at *;omega
 obtain⟨HG,bf,cd⟩:=kh3 ok.hgt ok.ins ok.outs;have hh : -10000000000<=h/\h<=10000000000:=by have:=ok.hgt;simp only at this;omega
 obtain⟨IT,HE,HI,HO,HB,N1,N2,ce⟩:=kh8 (Km h hh _ (hE.later hb).envp.env) hE hI hO hb n1 n2 (Zmm h);have s0:=Wy h hh;obtain⟨A0,hA0⟩:=ZF (Xq h);rw[hA0] at IT ce s0;have s1:((⟨#[116,120,32]⟩:ByteArray)++A0).size<=24:=by rw[ByteArray.size_append];have:(⟨#[116,120,32]⟩:ByteArray).size=3:=rfl;omega
 go_enter func23,ntmps23;go_wp2_with fail;refine IT.mono ?_;rintro e w3 ⟨rfl,bq⟩;have m1:=Ze bq N1;have M2:=Zb (Ze bq N2);have l3:w.heap.size<w3.heap.size:=aC _ _ m1;have da:=Zb (Zf HB bq);go_wp2
 go_loopw [3,16] (λs i wr=>∃ k:Nat,k<=ni/\i = E J k/\s = .string (Xa h (I.take k))/\ZD w3 wr) (λ_ i _=>ni - (intOf i).toNat)
 case atStart=>exact⟨0,aI _,rfl,by rw[<-Za ce];rfl,Below.refl _ _⟩
 case round=>
  obtain⟨k,hk,rfl,rfl,ax⟩:=hrel;have bz:=Zb ax;have az:=Zf da ax;have cz:=Zb az;by_cases bs:k<ni
  ·have al:k<I.length:=(by rw[(Za HI).1];exact bs);obtain⟨b,off,rfl,dg,au⟩:=(HI.later az).2 (by omega);obtain⟨g1,g2,ka,kn,kc,g3,g4,_⟩:=au k al;have ac:=bf I[k] (aQ al);have hS:=Pj h (I.take k) I[k];rw[<-aH al] at hS
   have bo:(Xa h (I.take k)).size<=3000:=by
    have:=Vm h (I.take k) HG (λx hx=>bf x (List.mem_of_mem_take hx));rw[aV] at this;omega
   obtain⟨x,hx⟩:=ZF (I[k]);rw[hx] at g1 g2 g4 ac hS;obtain⟨x1,x2,aj⟩:=x;simp only at g1 g2 g3 g4;have hp:=(J9 _).1 ac.1;simp only at hp;obtain⟨T,hT⟩:=ZF (Xa h (I.take k));rw[hT,Zsz] at hS;rw[hT] at bo ⊢;obtain⟨X,hX⟩:=ZG (wr.alloc (dA #[E J x1,E J x2,F ka kn kc] 90));have b1:ZD wr X:=(by rw[hX];exact Zh _ _);have cx:=Vd wr (E J x1) (E J x2) (F ka kn kc) 90;rw[<-hX] at cx;obtain⟨bu,bv,dl⟩:=cx;have EX:=(HE.later az).later b1;have I1:Hid (∀ w',ZD X w'->Calls aB 49 #[E J x1] w' λe w2=>e = dB (.string (Xq x1))/\ZD w' w2):=λw' ad=>Km x1 (by omega) w' (EX.later ad).envp.env;have I2:Hid (∀ w',ZD X w'->Calls aB 49 #[E J x2] w' λe w2=>e = dB (.string (Xq x2))/\ZD w' w2):=λw' ad=>Km x2 (by omega) w' (EX.later ad).envp.env;have OT:Hid (∀ w',ZD X w'->Calls aB 50 #[F ka kn kc] w' λe w2=>e = dB (.string (Yg aj))/\ZD w' w2):=λw' ad=>Gx ka kn kc aj w' (EX.later ad) ((g4.later b1).later ad) ac.2;have z1:=Wy x1 (by omega);have z2:=Wy x2 (by omega);have z3:=Ud aj ac.2;obtain⟨A,hA⟩:=ZF (Xq x1);obtain⟨B,hB⟩:=ZF (Xq x2);obtain⟨C,hC⟩:=ZF (Yg aj);rw[hA] at I1 z1 hS;rw[hB] at I2 z2 hS;rw[hC] at OT z3 hS;have y1:¬9223372036854775807<3+A.size:=(by omega);have y2:¬9223372036854775807<3+A.size+1:=(by omega);have y3:¬9223372036854775807<3+A.size+1+B.size:=(by omega);have y4:¬9223372036854775807<3+A.size+1+B.size+1:=(by omega);have y5:¬9223372036854775807<3+A.size+1+B.size+1+C.size:=by omega
   have y6:¬9223372036854775807<3+A.size+1+B.size+1+C.size+1:=(by omega);have y7:¬9223372036854775807<T.size+(3+A.size+1+B.size+1+C.size+1):=(by omega);have HS:=Zb hS;have bd:=Zb b1;clear ax az au g4 ac hx hT hS b1 hp hA hB hC EX;go_wp2_with fail;rw[<-hX];clear hX
   go_region_held3 (λw'=>ZD X w'/\w'.cell? ⟨wr.heap.size,0,aD⟩=dG (E J x1)/\w'.cell? ⟨wr.heap.size,1,aD⟩=dG (E J x2)/\w'.cell? ⟨wr.heap.size,2,aD⟩=dG (F ka kn kc))
    (first
    | exact⟨F6 _,bu,bv,dl⟩
    | (go_split_ands;refine⟨Zf (by assumption) ab,Ze ab (by assumption),Ze ab (by assumption),Ze ab (by assumption)⟩))
    (first
    | (go_at_call 49;go_split_ands;refine (I1 _ (by assumption)).mono ?_;rintro e w' ⟨rfl,ab⟩)
    | (go_at_call 49;go_split_ands;refine (I2 _ (by assumption)).mono ?_;rintro e w' ⟨rfl,ab⟩)
    | (go_at_call 50;go_split_ands;refine (OT _ (by assumption)).mono ?_;rintro e w' ⟨rfl,ab⟩))
   rename_i hH;have HH:=Zb (bz.trans ((Zf bd hH.1).mono bz.size));go_wp2;go_roundw
   case rel=>exact⟨k+1,by omega,by go_num,by rw[Za HS],Za HH⟩
   case measure=>simp[intOf];omega
  ·have e:k=ni:=(by omega);subst e;have HT:Hid (Xa h (I.take k)=Xa h I):=(by show _=_;rw[aM (by rw[(Za HI).1];exact aE _)]);have bo:=Vm h I HG bf;have dt:I.length<=6:=(by rw[(Za HI).1];exact dh);obtain⟨T1,cq⟩:=ZF (Xa h I);rw[cq] at HT bo;have dc:=Zb cq;have m2:=Ze ax M2;have s4:w.heap.size<wr.heap.size:=aC _ _ m2;rw[Za HT];go_wp2
   go_loopw [3,43] (λs i wz=>∃ j:Nat,j<=no/\i = E J j/\s = .string (Wb T1 (O.take j))/\ZD wr wz) (λ_ i _=>no - (intOf i).toNat)
   case atStart=>exact⟨0,aI _,rfl,rfl,Below.refl _ _⟩
   case round=>
    obtain⟨j,hj,rfl,rfl,br⟩:=hrel;have ca:=Zb br;have ay:=Zf cz br;have cy:=Zb ay;by_cases bs:j<no
    ·have al:j<O.length:=(by rw[(Za HO).1];exact bs);obtain⟨b,off,rfl,dg,au⟩:=(HO.later ay).2 (by omega);obtain⟨g1,ka,kn,kc,g3,g4,_⟩:=au j al;have ac:=cd O[j] (aQ al);have hS:=Tc T1 (O.take j) O[j];rw[<-aH al] at hS
     have df:(Wb T1 (O.take j)).size<=6000:=by
      have:=Qv T1 (O.take j) (λx hx=>cd x (List.mem_of_mem_take hx));rw[aV] at this;omega
     obtain⟨x,hx⟩:=ZF (O[j]);rw[hx] at g1 g4 ac hS;obtain⟨x1,aj⟩:=x;simp only at g1 g3 g4;have hp:=ac.1;simp only at hp;obtain⟨T,hT⟩:=ZF (Wb T1 (O.take j));rw[hT,Zpq] at hS;rw[hT] at df ⊢;obtain⟨X,hX⟩:=ZG (wr.alloc (dA #[E J x1,F ka kn kc] 92));have b1:ZD wr X:=(by rw[hX];exact Zh _ _);have cx:=U5 wr (E J x1) (F ka kn kc) 92;rw[<-hX] at cx;obtain⟨bu,bv⟩:=cx;have EX:=(HE.later ay).later b1;have I1:Hid (∀ w',ZD X w'->Calls aB 49 #[E J x1] w' λe w2=>e = dB (.string (Xq x1))/\ZD w' w2):=λw' ad=>Km x1 (by omega) w' (EX.later ad).envp.env;have OT:Hid (∀ w',ZD X w'->Calls aB 50 #[F ka kn kc] w' λe w2=>e = dB (.string (Yg aj))/\ZD w' w2):=λw' ad=>Gx ka kn kc aj w' (EX.later ad) ((g4.later b1).later ad) ac.2;have z1:=Wy x1 (by omega);have z3:=Ud aj ac.2;obtain⟨A,hA⟩:=ZF (Xq x1);obtain⟨C,hC⟩:=ZF (Yg aj);rw[hA] at I1 z1 hS;rw[hC] at OT z3 hS;have y1:¬9223372036854775807<4+A.size:=(by omega);have y2:¬9223372036854775807<4+A.size+1:=(by omega);have y3:¬9223372036854775807<4+A.size+1+C.size:=(by omega);have y4:¬9223372036854775807<4+A.size+1+C.size+1:=(by omega);have y5:¬9223372036854775807<T.size+(4+A.size+1+C.size+1):=(by omega);have HS:=Zb hS;have bd:=Zb b1;clear br ay au g4 ac hx hT hS b1 hp hA hC EX;go_wp2_with fail;rw[<-hX];clear hX
     go_region_held3 (λw'=>ZD X w'/\w'.cell? ⟨wr.heap.size,0,aD⟩=dG (E J x1)/\w'.cell? ⟨wr.heap.size,1,aD⟩=dG (F ka kn kc))
      (first
      | exact⟨F6 _,bu,bv⟩
      | (go_split_ands;refine⟨Zf (by assumption) ab,Ze ab (by assumption),Ze ab (by assumption)⟩))
      (first
      | (go_at_call 49;go_split_ands;refine (I1 _ (by assumption)).mono ?_;rintro e w' ⟨rfl,ab⟩)
      | (go_at_call 50;go_split_ands;refine (OT _ (by assumption)).mono ?_;rintro e w' ⟨rfl,ab⟩))
     rename_i hH;have HH:=Zb (ca.trans ((Zf bd hH.1).mono ca.size));go_wp2;go_roundw
     case rel=>exact⟨j+1,by omega,by go_num,by rw[Za HS],Za HH⟩
     case measure=>simp[intOf];omega
    ·have HF:Hid (Wb T1 (O.take j)=Zr (h,I,O)):=by
      show _=_;rw[aM (by rw[(Za HO).1];omega),<-Za dc];rfl
     go_wp2;go_ret;exact⟨by rw[<-Za HF];rfl,Za cy⟩
theorem Sj(t):∀ T:List TxD,Yv (T++[t])=Yv T++Zr t
 | []=>by
  apply Qy
  simp[Yv,ByteArray.data_append]
 | u :: T=>by
  show Zr u++Yv (T++[t])=Zr u++Yv T++Zr t;rw[Sj t T]
  apply Qy
  simp[ByteArray.data_append]
set_option maxRecDepth 10000 in
theorem Gv(p h k n:Int)(a m c T)(w:World)(hE:EnvF w)(hT:TxsAt w a m T)(hx:Yu (p,h,k,n,T)=0) :
  ZH 21 #[.agg #[E J p,E J h,E J k,E J n,F a m c]] w (.string (Xl (p,h,k,n,T))):=by
 obtain⟨f1,f2,f3,_,f5⟩:=Vi hx;have hz:T.length=m:=hT.1;obtain⟨X,hX⟩:=ZG ((w.alloc (dA #[E J p,E J h,E J k,E J n,F a m c] 33)).alloc (dA #[E J p,E J h,E J k,E J n] 3));have ar:ZD w X:=by rw[hX];exact Zf (Zh _ _) (Zh _ _)
 have cy:X.heap[w.heap.size]? = dG (dA [E J p,E J h,E J k,E J n,F a m c].toArray 33 (0,0)):=by
  rw[hX,Below.heap_alloc _ _ _ (by simp)];exact Zw _ _ _ _ _ _ _
 have bo:X.heap[w.heap.size+1]? = dG (dA [E J p,E J h,E J k,E J n].toArray 3 (0,0)):=by
  rw[hX];have:=Rw (w.alloc (dA #[E J p,E J h,E J k,E J n,F a m c] 33)) (E J p) (E J h) (E J k) (E J n) 3;rw[show (w.alloc (dA #[E J p,E J h,E J k,E J n,F a m c] 33)).heap.size=w.heap.size+1 by simp] at this;exact this
 have HE:=Zb (λW (hb:ZD X W)=>hE.later (Zf ar hb));have HT:=Zb (λW (hb:ZD X W)=>hT.later (Zf ar hb));obtain⟨HB,cg,dh,HZ,HF,HC⟩:=kh6 ar cy bo hz (Zib f1) f5;obtain⟨Z,hZ⟩:=ZF ([p,h,k,n]);have cz:Z.length=4:=by rw[<-hZ];rfl
 have da:∀ j (hj:j<Z.length),X.cell? ⟨w.heap.size+1,j,aD⟩=dG (E J Z[j]):=by
  subst hZ;intro j hj;refine Zd bo j _ ?_
  match j,hj with
  | 0,_=>rfl
  | 1,_=>rfl
  | 2,_=>rfl
  | 3,_=>rfl
 rw[hZ] at HF;obtain⟨ca,an,cj⟩:=kh3 da cz hZ;have dr:m<=4:=by omega
 go_enter func21,ntmps21;go_wp2_with fail;rw[<-hX]
 go_loopw [3,18] (λsv i wr=>∃ j:Nat,j<=4/\i = E J j/\sv = .string (Va blockB (Z.take j))/\Hid (ZD X wr)) (λ_ i _=>4 - (intOf i).toNat)
 case atStart=>exact⟨0,aI _,rfl,rfl,(Below.refl _ _:ZD X X)⟩
 case round=>
  obtain⟨j,hj,rfl,rfl,ad⟩:=hrel;by_cases aw:j<4
  ·have ab:j<Z.length:=(by rw[Za an];exact aw);have bg:=Ze ad (ca j ab);have di:=aC _ _ bg;have bu:=HF Z[j] (aQ ab);have hS:=Dp blockB (Z.take j) Z[j];rw[<-aH ab] at hS
   have cx:(Va blockB (Z.take j)).size<=200:=by
    have:=Vx blockB (Z.take j) (λz hz=>HF z (List.mem_of_mem_take hz));rw[aV] at this;have e5:blockB.size=5:=rfl;omega
   obtain⟨z,hz⟩:=ZF (Z[j]);rw[hz] at bg bu hS;obtain⟨T1,cw⟩:=ZF (Va blockB (Z.take j));rw[cw] at hS cx ⊢;have HS:=Zb hS;have dn:=Wy z bu;have dp:((⟨#[32]⟩:ByteArray)++Xq z).size<=22:=by rw[L8];omega
   have IT:Hid (∀ w,Env w->Calls aB 49 #[E J z] w λe w'=>e = dB (.string (Xq z))/\ZD w w'):=λw hw=>
    (Tryz.strconv_Itoa z (by omega) (by omega) w hw.tab).mono λe w' ⟨h1,k,os,h2⟩=>⟨h1,by rw[h2];exact Lib.below_grow _ _ (aE _) k os⟩
   have EE:=Zb (HE wr ad).envp.env;have dc:(j:Int)<4:=(by omega);go_wp2_with fail;refine (IT _ EE).mono ?_;rintro e w3 ⟨rfl,aq⟩;have am:=Zb (Zf ad aq);go_wp2;go_roundw
   case rel=>exact⟨j+1,by omega,by go_num,by rw[Za HS],am⟩
   case measure=>simp[intOf];omega
  ·obtain rfl:j=4:=(by omega);have HR:Hid (Va blockB (Z.take 4)=Va blockB Z):=(by show _=_;rw[aM (by rw[Za an];exact aE _)]);rw[Za HR]
   have cu:(Va blockB Z).size<=200:=by
    have:=Vx blockB Z HF;rw[Za an] at this;have e5:blockB.size=5:=rfl;omega
   obtain⟨R,hR⟩:=ZF (Va blockB Z);rw[hR] at cu ⊢;have h1:=ZE ad cg;obtain⟨-,-,-,-,b4,bl⟩:=kc5 h1;have cd:=Zb hR;go_wp2
   go_loopw [3,33] (λsv i df=>∃ j:Nat,j<=m/\i = E J j/\sv = .string ((R++⟨#[10]⟩)++Yv (T.take j))/\Hid (ZD X df)) (λ_ i _=>m - (intOf i).toNat)
   case atStart=>exact⟨0,aI _,rfl,by congr 1;apply Qy;simp[Yv,ByteArray.data_append],ad⟩
   case round=>
    obtain⟨j,dq,rfl,rfl,ag⟩:=hrel;by_cases aw:j<m
    ·have ab:j<T.length:=(by rw[Za HZ];exact aw);obtain⟨tb,dt,rfl,_,db⟩:=(HT _ ag).2 (by omega);have br:=db j ab;have au:=HC T[j] (aQ ab);have hS:=Sj T[j] (T.take j);rw[<-aH ab] at hS;have dd:=Uy (T.take j) (λt ht=>HC t (List.mem_of_mem_take ht));rw[aV] at dd
     have bs:(Zr T[j]).size<=6000:=by
      have:=Uy [T[j]] (λt ht=>by rw[List.mem_singleton.1 ht];exact au);have e:Yv [T[j]]=Zr T[j]++Yv []:=rfl;rw[e,ByteArray.size_append] at this;simp at this;omega
     obtain⟨t1,I,O,ht⟩:∃ t1 I O,T[j]=(t1,I,O):=⟨_,_,_,rfl⟩;rw[ht] at br au hS bs;obtain⟨g0,⟨ai,ni,ci,g1,hI,_⟩,ao,no,co,g2,hO,_⟩:=br;simp only at g0 g1 g2 hI hO;obtain⟨A1,hA1⟩:=ZF ((R++⟨#[10]⟩)++Yv (T.take j))
     have dm:A1.size<=30000:=by
      rw[<-hA1,ByteArray.size_append,Qc];have:min j T.length<=4:=(by omega);omega
     have az:Hid (A1++Zr (t1,I,O)=(R++⟨#[10]⟩)++Yv (T.take (j+1))):=by
      show _=_;rw[<-hA1,hS]
      apply Qy
      simp[ByteArray.data_append]
     rw[hA1];obtain⟨Y,hY⟩:=ZG (wr.alloc (dA #[E J t1,F ai ni ci,F ao no co] 50));have al:ZD wr Y:=(by rw[hY];exact Zh _ _);have CC:=Zb (Qz t1 ai ao ni ci no co I O Y (HE Y (Zf ag al)) (hI.later al) (hO.later al) au);obtain⟨B1,cq⟩:=ZF (Zr (t1,I,O));rw[cq] at CC bs az;have bz:=Zb (Zf ag al);have dc:(j:Int)<(m:Int):=(by omega);have gl:=aC _ _ g0;go_wp2_with fail;rw[<-hY];refine CC.mono ?_;rintro e w3 ⟨rfl,aq⟩;have am:=Zb (Zf bz aq);go_wp2;go_roundw
     case rel=>
      refine⟨_,_,_,_,_,_,_,_,_,_,_,?_,rfl⟩;exact⟨j+1,by omega,by go_num,by rw[Za az],am⟩
     case measure=>simp[intOf];omega
    ·have cb:Hid ((R++⟨#[10]⟩)++Yv (T.take j)=Xl (p,h,k,n,T)):=by
      show _=_;rw[aM (by rw[Za HZ];omega),<-Za cd,<-Za cj];rfl
     have bx:=Zb (Zf HB ag);go_wp2;go_ret;exact⟨Kj cb,Za bx⟩
theorem Cs(a)(len cap:Nat)(w)(h:16<len) :
  Calls aB 54 #[F a len cap] w λe w'=>e = dB (E J 2)/\w=w':=by
 go_enter func54,ntmps54;go_wp2;go_ret;exact⟨rfl,rfl⟩
theorem Cr(a cap w) :
  Calls aB 54 #[F a 0 cap] w λe w'=>e = dB (E J 0)/\w=w':=by
 go_enter func54,ntmps54;go_wp2;refine bB 1 ?_;rw[aS];go_wp2;go_ret;exact⟨rfl,rfl⟩
theorem Zis(k n:Int) :
  (k<1/\Xd (k,n)=4)\/(¬k<1/\13<k/\Xd (k,n)=4) \/
  (¬k<1/\¬13<k/\n < -1000000/\Xd (k,n)=3)\/(¬k<1/\¬13<k/\¬n < -1000000/\1000000<n/\Xd (k,n)=3) \/
  (¬k<1/\¬13<k/\¬n < -1000000/\¬1000000<n/\(k != 1)=true/\(n != 0)=true/\Xd (k,n)=3) \/
  (¬k<1/\¬13<k/\¬n < -1000000/\¬1000000<n/\(k != 1)=true/\(n != 0)=false/\Xd (k,n)=0) \/
  (¬k<1/\¬13<k/\¬n < -1000000/\¬1000000<n/\(k != 1)=false/\Xd (k,n)=0):=by
 by_cases h1:k<1
 ·exact .inl ⟨h1,by simp[Xd,h1]⟩
 by_cases h2:13<k
 ·exact .inr (.inl ⟨h1,h2,by simp[Xd,h2]⟩)
 by_cases h3:n < -1000000
 ·have hf:fit n=false:=(Kr n).2 (.inl h3);exact .inr (.inr (.inl ⟨h1,h2,h3,by simp[Xd,h1,h2,hf]⟩))
 by_cases h4:1000000<n
 ·have hf:fit n=false:=(Kr n).2 (.inr h4);exact .inr (.inr (.inr (.inl ⟨h1,h2,h3,h4,by simp[Xd,h1,h2,hf]⟩)))
 have hf:fit n=true:=(Xt n).2 (by omega);by_cases h5:k=1
 ·exact .inr (.inr (.inr (.inr (.inr (.inr ⟨h1,h2,h3,h4,by simp[h5],by simp[Xd,h5,hf]⟩)))))
 by_cases h6:n=0
 ·exact .inr (.inr (.inr (.inr (.inr (.inl ⟨h1,h2,h3,h4,by simp[h5],by simp[h6],by simp[Xd,h1,h2,h6];try decide⟩)))))
 ·exact .inr (.inr (.inr (.inr (.inl ⟨h1,h2,h3,h4,by simp[h5],by simp[h6],by simp[Xd,h1,h2,h5,h6]⟩))))
theorem Cq(b off len cap:Nat)(l:List (Int×Int))(w:World)(h0:len<=16)(hz:l.length=len)
  (hc:∀ i,i<len->w.cell? ⟨b,off+i*2,aD⟩=dG (E J (l.getD i (0,0)).1)/\w.cell? ⟨b,off+i*2+1,aD⟩=dG (E J (l.getD i (0,0)).2)) (hl:b<w.heap.size) :
  ZH 54 #[F (dG ⟨b,off,aD⟩) len cap] w (E J (V8 l)):=by
 obtain⟨HC,HZ⟩:=kh2 hc hz;clear hc hz;go_enter func54,ntmps54;go_wp2
 go_loopw [10] (λi wr=>∃ k:Nat,k<=len/\i = E J k/\V8 (l.take k)=0/\ZD w wr) (λi _=>len - (intOf i).toNat)
 case atStart=>exact⟨0,aI _,rfl,rfl,Below.refl _ _⟩
 case round=>
  obtain⟨k,hk,rfl,aq,hb⟩:=hrel;obtain⟨ac,HB⟩:=kh2 aq hb;clear aq;by_cases ap:k<len
  ·obtain⟨c1,c2⟩:=HC k ap;rw[<-hb.cell (p:=⟨b,off+k*2,aD⟩) hl] at c1;rw[<-hb.cell (p:=⟨b,off+k*2+1,aD⟩) hl] at c2;obtain⟨q,hq⟩:=ZG (l.getD k (0,0));rw[<-hq] at c1 c2;have af:k<l.length:=(by rw[Za HZ];exact ap);have ar:q=l[k]:=(by rw[hq];simp[af]);obtain⟨HQ,aj⟩:=kh2 ar (hb.trans (((Below.refl wr.heap.size wr).alloc (aE _) (dA #[E J q.1,E J q.2] 139)).mono hb.size));clear hb hq ar;obtain⟨q1,q2⟩:=q;obtain⟨x,hx⟩:=ZG (Xd (q1,q2));have HX:=Zb hx;have au:=Zis q1 q2;rw[<-hx] at au;clear hx
   rcases au with ⟨h1,ab⟩|⟨h1,h2,ab⟩|⟨h1,h2,h3,ab⟩|⟨h1,h2,h3,h4,ab⟩|⟨h1,h2,h3,h4,h5,h6,ab⟩|⟨h1,h2,h3,h4,h5,h6,ab⟩|⟨h1,h2,h3,h4,h5,ab⟩
   all_goals
    subst ab;go_wp2
   iterate 5
    go_ret;refine⟨S8 ?_,Za aj⟩;rw[Fv l k af ac (by rw[<-Za HQ,<-Za HX];decide),<-Za HQ,<-Za HX]
   all_goals
    go_roundw
    case rel=>
     refine⟨k+1,by omega,by go_num,?_,Za aj⟩;rw[Fu l k af ac,<-Za HQ,<-Za HX];rfl
    case measure=>simp[intOf];omega
  ·clear hb;go_wp2;go_ret;have e:k=len:=(by omega);subst e;refine⟨S8 ?_,Za HB⟩;have h1:=Za ac;rw[<-Za HZ,List.take_length] at h1;exact h1.symm
theorem Jj(a len cap l)(w:World)(h:OpsAt w a len l) :
  ZH 54 #[F a len cap] w (E J (chk l)):=by
 obtain⟨hz,hc⟩:=h;unfold chk;rw[hz];by_cases h1:16<len
 ·rw[if_pos h1];exact (Cs a len cap w h1).mono λe w' ⟨x,y⟩=>⟨x,y ▸ Below.refl _ _⟩
 ·rw[if_neg h1];by_cases h2:len=0
  ·subst h2;have e:l=[]:=aJ.1 hz;subst e;exact (Cr a cap w).mono λe w' ⟨x,y⟩=>⟨x,y ▸ Below.refl _ _⟩
  ·obtain⟨b,off,rfl,ab⟩:=hc (by omega);exact Cq b off len cap l w (by omega) hz ab (aC _ _ (ab 0 (by omega)).1)
theorem Js(n:Int)(w)(h1:0<=n)(h2:n<=1000000000) :
  Calls aB 89 #[E J n] w λe w'=>e = dB (dF true)/\w=w':=by
 go_enter func89,ntmps89;go_wp2;go_ret;exact⟨rfl,rfl⟩
theorem Hb(n:Int)(w)(h:n<0\/1000000000<n) :
  Calls aB 89 #[E J n] w λe w'=>e = dB (dF false)/\w=w':=by
 by_cases h1:n<0
 ·go_enter func89,ntmps89;go_wp2;go_ret;exact⟨rfl,rfl⟩
 ·have h2:1000000000<n:=by omega
  have h3:0<=n:=by omega
  have h4:decide (n<=1000000000)=false:=by simp;omega
  clear h;go_enter func89,ntmps89;go_wp2;go_ret;exact⟨rfl,rfl⟩
theorem Dm(a len cap Z w)(h:RowAt w a len Z) :
  Calls aB 56 #[F a len cap] w λe w'=>e = dB (dC #[E J (sm 0 Z).1,E J (sm 0 Z).2])/\w=w':=by
 obtain⟨hz,hm,hc⟩:=h;unfold aT at hm
 rcases Nat.eq_zero_or_pos len with h0|h0
 ·subst h0;have HZ:Hid (Z=[]):=List.eq_nil_of_length_eq_zero hz;clear hz hc hm;go_enter func56,ntmps56;go_wp2;refine bB 1 ?_;rw[aS];go_wp2;go_ret2;rw[HZ.out];exact⟨rfl,rfl⟩
 ·obtain⟨b,off,rfl,ag⟩:=hc h0;have HC:Hid (∀ i,i<len->w.cell? ⟨b,off+i,aD⟩=dG (E J (Z.getD i 0))):=ag;clear hc ag;go_enter func56,ntmps56;go_wp2
  go_loop [4,9] (λs i=>∃ (k:Nat) (x:Int),k<=len/\i = E J k/\s = E J x/\0<=x/\x<=1000000000/\Hid (sm 0 Z=sm x (Z.drop k))) (λ_ i=>len - (intOf i).toNat)
  case atStart=>exact⟨0,0,aI _,rfl,rfl,by decide,by decide,by exact rfl⟩
  case round=>
   obtain⟨k,x,hk,rfl,rfl,aw,ax,HS⟩:=hrel;by_cases ar:k<len
   ·have ap:=HC.out k ar;generalize hv:Z.getD k 0=v at ap;have HV:Hid (Z.getD k 0=v):=hv;clear hv;by_cases hr:v<0\/1000000000<v
    ·go_wp2_with (go_at_call 89;refine (Hb _ _ hr).mono ?_;rintro e w' ⟨rfl,rfl⟩)
     go_ret2;rw[HS.out,Cc x Z k (by omega) (by rw[HV.out];exact hr)];exact⟨rfl,rfl⟩
    ·have ac:0<=v:=(by omega);have ad:v<=1000000000:=(by omega);clear hr;by_cases hf:1000000000<x+v
     ·go_wp2_with (go_at_call 89;refine (Js _ _ ac ad).mono ?_;rintro e w' ⟨rfl,rfl⟩)
      go_ret2;rw[HS.out,Zeq x Z k (by omega) (by rw[HV.out];exact ac) (by rw[HV.out];exact ad) (by rw[HV.out];exact hf)];exact⟨rfl,rfl⟩
     ·have aq:x+v<=1000000000:=(by omega);have au:0<=x+v:=(by omega);clear hf
      go_wp2_with (go_at_call 89;refine (Js _ _ ac ad).mono ?_;rintro e w' ⟨rfl,rfl⟩)
      go_round
      case rel=>
       refine⟨k+1,x+v,by omega,by go_num,rfl,by omega,by omega,?_⟩;show sm 0 Z=_;rw[HS.out,Zep x Z k (by omega) (by rw[HV.out];exact ac) (by rw[HV.out];exact ad) (by rw[HV.out];exact aq),HV.out]
      case measure=>simp[intOf];omega
   ·go_wp2;go_ret2;rw[HS.out,Zkj x Z k (by omega)];exact⟨rfl,rfl⟩
def Wg(q:Int×Int):List (Int×Int)->Nat->Int
 | [],_=>-1
 | y :: r,k=>if q=y then k else Wg q r (k+1)
theorem Dw(q:Int×Int):∀ (l:List (Int×Int)) (k:Nat),decide (0<=Wg q l k)=decide (q∈l)
 | [],_=>by simp[Wg]
 | y :: r,k=>by
  unfold Wg;by_cases h:q=y
  ·rw[if_pos h];simp[h]
  ·rw[if_neg h,Dw q r (k+1)];simp[h]
theorem Eg(q:Int×Int)(l:List (Int×Int))(k:Nat)(h:k<l.length):Wg q (l.drop k) k=if q=l[k] then (k:Int) else Wg q (l.drop (k+1)) (k+1):=by
 rw[aK h];rfl
set_option maxRecDepth 10000 in
theorem As(b off n c:Nat)(l:List (Int×Int))(q1 q2:Int)(w:World)(hn:n<=6)(hz:l.length=n)
  (hc:∀ i,i<n->w.cell? ⟨b,off+i*2,aD⟩=dG (E J (l.getD i (0,0)).1)/\w.cell? ⟨b,off+i*2+1,aD⟩=dG (E J (l.getD i (0,0)).2)) :
  ZH 94 #[F (dG ⟨b,off,aD⟩) n c,.agg #[E J q1,E J q2]] w (E J (Wg (q1,q2) l 0)):=by
 obtain⟨X,hX⟩:=ZG (w.alloc (dA #[E J q1,E J q2] 87));have ad:ZD w X:=by rw[hX];exact Zh _ _
 have cx:=U5 w (E J q1) (E J q2) 87;rw[<-hX] at cx;obtain⟨x0,x1⟩:=cx;have HC:Hid (∀ i,i<n->X.cell? ⟨b,off+i*2,aD⟩=dG (E J (l.getD i (0,0)).1)/\X.cell? ⟨b,off+i*2+1,aD⟩=dG (E J (l.getD i (0,0)).2)):=λi hi=>⟨Ze ad (hc i hi).1,Ze ad (hc i hi).2⟩;obtain⟨HZ,af⟩:=kh2 hz ad;clear hc hz ad;go_enter func94,ntmps94;go_wp2;rw[<-hX];clear hX
 go_loopw [8] (λi wr=>∃ k m:Nat,k<=n/\i = E J k/\wr=X.drewN m/\Hid (Wg (q1,q2) l 0=Wg (q1,q2) (l.drop k) k)) (λi _=>n - (intOf i).toNat)
 case atStart=>exact⟨0,0,aI _,rfl,rfl,rfl⟩
 case round=>
  obtain⟨k,m,hk,rfl,rfl,A⟩:=hrel;by_cases an:k<n
  ·have am:k<l.length:=(by rw[Za HZ];exact an);obtain⟨g1,g2⟩:=HC k an;have S:=Zb (Eg (q1,q2) l k am);have e1:l.getD k (0,0)=l[k]:=(by simp[am]);rw[e1] at g1 g2;obtain⟨r,hr⟩:=ZF (l[k]);rw[hr] at g1 g2 S;obtain⟨r1,r2⟩:=r;simp only at g1 g2;clear hr e1;by_cases he:q1=r1
   ·subst he;by_cases hf:q2=r2
    ·subst hf;have R:Hid (Wg (q1,q2) l 0=k):=(by show _=_;rw[Za A,Za S,if_pos rfl]);clear A;go_wp2
     go_quiet (fail)
     go_wp2;go_ret;exact⟨by rw[Za R];rfl,Zf af (by simp only[World.drewN_drewN];exact Z9 _ _)⟩
    ·have R:Hid (Wg (q1,q2) l 0=Wg (q1,q2) (l.drop (k+1)) (k+1)):=(by show _=_;rw[Za A,Za S,if_neg (λe=>hf (by injection e))]);clear A;go_wp2
     go_quiet (fail)
     go_wp2;go_roundw
     case rel=>exact⟨k+1,m+nq,by omega,by go_num,rfl,R⟩
     case measure=>simp[intOf];omega
   ·have R:Hid (Wg (q1,q2) l 0=Wg (q1,q2) (l.drop (k+1)) (k+1)):=(by show _=_;rw[Za A,Za S,if_neg (λe=>he (by injection e))]);clear A;go_wp2
    go_quiet (fail)
    go_wp2;go_roundw
    case rel=>exact⟨k+1,m+nq,by omega,by go_num,rfl,R⟩
    case measure=>simp[intOf];omega
  ·have R:Hid (Wg (q1,q2) l 0 = -1):=by
    show _=_;rw[Za A,bA (by rw[Za HZ];omega)];rfl
   clear A;go_wp2;go_ret;exact⟨by rw[Za R];rfl,Zf af (Z9 _ _)⟩
theorem At(a c)(q1 q2:Int)(w:World) :
  ZH 94 #[F a 0 c,.agg #[E J q1,E J q2]] w (E J (-1)):=by
 have HB:=Zb (Zh w (dA #[E J q1,E J q2] 87));go_enter func94,ntmps94;go_wp2;refine bB 1 ?_;rw[aS];go_wp2;go_ret;exact⟨rfl,Za HB⟩
theorem N9(a)(n c:Nat)(l)(q1 q2:Int)(o:Bool)(w:World)(hn:n<=6)(h:OpsAt w a n l)(ho:decide ((q1,q2)∈l)=o) :
  ZH 55 #[F a n c,.agg #[E J q1,E J q2]] w (dF o):=by
 have hb:=Zh w (dA #[E J q1,E J q2] 87)
 have C:Calls aB 94 #[F a n c,.agg #[E J q1,E J q2]] (w.alloc (dA #[E J q1,E J q2] 87)) λe w'=>e = dB (E J (Wg (q1,q2) l 0))/\Below (w.alloc (dA #[E J q1,E J q2] 87)).heap.size (w.alloc (dA #[E J q1,E J q2] 87)) w':=by
  by_cases h0:n=0
  ·subst h0;have e:l=[]:=aJ.1 h.1;subst e;exact At a c q1 q2 _
  ·obtain⟨b,off,rfl,hc⟩:=(h.later hb).2 (by omega);exact As b off n c l q1 q2 _ hn h.1 hc
 have ac:Hid (decide (0<=Wg (q1,q2) l 0)=o):=by show _=_;rw[Dw,ho]
 obtain⟨z,hz⟩:=ZF (Wg (q1,q2) l 0);rw[hz] at C ac;obtain⟨CC,HB⟩:=kh2 C hb;cases o with
 | true=>
  have h0:0<=z:=of_decide_eq_true ac;go_enter func55,ntmps55;go_wp2_with fail;refine CC.mono ?_;rintro e w' ⟨rfl,ae⟩;have ad:=Zb (Zf HB ae);go_wp2;go_ret;exact⟨rfl,Za ad⟩
 | false=>
  have h2:decide (0<=z)=false:=Za ac;have h1:z<0:=by have:=of_decide_eq_false h2;omega
  go_enter func55,ntmps55;go_wp2_with fail;refine CC.mono ?_;rintro e w' ⟨rfl,ae⟩;have ad:=Zb (Zf HB ae);go_wp2;go_ret;exact⟨rfl,Za ad⟩
theorem Gt{w:World}{base:Nat}{v}{n:Nat}{N:List Int}(h:w.ownsRow base 3 1 v n (N.map (aU .i64)))(hm:n<=aT):∃ a cap,v = F a n cap/\RowAt w a n N:=by
 have hl:N.length=n:=by have:=h.1;simpa using this
 rcases h.2 with ⟨rfl,rfl⟩|⟨g,cap,ad,rfl,_,_,h1,h2,_,_⟩
 ·have e:N=[]:=aJ.1 hl;subst e;exact⟨aD,0,rfl,RowAt.nil _ _⟩
 ·refine⟨_,cap,rfl,hl,hm,λ_=>⟨g,0,rfl,λi hi=>?_⟩⟩;rw[bO,World.ownsRow.cellAt h i (by omega)];have ab:i<N.length:=by omega
  simp[ab]
def Lt(I:List InD):List (Int×Int):=I.map λx=>(x.1,x.2.1)
theorem Zpk(x:InD)(I:List InD):decide ((x.1,x.2.1)∈Lt I)=I.any (Wz x):=by
 rw[Bool.eq_iff_iff,decide_eq_true_iff,List.any_eq_true];unfold Lt Wz;rw[List.mem_map];constructor
 ·rintro ⟨y,hy,e⟩;injection e with e1 e2;exact⟨y,hy,by simp[e1,e2]⟩
 ·rintro ⟨y,hy,e⟩;simp only[Bool.and_eq_true,decide_eq_true_eq] at e;exact⟨y,hy,by rw[e.1,e.2]⟩
theorem Tryz.infoPoint:(Tryz.prog.info? 87).map (λi=>(i.zero,i.size,i.bytes))=dG (dG (.agg #[E J 0,E J 0]),2,16):=by kernel_rfl
set_option maxRecDepth 10000 in
theorem Zlc(h:Int)(ai ao ni ci no co I O)(z:Int)(w:World)(hI:InsAt w ai ni I)(hO:OutsAt w ao no O)(df:ni<=6)(dg:no<=6)(dl:0<no)(hn:ni=0)(di:1<=h)(dj:h<=1000)(hz:Zx O=z) :
  ZH 25 #[.agg #[E J h,F ai ni ci,F ao no co]] w (E J z):=by
 obtain⟨i1,cp,cu,cw,cx⟩:=bX Tryz.infoInt;have hb:=Zh w (dA #[E J h,F ai ni ci,F ao no co] 50);obtain⟨n0,n1,n2⟩:=Vd w (E J h) (F ai ni ci) (F ao no co) 50;obtain⟨W,hW⟩:=ZG (w.alloc (dA #[E J h,F ai ni ci,F ao no co] 50));rw[<-hW] at hb n0 n1 n2;obtain⟨HB,HI,HO,N2⟩:=kh4 hb (hI.later hb) (hO.later hb) n2;have q1:¬(6:Int)<(ni:Int):=by omega
 have q2:¬(6:Int)<(no:Int):=by omega
 have q3:((no:Int) == 0)=false:=by simp;omega
 have HZ:=Zb hz;have g1:¬(h<1):=by omega
 have g2:¬(1000<h):=by omega
 subst hn;clear hI hO hz hb;go_enter func25,ntmps25;go_wp2;rw[<-hW];clear hW;refine bB 1 ?_;rw[aS];go_wp2;have cc:=Zb (Below.refl W.heap.size W);have cg:Hid (W.ownsRow W.heap.size 3 1 (F aD 0 0) 0 ((([]:List Int).map (aU .i64)))):=⟨rfl,Or.inl ⟨rfl,rfl⟩⟩
 go_loopw [7,100] (λv i wr=>∃ k:Nat,k<=no/\i = E J k/\ZD W wr/\Hid (wr.ownsRow W.heap.size 3 1 v k (((O.take k).map (·.1)).map (aU .i64)))/\Hid (Z0 O=Z0 (O.drop k))) (λ_ i _=>no - (intOf i).toNat)
 case atStart=>exact⟨0,aI _,rfl,Za cc,cg,rfl⟩
 case round=>
  obtain⟨k,cq,rfl,hb,be,A⟩:=hrel;have aj:=Zb hb;by_cases ct:k<no
  ·obtain⟨cy,bq⟩:=Za HO;obtain⟨b,off,rfl,dh,hc⟩:=bq (by omega);have ak:k<O.length:=(by omega);have bs:=OutAt.kept _ _ _ _ _ hb (hc k ak);obtain⟨ST,SS,TK⟩:=kh3 (Jx O k ak) (Jy O k ak) (aH ak);obtain⟨x,hx⟩:=ZF (O[k]);rw[hx] at bs ST SS TK;obtain⟨x1,ad⟩:=x;obtain⟨g1,ka,kn,kc,g3,g4,_⟩:=bs;simp only at g1 g3 g4;have af:=Zh wr (dA #[E J x1,F ka kn kc] 92);obtain⟨n1,n2⟩:=U5 wr (E J x1) (F ka kn kc) 92;obtain⟨KO,ce,ap,cl⟩:=kh4 (g4.later af) n1 af (Xi be af);clear hb hx g4 n1 hc bq;by_cases ax:x1<1
   ·have R:Hid (z=3):=by
     have e:Yz (x1,ad)=3:=Sc ax;have e2:Z0 O=3:=(by rw[Za A,(Za ST) (by rw[e];decide),e]);show _=_;rw[<-Za HZ];unfold Zx;rw[e2];rfl
    have am:=Zb (Zf aj ap);clear A ST SS af;go_wp2;go_ret;exact⟨by rw[Za R];rfl,Zf HB am⟩
   ·have CK:=Zb (Jj ka kn kc ad _ KO);by_cases ab:chk ad=0
    ·have R:Hid (Z0 O=Z0 (O.drop (k+1))):=by
      have e:Yz (x1,ad)=0:=(by rw[V7 ax];exact ab);show _=_;rw[Za A,(Za SS) e]
     rw[ab] at CK;clear A ST SS ab af;go_wp2_with fail;refine CK.mono ?_;rintro e w3 ⟨rfl,ac⟩;have m1:=Ze ac ce;have dm:=aC _ _ m1;have aw:=Zh w3 (dA #[E J x1] 3);obtain⟨bf,cf,an⟩:=kh3 (Xi (Xi cl ac) aw) (bI (aG w3 (dA #[E J x1] 3))) (Zf (Zf (Zf aj ap) ac) aw);clear ac aw
     go_wp2_with (at_builtin;refine wpList_append_own _ rfl _ _ 25 rfl W.heap.size 3 i1 (E J 0) 1 8 cR cp cu cw cx rfl (by decide) _ _ _ rfl bf ⟨w3.heap.size,0,aD⟩ 1 1 [E J x1] rfl rfl cf (λu hu=>by simp at hu;subst hu;rfl) (by unfold aT;omega) (by omega) an.size ?_;intro v7 w7 bu br _)
     have cj:Hid (w7.ownsRow W.heap.size 3 1 v7 (k+1) (((O.take (k+1)).map (·.1)).map (aU .i64))):=by
      show cP _ _ _ _ _ _ _;rw[Za TK,bN,bN];exact bu
     have cb:=Zb (an.grown br an.size (Qe bf));clear bu br;go_roundw
     case rel=>exact⟨k+1,by omega,by go_num,Za cb,cj,R⟩
     case measure=>simp[intOf];omega
    ·obtain⟨y,hy⟩:=ZF (chk ad)
     have R:Hid (z=y):=by
      have e:Yz (x1,ad)=chk ad:=V7 ax;have e2:Z0 O=y:=(by rw[Za A,(Za ST) (by rw[e];exact ab),e];exact hy);show _=_;rw[<-Za HZ];unfold Zx;rw[e2,if_neg (by rw[<-hy];exact ab)]
     rw[hy] at CK;rw[hy] at ab;have gz:(y != 0)=true:=(by simp[ab]);clear A ST SS hy ab af;go_wp2_with fail;refine CK.mono ?_;rintro e w3 ⟨rfl,ac⟩;have am:=Zb (Zf (Zf aj ap) ac);clear ac;go_wp2;go_ret;exact⟨by rw[Za R];rfl,Zf HB am⟩
  ·have e:k=no:=(by omega);subst e;have cy:=HO.1
   have R:Hid (z=(sm 0 (O.map (·.1))).2):=by
    show _=_;rw[<-Za HZ];unfold Zx;rw[Za A,Ri O k (by omega)];rfl
   have ay:=Za be;rw[aM (by omega)] at ay;obtain⟨av,cv,rfl,bv⟩:=Gt ay (by unfold aT;omega);have SM:=Zb (Dm av k cv (O.map (·.1)) _ bv);obtain⟨s,hs⟩:=ZF (sm 0 (O.map (·.1)));rw[hs] at SM R;obtain⟨s1,s2⟩:=s;clear A hb ay bv hs ct cq;go_wp2_with fail;refine SM.mono ?_;rintro e w' ⟨rfl,rfl⟩;go_wp2;go_ret;exact⟨by rw[Za R];rfl,Zf HB aj⟩
set_option maxRecDepth 10000 in
theorem Zld(h:Int)(ai ao ni ci no co I O)(z:Int)(w:World)(hI:InsAt w ai ni I)(hO:OutsAt w ao no O)(eu:ni<=6)(ev:no<=6)(fb:0<no)(hn:0<ni)(hh:h=0)(hz:(if Z8 [] I≠0 then Z8 [] I else Zx O)=z) :
  ZH 25 #[.agg #[E J h,F ai ni ci,F ao no co]] w (E J z):=by
 obtain⟨i1,dv,ef,eg,eh⟩:=bX Tryz.infoInt;have hb:=Zh w (dA #[E J h,F ai ni ci,F ao no co] 50);obtain⟨n0,n1,n2⟩:=Vd w (E J h) (F ai ni ci) (F ao no co) 50;obtain⟨W,hW⟩:=ZG (w.alloc (dA #[E J h,F ai ni ci,F ao no co] 50));rw[<-hW] at hb n0 n1 n2;obtain⟨HB,HI,HO,N2⟩:=kh4 hb (hI.later hb) (hO.later hb) n2;have q1:¬(6:Int)<(ni:Int):=by omega
 have q2:¬(6:Int)<(no:Int):=by omega
 have q3:((no:Int) == 0)=false:=by simp;omega
 have HZ:=Zb hz;subst hh;have g1:(0:Int)<(ni:Int):=by omega
 have g2:((ni:Int) == 0)=false:=by simp;omega
 go_enter func25,ntmps25;go_wp2;rw[<-hW];obtain⟨i2,dw,dz,ea,eb⟩:=bX Tryz.infoPoint;have dj:Hid (W.ownsRow W.heap.size 87 2 (F aD 0 0) 0 (flat (Lt (I.take 0)))):=⟨rfl,Or.inl ⟨rfl,rfl⟩⟩
 go_loopw [3,55] (λv i wr=>∃ k:Nat,k<=ni/\i = E J k/\ZD W wr/\Hid (wr.ownsRow W.heap.size 87 2 v k (flat (Lt (I.take k))))/\Hid (Z8 [] I=Z8 (I.take k) (I.drop k))) (λ_ i _=>ni - (intOf i).toNat)
 case atStart=>exact⟨0,aI _,rfl,Below.refl _ _,dj,rfl⟩
 case round=>
  obtain⟨k,hk,rfl,hb,cj,A⟩:=hrel;have ah:=Zb hb;by_cases dx:k<ni
  ·obtain⟨fd,br⟩:=Za HI;obtain⟨b,off,rfl,dt,hc⟩:=br (by omega);have ak:k<I.length:=(by omega);have aw:=InAt.kept _ _ _ _ _ hb (hc k ak);obtain⟨ST,SS,TK⟩:=kh3 (Ho I k ak) (Hp I k ak) (aH ak);obtain⟨x,hx⟩:=ZF (I[k]);rw[hx] at aw ST SS TK;obtain⟨x1,x2,aa⟩:=x;obtain⟨g1,g2,ka,kn,kc,g3,g4,_⟩:=aw;simp only at g1 g2 g3 g4;have ap:=Zh wr (dA #[E J x1,E J x2,F ka kn kc] 90);obtain⟨m1,m2,m3⟩:=Vd wr (E J x1) (E J x2) (F ka kn kc) 90;obtain⟨KO,M1,M2,an,bh⟩:=kh5 (g4.later ap) m1 m2 ap (Xi cj ap);have CK:=Zb (Jj ka kn kc aa _ KO);cases hp:P9 (x1,x2,aa) with
   | false=>
    have R:Hid (z=3):=by
     have e:=Fw (pre:=I.take k) hp;show _=_;rw[<-Za HZ,Za A,(Za ST) (by rw[e];decide),e];rfl
    have ac:=Zb (Zf ah an)
    have cx:¬(((1<=x1/\x1<=120)/\0<=x2/\x2<=5)):=λh=>by
     have:=(J9 (x1,x2,aa)).2 (by simpa using h);rw[hp] at this;cases this
    by_cases w1:x1<1
    ·skip
     go_wp2;go_ret;exact⟨by rw[Za R];rfl,Zf HB ac⟩
    ·by_cases w2:120<x1
     ·skip
      go_wp2;go_ret;exact⟨by rw[Za R];rfl,Zf HB ac⟩
     ·by_cases w3:x2<0
      ·skip
       go_wp2;go_ret;exact⟨by rw[Za R];rfl,Zf HB ac⟩
      ·have w4:5<x2:=(by omega);go_wp2;go_ret;exact⟨by rw[Za R];rfl,Zf HB ac⟩
   | true=>
    have cx:=(J9 (x1,x2,aa)).1 hp;simp only at cx;have w1:¬x1<1:=(by omega);have w2:¬120<x1:=(by omega);have w3:¬x2<0:=(by omega);have w4:¬5<x2:=(by omega);by_cases ab:chk aa=0
    ·obtain⟨o,ho⟩:=ZF ((I.take k).any (Wz (x1,x2,aa)));rw[ab] at CK;have pm:=Zpk (x1,x2,aa) (I.take k);rw[ho] at pm;simp only at pm;have PM:=Zb pm;have E6:=Zb (λh=>Pw (pre:=I.take k) hp ab (ho.trans h));have E0:=Zb (λh=>Fx (pre:=I.take k) hp ab (ho.trans h));obtain⟨av,cv,rfl,-⟩:=L7 cj;go_wp2_with fail;refine CK.mono ?_;rintro e cy ⟨rfl,ad⟩;have c1:=Ze ad M1;have c2:=Ze ad M2;have ee:=aC _ _ c1;obtain⟨cl,ac⟩:=kh2 (Xi bh ad) (Zf (Zf ah an) ad);obtain⟨es,et,fj,dy⟩:=L7 cl;cases fj;obtain⟨CP,C1,C2⟩:=kh3 (N9 av k cv (Lt (I.take k)) x1 x2 o cy (by omega) dy PM) c1 c2;cases o with
     | true=>
      have e6:=E6 rfl
      have R:Hid (z=6):=by
       show _=_;rw[<-Za HZ,Za A,(Za ST) (by rw[e6];decide),e6];rfl
      go_wp2_with fail;refine CP.mono ?_;rintro e ay ⟨rfl,aj⟩;have aq:=Zb (Zf ac aj);go_wp2;go_ret;exact⟨by rw[Za R];rfl,Zf HB aq⟩
     | false=>
      have R:Hid (Z8 [] I=Z8 (I.take (k+1)) (I.drop (k+1))):=by
       show _=_;rw[Za A,(Za SS) (E0 rfl)]
      go_wp2_with fail;refine CP.mono ?_;rintro e ay ⟨rfl,aj⟩;have d1:=Ze aj C1;have d2:=Ze aj C2;have fc:=aC _ _ d1;have cu:=Zh ay (dA #[E J x1,E J x2] 87);obtain⟨cn,bf,az⟩:=kh3 (Xi (Xi cl aj) cu) (bI (aG ay (dA #[E J x1,E J x2] 87))) (Zf (Zf ac aj) cu)
      go_wp2_with (at_builtin;refine wpList_append_own _ rfl _ _ 115 rfl W.heap.size 87 i2 (.agg #[E J 0,E J 0]) 2 16 underlying115 dw dz ea eb rfl (by decide) _ _ _ rfl cn ⟨ay.heap.size,0,aD⟩ 1 1 [E J x1,E J x2] rfl rfl bf (λu hu=>by simp at hu;rcases hu with rfl|rfl <;> rfl) (by unfold aT;omega) (by omega) az.size ?_;intro v7 w7 bw bs _)
      have bg:Hid (w7.ownsRow W.heap.size 87 2 v7 (k+1) (flat (Lt (I.take (k+1))))):=by
       show cP _ _ _ _ _ _ _;rw[Za TK];unfold Lt;rw[bN,Hg];exact bw
      have bd:=Zb (az.grown bs az.size (Qe cn));go_roundw
      case rel=>exact⟨k+1,by omega,by go_num,Za bd,bg,R⟩
      case measure=>simp[intOf];omega
    ·obtain⟨y,hy⟩:=ZF (chk aa)
     have R:Hid (z=y):=by
      have e:=Nc (pre:=I.take k) hp ab;simp only at e;show _=_;rw[<-Za HZ,Za A,(Za ST) (by rw[e];exact ab),e,if_pos ab];exact hy
     rw[hy] at CK;rw[hy] at ab;have gz:(y != 0)=true:=(by simp[ab]);go_wp2_with fail;refine CK.mono ?_;rintro e cy ⟨rfl,ad⟩;have ac:=Zb (Zf (Zf ah an) ad);go_wp2;go_ret;exact⟨by rw[Za R];rfl,Zf HB ac⟩
  ·have e0:Z8 [] I=0:=by rw[Za A];exact Na I k (by rw[(Za HI).1];omega)
   have ej:Zx O=z:=by
    have:=Za HZ;rw[if_neg (by rw[e0];simp)] at this;exact this
   have HZ:=Zb ej;have eo:=Ze hb N2;have fa:=aC _ _ eo;have dd:=ah;obtain⟨WX,ew⟩:=ZG (wr);go_wp2;have di:Hid (wr.ownsRow W.heap.size 3 1 (F aD 0 0) 0 ((([]:List Int).map (aU .i64)))):=⟨rfl,Or.inl ⟨rfl,rfl⟩⟩
   go_loopw [7,100] (λv i wr=>∃ k:Nat,k<=no/\i = E J k/\ZD W wr/\Hid (wr.ownsRow W.heap.size 3 1 v k (((O.take k).map (·.1)).map (aU .i64)))/\Hid (Z0 O=Z0 (O.drop k))) (λ_ i _=>no - (intOf i).toNat)
   case atStart=>exact⟨0,aI _,rfl,Za dd,di,rfl⟩
   case round=>
    obtain⟨k,ez,rfl,hb,cg,A⟩:=hrel;have ah:=Zb hb;by_cases dx:k<no
    ·obtain⟨ek,br⟩:=Za HO;obtain⟨b,off,rfl,dt,hc⟩:=br (by omega);have ak:k<O.length:=(by omega);have aw:=OutAt.kept _ _ _ _ _ hb (hc k ak);obtain⟨ST,SS,TK⟩:=kh3 (Jx O k ak) (Jy O k ak) (aH ak);obtain⟨x,hx⟩:=ZF (O[k]);rw[hx] at aw ST SS TK;obtain⟨x1,aa⟩:=x;obtain⟨g1,ka,kn,kc,g3,g4,_⟩:=aw;simp only at g1 g3 g4;have ap:=Zh wr (dA #[E J x1,F ka kn kc] 92);obtain⟨n1,n2⟩:=U5 wr (E J x1) (F ka kn kc) 92;obtain⟨KO,dg,an,bh⟩:=kh4 (g4.later ap) n1 ap (Xi cg ap);by_cases bu:x1<1
     ·have R:Hid (z=3):=by
       have e:Yz (x1,aa)=3:=Sc bu;have e2:Z0 O=3:=(by rw[Za A,(Za ST) (by rw[e];decide),e]);show _=_;rw[<-Za HZ];unfold Zx;rw[e2];rfl
      have ac:=Zb (Zf ah an);go_wp2;go_ret;exact⟨by rw[Za R];rfl,Zf HB ac⟩
     ·have CK:=Zb (Jj ka kn kc aa _ KO);by_cases ab:chk aa=0
      ·have R:Hid (Z0 O=Z0 (O.drop (k+1))):=by
        have e:Yz (x1,aa)=0:=(by rw[V7 bu];exact ab);show _=_;rw[Za A,(Za SS) e]
       rw[ab] at CK;go_wp2_with fail;refine CK.mono ?_;rintro e w3 ⟨rfl,ad⟩;have m1:=Ze ad dg;have ee:=aC _ _ m1;have aj:=Zh w3 (dA #[E J x1] 3);obtain⟨cm,bf,aq⟩:=kh3 (Xi (Xi bh ad) aj) (bI (aG w3 (dA #[E J x1] 3))) (Zf (Zf (Zf ah an) ad) aj)
       go_wp2_with (at_builtin;refine wpList_append_own _ rfl _ _ 25 rfl W.heap.size 3 i1 (E J 0) 1 8 cR dv ef eg eh rfl (by decide) _ _ _ rfl cm ⟨w3.heap.size,0,aD⟩ 1 1 [E J x1] rfl rfl bf (λu hu=>by simp at hu;subst hu;rfl) (by unfold aT;omega) (by omega) aq.size ?_;intro v7 w7 bw bs _)
       have bg:Hid (w7.ownsRow W.heap.size 3 1 v7 (k+1) (((O.take (k+1)).map (·.1)).map (aU .i64))):=by
        show cP _ _ _ _ _ _ _;rw[Za TK,bN,bN];exact bw
       have bd:=Zb (aq.grown bs aq.size (Qe cm));go_roundw
       case rel=>exact⟨k+1,by omega,by go_num,Za bd,bg,R⟩
       case measure=>simp[intOf];omega
      ·obtain⟨y,hy⟩:=ZF (chk aa)
       have R:Hid (z=y):=by
        have e:Yz (x1,aa)=chk aa:=V7 bu;have e2:Z0 O=y:=(by rw[Za A,(Za ST) (by rw[e];exact ab),e];exact hy);show _=_;rw[<-Za HZ];unfold Zx;rw[e2,if_neg (by rw[<-hy];exact ab)]
       rw[hy] at CK;rw[hy] at ab;have gz:(y != 0)=true:=(by simp[ab]);go_wp2_with fail;refine CK.mono ?_;rintro e w3 ⟨rfl,ad⟩;have ac:=Zb (Zf (Zf ah an) ad);go_wp2;go_ret;exact⟨by rw[Za R];rfl,Zf HB ac⟩
    ·have e:k=no:=(by omega);subst e;have ek:=HO.1
     have R:Hid (z=(sm 0 (O.map (·.1))).2):=by
      show _=_;rw[<-Za HZ];unfold Zx;rw[Za A,Ri O k (by omega)];rfl
     have cw:=Za cg;rw[aM (by omega)] at cw;obtain⟨av,cv,rfl,ec⟩:=Gt cw (by unfold aT;omega);have SM:=Zb (Dm av k cv (O.map (·.1)) _ ec);obtain⟨s,hs⟩:=ZF (sm 0 (O.map (·.1)));rw[hs] at SM R;obtain⟨s1,s2⟩:=s;go_wp2_with fail;refine SM.mono ?_;rintro e w' ⟨rfl,rfl⟩;go_wp2;go_ret;exact⟨by rw[Za R];rfl,Zf HB ah⟩
theorem Jk(h:Int)(ai ao ni ci no co I O)(w:World)(hI:InsAt w ai ni I)(hO:OutsAt w ao no O) :
  ZH 25 #[.agg #[E J h,F ai ni ci,F ao no co]] w (E J (Zp (h,I,O))):=by
 have zi:=hI.1;have zo:=hO.1;have HB:=Zb (Zh w (dA #[E J h,F ai ni ci,F ao no co] 50));by_cases h1:6<ni
 ·have e:Zp (h,I,O)=2:=by unfold Zp;rw[if_pos (Or.inl (by show 6<I.length;omega))]
  rw[e];have g:(6:Int)<(ni:Int):=by omega
  go_enter func25,ntmps25;go_wp2;go_ret;exact⟨rfl,Za HB⟩
 ·by_cases h2:6<no
  ·have e:Zp (h,I,O)=2:=(by unfold Zp;rw[if_pos (Or.inr (by show 6<O.length;omega))]);rw[e];have g:¬(6:Int)<(ni:Int):=(by omega);have g':(6:Int)<(no:Int):=(by omega);go_enter func25,ntmps25;go_wp2;go_ret;exact⟨rfl,Za HB⟩
  ·have g:¬(6:Int)<(ni:Int):=(by omega);have g':¬(6:Int)<(no:Int):=(by omega);have e1:¬(6<I.length\/6<O.length):=(by omega);by_cases h3:no=0
   ·have e:Zp (h,I,O)=4:=(by unfold Zp;rw[if_neg e1,if_pos (by show O.length=0;omega)]);rw[e];subst h3;go_enter func25,ntmps25;go_wp2;go_ret;exact⟨rfl,Za HB⟩
   ·have g3:((no:Int) == 0)=false:=(by simp;omega);have e3:¬O.length=0:=(by omega);cases hf:Mq (h,I,O) with
    | false=>
     have e:Zp (h,I,O)=3:=(by unfold Zp;rw[if_neg e1,if_neg e3,if_pos hf]);rw[e];have aa:=hf;rw[Kn h I O ni zi] at aa;by_cases h0:ni=0
     ·subst h0;rw[if_pos rfl] at aa
      have hh:h<1\/1000<h:=by
       by_cases q:h<1
       ·exact Or.inl q
       ·refine Or.inr ?_;simp at aa;have:=aa (by omega);omega
      by_cases q1:h<1
      ·skip
       go_enter func25,ntmps25;go_wp2;go_ret;exact⟨rfl,Za HB⟩
      ·have q2:1000<h:=(by omega);go_enter func25,ntmps25;go_wp2;go_ret;exact⟨rfl,Za HB⟩
     ·rw[if_neg h0] at aa;have hh:(h != 0)=true:=(by simpa using aa);have q1:(0:Int)<(ni:Int):=(by omega);go_enter func25,ntmps25;go_wp2;go_ret;exact⟨rfl,Za HB⟩
    | true=>
     have e4:¬Mq (h,I,O)=false:=by rw[hf];decide
     have e:Zp (h,I,O)=if Z8 [] I≠0 then Z8 [] I else Zx O:=by
      unfold Zp;rw[if_neg e1,if_neg e3,if_neg e4]
     rw[e];have aa:=hf;rw[Kn h I O ni zi] at aa;by_cases h0:ni=0
     ·rw[if_pos h0] at aa;simp at aa;have e5:I=[]:=aJ.1 (by omega);subst e5;exact Zlc h ai ao ni ci no co [] O _ w hI hO (by omega) (by omega) (by omega) h0 aa.1 aa.2 (by rw[if_neg (by simp[Z8])])
     ·rw[if_neg h0] at aa;exact Zld h ai ao ni ci no co I O _ w hI hO (by omega) (by omega) (by omega) (by omega) (by simpa using aa) rfl
namespace Tr
open Go.RowKit
theorem Mp(p h k n:Int):Xp p h k n=true↔(0<=p/\p<=120)/\(1<=h/\h<=1000)/\(1<=k/\k<=1000)/\(0<=n/\n<=1000000000):=by
 unfold Xp;simp[Bool.and_eq_true,decide_eq_true_eq]
set_option maxRecDepth 10000 in
theorem Zgy(p h k n:Int)(a m c)(w:World)(hh:Xp p h k n=false) :
  ZH 46 #[.agg #[E J p,E J h,E J k,E J n,F a m c]] w (E J 3):=by
 have HB:=Zb (Zh w (dA #[E J p,E J h,E J k,E J n,F a m c] 33));have ah:¬((0<=p/\p<=120)/\(1<=h/\h<=1000)/\(1<=k/\k<=1000)/\(0<=n/\n<=1000000000)):=λq=>by rw[(Mp p h k n).2 q] at hh;cases hh
 by_cases c0:p<0
 ·skip
  go_enter func46,ntmps46;go_wp2;go_ret;exact⟨rfl,Za HB⟩
 by_cases c1:120<p
 ·skip
  go_enter func46,ntmps46;go_wp2;go_ret;exact⟨rfl,Za HB⟩
 by_cases c2:h<1
 ·skip
  go_enter func46,ntmps46;go_wp2;go_ret;exact⟨rfl,Za HB⟩
 by_cases c3:1000<h
 ·skip
  go_enter func46,ntmps46;go_wp2;go_ret;exact⟨rfl,Za HB⟩
 by_cases c4:k<1
 ·skip
  go_enter func46,ntmps46;go_wp2;go_ret;exact⟨rfl,Za HB⟩
 by_cases c5:1000<k
 ·skip
  go_enter func46,ntmps46;go_wp2;go_ret;exact⟨rfl,Za HB⟩
 have c6:n<0\/1000000000<n:=by omega
 have C:=Zb (λW=>Hb n W c6);go_enter func46,ntmps46;go_wp2_with fail;refine (C _).mono ?_;rintro e w' ⟨rfl,rfl⟩;go_wp2;go_ret;exact⟨rfl,Za HB⟩
set_option maxRecDepth 10000 in
theorem Zgx(p h k n:Int)(a m c T)(w:World)(hT:TxsAt w a m T)(hh:Xp p h k n=true) :
  ZH 46 #[.agg #[E J p,E J h,E J k,E J n,F a m c]] w (E J (Yu (p,h,k,n,T))):=by
 obtain⟨X,hX,bd,ax⟩:=ka00 w [E J p,E J h,E J k,E J n,F a m c] 33;obtain⟨bq,af,HT⟩:=kh3 ax bd (hT.later bd);have hz:T.length=m:=hT.1;obtain⟨⟨q1,q2⟩,⟨q3,q4⟩,⟨q5,q6⟩,q7,q8⟩:=(Mp p h k n).1 hh;have C:=Zb (Js n X q7 q8);have p1:¬p<0:=by omega
 have p2:¬120<p:=by omega
 have p3:¬h<1:=by omega
 have p4:¬1000<h:=by omega
 have p5:¬k<1:=by omega
 have p6:¬1000<k:=by omega
 unfold Yu;simp only;rw[hz,if_neg (by simp[hh])];obtain⟨x0,x1,x2,x3,x4,xl⟩:=kc5 ax;by_cases h4:4<m
 ·rw[if_pos h4];have g4:(4:Int)<(m:Int):=by omega
  clear hz;go_enter func46,ntmps46;go_wp2_with fail;rw[<-hX];clear hX;refine C.mono ?_;rintro e w' ⟨rfl,rfl⟩;go_wp2;go_ret;exact⟨rfl,Za af⟩
 ·rw[if_neg h4];by_cases h0:m=0
  ·subst h0;rw[if_pos rfl];clear hz h4;go_enter func46,ntmps46;go_wp2_with fail;rw[<-hX];clear hX;refine C.mono ?_;rintro e w' ⟨rfl,rfl⟩;go_wp2;go_ret;exact⟨rfl,Za af⟩
  ·rw[if_neg h0];have g0:((m:Int) == 0)=false:=(by simp[h0]);have g4:¬(4:Int)<(m:Int):=(by omega);have HZ:=Zb hz;obtain⟨b,off,rfl,cj,be⟩:=HT.2 (by omega);have HC:=Zb be;clear hz be;go_enter func46,ntmps46;go_wp2_with fail;rw[<-hX];clear hX;refine C.mono ?_;rintro e w' ⟨rfl,rfl⟩;go_wp2
   go_loopw [52] (λi wr=>∃ j:Nat,j<=m/\i = E J j/\Hid (Yx h 0 T=Yx h j (T.drop j))/\Hid (ZD X wr)) (λi _=>m - (intOf i).toNat)
   case atStart=>exact⟨0,aI _,rfl,rfl,(Below.refl _ _:ZD X X)⟩
   case round=>
    obtain⟨j,hj,rfl,A,al⟩:=hrel;by_cases ca:j<m
    ·have bh:j<T.length:=(by rw[Za HZ];exact ca);have bg:=TxAt.kept _ _ _ _ _ al (HC j bh);have ST:=Zb (Zbe h T j bh);obtain⟨t,ht⟩:=ZF (T[j]);rw[ht] at bg ST;obtain⟨t1,I,O⟩:=t;obtain⟨bu,⟨ai,ni,ci,g1,hI,sI⟩,ao,no,co,g2,hO,_⟩:=bg;have A2:Hid (Yx h 0 T=if Zp (t1,I,O)≠0 then Zp (t1,I,O) else if Uz (t1,I,O) j h=false then 4 else Yx h (j+1) (T.drop (j+1))):=(by show _=_;rw[Za A,Za ST]);simp only at bu g1 g2 hI hO;obtain⟨Y,hY,ap,az⟩:=ka00 wr [E J t1,F ai ni ci,F ao no co] 50;obtain⟨br,ar⟩:=kh2 az (Zf al ap);obtain⟨y0,y1,y2,yl⟩:=kc3 az;obtain⟨x,hx⟩:=ZF (Zp (t1,I,O));have CT:=Zb (Jk t1 ai ao ni ci no co I O Y (hI.later ap) (hO.later ap));rw[hx] at A2 CT
     have SD:Hid (Uz (t1,I,O) j h=if 0<(j:Int) then !decide (ni=0) else decide (ni=0) && decide (t1=h)):=by
      show _=_;unfold Uz;simp only;rw[hI.1]
     by_cases aq:x=0
     ·subst aq
      have A3:Hid (Yx h 0 T=if (if 0<(j:Int) then !decide (ni=0) else decide (ni=0) && decide (t1=h))=false then 4 else Yx h (j+1) (T.drop (j+1))):=by
       have q:=Za A2;rw[if_neg (by decide),Za SD] at q;exact q
      go_wp2_with fail;rw[<-hY];go_wp2_with fail;refine CT.mono ?_;rintro e w2 ⟨rfl,aj⟩;have cd:=ZE aj br;have ah:=Zb (Zf ar aj);have bz:=ZE ah bq;obtain⟨z0,z1,z2,zl⟩:=kc3 cd;obtain⟨-,k1,kl⟩:=kc2 bz;have ab:=Zb (Zf af ah);by_cases j0:j=0
      ·have gj:((j:Int) == 0)=true:=(by simp[j0]);have ac:¬(0:Int)<(j:Int):=(by omega);by_cases n0:ni=0
       ·subst n0;by_cases e1:t1=h
        ·subst e1;have gt:(t1 != t1)=false:=(by simp);have R:Hid (Yx t1 0 T=Yx t1 (j+1) (T.drop (j+1))):=(by show _=_;rw[Za A3,if_neg ac];simp);go_wp2;go_roundw
         case rel=>exact⟨j+1,by omega,by go_num,R,ah⟩
         case measure=>simp[intOf];omega
        ·have gt:(t1 != h)=true:=(by simp[e1]);have R:Hid (Yx h 0 T=4):=(by show _=_;rw[Za A3,if_neg ac];simp[e1]);go_wp2;go_ret;exact⟨by rw[Za R];rfl,Za ab⟩
       ·have gn:((ni:Int) == 0)=false:=(by simp[n0]);have R:Hid (Yx h 0 T=4):=(by show _=_;rw[Za A3,if_neg ac];simp[n0]);go_wp2;go_ret;exact⟨by rw[Za R];rfl,Za ab⟩
      ·have gj:((j:Int) == 0)=false:=(by simp[j0]);have ac:(0:Int)<(j:Int):=(by omega);by_cases n0:ni=0
       ·subst n0;have R:Hid (Yx h 0 T=4):=(by show _=_;rw[Za A3,if_pos ac];simp);go_wp2;go_ret;exact⟨by rw[Za R];rfl,Za ab⟩
       ·have gn:((ni:Int) == 0)=false:=(by simp[n0]);have R:Hid (Yx h 0 T=Yx h (j+1) (T.drop (j+1))):=(by show _=_;rw[Za A3,if_pos ac];simp[n0]);go_wp2;go_roundw
        case rel=>exact⟨j+1,by omega,by go_num,R,ah⟩
        case measure=>simp[intOf];omega
     ·have R:Hid (Yx h 0 T=x):=(by show _=_;rw[Za A2,if_pos aq]);have gx:(x != 0)=true:=(by simp[aq]);go_wp2_with fail;rw[<-hY];go_wp2_with fail;refine CT.mono ?_;rintro e w2 ⟨rfl,aj⟩;have ab:=Zb (Zf af (Zf ar aj));go_wp2;go_ret;exact⟨by rw[Za R];rfl,Za ab⟩
    ·have R:Hid (Yx h 0 T=0):=(by show _=_;rw[Za A,Ft h T j (by rw[Za HZ];omega)]);have ab:=Zb (Zf af al);go_wp2;go_ret;exact⟨by rw[Za R];rfl,Za ab⟩
theorem rchkBlock_any(p h k n:Int)(a m c T)(x:Int)(w:World)(hT:TxsAt w a m T)(hx:Yu (p,h,k,n,T)=x) :
  ZH 46 #[.agg #[E J p,E J h,E J k,E J n,F a m c]] w (E J x):=by
 subst hx;cases hh:Xp p h k n with
 | false=>
  have e:Yu (p,h,k,n,T)=3:=by unfold Yu;simp only;rw[if_pos hh]
  rw[e];exact Zgy p h k n a m c w hh
 | true=>exact Zgx p h k n a m c T w hT hh
end Go.Proofs.YtbddijbmepdliaaGreatDoor.Tr
namespace Go.Proofs.YtbddijbmepdliaaGreatDoor.Bk
open Go.RowKit Go.Maps
theorem Zft(z:Array Value)(n:Nat):(Builtin.zeroCells z n).size=n*z.size:=by simp[Builtin.zeroCells]
theorem Zmn(n:Nat)(w:World)(hn:n<=240) :
  Calls aB 132 #[F aD 0 0,E J n] w λe w'=>∃ v,e = dB v/\w'.ownsRow w.heap.size 9 1 v 0 []/\ZD w w':=by
 obtain⟨i0,hi,ac,ad,ae⟩:=bX Tryz.info9;by_cases h:n=0
 ·subst h;exact (Any8.slices_Grow_room Tryz.growS aD 0 0 0 w (aE _) (by omega) (by omega) (by omega)).mono λe w' ⟨h1,h2⟩=>⟨_,h1,⟨rfl,Or.inl ⟨rfl,rfl⟩⟩,h2 ▸ Below.refl _ _⟩
 ·refine (Any8.slices_Grow_grow Tryz.growS i0 (.string ⟨#[]⟩) hi ac (by rw[ad];decide) aD 0 0 n [] w (aE _) (by omega) (by rw[ae];omega) (by omega) (by simp) (λ_=>rfl) (λa h=>by cases h)).mono λe w' ⟨h1,h2⟩=>⟨_,h1,?_,?_⟩
  ·rw[h2];have ag:=grownCap_ge w (0+n) 0 (Tryz.growS_ren.t 25);have ab:=grownCap_le_maxLen w (0+n) 0 (Tryz.growS_ren.t 25) (by unfold aT;omega);refine⟨rfl,Or.inr ⟨w.heap.size,_,_,rfl,aE _,aG _ _,aI _,ab,?_,rfl⟩⟩;simp only[Array.size_append,Zft,List.size_toArray,List.length_nil];show 0+(0+n - 0)*1+_*1=_*1;omega
  ·rw[h2];exact⟨rfl,rfl,rfl,by simp,λk hk=>Below.heap_alloc w.drew _ k hk⟩
theorem TextsAt.news{w:World}{x:Addr}{len:Nat}{L:List ByteArray}(h:TextsAt w (dG x) len L)(j:Nat)(u)(hj:(L.map cF)[j]? = dG u):w.cell? (x.add j)=dG u:=by
 have ab:j<L.length:=by
  rcases Nat.lt_or_ge j L.length with h|h
  ·exact h
  ·rw[List.getElem?_eq_none (by simpa using h)] at hj;cases hj
 have hz:=h.1;obtain⟨b,off,hx,hc⟩:=h.2 (by omega);cases hx;have ac:(⟨b,off,aD⟩:Addr).add j=⟨b,off+j,aD⟩:=by unfold Addr.add;split <;> simp_all
 rw[ac,hc j ab];simpa[ab] using hj
set_option maxRecDepth 100000 in
theorem Zdw(B:Nat)(cq)(y:Addr)(aa aw len cap:Nat)(k l)(w:World)(cj:aa+len<=240)(hK:TextsAt w cq aa k)(hL:TextsAt w (dG y) len l)
  (cf:cq=aD->aa=0/\aw=0)
  (c0:w.cell? ⟨B,0,aD⟩=dG (F cq aa aw)) (c1:w.cell? ⟨B,1,aD⟩=dG (F (dG y) len cap)) :
  Calls aB 96 #[F (dG ⟨B,0,aD⟩) 2 2] w λe w'=>∃ a' ac,e = dB (F a' (aa+len) ac)/\TextsAt w' a' (aa+len) (k++l)/\SlOk a' (aa+len) ac/\(∀ y,a'=dG y->w.heap.size<=y.block)/\ZD w w':=by
 obtain⟨i0,hi,be,bf,bg⟩:=bX Tryz.info9;have am:B<w.heap.size:=aC _ _ c0;have cm:=hK.1;have cn:=hL.1;obtain⟨HK,HL,bx,br,bs⟩:=kh5 hK hL cf cm cn;go_enter func96,ntmps96;go_wp2;refine bB 3 ?_;rw[aS];go_wp2;rw[aS];go_wp2;rw[aS];have GR:=Zb (Zmn (aa+len) w cj);rw[Int.natCast_add] at GR;go_wp2_with fail;refine GR.mono ?_;rintro e w1 ⟨v,rfl,cl,ay⟩;obtain⟨ak,ad⟩:=kh2 cl ay;have bz:=(ay.cell (p:=⟨B,0,aD⟩) am).trans c0;have cb:=(ay.cell (p:=⟨B,1,aD⟩) am).trans c1
 rcases cq with _|x
 ·go_wp2;refine bB 3 ?_;rw[aS];obtain⟨rfl,rfl⟩:=bx (by trivial);have ek:k=[]:=aJ.1 br;subst ek
  go_wp2_with (at_builtin;refine wpList_append_own_none rfl _ _ 22 rfl w.heap.size 9 i0 1 cU hi _ _ _ rfl ak rfl ?_)
  have ae:Hid (w1.ownsRow w.heap.size 9 1 v (0+0) (([]:List ByteArray).map cF)):=Za ak;have ab:=ad;have ca:=bz;have cc:=cb;go_wp2;rw[aS]
  go_wp2_with (at_builtin;refine wpList_append_own _ rfl _ _ 22 rfl w.heap.size 9 i0 (.string ⟨#[]⟩) 1 16 cU hi be bf bg rfl (by decide) _ _ _ rfl ae y len cap (l.map cF) rfl (by rw[cO,Za bs];omega) (λj u hj=>(HL.later ab).news j u hj) (λu hu=>by obtain⟨x,_,rfl⟩:=List.mem_map.1 hu;rfl) (by unfold aT;omega) (by omega) ab.size ?_;intro v2 w3 bd az _)
  have af:Hid (w3.ownsRow w.heap.size 9 1 v2 ((0+0)+len) ((([]:List ByteArray)++l).map cF)):=by rw[bN];exact bd
  have ap:=Zb (ab.grown az ab.size (Qe ae));obtain⟨a',ac,hv,s1,s2,s3,hO⟩:=Wn af;have aq:Hid (∀ y,a'=dG y->w.heap.size<=y.block):=λy e=>Qe af y.block (by rw[hv,e];rfl);obtain⟨HV,ar⟩:=kh2 hv hO;have au:Hid (SlOk a' ((0+0)+len) ac):=⟨s1,s2,s3⟩;go_wp2;rw[aS];go_wp2;go_ret;refine⟨a',ac,?_,?_,?_,Za aq,Za ap⟩
  ·rw[Za HV];simp
  ·simpa using Za ar
  ·simpa using Za au
 ·go_wp2;refine bB 3 ?_;rw[aS]
  go_wp2_with (at_builtin;refine wpList_append_own _ rfl _ _ 22 rfl w.heap.size 9 i0 (.string ⟨#[]⟩) 1 16 cU hi be bf bg rfl (by decide) _ _ _ rfl ak x aa aw (k.map cF) rfl (by rw[cO,Za br];omega) (λj u hj=>(HK.later ad).news j u hj) (λu hu=>by obtain⟨x,_,rfl⟩:=List.mem_map.1 hu;rfl) (by unfold aT;omega) (by omega) ad.size ?_;intro v1 w2 cg ce _)
  have ae:Hid (w2.ownsRow w.heap.size 9 1 v1 (0+aa) (k.map cF)):=Zb (by simpa using cg);have ab:=Zb (ad.grown ce ad.size (Qe ak));have ca:=(ab.cell (p:=⟨B,0,aD⟩) am).trans c0;have cc:=(ab.cell (p:=⟨B,1,aD⟩) am).trans c1;go_wp2;rw[aS]
  go_wp2_with (at_builtin;refine wpList_append_own _ rfl _ _ 22 rfl w.heap.size 9 i0 (.string ⟨#[]⟩) 1 16 cU hi be bf bg rfl (by decide) _ _ _ rfl ae y len cap (l.map cF) rfl (by rw[cO,Za bs];omega) (λj u hj=>(HL.later ab).news j u hj) (λu hu=>by obtain⟨x,_,rfl⟩:=List.mem_map.1 hu;rfl) (by unfold aT;omega) (by omega) ab.size ?_;intro v2 w3 bd az _)
  have af:Hid (w3.ownsRow w.heap.size 9 1 v2 ((0+aa)+len) ((k++l).map cF)):=by rw[bN];exact bd
  have ap:=Zb (ab.grown az ab.size (Qe ae));obtain⟨a',ac,hv,s1,s2,s3,hO⟩:=Wn af;have aq:Hid (∀ y,a'=dG y->w.heap.size<=y.block):=λy e=>Qe af y.block (by rw[hv,e];rfl);obtain⟨HV,ar⟩:=kh2 hv hO;have au:Hid (SlOk a' ((0+aa)+len) ac):=⟨s1,s2,s3⟩;go_wp2;rw[aS];go_wp2;go_ret;refine⟨a',ac,?_,?_,?_,Za aq,Za ap⟩
  ·rw[Za HV];simp
  ·simpa using Za ar
  ·simpa using Za au
open Go.RowKit Go.Maps
theorem Zta{L:List ByteArray}{j:Nat}(h:j<L.length):(idx L[j] L<(j:Int))↔place L[j] (L.take j)≠0:=by
 have h1:=place_at h;unfold idx;rw[Jm];by_cases h2:place L[j] L<=j
 ·rw[if_pos h2];constructor
  ·intro _;omega
  ·intro _;omega
 ·rw[if_neg h2];constructor
  ·intro h3;omega
  ·intro h3;exact absurd rfl h3
theorem Ztb(s:ByteArray)(L:List ByteArray) : -1<=idx s L/\idx s L<L.length:=by
 have:=place_le s L;unfold idx;omega
set_option maxRecDepth 10000 in
theorem rcheck_is(a n c L)(w:World)(h:TextsAt w a n L)(x:Int)(hx:bkChk L=x) :
  ZH 18 #[.agg #[F a n c]] w (E J x):=by
 have hb:=Zh w (dA #[F a n c] 24);have c0:=Jp w (F a n c) 24;obtain⟨W,hW⟩:=ZG (w.alloc (dA #[F a n c] 24));have hz:=h.1;by_cases h1:120<n
 ·have e:x=2:=by rw[<-hx];unfold bkChk;rw[if_pos (by omega)]
  subst e;have g:(120:Int)<(n:Int):=by omega
  have HB:=Zb hb;go_enter func18,ntmps18;go_wp2;go_ret;exact⟨rfl,Za HB⟩
 ·have g:¬(120:Int)<(n:Int):=by omega
  have HX:Hid (Rl [] L=x):=by show _=_;rw[<-hx];unfold bkChk;rw[if_neg (by omega)]
  rw[<-hW] at hb c0;obtain⟨HB,HT,C0⟩:=kh3 hb (h.later hb) c0;have hn:n<=120:=by omega
  go_enter func18,ntmps18;go_wp2;rw[<-hW]
  go_loopw [12] (λi wr=>∃ j:Nat,j<=n/\i = E J j/\ZD W wr/\Hid (Rl (L.take j) (L.drop j)=x)) (λi _=>n - (intOf i).toNat)
  case atStart=>exact⟨0,aI _,rfl,Below.refl _ _,Za HX⟩
  case round=>
   obtain⟨j,hk,rfl,ae,A⟩:=hrel;have ab:=Zb ae;by_cases bf:j<n
   ·have ht:=HT.later ae;obtain⟨hz,av⟩:=ht;obtain⟨b,off,rfl,hc⟩:=av (by omega);have ak:j<L.length:=(by omega);have f:=hc j ak;have c1:=Ze ae C0;have be:w.heap.size<wr.heap.size:=aC _ _ c1;have S:=Zrl ak;rw[Za A] at S;have IL:=Zta ak;have IG:=Ztb L[j] L;obtain⟨s,hs⟩:=ZF (L[j]);rw[hs] at f S IL IG;have IX:=Zb (index_is (dG ⟨b,off,aD⟩) n c L s (idx s L) wr (by unfold aT;omega) (HT.later ae) rfl);obtain⟨q,hq⟩:=ZF (idx s L);rw[hq] at IL IX IG;by_cases h2:4000<s.size
    ·rw[if_pos h2] at S;subst S;have g2:(4000:Int)<(s.size:Int):=(by omega);go_wp2;go_ret;exact⟨rfl,Zf HB ab⟩
    ·rw[if_neg h2] at S;have g2:¬(4000:Int)<(s.size:Int):=(by omega);by_cases h3:place s (L.take j)≠0
     ·rw[if_pos h3] at S;subst S;have g3:=IL.2 h3;go_wp2_with fail;refine IX.mono ?_;rintro e w2 ⟨rfl,aj⟩;have af:=Zb (Zf (Zf HB ab) aj);go_wp2;go_ret;exact⟨rfl,Za af⟩
     ·rw[if_neg h3] at S;have HS:Hid (Rl (L.take (j+1)) (L.drop (j+1))=x):=S.symm;have g3:¬q<(j:Int):=λh=>h3 (IL.1 h);go_wp2_with fail;refine IX.mono ?_;rintro e w2 ⟨rfl,aj⟩;have af:=Zb (Zf ab aj);go_wp2;go_roundw
      case rel=>exact⟨j+1,by omega,by go_num,Za af,HS⟩
      case measure=>simp[intOf];omega
   ·have R:Hid (x=0):=(by show _=_;rw[<-Za A];exact Znt (by rw[(Za HT).1];omega));go_wp2;go_ret;exact⟨by rw[Za R];rfl,Zf HB ab⟩
set_option maxRecDepth 10000 in
theorem named_is(a n c)(L M:List ByteArray)(s:ByteArray)(k x:Int)(w:World)(hL:L.length<=120)(h:TextsAt w a n L)(hs:SlOk a n c)(hx:nm L s=(M,k,x)) :
  Calls aB 58 #[F a n c,.string s] w λe w'=>(∃ a' n' c',e = dB (dC #[F a' n' c',E J k,E J x])/\TextsAt w' a' n' M/\SlOk a' n' c'/\(a'=a/\n'=n\/∀ y,a'=dG y->w.heap.size<=y.block))/\ZD w w':=by
 have hz:=h.1;by_cases h1:4000<s.size
 ·have e1:nm L s=([],0,2):=by unfold nm;rw[if_pos h1]
  rw[e1] at hx;obtain⟨rfl,ac⟩:=aR .. ▸ hx;obtain⟨rfl,rfl⟩:=aR .. ▸ ac;have g:(4000:Int)<(s.size:Int):=by omega
  go_enter func58,ntmps58;go_wp2
  go_ret3
  exact⟨⟨_,_,_,rfl,TextsAt.nil _ _,SlOk.nil,Or.inr (λy e=>by cases e)⟩,Below.refl _ _⟩
 ·have g:¬(4000:Int)<(s.size:Int):=by omega
  have hn:n<=120:=by omega
  have HX:Hid ((if place s L≠0 then (L,(place s L:Int),0) else if 120<=L.length then ([],0,12) else (L++[s],(L.length:Int)+1,0))=(M,k,x)):=by
   show _=_;rw[<-hx];unfold nm;rw[if_neg h1]
  obtain⟨HT,HS⟩:=kh2 h hs;go_enter func58,ntmps58;go_wp2
  go_loop [14] (λi=>∃ j:Nat,j<=n/\i = E J j/\Hid (place s (L.take j)=0)) (λi=>n - (intOf i).toNat)
  case atStart=>exact⟨0,aI _,rfl,rfl⟩
  case round=>
   obtain⟨j,hk,rfl,A⟩:=hrel;by_cases bz:j<n
   ·obtain⟨hz,be⟩:=Za HT;obtain⟨b,off,rfl,hc⟩:=be (by omega);have ae:j<L.length:=(by omega);have f:=hc j ae;obtain⟨PS,PH⟩:=kh2 (Lx ae A) (Du ae A);obtain⟨t,ht⟩:=ZF (L[j]);rw[ht] at f PS PH;by_cases e:t=s
    ·subst e;have e2:=PH rfl;have q:=Za HX;rw[e2,if_pos (by omega)] at q;have q1:L=M:=(by injection q);have q2:((j+1:Nat):Int)=k:=(by injection q with _ q;injection q);have q3:(0:Int)=x:=(by injection q with _ q;injection q);subst q1 q3;have q4:k=(j:Int)+1:=(by omega);subst q4;go_wp2
     go_ret3
     exact⟨⟨_,_,_,rfl,Za HT,Za HS,Or.inl ⟨rfl,rfl⟩⟩,Below.refl _ _⟩
    ·have R:=Zb (PS e);have g2:=str_ne e;go_wp2
     go_round
     case rel=>exact⟨j+1,by omega,by go_num,R⟩
     case measure=>simp[intOf];omega
   ·have p0:=Za A;rw[aM (by rw[(Za HT).1];omega)] at p0;have q:=Za HX;rw[p0,if_neg (by omega)] at q;have bi:=HT.1;by_cases h2:120<=L.length
    ·rw[if_pos h2] at q;obtain⟨rfl,ac⟩:=aR .. ▸ q;obtain⟨rfl,rfl⟩:=aR .. ▸ ac;have g2:(120:Int)<=(n:Int):=(by omega);go_wp2
     go_ret3
     exact⟨⟨_,_,_,rfl,TextsAt.nil _ _,SlOk.nil,Or.inr (λy e=>by cases e)⟩,Below.refl _ _⟩
    ·rw[if_neg h2] at q;obtain⟨rfl,ac⟩:=aR .. ▸ q;obtain⟨rfl,rfl⟩:=aR .. ▸ ac;have g2:¬(120:Int)<=(n:Int):=(by omega);have an:=Zh w (dA #[.string s] 9);have ap:(w.alloc (dA #[.string s] 9)).heap.size=w.heap.size+1:=(by simp);have ab:=Zh (w.alloc (dA #[.string s] 9)) (dA #[F a n c,F (dG ⟨w.heap.size,0,aD⟩) 1 1] 22);have c0:((w.alloc (dA #[.string s] 9)).alloc (dA #[F a n c,F (dG ⟨w.heap.size,0,aD⟩) 1 1] 22)).cell? ⟨w.heap.size+1,0,aD⟩=dG (F a n c):=(by rw[<-ap,bG _ _ _ _ rfl];rfl);have c1:((w.alloc (dA #[.string s] 9)).alloc (dA #[F a n c,F (dG ⟨w.heap.size,0,aD⟩) 1 1] 22)).cell? ⟨w.heap.size+1,1,aD⟩=dG (F (dG ⟨w.heap.size,0,aD⟩) 1 1):=(by rw[<-ap,bG _ _ _ _ rfl];rfl);obtain⟨CT,HB,bj⟩:=kh3 (Zdw (w.heap.size+1) a ⟨w.heap.size,0,aD⟩ n c 1 1 L [s] _ (by omega) (HT.later (Zf an ab)) ((En w s).later ab) HS.2.2 c0 c1) (Zf an ab) bi;go_wp2_with fail;refine CT.mono ?_;rintro e w2 ⟨a',ax,rfl,t1,t2,t3,ab⟩;have T3:Hid (∀ y,a'=dG y->w.heap.size<=y.block):=λy e=>aO HB.size (t3 y e);obtain⟨au,T1,T2⟩:=kh3 (Zf HB ab) t1 t2;go_wp2
     go_ret3
     refine⟨⟨a',n+1,ax,?_,Za T1,Za T2,Or.inr T3⟩,Za au⟩;rw[Za bj];rfl
open Go.RowKit Go.Maps
theorem ints_of_own{w:World}{base:Nat}{v}{n:Nat}{N:List Int}(h:w.ownsRow base 3 1 v n (N.map (aU .i64))):∃ a cap,v = F a n cap/\SlOk a n cap/\IntsAt w a n N:=by
 have hl:N.length=n:=by have:=h.1;simpa using this
 rcases h.2 with ⟨rfl,rfl⟩|⟨g,cap,ab,rfl,_,_,h1,h2,_,_⟩
 ·have e:N=[]:=aJ.1 hl;subst e;exact⟨aD,0,rfl,SlOk.nil,IntsAt.nil _ _⟩
 ·refine⟨_,cap,rfl,⟨h1,h2,λe=>by cases e⟩,hl,λ_=>⟨g,0,rfl,λi hi=>?_⟩⟩;rw[bO,World.ownsRow.cellAt h i (by omega)];simp[hi]
set_option maxRecDepth 10000 in
theorem namedAll_is(a al n c nl ef L l M N)(x:Int)(w:World)(hR:Right L)(h:TextsAt w a n L)(hs:SlOk a n c)(hl:TextsAt w al nl l)(dm:nl<=17592186044416)(hx:nmGo L [] l=(M,N,x)) :
  Calls aB 75 #[F a n c,F al nl ef] w λe w'=>(∃ a' n' c' a2 n2 c2,e = dB (dC #[F a' n' c',F a2 n2 c2,E J x])/\TextsAt w' a' n' M/\SlOk a' n' c'/\IntsAt w' a2 n2 N/\n2<=nl/\n2<=c2)/\ZD w w':=by
 obtain⟨i0,hi,ds,dt,du⟩:=bX Tryz.infoInt;obtain⟨HT,HS,bo,br,HX,HR⟩:=kh6 h hs hl dm hx hR;have cy:Hid (w.ownsRow w.heap.size 3 1 (F aD 0 0) 0 (([]:List Int).map (aU .i64))):=⟨rfl,Or.inl ⟨rfl,rfl⟩⟩;go_enter func75,ntmps75;go_wp2
 go_loopw [0,7,15] (λt v i wr=>∃ (j:Nat) (L':List ByteArray) (N':List Int) (a':Option Addr) (n' c':Nat),j<=nl/\i = E J j/\t = F a' n' c'/\ZD w wr/\Hid (TextsAt wr a' n' L'/\SlOk a' n' c')/\Hid (n'=0\/∀ y,a'=dG y->v.ownBlock≠dG y.block)/\Hid (wr.ownsRow w.heap.size 3 1 v j (N'.map (aU .i64)))/\Hid (Right L'/\nmGo L' N' (l.drop j)=(M,N,x))) (λ_ _ i _=>nl - (intOf i).toNat)
 case atStart=>exact⟨0,L,[],a,n,c,aI _,rfl,rfl,Below.refl _ _,⟨Za HT,Za HS⟩,(Or.inr (λy _ e=>by cases e)),cy,⟨Za HR,Za HX⟩⟩
 case round=>
  obtain⟨j,L',N',a',n',c',hk,rfl,rfl,cb,an,cj,HO,HN⟩:=hrel;have HB:=Zb cb;by_cases ec:j<nl
  ·obtain⟨hz,dj⟩:=Za bo;obtain⟨b,off,rfl,hc⟩:=dj (by omega);have cd:j<l.length:=(by omega);have f:=Ze cb (hc j cd);obtain⟨q2,q3⟩:=Za HN;rw[Zfc cd] at q3;obtain⟨s,hs⟩:=ZF (l[j]);rw[hs] at f q3;obtain⟨r,hr⟩:=ZF (nm L' s);rw[hr] at q3;obtain⟨M',k',e'⟩:=r;simp only at q3;have CN:=Zb (named_is a' n' c' L' M' s k' e' _ q2.1 an.1 an.2 hr)
   have NR:Hid (e'=0->Right M'):=λh=>by
    have:=nm_right (L:=L') (s:=s) q2;rw[hr] at this;exact this h
   by_cases he:e'=0
   ·subst he;rw[if_pos rfl] at q3;have Q3:=Zb q3;have cx:Hid (Right M'):=NR rfl;obtain⟨ee,cv,rfl,sv,-⟩:=ints_of_own HO;go_wp2_with fail;refine CN.mono ?_;rintro y w5 ⟨⟨a5,n5,c5,rfl,t1,t2,t3⟩,ap⟩
    have bi:Hid (n5=0\/∀ y,a5=dG y->(bW ee j cv).ownBlock≠dG y.block):=by
     rcases t3 with ⟨h1,h2⟩|h
     ·rw[h1,h2];exact Za cj
     ·refine Or.inr (λy e e2=>?_);have h3:=(HO.lt _ e2).2;have h4:=h y e;omega
    obtain⟨T5,S5,av⟩:=kh3 t1 t2 (Zf HB ap);have bd:=Zh w5 (dA #[E J k'] 3);obtain⟨bs,cu,aw,T6⟩:=kh4 (Wv (Wv HO (λk cs _ hk=>ap.block k (aA hk))) (λk cs _ hk=>bd.block k (aA hk))) (bI (aG w5 (dA #[E J k'] 3))) (Zf av bd) (T5.later bd)
    go_wp2_with (at_builtin;refine wpList_append_lies _ rfl _ _ 25 rfl w.heap.size 3 i0 (E J 0) 1 8 cR hi ds dt du rfl (by decide) _ _ _ rfl bs ⟨w5.heap.size,0,aD⟩ 1 1 [E J k'] rfl rfl cu (λu hu=>by simp at hu;subst hu;rfl) (by decide) (by have:=Za br;unfold aT;omega) (by have:=Za br;omega) aw.size _ rfl ?_;intro g7 ca w7 dp cc dn _)
    have cz:Hid (w7.ownsRow w.heap.size 3 1 (F (dG ⟨g7,0,aD⟩) (j+1) ca) (j+1) ((N'++[k']).map (aU .i64))):=by
     show cP _ _ _ _ _ _ _;rw[bN];exact dp
    have dg:=aw.grown cc aw.size (Qe bs);have cl:=Zb dg
    have T7:Hid (TextsAt w7 a5 n5 M'):=by
     refine⟨T6.1,λh0=>?_⟩;obtain⟨b',dx,e',di⟩:=T6.2 h0;refine⟨b',dx,e',λi hi=>?_⟩;have h2:=di i hi
     rw[World.cell?_of_block (cc.block b' (aC _ _ h2) (λe=>by
      rcases Za bi with h|h
      ·omega
      ·exact h _ e' e.symm))]
     exact h2
    have cg:Hid (n5=0\/∀ y,a5=dG y->(bW (dG ⟨g7,0,aD⟩) (j+1) ca).ownBlock≠dG y.block):=by
     rcases Nat.eq_zero_or_pos n5 with h0|h0
     ·exact Or.inl h0
     ·refine Or.inr (λy e e2=>?_);have e3:g7=y.block:=by injection e2
      rcases dn with h|h
      ·rcases Za bi with h5|h5
       ·omega
       ·exact h5 y e (h.trans (by rw[e3]))
      ·have:=T6.lt y e h0;omega
    refine⟨⟨j+1,M',N'++[k'],a5,n5,c5,by omega,by go_num,rfl,Za cl,⟨Za T7,Za S5⟩,cg,cz,⟨Za cx,Za Q3⟩⟩,?_⟩;simp[intOf];omega
   ·rw[if_neg he] at q3;have e1:M=[]:=(by injection q3 with q3 _;exact q3.symm);have e2:N=[]:=(by injection q3 with _ q3;injection q3 with q3 _;exact q3.symm);have e3:x=e':=(by injection q3 with _ q3;injection q3 with _ q3;exact q3.symm);subst e1 e2 e3;have g5:(x != 0)=true:=(by simp[he]);go_wp2_with fail;refine CN.mono ?_;rintro y w5 ⟨⟨a5,n5,c5,rfl,-,-⟩,ap⟩;have av:=Zb (Zf HB ap);go_wp2
    go_ret3
    exact⟨⟨_,_,_,_,_,_,rfl,TextsAt.nil _ _,SlOk.nil,IntsAt.nil _ _,aI _,aE _⟩,Za av⟩
  ·have e:j=nl:=(by omega);subst e;obtain⟨q2,q3⟩:=Za HN;rw[Ep (by rw[(Za bo).1];exact aE _)] at q3;have e1:M=L':=(by injection q3 with q3 _;exact q3.symm);have e2:N=N':=(by injection q3 with _ q3;injection q3 with q3 _;exact q3.symm);have e3:x=0:=(by injection q3 with _ q3;injection q3 with _ q3;exact q3.symm);subst e1 e2 e3;obtain⟨ee,cv,rfl,sv,iv⟩:=ints_of_own HO;have dq:=sv.1;have IV:=Zb iv;go_wp2
   go_ret3
   exact⟨⟨_,_,_,_,_,_,rfl,an.1,an.2,Za IV,aE _,dq⟩,Za HB⟩
end Bk
open Go.RowKit
def RnR(w w':World)(M:List ByteArray)(nm:Int)(N:List Int)(x:Int)(e:Ending):Prop:=
 ∃ a' n' c' a2 n2 c2,e = dB (dC #[F a' n' c',E J nm,F a2 n2 c2,E J x])/\Bk.TextsAt w' a' n' M/\Bk.SlOk a' n' c'/\Bk.IntsAt w' a2 n2 N/\ZD w w'
theorem Zky{w w':World}{x:Int}(hb:ZD w w'):RnR w w' [] 0 [] x (dB (dC #[F aD 0 0,E J 0,F aD 0 0,E J x])):=
 ⟨aD,0,0,aD,0,0,rfl,Bk.TextsAt.nil _ _,Bk.SlOk.nil,Bk.IntsAt.nil _ _,hb⟩
theorem Zhp{K}{b:Zk}(hR:Bk.Right K):Bk.allR K (Yn b)=Bk.nmGo K [] (Yn b):=by
 unfold Bk.allR;rw[if_pos ((Bk.right_iff K).2 hR)]
theorem Zfw(T:List TxD)(k:Nat)(h:k<T.length):(T.take (k+1)).map Zr=(T.take k).map Zr++[Zr T[k]]:=by
 rw[aH h,bN];rfl
set_option maxRecDepth 10000 in
theorem P7(ka kn kc K)(p h k n:Int)(a m c T M)(nm:Int)(N)(x:Int)(w)(hE:EnvF w)(hK:Bk.TextsAt w ka kn K)(sK:Bk.SlOk ka kn kc)(hR:Bk.Right K)(hT:TxsAt w a m T)(hx:Xk K (p,h,k,n,T)=(M,nm,N,x)) :
  Calls aB 37 #[F ka kn kc,.agg #[E J p,E J h,E J k,E J n,F a m c]] w λe w'=>RnR w w' M nm N x e:=by
 obtain⟨X,hX,ah,bj⟩:=ka00 w [E J p,E J h,E J k,E J n,F a m c] 33;obtain⟨z,hz⟩:=ZF (Yu (p,h,k,n,T));have CK:=Zb (Tr.rchkBlock_any p h k n a m c T z X (hT.later ah) hz);obtain⟨x0,x1,x2,x3,x4,xl⟩:=kc5 bj;obtain⟨ds,fd⟩:=kh2 ah bj;by_cases df:z=0
 ·subst df;obtain⟨i0,hi,ej,ek,el⟩:=bX Tryz.info9;have h4:=(Q9 hz).2.1;have zT:T.length=m:=hT.1;have gd:m<=4:=by rw[<-zT];exact h4
  have dz:=hE.later ah;obtain⟨dt,dv,fa⟩:=kh3 dz (hT.later ah) (hK.later ah);have ew:Hid (∀ t∈T,Zp t=0):=(Vi hz).2.2.2.2;obtain⟨HZ,bd,HX⟩:=kh3 hz zT hx;have OW:Hid (∀ W:World,W.ownsRow X.heap.size 9 1 (F aD 0 0) ([]:List ByteArray).length (([]:List ByteArray).map cF)):=λ_=>⟨rfl,.inl ⟨rfl,rfl⟩⟩;clear hE dz hK hT ah bj hz zT hx h4;go_enter func37,ntmps37;go_wp2_with fail;rw[<-hX];clear hX;(try go_wp2_with fail);refine CK.mono ?_;rintro e w1 ⟨rfl,am⟩;have bv:=Zb am;have y4:=Ze am x4;have yl:=aC _ _ y4;clear am x0 x1 x2 x3 x4 xl;go_wp2
  go_loopw [9,21] (λlv i wr=>∃ (j:Nat) (L:List ByteArray),j<=m/\i = E J j/\Hid (L=(T.take j).map Zr)/\Hid (wr.ownsRow X.heap.size 9 1 lv L.length (L.map cF))/\Hid (ZD X wr)) (λ_ i _=>m - (intOf i).toNat)
  case atStart=>exact⟨0,[],aI _,rfl,rfl,OW _,bv⟩
  case round=>
   clear y4 yl;obtain⟨j,L,hj,rfl,HL,HO,HB⟩:=hrel
   have eb:L.length=j:=by
    rw[Za HL,cO,aV,Za bd];omega
   have al:=Zb eb;clear eb;obtain⟨gn,gp,rfl,sv,-⟩:=Lz HO;by_cases eg:j<m
   ·have da:j<T.length:=(by rw[Za bd];exact eg);obtain⟨tb,gm,rfl,_,ei⟩:=dv.2 (by omega);have ep:=ei j da;have L2:Hid (L++[Zr T[j]]=(T.take (j+1)).map Zr):=(by show _=_;rw[Zfw T j da,Za HL]);have cy:=ew T[j] (aQ da);obtain⟨t,ht⟩:=ZF (T[j]);rw[ht] at ep L2 cy;obtain⟨t1,⟨ai,ni,ci,t2,cl,gi⟩,ao,eo,co,t3,cp,gj⟩:=ep;obtain⟨th,ti,er⟩:=t;simp only at t1 t2 t3 cl cp;have u1:=Ze HB t1;have u2:=Ze HB t2;have u3:=Ze HB t3;have ul:=aC _ _ u1;obtain⟨W1,ct⟩:=ZG (wr.alloc (dA #[E J th,F ai ni ci,F ao eo co] 50));have cx:ZD wr W1:=(by rw[ct];exact Zh _ _);have au:=Zf HB cx;obtain⟨TX,ev,fb⟩:=kh3 (Qz th ai ao ni ci eo co ti er W1 (dt.later au) (cl.later au) (cp.later au) cy) au ((Gr.of (S:=λ_=>False) cx).own HO (λ_ _ q=>q));obtain⟨s,hs⟩:=ZF (Zr (th,ti,er));rw[hs] at TX L2;clear ei t1 t2 t3 cl cp cx au cy ht hs;go_wp2_with fail;rw[<-ct];clear ct;(try go_wp2_with fail);refine TX.mono ?_;rintro e W2 ⟨rfl,ag⟩;have bw:=Zb (Zf ev ag);have cc:=(Gr.of (S:=λ_=>False) ag).own fb (λ_ _ q=>q);have aj:=Zh W2 (dA #[.string s] 9);obtain⟨ap,ce,ae⟩:=kh3 ((Gr.of (S:=λ_=>False) aj).own cc (λ_ _ q=>q)) (bI (aG W2 (dA #[.string s] 9))) (Zf bw aj);clear aj ag TX u1 u2 u3 ul
    go_wp2_with (at_builtin;refine wpList_append_lies _ rfl _ _ 22 rfl X.heap.size 9 i0 (.string ⟨#[]⟩) 1 16 cU hi ej ek el rfl (by decide) _ _ _ rfl ap ⟨W2.heap.size,0,aD⟩ 1 1 [.string s] rfl rfl ce (λu hu=>by simp at hu;subst hu;rfl) (by decide) (by have:=Za al;unfold aT;omega) (by have:=Za al;omega) ae.size _ rfl ?_;intro g7 bf w7 aw av dc _)
    have fg:Hid (w7.ownsRow X.heap.size 9 1 (F (dG ⟨g7,0,aD⟩) (L.length+1) bf) (L++[s]).length ((L++[s]).map cF)):=by
     show cP _ _ _ _ _ _ _;rw[bL,bN];exact aw
    have az:=Zb (ae.grown av ae.size (λk hk=>(ap.lt k hk).1));clear aw av dc;go_wp2;go_roundw
    case rel=>exact⟨j+1,L++[s],by omega,by go_num,L2,fg,az⟩
    case measure=>simp[intOf];omega
   ·obtain rfl:j=m:=(by omega);have ea:L=T.map Zr:=(by rw[Za HL,aM (by rw[Za bd];exact aE _)]);obtain⟨⟨M',N',x'⟩,ee⟩:=ZF (Bk.nmGo K [] (Yn (p,h,k,n,T)));have b5:=ZE HB fd;obtain⟨y0,y1,y2,y3,y4,yl⟩:=kc5 b5;have BT:=Zb (Gv p h k n a j c T wr (dt.later HB) (dv.later HB) HZ);obtain⟨s,hs⟩:=ZF (Xl (p,h,k,n,T));rw[hs] at BT;have bz:=Zb ee;have du:Hid (L++[s]=Yn (p,h,k,n,T)):=(by show _=_;rw[ea,<-hs];rfl);have fh:Hid ((L++[s]).length=j+1):=(by show _=_;rw[bL,Za al];rfl);clear ee hs b5 ea eg;go_wp2_with fail;refine BT.mono ?_;rintro e W2 ⟨rfl,ag⟩;have bw:=Zb (Zf HB ag);have cc:=(Gr.of (S:=λ_=>False) ag).own HO (λ_ _ q=>q);have aj:=Zh W2 (dA #[.string s] 9);obtain⟨ap,ce,ae⟩:=kh3 ((Gr.of (S:=λ_=>False) aj).own cc (λ_ _ q=>q)) (bI (aG W2 (dA #[.string s] 9))) (Zf bw aj);clear aj ag y0 y1 y2 y3 y4 yl
    go_wp2_with (at_builtin;refine wpList_append_lies _ rfl _ _ 22 rfl X.heap.size 9 i0 (.string ⟨#[]⟩) 1 16 cU hi ej ek el rfl (by decide) _ _ _ rfl ap ⟨W2.heap.size,0,aD⟩ 1 1 [.string s] rfl rfl ce (λu hu=>by simp at hu;subst hu;rfl) (by decide) (by have:=Za al;unfold aT;omega) (by have:=Za al;omega) ae.size _ rfl ?_;intro g7 bf w7 aw av dc _)
    have ed:Bk.TextsAt w7 (dG ⟨g7,0,aD⟩) (L.length+1) (Yn (p,h,k,n,T)):=by
     rw[<-Za du];refine Bk.texts_own (base:=X.heap.size) (c:=bf) ?_;rw[bN];exact aw
    have az:=Zb (ae.grown av ae.size (λk hk=>(ap.lt k hk).1));have NA:=Zb (Bk.namedAll_is ka (dG ⟨g7,0,aD⟩) kn kc (L.length+1) bf K (Yn (p,h,k,n,T)) M' N' x' w7 hR (fa.later az) sK ed (by have:=Za al;omega) bz);clear aw av dc ed;go_wp2_with fail;refine NA.mono ?_;rintro e w8 ⟨⟨a',n',c',a2,n2,c2,rfl,cq,s8,bh,gf,fz⟩,cu⟩;have dr:=Zb (Zf ds (Zf az cu));have ad:=Za HX;unfold Xk at ad;rw[Za HZ,if_neg (by decide),Zhp hR,Za bz] at ad;by_cases de:x'=0
    ·subst de;rw[if_neg (λq=>q rfl)] at ad
     have cn:N'.length=j+1:=by
      have e:=Ma _ _ _ _ _ bz;rw[e];show 0+(Yn (p,h,k,n,T)).length=j+1;rw[<-Za du,Za fh];omega
     have fi:n2=j+1:=(by rw[<-bh.1];exact cn);subst fi;obtain⟨ib,io,rfl,cz⟩:=bh.2 (by omega);have ef:=cz j (by omega);obtain⟨v,hv⟩:=ZF (N'[j]'(by omega));rw[hv] at ef;have gh:=aC _ _ ef
     have ey:Hid (∀ W,ZD w8 W->RnR w W M nm N x (dB (dC #[F a' n' c',E J v,F (dG ⟨ib,io,aD⟩) j c2,E J 0]))):=by
      intro W cw
      have fj:(M',N'.getD j 0,N'.take j,(0:Int))=(M,nm,N,x):=by
       rw[<-ad];show _=(M',N'.getD T.length 0,N'.take T.length,(0:Int));rw[Za bd]
      obtain⟨e1,e2⟩:=cA fj;obtain⟨e2,e3⟩:=cA e2;obtain⟨e3,e4⟩:=cA e3;rw[<-e1,<-e2,<-e3,<-e4];refine⟨a',n',c',dG ⟨ib,io,aD⟩,j,c2,?_,cq.later cw,s8,⟨by rw[aV];omega,λ_=>⟨ib,io,rfl,λi hi=>?_⟩⟩,Zf dr cw⟩
      ·have:N'.getD j 0=v:=(by rw[<-hv];simp[List.getD,cn]);rw[this]
      ·rw[List.getElem_take];exact Ze cw (cz i (by rw[aV] at hi;omega))
     have gc:j<=c2:=(by omega);have gg:IntKind.i64.wrap (((j+1:Nat):Int) - 1)=(j:Int):=(by rw[IntKind.wrap_i64];omega);have gb:((j+1:Nat):Int) - 1=(j:Int):=(by omega);clear cq s8 bh cz ad cu cn hv;go_wp2_with fail
     go_quiet (fail)
     go_wp2;(try simp only[bQ,Exit.then]);refine aL (v:=dC #[F a' n' c',E J v,F (dG ⟨ib,io,aD⟩) j c2,E J 0]) ?_ rfl (ey _ ⟨rfl,rfl,rfl,aE _,λ_ _=>rfl⟩);simp[results,Tryz.f37,go_sem]
    ·rw[if_pos de] at ad;have g:(x' != 0)=true:=by simp[de]
     have bx:Hid (RnR w w8 M nm N x (dB (dC #[F aD 0 0,E J 0,F aD 0 0,E J x']))):=by
      obtain⟨e1,e2⟩:=cA ad;obtain⟨e2,e3⟩:=cA e2;obtain⟨e3,e4⟩:=cA e3;rw[<-e1,<-e2,<-e3,<-e4];exact Zky dr
     clear cq s8 bh ad cu;go_wp2;(try simp only[bQ,Exit.then]);refine aL (v:=dC #[F aD 0 0,E J 0,F aD 0 0,E J x']) ?_ rfl bx;simp[results,Tryz.f37,go_sem]
 ·have HF:Hid ((M,nm,N,x)=(([]:List ByteArray),(0:Int),([]:List Int),z)):=by
   show _=_;rw[<-hx];unfold Xk;rw[hz,if_pos df]
  have g:(z != 0)=true:=by simp[df]
  clear hE hK hT ah bj hx hz;go_enter func37,ntmps37;go_wp2_with fail;rw[<-hX];clear hX;(try go_wp2_with fail);refine CK.mono ?_;rintro e w1 ⟨rfl,am⟩;have bv:=Zb (Zf ds am)
  have bx:Hid (RnR w w1 M nm N x (dB (dC #[F aD 0 0,E J 0,F aD 0 0,E J z]))):=by
   obtain⟨e1,e2⟩:=cA HF;obtain⟨e2,e3⟩:=cA e2;obtain⟨e3,e4⟩:=cA e3;rw[e1,e2,e3,e4];exact Zky bv
  clear am;go_wp2;(try simp only[bQ,Exit.then]);refine aL (v:=dC #[F aD 0 0,E J 0,F aD 0 0,E J z]) ?_ rfl bx;simp[results,Tryz.f37,go_sem]
def plc(p:PtD):List Zi->Nat->Int
 | [],_=>-1
 | y :: r,k=>if pt y=p then k else plc p r (k+1)
theorem Zli(p:PtD)(l:List Zi)(k:Nat)(h:k<l.length):plc p (l.drop k) k=if pt l[k]=p then (k:Int) else plc p (l.drop (k+1)) (k+1):=by
 rw[aK h];rfl
set_option maxRecDepth 10000 in
theorem Zce(x:Zi)(a)(n c:Nat)(q:PtD)(p:Nat)(o:Bool)(w:World)(h1:w.cell? ⟨p,0,aD⟩=dG (E J q.1))(h2:w.cell? ⟨p,1,aD⟩=dG (E J q.2))(ho:decide (pt x=q)=o) :
  ZH 134 #[cnV x a n c,dE (dG ⟨p,0,aD⟩)] w (dF o):=by
 subst ho;obtain⟨x1,x2,v,lk,hh,rr⟩:=x;obtain⟨q1,q2⟩:=q;have hp:=aC _ _ h1;unfold cnV pt cv ch cr;simp only at h1 h2 ⊢;have HB:=Zb (Zh w (dA #[E J x1,E J x2,E J v,F a n c,E J hh,dF rr] 162));by_cases hx:x1=q1
 ·subst hx;by_cases hy:x2=q2
  ·subst hy;rw[decide_eq_true rfl];go_enter func134,ntmps134;go_wp2;go_ret;exact⟨rfl,Za HB⟩
  ·rw[decide_eq_false (λe=>hy (cA e).2)];go_enter func134,ntmps134;go_wp2;go_ret;exact⟨rfl,Za HB⟩
 ·rw[decide_eq_false (λe=>hx (cA e).1)];go_enter func134,ntmps134;go_wp2;go_ret;exact⟨rfl,Za HB⟩
set_option maxRecDepth 10000 in
theorem Mm(b off n c:Nat)(l:List Zi)(q:PtD)(p:Nat)(w:World)(hz:l.length=n)(hn:n<=4096)(hc:∀ i (h:i<l.length),CoinAt w b (off+i*6) l[i])
  (h1:w.cell? ⟨p,0,aD⟩=dG (E J q.1)) (h2:w.cell? ⟨p,1,aD⟩=dG (E J q.2)) :
  ZH 133 #[F (dG ⟨b,off,aD⟩) n c,.func (.func 134) #[] #[dE (dG ⟨p,0,aD⟩)]] w (E J (plc q l 0)):=by
 obtain⟨HC,HZ,H1,H2⟩:=kh4 hc hz h1 h2;go_enter func133,ntmps133;go_wp2
 go_loopw [5,8] (λ_ i wr=>∃ k:Nat,k<=n/\i = E J k/\Hid (plc q l 0=plc q (l.drop k) k)/\ZD w wr) (λ_ i _=>n - (intOf i).toNat)
 case atStart=>exact⟨0,aI _,rfl,rfl,Below.refl _ _⟩
 case round=>
  obtain⟨k,hk,rfl,A,hb⟩:=hrel;have HB:=Zb hb;by_cases ar:k<n
  ·have al:k<l.length:=(by rw[Za HZ];exact ar);have ak:=CoinAt.kept _ _ _ _ _ hb (HC k al);have S:=Zb (Zli q l k al);obtain⟨y,hy⟩:=ZF (l[k]);rw[hy] at ak S;obtain⟨ka,kn,kc,g1,g2,g3,g4,g5,g6,_,_⟩:=ak.val
   have C1:Hid (∀ o,decide (pt y=q)=o->Calls aB 134 #[cnV y ka kn kc,dE (dG ⟨p,0,aD⟩)] wr λe w'=>e = dB (dF o)/\ZD wr w'):=
    λo ho=>Zce y ka kn kc q p o wr (Ze hb H1) (Ze hb H2) ho
   unfold cnV at C1;by_cases hs:pt y=q
   ·have S2:Hid (plc q l 0=k):=(by show _=_;rw[Za A,Za S,if_pos hs]);have C2:=Zb (C1 true (decide_eq_true hs));go_wp2_with fail;refine C2.mono ?_;rintro e w' ⟨rfl,ah⟩;have ag:=Zb (Zf HB ah);go_wp2;go_ret;exact⟨by rw[Za S2];rfl,Za ag⟩
   ·have S2:Hid (plc q l 0=plc q (l.drop (k+1)) (k+1)):=(by show _=_;rw[Za A,Za S,if_neg hs]);have C2:=Zb (C1 false (decide_eq_false hs));go_wp2_with fail;refine C2.mono ?_;rintro e w' ⟨rfl,ah⟩;have ag:=Zb (Zf HB ah);go_wp2;go_roundw
    case rel=>exact⟨k+1,by omega,by go_num,S2,Za ag⟩
    case measure=>simp[intOf];omega
  ·have S2:Hid (plc q l 0 = -1):=by
    show _=_;rw[Za A,bA (by rw[Za HZ];omega)];rfl
   go_wp2;go_ret;exact⟨by rw[Za S2];rfl,Za HB⟩
theorem Mn(a c v w) :
  Calls aB 133 #[F a 0 c,v] w λe w'=>e = dB (E J (-1))/\w=w':=by
 go_enter func133,ntmps133;go_wp2;refine bB 1 ?_;rw[aS];go_wp2;go_ret;exact⟨rfl,rfl⟩
theorem Nz(a)(n c:Nat)(l)(q:PtD)(p:Nat)(w:World)(hn:n<=4096)(h:CoinsAt w a n l)
  (h1:w.cell? ⟨p,0,aD⟩=dG (E J q.1)) (h2:w.cell? ⟨p,1,aD⟩=dG (E J q.2)) :
  ZH 133 #[F a n c,.func (.func 134) #[] #[dE (dG ⟨p,0,aD⟩)]] w (E J (plc q l 0)):=by
 obtain⟨hz,hc⟩:=h;by_cases h0:n=0
 ·subst h0;have e:l=[]:=aJ.1 hz;subst e;exact (Mn a c _ w).mono λe w' ⟨q1,q2⟩=>⟨q1,q2 ▸ Below.refl _ _⟩
 ·obtain⟨b,off,rfl,_,ac⟩:=hc (by omega);exact Mm b off n c l q p w hz hn ac h1 h2
theorem Ln(a)(n c:Nat)(l)(q:PtD)(z:Int)(w:World)(hn:n<=4096)(h:CoinsAt w a n l)(hz:plc q l 0=z) :
  ZH 99 #[F a n c,.agg #[E J q.1,E J q.2]] w (E J z):=by
 subst hz;have hb:=Zh w (dA #[E J q.1,E J q.2] 87);obtain⟨n0,n1⟩:=Yo w (E J q.1) (E J q.2) 87;obtain⟨C,HB⟩:=kh2 (Nz a n c l q w.heap.size _ hn (h.later hb) n0 n1) hb;go_enter func99,ntmps99;go_wp2_with fail;refine C.mono ?_;rintro e w2 ⟨rfl,ad⟩;have ac:=Zb (Zf HB ad);go_wp2;go_ret;exact⟨rfl,Za ac⟩
structure Kp(B:Nat)(w w':World):Prop where
 size:w.heap.size<=w'.heap.size
 same:∀ b,B<=b->b<w.heap.size->w'.heap[b]? = w.heap[b]?
theorem Kp.refl(B:Nat)(w):Kp B w w:=⟨aE _,λ_ _ _=>rfl⟩
theorem Kp.trans{B:Nat}{w1 w2 w3}(h:Kp B w1 w2)(k:Kp B w2 w3):Kp B w1 w3:=
 ⟨aO h.size k.size,λb hb hl=>(k.same b hb (aF hl h.size)).trans (h.same b hb hl)⟩
theorem Kp.alloc(B:Nat)(w:World)(o:Obj):Kp B w (w.alloc o):=
 ⟨((Below.refl _ _).alloc (aE _) o:ZD w (w.alloc o)).size,λb _ hl=>((Below.refl _ _).alloc (aE _) o:ZD w (w.alloc o)).block b hl⟩
theorem Kp.cell{B:Nat}{w w':World}(h:Kp B w w'){p:Addr}{v}(hb:B<=p.block)(hc:w.cell? p=dG v):w'.cell? p=dG v:=by
 have hl:=aC w p hc;have e:=h.same p.block hb hl;simp only[bF] at hc ⊢;rw[e];exact hc
structure Sr{α : Type}[Inhabited α](P:Program)(g:Nat)(lb:Array Value)(sf:Nat)(sb:Array Value)(lt : α -> α->Bool)(n B:Nat)(St:World->Array α->Prop):Prop where
 order:Sort.SWO lt
 small:n<=4096
 enters:∀ args w,(callFunc g args).run P w = .ok (.enter g args) w
 less:∀ w d (i j:Nat),St w d->i<n->j<n->Calls P g (#[E J i,E J j]++lb) w λe w'=>e = dB (dF (lt d[i]! d[j]!))/\St w' d/\Kp B w w'
 swap:∀ w d (i j:Nat),St w d->i<n->j<n->∃ w',(callFunc sf (#[E J i,E J j]++sb)).run P w = .ok (.value (dC #[])) w'/\St w' (cB d i j)/\Kp B w w'
 size:∀ w d,St w d->d.size=n
 low:∀ w d,St w d->B<=w.heap.size
 alloc:∀ w d o,St w d->St (w.alloc o) d
 store:∀ w d b o v,St w d->B<=b->St (w.setCell ⟨b,o,aD⟩ v) d
def lsV(g:Nat)(lb:Array Value)(sf:Nat)(sb:Array Value):Value:=.agg #[.func (.func g) #[] lb,.func (.func sf) #[] sb]
theorem Vr(w:World)(x y)(t:TypeId):(w.alloc (dA #[x,y] t)).cell? ⟨w.heap.size,0,aD⟩=dG x/\(w.alloc (dA #[x,y] t)).cell? ⟨w.heap.size,1,aD⟩=dG y:=
 ⟨by rw[bG _ _ _ _ rfl];rfl,by rw[bG _ _ _ _ rfl];rfl⟩
theorem Hc{α : Type}[Inhabited α](lt : α -> α->Bool)(a b i:Nat)(d:Array α)(h:i<b):Sort.insOuter lt a b i d=Sort.insOuter lt a b (i+1) (Sort.insInner lt a i d):=by
 rw[Sort.insOuter,if_pos h]
theorem Ar{α : Type}[Inhabited α](lt : α -> α->Bool)(a b i:Nat)(d:Array α)(h:¬i<b):Sort.insOuter lt a b i d=d:=by
 rw[Sort.insOuter,if_neg h]
theorem Zac{α : Type}[Inhabited α](lt : α -> α->Bool)(a j:Nat)(d:Array α)(h:a<j)(hl:lt d[j]! d[j - 1]! = true):Sort.insInner lt a j d=Sort.insInner lt a (j - 1) (cB d j (j - 1)):=by
 obtain⟨k,rfl⟩:∃ k,j=k+1:=⟨j - 1,by omega⟩;rw[Nat.add_sub_cancel] at hl ⊢;rw[Sort.insInner,if_pos (by simp[hl,h])]
theorem Pk{α : Type}[Inhabited α](lt : α -> α->Bool)(a j:Nat)(d:Array α)(h:j<=a\/lt d[j]! d[j - 1]! = false):Sort.insInner lt a j d=d:=by
 cases j with
 | zero=>rfl
 | succ k=>
  rw[Sort.insInner,if_neg]
  rcases h with h|h
  ·simp;omega
  ·rw[Nat.add_sub_cancel] at h;simp[h]
set_option maxRecDepth 10000 in
theorem Zsy{α : Type}[Inhabited α]{g:Nat}{lb}{sf:Nat}{sb}{lt : α -> α->Bool}{n B:Nat}{St:World->Array α->Prop}(H:Sr aB g lb sf sb lt n B St)
  (a b:Nat) (d:Array α) (w) (h:St w d) (bo:a<=b) (hb:b<=n) :
  Calls aB 229 #[lsV g lb sf sb,E J a,E J b] w λe w'=>e = dB (dC #[])/\St w' (Sort.insertionSort lt d a b)/\Kp B w w':=by
 unfold lsV Sort.insertionSort;have hn:=H.small;have eg:=H.enters;have aq:=H.low _ _ h;obtain⟨N0,N1⟩:=Vr w (.func (.func g) #[] lb) (.func (.func sf) #[] sb) 275;obtain⟨SX,KX,HH⟩:=kh3 (H.alloc w d (dA #[.func (.func g) #[] lb,.func (.func sf) #[] sb] 275) h) (Kp.alloc B w (dA #[.func (.func g) #[] lb,.func (.func sf) #[] sb] 275)) H;go_enter func229,ntmps229;go_wp2;generalize w.alloc (dA #[.func (.func g) #[] lb,.func (.func sf) #[] sb] 275)=X at *;obtain⟨M0,M1⟩:=kh2 N0 N1
 go_loopw [6] (λs6 wr=>∃ (i:Nat) (dk:Array α),s6 = E J i/\a<i/\i<=b+1/\Hid (Sort.insOuter lt a b i dk=Sort.insOuter lt a b (a+1) d)/\Hid (St wr dk)/\Hid (Kp B X wr)) (λs6 _=>b+1 - (intOf s6).toNat)
 case atStart=>exact⟨a+1,d,by go_num,by omega,by omega,rfl,SX,Kp.refl _ _⟩
 case round=>
  obtain⟨i,dk,rfl,bq,bu,HO,HS,HK⟩:=hrel;by_cases al:i<b
  ·go_wp2_with fail
   go_loopw [7] (λs7 ar=>∃ (j:Nat) (dj:Array α),s7 = E J j/\a<=j/\j<=i/\Hid (Sort.insInner lt a j dj=Sort.insInner lt a i dk)/\Hid (St ar dj)/\Hid (Kp B X ar)) (λs7 _=>(intOf s7).toNat)
   case atStart=>exact⟨i,dk,rfl,by omega,aE _,rfl,HS,HK⟩
   case round=>
    obtain⟨j,dj,rfl,br,bv,HI,HS,HK⟩:=hrel;have c0:=HK.cell aq M0;have bw:=aC _ _ c0;by_cases bh:a<j
    ·have hl:=HH.less wr dj j (j - 1) HS (by omega) (by omega);rw[show (((j - 1:Nat):Int))=(j:Int) - 1 by omega] at hl;cases hlv:lt dj[j]! dj[j - 1]! with
     | true=>
      rw[hlv] at hl;have HL:=Zb hlv
      go_wp2_with (go_at_fn g;refine hl.mono ?_;rintro e w' ⟨rfl,ak,aj⟩;have ae:=Zb (Kp.trans HK aj);have c1:=ae.cell aq M1;obtain⟨w3,hs,bg,bf⟩:=HH.swap w' dj j (j - 1) ak (by omega) (by omega);have aw:=Zb bg;have au:=Zb (Kp.trans ae bf);rw[show (((j - 1:Nat):Int))=(j:Int) - 1 by omega] at hs)
      go_roundw
      case rel=>exact⟨j - 1,cB dj j (j - 1),by congr 1 <;> omega,by omega,by omega,by show _=_;rw[<-Za HI,Zac lt a j dj bh HL],aw,au⟩
      case measure=>simp[intOf];omega
     | false=>
      rw[hlv] at hl;have HL:=Zb hlv
      go_wp2_with (go_at_fn g;refine hl.mono ?_;rintro e w' ⟨rfl,ak,aj⟩;have ae:=Zb (Kp.trans HK aj);have av:=Zb ak)
      go_roundw
      case rel=>exact⟨i+1,dj,by go_num,by omega,by omega,by show _=_;rw[<-Za HO,Hc _ _ _ _ _ al,<-Za HI,Pk _ _ _ _ (Or.inr HL)],av,ae⟩
      case measure=>simp[intOf];omega
    ·go_wp2;go_roundw
     case rel=>exact⟨i+1,dj,by go_num,by omega,by omega,by show _=_;rw[<-Za HO,Hc _ _ _ _ _ al,<-Za HI,Pk _ _ _ _ (Or.inl (by omega))],HS,HK⟩
     case measure=>simp[intOf];omega
  ·go_wp2_with fail;go_end0;exact⟨rfl,by rw[<-Za HO,Ar _ _ _ _ _ al];exact Za HS,Kp.trans KX HK⟩
theorem Zkl{α : Type}[Inhabited α](lt : α -> α->Bool)(hi first aa:Nat)(d:Array α)(h:hi<=2*aa+1):Sort.siftDown lt hi first aa d=d:=by
 rw[Sort.siftDown,dif_pos h]
theorem Cf{α : Type}[Inhabited α](lt : α -> α->Bool)(hi first aa:Nat)(d:Array α)(h:2*aa+2<hi)(hl:lt d[first+(2*aa+1)]! d[first+(2*aa+1)+1]! = true) :
  Sort.siftDown lt hi first aa d=if lt d[first+aa]! d[first+(2*aa+2)]! then Sort.siftDown lt hi first (2*aa+2) (cB d (first+aa) (first+(2*aa+2))) else d:=by
 rw[Sort.siftDown,dif_neg (by omega),if_pos (by simp[hl];omega),dif_pos h];cases lt d[first+aa]! d[first+(2*aa+2)]! <;> rfl
theorem Su{α : Type}[Inhabited α](lt : α -> α->Bool)(hi first aa:Nat)(d:Array α)(h:2*aa+1<hi)(hl:hi<=2*aa+2\/lt d[first+(2*aa+1)]! d[first+(2*aa+1)+1]! = false) :
  Sort.siftDown lt hi first aa d=if lt d[first+aa]! d[first+(2*aa+1)]! then Sort.siftDown lt hi first (2*aa+1) (cB d (first+aa) (first+(2*aa+1))) else d:=by
 rw[Sort.siftDown,dif_neg (by omega),if_neg]
 ·cases lt d[first+aa]! d[first+(2*aa+1)]! <;> rfl
 ·rcases hl with q|q
  ·simp;omega
  ·simp[q]
set_option maxRecDepth 10000 in
theorem Zer{α : Type}[Inhabited α]{g:Nat}{lb}{sf:Nat}{sb}{lt : α -> α->Bool}{n B:Nat}{St:World->Array α->Prop}(H:Sr aB g lb sf sb lt n B St)
  (lo hi first:Nat) (d:Array α) (w) (h:St w d) (hb:first+hi<=n) (bw:lo<=n) :
  Calls aB 256 #[lsV g lb sf sb,E J lo,E J hi,E J first] w λe w'=>e = dB (dC #[])/\St w' (Sort.siftDown lt hi first lo d)/\Kp B w w':=by
 unfold lsV;have hn:=H.small;have eg:=H.enters;have ar:=H.low _ _ h;obtain⟨N0,N1⟩:=Vr w (.func (.func g) #[] lb) (.func (.func sf) #[] sb) 275;obtain⟨SX,KX,HH⟩:=kh3 (H.alloc w d (dA #[.func (.func g) #[] lb,.func (.func sf) #[] sb] 275) h) (Kp.alloc B w (dA #[.func (.func g) #[] lb,.func (.func sf) #[] sb] 275)) H;clear H h;go_enter func256,ntmps256;go_wp2;generalize w.alloc (dA #[.func (.func g) #[] lb,.func (.func sf) #[] sb] 275)=X at *;obtain⟨M0,M1⟩:=kh2 N0 N1;clear N0 N1
 go_loopw [8] (λs8 wr=>∃ (aa:Nat) (dk:Array α),s8 = E J aa/\aa<=n/\Hid (Sort.siftDown lt hi first aa dk=Sort.siftDown lt hi first lo d)/\Hid (St wr dk)/\Hid (Kp B X wr)) (λs8 _=>n+1 - (intOf s8).toNat)
 case atStart=>exact⟨lo,d,rfl,bw,rfl,SX,Kp.refl _ _⟩
 case round=>
  obtain⟨aa,dk,rfl,cf,HO,HS,HK⟩:=hrel;have c0:=(Za HK).cell ar (Za M0);have cg:=aC _ _ c0;obtain⟨c,hc⟩:∃ c:Nat,c=2*aa+1:=⟨_,rfl⟩;have cb:2*(aa:Int)+1=(c:Int):=by omega
  have ce:aa<c:=by omega
  have HC:=Zb hc;clear hc;by_cases cc:hi<=c
  ·go_wp2_with fail;go_end0;exact⟨rfl,by rw[<-Za HO,Zkl _ _ _ _ _ (by have:=Za HC;omega)];exact Za HS,Kp.trans (Za KX) (Za HK)⟩
  ·
   by_cases cd:c+1<hi
   ·have hl:=(Za HH).less wr dk (first+c) (first+c+1) (Za HS) (by omega) (by omega);rw[show (((first+c+1:Nat):Int))=(first:Int)+c+1 by omega,show (((first+c:Nat):Int))=(first:Int)+c by omega] at hl;cases hlv:lt dk[first+c]! dk[first+c+1]! with
    | true=>
     rw[hlv] at hl;have HL:=Zb hlv;clear hlv;go_wp2_with fail;refine hl.mono ?_;rintro e w2 ⟨rfl,an,az⟩;obtain⟨al,bu⟩:=kh2 (Kp.trans (Za HK) az) an;have bi:=(Za al).cell ar (Za M0);have ab:=(Za HH).less w2 dk (first+aa) (first+(c+1)) an (by omega) (by omega);rw[show (((first+(c+1):Nat):Int))=(first:Int)+(c+1) by omega,show (((first+aa:Nat):Int))=(first:Int)+aa by omega] at ab;have bx:=aC _ _ bi;clear an az hl c0;cases hlv:lt dk[first+aa]! dk[first+(c+1)]! with
     | true=>
      rw[hlv] at ab;have ag:=Zb hlv;clear hlv;go_wp2_with fail;refine ab.mono ?_;rintro e w3 ⟨rfl,ae,ad⟩;have af:=Zb (Kp.trans (Za al) ad);have ay:=(Za af).cell ar (Za M1);have br:=aC _ _ ay;obtain⟨w4,hs,aj,ah⟩:=(Za HH).swap w3 dk (first+aa) (first+(c+1)) ae (by omega) (by omega);rw[show (((first+(c+1):Nat):Int))=(first:Int)+(c+1) by omega,show (((first+aa:Nat):Int))=(first:Int)+aa by omega] at hs;obtain⟨ax,au⟩:=kh2 aj (Kp.trans (Za af) ah);clear ae ad aj ah ab;go_wp2;go_roundw
      case rel=>exact⟨c+1,_,by go_num,by omega,by show _=_;rw[<-Za HO,Cf lt hi first aa dk (by have:=Za HC;omega) (by rw[<-Za HC];exact Za HL),show 2*aa+2=c+1 by have:=Za HC;omega,if_pos (Za ag)],ax,au⟩
      case measure=>simp[intOf];omega
     | false=>
      rw[hlv] at ab;have ag:=Zb hlv;clear hlv;go_wp2_with fail;refine ab.mono ?_;rintro e w3 ⟨rfl,ae,ad⟩;obtain⟨af,aw⟩:=kh2 (Kp.trans (Za al) ad) ae;clear ae ad ab;go_wp2;(try simp only[bQ,Exit.then]);refine aL (results_none rfl _ _ _) rfl ?_;exact⟨rfl,by rw[<-Za HO,Cf lt hi first aa dk (by have:=Za HC;omega) (by rw[<-Za HC];exact Za HL),show 2*aa+2=c+1 by have:=Za HC;omega,if_neg (by rw[Za ag];decide)];exact Za aw,Kp.trans (Za KX) (Za af)⟩
    | false=>
     rw[hlv] at hl;have HL:=Zb hlv;clear hlv;go_wp2_with fail;refine hl.mono ?_;rintro e w2 ⟨rfl,an,az⟩;obtain⟨al,bu⟩:=kh2 (Kp.trans (Za HK) az) an;have bi:=(Za al).cell ar (Za M0);have ab:=(Za HH).less w2 dk (first+aa) (first+c) an (by omega) (by omega);rw[show (((first+c:Nat):Int))=(first:Int)+c by omega,show (((first+aa:Nat):Int))=(first:Int)+aa by omega] at ab;have bx:=aC _ _ bi;clear an az hl c0;cases hlv:lt dk[first+aa]! dk[first+c]! with
     | true=>
      rw[hlv] at ab;have ag:=Zb hlv;clear hlv;go_wp2_with fail;refine ab.mono ?_;rintro e w3 ⟨rfl,ae,ad⟩;have af:=Zb (Kp.trans (Za al) ad);have ay:=(Za af).cell ar (Za M1);have br:=aC _ _ ay;obtain⟨w4,hs,aj,ah⟩:=(Za HH).swap w3 dk (first+aa) (first+c) ae (by omega) (by omega);rw[show (((first+c:Nat):Int))=(first:Int)+c by omega,show (((first+aa:Nat):Int))=(first:Int)+aa by omega] at hs;obtain⟨ax,au⟩:=kh2 aj (Kp.trans (Za af) ah);clear ae ad aj ah ab;go_wp2;go_roundw
      case rel=>exact⟨c,_,by go_num,by omega,by show _=_;rw[<-Za HO,Su lt hi first aa dk (by have:=Za HC;omega) (Or.inr (by rw[<-Za HC];exact Za HL)),<-Za HC,if_pos (Za ag)],ax,au⟩
      case measure=>simp[intOf];omega
     | false=>
      rw[hlv] at ab;have ag:=Zb hlv;clear hlv;go_wp2_with fail;refine ab.mono ?_;rintro e w3 ⟨rfl,ae,ad⟩;obtain⟨af,aw⟩:=kh2 (Kp.trans (Za al) ad) ae;clear ae ad ab;go_wp2;(try simp only[bQ,Exit.then]);refine aL (results_none rfl _ _ _) rfl ?_;exact⟨rfl,by rw[<-Za HO,Su lt hi first aa dk (by have:=Za HC;omega) (Or.inr (by rw[<-Za HC];exact Za HL)),<-Za HC,if_neg (by rw[Za ag];decide)];exact Za aw,Kp.trans (Za KX) (Za af)⟩
   ·have ab:=(Za HH).less wr dk (first+aa) (first+c) (Za HS) (by omega) (by omega);rw[show (((first+c:Nat):Int))=(first:Int)+c by omega,show (((first+aa:Nat):Int))=(first:Int)+aa by omega] at ab;cases hlv:lt dk[first+aa]! dk[first+c]! with
    | true=>
     rw[hlv] at ab;have ag:=Zb hlv;clear hlv;go_wp2_with fail;refine ab.mono ?_;rintro e w3 ⟨rfl,ae,ad⟩;have af:=Zb (Kp.trans (Za HK) ad);have ay:=(Za af).cell ar (Za M1);have br:=aC _ _ ay;obtain⟨w4,hs,aj,ah⟩:=(Za HH).swap w3 dk (first+aa) (first+c) ae (by omega) (by omega);rw[show (((first+c:Nat):Int))=(first:Int)+c by omega,show (((first+aa:Nat):Int))=(first:Int)+aa by omega] at hs;obtain⟨ax,au⟩:=kh2 aj (Kp.trans (Za af) ah);clear ae ad aj ah ab;go_wp2;go_roundw
     case rel=>exact⟨c,_,by go_num,by omega,by show _=_;rw[<-Za HO,Su lt hi first aa dk (by have:=Za HC;omega) (Or.inl (by have:=Za HC;omega)),<-Za HC,if_pos (Za ag)],ax,au⟩
     case measure=>simp[intOf];omega
    | false=>
     rw[hlv] at ab;have ag:=Zb hlv;clear hlv;go_wp2_with fail;refine ab.mono ?_;rintro e w3 ⟨rfl,ae,ad⟩;obtain⟨af,aw⟩:=kh2 (Kp.trans (Za HK) ad) ae;clear ae ad ab;go_wp2;(try simp only[bQ,Exit.then]);refine aL (results_none rfl _ _ _) rfl ?_;exact⟨rfl,by rw[<-Za HO,Su lt hi first aa dk (by have:=Za HC;omega) (Or.inl (by have:=Za HC;omega)),<-Za HC,if_neg (by rw[Za ag];decide)];exact Za aw,Kp.trans (Za KX) (Za af)⟩
set_option maxRecDepth 10000 in
theorem Zqp{α : Type}[Inhabited α]{g:Nat}{lb}{sf:Nat}{sb}{lt : α -> α->Bool}{n B:Nat}{St:World->Array α->Prop}(H:Sr aB g lb sf sb lt n B St)
  (a b:Nat) (d:Array α) (w) (h:St w d) (br:a+2<=b) (hb:b<=n) :
  Calls aB 230 #[lsV g lb sf sb,E J a,E J b] w λe w'=>e = dB (dC #[])/\St w' (Sort.heapSort lt d a b)/\Kp B w w':=by
 unfold lsV Sort.heapSort;have hn:=H.small;have ab:=H.low _ _ h;obtain⟨N0,N1⟩:=Vr w (.func (.func g) #[] lb) (.func (.func sf) #[] sb) 275;obtain⟨SX,KX,HH⟩:=kh3 (H.alloc w d (dA #[.func (.func g) #[] lb,.func (.func sf) #[] sb] 275) h) (Kp.alloc B w (dA #[.func (.func g) #[] lb,.func (.func sf) #[] sb] 275)) H;obtain⟨hi,aw⟩:∃ hi:Nat,hi=b - a:=⟨_,rfl⟩;have bu:(b:Int) - (a:Int)=(hi:Int):=by omega
 obtain⟨m,hm⟩:∃ m:Nat,m=(hi - 1) / 2:=⟨_,rfl⟩;have bh:((hi:Int) - 1) / 2=(m:Int):=by omega
 have bx:((hi:Int) - 1).tdiv 2=(m:Int):=by rw[Int.tdiv_eq_ediv_of_nonneg (by omega)];exact bh
 rw[<-aw,<-hm];have bv:2<=hi:=by omega
 have bw:a+hi<=n:=by omega
 have bz:m<hi:=by omega
 clear hm aw;go_enter func230,ntmps230;go_wp2;generalize w.alloc (dA #[.func (.func g) #[] lb,.func (.func sf) #[] sb] 275)=X at *;obtain⟨M0,M1⟩:=kh2 N0 N1
 go_loopw [9] (λs9 wr=>∃ (k:Nat) (dk:Array α),s9 = E J ((k:Int) - 1)/\k<=hi/\Hid (Sort.heapBuild lt hi a k dk=Sort.heapBuild lt hi a (m+1) d)/\Hid (St wr dk)/\Hid (Kp B X wr)) (λs9 _=>(intOf s9+1).toNat)
 case atStart=>exact⟨m+1,d,by congr 1;omega,by omega,rfl,SX,Kp.refl _ _⟩
 case round=>
  obtain⟨k,dk,rfl,bg,HO,HS,HK⟩:=hrel;have c0:=HK.cell ab M0;have c1:=HK.cell ab M1;have bo:=aC _ _ c0;cases k with
  | zero=>
   have HD:Hid (dk=Sort.heapBuild lt hi a (m+1) d):=Za HO;have bi:¬(0:Int)<=((0:Nat):Int) - 1:=(by omega);go_wp2_with fail
   go_loopw [10] (λaq wr=>∃ (k:Nat) (dj:Array α),aq = E J ((k:Int) - 1)/\k<=hi/\Hid (Sort.heapPop lt a k dj=Sort.heapPop lt a hi dk)/\Hid (St wr dj)/\Hid (Kp B X wr)) (λaq _=>(intOf aq+1).toNat)
   case atStart=>exact⟨hi,dk,rfl,aE _,rfl,HS,HK⟩
   case round=>
    obtain⟨k,dj,rfl,bg,HO,HS,HK⟩:=hrel;have c0:=HK.cell ab M0;have c1:=HK.cell ab M1;have bo:=aC _ _ c0;cases k with
    | zero=>
     have bi:¬(0:Int)<=((0:Nat):Int) - 1:=(by omega);go_wp2_with fail;go_end0;exact⟨rfl,by rw[<-Za HD,<-Za HO];exact Za HS,Kp.trans KX HK⟩
    | succ k=>
     have ap:((k+1:Nat):Int) - 1=(k:Int):=(by omega);rw[ap];obtain⟨w2,hs,av,au⟩:=HH.swap wr dj a (a+k) HS (by omega) (by omega);rw[show (((a+k:Nat):Int))=(a:Int)+k by omega] at hs;have aj:=Zb (Kp.trans HK au);have bf:=aj.cell ab M0;have bq:=aj.cell ab M1;have ca:=aC _ _ bf;have C:=Zb (Zer HH 0 k a (cB dj a (a+k)) w2 av (by omega) (by omega));unfold lsV at C;clear av au c0;go_wp2_with fail;refine C.mono ?_;rintro e w3 ⟨rfl,ag,af⟩;obtain⟨al,ak⟩:=kh2 ag (Kp.trans aj af);go_wp2;go_roundw
     case rel=>exact⟨k,_,rfl,by omega,by show _=_;rw[<-Za HO];rfl,al,ak⟩
     case measure=>simp[intOf]
  | succ k=>
   have ap:((k+1:Nat):Int) - 1=(k:Int):=(by omega);rw[ap];have C:=Zb (Zer HH k hi a dk wr HS (by omega) (by omega));unfold lsV at C;go_wp2_with fail;refine C.mono ?_;rintro e w3 ⟨rfl,ag,af⟩;obtain⟨al,ak⟩:=kh2 ag (Kp.trans HK af);clear ag af;go_wp2;go_roundw
   case rel=>exact⟨k,_,rfl,by omega,by show _=_;rw[<-Za HO];rfl,al,ak⟩
   case measure=>simp[intOf]
structure Kq(B q:Nat)(w w':World):Prop where
 size:w.heap.size<=w'.heap.size
 same:∀ b,B<=b->b≠q->b<w.heap.size->w'.heap[b]? = w.heap[b]?
theorem Kq.refl(B q:Nat)(w):Kq B q w w:=⟨aE _,λ_ _ _ _=>rfl⟩
theorem Kq.trans{B q:Nat}{w1 w2 w3}(h:Kq B q w1 w2)(k:Kq B q w2 w3):Kq B q w1 w3:=
 ⟨aO h.size k.size,λb hb hq hl=>(k.same b hb hq (aF hl h.size)).trans (h.same b hb hq hl)⟩
theorem Kp.but{B q:Nat}{w w'}(h:Kp B w w'):Kq B q w w':=⟨h.size,λb hb _ hl=>h.same b hb hl⟩
theorem Kq.set(B q:Nat)(w:World)(v):Kq B q w (w.setCell ⟨q,0,aD⟩ v):=
 ⟨by simp[World.setCell],λb _ hq _=>Below.heap_setCell w ⟨q,0,aD⟩ v b hq⟩
theorem Kq.cell{B q:Nat}{w w':World}(h:Kq B q w w'){p:Addr}{v}(hb:B<=p.block)(hq:p.block≠q)(hc:w.cell? p=dG v):w'.cell? p=dG v:=by
 have hl:=aC w p hc;have e:=h.same p.block hb hq hl;simp only[bF] at hc ⊢;rw[e];exact hc
theorem Kq.all{B q:Nat}{w w1 w2:World}(h:Kp B w w1)(k:Kq B q w1 w2)(hq:w.heap.size<=q):Kp B w w2:=
 ⟨aO h.size k.size,λb hb hl=>(k.same b hb (by omega) (aF hl h.size)).trans (h.same b hb hl)⟩
def Ctr(w:World)(q s:Nat):Prop:=w.cell? ⟨q,0,aD⟩=dG (E J s)/\w.frozen? ⟨q,0,aD⟩=false
theorem Ctr.kp{B q s:Nat}{w w'}(c:Ctr w q s)(h:Kp B w w')(hq:B<=q):Ctr w' q s:=
 ⟨h.cell (p:=⟨q,0,aD⟩) hq c.1,by
  have e:=h.same q hq (aC _ _ c.1);have f:=c.2;simp only[World.frozen?] at f ⊢;rw[e];exact f⟩
set_option maxRecDepth 10000 in
theorem Ga{α : Type}[Inhabited α]{g:Nat}{lb}{sf:Nat}{sb}{lt : α -> α->Bool}{n B:Nat}{St:World->Array α->Prop}(H:Sr aB g lb sf sb lt n B St)
  (a b q s:Nat) (d:Array α) (w) (h:St w d) (ha:a<n) (hb:b<n) (hq:B<=q) (hs:s<=100) (hc:Ctr w q s) :
  Calls aB 272 #[lsV g lb sf sb,E J a,E J b,dE (dG ⟨q,0,aD⟩)] w λe w'=>∃ x y s':Nat,e = dB (dC #[E J x,E J y])/\((x=a/\y=b)\/(x=b/\y=a))/\s'<=s+1/\Ctr w' q s'/\St w' d/\Kq B q w w':=by
 unfold lsV;have hn:=H.small;have eg:=H.enters;have be:=H.low _ _ h;obtain⟨N0,N1⟩:=Vr w (.func (.func g) #[] lb) (.func (.func sf) #[] sb) 275;have bf:=aC _ _ hc.1;have SX:=H.alloc w d (dA #[.func (.func g) #[] lb,.func (.func sf) #[] sb] 275) h;have KX:=Kp.alloc B w (dA #[.func (.func g) #[] lb,.func (.func sf) #[] sb] 275);have cX:=hc.kp KX hq;have hl:=H.less _ d b a SX hb ha;obtain⟨HH,KH⟩:=kh2 H KX;cases hlv:lt d[b]! d[a]! with
 | true=>
  rw[hlv] at hl;go_enter func272,ntmps272;go_wp2_with fail;refine hl.mono ?_;rintro e w2 ⟨rfl,ad,aa⟩;obtain⟨c2,f2⟩:=cX.kp aa hq;have bh:=aC _ _ c2;obtain⟨au,aq⟩:=kh2 (HH.store w2 d q 0 (E J ((s+1:Nat):Int)) ad hq) (Kq.trans (Kq.trans KH.but aa.but) (Kq.set B q w2 (E J ((s+1:Nat):Int))));have am:Hid (Ctr (w2.setCell ⟨q,0,aD⟩ (E J ((s+1:Nat):Int))) q (s+1)):=⟨World.cell?_setCell_same _ _ _ c2,by rw[World.frozen?_setCell];exact f2⟩;go_wp2;go_ret2;exact⟨b,a,s+1,rfl,Or.inr ⟨rfl,rfl⟩,aE _,Za am,Za au,Za aq⟩
 | false=>
  rw[hlv] at hl;go_enter func272,ntmps272;go_wp2_with fail;refine hl.mono ?_;rintro e w2 ⟨rfl,ad,aa⟩;obtain⟨al,ar,ap⟩:=kh3 (cX.kp aa hq) ad (Kq.trans (q:=q) KH.but aa.but);go_wp2;go_ret2;exact⟨a,b,s,rfl,Or.inl ⟨rfl,rfl⟩,by omega,Za al,Za ar,Za ap⟩
set_option maxRecDepth 10000 in
theorem Gb{α : Type}[Inhabited α]{g:Nat}{lb}{sf:Nat}{sb}{lt : α -> α->Bool}{n B:Nat}{St:World->Array α->Prop}(H:Sr aB g lb sf sb lt n B St)
  (a b c q s:Nat) (d:Array α) (w) (h:St w d) (ha:a<n) (hb:b<n) (bq:c<n) (hq:B<=q) (hs:s<=90) (hc:Ctr w q s) :
  Calls aB 260 #[lsV g lb sf sb,E J a,E J b,E J c,dE (dG ⟨q,0,aD⟩)] w λe w'=>∃ x s':Nat,e = dB (E J x)/\(x=a\/x=b\/x=c)/\s'<=s+3/\Ctr w' q s'/\St w' d/\Kq B q w w':=by
 unfold lsV;have aa:=H.low _ _ h;have bx:=aC _ _ hc.1;obtain⟨N0,N1⟩:=Vr w (.func (.func g) #[] lb) (.func (.func sf) #[] sb) 275;have SX:=H.alloc w d (dA #[.func (.func g) #[] lb,.func (.func sf) #[] sb] 275) h;have KX:=Kp.alloc B w (dA #[.func (.func g) #[] lb,.func (.func sf) #[] sb] 275);have cX:=hc.kp KX hq;have C:=Zb (Ga H a b q s d _ SX ha hb hq (by omega) cX);unfold lsV at C;obtain⟨HH,KH,M0,M1⟩:=kh4 H KX N0 N1;go_enter func260,ntmps260;go_wp2_with fail;refine C.mono ?_;rintro e w2 ⟨x1,y1,s1,rfl,cd,ca,c1,bg,ac⟩;have m0:=ac.cell (p:=⟨w.heap.size,0,aD⟩) aa (by show w.heap.size≠q;omega) M0;have m1:=ac.cell (p:=⟨w.heap.size,1,aD⟩) aa (by show w.heap.size≠q;omega) M1;have cg:=aC _ _ m0;have C2:=Zb (Ga HH y1 c q s1 d _ bg (by omega) bq hq (by omega) c1);unfold lsV at C2;obtain⟨al,P0,P1⟩:=kh3 (Kq.trans KH.but ac) m0 m1;go_wp2_with fail;refine C2.mono ?_;rintro e w3 ⟨x2,y2,s2,rfl,ce,cb,c2,bh,ad⟩;have n0:=ad.cell (p:=⟨w.heap.size,0,aD⟩) aa (by show w.heap.size≠q;omega) P0;have n1:=ad.cell (p:=⟨w.heap.size,1,aD⟩) aa (by show w.heap.size≠q;omega) P1;have cj:=aC _ _ n0;have C3:=Zb (Ga HH x1 x2 q s2 d _ bh (by omega) (by omega) hq (by omega) c2);unfold lsV at C3;have am:=Zb (Kq.trans al ad);go_wp2_with fail;refine C3.mono ?_;rintro e w4 ⟨x3,y3,s3,rfl,cf,cc,c3,bi,bf⟩;obtain⟨ak,ap,an⟩:=kh3 c3 bi (Kq.trans am bf);go_wp2;go_ret;exact⟨y3,s3,rfl,by omega,by omega,Za ak,Za ap,Za an⟩
set_option maxRecDepth 10000 in
theorem Gc{α : Type}[Inhabited α]{g:Nat}{lb}{sf:Nat}{sb}{lt : α -> α->Bool}{n B:Nat}{St:World->Array α->Prop}(H:Sr aB g lb sf sb lt n B St)
  (a q s:Nat) (d:Array α) (w) (h:St w d) (ha:a+1<n) (au:1<=a) (hq:B<=q) (hs:s<=90) (hc:Ctr w q s) :
  Calls aB 259 #[lsV g lb sf sb,E J a,dE (dG ⟨q,0,aD⟩)] w λe w'=>∃ x s':Nat,e = dB (E J x)/\(a<=x+1/\x<=a+1)/\s'<=s+3/\Ctr w' q s'/\St w' d/\Kq B q w w':=by
 unfold lsV;have hn:=H.small;have av:=H.low _ _ h;obtain⟨N0,N1⟩:=Vr w (.func (.func g) #[] lb) (.func (.func sf) #[] sb) 275;have SX:=H.alloc w d (dA #[.func (.func g) #[] lb,.func (.func sf) #[] sb] 275) h;have KX:=Kp.alloc B w (dA #[.func (.func g) #[] lb,.func (.func sf) #[] sb] 275);have cX:=hc.kp KX hq;have C:=Gb H (a - 1) a (a+1) q s d _ SX (by omega) (by omega) (by omega) hq hs cX;unfold lsV at C;rw[show (((a - 1:Nat):Int))=(a:Int) - 1 by omega,show (((a+1:Nat):Int))=(a:Int)+1 by omega] at C;obtain⟨C,KH⟩:=kh2 C KX;go_enter func259,ntmps259;go_wp2_with fail;refine C.mono ?_;rintro e w2 ⟨x1,s1,rfl,ax,aw,c1,al,ak⟩;obtain⟨ad,af,ae⟩:=kh3 c1 al (Kq.trans KH.but ak);go_wp2;go_ret;exact⟨x1,s1,rfl,by omega,by omega,Za ad,Za af,Za ae⟩
set_option maxRecDepth 10000 in
theorem Zir{α : Type}[Inhabited α]{g:Nat}{lb}{sf:Nat}{sb}{lt : α -> α->Bool}{n B:Nat}{St:World->Array α->Prop}(H:Sr aB g lb sf sb lt n B St)
  (a b:Nat) (d:Array α) (w) (h:St w d) (eh:a+13<=b) (hb:b<=n) :
  Calls aB 232 #[lsV g lb sf sb,E J a,E J b] w λe w'=>∃ x t:Nat,e = dB (dC #[E J x,E J t])/\a<=x/\x<b/\t<=2/\St w' d/\Kp B w w':=by
 unfold lsV;have hn:=H.small;have aa:=H.low _ _ h;obtain⟨l,hl⟩:∃ l:Nat,l=b - a:=⟨_,rfl⟩;have el:(b:Int) - (a:Int)=(l:Int):=by omega
 obtain⟨q,hq⟩:∃ q:Nat,q=l / 4:=⟨_,rfl⟩;have dv:(l:Int) / 4=(q:Int):=by omega
 have eq:(l:Int).tdiv 4=(q:Int):=by rw[Int.tdiv_eq_ediv_of_nonneg (by omega)];exact dv
 have eo:4*q<=l:=by omega
 have ep:l<4*q+4:=by omega
 have en:a+l=b:=by omega
 have ek:13<=l:=by omega
 clear hq hl;obtain⟨N0,N1⟩:=Vr w (.func (.func g) #[] lb) (.func (.func sf) #[] sb) 275;have SX:=H.alloc _ d (dA #[E J 0] 3) (H.alloc w d (dA #[.func (.func g) #[] lb,.func (.func sf) #[] sb] 275) h);have KX:=Kp.trans (Kp.alloc B w (dA #[.func (.func g) #[] lb,.func (.func sf) #[] sb] 275)) (Kp.alloc B _ (dA #[E J 0] 3));have KY:=Kp.alloc B (w.alloc (dA #[.func (.func g) #[] lb,.func (.func sf) #[] sb] 275)) (dA #[E J 0] 3);have m0:=KY.cell aa N0;have m1:=KY.cell aa N1;have cm:(w.alloc (dA #[.func (.func g) #[] lb,.func (.func sf) #[] sb] 275)).heap.size=w.heap.size+1:=by simp
 have bd:Ctr ((w.alloc (dA #[.func (.func g) #[] lb,.func (.func sf) #[] sb] 275)).alloc (dA #[E J 0] 3)) (w.heap.size+1) 0:=by
  rw[<-cm];exact⟨by rw[bG _ _ _ _ rfl];rfl,World.frozen?_alloc_at _ _ _ _ rfl⟩
 have ey:=aC _ _ bd.1;have hi:(a:Int)+(q:Int)=((a+q:Nat):Int):=by omega
 have hj:(a:Int)+(q:Int)*2=((a+q*2:Nat):Int):=by omega
 have hk:(a:Int)+(q:Int)*3=((a+q*3:Nat):Int):=by omega
 obtain⟨i,cg⟩:∃ i:Nat,i=a+q:=⟨_,rfl⟩;obtain⟨j,cj⟩:∃ j:Nat,j=a+q*2:=⟨_,rfl⟩;obtain⟨k,cl⟩:∃ k:Nat,k=a+q*3:=⟨_,rfl⟩;rw[<-cg] at hi;rw[<-cj] at hj;rw[<-cl] at hk;have ej:a+3<=i/\i<j/\j<k/\k<b:=by omega
 obtain⟨HH,KH,M0,M1,HS,HC⟩:=kh6 H KX m0 m1 SX bd;clear H h SX KX KY N0 N1 bd cg cj cl cm;have A0:=M0;have B0:=M1;have br:=Zb (Kq.refl B (w.heap.size+1) ((w.alloc (dA #[.func (.func g) #[] lb,.func (.func sf) #[] sb] 275)).alloc (dA #[E J 0] 3)));have eg:(8:Int)<=(l:Int):=by omega
 by_cases h50:50<=l
 ·have dq:(50:Int)<=(l:Int):=by omega
  have C1:=Zb (Gc HH i (w.heap.size+1) 0 d _ HS (by omega) (by omega) (by omega) (by omega) HC);unfold lsV at C1;go_enter func232,ntmps232;go_wp2_with fail;refine C1.mono ?_;rintro e w1 ⟨x1,s1,rfl,dx,dw,am,al,ab⟩;have aj:=ab.cell (p:=⟨w.heap.size,0,aD⟩) aa (by show w.heap.size≠w.heap.size+1;omega) A0;have ax:=ab.cell (p:=⟨w.heap.size,1,aD⟩) aa (by show w.heap.size≠w.heap.size+1;omega) B0;have dj:=aC _ _ aj;obtain⟨A1,B1,au,ah,ar⟩:=kh5 aj ax (Kq.trans br ab) al am;clear ab al am;have C2:=Zb (Gc HH j (w.heap.size+1) s1 d _ ah (by omega) (by omega) (by omega) (by omega) ar);unfold lsV at C2;go_wp2_with fail;refine C2.mono ?_;rintro e w2 ⟨x2,s2,rfl,eu,er,cd,ca,an⟩;have ca2:=an.cell (p:=⟨w.heap.size,0,aD⟩) aa (by show w.heap.size≠w.heap.size+1;omega) A1;have de:=an.cell (p:=⟨w.heap.size,1,aD⟩) aa (by show w.heap.size≠w.heap.size+1;omega) B1;have ed:=aC _ _ ca2;obtain⟨A2,B2,cx,da,ct⟩:=kh5 ca2 de (Kq.trans au an) ca cd;clear an ca cd;have C3:=Zb (Gc HH k (w.heap.size+1) s2 d _ da (by omega) (by omega) (by omega) (by omega) ct);unfold lsV at C3;go_wp2_with fail;refine C3.mono ?_;rintro e w3 ⟨x3,s3,rfl,ev,es,ce,cb,ap⟩;have ca3:=ap.cell (p:=⟨w.heap.size,0,aD⟩) aa (by show w.heap.size≠w.heap.size+1;omega) A2;have df:=ap.cell (p:=⟨w.heap.size,1,aD⟩) aa (by show w.heap.size≠w.heap.size+1;omega) B2;have ee:=aC _ _ ca3;obtain⟨A3,B3,cy,db,cu⟩:=kh5 ca3 df (Kq.trans cx ap) cb ce;clear ap cb ce
  have C4:=Zb (Gb HH x1 x2 x3 (w.heap.size+1) s3 d _ db (by omega) (by omega) (by omega) (by omega) (by omega) cu);unfold lsV at C4;go_wp2_with fail;refine C4.mono ?_;rintro e w4 ⟨x4,s4,rfl,ew,et,cf,cc,aq⟩;have bz:=aq.cell (p:=⟨w.heap.size,0,aD⟩) aa (by show w.heap.size≠w.heap.size+1;omega) A3;have dg:=aq.cell (p:=⟨w.heap.size,1,aD⟩) aa (by show w.heap.size≠w.heap.size+1;omega) B3;have ef:=aC _ _ bz;obtain⟨A4,B4,cz,av,cw⟩:=kh5 bz dg (Kq.trans cy aq) cc cf;clear aq cc cf;obtain⟨fa,fb⟩:=Za cw;have di:=aC _ _ fa;have ad:=Zb (Kq.all KH cz (by omega));by_cases e0:s4=0
  ·subst e0;go_wp2;go_ret2;exact⟨x4,1,rfl,by omega,by omega,by omega,Za av,Za ad⟩
  ·have dm:¬((s4:Nat):Int)=0:=(by omega);have dl:(((s4:Nat):Int) == 0)=false:=(by simp[e0]);by_cases az:s4=12
   ·subst az;go_wp2;go_ret2;exact⟨x4,2,rfl,by omega,by omega,by omega,Za av,Za ad⟩
   ·have dp:¬((s4:Nat):Int)=12:=(by omega);have dn:(((s4:Nat):Int) == 12)=false:=(by simp;omega);go_wp2;go_ret2;exact⟨x4,0,rfl,by omega,by omega,by omega,Za av,Za ad⟩
 ·have dq:¬(50:Int)<=(l:Int):=by omega
  have C1:=Zb (Gb HH i j k (w.heap.size+1) 0 d _ HS (by omega) (by omega) (by omega) (by omega) (by omega) HC);unfold lsV at C1;go_enter func232,ntmps232;go_wp2_with fail;refine C1.mono ?_;rintro e w1 ⟨x1,s1,rfl,dx,dw,am,al,ab⟩;have aj:=ab.cell (p:=⟨w.heap.size,0,aD⟩) aa (by show w.heap.size≠w.heap.size+1;omega) A0;have ax:=ab.cell (p:=⟨w.heap.size,1,aD⟩) aa (by show w.heap.size≠w.heap.size+1;omega) B0;have dj:=aC _ _ aj;obtain⟨A1,B1,au,ah,ar⟩:=kh5 aj ax (Kq.trans br ab) al am;clear ab al am;obtain⟨fa,fb⟩:=Za ar;have di:=aC _ _ fa;have ad:=Zb (Kq.all KH au (by omega));by_cases e0:s1=0
  ·subst e0;go_wp2;go_ret2;exact⟨x1,1,rfl,by omega,by omega,by omega,Za ah,Za ad⟩
  ·have dm:¬((s1:Nat):Int)=0:=(by omega);have dl:(((s1:Nat):Int) == 0)=false:=(by simp[e0]);by_cases az:s1=12
   ·subst az;go_wp2;go_ret2;exact⟨x1,2,rfl,by omega,by omega,by omega,Za ah,Za ad⟩
   ·have dp:¬((s1:Nat):Int)=12:=(by omega);have dn:(((s1:Nat):Int) == 12)=false:=(by simp;omega);go_wp2;go_ret2;exact⟨x1,0,rfl,by omega,by omega,by omega,Za ah,Za ad⟩
structure Pt{α : Type}[Inhabited α](q : α->Bool)(a b:Nat)(d1:Array α)(i j:Nat)(dk:Array α):Prop where
 perm:Sort.PermIn (a+1) b d1 dk
 left:∀ x,a<x->x<i->q dk[x]! = true
 right:∀ x,j<x->x<b->q dk[x]! = false
section
variable {α : Type} [Inhabited α] {q : α -> Bool} {a b : Nat} {d1 : Array α} {i j : Nat} {dk : Array α}
theorem Pt.start(q : α->Bool)(a b:Nat)(d1:Array α)(j:Nat)(hj:b<=j+1):Pt q a b d1 (a+1) j d1:=
 ⟨Sort.permIn_refl _ _ _,λx h1 h2=>by omega,λx h1 h2=>by omega⟩
theorem Pt.piv(h:Pt q a b d1 i j dk):dk[a]! = d1[a]!:=h.perm.2.1 a (Or.inl (by omega))
theorem Pt.up(h:Pt q a b d1 i j dk)(hq:q dk[i]! = true):Pt q a b d1 (i+1) j dk:=
 ⟨h.perm,λx h1 h2=>by
  by_cases e:x=i
  ·rw[e];exact hq
  ·exact h.left x h1 (by omega),h.right⟩
theorem Pt.down(h:Pt q a b d1 i j dk)(hq:q dk[j]! = false):Pt q a b d1 i (j - 1) dk:=
 ⟨h.perm,h.left,λx h1 h2=>by
  by_cases e:x=j
  ·rw[e];exact hq
  ·exact h.right x (by omega) h2⟩
theorem Pt.swap(h:Pt q a b d1 i j dk)(ac:a<i)(ae:i<j)(ab:j<b)(hb:b<=d1.size)(hi:q dk[i]! = false)(hj:q dk[j]! = true):Pt q a b d1 (i+1) (j - 1) (cB dk i j):=by
 have hs:dk.size=d1.size:=h.perm.1;have g:=Sort.swp_get dk (show i<dk.size by omega) (show j<dk.size by omega);refine⟨Sort.permIn_trans _ _ _ _ _ h.perm (Sort.swp_permIn dk (a+1) b i j (by omega) (by omega) (by omega) ab (by omega)),λx h1 h2=>?_,λx h1 h2=>?_⟩
 ·by_cases e:x=i
  ·subst e;rw[Sort.swp_left dk x j (by omega) (by omega)];exact hj
  ·rw[Sort.swp_other dk i j x e (by omega)];exact h.left x h1 (by omega)
 ·by_cases e:x=j
  ·subst e;rw[Sort.swp_right dk i x (by omega)];exact hi
  ·rw[Sort.swp_other dk i j x (by omega) e];exact h.right x (by omega) h2
theorem Ui(d:Array α)(a p:Nat)(ha:a<d.size)(hp:p<d.size):(cB d a p)[a]! = d[p]!:=by
 by_cases e:a=p
 ·subst e;exact Sort.swp_right d a a ha
 ·exact Sort.swp_left d a p ha e
structure Ztl(lt : α -> α->Bool)(d:Array α)(a b pivot m:Nat)(d':Array α):Prop where
 lo:a<m
 hi:m<=b
 perm:Sort.PermIn a b d d'
 left:∀ x,a<=x->x<m->lt d[pivot]! d'[x]! = false
 right:∀ x,m<=x->x<b->lt d[pivot]! d'[x]! = true
theorem Pt.eqok{lt : α -> α->Bool}{d:Array α}{pivot:Nat}(hO:Sort.SWO lt)(ae:a<=pivot)(af:pivot<b)(hb:b<=d.size)(h:Pt (λx=>!lt d[pivot]! x) a b (cB d a pivot) i j dk)(ad:a<i)(ag:i=j+1)(ah:j<b):Ztl lt d a b pivot i dk:=by
 have hp:=h.piv;rw[Ui d a pivot (by omega) (by omega)] at hp;refine⟨ad,by omega,Sort.permIn_trans _ _ _ _ _ (Sort.swp_permIn d a b a pivot (aE _) (by omega) ae af hb) (Sort.permIn_mono _ _ _ _ _ _ (by omega) (aE _) (by rw[Sort.size_swp];exact hb) h.perm),λx h1 h2=>?_,λx h1 h2=>?_⟩
 ·by_cases e:x=a
  ·subst e;rw[hp];exact hO.irrefl _
  ·have:=h.left x (by omega) h2;simpa using this
 ·have:=h.right x (by omega) h2;simpa using this
structure Zja(lt : α -> α->Bool)(d:Array α)(a b m:Nat)(d':Array α):Prop where
 lo:a<=m
 hi:m<b
 perm:Sort.PermIn a b d d'
 left:∀ x,a<=x->x<m->lt d'[x]! d'[m]! = true
 right:∀ x,m<x->x<b->lt d'[x]! d'[m]! = false
theorem Pt.paok{lt : α -> α->Bool}{d:Array α}{pivot:Nat}(ae:a<=pivot)(af:pivot<b)(hb:b<=d.size)(h:Pt (λx=>lt x d[pivot]!) a b (cB d a pivot) i j dk)(ag:a<i)(ah:i=j+1)(ad:j<b):Zja lt d a b j (cB dk j a):=by
 have hp:=h.piv;rw[Ui d a pivot (by omega) (by omega)] at hp;have hs:dk.size=d.size:=by rw[h.perm.1,Sort.size_swp]
 have g:=Sort.swp_get dk (show j<dk.size by omega) (show a<dk.size by omega)
 have gj:(cB dk j a)[j]! = d[pivot]!:=by
  by_cases e:j=a
  ·subst e;rw[Sort.swp_right dk j j (by omega)];exact hp
  ·rw[Sort.swp_left dk j a (by omega) e];exact hp
 refine⟨by omega,ad,Sort.permIn_trans _ _ _ _ _ (Sort.permIn_trans _ _ _ _ _ (Sort.swp_permIn d a b a pivot (aE _) (by omega) ae af hb) (Sort.permIn_mono _ _ _ _ _ _ (by omega) (aE _) (by rw[Sort.size_swp];exact hb) h.perm)) (Sort.swp_permIn dk a b j a (by omega) ad (aE _) (by omega) (by omega)),λx h1 h2=>?_,λx h1 h2=>?_⟩
 ·rw[gj];by_cases e:x=a
  ·subst e;rw[Sort.swp_right dk j x (by omega)];exact h.left j (by omega) (by omega)
  ·rw[Sort.swp_other dk j a x (by omega) e];exact h.left x (by omega) (by omega)
 ·rw[gj,Sort.swp_other dk j a x (by omega) (by omega)];exact h.right x h1 h2
end
set_option maxRecDepth 10000 in
theorem Zhi{α : Type}[Inhabited α]{g:Nat}{lb}{sf:Nat}{sb}{lt : α -> α->Bool}{n B:Nat}{St:World->Array α->Prop}(H:Sr aB g lb sf sb lt n B St)
  (a b pivot:Nat) (d:Array α) (w) (h:St w d) (bx:a<=pivot) (bz:pivot<b) (hb:b<=n) :
  Calls aB 235 #[lsV g lb sf sb,E J a,E J b,E J pivot] w λe w'=>∃ (m:Nat) (d':Array α),e = dB (E J m)/\Ztl lt d a b pivot m d'/\St w' d'/\Kp B w w':=by
 unfold lsV;have hn:=H.small;have eg:=H.enters;have ab:=H.low _ _ h;obtain⟨HD,bu⟩:=kh2 (H.size _ _ h) H.order;obtain⟨N0,N1⟩:=Vr w (.func (.func g) #[] lb) (.func (.func sf) #[] sb) 275;obtain⟨SX,KX,HH⟩:=kh3 (H.alloc w d (dA #[.func (.func g) #[] lb,.func (.func sf) #[] sb] 275) h) (Kp.alloc B w (dA #[.func (.func g) #[] lb,.func (.func sf) #[] sb] 275)) H;obtain⟨w1,hs,cp,bg⟩:=HH.swap _ d a pivot SX (by omega) (by omega);obtain⟨M0,M1,ce,bd⟩:=kh4 (bg.cell ab N0) (bg.cell ab N1) cp (Kp.trans KX bg);obtain⟨jb,dh⟩:∃ jb:Nat,jb+1=b:=⟨b - 1,by omega⟩;have dg:(b:Int) - 1=(jb:Int):=by omega
 have cj:=Zb (Pt.start (λx=>!lt d[pivot]! x) a b (cB d a pivot) jb (by omega));go_enter func235,ntmps235;go_wp2
 go_loopw [9,10] (λs9 bj wr=>∃ (i j:Nat) (dk:Array α),s9 = E J i/\bj = E J j/\a<i/\i<=j+1/\j<b/\Hid (Pt (λx=>!lt d[pivot]! x) a b (cB d a pivot) i j dk)/\Hid (St wr dk)/\Hid (Kp B w1 wr)) (λs9 bj _=>(intOf bj).toNat+1 - (intOf s9).toNat)
 case atStart=>exact⟨a+1,jb,_,by go_num,rfl,by omega,by omega,by omega,cj,ce,Kp.refl _ _⟩
 case round=>
  obtain⟨i0,j0,dk,rfl,rfl,ct,cu,di,cc,cd,cb⟩:=hrel;go_wp2_with fail
  go_loopw [9] (λsa wr=>∃ i:Nat,sa = E J i/\a<i/\i0<=i/\i<=j0+1/\Hid (Pt (λx=>!lt d[pivot]! x) a b (cB d a pivot) i j0 dk)/\Hid (St wr dk)/\Hid (Kp B w1 wr)) (λsa _=>j0+1 - (intOf sa).toNat)
  case atStart=>exact⟨i0,by first|rfl|go_num|(have:=Za HI0;congr 1;omega),ct,aE _,cu,cc,cd,cb⟩
  case round=>
   obtain⟨i,rfl,bh,df,bw,HP,HS,HK⟩:=hrel;have c0:=HK.cell ab M0;have c1:=HK.cell ab M1;have cz:=aC _ _ c0;have PV:=Zb HP.piv;by_cases dl:i<=j0
   ·have hl:=HH.less wr dk a i HS (by omega) (by omega);have aw:dk[a]! = d[pivot]!:=PV.trans (Ui d a pivot (by rw[Za HD];omega) (by rw[Za HD];omega));cases hlv:lt dk[a]! dk[i]! with
    | false=>
     rw[hlv] at hl;have HQ:=Zb (HP.up (by rw[aw] at hlv;simp[hlv]))
     go_wp2_with (go_at_fn g;refine hl.mono ?_;rintro e w' ⟨rfl,ap,an⟩;have aa:=Zb (Kp.trans HK an);have aj:=Zb ap;have d0:=aa.cell ab M0;have d1:=aa.cell ab M1;have dz:=aC _ _ d0)
     go_roundw
     case rel=>first|exact⟨i+1,by go_num,by omega,by omega,by omega,HQ,aj,aa⟩|((repeat apply Exists.intro);refine⟨?_,rfl⟩;exact⟨i+1,by go_num,by omega,by omega,by omega,HQ,aj,aa⟩)
     case measure=>simp[intOf];omega
    | true=>
     rw[hlv] at hl
     have HQ:Hid ((λx=>!lt d[pivot]! x) dk[i]! = false):=by
      show _=_;rw[aw] at hlv;simp[hlv]
     go_wp2_with (go_at_fn g;refine hl.mono ?_;rintro e w' ⟨rfl,ap,an⟩;have aa:=Zb (Kp.trans HK an);have aj:=Zb ap;have d0:=aa.cell ab M0;have d1:=aa.cell ab M1;have dz:=aC _ _ d0)
     go_loopw [10] (λsa wr=>∃ j:Nat,sa = E J j/\i<=j+1/\j<=j0/\Hid (Pt (λx=>!lt d[pivot]! x) a b (cB d a pivot) i j dk)/\Hid (St wr dk)/\Hid (Kp B w1 wr)) (λsa _=>(intOf sa).toNat)
     case atStart=>exact⟨j0,by first|rfl|go_num,bw,aE _,HP,aj,aa⟩
     case round=>
      obtain⟨j,rfl,bw,dj,HP,HS,HK⟩:=hrel;have c0:=HK.cell ab M0;have c1:=HK.cell ab M1;have cz:=aC _ _ c0;by_cases cw:i<=j
      ·have hl:=HH.less wr dk a j HS (by omega) (by omega);have aw:dk[a]! = d[pivot]!:=PV.trans (Ui d a pivot (by rw[Za HD];omega) (by rw[Za HD];omega));cases hlv:lt dk[a]! dk[j]! with
       | true=>
        rw[hlv] at hl;have au:=Zb (HP.down (by rw[aw] at hlv;simp[hlv]))
        go_wp2_with (go_at_fn g;refine hl.mono ?_;rintro e w' ⟨rfl,ap,an⟩;have aa:=Zb (Kp.trans HK an);have aj:=Zb ap;have d0:=aa.cell ab M0;have d1:=aa.cell ab M1;have dz:=aC _ _ d0)
        go_roundw
        case rel=>first|exact⟨j - 1,by congr 1 <;> omega,by omega,by omega,au,aj,aa⟩|((repeat apply Exists.intro);refine⟨?_,rfl⟩;exact⟨j - 1,by congr 1 <;> omega,by omega,by omega,au,aj,aa⟩)
        case measure=>simp[intOf];omega
       | false=>
        rw[hlv] at hl
        have au:Hid ((λx=>!lt d[pivot]! x) dk[j]! = true):=by
         show _=_;rw[aw] at hlv;simp[hlv]
        have cx:i<j:=by
         rcases Nat.lt_or_eq_of_le cw with q|q
         ·exact q
         ·subst q;exact Bool.noConfusion (HQ.symm.trans au)
        have dd:decide ((j:Int)<(i:Int))=false:=decide_eq_false (by omega);have de:decide (j<i)=false:=decide_eq_false (by omega);have br:=Zb (HP.swap bh cx (by omega) (by rw[Sort.size_swp,Za HD];exact hb) HQ au)
        go_wp2_with (go_at_fn g;refine hl.mono ?_;rintro e w' ⟨rfl,ap,an⟩;have aa:=Zb (Kp.trans HK an);have d0:=aa.cell ab M0;have d1:=aa.cell ab M1;have dz:=aC _ _ d0;obtain⟨w3,hs,cq,cn⟩:=HH.swap w' dk i j ap (by omega) (by omega);have bs:=Zb cq;have az:=Zb (Kp.trans aa cn);have e0:=az.cell ab M0;have e1:=az.cell ab M1;have ez:=aC _ _ e0)
        go_wp2;go_roundw
        case rel=>first|exact⟨i+1,j - 1,_,by go_num,by congr 1 <;> omega,by omega,by omega,by omega,br,bs,az⟩|((repeat apply Exists.intro);refine⟨?_,rfl⟩;exact⟨i+1,j - 1,_,by go_num,by congr 1 <;> omega,by omega,by omega,by omega,br,bs,az⟩)
        case measure=>simp[intOf];omega
      ·have be:Hid (i=j+1):=(by show _=_;omega);have hgt:j<i:=(by omega);go_wp2;go_ret;have av:=Pt.eqok bu bx bz (by rw[Za HD];exact hb) HP bh be (by omega)
       first|exact⟨i,dk,rfl,av,Za HS,Kp.trans bd HK⟩|exact⟨i,rfl,dk,av,Za HS,Kp.trans bd HK⟩
   ·have be:Hid (i=j0+1):=(by show _=_;omega);have hgt:j0<i:=(by omega);go_wp2_with fail;refine bB 1 ?_;rw[aS];go_wp2;go_ret;have av:=Pt.eqok bu bx bz (by rw[Za HD];exact hb) HP bh be (by omega)
    first|exact⟨i,dk,rfl,av,Za HS,Kp.trans bd HK⟩|exact⟨i,rfl,dk,av,Za HS,Kp.trans bd HK⟩
