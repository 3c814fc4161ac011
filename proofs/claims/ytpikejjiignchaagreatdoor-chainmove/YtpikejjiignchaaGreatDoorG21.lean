import Derived.Test.YtpikejjiignchaaGreatDoorH
import Derived.Test.YtpikejjiignchaaGreatDoorG20
open Go.Proofs.Tryz
open Go renaming lt_of_block->aA,maxLen->cD,heap_alloc_new->aK,wp_loop_rounds->aQ,rounds_succ->aL,wpList_append_own->dV
open Go.Ending renaming returned->dX
open Go.IntKind renaming i64->J
open Go.Obj renaming cells->dW
open Go.Proofs.Tryz renaming prog->aB,underlying66->dR
open Go.Value renaming string->cE,int->bC,slice->bN,int->E,slice->F,tuple->dY
open Go.World renaming block_lt_of_cell?->aC,cell?_alloc_at->cH
open Go.World.ownsRow renaming cellAt->bD
open List renaming length_eq_zero_iff->aJ,length_map->dF,map_append->bW,take_succ_eq_append_getElem->aM,take_of_length_le->aY,length_cons->dQ,mem_cons->bU,getElem?_eq_some_iff->cU
open Nat renaming zero_le->aP,le_refl->aE,le_trans->aT
open Prod.mk renaming injEq->cJ
set_option maxHeartbeats 12800000
namespace Go.Proofs.YtpikejjiignchaaGreatDoor
open Go.RowKit
theorem N9(p h k n:Int):Wj p h k n=true↔(0<=p/\p<=120)/\(1<=h/\h<=1000)/\(1<=k/\k<=1000)/\(0<=n/\n<=1000000000):=by
 unfold Wj;simp[Bool.and_eq_true,decide_eq_true_eq]
set_option maxRecDepth 10000 in
theorem Zhp(p h k n:Int)(a m c)(w:World)(hh:Wj p h k n=false) :
  ZH 36 #[.agg #[E J p,E J h,E J k,E J n,F a m c]] w (E J 3):=by
 have z:=Zb (Zg w (dW #[E J p,E J h,E J k,E J n,F a m c] 68));have O:¬((0<=p/\p<=120)/\(1<=h/\h<=1000)/\(1<=k/\k<=1000)/\(0<=n/\n<=1000000000)):=λq=>by rw[(N9 p h k n).2 q] at hh;cases hh
 clear hh;by_cases c0:p<0
 ·clear O;go_enter func36,ntmps36;go_wp2;go_ret;exact⟨rfl,Za z⟩
 by_cases c1:120<p
 ·clear O;go_enter func36,ntmps36;go_wp2;go_ret;exact⟨rfl,Za z⟩
 by_cases c2:h<1
 ·clear O;go_enter func36,ntmps36;go_wp2;go_ret;exact⟨rfl,Za z⟩
 by_cases c3:1000<h
 ·clear O;go_enter func36,ntmps36;go_wp2;go_ret;exact⟨rfl,Za z⟩
 by_cases c4:k<1
 ·clear O;go_enter func36,ntmps36;go_wp2;go_ret;exact⟨rfl,Za z⟩
 by_cases c5:1000<k
 ·clear O;go_enter func36,ntmps36;go_wp2;go_ret;exact⟨rfl,Za z⟩
 have c6:n<0\/1000000000<n:=by omega
 have C:=Zb (λW=>Ku n W c6);clear O c6;go_enter func36,ntmps36;go_wp2_with fail;refine (C _).mono ?_;rintro e w' ⟨rfl,rfl⟩;go_wp2;go_ret;exact⟨rfl,Za z⟩
set_option maxRecDepth 10000 in
theorem Zho(p h k n:Int)(a m c T)(w:World)(hT:TxsAt w a m T)(hh:Wj p h k n=true) :
  ZH 36 #[.agg #[E J p,E J h,E J k,E J n,F a m c]] w (E J (Xo (p,h,k,n,T))):=by
 obtain⟨X,hX⟩:=ZG (w.alloc (dW #[E J p,E J h,E J k,E J n,F a m c] 68));have bc:ZD w X:=by rw[hX];exact Zg _ _
 have ab:X.heap[w.heap.size]? = some (dW [E J p,E J h,E J k,E J n,F a m c].toArray 68 (0,0)):=by rw[hX];exact Z8 _ _ _ _ _ _ _
 have bv:=Zb ab;have ak:=Zb bc;have HT:=Zb (hT.later bc);have hz:T.length=m:=hT.1;obtain⟨⟨q1,q2⟩,⟨q3,q4⟩,⟨q5,q6⟩,q7,q8⟩:=(N9 p h k n).1 hh;have C:=Zb (Rr n X q7 q8);have p1:¬p<0:=by omega
 have p2:¬120<p:=by omega
 have p3:¬h<1:=by omega
 have p4:¬1000<h:=by omega
 have p5:¬k<1:=by omega
 have p6:¬1000<k:=by omega
 unfold Xo;simp only;rw[hz,if_neg (by simp[hh])];have x0:=Zd ab 0 _ rfl;have x1:=Zd ab 1 _ rfl;have x2:=Zd ab 2 _ rfl;have x3:=Zd ab 3 _ rfl;have x4:=Zd ab 4 _ rfl;have xl:=aA ab;clear bc ab hT hh q1 q2 q3 q4 q5 q6 q7 q8;by_cases h4:4<m
 ·rw[if_pos h4];have g4:(4:Int)<(m:Int):=by omega
  clear hz;go_enter func36,ntmps36;go_wp2_with fail;rw[<-hX];clear hX;refine C.mono ?_;rintro e w' ⟨rfl,rfl⟩;go_wp2;go_ret;exact⟨rfl,Za ak⟩
 ·rw[if_neg h4];by_cases h0:m=0
  ·subst h0;rw[if_pos rfl];clear hz h4;go_enter func36,ntmps36;go_wp2_with fail;rw[<-hX];clear hX;refine C.mono ?_;rintro e w' ⟨rfl,rfl⟩;go_wp2;go_ret;exact⟨rfl,Za ak⟩
  ·rw[if_neg h0];have g0:((m:Int) == 0)=false:=(by simp[h0]);have g4:¬(4:Int)<(m:Int):=(by omega);have HZ:=Zb hz;obtain⟨b,off,rfl,da,bj⟩:=HT.2 (by omega);have HC:=Zb bj;clear hz bj;go_enter func36,ntmps36;go_wp2_with fail;rw[<-hX];clear hX;refine C.mono ?_;rintro e w' ⟨rfl,rfl⟩;go_wp2
   go_loopw [52] (λi wr=>∃ j:Nat,j<=m/\i = E J j/\Hid (Xa h 0 T=Xa h j (T.drop j))/\Hid (ZD X wr)) (λi _=>m - (intOf i).toNat)
   case atStart=>exact⟨0,aP _,rfl,rfl,(Below.refl _ _:ZD X X)⟩
   case round=>
    obtain⟨j,hj,rfl,A,av⟩:=hrel;clear x0 x1 x2 x3 x4 xl;by_cases cc:j<m
    ·have bn:j<T.length:=(by rw[Za HZ];exact cc);have bk:=TxAt.kept _ _ _ _ _ av (HC j bn);have ST:=Zb (Zci h T j bn);obtain⟨t,ht⟩:=ZF (T[j]);rw[ht] at bk ST;obtain⟨z,I,dq⟩:=t;obtain⟨bi,⟨dr,O,ci,g1,hI,sI⟩,ao,no,co,g2,hO,_⟩:=bk;have A2:Hid (Xa h 0 T=if Zr (z,I,dq)≠0 then Zr (z,I,dq) else if Qc (z,I,dq) j h=false then 4 else Xa h (j+1) (T.drop (j+1))):=(by show _=_;rw[Za A,Za ST]);simp only at bi g1 g2 hI hO;obtain⟨Y,hY⟩:=ZG (wr.alloc (dW #[E J z,F dr O ci,F ao no co] 52));have aq:ZD wr Y:=(by rw[hY];exact Zg _ _);have ah:Y.heap[wr.heap.size]? = some (dW [E J z,F dr O ci,F ao no co].toArray 52 (0,0)):=(by rw[hY];exact Zs _ _ _ _ _);have bw:=Zb ah;have bf:=Zb (Ze av aq);have y0:=Zd ah 0 _ rfl;have y1:=Zd ah 1 _ rfl;have y2:=Zd ah 2 _ rfl;have yl:=aA ah;obtain⟨x,hx⟩:=ZF (Zr (z,I,dq));have CT:=Zb (Bq z dr ao O ci no co I dq Y (hI.later aq) (hO.later aq));rw[hx] at A2 CT
     have SD:Hid (Qc (z,I,dq) j h=if 0<(j:Int) then !decide (O=0) else decide (O=0) && decide (z=h)):=by
      show _=_;unfold Qc;simp only;rw[hI.1]
     clear aq ah A ht hI hO sI hx;by_cases ar:x=0
     ·subst ar
      have A3:Hid (Xa h 0 T=if (if 0<(j:Int) then !decide (O=0) else decide (O=0) && decide (z=h))=false then 4 else Xa h (j+1) (T.drop (j+1))):=by
       have q:=Za A2;rw[if_neg (by decide),Za SD] at q;exact q
      go_wp2_with fail;rw[<-hY];clear hY;go_wp2_with fail;refine CT.mono ?_;rintro e w2 ⟨rfl,ai⟩;have al:=ZE ai bw;have an:=Zb (Ze bf ai);have be:=ZE an bv;have z0:=Zd al 0 _ rfl;have z1:=Zd al 1 _ rfl;have z2:=Zd al 2 _ rfl;have zl:=aA al;have k1:=Zd be 1 _ rfl;have kl:=aA be;have ac:=Zb (Ze ak an);clear ai al be y0 y1 y2 yl bi g1 g2;by_cases j0:j=0
      ·have gj:((j:Int) == 0)=true:=(by simp[j0]);have af:¬(0:Int)<(j:Int):=(by omega);by_cases n0:O=0
       ·subst n0;by_cases e1:z=h
        ·subst e1;have gt:(z != z)=false:=(by simp);have R:Hid (Xa z 0 T=Xa z (j+1) (T.drop (j+1))):=(by show _=_;rw[Za A3,if_neg af];simp);clear j0;go_wp2;go_roundw
         case rel=>exact⟨j+1,by omega,by go_num,R,an⟩
         case measure=>simp[intOf];omega
        ·have gt:(z != h)=true:=(by simp[e1]);have R:Hid (Xa h 0 T=4):=(by show _=_;rw[Za A3,if_neg af];simp[e1]);clear j0 e1;go_wp2;go_ret;exact⟨by rw[Za R];rfl,Za ac⟩
       ·have gn:((O:Int) == 0)=false:=(by simp[n0]);have R:Hid (Xa h 0 T=4):=(by show _=_;rw[Za A3,if_neg af];simp[n0]);clear j0 n0;go_wp2;go_ret;exact⟨by rw[Za R];rfl,Za ac⟩
      ·have gj:((j:Int) == 0)=false:=(by simp[j0]);have af:(0:Int)<(j:Int):=(by omega);by_cases n0:O=0
       ·subst n0;have R:Hid (Xa h 0 T=4):=(by show _=_;rw[Za A3,if_pos af];simp);clear j0;go_wp2;go_ret;exact⟨by rw[Za R];rfl,Za ac⟩
       ·have gn:((O:Int) == 0)=false:=(by simp[n0]);have R:Hid (Xa h 0 T=Xa h (j+1) (T.drop (j+1))):=(by show _=_;rw[Za A3,if_pos af];simp[n0]);clear j0 n0;go_wp2;go_roundw
        case rel=>exact⟨j+1,by omega,by go_num,R,an⟩
        case measure=>simp[intOf];omega
     ·have R:Hid (Xa h 0 T=x):=(by show _=_;rw[Za A2,if_pos ar]);have gx:(x != 0)=true:=(by simp[ar]);clear ar;go_wp2_with fail;rw[<-hY];clear hY;go_wp2_with fail;refine CT.mono ?_;rintro e w2 ⟨rfl,ai⟩;have ac:=Zb (Ze ak (Ze bf ai));clear ai;go_wp2;go_ret;exact⟨by rw[Za R];rfl,Za ac⟩
    ·have R:Hid (Xa h 0 T=0):=(by show _=_;rw[Za A,Ay h T j (by rw[Za HZ];omega)]);have ac:=Zb (Ze ak av);clear A;go_wp2;go_ret;exact⟨by rw[Za R];rfl,Za ac⟩
theorem Sm(p h k n:Int)(a m c T)(x:Int)(w:World)(z:TxsAt w a m T)(O:Xo (p,h,k,n,T)=x) :
  ZH 36 #[.agg #[E J p,E J h,E J k,E J n,F a m c]] w (E J x):=by
 subst O;cases hh:Wj p h k n with
 | false=>
  have e:Xo (p,h,k,n,T)=3:=by unfold Xo;simp only;rw[if_pos hh]
  rw[e];exact Zhp p h k n a m c w hh
 | true=>exact Zho p h k n a m c T w z hh
namespace Bk
open Go.RowKit Go.Maps
theorem Znv{s t:ByteArray}(h:s≠t):s.toList≠t.toList:=λe=>h (by
 rw[ByteArray.toList_eq,ByteArray.toList_eq] at e;have h4:s.data=t.data:=by rw[<-Array.toList_inj];exact e
 cases s;cases t;simp_all)
theorem Zjw{s t:ByteArray}(h:s≠t):(s.toList == t.toList)=false:=by simp[Znv h]
open Go.RowKit Go.Maps
theorem Zgn(z:Array Value)(n:Nat):(Builtin.zeroCells z n).size=n*z.size:=by simp[Builtin.zeroCells]
theorem Zmf(n:Nat)(w:World)(hn:n<=240) :
  Calls aB 146 #[F none 0 0,E J n] w λe w'=>∃ v,e = dX v/\w'.ownsRow w.heap.size 9 1 v 0 []/\ZD w w':=by
 obtain⟨i0,hi,aa,ab,ac⟩:=info_parts Tryz.info9;by_cases h:n=0
 ·subst h;exact (Any8.slices_Grow_room Tryz.growS none 0 0 0 w (aE _) (by omega) (by omega) (by omega)).mono λe w' ⟨h1,h2⟩=>⟨_,h1,⟨rfl,Or.inl ⟨rfl,rfl⟩⟩,h2 ▸ Below.refl _ _⟩
 ·refine (Any8.slices_Grow_grow Tryz.growS i0 (.string ⟨#[]⟩) hi aa (by rw[ab];decide) none 0 0 n [] w (aE _) (by omega) (by rw[ac];omega) (by omega) (by simp) (λ_=>rfl) (λa h=>by cases h)).mono λe w' ⟨h1,h2⟩=>⟨_,h1,?_,?_⟩
  ·rw[h2];have ae:=grownCap_ge w (0+n) 0 (Tryz.growS_ren.t 25);have O:=grownCap_le_maxLen w (0+n) 0 (Tryz.growS_ren.t 25) (by unfold cD;omega);refine⟨rfl,Or.inr ⟨w.heap.size,_,_,rfl,aE _,aK _ _,aP _,O,?_,rfl⟩⟩;simp only[Array.size_append,Zgn,List.size_toArray,List.length_nil];show 0+(0+n - 0)*1+_*1=_*1;omega
  ·rw[h2];exact⟨rfl,rfl,rfl,by simp,λk z=>Below.heap_alloc w.drew _ k z⟩
theorem TextsAt.news{w:World}{x:Addr}{len:Nat}{L:List ByteArray}(h:TextsAt w (some x) len L)(j:Nat)(u)(z:(L.map cE)[j]? = some u):w.cell? (x.add j)=some u:=by
 have O:j<L.length:=by
  rcases Nat.lt_or_ge j L.length with h|h
  ·exact h
  ·rw[List.getElem?_eq_none (by simpa using h)] at z;cases z
 have hz:=h.1;obtain⟨b,off,hx,hc⟩:=h.2 (by omega);cases hx;have aa:(⟨b,off,none⟩:Addr).add j=⟨b,off+j,none⟩:=by unfold Addr.add;split <;> simp_all
 rw[aa,hc j O];simpa[O] using z
set_option maxRecDepth 100000 in
theorem Zek(B:Nat)(ak)(y:Addr)(z bd len cap:Nat)(k l)(w:World)(ca:z+len<=240)(hK:TextsAt w ak z k)(hL:TextsAt w (some y) len l)
  (br:ak=none->z=0/\bd=0)
  (c0:w.cell? ⟨B,0,none⟩=some (F ak z bd)) (c1:w.cell? ⟨B,1,none⟩=some (F (some y) len cap)) :
  Calls aB 106 #[F (some ⟨B,0,none⟩) 2 2] w λe w'=>∃ a' aa,e = dX (F a' (z+len) aa)/\TextsAt w' a' (z+len) (k++l)/\SlOk a' (z+len) aa/\(∀ y,a'=some y->w.heap.size<=y.block)/\ZD w w':=by
 obtain⟨i0,hi,bg,bh,bi⟩:=info_parts Tryz.info9;have ap:B<w.heap.size:=aC _ _ c0;have bu:=hK.1;have bv:=hL.1;have HK:=Zb hK;have HL:=Zb hL;have bx:=Zb br;have bn:=Zb bu;have bo:=Zb bv;clear hK hL br bu bv;go_enter func106,ntmps106;go_wp2;refine aQ 3 ?_;rw[aL];go_wp2;rw[aL];go_wp2;rw[aL];have GR:=Zb (Zmf (z+len) w ca);rw[Int.natCast_add] at GR;go_wp2_with fail;refine GR.mono ?_;rintro e w1 ⟨v,rfl,bt,aq⟩;have an:=Zb bt;have ac:=Zb aq;have az:=(aq.cell (p:=⟨B,0,none⟩) ap).trans c0;have bb:=(aq.cell (p:=⟨B,1,none⟩) ap).trans c1;clear bt aq
 rcases ak with _|x
 ·go_wp2;refine aQ 3 ?_;rw[aL];obtain⟨rfl,rfl⟩:=bx (by trivial);have ek:k=[]:=aJ.1 bn;subst ek
  go_wp2_with (at_builtin;refine wpList_append_own_none rfl _ _ 22 rfl w.heap.size 9 i0 1 underlying22 hi _ _ _ rfl an rfl ?_)
  have ad:Hid (w1.ownsRow w.heap.size 9 1 v (0+0) (([]:List ByteArray).map cE)):=Za an;have O:=ac;have ba:=az;have bc:=bb;clear az bb;go_wp2;rw[aL]
  go_wp2_with (at_builtin;refine dV _ rfl _ _ 22 rfl w.heap.size 9 i0 (.string ⟨#[]⟩) 1 16 underlying22 hi bg bh bi rfl (by decide) _ _ _ rfl ad y len cap (l.map cE) rfl (by rw[dF,Za bo];omega) (λj u hj=>(HL.later O).news j u hj) (λu hu=>by obtain⟨x,_,rfl⟩:=List.mem_map.1 hu;rfl) (by unfold cD;omega) (by omega) O.size ?_;intro v2 w3 ai ag _)
  have ae:Hid (w3.ownsRow w.heap.size 9 1 v2 ((0+0)+len) ((([]:List ByteArray)++l).map cE)):=by rw[bW];exact ai
  have au:=Zb (O.grown ag O.size (Qr ad));clear ai ag;obtain⟨a',aa,hv,s1,s2,s3,hO⟩:=Va ae;have av:Hid (∀ y,a'=some y->w.heap.size<=y.block):=λy e=>Qr ae y.block (by rw[hv,e];rfl);have HV:=Zb hv;have aw:=Zb hO;have ax:Hid (SlOk a' ((0+0)+len) aa):=⟨s1,s2,s3⟩;clear hv hO ba bc s1 s2 s3;go_wp2;rw[aL];go_wp2;go_ret;refine⟨a',aa,?_,?_,?_,Za av,Za au⟩
  ·rw[Za HV];simp
  ·simpa using Za aw
  ·simpa using Za ax
 ·go_wp2;refine aQ 3 ?_;rw[aL]
  go_wp2_with (at_builtin;refine dV _ rfl _ _ 22 rfl w.heap.size 9 i0 (.string ⟨#[]⟩) 1 16 underlying22 hi bg bh bi rfl (by decide) _ _ _ rfl an x z bd (k.map cE) rfl (by rw[dF,Za bn];omega) (λj u hj=>(HK.later ac).news j u hj) (λu hu=>by obtain⟨x,_,rfl⟩:=List.mem_map.1 hu;rfl) (by unfold cD;omega) (by omega) ac.size ?_;intro v1 w2 bs bq _)
  have ad:Hid (w2.ownsRow w.heap.size 9 1 v1 (0+z) (k.map cE)):=Zb (by simpa using bs);have O:=Zb (ac.grown bq ac.size (Qr an));have ba:=(O.cell (p:=⟨B,0,none⟩) ap).trans c0;have bc:=(O.cell (p:=⟨B,1,none⟩) ap).trans c1;clear bs bq;clear az bb;go_wp2;rw[aL]
  go_wp2_with (at_builtin;refine dV _ rfl _ _ 22 rfl w.heap.size 9 i0 (.string ⟨#[]⟩) 1 16 underlying22 hi bg bh bi rfl (by decide) _ _ _ rfl ad y len cap (l.map cE) rfl (by rw[dF,Za bo];omega) (λj u hj=>(HL.later O).news j u hj) (λu hu=>by obtain⟨x,_,rfl⟩:=List.mem_map.1 hu;rfl) (by unfold cD;omega) (by omega) O.size ?_;intro v2 w3 ai ag _)
  have ae:Hid (w3.ownsRow w.heap.size 9 1 v2 ((0+z)+len) ((k++l).map cE)):=by rw[bW];exact ai
  have au:=Zb (O.grown ag O.size (Qr ad));clear ai ag;obtain⟨a',aa,hv,s1,s2,s3,hO⟩:=Va ae;have av:Hid (∀ y,a'=some y->w.heap.size<=y.block):=λy e=>Qr ae y.block (by rw[hv,e];rfl);have HV:=Zb hv;have aw:=Zb hO;have ax:Hid (SlOk a' ((0+z)+len) aa):=⟨s1,s2,s3⟩;clear hv hO ba bc s1 s2 s3;go_wp2;rw[aL];go_wp2;go_ret;refine⟨a',aa,?_,?_,?_,Za av,Za au⟩
  ·rw[Za HV];simp
  ·simpa using Za aw
  ·simpa using Za ax
open Go.RowKit Go.Maps
theorem Nd{s:ByteArray}{L:List ByteArray}{k:Nat}(h:k<L.length)(h0:place s (L.take k)=0)(e:L[k]≠s):place s (L.take (k+1))=0:=by
 rw[aM h,Vc,if_pos h0];have:place s [L[k]]=0:=by rw[place_zero];simp;exact λh2=>e h2.symm
 rw[this];rfl
theorem Aa{s:ByteArray}{L:List ByteArray}{k:Nat}(h:k<L.length)(h0:place s (L.take k)=0)(e:L[k]=s):place s L=k+1:=by
 have h1:place s (L.take (k+1))=k+1:=by
  rw[aM h,Vc,if_pos h0,e];simp[place];omega
 rw[Rj] at h1;split at h1
 ·exact h1
 ·omega
def idx(s:ByteArray)(L:List ByteArray):Int:=(place s L:Int) - 1
set_option maxRecDepth 10000 in
theorem Zlz(a)(n c:Nat)(L)(s:ByteArray)(x:Int)(w:World)(hn:n<=cD)(h:TextsAt w a n L)(hx:idx s L=x) :
  ZH 40 #[F a n c,.string s] w (E J x):=by
 have z:=Zb h;have O:=Zb hx;unfold cD at hn;clear h hx;go_enter func40,ntmps40;go_wp2
 go_loop [8] (λi=>∃ j:Nat,j<=n/\i = E J j/\Hid (place s (L.take j)=0)) (λi=>n - (intOf i).toNat)
 case atStart=>exact⟨0,aP _,rfl,rfl⟩
 case round=>
  obtain⟨j,hk,rfl,A⟩:=hrel;by_cases aj:j<n
  ·obtain⟨hz,ad⟩:=Za z;obtain⟨b,off,rfl,hc⟩:=ad (by omega);have h1:j<L.length:=(by omega);have f:=hc j h1;have PS:=Zb (Nd h1 A);have PH:=Zb (Aa h1 A);obtain⟨t,ht⟩:=ZF (L[j]);rw[ht] at f PS PH;clear ht A hc ad hz;by_cases e:t=s
   ·subst e;have R:Hid (x=j):=(by show _=_;rw[<-Za O];unfold idx;rw[(Za PH) rfl];omega);go_wp2;go_ret;exact⟨by rw[Za R];rfl,Below.refl _ _⟩
   ·have R:=Zb (PS e);have g:=Zjw (λh:s=t=>e h.symm);clear e;go_wp2
    go_round
    case rel=>exact⟨j+1,by omega,by go_num,R⟩
    case measure=>simp[intOf];omega
  ·have R:Hid (x = -1):=by
    have h:=Za A;rw[aY (by rw[(Za z).1];omega)] at h;show _=_;rw[<-Za O];unfold idx;rw[h];rfl
   clear A;go_wp2;go_ret;exact⟨by rw[Za R];rfl,Below.refl _ _⟩
open Go.RowKit Go.Maps
theorem Zqv{L:List ByteArray}{j:Nat}(h:j<L.length):(idx L[j] L<(j:Int))↔place L[j] (L.take j)≠0:=by
 have h1:=Zlb h;unfold idx;rw[Rj];by_cases h2:place L[j] L<=j
 ·rw[if_pos h2];constructor
  ·intro _;omega
  ·intro _;omega
 ·rw[if_neg h2];constructor
  ·intro h3;omega
  ·intro h3;exact absurd rfl h3
theorem Zqw(s:ByteArray)(L:List ByteArray) : -1<=idx s L/\idx s L<L.length:=by
 have:=Zay s L;unfold idx;omega
set_option maxRecDepth 10000 in
theorem rcheck_is(a n c L)(w:World)(h:TextsAt w a n L)(x:Int)(hx:bkChk L=x) :
  ZH 14 #[.agg #[F a n c]] w (E J x):=by
 have O:=Zg w (dW #[F a n c] 24);have c0:=Sc w (F a n c) 24;obtain⟨W,hW⟩:=ZG (w.alloc (dW #[F a n c] 24));have hz:=h.1;by_cases h1:120<n
 ·have e:x=2:=by rw[<-hx];unfold bkChk;rw[if_pos (by omega)]
  subst e;have g:(120:Int)<(n:Int):=by omega
  have HB:=Zb O;clear h hx h1 hz O c0 hW;go_enter func14,ntmps14;go_wp2;go_ret;exact⟨rfl,Za HB⟩
 ·have g:¬(120:Int)<(n:Int):=by omega
  have HX:Hid (Tv [] L=x):=by show _=_;rw[<-hx];unfold bkChk;rw[if_neg (by omega)]
  rw[<-hW] at O c0;have HB:=Zb O;have HT:=Zb (h.later O);have C0:=Zb c0;have hn:n<=120:=by omega
  clear h hx h1 O c0 hz;go_enter func14,ntmps14;go_wp2;rw[<-hW];clear hW
  go_loopw [12] (λi wr=>∃ j:Nat,j<=n/\i = E J j/\ZD W wr/\Hid (Tv (L.take j) (L.drop j)=x)) (λi _=>n - (intOf i).toNat)
  case atStart=>exact⟨0,aP _,rfl,Below.refl _ _,Za HX⟩
  case round=>
   obtain⟨j,hk,rfl,aa,A⟩:=hrel;have ae:=Zb aa;by_cases ay:j<n
   ·have ht:=HT.later aa;obtain⟨hz,an⟩:=ht;obtain⟨b,off,rfl,hc⟩:=an (by omega);have al:j<L.length:=(by omega);have f:=hc j al;have c1:=Zc aa C0;have ax:w.heap.size<wr.heap.size:=aC _ _ c1;have S:=Zpu al;rw[Za A] at S;have z:=Zqv al;have IG:=Zqw L[j] L;obtain⟨s,hs⟩:=ZF (L[j]);rw[hs] at f S z IG;have IX:=Zb (Zlz (some ⟨b,off,none⟩) n c L s (idx s L) wr (by unfold cD;omega) (HT.later aa) rfl);obtain⟨q,hq⟩:=ZF (idx s L);rw[hq] at z IX IG;clear hs hq aa A hc an hz;by_cases h2:4000<s.size
    ·rw[if_pos h2] at S;subst S;have g2:(4000:Int)<(s.size:Int):=(by omega);clear h2 z IG;go_wp2;go_ret;exact⟨rfl,Ze HB ae⟩
    ·rw[if_neg h2] at S;have g2:¬(4000:Int)<(s.size:Int):=(by omega);by_cases h3:place s (L.take j)≠0
     ·rw[if_pos h3] at S;subst S;have g3:=z.2 h3;clear h2 h3 z IG;go_wp2_with fail;refine IX.mono ?_;rintro e w2 ⟨rfl,ad⟩;have ai:=Zb (Ze (Ze HB ae) ad);clear ad;go_wp2;go_ret;exact⟨rfl,Za ai⟩
     ·rw[if_neg h3] at S;have HS:Hid (Tv (L.take (j+1)) (L.drop (j+1))=x):=S.symm;have g3:¬q<(j:Int):=λh=>h3 (z.1 h);clear h2 h3 z IG S;go_wp2_with fail;refine IX.mono ?_;rintro e w2 ⟨rfl,ad⟩;have ai:=Zb (Ze ae ad);clear ad;go_wp2;go_roundw
      case rel=>exact⟨j+1,by omega,by go_num,Za ai,HS⟩
      case measure=>simp[intOf];omega
   ·have R:Hid (x=0):=(by show _=_;rw[<-Za A];exact Znf (by rw[(Za HT).1];omega));clear A aa;go_wp2;go_ret;exact⟨by rw[Za R];rfl,Ze HB ae⟩
set_option maxRecDepth 10000 in
theorem Zls(a n c)(L M:List ByteArray)(s:ByteArray)(k x:Int)(w:World)(hL:L.length<=120)(h:TextsAt w a n L)(hs:SlOk a n c)(hx:nm L s=(M,k,x)) :
  Calls aB 58 #[F a n c,.string s] w λe w'=>(∃ a' n' c',e = dX (dY #[F a' n' c',E J k,E J x])/\TextsAt w' a' n' M/\SlOk a' n' c'/\(a'=a/\n'=n\/∀ y,a'=some y->w.heap.size<=y.block))/\ZD w w':=by
 have hz:=h.1;by_cases h1:4000<s.size
 ·have e1:nm L s=([],0,2):=by unfold nm;rw[if_pos h1]
  rw[e1] at hx;obtain⟨rfl,z⟩:=cJ .. ▸ hx;obtain⟨rfl,rfl⟩:=cJ .. ▸ z;have g:(4000:Int)<(s.size:Int):=by omega
  clear hx z e1 h1 h hs hL hz;go_enter func58,ntmps58;go_wp2
  go_ret3
  exact⟨⟨_,_,_,rfl,TextsAt.nil _ _,SlOk.nil,Or.inr (λy e=>by cases e)⟩,Below.refl _ _⟩
 ·have g:¬(4000:Int)<(s.size:Int):=by omega
  have hn:n<=120:=by omega
  have HX:Hid ((if place s L≠0 then (L,(place s L:Int),0) else if 120<=L.length then ([],0,12) else (L++[s],(L.length:Int)+1,0))=(M,k,x)):=by
   show _=_;rw[<-hx];unfold nm;rw[if_neg h1]
  have HT:=Zb h;have HS:=Zb hs;clear h hs hx h1 hz hL;go_enter func58,ntmps58;go_wp2
  go_loop [14] (λi=>∃ j:Nat,j<=n/\i = E J j/\Hid (place s (L.take j)=0)) (λi=>n - (intOf i).toNat)
  case atStart=>exact⟨0,aP _,rfl,rfl⟩
  case round=>
   obtain⟨j,hk,rfl,A⟩:=hrel;by_cases bq:j<n
   ·obtain⟨hz,aw⟩:=Za HT;obtain⟨b,off,rfl,hc⟩:=aw (by omega);have ag:j<L.length:=(by omega);have f:=hc j ag;have PS:=Zb (Nd ag A);have PH:=Zb (Aa ag A);obtain⟨t,ht⟩:=ZF (L[j]);rw[ht] at f PS PH;clear ht A hc aw hz;by_cases e:t=s
    ·subst e;have e2:=PH rfl;have q:=Za HX;rw[e2,if_pos (by omega)] at q;have q1:L=M:=(by injection q);have q2:((j+1:Nat):Int)=k:=(by injection q with _ q;injection q);have q3:(0:Int)=x:=(by injection q with _ q;injection q);subst q1 q3;have q4:k=(j:Int)+1:=(by omega);subst q4;clear q q2 e2;go_wp2
     go_ret3
     exact⟨⟨_,_,_,rfl,Za HT,Za HS,Or.inl ⟨rfl,rfl⟩⟩,Below.refl _ _⟩
    ·have R:=Zb (PS e);have g2:=Zjw e;clear e;go_wp2
     go_round
     case rel=>exact⟨j+1,by omega,by go_num,R⟩
     case measure=>simp[intOf];omega
   ·have p0:=Za A;rw[aY (by rw[(Za HT).1];omega)] at p0;have q:=Za HX;rw[p0,if_neg (by omega)] at q;have aj:=HT.1;by_cases h2:120<=L.length
    ·rw[if_pos h2] at q;obtain⟨rfl,z⟩:=cJ .. ▸ q;obtain⟨rfl,rfl⟩:=cJ .. ▸ z;have g2:(120:Int)<=(n:Int):=(by omega);clear q z p0 h2 A aj;go_wp2
     go_ret3
     exact⟨⟨_,_,_,rfl,TextsAt.nil _ _,SlOk.nil,Or.inr (λy e=>by cases e)⟩,Below.refl _ _⟩
    ·rw[if_neg h2] at q;obtain⟨rfl,z⟩:=cJ .. ▸ q;obtain⟨rfl,rfl⟩:=cJ .. ▸ z;have g2:¬(120:Int)<=(n:Int):=(by omega);have af:=Zg w (dW #[.string s] 9);have ai:(w.alloc (dW #[.string s] 9)).heap.size=w.heap.size+1:=(by simp);have O:=Zg (w.alloc (dW #[.string s] 9)) (dW #[F a n c,F (some ⟨w.heap.size,0,none⟩) 1 1] 22);have c0:((w.alloc (dW #[.string s] 9)).alloc (dW #[F a n c,F (some ⟨w.heap.size,0,none⟩) 1 1] 22)).cell? ⟨w.heap.size+1,0,none⟩=some (F a n c):=(by rw[<-ai,cH _ _ _ _ rfl];rfl);have c1:((w.alloc (dW #[.string s] 9)).alloc (dW #[F a n c,F (some ⟨w.heap.size,0,none⟩) 1 1] 22)).cell? ⟨w.heap.size+1,1,none⟩=some (F (some ⟨w.heap.size,0,none⟩) 1 1):=(by rw[<-ai,cH _ _ _ _ rfl];rfl);have CT:=Zb (Zek (w.heap.size+1) a ⟨w.heap.size,0,none⟩ n c 1 1 L [s] _ (by omega) (HT.later (Ze af O)) ((Zlk w s).later O) HS.2.2 c0 c1);have HB:=Zb (Ze af O);have bh:=Zb aj;clear q z p0 h2 A af O ai c0 c1 aj;go_wp2_with fail;refine CT.mono ?_;rintro e w2 ⟨a',bg,rfl,t1,t2,t3,O⟩;have T3:Hid (∀ y,a'=some y->w.heap.size<=y.block):=λy e=>aT HB.size (t3 y e);have bc:=Zb (Ze HB O);have T1:=Zb t1;have T2:=Zb t2;clear t1 t2 t3 O;go_wp2
     go_ret3
     refine⟨⟨a',n+1,bg,?_,Za T1,Za T2,Or.inr T3⟩,Za bc⟩;rw[Za bh];rfl
open Go.RowKit Go.Maps
theorem ints_of_own{w:World}{base:Nat}{v}{n:Nat}{N:List Int}(h:w.ownsRow base 3 1 v n (N.map (bC .i64))):∃ a cap,v = F a n cap/\SlOk a n cap/\IntsAt w a n N:=by
 have z:N.length=n:=by have:=h.1;simpa using this
 rcases h.2 with ⟨rfl,rfl⟩|⟨g,cap,O,rfl,_,_,h1,h2,_,_⟩
 ·have e:N=[]:=aJ.1 z;subst e;exact⟨none,0,rfl,SlOk.nil,IntsAt.nil _ _⟩
 ·refine⟨_,cap,rfl,⟨h1,h2,λe=>by cases e⟩,z,λ_=>⟨g,0,rfl,λi hi=>?_⟩⟩;rw[Nat.zero_add,bD h i (by omega)];simp[hi]
set_option maxRecDepth 10000 in
theorem namedAll_is(a al n c nl dt L l M N)(x:Int)(w:World)(hR:Right L)(h:TextsAt w a n L)(hs:SlOk a n c)(hl:TextsAt w al nl l)(dh:nl<=17592186044416)(hx:nmGo L [] l=(M,N,x)) :
  Calls aB 133 #[F a n c,F al nl dt] w λe w'=>(∃ a' O c' a2 n2 c2,e = dX (dY #[F a' O c',F a2 n2 c2,E J x])/\TextsAt w' a' O M/\SlOk a' O c'/\IntsAt w' a2 n2 N/\n2<=nl/\n2<=c2)/\ZD w w':=by
 obtain⟨i0,hi,dl,dm,dn⟩:=info_parts Tryz.infoInt;have HT:=Zb h;have HS:=Zb hs;have bg:=Zb hl;have bi:=Zb dh;have HX:=Zb hx;have HR:=Zb hR;have cz:Hid (w.ownsRow w.heap.size 3 1 (F none 0 0) 0 (([]:List Int).map (bC .i64))):=⟨rfl,Or.inl ⟨rfl,rfl⟩⟩;clear h hs hl hx hR;go_enter func133,ntmps133;go_wp2
 go_loopw [0,7,15] (λt v i wr=>∃ (j:Nat) (L':List ByteArray) (N':List Int) (a':Option Addr) (O c':Nat),j<=nl/\i = E J j/\t = F a' O c'/\ZD w wr/\Hid (TextsAt wr a' O L'/\SlOk a' O c')/\Hid (O=0\/∀ y,a'=some y->v.ownBlock≠some y.block)/\Hid (wr.ownsRow w.heap.size 3 1 v j (N'.map (bC .i64)))/\Hid (Right L'/\nmGo L' N' (l.drop j)=(M,N,x))) (λ_ _ i _=>nl - (intOf i).toNat)
 case atStart=>exact⟨0,L,[],a,n,c,aP _,rfl,rfl,Below.refl _ _,⟨Za HT,Za HS⟩,(Or.inr (λy _ e=>by cases e)),cz,⟨Za HR,Za HX⟩⟩
 case round=>
  obtain⟨j,L',N',a',O,c',hk,rfl,rfl,aq,ao,cm,HO,HN⟩:=hrel;have HB:=Zb aq;by_cases ds:j<nl
  ·obtain⟨hz,bw⟩:=Za bg;obtain⟨b,off,rfl,hc⟩:=bw (by omega);have bz:j<l.length:=(by omega);have f:=Zc aq (hc j bz);obtain⟨q2,z⟩:=Za HN;rw[Zfu bz] at z;obtain⟨s,hs⟩:=ZF (l[j]);rw[hs] at f z;obtain⟨r,hr⟩:=ZF (nm L' s);rw[hr] at z;obtain⟨M',k',e'⟩:=r;simp only at z;have CN:=Zb (Zls a' O c' L' M' s k' e' _ q2.1 ao.1 ao.2 hr)
   have NR:Hid (e'=0->Right M'):=λh=>by
    have:=Nn (L:=L') (s:=s) q2;rw[hr] at this;exact this h
   clear hs hc bw aq hr hz;by_cases he:e'=0
   ·subst he;rw[if_pos rfl] at z;have Q3:=Zb z;have cy:Hid (Right M'):=NR rfl;clear z q2;obtain⟨av,cv,rfl,sv,-⟩:=ints_of_own HO;go_wp2_with fail;refine CN.mono ?_;rintro y w5 ⟨⟨a5,n5,c5,rfl,t1,t2,t3⟩,af⟩
    have be:Hid (n5=0\/∀ y,a5=some y->(bN av j cv).ownBlock≠some y.block):=by
     rcases t3 with ⟨h1,h2⟩|h
     ·rw[h1,h2];exact Za cm
     ·refine Or.inr (λy e e2=>?_);have h3:=(HO.lt _ e2).2;have h4:=h y e;omega
    have T5:=Zb t1;have S5:=Zb t2;have ax:=Zb (Ze HB af);have ap:=Zg w5 (dW #[E J k'] 3);have bj:=Zb (Ve (Ve HO (λk cs _ hk=>af.block k (aA hk))) (λk cs _ hk=>ap.block k (aA hk)));have cw:=Zb (World.news_of_block (aK w5 (dW #[E J k'] 3)));have ay:=Zb (Ze ax ap);have T6:=Zb (T5.later ap);clear t1 t2 t3 af ap sv
    go_wp2_with (at_builtin;refine wpList_append_lies _ rfl _ _ 25 rfl w.heap.size 3 i0 (E J 0) 1 8 underlying25 hi dl dm dn rfl (by decide) _ _ _ rfl bj ⟨w5.heap.size,0,none⟩ 1 1 [E J k'] rfl rfl cw (λu hu=>by simp at hu;subst hu;rfl) (by decide) (by have:=Za bi;unfold cD;omega) (by have:=Za bi;omega) ay.size _ rfl ?_;intro g7 bs w7 cb bd ca _)
    have da:Hid (w7.ownsRow w.heap.size 3 1 (F (some ⟨g7,0,none⟩) (j+1) bs) (j+1) ((N'++[k']).map (bC .i64))):=by
     show World.ownsRow _ _ _ _ _ _ _;rw[bW];exact cb
    have bu:=ay.grown bd ay.size (Qr bj);have cn:=Zb bu
    have T7:Hid (TextsAt w7 a5 n5 M'):=by
     refine⟨T6.1,λh0=>?_⟩;obtain⟨b',dq,e',dg⟩:=T6.2 h0;refine⟨b',dq,e',λi hi=>?_⟩;have h2:=dg i hi
     rw[World.cell?_of_block (bd.block b' (aC _ _ h2) (λe=>by
      rcases Za be with h|h
      ·omega
      ·exact h _ e' e.symm))]
     exact h2
    have cl:Hid (n5=0\/∀ y,a5=some y->(bN (some ⟨g7,0,none⟩) (j+1) bs).ownBlock≠some y.block):=by
     rcases Nat.eq_zero_or_pos n5 with h0|h0
     ·exact Or.inl h0
     ·refine Or.inr (λy e e2=>?_);have e3:g7=y.block:=by injection e2
      rcases ca with h|h
      ·rcases Za be with h5|h5
       ·omega
       ·exact h5 y e (h.trans (by rw[e3]))
      ·have:=T6.lt y e h0;omega
    clear cb bd ca bu;refine⟨⟨j+1,M',N'++[k'],a5,n5,c5,by omega,by go_num,rfl,Za cn,⟨Za T7,Za S5⟩,cl,da,⟨Za cy,Za Q3⟩⟩,?_⟩;simp[intOf];omega
   ·rw[if_neg he] at z;have e1:M=[]:=(by injection z with z _;exact z.symm);have e2:N=[]:=(by injection z with _ z;injection z with z _;exact z.symm);have e3:x=e':=(by injection z with _ z;injection z with _ z;exact z.symm);subst e1 e2 e3;have g5:(x != 0)=true:=(by simp[he]);clear z q2;go_wp2_with fail;refine CN.mono ?_;rintro y w5 ⟨⟨a5,n5,c5,rfl,-,-⟩,af⟩;have ax:=Zb (Ze HB af);clear af;go_wp2
    go_ret3
    exact⟨⟨_,_,_,_,_,_,rfl,TextsAt.nil _ _,SlOk.nil,IntsAt.nil _ _,aP _,aE _⟩,Za ax⟩
  ·have e:j=nl:=(by omega);subst e;obtain⟨q2,z⟩:=Za HN;rw[Zbf (by rw[(Za bg).1];exact aE _)] at z;have e1:M=L':=(by injection z with z _;exact z.symm);have e2:N=N':=(by injection z with _ z;injection z with z _;exact z.symm);have e3:x=0:=(by injection z with _ z;injection z with _ z;exact z.symm);subst e1 e2 e3;obtain⟨av,cv,rfl,sv,iv⟩:=ints_of_own HO;have di:=sv.1;have IV:=Zb iv;clear q2 z iv sv aq;go_wp2
   go_ret3
   exact⟨⟨_,_,_,_,_,_,rfl,ao.1,ao.2,Za IV,aE _,di⟩,Za HB⟩
end Bk
open Go.RowKit
theorem Np:∀ (l:List ByteArray) (L:List ByteArray) (N:List Int) (M:List ByteArray) (z:List Int),Bk.nmGo L N l=(M,z,0)->z.length=N.length+l.length
 | [],L,N,M,z,h=>by
  unfold Bk.nmGo at h;injection h with _ h;injection h with h _;subst h;rfl
 | s :: r,L,N,M,z,h=>by
  unfold Bk.nmGo at h;split at h
  ·have:=Np r _ _ M z h;rw[this,List.length_append,dQ,dQ,List.length_nil];omega
  ·rename_i q;injection h with _ h;injection h with _ h;exact absurd h q
theorem Zcq{L l M:List ByteArray}{N:List Int}(h:Bk.allR L l=(M,N,0)):N.length=l.length:=by
 unfold Bk.allR at h;split at h
 ·have:=Np l L [] M N h;rw[this];simp
 ·rename_i q;injection h with _ h;injection h with _ h;exact absurd h q
theorem Hl(ka kn kc L)(p h k n:Int)(a m c T M)(nm:Int)(N)(x:Int)(w)(hE:Env w)(hL:Bk.TextsAt w ka kn L)(hT:TxsAt w a m T)(hx:Q7 L (p,h,k,n,T)=(M,nm,N,x)) :
  Calls aB 37 #[.agg #[F ka kn kc],.agg #[E J p,E J h,E J k,E J n,F a m c]] w λe w'=>NmR w w' M nm N x e:=by
 have hz:T.length=m:=hT.1;unfold Q7 at hx;by_cases h0:Xo (p,h,k,n,T)=0
 ·rw[if_neg (by rw[h0];decide)] at hx;obtain⟨⟨M',N',x'⟩,hr⟩:=ZF (Bk.allR L (Xz (p,h,k,n,T)));rw[hr] at hx;simp only[hz] at hx
  have ao:x'=0->N'.length=m+1:=λe=>by
   subst e;rw[Zcq hr];unfold Xz;simp[hz]
  by_cases aj:x'=0
  ·subst aj;rw[if_neg (by decide)] at hx;injection hx with e1 z;injection z with z O;injection O with O e4;subst e1 z O e4;exact Nt ka kn kc L p h k n a m c T M' N' 0 w hE hL hT h0 hr ao _ _ _ (if_pos rfl)
  ·rw[if_pos aj] at hx;injection hx with e1 z;injection z with z O;injection O with O e4;subst e1 z O e4;exact Nt ka kn kc L p h k n a m c T M' N' x' w hE hL hT h0 hr ao _ _ _ (if_neg aj)
 ·rw[if_pos h0] at hx;injection hx with e1 z;injection z with z O;injection O with O e4;subst e1 z O;exact Zih ka kn kc p h k n a m c T x w hT e4 (by rw[<-e4];exact h0)
def nfD(K:List ByteArray)(C:List Zf)(b:Zj):List Int×Int:=if Zo C≠0 then ([],Zo C) else ((Q7 K b).2.2.1,(Q7 K b).2.2.2)
def NfR(w w':World)(N:List Int)(x:Int)(e:Ending):Prop:=∃ a n c,e = dX (dY #[F a n c,E J x])/\Bk.IntsAt w' a n N/\n<=c/\ZD w w'
set_option maxRecDepth 10000 in
theorem Tj(ka kn kc L la ln lc C)(p h k n:Int)(a m c T N)(x:Int)(w)(hE:Env w)(hL:Bk.TextsAt w ka kn L)(hC:CoinsAt w la ln C)(hT:TxsAt w a m T)(hx:nfD L C (p,h,k,n,T)=(N,x)) :
  Calls aB 120 #[.agg #[F ka kn kc],F la ln lc,.agg #[E J p,E J h,E J k,E J n,F a m c]] w λe w'=>NfR w w' N x e:=by
 obtain⟨X,O⟩:=ZG ((w.alloc (dW #[F ka kn kc] 24)).alloc (dW #[E J p,E J h,E J k,E J n,F a m c] 68));have aa:ZD w X:=by rw[O];exact Ze (Zg _ _) (Zg _ _)
 have ao:X.heap[w.heap.size]? = some (dW [F ka kn kc].toArray 24 (0,0)):=by
  rw[O,Below.heap_alloc _ _ _ (by simp)];exact Qs _ _ _
 have ap:X.heap[w.heap.size+1]? = some (dW [E J p,E J h,E J k,E J n,F a m c].toArray 68 (0,0)):=by
  rw[O];have:=Z8 (w.alloc (dW #[F ka kn kc] 24)) (E J p) (E J h) (E J k) (E J n) (F a m c) 68;rw[show (w.alloc (dW #[F ka kn kc] 24)).heap.size=w.heap.size+1 by simp] at this;exact this
 obtain⟨y,hy⟩:=ZF (Zo C);have CK:=Zb (Rc la ln lc C y X (hC.later aa) hy);have bi:=Zb ao;have bj:=Zb ap;have ay:=Zb aa;unfold nfD at hx;rw[hy] at hx;by_cases ai:y=0
 ·subst ai;rw[if_neg (by decide)] at hx;obtain⟨⟨M,nm,N',x'⟩,hr⟩:=ZF (Q7 L (p,h,k,n,T));rw[hr] at hx;injection hx with e1 e2;simp only at e1 e2;subst e1 e2;have NA:=Zb (λW (hb:ZD X W)=>Hl ka kn kc L p h k n a m c T M nm N' x' W ((hE.later aa).later hb) ((hL.later aa).later hb) ((hT.later aa).later hb) hr);clear hE hL hC hT hy hr ao ap aa;go_enter func120,ntmps120;go_wp2_with fail;rw[<-O];clear O;refine CK.mono ?_;rintro e w1 ⟨rfl,z⟩;have h1:=ZE z bi;have h2:=ZE z bj;have k0:=Zd h1 0 _ rfl;have b0:=Zd h2 0 _ rfl;have b1:=Zd h2 1 _ rfl;have b2:=Zd h2 2 _ rfl;have b3:=Zd h2 3 _ rfl;have b4:=Zd h2 4 _ rfl;have l1:=aA h1;have l2:=aA h2;have N1:=Zb (NA w1 z);have bh:=Zb (Ze ay z);clear z h1 h2;go_wp2_with fail;refine N1.mono ?_;rintro e w2 ⟨a',n',c',a2,n2,c2,rfl,_,_,hI,hc,bd⟩;have HF:Hid (NfR w (w2.alloc (dW #[F a' n' c'] 24)) N' x' (dX (dY #[F a2 n2 c2,E J x']))):=⟨a2,n2,c2,rfl,hI.later (Zg _ _),hc,Ze (Ze bh bd) (Zg _ _)⟩;clear hI hc bd;go_wp2;go_ret2;exact Za HF
 ·rw[if_pos ai] at hx;injection hx with e1 e2;subst e1 e2;have gy:(y != 0)=true:=by simp[ai]
  clear hE hL hC hT hy ao ap aa ai;go_enter func120,ntmps120;go_wp2_with fail;rw[<-O];clear O;refine CK.mono ?_;rintro e w1 ⟨rfl,z⟩;have HF:Hid (NfR w w1 [] y (dX (dY #[F none 0 0,E J y]))):=⟨none,0,0,rfl,Bk.IntsAt.nil _ _,aE _,Ze ay z⟩;clear z;go_wp2;go_ret2;exact Za HF
theorem Kr:∀ (l L:List ByteArray) (N:List Int) (M:List ByteArray) (z:List Int),Bk.nmGo L N l=(M,z,0)->z=N++l.map (λs=>(Bk.place s M:Int))/\∀ s∈l,0<Bk.place s M/\s.size<=4000
 | [],L,N,M,z,h=>by
  unfold Bk.nmGo at h;injection h with _ h;injection h with h _;exact⟨by simp[h],λs hs=>by cases hs⟩
 | s :: r,L,N,M,z,h=>by
  rw[Bk.nmGo] at h;split at h
  ·next q=>
   obtain⟨p1,p2,p3⟩:=Bk.nm_place q;obtain⟨X,O⟩:=Bk.nmGo_grows r (Bk.nm L s).1 (N++[(Bk.nm L s).2.1]) (by rw[h]);rw[h] at O;simp only at O;obtain⟨h1,h2⟩:=Kr r _ _ M z h;have e:Bk.place s M=Bk.place s (Bk.nm L s).1:=(by rw[O];exact Bk.place_stays X p2);refine⟨?_,λag hz=>?_⟩
   ·rw[h1,List.append_assoc,p1,<-e];rfl
   ·rcases bU.1 hz with rfl|hz
    ·exact⟨by rw[e];exact p2,p3⟩
    ·exact h2 ag hz
  ·next q=>
   injection h with _ h;injection h with _ h;exact absurd h q
theorem Bf{K l X N}(h:Bk.allR K l=(X,N,0)):Bk.Right K/\Bk.nmGo K [] l=(X,N,0):=by
 unfold Bk.allR at h;split at h
 ·next q=>exact⟨(Bk.right_iff K).1 q,h⟩
 ·next q=>
  injection h with _ h;injection h with _ h;exact absurd h q
theorem Zez{K l X N}(h:Bk.allR K l=(X,N,0)):Bk.Right X/\∃ M,X=K++M:=by
 obtain⟨h1,h2⟩:=Bf h;have r:=Bk.nmGo_right l K [] h1 (by rw[h2]);have g:=Bk.nmGo_grows l K [] (by rw[h2]);rw[h2] at r g;exact⟨r,g⟩
theorem Qt{K}{b:Zj}{X}{n:Int}{ns}(h:Q7 K b=(X,n,ns,0)):Xo b=0/\Bk.Right X/\(∀ s∈Xz b,0<Bk.place s X/\s.size<=4000)/\n=(Bk.place (Qe b) X:Int)/\ns=b.2.2.2.2.map (λt=>(Bk.place (Ye t) X:Int))/\∃ M,X=K++M:=by
 unfold Q7 at h;split at h
 ·next q=>
  injection h with _ h;injection h with _ h;injection h with _ h;exact absurd h q
 ·next q=>
  split at h
  ·next q2=>
   injection h with _ h;injection h with _ h;injection h with _ h;exact absurd h q2
  ·next q2=>
   obtain⟨O,N,x,e⟩:∃ O N x,Bk.allR K (Xz b)=(O,N,x):=⟨_,_,_,rfl⟩;rw[e] at h q2;obtain rfl:x=0:=Decidable.not_not.1 q2;injection h with h1 h;injection h with h2 h;injection h with h3 _;simp only at h1 h2 h3;subst h1;obtain⟨r,g⟩:=Zez e;obtain⟨z,p2⟩:=Kr _ _ _ _ _ (Bf e).2;rw[List.nil_append] at z;refine⟨Decidable.not_not.1 q,r,p2,?_,?_,g⟩
   ·rw[<-h2,z];simp[Xz]
   ·rw[<-h3,z];simp[Xz]
def Vg:List (Int×Int)->List Value
 | []=>[]
 | o :: r=>E J o.1 :: E J o.2 :: Vg r
theorem Vv:∀ l:List (Int×Int),(Vg l).length=l.length*2
 | []=>rfl
 | _ :: r=>by simp only[Vg,dQ,Vv r];omega
theorem Gq:∀ (l:List (Int×Int)) (i:Nat),i<l.length->(Vg l)[i*2]? = some (E J (l.getD i (0,0)).1)/\(Vg l)[i*2+1]? = some (E J (l.getD i (0,0)).2)
 | [],_,h=>absurd h (by simp)
 | o :: r,0,_=>⟨rfl,rfl⟩
 | o :: r,i+1,h=>by
  have:=Gq r i (by simpa using h);rw[show (i+1)*2=i*2+2 by omega];simpa[Vg] using this
theorem Hv:∀ (l:List (Int×Int)) (u:Value),u∈Vg l->u.oneCell'=true
 | [],u,h=>by cases h
 | o :: r,u,h=>by
  simp only[Vg,bU] at h
  rcases h with rfl|rfl|h
  ·rfl
  ·rfl
  ·exact Hv r u h
theorem K7{w:World}{b off n:Nat}{l:List (Int×Int)}(hz:l.length=n)(hc:∀ i,i<n->w.cell? ⟨b,off+i*2,none⟩=some (E J (l.getD i (0,0)).1)/\w.cell? ⟨b,off+i*2+1,none⟩=some (E J (l.getD i (0,0)).2))(j:Nat)(u)(z:(Vg l)[j]? = some u):w.cell? ⟨b,off+j,none⟩=some u:=by
 have ac:j<l.length*2:=by rw[<-Vv];exact (cU.1 z).1
 obtain⟨O,f1⟩:=Gq l (j / 2) (by omega);obtain⟨c0,c1⟩:=hc (j / 2) (by omega)
 rcases (show j % 2=0\/j % 2=1 by omega) with q|q
 ·have e:j=j / 2*2:=by omega
  rw[<-e] at O c0;rw[O] at z;rw[c0,<-z]
 ·have e:j=j / 2*2+1:=by omega
  rw[<-e] at f1;rw[show off+j / 2*2+1=off+j by omega] at c1;rw[f1] at z;rw[c1,<-z]
theorem L8{w:World}{base:Nat}{v}{n:Nat}{l}(h:w.ownsRow base 122 2 v n (Vg l)):∃ a c,v = F a n c/\OpsAt w a n l/\SlOk a n c/\(∀ z,a=some z->base<=z.block):=by
 have O:l.length=n:=by have:=h.1;rw[Vv] at this;omega
 rcases h.2 with ⟨rfl,rfl⟩|⟨g,cap,ad,rfl,hg,hh,h1,h2,h3,h4⟩
 ·exact⟨none,0,rfl,⟨O,λh=>absurd h (by omega)⟩,⟨aE _,aP _,λ_=>⟨rfl,rfl⟩⟩,λz e=>by cases e⟩
 ·refine⟨_,cap,rfl,⟨O,λ_=>⟨g,0,rfl,λi hi=>?_⟩⟩,⟨h1,h2,λe=>by cases e⟩,λz e=>by cases e;exact hg⟩;obtain⟨f0,f1⟩:=Gq l i (by omega);rw[Nat.zero_add,bD h _ (by omega),bD h _ (by omega)];exact⟨f0,f1⟩
theorem Tryz.infoOpC:(Tryz.prog.info? 122).map (λi=>(i.zero,i.size,i.bytes))=some (some (.agg #[E J 0,E J 0]),2,16):=by kernel_rfl
set_option maxRecDepth 10000 in
theorem Ld(w):Calls aB 102 #[F none 0 0] w λe w'=>e = dX (F none 0 0)/\w=w':=by
 have z:=λw=>Lib.run_eql_slice_nil (P:=aB) w 66 122 none 0 0 0 0 dR;go_enter func102,ntmps102;go_wp2;go_ret;exact⟨rfl,rfl⟩
set_option maxRecDepth 10000 in
theorem Sy(z:Addr)(n c:Nat)(l:List (Int×Int))(w:World)(hn:n<=8796093022208)(hz:l.length=n)(hc:∀ j u,(Vg l)[j]? = some u->w.cell? (z.add j)=some u) :
  Calls aB 102 #[F (some z) n c] w λe w'=>∃ v,e = dX v/\w'.ownsRow w.heap.size 122 2 v n (Vg l)/\ZD w w':=by
 obtain⟨i0,hi,al,am,an⟩:=info_parts Tryz.infoOpC;have hb:=Zg w (dW #[] 122);have HC:Hid (∀ j u,(Vg l)[j]? = some u->(w.alloc (dW #[] 122)).cell? (z.add j)=some u):=λj u hj=>Zc hb (hc j u hj);have O:=Zb hb;have HZ:=Zb hz;have HO:=Zb (Jf w 122 2);have he:=λw=>Lib.run_eql_slice_nil (P:=aB) w 66 122 (some z) n c 0 0 dR;clear hc hb hz;go_enter func102,ntmps102
 go_wp2_with (at_builtin;refine dV _ rfl _ _ 66 rfl w.heap.size 122 i0 (.agg #[E J 0,E J 0]) 2 16 dR hi al am an rfl (by decide) _ _ _ rfl HO z n c (Vg l) rfl (by rw[Vv,Za HZ]) HC (Hv l) (by unfold cD;omega) (by omega) O.size ?_;intro v2 w3 ae ad _)
 have HW:Hid (w3.ownsRow w.heap.size 122 2 v2 n (Vg l)):=by show World.ownsRow _ _ _ _ _ _ _;simpa using ae
 have ag:=Zb (O.grown ad O.size (Y6 HO));clear ae ad;go_wp2;go_ret;exact⟨v2,rfl,Za HW,Za ag⟩
theorem Gy(z:Addr)(n c:Nat)(l:List (Int×Int))(w:World)(hn:n<=4096)(hz:l.length=n)(O:∀ j u,(Vg l)[j]? = some u->w.cell? (z.add j)=some u) :
  Calls aB 102 #[F (some z) n c] w λe w'=>∃ v,e = dX v/\w'.ownsRow w.heap.size 122 2 v n (Vg l)/\ZD w w':=
 Sy z n c l w (aT hn (by decide)) hz O
theorem Gz(a)(n c:Nat)(l)(w:World)(hn:n<=8796093022208)(h:OpsAt w a n l)(hs:SlOk a n c) :
  Calls aB 102 #[F a n c] w λe w'=>∃ a' O,e = dX (F a' n O)/\OpsAt w' a' n l/\SlOk a' n O/\(∀ z,a'=some z->w.heap.size<=z.block)/\ZD w w':=by
 obtain⟨hl,hc⟩:=h;cases a with
 | none=>
  obtain⟨rfl,rfl⟩:=hs.2.2 rfl;exact (Ld w).mono λe w' ⟨x,y⟩=>⟨none,0,x,⟨hl,λh=>absurd h (by omega)⟩,hs,λz e=>(by cases e),y ▸ Below.refl _ _⟩
 | some z=>
  have ae:∀ j u,(Vg l)[j]? = some u->w.cell? (z.add j)=some u:=λj u hj=>by
   have ah:j<l.length*2:=(by rw[<-Vv];exact (cU.1 hj).1);obtain⟨b,off,e,af⟩:=hc (by omega);cases e;rw[Addr.add_lit];exact K7 hl af j u hj
  refine (Sy z n c l w hn hl ae).mono ?_;rintro e w' ⟨v,rfl,x,y⟩;obtain⟨a',O,rfl,h1,h2,h3⟩:=L8 x;exact⟨a',O,rfl,h1,h2,h3,y⟩
theorem Tq(a)(n c:Nat)(l)(w:World)(hn:n<=4096)(h:OpsAt w a n l)(hs:SlOk a n c) :
  Calls aB 102 #[F a n c] w λe w'=>∃ a' O,e = dX (F a' n O)/\OpsAt w' a' n l/\SlOk a' n O/\(∀ z,a'=some z->w.heap.size<=z.block)/\ZD w w':=
 Gz a n c l w (aT hn (by decide)) h hs
