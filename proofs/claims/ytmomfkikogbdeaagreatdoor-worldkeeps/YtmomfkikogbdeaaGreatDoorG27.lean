import Derived.Test.YtmomfkikogbdeaaGreatDoorH
import Derived.Test.YtmomfkikogbdeaaGreatDoorG26
open Go.Proofs.Tryz
open Go renaming maxLen->cH,rounds_succ->bF,bodyPost_ret->aW
open Go.Ending renaming returned->cS
open Go.IntKind renaming i64->J
open Go.Obj renaming cells->cR
open Go.Proofs.Tryz renaming prog->aA
open Go.Value renaming int->E,slice->F,tuple->cT,pointer->cU,bool->cV
open Go.World renaming block_lt_of_cell?->aD,cell?->bD
open List renaming drop_eq_getElem_cons->aL,take_succ_eq_append_getElem->aV,take_of_length_le->aN,length_eq_zero_iff->aG
open Nat renaming zero_le->aM,lt_of_lt_of_le->aC
set_option maxHeartbeats 6400000
set_option maxRecDepth 10000
namespace Go.Proofs.YtmomfkikogbdeaaGreatDoor
open Go.RowKit
def Rd(g:TxD->Bool):List TxD->Nat->Int
 | [],_=>-1
 | t :: r,k=>if g t=true then k else Rd g r (k+1)
theorem Zku(g:TxD->Bool)(L:List TxD)(k:Nat)(h:k<L.length):Rd g (L.drop k) k=if g L[k]=true then (k:Int) else Rd g (L.drop (k+1)) (k+1):=by
 rw[aL h,Rd]
theorem Ai(g:TxD->Bool):∀ (L:List TxD) (k:Nat),decide (0<=Rd g L k)=L.any g
 | [],_=>by simp[Rd]
 | t :: r,k=>by
  rw[Rd,List.any_cons];by_cases h:g t=true
  ·rw[if_pos h,h];simp
  ·have h':g t=false:=(by simpa using h);rw[if_neg h,Ai g r,h',Bool.false_or]
structure Dh(f:Nat)(caps:Array Value)(W0:World)(g:TxD->Bool):Prop where
 enters:∀ args w,(callFunc f args).run aA w = .ok (.enter f args) w
 call:∀ w,ZD W0 w->∀ (th:Int) (ai ao:Option Addr) (ni ci no co:Nat) (I:List InD) (O:List Zz),InsAt w ai ni I->OutsAt w ao no O->SlOk ai ni ci->SlOk ao no co ->
  Calls aA f (#[.agg #[E J th,F ai ni ci,F ao no co]]++caps) w λe w'=>e = cS (cV (g (th,I,O)))/\ZD w w'
theorem Ec(f:Nat)(caps)(g:TxD->Bool)(a n c L)(w:World)(hT:Dh f caps w g)(hL:TxsAt w a n L)(hn:n<=cH) :
  ZH 156 #[F a n c,.func (.func f) #[] caps] w (E J (Rd g L 0)):=by
 have HT:=Zd hT;have HL:=Zd hL;have HZ:=Zd hL.1;have bd:n<=9223372036854775807:=hn;clear hT hL hn;go_enter func156,ntmps156;go_wp2
 go_loopw [5,8] (λ_ i wr=>∃ k:Nat,k<=n/\i = E J k/\Hid (Rd g L 0=Rd g (L.drop k) k)/\ZD w wr) (λ_ i _=>n - (intOf i).toNat)
 case atStart=>exact⟨0,aM _,rfl,rfl,Below.refl _ _⟩
 case round=>
  obtain⟨k,hk,rfl,A,z⟩:=hrel;have HB:=Zd z;by_cases ay:k<n
  ·have am:k<L.length:=(by rw[Za HZ];exact ay);obtain⟨b,off,rfl,al,ap⟩:=HL.2 (by omega);obtain⟨c0,⟨ai,ni,ci,c1,ae,ar⟩,ao,no,co,c2,ag,au⟩:=ap k am;have c0:=Ze z c0;have c1:=Ze z c1;have c2:=Ze z c2;have al:b<wr.heap.size:=aC al z.size;have S:=Zd (Zku g L k am);obtain⟨t,ht⟩:=ZF (L[k]);rw[ht] at c0 ae ag S;obtain⟨th,tI,tO⟩:=t;have Q:=Zd (HT.call wr z th ai ao ni ci no co tI tO (ae.later z) (ag.later z) ar au);have eg:=HT.enters;simp only at c0;clear ae ag ar au ht ap z;cases hg:g (th,tI,tO) with
   | true=>
    rw[hg] at Q S;have S2:Hid (Rd g L 0=k):=(by show _=_;rw[Za A,Za S,if_pos rfl]);clear S A hg;go_wp2_with fail;refine Q.mono ?_;rintro e w2 ⟨rfl,ab⟩;have ad:=Zd (Zf HB ab);clear ab Q;go_wp2;go_ret;exact⟨by rw[Za S2];rfl,Za ad⟩
   | false=>
    rw[hg] at Q S;have S2:Hid (Rd g L 0=Rd g (L.drop (k+1)) (k+1)):=(by show _=_;rw[Za A,Za S,if_neg (by decide)]);clear S A hg;go_wp2_with fail;refine Q.mono ?_;rintro e w2 ⟨rfl,ab⟩;have ad:=Zd (Zf HB ab);clear ab Q;go_wp2;go_roundw
    case rel=>exact⟨k+1,by omega,by go_num,S2,Za ad⟩
    case measure=>simp[intOf];omega
  ·have S2:Hid (Rd g L 0 = -1):=by
    show _=_;rw[Za A,List.drop_of_length_le (by rw[Za HZ];omega)];rfl
   clear A z;go_wp2;go_ret;exact⟨by rw[Za S2];rfl,Za HB⟩
theorem Ro(f:Nat)(caps)(g:TxD->Bool)(a n c)(L:List TxD)(o:Bool)(w:World)(hT:Dh f caps w g)(Q:TxsAt w a n L)(hn:n<=cH)(ho:L.any g=o) :
  ZH 89 #[F a n c,.func (.func f) #[] caps] w (cV o):=by
 have C1:=Zd (Ec f caps g a n c L w hT Q hn);have z:Hid (decide (0<=Rd g L 0)=o):=by show _=_;rw[Ai];exact ho
 obtain⟨i,hi⟩:=ZF (Rd g L 0);rw[hi] at C1 z;clear hT Q hn ho hi;go_enter func89,ntmps89;go_wp2_with fail;refine C1.mono ?_;rintro e w1 ⟨rfl,hb⟩;have HB:=Zd hb;clear hb C1;go_wp2;go_ret;exact⟨by rw[<-Za z];rfl,Za HB⟩
theorem Dg(p:Nat)(th:Int)(ai ao ni ci no co I O)(w:World)(hp:w.heap[p]? = some (cR [E J th,F ai ni ci,F ao no co].toArray 59 (0,0)))(hI:InsAt w ai ni I)(hO:OutsAt w ao no O) :
  Dh 90 #[cU (some ⟨p,0,none⟩)] w (λx=>Vq x (th,I,O)) where
 enters:=enters_of (fn:=Tryz.f90) (by kernel_rfl) (by kernel_rfl) rfl
 call V hV xh bi bo mi di mo eo ae P hJ hP sJ sP:=by
  obtain⟨X,hX⟩:=ZG (V.alloc (cR #[E J xh,F bi mi di,F bo mo eo] 59));have Q:ZD V X:=by rw[hX];exact Zh _ _
  have z:X.heap[V.heap.size]? = some (cR [E J xh,F bi mi di,F bo mo eo].toArray 59 (0,0)):=by rw[hX];exact Zv _ _ _ _ _
  have ad:=Zf hV Q;have ab:=(ad.block p (lt_of_block hp)).trans hp;have aa:=(hV.block p (lt_of_block hp)).trans hp;have v0:=Zb aa 0 _ rfl;have v1:=Zb aa 1 _ rfl;have v2:=Zb aa 2 _ rfl;have vl:=lt_of_block aa;obtain⟨o,ho⟩:=ZF (Vq (xh,ae,P) (th,I,O));have C1:=Zd (L5 xh th bi bo ai ao mi di mo eo ni ci no co ae I P O o X sJ.len sP.len (hJ.later Q) (hP.later Q) (hI.later ad) (hO.later ad) ho);have q0:=Zb ab 0 _ rfl;have q1:=Zb ab 1 _ rfl;have q2:=Zb ab 2 _ rfl;have ql:=lt_of_block ab;have t0:=Zb z 0 _ rfl;have t1:=Zb z 1 _ rfl;have t2:=Zb z 2 _ rfl;have tl:=lt_of_block z;have HB:=Zd Q;show Calls _ _ _ _ (λe w'=>e = cS (cV (Vq (xh,ae,P) (th,I,O)))/\_);rw[ho];clear hp hI hO hV hJ hP sJ sP Q z ad ab aa ho;go_enter func90,ntmps90;go_wp2_with fail;rw[<-hX];clear hX;(try go_wp2_with fail);refine C1.mono ?_;rintro e w1 ⟨rfl,hb⟩;have al:=Zd (Zf HB hb);clear hb C1;go_wp2;go_ret;exact⟨rfl,Za al⟩
namespace Bk
open Go.RowKit Go.Maps
theorem J0{α : Type}{L M:List α}{j:Nat}(h1:j<L.length)(h2:j<M.length)(h:L.take j=M.take j)(e:L[j]=M[j]):L.take (j+1)=M.take (j+1):=by
 rw[aV h1,aV h2,h,e]
theorem Th{α : Type}{L M:List α}{j:Nat}(h1:j<L.length)(h2:j<M.length)(e:L[j]≠M[j]):L≠M:=by
 intro h;subst h;exact e rfl
theorem Zjn{s t:ByteArray}(h:s≠t):s.toList≠t.toList:=λe=>h (by
 rw[ByteArray.toList_eq,ByteArray.toList_eq] at e;have h4:s.data=t.data:=by rw[<-Array.toList_inj];exact e
 cases s;cases t;simp_all)
theorem Zfi{s t:ByteArray}(h:s≠t):(s.toList == t.toList)=false:=by simp[Zjn h]
theorem El(b off b2 an n c d:Nat)(L M:List ByteArray)(o:Bool)(w:World)(hn:n<=cH)(hz:L.length=n)(am:M.length=n)
  (hc:∀ i (h:i<L.length),w.cell? ⟨b,off+i,none⟩=some (.string L[i])) (ah:∀ i (h:i<M.length),w.cell? ⟨b2,an+i,none⟩=some (.string M[i])) (ho:decide (L=M)=o) :
  ZH 31 #[F (some ⟨b,off,none⟩) n c,F (some ⟨b2,an,none⟩) n d] w (cV o):=by
 have HC:=Zd hc;have aq:=Zd ah;have HZ:=Zd hz;have ae:=Zd am;have HO:=Zd ho;have g0:((n:Int) != (n:Int))=false:=by simp
 unfold cH at hn;clear hc ah hz am ho;go_enter func31,ntmps31;go_wp2
 go_loopw [13] (λi wr=>∃ j m:Nat,j<=n/\i = E J j/\wr=w.drewN m/\Hid (L.take j=M.take j)) (λi _=>n - (intOf i).toNat)
 case atStart=>exact⟨0,0,aM _,rfl,rfl,rfl⟩
 case round=>
  obtain⟨j,m,hk,rfl,rfl,A⟩:=hrel;by_cases aj:j<n
  ·have h1:j<L.length:=(by rw[Za HZ];exact aj);have h2:j<M.length:=(by rw[Za ae];exact aj);have f1:=HC j h1;have f2:=aq j h2;have z:=Zd (J0 h1 h2 A);have Q:=Zd (Th h1 h2);obtain⟨s,hs⟩:=ZF (L[j]);obtain⟨t,ht⟩:=ZF (M[j]);rw[hs] at f1;rw[ht] at f2;rw[hs,ht] at z Q;clear hs ht A;by_cases e:s=t
   ·subst e;have R:=Zd (z rfl);clear z Q;go_wp2
    go_quiet (fail)
    go_wp2;go_roundw
    case rel=>exact⟨j+1,m+nq,by omega,by go_num,rfl,R⟩
    case measure=>simp[intOf];omega
   ·have R:Hid (o=false):=(by show _=_;rw[<-Za HO];exact decide_eq_false (Q e));have g:=Zfi e;clear z Q e;go_wp2
    go_quiet (fail)
    go_wp2;go_ret;exact⟨by rw[Za R];rfl,by simp only[World.drewN_drewN];exact Qi _ _⟩
  ·have R:Hid (o=true):=by
    have h:=Za A;rw[aN (by rw[Za HZ];omega),aN (by rw[Za ae];omega)] at h;show _=_;rw[<-Za HO];exact decide_eq_true h
   clear A;go_wp2;go_ret;exact⟨by rw[Za R];rfl,Qi _ _⟩
theorem Ek(a z c d)(w:World) :
  ZH 31 #[F a 0 c,F z 0 d] w (cV true):=by
 go_enter func31,ntmps31;go_wp2;refine wp_loop_rounds 1 ?_;rw[bF];go_wp2;go_ret;exact⟨rfl,Below.refl _ _⟩
theorem Zdw(a z)(n m c d:Nat)(w:World)(h:n≠m) :
  ZH 31 #[F a n c,F z m d] w (cV false):=by
 have g:((n:Int) != (m:Int))=true:=by simp;omega
 go_enter func31,ntmps31;go_wp2;go_ret;exact⟨rfl,Below.refl _ _⟩
theorem eqStr_is(a z)(n m c d:Nat)(L M)(o:Bool)(w:World)(hn:n<=cH)(h:TextsAt w a n L)(h2:TextsAt w z m M)(ho:decide (L=M)=o) :
  ZH 31 #[F a n c,F z m d] w (cV o):=by
 by_cases e:n=m
 ·subst e;by_cases h0:n=0
  ·subst h0;have e1:L=[]:=aG.1 h.1;have Q:M=[]:=aG.1 h2.1;subst e1 Q;have:o=true:=(by rw[<-ho];rfl);subst this;exact Ek a z c d w
  ·obtain⟨b,off,rfl,hc⟩:=h.2 (by omega);obtain⟨b2,ag,rfl,ae⟩:=h2.2 (by omega);exact El b off b2 ag n c d L M o w hn h.1 h2.1 hc ae ho
 ·have:o=false:=by
   rw[<-ho];exact decide_eq_false (λQ=>e (by rw[<-h.1,<-h2.1,Q]))
  subst this;exact Zdw a z n m c d w e
theorem R8(b off b2 an n c d:Nat)(L M:List Int)(o:Bool)(w:World)(hn:n<=cH)(hz:L.length=n)(am:M.length=n)
  (hc:∀ i (h:i<L.length),w.cell? ⟨b,off+i,none⟩=some (E J L[i])) (ah:∀ i (h:i<M.length),w.cell? ⟨b2,an+i,none⟩=some (E J M[i])) (ho:decide (L=M)=o) :
  ZH 38 #[F (some ⟨b,off,none⟩) n c,F (some ⟨b2,an,none⟩) n d] w (cV o):=by
 have HC:=Zd hc;have aq:=Zd ah;have HZ:=Zd hz;have ae:=Zd am;have HO:=Zd ho;have g0:((n:Int) != (n:Int))=false:=by simp
 unfold cH at hn;clear hc ah hz am ho;go_enter func38,ntmps38;go_wp2
 go_loopw [13] (λi wr=>∃ j m:Nat,j<=n/\i = E J j/\wr=w.drewN m/\Hid (L.take j=M.take j)) (λi _=>n - (intOf i).toNat)
 case atStart=>exact⟨0,0,aM _,rfl,rfl,rfl⟩
 case round=>
  obtain⟨j,m,hk,rfl,rfl,A⟩:=hrel;by_cases aj:j<n
  ·have h1:j<L.length:=(by rw[Za HZ];exact aj);have h2:j<M.length:=(by rw[Za ae];exact aj);have f1:=HC j h1;have f2:=aq j h2;have z:=Zd (J0 h1 h2 A);have Q:=Zd (Th h1 h2);obtain⟨s,hs⟩:=ZF (L[j]);obtain⟨t,ht⟩:=ZF (M[j]);rw[hs] at f1;rw[ht] at f2;rw[hs,ht] at z Q;clear hs ht A;by_cases e:s=t
   ·subst e;have R:=Zd (z rfl);have g:(s != s)=false:=(by simp);clear z Q;go_wp2
    go_quiet (fail)
    go_wp2;go_roundw
    case rel=>exact⟨j+1,m+nq,by omega,by go_num,rfl,R⟩
    case measure=>simp[intOf];omega
   ·have R:Hid (o=false):=(by show _=_;rw[<-Za HO];exact decide_eq_false (Q e));have g:(s != t)=true:=(by simp[e]);clear z Q;go_wp2
    go_quiet (fail)
    go_wp2;go_ret;exact⟨by rw[Za R];rfl,by simp only[World.drewN_drewN];exact Qi _ _⟩
  ·have R:Hid (o=true):=by
    have h:=Za A;rw[aN (by rw[Za HZ];omega),aN (by rw[Za ae];omega)] at h;show _=_;rw[<-Za HO];exact decide_eq_true h
   clear A;go_wp2;go_ret;exact⟨by rw[Za R];rfl,Qi _ _⟩
theorem R7(a z c d)(w:World) :
  ZH 38 #[F a 0 c,F z 0 d] w (cV true):=by
 go_enter func38,ntmps38;go_wp2;refine wp_loop_rounds 1 ?_;rw[bF];go_wp2;go_ret;exact⟨rfl,Below.refl _ _⟩
theorem Sz(a z)(n m c d:Nat)(w:World)(h:n≠m) :
  ZH 38 #[F a n c,F z m d] w (cV false):=by
 have g:((n:Int) != (m:Int))=true:=by simp;omega
 go_enter func38,ntmps38;go_wp2;go_ret;exact⟨rfl,Below.refl _ _⟩
theorem eqInt_is(a z)(n m c d:Nat)(L M)(o:Bool)(w:World)(hn:n<=cH)(h:IntsAt w a n L)(h2:IntsAt w z m M)(ho:decide (L=M)=o) :
  ZH 38 #[F a n c,F z m d] w (cV o):=by
 by_cases e:n=m
 ·subst e;by_cases h0:n=0
  ·subst h0;have e1:L=[]:=aG.1 h.1;have Q:M=[]:=aG.1 h2.1;subst e1 Q;have:o=true:=(by rw[<-ho];rfl);subst this;exact R7 a z c d w
  ·obtain⟨b,off,rfl,hc⟩:=h.2 (by omega);obtain⟨b2,ag,rfl,ae⟩:=h2.2 (by omega);exact R8 b off b2 ag n c d L M o w hn h.1 h2.1 hc ae ho
 ·have:o=false:=by
   rw[<-ho];exact decide_eq_false (λQ=>e (by rw[<-h.1,<-h2.1,Q]))
  subst this;exact Sz a z n m c d w e
theorem Fo{s:ByteArray}{L:List ByteArray}{j:Nat}(h:j<L.length)(h0:place s (L.take j)=0)(e:L[j]≠s):place s (L.take (j+1))=0:=by
 rw[place_zero] at *;rw[aV h];simp only[List.mem_append,List.mem_singleton,not_or];exact⟨h0,λq=>e q.symm⟩
theorem Hj{s:ByteArray}:∀ {A B:List ByteArray},place s A=0->place s (A++s :: B)=A.length+1
 | [],B,_=>by simp[place]
 | x :: A,B,h=>by
  have hx:x≠s:=λq=>by simp[place,q] at h
  have z:place s A=0:=by
   rw[place_zero] at *;exact λq=>h (List.mem_cons_of_mem _ q)
  rw[List.cons_append,place,if_neg hx,Hj z,if_neg (by omega),List.length_cons]
theorem Ch{s:ByteArray}{L:List ByteArray}{j:Nat}(h:j<L.length)(h0:place s (L.take j)=0)(e:L[j]=s):place s L=j+1:=by
 have h1:L=L.take j++s :: L.drop (j+1):=by
  conv=>lhs;rw[<-List.take_append_drop j L,aL h,e]
 rw[h1,Hj h0,List.length_take];omega
theorem indexS_is(a)(n c:Nat)(L)(s:ByteArray)(x:Int)(w:World)(hn:n<=cH)(h:TextsAt w a n L)(hx:(place s L:Int) - 1=x) :
  ZH 291 #[F a n c,.string s] w (E J x):=by
 have HT:=Zd h;have HX:=Zd hx;unfold cH at hn;clear h hx;go_enter func291,ntmps291;go_wp2
 go_loop [8] (λi=>∃ j:Nat,j<=n/\i = E J j/\Hid (place s (L.take j)=0)) (λi=>n - (intOf i).toNat)
 case atStart=>exact⟨0,aM _,rfl,rfl⟩
 case round=>
  obtain⟨j,hk,rfl,A⟩:=hrel;by_cases aj:j<n
  ·obtain⟨hz,ad⟩:=Za HT;obtain⟨b,off,rfl,hc⟩:=ad (by omega);have h1:j<L.length:=(by omega);have f:=hc j h1;have Q:=Zd (Fo h1 A);have z:=Zd (Ch h1 A);obtain⟨t,ht⟩:=ZF (L[j]);rw[ht] at f Q z;clear ht A hc ad hz;by_cases e:t=s
   ·subst e;have R:Hid (x=j):=(by show _=_;rw[<-Za HX,(Za z) rfl];omega);clear Q z;go_wp2;go_ret;exact⟨by rw[Za R];rfl,Below.refl _ _⟩
   ·have R:=Zd (Q e);have g:=Zfi (λh:s=t=>e h.symm);clear Q z e;go_wp2
    go_round
    case rel=>exact⟨j+1,by omega,by go_num,R⟩
    case measure=>simp[intOf];omega
  ·have R:Hid (x = -1):=by
    have h:=Za A;rw[aN (by rw[(Za HT).1];omega)] at h;show _=_;rw[<-Za HX,h];rfl
   clear A;go_wp2;go_ret;exact⟨by rw[Za R];rfl,Below.refl _ _⟩
end Bk
open Go.RowKit
def KAt(w:World)(d:Nat)(K:List ByteArray):Prop:=∃ ka kn kc,w.cell? ⟨d,0,none⟩=some (F ka kn kc)/\Bk.TextsAt w ka kn K/\SlOk ka kn kc/\d<w.heap.size
theorem KAt.later{w w':World}{d K}(h:KAt w d K)(z:ZD w w'):KAt w' d K:=by
 obtain⟨ka,kn,kc,h1,h2,h3,h4⟩:=h;exact⟨ka,kn,kc,Ze z h1,h2.later z,h3,aC h4 z.size⟩
def knT(K:List ByteArray)(t:TxD):Bool:=decide (Zw t=0) && !decide (Bk.place (txT t) K=0)
def kbD(K:List ByteArray)(s:Int)(b:Zl):Bool:=decide (Ym b=0) && (decide ((Bk.place (Bf b) K:Int)=s) && b.2.2.2.2.all (knT K))
theorem Mj(d)(s:ByteArray)(K)(x:Int)(w:World)(h:KAt w d K)(hx:(Bk.place s K:Int)=x) :
  ZH 261 #[cU (some ⟨d,0,none⟩),.string s] w (E J x):=by
 obtain⟨ka,kn,kc,h1,h2,h3,h4⟩:=h;have C1:=Zd (Bk.indexS_is ka kn kc K s (x - 1) w h3.len h2 (by omega));have hl:=Bk.place_le s K;have hk:=h2.1;have hs:kn<=9223372036854775807:=h3.len;have ae:IntKind.i64.wrap (x - 1+1)=x:=by rw[IntKind.wrap_i64];omega
 have af:IntKind.i64.wrap x=x:=by rw[IntKind.wrap_i64];omega
 have he:x - 1+1=x:=by omega
 clear h2 h3 hx hl hk hs;go_enter func261,ntmps261;go_wp2_with fail;refine C1.mono ?_;rintro e w1 ⟨rfl,z⟩;have Q:=Zd z;clear z C1;go_wp2;go_ret;exact⟨by simp,Za Q⟩
theorem Nj(q d:Nat)(K)(w:World)(hE:Env w)(hq:w.cell? ⟨q,0,none⟩=some (cU (some ⟨d,0,none⟩)))(hK:KAt w d K) :
  Dh 262 #[cU (some ⟨q,0,none⟩)] w (λx=>!knT K x) where
 enters:=enters_of (fn:=Tryz.f262) (by kernel_rfl) (by kernel_rfl) rfl
 call V hV th ai ao ni ci no co I O hI hO sI sO:=by
  obtain⟨X,hX⟩:=ZG (V.alloc (cR #[E J th,F ai ni ci,F ao no co] 59));have Q:ZD V X:=by rw[hX];exact Zh _ _
  have z:X.heap[V.heap.size]? = some (cR [E J th,F ai ni ci,F ao no co].toArray 59 (0,0)):=by rw[hX];exact Zv _ _ _ _ _
  have ae:=Zf hV Q;obtain⟨x1,af⟩:=ZF (Zw (th,I,O));obtain⟨T,hT⟩:=ZF (txT (th,I,O));obtain⟨y,hy⟩:=ZF ((Bk.place T K:Int));have C1:=Zd (Gs th ai ao ni ci no co I O T x1 X (hE.later ae) (hI.later Q) (hO.later Q) sI af hT);have C2:=Zd (λU (hu:ZD w U)=>Mj d T K y U (hK.later hu) hy)
  have HG:Hid ((!knT K (th,I,O))=(decide (x1≠0) || decide (y=0))):=by
   show _=_;unfold knT;rw[af,hT,<-hy];by_cases e:x1=0
   ·simp[e]
   ·simp[e]
  show Calls _ _ _ _ (λe w'=>e = cS (cV (!knT K (th,I,O)))/\_);rw[Za HG];have t0:=Zb z 0 _ rfl;have t1:=Zb z 1 _ rfl;have t2:=Zb z 2 _ rfl;have tl:=lt_of_block z;have HB:=Zd Q;have am:=Zd ae;have HQ:=Zd hq;clear hE hq hK hV hI hO sI sO Q z ae af hT hy HG;go_enter func262,ntmps262;go_wp2_with fail;rw[<-hX];clear hX;(try go_wp2_with fail);refine C1.mono ?_;rintro e w1 ⟨rfl,ac⟩;have ak:=Zd (Zf HB ac);have C3:=Zd (C2 w1 (Zf am ac));have q1:=Ze (Zf am ac) HQ;have ql:=aD _ _ q1;clear ac C1 C2 t0 t1 t2 tl;by_cases e1:x1=0
  ·subst e1;go_wp2_with fail;refine C3.mono ?_;rintro e w2 ⟨rfl,an⟩;have aq:=Zd (Zf ak an);clear an C3;go_wp2;go_ret;exact⟨by cases h:decide (y=0) <;> simp_all,Za aq⟩
  ·have gx:(x1 != 0)=true:=(by simp[e1]);go_wp2;go_ret;exact⟨by simp[e1],Za ak⟩
theorem Zap(K):∀ (L:List TxD),(!(L.any λx=>!knT K x))=L.all (knT K)
 | []=>rfl
 | t :: L=>by
  rw[List.any_cons,List.all_cons,<-Zap K L];cases knT K t <;> simp
theorem Ml(d K a n c)(L:List TxD)(o:Bool)(w:World)(hE:Env w)(hK:KAt w d K)(hL:TxsAt w a n L)(hn:n<=cH)(ho:L.all (knT K)=o) :
  ZH 217 #[cU (some ⟨d,0,none⟩),F a n c] w (cV o):=by
 obtain⟨X,Q⟩:=ZG (w.alloc (cR #[cU (some ⟨d,0,none⟩)] 181));have z:ZD w X:=by rw[Q];exact Zh _ _
 have ab:X.heap[w.heap.size]? = some (cR [cU (some ⟨d,0,none⟩)].toArray 181 (0,0)):=by rw[Q];exact Yq _ _ _
 have C1:=Zd (Ro _ _ _ a n c L (!o) X (Nj w.heap.size d K X (hE.later z) (Zb ab 0 _ rfl) (hK.later z)) (hL.later z) hn (by rw[<-ho,<-Zap,Bool.not_not]));have HB:=Zd z;clear hE hK hL hn ho z ab;go_enter func217,ntmps217;go_wp2_with fail;rw[<-Q];clear Q;(try go_wp2_with fail);refine C1.mono ?_;rintro e w1 ⟨rfl,hb⟩;have ag:=Zd (Zf HB hb);clear hb C1;go_wp2;go_ret;exact⟨by simp,Za ag⟩
theorem Zcx(d K)(s p h k o:Int)(a m c T)(y:Bool)(w:World)(hE:Env w)(hK:KAt w d K)(hT:TxsAt w a m T)(sT:SlOk a m c)(hy:kbD K s (p,h,k,o,T)=y) :
  ZH 216 #[cU (some ⟨d,0,none⟩),E J s,.agg #[E J p,E J h,E J k,E J o,F a m c]] w (cV y):=by
 obtain⟨X,hX⟩:=ZG (w.alloc (cR #[E J p,E J h,E J k,E J o,F a m c] 39));have ad:ZD w X:=by rw[hX];exact Zh _ _
 have z:X.heap[w.heap.size]? = some (cR [E J p,E J h,E J k,E J o,F a m c].toArray 39 (0,0)):=by rw[hX];exact Zx _ _ _ _ _ _ _
 obtain⟨x1,al⟩:=ZF (Ym (p,h,k,o,T));obtain⟨t,ht⟩:=ZF (Bf (p,h,k,o,T));obtain⟨bs,hz⟩:=ZF ((Bk.place t K:Int));obtain⟨g,hg⟩:=ZF (T.all (knT K));have C1:=Zd (Bg p h k o a m c T t x1 X (hE.later ad) (hT.later ad) al ht);have C2:=Zd (λU (Q:ZD w U)=>Mj d t K bs U (hK.later Q) hz);have C3:=Zd (λU (Q:ZD w U)=>Ml d K a m c T g U (hE.later Q) (hK.later Q) (hT.later Q) sT.len hg)
 have HY:Hid ((decide (x1=0) && (decide (bs=s) && g))=y):=by
  show _=_;rw[<-hy];unfold kbD;rw[al,ht,hz];simp only;rw[hg]
 have HB:=Zd ad;have bg:=Zd z;have e0:=Zb z 0 _ rfl;have e1:=Zb z 1 _ rfl;have e2:=Zb z 2 _ rfl;have e3:=Zb z 3 _ rfl;have e4:=Zb z 4 _ rfl;have el:=lt_of_block z;clear hE hK hT sT hy ad z al ht hz hg;go_enter func216,ntmps216;go_wp2_with fail;rw[<-hX];clear hX;(try go_wp2_with fail);refine C1.mono ?_;rintro e w1 ⟨rfl,ab⟩;have ag:=Zd (Zf HB ab);have be:=Zd ab;have D2:=Zd (C2 w1 (Zf HB ab));clear ab C1 C2 e0 e1 e2 e3 e4 el;by_cases q1:x1=0
 ·subst q1;go_wp2_with fail;refine D2.mono ?_;rintro e w2 ⟨rfl,ac⟩;have ax:=Zd (Zf ag ac);have D3:=Zd (C3 w2 (Zf ag ac));have h2:=ZE (Zf be ac) bg;have e4:=Zb h2 4 _ rfl;have el:=lt_of_block h2;clear ac D2 C3 h2;by_cases q2:bs=s
  ·subst q2;go_wp2_with fail;refine D3.mono ?_;rintro e w3 ⟨rfl,bb⟩;have bf:=Zd (Zf ax bb);clear bb D3;go_wp2;go_ret;exact⟨by rw[<-Za HY];simp,Za bf⟩
  ·have gz:(bs == s)=false:=(by simp[q2]);go_wp2;go_ret;exact⟨by rw[<-Za HY];simp[q2],Za ax⟩
 ·have gx:(x1 == 0)=false:=by simp[q1]
  go_wp2;go_ret;exact⟨by rw[<-Za HY];simp[q1],Za ag⟩
namespace Tr
open Go.RowKit
def blockE(N:List Int)(T:List Zl)(s:Int):Zl×Int:=
 if chkTr N T≠0 then (Yf,chkTr N T) else if decide (s∈N)=true then (fnd s N T,0) else (Yf,5)
theorem fnd_at{N:List Int}{T:List Zl}{s:Int}(z:N.length=T.length)(h:s∈N):fnd s N T∈T:=by
 rcases Tw s N T 0 z with ⟨_,q,_⟩|⟨i,hi,_,_,q⟩
 ·exact absurd h q
 ·rw[q];exact List.getElem_mem hi
def Ziz(w w':World)(x:Zl)(y:Int)(e:Ending):Prop:=
 ∃ z Q tc,e = cS (cT #[.agg #[E J x.1,E J x.2.1,E J x.2.2.1,E J x.2.2.2.1,F z Q tc],E J y])/\TxsAt w' z Q x.2.2.2.2/\SlOk z Q tc/\ZD w w'
theorem La{w w':World}{y:Int}(z:ZD w w'):Ziz w w' Yf y (cS (cT #[.agg #[E J 0,E J 0,E J 0,E J 0,F none 0 0],E J y])):=
 ⟨none,0,0,rfl,RowsAt.nil _ _,⟨Nat.le_refl _,aM _,λ_=>⟨rfl,rfl⟩⟩,z⟩
theorem box5_gr(W:World)(t:Nat)(a b c d e):Gr W (((((W.setCell ⟨t,0,none⟩ a).setCell ⟨t,1,none⟩ b).setCell ⟨t,2,none⟩ c).setCell ⟨t,3,none⟩ d).setCell ⟨t,4,none⟩ e) (λq=>q=t):=
 (((((Gr.refl W (λq=>q=t)).one t 0 (.inl rfl) _).one t 1 (.inl rfl) _).one t 2 (.inl rfl) _).one t 3 (.inl rfl) _).one t 4 (.inl rfl) _
theorem block_is(a b n c m d N T)(s:Int)(x:Zl)(y:Int)(w)(hN:IntsAt w a n N)(hT:BlksAt w b m T)(sN:SlOk a n c)(sT:SlOk b m d)(hx:blockE N T s=(x,y)) :
  Calls aA 20 #[.agg #[F a n c,F b m d],E J s] w λe w'=>Ziz w w' x y e:=by
 obtain⟨X,hX⟩:=ZG ((w.alloc (cR #[F a n c,F b m d] 28)).alloc (cR #[E J 0,E J 0,E J 0,E J 0,F none 0 0] 39));have ad:ZD w X:=by rw[hX];exact Zf (Zh _ _) (Zh _ _)
 have ae:X.heap[w.heap.size]? = some (cR [F a n c,F b m d].toArray 28 (0,0)):=by rw[hX,Below.heap_alloc _ _ _ (by simp)];exact Yu _ _ _ _
 have av:X.heap[w.heap.size+1]? = some (cR [E J 0,E J 0,E J 0,E J 0,F none 0 0].toArray 39 (0,0)):=by
  rw[hX];have:=Zx (w.alloc (cR #[F a n c,F b m d] 28)) (E J 0) (E J 0) (E J 0) (E J 0) (F none 0 0) 39;rw[show (w.alloc (cR #[F a n c,F b m d] 28)).heap.size=w.heap.size+1 by simp] at this;exact this
 have HB:=Zd ad;have ce:=Zd ae;have bf:=Zd av;obtain⟨dq,hz⟩:=ZF (chkTr N T);have C1:=Zd (Ve a b n c m d N T dq X (hN.later ad) (hT.later ad) sN sT hz);have x0:=Zb ae 0 _ rfl;have x1:=Zb ae 1 _ rfl;have xl:=lt_of_block ae;unfold blockE at hx;rw[hz] at hx;by_cases q:dq=0
 ·subst q;rw[if_neg (by simp)] at hx;obtain⟨hl,h24,hH,bo⟩:=Xy hz;obtain rfl:n=m:=by rw[<-hN.1,<-hT.1,hl]
  have az:n<=cH:=sN.len;obtain⟨o,ho⟩:=ZF (decide (s∈N));rw[ho] at hx;have C2:=Zd (λW (hb:ZD X W)=>Kc a b n c n d N s o W az (hN.later (Zf ad hb)) ho);cases o with
  | false=>
   rw[if_neg (by simp)] at hx;obtain⟨rfl,rfl⟩:Yf=x/\5=y:=⟨congrArg Prod.fst hx,congrArg Prod.snd hx⟩;clear ad ae av hN hT sN sT hz hx hl h24 hH bo ho az;go_enter func20,ntmps20;go_wp2_with fail;rw[<-hX];clear hX;refine C1.mono ?_;rintro e w1 ⟨rfl,Q⟩;have CC:=Zd (C2 _ Q);have hc:=ZE Q ce;have aj:=ZE Q bf;have H0:=Zd hc;have H1:=Zd aj;have t0:=Zb hc 0 _ rfl;have t1:=Zb hc 1 _ rfl;have tl:=lt_of_block hc;have cb:=Zd Q;have ah:=Zd (Zf HB Q);clear Q x0 x1 xl hc aj C1 C2;go_wp2_with fail;refine CC.mono ?_;rintro e w2 ⟨rfl,ac⟩;have z:=ZE ac H1;have z0:=Zb z 0 _ rfl;have f0:=Zg z 0;have z1:=Zb z 1 _ rfl;have f1:=Zg z 1;have z2:=Zb z 2 _ rfl;have f2:=Zg z 2;have z3:=Zb z 3 _ rfl;have f3:=Zg z 3;have z4:=Zb z 4 _ rfl;have f4:=Zg z 4;have zl:=lt_of_block z;clear z;have be:=Zd (Zf ah ac);clear ac t0 t1 tl;go_wp2;(try simp only[Exit.inBlock,Exit.then]);refine aW (v:=cT #[.agg #[E J 0,E J 0,E J 0,E J 0,F none 0 0],E J 5]) ?_ rfl (La ?_)
   ·rw[Zo rfl];go_simp
   ·exact (box5_gr _ _ _ _ _ _ _).below be (by omega) (λk hk=>by omega)
  | true=>
   rw[if_pos rfl] at hx;obtain⟨bj,rfl⟩:fnd s N T=x/\0=y:=⟨congrArg Prod.fst hx,congrArg Prod.snd hx⟩;have cp:x∈T:=(by rw[<-bj];exact fnd_at hl (by simpa using ho));have cq:=blk_small (chkGo_blks N T [] [] hl bo x cp);have C3:=Zd (λW (hb:ZD X W)=>T3 a b n c d N T s x W az (hN.later (Zf ad hb)) (hT.later (Zf ad hb)) bj);have cd:=Zd cq;clear ad ae av hN hT sN sT hz hx hl h24 hH bo ho az bj cp cq;obtain⟨p,h,k,r,L⟩:=x;go_enter func20,ntmps20;go_wp2_with fail;rw[<-hX];clear hX;refine C1.mono ?_;rintro e w1 ⟨rfl,Q⟩;have CC:=Zd (C2 _ Q);have hc:=ZE Q ce;have aj:=ZE Q bf;have H0:=Zd hc;have H1:=Zd aj;have t0:=Zb hc 0 _ rfl;have t1:=Zb hc 1 _ rfl;have tl:=lt_of_block hc;have cb:=Zd Q;have ah:=Zd (Zf HB Q);clear Q x0 x1 xl hc aj C1 C2;go_wp2_with fail;refine CC.mono ?_;rintro e w2 ⟨rfl,ac⟩;have C4:=Zd (C3 _ (Zf cb ac));have ay:=ZE ac H0;have z:=ZE ac H1;have HD:=Zd z;have u0:=Zb ay 0 _ rfl;have u1:=Zb ay 1 _ rfl;have ul:=lt_of_block ay;have dd:=Zd (Zf ah ac);clear ac ay z t0 t1 tl CC C3;go_wp2_with fail;refine C4.mono ?_;rintro e w3 ⟨ta,tn,tc,rfl,hL,sL,ax⟩;have hL:TxsAt w2 ta tn L:=hL;have C5:=Zd (clBlock_is p h k r ta tn tc L w3 (hL.later ax) sL (by rw[<-hL.1];exact cd.1) cd.2);have z:=ZE ax HD;have cc:=Zd z;have de:=Zd (Zf dd ax);have dl:=Zd hL.1;clear ax z hL sL u0 u1 ul C4;unfold Jw;go_wp2_with fail;refine C5.mono ?_;rintro e w4 ⟨a',c',rfl,hf,bi⟩;have z:=ZE bi cc;have z0:=Zb z 0 _ rfl;have f0:=Zg z 0;have z1:=Zb z 1 _ rfl;have f1:=Zg z 1;have z2:=Zb z 2 _ rfl
   have f2:=Zg z 2;have z3:=Zb z 3 _ rfl;have f3:=Zg z 3;have z4:=Zb z 4 _ rfl;have f4:=Zg z 4;have zl:=lt_of_block z;clear z;have hg:=box5_gr w4 (w.heap.size+1) (E J p) (E J h) (E J k) (E J r) (F a' tn c');have di:=lt_of_block cc;have HW:=Zd (hf _ (hg.mono λq _ e=>by omega));have be:Hid (ZD w (((((w4.setCell ⟨w.heap.size+1,0,none⟩ (E J p)).setCell ⟨w.heap.size+1,1,none⟩ (E J h)).setCell ⟨w.heap.size+1,2,none⟩ (E J k)).setCell ⟨w.heap.size+1,3,none⟩ (E J r)).setCell ⟨w.heap.size+1,4,none⟩ (F a' tn c'))):=hg.below (Zf de bi) (by omega) (λk hk=>by omega);clear bi hf hg di C5;go_wp2;(try simp only[Exit.inBlock,Exit.then]);refine aW (v:=cT #[.agg #[E J p,E J h,E J k,E J r,F a' tn c'],E J 0]) ?_ rfl ?_
   ·rw[Zo rfl];go_simp
   ·obtain⟨a2,n2,c2,e2,f1,f2⟩:=Za HW;cases e2;exact⟨_,_,_,rfl,f1,f2,Za be⟩
 ·rw[if_pos q] at hx;obtain⟨rfl,rfl⟩:Yf=x/\dq=y:=⟨congrArg Prod.fst hx,congrArg Prod.snd hx⟩;have g:(dq != 0)=true:=by simp[q]
  clear ad ae av hN hT sN sT hz hx q;go_enter func20,ntmps20;go_wp2_with fail;rw[<-hX];clear hX;refine C1.mono ?_;rintro e w1 ⟨rfl,Q⟩;have z:=ZE Q bf;have z0:=Zb z 0 _ rfl;have f0:=Zg z 0;have z1:=Zb z 1 _ rfl;have f1:=Zg z 1;have z2:=Zb z 2 _ rfl;have f2:=Zg z 2;have z3:=Zb z 3 _ rfl;have f3:=Zg z 3;have z4:=Zb z 4 _ rfl;have f4:=Zg z 4;have zl:=lt_of_block z;clear z;have ah:=Zd (Zf HB Q);clear Q x0 x1 xl C1;go_wp2;(try simp only[Exit.inBlock,Exit.then]);refine aW (v:=cT #[.agg #[E J 0,E J 0,E J 0,E J 0,F none 0 0],E J dq]) ?_ rfl (La ?_)
  ·rw[Zo rfl];go_simp
  ·exact (box5_gr _ _ _ _ _ _ _).below ah (by omega) (λk hk=>by omega)
end Tr
open Go.RowKit
def Lj(w:World)(q:Nat):Prop:=(∀ (j:Nat) (i z:Int),w.cell? ⟨q,j,none⟩=some (E J i)->w.cell? ⟨q,j+1,none⟩=some (E J z)->False)/\∀ (j:Nat) (s:ByteArray),w.cell? ⟨q,j,none⟩≠some (.string s)
theorem Co{w:World}{q:Nat}{z:Array MapEntry}{c:Nat}(h:w.heap[q]? = some (.map z c)):Lj w q:=by
 refine⟨λj i Q h1 _=>?_,λj s h1=>?_⟩ <;> simp[bD,h] at h1
theorem Fv{w:World}{q:Nat}{a b c d n1 c1 n2 z n3 Q n4 c4}{t:Int}{m:Option Nat}{ty:TypeId}(h:w.heap[q]? = some (cR [F a n1 c1,F b n2 z,F c n3 Q,F d n4 c4,E J t,.map m].toArray ty (0,0))):Lj w q:=by
 refine⟨λj i i' h1 h2=>?_,λj s h1=>?_⟩
 ·match j with
  | 0=>simp[bD,h] at h1
  | 1=>simp[bD,h] at h1
  | 2=>simp[bD,h] at h1
  | 3=>simp[bD,h] at h1
  | 4=>simp[bD,h] at h2
  | 5=>simp[bD,h] at h1
  | j+6=>simp[bD,h] at h1
 ·match j with
  | 0=>simp[bD,h] at h1
  | 1=>simp[bD,h] at h1
  | 2=>simp[bD,h] at h1
  | 3=>simp[bD,h] at h1
  | 4=>simp[bD,h] at h1
  | 5=>simp[bD,h] at h1
  | j+6=>simp[bD,h] at h1
theorem Zmj{w w'}{S:Nat->Prop}(g:Gr w w' S)(Q:∀ q,S q->Lj w q){a n l}(h:OpsAt w a n l):OpsAt w' a n l:=by
 refine⟨h.1,λh0=>?_⟩;obtain⟨b,off,rfl,hc⟩:=h.2 h0;refine⟨b,off,rfl,λi hi=>?_⟩;obtain⟨c0,c1⟩:=hc i hi;have z:¬S b:=λq=>(Q b q).1 _ _ _ c0 c1;exact⟨g.cell c0 z,g.cell c1 z⟩
theorem Zia{w w'}{S:Nat->Prop}(g:Gr w w' S)(Q:∀ q,S q->Lj w q){a n C}(h:CoinsAt w a n C):CoinsAt w' a n C:=by
 refine⟨h.1,λh0=>?_⟩;obtain⟨b,off,rfl,hl,hc⟩:=h.2 h0;refine⟨b,off,rfl,aC hl g.size,λi hi=>?_⟩;obtain⟨c0,c1,c2,⟨la,ln,lc,c3,h5,h6⟩,c4,c5⟩:=hc i hi;have z:¬S b:=λq=>(Q b q).1 _ _ _ c0 c1;exact⟨g.cell c0 z,g.cell c1 z,g.cell c2 z,⟨la,ln,lc,g.cell c3 z,Zmj g Q h5,h6⟩,g.cell c4 z,g.cell c5 z⟩
def Py(β : Int->List Zj)(s:Int)(C:List Zj):Int->List Zj:=λx=>if x=s then C else β x
structure Jx(w:World)(ka:Option Addr)(kn:Nat)(K:List ByteArray)(na:Option Addr)(nn:Nat)(N:List Int)(ba:Option Addr)(bn:Nat)(T:List Zl)(pa:Option Addr)(pn:Nat)(P:List TxD):Prop where
 k:Bk.TextsAt w ka kn K
 n:Tr.IntsAt w na nn N
 b:Tr.BlksAt w ba bn T
 p:TxsAt w pa pn P
def Ziy(w:World)(f:Int->Value)(β : Int->List Zj):Prop:=∀ x,∃ a m c,f x = F a m c/\CoinsAt w a m (β x)/\SlOk a m c
structure DeskAt(Z:Nat->Prop)(w:World)(d bm m:Nat)(ka:Option Addr)(kn kc:Nat)(K:List ByteArray)(na:Option Addr)(nn nc:Nat)(N:List Int)(ba:Option Addr)(bn bc:Nat)(T:List Zl)(pa:Option Addr)(pn pc:Nat)(P:List TxD)(tip:Int)(f:Int->Value)(β : Int->List Zj):Prop where
 box:w.heap[d]? = some (cR [F ka kn kc,F na nn nc,F ba bn bc,F pa pn pc,E J tip,.map (some bm)].toArray 254 (0,0))
 dat:∀ W,Gr w W (λq=>q=d\/q=bm\/Z q)->Jx W ka kn K na nn N ba bn T pa pn P
 coi:∀ W,Gr w W (λq=>q=d\/q=bm)->Ziy W f β
 sk:SlOk ka kn kc
 sn:SlOk na nn nc
 sb:SlOk ba bn bc
 sp:SlOk pa pn pc
 mp:BMap bm m f w
 ne:d≠bm
 zb:∀ q,Z q->q<w.heap.size
section
variable {Z : Nat -> Prop} {w w' : World} {d bm m : Nat} {ka na ba pa : Option Addr} {kn kc nn nc bn bc pn pc : Nat} {K : List ByteArray} {N : List Int} {T : List Zl} {P : List TxD} {tip : Int} {f : Int -> Value} {β : Int -> List Zj}
theorem DeskAt.now(h:DeskAt Z w d bm m ka kn kc K na nn nc N ba bn bc T pa pn pc P tip f β):Jx w ka kn K na nn N ba bn T pa pn P:=h.dat w (Gr.refl _ _)
theorem DeskAt.c(h:DeskAt Z w d bm m ka kn kc K na nn nc N ba bn bc T pa pn pc P tip f β):Ziy w f β:=h.coi w (Gr.refl _ _)
theorem DeskAt.later(h:DeskAt Z w d bm m ka kn kc K na nn nc N ba bn bc T pa pn pc P tip f β)(z:ZD w w'):DeskAt Z w' d bm m ka kn kc K na nn nc N ba bn bc T pa pn pc P tip f β:=
 ⟨(z.block d (lt_of_block h.box)).trans h.box,λW g=>h.dat W ((Gr.of z).trans g),λW g=>h.coi W ((Gr.of z).trans g),h.sk,h.sn,h.sb,h.sp,h.mp.keep z,h.ne,λq e=>aC (h.zb q e) z.size⟩
theorem DeskAt.np(h:DeskAt Z w d bm m ka kn kc K na nn nc N ba bn bc T pa pn pc P tip f β)(q:Nat)(hq:q=d\/q=bm):Lj w q:=by
 rcases hq with rfl|rfl
 ·exact Fv h.box
 ·obtain⟨Q,c,z⟩:=h.mp.isMap;exact Co z
theorem DeskAt.book(h:DeskAt Z w d bm m ka kn kc K na nn nc N ba bn bc T pa pn pc P tip f β):KAt w d K:=⟨ka,kn,kc,Zb h.box 0 _ rfl,h.now.k,h.sk,lt_of_block h.box⟩
theorem DeskAt.put(h:DeskAt Z w d bm m ka kn kc K na nn nc N ba bn bc T pa pn pc P tip f β){W:World}(hb:ZD w W){s:Int}{a n c C}(Q:CoinsAt W a n C)(sC:SlOk a n c)
  (hm:BMap bm (m+1) (λy=>if y=s then F a n c else f y) w') (hg:W.grownBy w' (some bm)):DeskAt Z w' d bm (m+1) ka kn kc K na nn nc N ba bn bc T pa pn pc P tip (λy=>if y=s then F a n c else f y) (Py β s C):=by
 have h2:=h.later hb;have g:Gr W w' (λq=>q=bm):=(Gr.refl W (λq=>q=bm)).grown hg (λq e=>.inl (by injection e with e;exact e.symm));have g2:Gr W w' (λq=>q=d\/q=bm):=g.mono (λq _ e=>.inr e);refine⟨g.heap h2.box h.ne,λV z=>h2.dat V ((g.mono (λq _ e=>.inr (.inl e))).trans z),λV z=>?_,h.sk,h.sn,h.sb,h.sp,hm,h.ne,λq e=>aC (h2.zb q e) g.size⟩;have D:=h2.coi V (g2.trans z);intro x;unfold Py;by_cases e:x=s
 ·simp only[if_pos e];exact⟨a,n,c,rfl,Zia (g2.trans z) (λq hq=>h2.np q hq) Q,sC⟩
 ·simp only[if_neg e];exact D x
theorem DeskAt.widen(h:DeskAt Z w d bm m ka kn kc K na nn nc N ba bn bc T pa pn pc P tip f β)(z:ZD w w')(r:Nat)(Q:w.heap.size<=r)(aa:r<w'.heap.size):DeskAt (λq=>Z q\/q=r) w' d bm m ka kn kc K na nn nc N ba bn bc T pa pn pc P tip f β:=by
 have h2:=h.later z;refine⟨h2.box,λW g=>h.dat W ((Gr.of z).far g (λq e=>?_)),h2.coi,h2.sk,h2.sn,h2.sb,h2.sp,h2.mp,h2.ne,λq e=>?_⟩
 ·rcases e with e|e|e|e
  ·exact .inr (.inl e)
  ·exact .inr (.inr (.inl e))
  ·exact .inr (.inr (.inr e))
  ·exact .inl (e ▸ Q)
 ·rcases e with e|e
  ·exact h2.zb q e
  ·exact e ▸ aa
end
def Wd:List TxD->List TxD->Bool
 | [],[]=>true
 | x :: r,y :: q=>Vq x y && Wd r q
 | _,_=>false
theorem G8(x y):Vq x y=true↔x=y:=by
 obtain⟨a,b,c⟩:=x;obtain⟨d,e,f⟩:=y;unfold Vq;simp
theorem Ql:∀ (l k:List TxD),Wd l k=true↔l=k
 | [],[]=>by simp[Wd]
 | [],y :: q=>by simp[Wd]
 | x :: r,[]=>by simp[Wd]
 | x :: r,y :: q=>by rw[Wd,Bool.and_eq_true,G8,Ql r q,List.cons.injEq]
theorem Sk{l k}(h:l≠k):Wd l k=false:=by
 rw[<-Bool.not_eq_true,Ql];exact h
theorem Rx{l k}(h:l=k):Wd l k=true:=(Ql l k).2 h
theorem Zdv(a b)(n m c d:Nat)(v w)(h:n≠m) :
  Calls aA 29 #[F a n c,F b m d,v] w λe w'=>e = cS (cV false)/\w=w':=by
 have g:((n:Int) != (m:Int))=true:=by simp;omega
 clear h;go_enter func29,ntmps29;go_wp2;go_ret;exact⟨rfl,rfl⟩
theorem Zdu(a b c d v w) :
  Calls aA 29 #[F a 0 c,F b 0 d,v] w λe w'=>e = cS (cV true)/\w=w':=by
 go_enter func29,ntmps29;go_wp2;refine wp_loop_rounds 1 ?_;rw[bF];go_wp2;go_ret;exact⟨rfl,rfl⟩
theorem Zdt(b1 o1 b2 o2 n c d:Nat)(l k:List TxD)(o:Bool)(w:World)(hn:n<=cH)(z1:l.length=n)(z2:k.length=n)
  (h1:∀ i (h:i<l.length),TxAt w b1 (o1+i*3) l[i]) (h2:∀ i (h:i<k.length),TxAt w b2 (o2+i*3) k[i]) (ho:Wd l k=o) :
  ZH 29 #[F (some ⟨b1,o1,none⟩) n c,F (some ⟨b2,o2,none⟩) n d,.func (.func 30) #[] #[]] w (cV o):=by
 subst ho;unfold cH at hn;have H1:=Zd h1;have H2:=Zd h2;have Z1:=Zd z1;have Z2:=Zd z2;clear h1 h2 z1 z2;go_enter func29,ntmps29;go_wp2
 go_loopw [17] (λi wr=>∃ j:Nat,j<=n/\i = E J j/\ZD w wr/\Hid (l.take j=k.take j)) (λi _=>n - (intOf i).toNat)
 case atStart=>exact⟨0,aM _,rfl,Below.refl _ _,rfl⟩
 case round=>
  obtain⟨j,hk,rfl,hb,A⟩:=hrel;have HB:=Zd hb;by_cases bh:j<n
  ·have al:j<l.length:=(by rw[Za Z1];exact bh);have am:j<k.length:=(by rw[Za Z2];exact bh);have g:=TxAt.kept _ _ _ _ _ hb (H1 j al);have f:=TxAt.kept _ _ _ _ _ hb (H2 j am);have TS:=Zd (U5 al am A);have TU:=Zd (Vf al am);obtain⟨q,hq⟩:=ZF (l[j]);obtain⟨r,hr⟩:=ZF (k[j]);rw[hq] at g;rw[hr] at f;rw[hq,hr] at TS TU;obtain⟨q1,I,O⟩:=q;obtain⟨r1,I',O'⟩:=r;obtain⟨g0,⟨ai,ni,ci,g1,gI,sI⟩,ao,no,co,g2,gO,sO⟩:=g;obtain⟨f0,⟨bi,mi,di,f1,fI,_⟩,bo,mo,eo,f2,fO,_⟩:=f;simp only at g0 g1 g2 f0 f1 f2 gI gO fI fO;have z:=Zf (Zh wr (cR #[E J q1,F ai ni ci,F ao no co] 59)) (Zh _ (cR #[E J r1,F bi mi di,F bo mo eo] 59));obtain⟨o',Q⟩:=ZF (Vq (q1,I,O) (r1,I',O'));have HC:=Zd (L5 q1 r1 ai ao bi bo ni ci no co mi di mo eo I I' O O' o' _ sI.len sO.len (gI.later z) (gO.later z) (fI.later z) (fO.later z) Q);have au:=Zd (Zf HB z);have cg:b2<wr.heap.size:=aD _ _ f0;have cf:(j:Int)<(n:Int):=(by omega);clear hb z gI gO fI fO sI sO hq hr A;cases o' with
   | true=>
    have T:=Zd (TS ((G8 _ _).1 Q));clear TS TU Q;go_wp2_with fail;refine HC.mono ?_;rintro e w2 ⟨rfl,ab⟩;have ae:=Zd (Zf au ab);clear ab;go_wp2;go_roundw
    case rel=>exact⟨j+1,by omega,by go_num,Za ae,T⟩
    case measure=>simp[intOf];omega
   | false=>
    have U:Hid (Wd l k=false):=Sk (TU (λe=>by rw[(G8 _ _).2 e] at Q;cases Q));clear TS TU Q;go_wp2_with fail;refine HC.mono ?_;rintro e w2 ⟨rfl,ab⟩;have ae:=Zd (Zf au ab);clear ab;go_wp2;go_ret;exact⟨by rw[Za U];rfl,Za ae⟩
  ·have U:Hid (Wd l k=true):=by
    have h:=Za A;rw[aN (by rw[Za Z1];omega),aN (by rw[Za Z2];omega)] at h;exact Rx h
   clear A hb;go_wp2;go_ret;exact⟨by rw[Za U];rfl,Za HB⟩
theorem Aj(a b)(n m c d:Nat)(l k)(o:Bool)(w:World)(hn:n<=cH)(Q:TxsAt w a n l)(hB:TxsAt w b m k)(z:Wd l k=o) :
  ZH 29 #[F a n c,F b m d,.func (.func 30) #[] #[]] w (cV o):=by
 by_cases h:n=m
 ·subst h;by_cases h0:n=0
  ·subst h0;have e1:l=[]:=aG.1 Q.1;have e2:k=[]:=aG.1 hB.1;subst e1 e2;rw[Rx rfl] at z;subst z;exact (Zdu a b c d _ w).mono λe w' ⟨h1,h2⟩=>⟨h1,h2 ▸ Below.refl _ _⟩
  ·obtain⟨b1,o1,rfl,_,h1⟩:=Q.2 (by omega);obtain⟨b2,o2,rfl,_,h2⟩:=hB.2 (by omega);exact Zdt b1 o1 b2 o2 n c d l k o w hn Q.1 hB.1 h1 h2 z
 ·have e:l≠k:=λe=>h (by rw[<-Q.1,<-hB.1,e]);rw[Sk e] at z;subst z;exact (Zdv a b n m c d _ w h).mono λe w' ⟨h1,h2⟩=>⟨h1,h2 ▸ Below.refl _ _⟩
theorem Tryz.underHead:Tryz.prog.underlying 187=some (.array 4 3):=by kernel_rfl
theorem Zde(p h k n pp Q kk nn:Int)(W):(binOp .eql 187 (.agg #[E J p,E J h,E J k,E J n]) (.agg #[E J pp,E J Q,E J kk,E J nn])).run aA W = .ok (cV ((p == pp) && ((h == Q) && ((k == kk) && (n == nn))))) W:=by
 obtain⟨i0,hi,_,_,_⟩:=info_parts Tryz.infoInt;have hk:Tryz.prog.plainKey 3=true:=by kernel_rfl
 have hc:Tryz.prog.cellsOf 3=1:=by kernel_rfl
 have p0:∀ (x y z u:Int),(part 3 #[E J x,E J y,E J z,E J u] 0).run aA W = .ok (E J x) W:=λx y z u=>run_part_plain W hk rfl;have p1:∀ (x y z u:Int),(part 3 #[E J x,E J y,E J z,E J u] 1).run aA W = .ok (E J y) W:=λx y z u=>run_part_plain W hk rfl;have p2:∀ (x y z u:Int),(part 3 #[E J x,E J y,E J z,E J u] 2).run aA W = .ok (E J z) W:=λx y z u=>run_part_plain W hk rfl;have p3:∀ (x y z u:Int),(part 3 #[E J x,E J y,E J z,E J u] 3).run aA W = .ok (E J u) W:=λx y z u=>run_part_plain W hk rfl;have q:∀ (a b:Int),(Op.equalIn 9999 3 (E J a) (E J b)).run aA W = .ok (a == b) W:=λa b=>run_equalIn_int W 9998 3 .i64 .i64 a b underlying3
 have e:(Op.equalIn 10000 187 (.agg #[E J p,E J h,E J k,E J n]) (.agg #[E J pp,E J Q,E J kk,E J nn])).run aA W = .ok ((p == pp) && ((h == Q) && ((k == kk) && (n == nn)))) W:=by
  rw[show (10000:Nat)=9999+1 from rfl,run_equalIn_array W 9999 _ _ Tryz.underHead hi,hc,show List.range 4=[0,1,2,3] from rfl];simp only[Op.eqItems,Sem.run_bind,Nat.mul_one,p0,Result.andThen_ok,q];by_cases e1:p=pp <;> by_cases e2:h=Q <;> by_cases e3:k=kk <;> by_cases e4:n=nn <;> simp[p1,p2,p3,q,e1,e2,e3,e4]
 rw[run_eql_struct,e];rfl
