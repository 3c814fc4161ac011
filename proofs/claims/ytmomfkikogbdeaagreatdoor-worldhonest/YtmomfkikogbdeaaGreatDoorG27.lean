import Derived.Test.YtmomfkikogbdeaaGreatDoorH
import Derived.Test.YtmomfkikogbdeaaGreatDoorG26
open Go.Proofs.Tryz
open Go renaming maxLen->cW,rounds_succ->bD,lt_of_block->aA,bodyPost_ret->aW
open Go.Ending renaming returned->dA
open Go.IntKind renaming i64->J
open Go.Obj renaming cells->cZ
open Go.Proofs.Tryz renaming prog->aB
open Go.Value renaming int->E,slice->F,tuple->dB,pointer->dC,bool->dD
open Go.World renaming block_lt_of_cell?->aE,cell?->bF
open List renaming take_succ_eq_append_getElem->aS,take_of_length_le->aV,length_eq_zero_iff->aP,drop_eq_getElem_cons->aI
open Nat renaming le_refl->aF,zero_le->aL,lt_of_lt_of_le->aD
set_option maxHeartbeats 6400000
set_option maxRecDepth 10000
namespace Go.Proofs.YtmomfkikogbdeaaGreatDoor
open Go.RowKit
theorem Ex(w:World)(n:Nat):ZD w (w.drewN n):=⟨rfl,rfl,rfl,aF _,λ_ _=>rfl⟩
theorem Pj{α : Type}{l k:List α}{j:Nat}(h1:j<l.length)(h2:j<k.length)(h:l.take j=k.take j)(e:l[j]=k[j]):l.take (j+1)=k.take (j+1):=by
 rw[aS h1,aS h2,h,e]
theorem Jw{α : Type}{l k:List α}{j:Nat}(h1:j<l.length)(h2:j<k.length)(e:l[j]≠k[j]):l≠k:=λh=>by
 subst h;exact e rfl
theorem Zbz(b1 o1 b2 o2 n c d:Nat)(l k:List (Int×Int))(o:Bool)(w:World)(hn:n<=cW)(z1:l.length=n)(z2:k.length=n)
  (h1:∀ i,i<n->w.cell? ⟨b1,o1+i*2,none⟩=some (E J (l.getD i (0,0)).1)/\w.cell? ⟨b1,o1+i*2+1,none⟩=some (E J (l.getD i (0,0)).2))
  (h2:∀ i,i<n->w.cell? ⟨b2,o2+i*2,none⟩=some (E J (k.getD i (0,0)).1)/\w.cell? ⟨b2,o2+i*2+1,none⟩=some (E J (k.getD i (0,0)).2)) (ho:decide (l=k)=o) :
  Calls aB 94 #[F (some ⟨b1,o1,none⟩) n c,F (some ⟨b2,o2,none⟩) n d] w λe w'=>e = dA (dD o)/\∃ m,w'=w.drewN m:=by
 subst ho;unfold cW at hn;obtain⟨H1,H2,Z1,Z2⟩:=kh4 h1 h2 z1 z2;clear h1 h2 z1 z2;go_enter func94,ntmps94;go_wp2
 go_loopw [13] (λi wr=>∃ j m:Nat,j<=n/\i = E J j/\wr=w.drewN m/\Hid (l.take j=k.take j)) (λi _=>n - (intOf i).toNat)
 case atStart=>exact⟨0,0,aL _,rfl,rfl,rfl⟩
 case round=>
  obtain⟨j,m,hk,rfl,rfl,A⟩:=hrel;by_cases aa:j<n
  ·have ae:j<l.length:=(by rw[Za Z1];exact aa);have af:j<k.length:=(by rw[Za Z2];exact aa);obtain⟨g1,g2⟩:=H1 j aa;obtain⟨g3,g4⟩:=H2 j aa;have e1:l.getD j (0,0)=l[j]:=(by simp[ae]);have e2:k.getD j (0,0)=k[j]:=(by simp[af]);rw[e1] at g1 g2;rw[e2] at g3 g4;obtain⟨Q,z⟩:=kh2 (Pj ae af A) (Jw ae af);obtain⟨q,hq⟩:=ZF (l[j]);obtain⟨r,hr⟩:=ZF (k[j]);rw[hq] at g1 g2;rw[hr] at g3 g4;rw[hq,hr] at Q z;obtain⟨q1,q2⟩:=q;obtain⟨r1,r2⟩:=r;simp only at g1 g2 g3 g4;clear hq hr e1 e2 A;by_cases he:q1=r1
   ·subst he;by_cases hf:q2=r2
    ·subst hf;have T:=Zd (Q rfl);clear Q z;go_wp2
     go_quiet (fail)
     go_wp2;go_roundw
     case rel=>exact⟨j+1,m+nq,by omega,by go_num,rfl,T⟩
     case measure=>simp[intOf];omega
    ·have U:Hid (decide (l=k)=false):=decide_eq_false (z (λe=>hf (by injection e)));clear Q z;go_wp2
     go_quiet (fail)
     go_wp2;go_ret;exact⟨by rw[Za U];rfl,m+nq,by simp[World.drewN,Nat.add_assoc]⟩
   ·have U:Hid (decide (l=k)=false):=decide_eq_false (z (λe=>he (by injection e)));clear Q z;go_wp2
    go_quiet (fail)
    go_wp2;go_ret;exact⟨by rw[Za U];rfl,m+nq,by simp[World.drewN,Nat.add_assoc]⟩
  ·have U:Hid (decide (l=k)=true):=by
    have h:=Za A;rw[aV (by rw[Za Z1];omega),aV (by rw[Za Z2];omega)] at h;exact decide_eq_true h
   clear A;go_wp2;go_ret;exact⟨by rw[Za U];rfl,m,rfl⟩
theorem Zcb(a b)(n m c d:Nat)(w)(h:n≠m) :
  Calls aB 94 #[F a n c,F b m d] w λe w'=>e = dA (dD false)/\w=w':=by
 have g:((n:Int) != (m:Int))=true:=by simp;omega
 clear h;go_enter func94,ntmps94;go_wp2;go_ret;exact⟨rfl,rfl⟩
theorem Zca(a b c d w) :
  Calls aB 94 #[F a 0 c,F b 0 d] w λe w'=>e = dA (dD true)/\w=w':=by
 go_enter func94,ntmps94;go_wp2;refine wp_loop_rounds 1 ?_;rw[bD];go_wp2;go_ret;exact⟨rfl,rfl⟩
theorem L5(a b)(n m c d:Nat)(l k)(o:Bool)(w:World)(hn:n<=cW)(Q:OpsAt w a n l)(hB:OpsAt w b m k)(z:decide (l=k)=o) :
  ZH 94 #[F a n c,F b m d] w (dD o):=by
 by_cases h:n=m
 ·subst h;by_cases h0:n=0
  ·subst h0;have e1:l=[]:=aP.1 Q.1;have e2:k=[]:=aP.1 hB.1;subst e1 e2;rw[decide_eq_true rfl] at z;subst z;exact (Zca a b c d w).mono λe w' ⟨h1,h2⟩=>⟨h1,h2 ▸ Below.refl _ _⟩
  ·obtain⟨b1,o1,rfl,h1⟩:=Q.2 (by omega);obtain⟨b2,o2,rfl,h2⟩:=hB.2 (by omega);exact (Zbz b1 o1 b2 o2 n c d l k o w hn Q.1 hB.1 h1 h2 z).mono λe w' ⟨e1,q,e2⟩=>⟨e1,by rw[e2];exact Ex w q⟩
 ·have e:l≠k:=λe=>h (by rw[<-Q.1,<-hB.1,e]);rw[decide_eq_false e] at z;subst z;exact (Zcb a b n m c d w h).mono λe w' ⟨h1,h2⟩=>⟨h1,h2 ▸ Below.refl _ _⟩
theorem Zfo(x y:InD)(a b)(n c m d:Nat)(o:Bool)(w:World)(hn:n<=cW)(hA:OpsAt w a n x.2.2)(hB:OpsAt w b m y.2.2)(Q:decide (x=y)=o) :
  ZH 93 #[.agg #[E J x.1,E J x.2.1,F a n c],.agg #[E J y.1,E J y.2.1,F b m d]] w (dD o):=by
 obtain⟨x1,x2,k⟩:=x;obtain⟨y1,y2,l⟩:=y;simp only at hA hB ⊢;have z:=Zf (Zh w (cZ #[E J x1,E J x2,F a n c] 119)) (Zh _ (cZ #[E J y1,E J y2,F b m d] 119));have HB:=Zd z;by_cases h1:x1=y1
 ·subst h1;by_cases h2:x2=y2
  ·subst h2;have C:=Zd (L5 a b n m c d k l o _ hn (hA.later z) (hB.later z) (by rw[<-Q];simp));clear hA hB z Q;go_enter func93,ntmps93;go_wp2_with fail;refine C.mono ?_;rintro e w2 ⟨rfl,ac⟩;have ah:=Zd (Zf HB ac);clear ac;go_wp2;go_ret;exact⟨rfl,Za ah⟩
  ·have e:o=false:=(by rw[<-Q];exact decide_eq_false (λe=>h2 (by injection e with _ e;injection e)));subst e;clear hA hB z Q;go_enter func93,ntmps93;go_wp2;go_ret;exact⟨rfl,Za HB⟩
 ·have e:o=false:=by rw[<-Q];exact decide_eq_false (λe=>h1 (by injection e))
  subst e;clear hA hB z Q;go_enter func93,ntmps93;go_wp2;go_ret;exact⟨rfl,Za HB⟩
theorem Zaj(x y:Zy)(a b)(n c m d:Nat)(o:Bool)(w:World)(hn:n<=cW)(Q:OpsAt w a n x.2)(hB:OpsAt w b m y.2)(ho:decide (x=y)=o) :
  ZH 97 #[.agg #[E J x.1,F a n c],.agg #[E J y.1,F b m d]] w (dD o):=by
 obtain⟨x1,k⟩:=x;obtain⟨y1,l⟩:=y;simp only at Q hB ⊢;have z:=Zf (Zh w (cZ #[E J x1,F a n c] 122)) (Zh _ (cZ #[E J y1,F b m d] 122));have HB:=Zd z;by_cases h1:x1=y1
 ·subst h1;have C:=Zd (L5 a b n m c d k l o _ hn (Q.later z) (hB.later z) (by rw[<-ho];simp));clear Q hB z ho;go_enter func97,ntmps97;go_wp2_with fail;refine C.mono ?_;rintro e w2 ⟨rfl,ae⟩;have af:=Zd (Zf HB ae);clear ae;go_wp2;go_ret;exact⟨rfl,Za af⟩
 ·have e:o=false:=by rw[<-ho];exact decide_eq_false (λe=>h1 (by injection e))
  have g:(x1 == y1)=false:=by simp[h1]
  subst e;clear Q hB z ho;go_enter func97,ntmps97;go_wp2;go_ret;exact⟨rfl,Za HB⟩
theorem Zcc(b1 o1 b2 o2 n c d:Nat)(l k:List InD)(o:Bool)(w:World)(hn:n<=cW)(z1:l.length=n)(z2:k.length=n)
  (h1:∀ i (h:i<l.length),InAt w b1 (o1+i*3) l[i]) (h2:∀ i (h:i<k.length),InAt w b2 (o2+i*3) k[i]) (ho:decide (l=k)=o) :
  ZH 95 #[F (some ⟨b1,o1,none⟩) n c,F (some ⟨b2,o2,none⟩) n d,.func (.func 93) #[] #[]] w (dD o):=by
 subst ho;unfold cW at hn;obtain⟨H1,H2,Z1,Z2⟩:=kh4 h1 h2 z1 z2;clear h1 h2 z1 z2;go_enter func95,ntmps95;go_wp2
 go_loopw [17] (λi wr=>∃ j:Nat,j<=n/\i = E J j/\ZD w wr/\Hid (l.take j=k.take j)) (λi _=>n - (intOf i).toNat)
 case atStart=>exact⟨0,aL _,rfl,Below.refl _ _,rfl⟩
 case round=>
  obtain⟨j,hk,rfl,hb,A⟩:=hrel;have HB:=Zd hb;by_cases bj:j<n
  ·have aw:j<l.length:=(by rw[Za Z1];exact bj);have ax:j<k.length:=(by rw[Za Z2];exact bj);have g:=InAt.kept _ _ _ _ _ hb (H1 j aw);have f:=InAt.kept _ _ _ _ _ hb (H2 j ax);obtain⟨TS,TU⟩:=kh2 (Pj aw ax A) (Jw aw ax);obtain⟨q,hq⟩:=ZF (l[j]);obtain⟨r,hr⟩:=ZF (k[j]);rw[hq] at g;rw[hr] at f;rw[hq,hr] at TS TU;obtain⟨g1,g2,qa,qn,qc,g3,g4,g5⟩:=g;obtain⟨f1,f2,ra,rn,rc,f3,f4,_⟩:=f;obtain⟨Q,q2,qk⟩:=q;obtain⟨r1,r2,rk⟩:=r;simp only at g1 g2 g3 g4 f1 f2 f3 f4;have cb:b2<wr.heap.size:=aE _ _ f1;have ah:=Zf (Zh wr (cZ #[E J Q,E J q2,F qa qn qc] 119)) (Zh _ (cZ #[E J r1,E J r2,F ra rn rc] 119));have be:=Zd ah
   have C:Hid (∀ o,decide (((Q,q2,qk):InD)=(r1,r2,rk))=o->Calls aB 93 #[.agg #[E J Q,E J q2,F qa qn qc],.agg #[E J r1,E J r2,F ra rn rc]] ((wr.alloc (cZ #[E J Q,E J q2,F qa qn qc] 119)).alloc (cZ #[E J r1,E J r2,F ra rn rc] 119)) λe w'=>e = dA (dD o)/\Below _ _ w'):=
    λo ho=>Zfo (Q,q2,qk) (r1,r2,rk) qa ra qn qc rn rc o _ g5.len (g4.later ah) (f4.later ah) ho
   clear hq hr A g4 f4 g5 hb ah;by_cases z:((Q,q2,qk):InD)=(r1,r2,rk)
   ·obtain⟨T,C2⟩:=kh2 (TS z) (C true (decide_eq_true z));clear TS TU C z;go_wp2_with fail;refine C2.mono ?_;rintro e w3 ⟨rfl,ae⟩;have aq:=Zd (Zf (Zf HB be) ae);clear ae;go_wp2;go_roundw
    case rel=>exact⟨j+1,by omega,by go_num,Za aq,T⟩
    case measure=>simp[intOf];omega
   ·have U:Hid (decide (l=k)=false):=decide_eq_false (TU z);have C2:=Zd (C false (decide_eq_false z));clear TS TU C z;go_wp2_with fail;refine C2.mono ?_;rintro e w3 ⟨rfl,ae⟩;have aq:=Zd (Zf (Zf HB be) ae);clear ae;go_wp2;go_ret;exact⟨by rw[Za U];rfl,Za aq⟩
  ·have U:Hid (decide (l=k)=true):=by
    have h:=Za A;rw[aV (by rw[Za Z1];omega),aV (by rw[Za Z2];omega)] at h;exact decide_eq_true h
   clear A hb;go_wp2;go_ret;exact⟨by rw[Za U];rfl,Za HB⟩
theorem Cu(b1 o1 b2 o2 n c d:Nat)(l k:List Zy)(o:Bool)(w:World)(hn:n<=cW)(z1:l.length=n)(z2:k.length=n)
  (h1:∀ i (h:i<l.length),OutAt w b1 (o1+i*2) l[i]) (h2:∀ i (h:i<k.length),OutAt w b2 (o2+i*2) k[i]) (ho:decide (l=k)=o) :
  ZH 96 #[F (some ⟨b1,o1,none⟩) n c,F (some ⟨b2,o2,none⟩) n d,.func (.func 97) #[] #[]] w (dD o):=by
 subst ho;unfold cW at hn;obtain⟨H1,H2,Z1,Z2⟩:=kh4 h1 h2 z1 z2;clear h1 h2 z1 z2;go_enter func96,ntmps96;go_wp2
 go_loopw [17] (λi wr=>∃ j:Nat,j<=n/\i = E J j/\ZD w wr/\Hid (l.take j=k.take j)) (λi _=>n - (intOf i).toNat)
 case atStart=>exact⟨0,aL _,rfl,Below.refl _ _,rfl⟩
 case round=>
  obtain⟨j,hk,rfl,hb,A⟩:=hrel;have HB:=Zd hb;by_cases bh:j<n
  ·have au:j<l.length:=(by rw[Za Z1];exact bh);have av:j<k.length:=(by rw[Za Z2];exact bh);have g:=OutAt.kept _ _ _ _ _ hb (H1 j au);have f:=OutAt.kept _ _ _ _ _ hb (H2 j av);obtain⟨TS,TU⟩:=kh2 (Pj au av A) (Jw au av);obtain⟨q,hq⟩:=ZF (l[j]);obtain⟨r,hr⟩:=ZF (k[j]);rw[hq] at g;rw[hr] at f;rw[hq,hr] at TS TU;obtain⟨g1,qa,qn,qc,g3,g4,g5⟩:=g;obtain⟨f1,ra,rn,rc,f3,f4,_⟩:=f;obtain⟨Q,qk⟩:=q;obtain⟨r1,rk⟩:=r;simp only at g1 g3 g4 f1 f3 f4;have bx:b2<wr.heap.size:=aE _ _ f1;have af:=Zf (Zh wr (cZ #[E J Q,F qa qn qc] 122)) (Zh _ (cZ #[E J r1,F ra rn rc] 122));have bb:=Zd af
   have C:Hid (∀ o,decide (((Q,qk):Zy)=(r1,rk))=o->Calls aB 97 #[.agg #[E J Q,F qa qn qc],.agg #[E J r1,F ra rn rc]] ((wr.alloc (cZ #[E J Q,F qa qn qc] 122)).alloc (cZ #[E J r1,F ra rn rc] 122)) λe w'=>e = dA (dD o)/\Below _ _ w'):=
    λo ho=>Zaj (Q,qk) (r1,rk) qa ra qn qc rn rc o _ g5.len (g4.later af) (f4.later af) ho
   clear hq hr A g4 f4 g5 hb af;by_cases z:((Q,qk):Zy)=(r1,rk)
   ·obtain⟨T,C2⟩:=kh2 (TS z) (C true (decide_eq_true z));clear TS TU C z;go_wp2_with fail;refine C2.mono ?_;rintro e w3 ⟨rfl,ac⟩;have an:=Zd (Zf (Zf HB bb) ac);clear ac;go_wp2;go_roundw
    case rel=>exact⟨j+1,by omega,by go_num,Za an,T⟩
    case measure=>simp[intOf];omega
   ·have U:Hid (decide (l=k)=false):=decide_eq_false (TU z);have C2:=Zd (C false (decide_eq_false z));clear TS TU C z;go_wp2_with fail;refine C2.mono ?_;rintro e w3 ⟨rfl,ac⟩;have an:=Zd (Zf (Zf HB bb) ac);clear ac;go_wp2;go_ret;exact⟨by rw[Za U];rfl,Za an⟩
  ·have U:Hid (decide (l=k)=true):=by
    have h:=Za A;rw[aV (by rw[Za Z1];omega),aV (by rw[Za Z2];omega)] at h;exact decide_eq_true h
   clear A hb;go_wp2;go_ret;exact⟨by rw[Za U];rfl,Za HB⟩
theorem Zce(a b)(n m c d:Nat)(v w)(h:n≠m) :
  Calls aB 95 #[F a n c,F b m d,v] w λe w'=>e = dA (dD false)/\w=w':=by
 have g:((n:Int) != (m:Int))=true:=by simp;omega
 clear h;go_enter func95,ntmps95;go_wp2;go_ret;exact⟨rfl,rfl⟩
theorem Zcd(a b c d v w) :
  Calls aB 95 #[F a 0 c,F b 0 d,v] w λe w'=>e = dA (dD true)/\w=w':=by
 go_enter func95,ntmps95;go_wp2;refine wp_loop_rounds 1 ?_;rw[bD];go_wp2;go_ret;exact⟨rfl,rfl⟩
theorem Cx(a b)(n m c d:Nat)(l k)(o:Bool)(w:World)(hn:n<=cW)(Q:InsAt w a n l)(hB:InsAt w b m k)(z:decide (l=k)=o) :
  ZH 95 #[F a n c,F b m d,.func (.func 93) #[] #[]] w (dD o):=by
 by_cases h:n=m
 ·subst h;by_cases h0:n=0
  ·subst h0;have e1:l=[]:=aP.1 Q.1;have e2:k=[]:=aP.1 hB.1;subst e1 e2;rw[decide_eq_true rfl] at z;subst z;exact (Zcd a b c d _ w).mono λe w' ⟨h1,h2⟩=>⟨h1,h2 ▸ Below.refl _ _⟩
  ·obtain⟨b1,o1,rfl,_,h1⟩:=Q.2 (by omega);obtain⟨b2,o2,rfl,_,h2⟩:=hB.2 (by omega);exact Zcc b1 o1 b2 o2 n c d l k o w hn Q.1 hB.1 h1 h2 z
 ·have e:l≠k:=λe=>h (by rw[<-Q.1,<-hB.1,e]);rw[decide_eq_false e] at z;subst z;exact (Zce a b n m c d _ w h).mono λe w' ⟨h1,h2⟩=>⟨h1,h2 ▸ Below.refl _ _⟩
theorem Cw(a b)(n m c d:Nat)(v w)(h:n≠m) :
  Calls aB 96 #[F a n c,F b m d,v] w λe w'=>e = dA (dD false)/\w=w':=by
 have g:((n:Int) != (m:Int))=true:=by simp;omega
 clear h;go_enter func96,ntmps96;go_wp2;go_ret;exact⟨rfl,rfl⟩
theorem Cv(a b c d v w) :
  Calls aB 96 #[F a 0 c,F b 0 d,v] w λe w'=>e = dA (dD true)/\w=w':=by
 go_enter func96,ntmps96;go_wp2;refine wp_loop_rounds 1 ?_;rw[bD];go_wp2;go_ret;exact⟨rfl,rfl⟩
theorem Zhp(a b)(n m c d:Nat)(l k)(o:Bool)(w:World)(hn:n<=cW)(Q:OutsAt w a n l)(hB:OutsAt w b m k)(z:decide (l=k)=o) :
  ZH 96 #[F a n c,F b m d,.func (.func 97) #[] #[]] w (dD o):=by
 by_cases h:n=m
 ·subst h;by_cases h0:n=0
  ·subst h0;have e1:l=[]:=aP.1 Q.1;have e2:k=[]:=aP.1 hB.1;subst e1 e2;rw[decide_eq_true rfl] at z;subst z;exact (Cv a b c d _ w).mono λe w' ⟨h1,h2⟩=>⟨h1,h2 ▸ Below.refl _ _⟩
  ·obtain⟨b1,o1,rfl,_,h1⟩:=Q.2 (by omega);obtain⟨b2,o2,rfl,_,h2⟩:=hB.2 (by omega);exact Cu b1 o1 b2 o2 n c d l k o w hn Q.1 hB.1 h1 h2 z
 ·have e:l≠k:=λe=>h (by rw[<-Q.1,<-hB.1,e]);rw[decide_eq_false e] at z;subst z;exact (Cw a b n m c d _ w h).mono λe w' ⟨h1,h2⟩=>⟨h1,h2 ▸ Below.refl _ _⟩
theorem Zeu(h h':Int)(ai ao Q bo)(ni ci no co mi di mo eo:Nat)(I I' O O')(o:Bool)(w:World)(li:ni<=cW)(lo:no<=cW)
  (hI:InsAt w ai ni I) (hO:OutsAt w ao no O) (au:InsAt w Q mi I') (aw:OutsAt w bo mo O') (ho:Jp (h,I,O) (h',I',O')=o) :
  ZH 30 #[.agg #[E J h,F ai ni ci,F ao no co],.agg #[E J h',F Q mi di,F bo mo eo]] w (dD o):=by
 have ax:=Zh w (cZ #[E J h,F ai ni ci,F ao no co] 59);have z:=Zh (w.alloc (cZ #[E J h,F ai ni ci,F ao no co] 59)) (cZ #[E J h',F Q mi di,F bo mo eo] 59);have hb:=Zf ax z;obtain⟨HB,M2⟩:=kh2 hb (Ze z (Qm w (E J h) (F ai ni ci) (F ao no co) 59).2.2);have N2:=Zd (Qm (w.alloc (cZ #[E J h,F ai ni ci,F ao no co] 59)) (E J h') (F Q mi di) (F bo mo eo) 59).2.2;obtain⟨HI,HO⟩:=kh2 (hI.later hb) (hO.later hb);have ap:=Zd (au.later hb);have bh:=Zd (aw.later hb);obtain⟨LI,LO⟩:=kh2 li lo;clear hI hO au aw hb ax z li lo;by_cases h1:h=h'
 ·subst h1;by_cases h2:I=I'
  ·have az:decide (O=O')=o:=(by rw[<-ho];unfold Jp;simp[h2]);obtain⟨CI,HQ⟩:=kh2 (Cx ai Q ni mi ci di I I' true _ LI HI ap (decide_eq_true h2)) az;clear ho az h2;go_enter func30,ntmps30;go_wp2_with fail;refine CI.mono ?_;rintro e w2 ⟨rfl,z⟩;have m2:=Ze z M2;have n2:=Ze z N2;rw[show (w.alloc (cZ #[E J h,F ai ni ci,F ao no co] 59)).heap.size=w.heap.size+1 by simp] at n2;have s2:w.heap.size+1<w2.heap.size:=aE _ _ n2;have s1:w.heap.size<w2.heap.size:=(by omega);obtain⟨CO,am⟩:=kh2 (Zhp ao bo no mo co eo O O' o w2 LO (HO.later z) (bh.later z) HQ) (Zf HB z);clear z;go_wp2_with fail;refine CO.mono ?_;rintro e w3 ⟨rfl,ay⟩;have bf:=Zd (Zf am ay);clear ay;go_wp2;go_ret;exact⟨rfl,Za bf⟩
  ·have e:o=false:=(by rw[<-ho];unfold Jp;simp[h2]);subst e;have CI:=Zd (Cx ai Q ni mi ci di I I' false _ LI HI ap (decide_eq_false h2));clear ho h2;go_enter func30,ntmps30;go_wp2_with fail;refine CI.mono ?_;rintro e w2 ⟨rfl,z⟩;have am:=Zd (Zf HB z);clear z;go_wp2;go_ret;exact⟨rfl,Za am⟩
 ·have e:o=false:=by rw[<-ho];unfold Jp;simp[h1]
  subst e;have g:(h == h')=false:=by simp[h1]
  clear ho;go_enter func30,ntmps30;go_wp2;go_ret;exact⟨rfl,Za HB⟩
def Rx(g:TxD->Bool):List TxD->Nat->Int
 | [],_=>-1
 | t :: r,k=>if g t=true then k else Rx g r (k+1)
theorem Zoy(g:TxD->Bool)(L:List TxD)(k:Nat)(h:k<L.length):Rx g (L.drop k) k=if g L[k]=true then (k:Int) else Rx g (L.drop (k+1)) (k+1):=by
 rw[aI h,Rx]
theorem Cs(g:TxD->Bool):∀ (L:List TxD) (k:Nat),decide (0<=Rx g L k)=L.any g
 | [],_=>by simp[Rx]
 | t :: r,k=>by
  rw[Rx,List.any_cons];by_cases h:g t=true
  ·rw[if_pos h,h];simp
  ·have h':g t=false:=(by simpa using h);rw[if_neg h,Cs g r,h',Bool.false_or]
structure Ad(f:Nat)(caps:Array Value)(W0:World)(g:TxD->Bool):Prop where
 enters:∀ args w,(callFunc f args).run aB w = .ok (.enter f args) w
 call:∀ w,ZD W0 w->∀ (th:Int) (ai ao:Option Addr) (ni ci no co:Nat) (I:List InD) (O:List Zy),InsAt w ai ni I->OutsAt w ao no O->SlOk ai ni ci->SlOk ao no co ->
  Calls aB f (#[.agg #[E J th,F ai ni ci,F ao no co]]++caps) w λe w'=>e = dA (dD (g (th,I,O)))/\ZD w w'
theorem Zbq(f:Nat)(caps)(g:TxD->Bool)(a n c L)(w:World)(hT:Ad f caps w g)(hL:TxsAt w a n L)(hn:n<=cW) :
  ZH 156 #[F a n c,.func (.func f) #[] caps] w (E J (Rx g L 0)):=by
 obtain⟨HT,HL,HZ⟩:=kh3 hT hL hL.1;have bd:n<=9223372036854775807:=hn;clear hT hL hn;go_enter func156,ntmps156;go_wp2
 go_loopw [5,8] (λ_ i wr=>∃ k:Nat,k<=n/\i = E J k/\Hid (Rx g L 0=Rx g (L.drop k) k)/\ZD w wr) (λ_ i _=>n - (intOf i).toNat)
 case atStart=>exact⟨0,aL _,rfl,rfl,Below.refl _ _⟩
 case round=>
  obtain⟨k,hk,rfl,A,z⟩:=hrel;have HB:=Zd z;by_cases ay:k<n
  ·have am:k<L.length:=(by rw[Za HZ];exact ay);obtain⟨b,off,rfl,al,ap⟩:=HL.2 (by omega);obtain⟨c0,⟨ai,ni,ci,c1,ae,ar⟩,ao,no,co,c2,ag,au⟩:=ap k am;have c0:=Ze z c0;have c1:=Ze z c1;have c2:=Ze z c2;have al:b<wr.heap.size:=aD al z.size;have S:=Zd (Zoy g L k am);obtain⟨t,ht⟩:=ZF (L[k]);rw[ht] at c0 ae ag S;obtain⟨th,tI,tO⟩:=t;have Q:=Zd (HT.call wr z th ai ao ni ci no co tI tO (ae.later z) (ag.later z) ar au);have eg:=HT.enters;simp only at c0;clear ae ag ar au ht ap z;cases hg:g (th,tI,tO) with
   | true=>
    rw[hg] at Q S;have S2:Hid (Rx g L 0=k):=(by show _=_;rw[Za A,Za S,if_pos rfl]);clear S A hg;go_wp2_with fail;refine Q.mono ?_;rintro e w2 ⟨rfl,ab⟩;have ad:=Zd (Zf HB ab);clear ab Q;go_wp2;go_ret;exact⟨by rw[Za S2];rfl,Za ad⟩
   | false=>
    rw[hg] at Q S;have S2:Hid (Rx g L 0=Rx g (L.drop (k+1)) (k+1)):=(by show _=_;rw[Za A,Za S,if_neg (by decide)]);clear S A hg;go_wp2_with fail;refine Q.mono ?_;rintro e w2 ⟨rfl,ab⟩;have ad:=Zd (Zf HB ab);clear ab Q;go_wp2;go_roundw
    case rel=>exact⟨k+1,by omega,by go_num,S2,Za ad⟩
    case measure=>simp[intOf];omega
  ·have S2:Hid (Rx g L 0 = -1):=by
    show _=_;rw[Za A,List.drop_of_length_le (by rw[Za HZ];omega)];rfl
   clear A z;go_wp2;go_ret;exact⟨by rw[Za S2];rfl,Za HB⟩
theorem Td(f:Nat)(caps)(g:TxD->Bool)(a n c)(L:List TxD)(o:Bool)(w:World)(hT:Ad f caps w g)(Q:TxsAt w a n L)(hn:n<=cW)(ho:L.any g=o) :
  ZH 89 #[F a n c,.func (.func f) #[] caps] w (dD o):=by
 have C1:=Zd (Zbq f caps g a n c L w hT Q hn);have z:Hid (decide (0<=Rx g L 0)=o):=by show _=_;rw[Cs];exact ho
 obtain⟨i,hi⟩:=ZF (Rx g L 0);rw[hi] at C1 z;clear hT Q hn ho hi;go_enter func89,ntmps89;go_wp2_with fail;refine C1.mono ?_;rintro e w1 ⟨rfl,hb⟩;have HB:=Zd hb;clear hb C1;go_wp2;go_ret;exact⟨by rw[<-Za z];rfl,Za HB⟩
theorem Ac(p:Nat)(th:Int)(ai ao ni ci no co I O)(w:World)(hp:w.heap[p]? = some (cZ [E J th,F ai ni ci,F ao no co].toArray 59 (0,0)))(hI:InsAt w ai ni I)(hO:OutsAt w ao no O) :
  Ad 90 #[dC (some ⟨p,0,none⟩)] w (λx=>Jp x (th,I,O)) where
 enters:=enters_of (fn:=Tryz.f90) (by kernel_rfl) (by kernel_rfl) rfl
 call V hV xh bi bo mi di mo eo aa P hJ hP sJ sP:=by
  obtain⟨X,hX,z,af⟩:=ka00 V [E J xh,F bi mi di,F bo mo eo] 59;have Q:=Zf hV z;have aj:=(Q.block p (aA hp)).trans hp;have ah:=(hV.block p (aA hp)).trans hp;obtain⟨v0,v1,v2,vl⟩:=kc3 ah;obtain⟨o,ho⟩:=ZF (Jp (xh,aa,P) (th,I,O));have C1:=Zd (Zeu xh th bi bo ai ao mi di mo eo ni ci no co aa I P O o X sJ.len sP.len (hJ.later z) (hP.later z) (hI.later Q) (hO.later Q) ho);obtain⟨q0,q1,q2,ql⟩:=kc3 aj;obtain⟨t0,t1,t2,tl⟩:=kc3 af;have HB:=Zd z;show Calls _ _ _ _ (λe w'=>e = dA (dD (Jp (xh,aa,P) (th,I,O)))/\_);rw[ho];clear hp hI hO hV hJ hP sJ sP z af Q aj ah ho;go_enter func90,ntmps90;go_wp2_with fail;rw[<-hX];clear hX;(try go_wp2_with fail);refine C1.mono ?_;rintro e w1 ⟨rfl,hb⟩;have al:=Zd (Zf HB hb);clear hb C1;go_wp2;go_ret;exact⟨rfl,Za al⟩
namespace Bk
open Go.RowKit Go.Maps
theorem Znn{s t:ByteArray}(h:s≠t):s.toList≠t.toList:=λe=>h (by
 rw[ByteArray.toList_eq,ByteArray.toList_eq] at e;have h4:s.data=t.data:=by rw[<-Array.toList_inj];exact e
 cases s;cases t;simp_all)
theorem Zqq{s t:ByteArray}(h:s≠t):(s.toList == t.toList)=false:=by simp[Znn h]
theorem Bj{s:ByteArray}{L:List ByteArray}{j:Nat}(h:j<L.length)(h0:place s (L.take j)=0)(e:L[j]≠s):place s (L.take (j+1))=0:=by
 rw[place_zero] at *;rw[aS h];simp only[List.mem_append,List.mem_singleton,not_or];exact⟨h0,λq=>e q.symm⟩
theorem Kz{s:ByteArray}:∀ {A B:List ByteArray},place s A=0->place s (A++s :: B)=A.length+1
 | [],B,_=>by simp[place]
 | x :: A,B,h=>by
  have hx:x≠s:=λq=>by simp[place,q] at h
  have z:place s A=0:=by
   rw[place_zero] at *;exact λq=>h (List.mem_cons_of_mem _ q)
  rw[List.cons_append,place,if_neg hx,Kz z,if_neg (by omega),List.length_cons]
theorem Zar{s:ByteArray}{L:List ByteArray}{j:Nat}(h:j<L.length)(h0:place s (L.take j)=0)(e:L[j]=s):place s L=j+1:=by
 have h1:L=L.take j++s :: L.drop (j+1):=by
  conv=>lhs;rw[<-List.take_append_drop j L,aI h,e]
 rw[h1,Kz h0,List.length_take];omega
theorem indexS_is(a)(n c:Nat)(L)(s:ByteArray)(x:Int)(w:World)(hn:n<=cW)(h:TextsAt w a n L)(hx:(place s L:Int) - 1=x) :
  ZH 291 #[F a n c,.string s] w (E J x):=by
 obtain⟨HT,HX⟩:=kh2 h hx;unfold cW at hn;clear h hx;go_enter func291,ntmps291;go_wp2
 go_loop [8] (λi=>∃ j:Nat,j<=n/\i = E J j/\Hid (place s (L.take j)=0)) (λi=>n - (intOf i).toNat)
 case atStart=>exact⟨0,aL _,rfl,rfl⟩
 case round=>
  obtain⟨j,hk,rfl,A⟩:=hrel;by_cases aj:j<n
  ·obtain⟨hz,ad⟩:=Za HT;obtain⟨b,off,rfl,hc⟩:=ad (by omega);have h1:j<L.length:=(by omega);have f:=hc j h1;obtain⟨Q,z⟩:=kh2 (Bj h1 A) (Zar h1 A);obtain⟨t,ht⟩:=ZF (L[j]);rw[ht] at f Q z;clear ht A hc ad hz;by_cases e:t=s
   ·subst e;have R:Hid (x=j):=(by show _=_;rw[<-Za HX,(Za z) rfl];omega);clear Q z;go_wp2;go_ret;exact⟨by rw[Za R];rfl,Below.refl _ _⟩
   ·have R:=Zd (Q e);have g:=Zqq (λh:s=t=>e h.symm);clear Q z e;go_wp2
    go_round
    case rel=>exact⟨j+1,by omega,by go_num,R⟩
    case measure=>simp[intOf];omega
  ·have R:Hid (x = -1):=by
    have h:=Za A;rw[aV (by rw[(Za HT).1];omega)] at h;show _=_;rw[<-Za HX,h];rfl
   clear A;go_wp2;go_ret;exact⟨by rw[Za R];rfl,Below.refl _ _⟩
end Bk
open Go.RowKit
def KAt(w:World)(d:Nat)(K:List ByteArray):Prop:=∃ ka kn kc,w.cell? ⟨d,0,none⟩=some (F ka kn kc)/\Bk.TextsAt w ka kn K/\SlOk ka kn kc/\d<w.heap.size
theorem KAt.later{w w':World}{d K}(h:KAt w d K)(z:ZD w w'):KAt w' d K:=by
 obtain⟨ka,kn,kc,h1,h2,h3,h4⟩:=h;exact⟨ka,kn,kc,Ze z h1,h2.later z,h3,aD h4 z.size⟩
def knT(K:List ByteArray)(t:TxD):Bool:=decide (Zu t=0) && !decide (Bk.place (txT t) K=0)
def kbD(K:List ByteArray)(s:Int)(b:Zl):Bool:=decide (Yk b=0) && (decide ((Bk.place (Ev b) K:Int)=s) && b.2.2.2.2.all (knT K))
theorem Nw(d)(s:ByteArray)(K)(x:Int)(w:World)(h:KAt w d K)(hx:(Bk.place s K:Int)=x) :
  ZH 261 #[dC (some ⟨d,0,none⟩),.string s] w (E J x):=by
 obtain⟨ka,kn,kc,h1,h2,h3,h4⟩:=h;have C1:=Zd (Bk.indexS_is ka kn kc K s (x - 1) w h3.len h2 (by omega));have hl:=Bk.place_le s K;have hk:=h2.1;have hs:kn<=9223372036854775807:=h3.len;have ae:IntKind.i64.wrap (x - 1+1)=x:=by rw[IntKind.wrap_i64];omega
 have af:IntKind.i64.wrap x=x:=by rw[IntKind.wrap_i64];omega
 have he:x - 1+1=x:=by omega
 clear h2 h3 hx hl hk hs;go_enter func261,ntmps261;go_wp2_with fail;refine C1.mono ?_;rintro e w1 ⟨rfl,z⟩;have Q:=Zd z;clear z C1;go_wp2;go_ret;exact⟨by simp,Za Q⟩
theorem Ff(q d:Nat)(K)(w:World)(hE:Env w)(hq:w.cell? ⟨q,0,none⟩=some (dC (some ⟨d,0,none⟩)))(hK:KAt w d K) :
  Ad 262 #[dC (some ⟨q,0,none⟩)] w (λx=>!knT K x) where
 enters:=enters_of (fn:=Tryz.f262) (by kernel_rfl) (by kernel_rfl) rfl
 call V hV th ai ao ni ci no co I O hI hO sI sO:=by
  obtain⟨X,hX,z,am⟩:=ka00 V [E J th,F ai ni ci,F ao no co] 59;have ac:=Zf hV z;obtain⟨Q,ad⟩:=ZF (Zu (th,I,O));obtain⟨T,hT⟩:=ZF (txT (th,I,O));obtain⟨y,hy⟩:=ZF ((Bk.place T K:Int));have C1:=Zd (Hy th ai ao ni ci no co I O T Q X (hE.later ac) (hI.later z) (hO.later z) sI ad hT);have C2:=Zd (λU (hu:ZD w U)=>Nw d T K y U (hK.later hu) hy)
  have HG:Hid ((!knT K (th,I,O))=(decide (Q≠0) || decide (y=0))):=by
   show _=_;unfold knT;rw[ad,hT,<-hy];by_cases e:Q=0
   ·simp[e]
   ·simp[e]
  show Calls _ _ _ _ (λe w'=>e = dA (dD (!knT K (th,I,O)))/\_);rw[Za HG];obtain⟨t0,t1,t2,tl⟩:=kc3 am;obtain⟨HB,ak,HQ⟩:=kh3 z ac hq;clear hE hq hK hV hI hO sI sO z am ac ad hT hy HG;go_enter func262,ntmps262;go_wp2_with fail;rw[<-hX];clear hX;(try go_wp2_with fail);refine C1.mono ?_;rintro e w1 ⟨rfl,aa⟩;obtain⟨ah,C3⟩:=kh2 (Zf HB aa) (C2 w1 (Zf ak aa));have q1:=Ze (Zf ak aa) HQ;have ql:=aE _ _ q1;clear aa C1 C2 t0 t1 t2 tl;by_cases e1:Q=0
  ·subst e1;go_wp2_with fail;refine C3.mono ?_;rintro e w2 ⟨rfl,an⟩;have aq:=Zd (Zf ah an);clear an C3;go_wp2;go_ret;exact⟨by cases h:decide (y=0) <;> simp_all,Za aq⟩
  ·have gx:(Q != 0)=true:=(by simp[e1]);go_wp2;go_ret;exact⟨by simp[e1],Za ah⟩
theorem Zdy(K):∀ (L:List TxD),(!(L.any λx=>!knT K x))=L.all (knT K)
 | []=>rfl
 | t :: L=>by
  rw[List.any_cons,List.all_cons,<-Zdy K L];cases knT K t <;> simp
theorem N5(d K a n c)(L:List TxD)(o:Bool)(w:World)(hE:Env w)(hK:KAt w d K)(Q:TxsAt w a n L)(hn:n<=cW)(ho:L.all (knT K)=o) :
  ZH 217 #[dC (some ⟨d,0,none⟩),F a n c] w (dD o):=by
 obtain⟨X,hX,z,ab⟩:=ka00 w [dC (some ⟨d,0,none⟩)] 181;obtain⟨C1,HB⟩:=kh2 (Td _ _ _ a n c L (!o) X (Ff w.heap.size d K X (hE.later z) (Zb ab 0 _ rfl) (hK.later z)) (Q.later z) hn (by rw[<-ho,<-Zdy,Bool.not_not])) z;clear hE hK Q hn ho z ab;go_enter func217,ntmps217;go_wp2_with fail;rw[<-hX];clear hX;(try go_wp2_with fail);refine C1.mono ?_;rintro e w1 ⟨rfl,hb⟩;have ag:=Zd (Zf HB hb);clear hb C1;go_wp2;go_ret;exact⟨by simp,Za ag⟩
theorem Zgt(d K)(s p h k o:Int)(a m c T)(y:Bool)(w:World)(hE:Env w)(hK:KAt w d K)(hT:TxsAt w a m T)(sT:SlOk a m c)(hy:kbD K s (p,h,k,o,T)=y) :
  ZH 216 #[dC (some ⟨d,0,none⟩),E J s,.agg #[E J p,E J h,E J k,E J o,F a m c]] w (dD y):=by
 obtain⟨X,hX,ab,ag⟩:=ka00 w [E J p,E J h,E J k,E J o,F a m c] 39;obtain⟨x1,ak⟩:=ZF (Yk (p,h,k,o,T));obtain⟨t,ht⟩:=ZF (Ev (p,h,k,o,T));obtain⟨bs,hz⟩:=ZF ((Bk.place t K:Int));obtain⟨g,hg⟩:=ZF (T.all (knT K));have C1:=Zd (Ew p h k o a m c T t x1 X (hE.later ab) (hT.later ab) ak ht);have C2:=Zd (λU (z:ZD w U)=>Nw d t K bs U (hK.later z) hz);have C3:=Zd (λU (z:ZD w U)=>N5 d K a m c T g U (hE.later z) (hK.later z) (hT.later z) sT.len hg)
 have HY:Hid ((decide (x1=0) && (decide (bs=s) && g))=y):=by
  show _=_;rw[<-hy];unfold kbD;rw[ak,ht,hz];simp only;rw[hg]
 obtain⟨HB,bg⟩:=kh2 ab ag;obtain⟨e0,e1,e2,e3,e4,el⟩:=kc5 ag;clear hE hK hT sT hy ab ag ak ht hz hg;go_enter func216,ntmps216;go_wp2_with fail;rw[<-hX];clear hX;(try go_wp2_with fail);refine C1.mono ?_;rintro e w1 ⟨rfl,Q⟩;obtain⟨ae,be,D2⟩:=kh3 (Zf HB Q) Q (C2 w1 (Zf HB Q));clear Q C1 C2 e0 e1 e2 e3 e4 el;by_cases q1:x1=0
 ·subst q1;go_wp2_with fail;refine D2.mono ?_;rintro e w2 ⟨rfl,aa⟩;obtain⟨aw,D3⟩:=kh2 (Zf ae aa) (C3 w2 (Zf ae aa));have h2:=ZE (Zf be aa) bg;obtain⟨-,-,-,-,e4,el⟩:=kc5 h2;clear aa D2 C3 h2;by_cases q2:bs=s
  ·subst q2;go_wp2_with fail;refine D3.mono ?_;rintro e w3 ⟨rfl,bb⟩;have bf:=Zd (Zf aw bb);clear bb D3;go_wp2;go_ret;exact⟨by rw[<-Za HY];simp,Za bf⟩
  ·have gz:(bs == s)=false:=(by simp[q2]);go_wp2;go_ret;exact⟨by rw[<-Za HY];simp[q2],Za aw⟩
 ·have gx:(x1 == 0)=false:=by simp[q1]
  go_wp2;go_ret;exact⟨by rw[<-Za HY];simp[q1],Za ae⟩
namespace Tr
open Go.RowKit
def blockE(N:List Int)(T:List Zl)(s:Int):Zl×Int:=
 if chkTr N T≠0 then (Ym,chkTr N T) else if decide (s∈N)=true then (fnd s N T,0) else (Ym,5)
theorem fnd_at{N:List Int}{T:List Zl}{s:Int}(z:N.length=T.length)(h:s∈N):fnd s N T∈T:=by
 rcases Ss s N T 0 z with ⟨_,q,_⟩|⟨i,hi,_,_,q⟩
 ·exact absurd h q
 ·rw[q];exact List.getElem_mem hi
def Zmy(w w':World)(x:Zl)(y:Int)(e:Ending):Prop:=
 ∃ z Q tc,e = dA (dB #[.agg #[E J x.1,E J x.2.1,E J x.2.2.1,E J x.2.2.2.1,F z Q tc],E J y])/\TxsAt w' z Q x.2.2.2.2/\SlOk z Q tc/\ZD w w'
theorem Mj{w w':World}{y:Int}(z:ZD w w'):Zmy w w' Ym y (dA (dB #[.agg #[E J 0,E J 0,E J 0,E J 0,F none 0 0],E J y])):=
 ⟨none,0,0,rfl,RowsAt.nil _ _,⟨aF _,aL _,λ_=>⟨rfl,rfl⟩⟩,z⟩
theorem box5_gr(W:World)(t:Nat)(a b c d e):Gr W (((((W.setCell ⟨t,0,none⟩ a).setCell ⟨t,1,none⟩ b).setCell ⟨t,2,none⟩ c).setCell ⟨t,3,none⟩ d).setCell ⟨t,4,none⟩ e) (λq=>q=t):=
 (((((Gr.refl W (λq=>q=t)).one t 0 (.inl rfl) _).one t 1 (.inl rfl) _).one t 2 (.inl rfl) _).one t 3 (.inl rfl) _).one t 4 (.inl rfl) _
theorem block_is(a b n c m d N T)(s:Int)(x:Zl)(y:Int)(w)(hN:IntsAt w a n N)(hT:BlksAt w b m T)(sN:SlOk a n c)(sT:SlOk b m d)(hx:blockE N T s=(x,y)) :
  Calls aB 20 #[.agg #[F a n c,F b m d],E J s] w λe w'=>Zmy w w' x y e:=by
 obtain⟨X,hX⟩:=ZG ((w.alloc (cZ #[F a n c,F b m d] 28)).alloc (cZ #[E J 0,E J 0,E J 0,E J 0,F none 0 0] 39));have ac:ZD w X:=by rw[hX];exact Zf (Zh _ _) (Zh _ _)
 have ah:X.heap[w.heap.size]? = some (cZ [F a n c,F b m d].toArray 28 (0,0)):=by rw[hX,Below.heap_alloc _ _ _ (by simp)];exact Y2 _ _ _ _
 have av:X.heap[w.heap.size+1]? = some (cZ [E J 0,E J 0,E J 0,E J 0,F none 0 0].toArray 39 (0,0)):=by
  rw[hX];have:=Zz (w.alloc (cZ #[F a n c,F b m d] 28)) (E J 0) (E J 0) (E J 0) (E J 0) (F none 0 0) 39;rw[show (w.alloc (cZ #[F a n c,F b m d] 28)).heap.size=w.heap.size+1 by simp] at this;exact this
 obtain⟨HB,cd,be⟩:=kh3 ac ah av;obtain⟨dq,hz⟩:=ZF (chkTr N T);have C1:=Zd (Vx a b n c m d N T dq X (hN.later ac) (hT.later ac) sN sT hz);obtain⟨x0,x1,xl⟩:=kc2 ah;unfold blockE at hx;rw[hz] at hx;by_cases q:dq=0
 ·subst q;rw[if_neg (by simp)] at hx;obtain⟨hl,h24,hH,bk⟩:=Vb hz;obtain rfl:n=m:=by rw[<-hN.1,<-hT.1,hl]
  have ay:n<=cW:=sN.len;obtain⟨o,ho⟩:=ZF (decide (s∈N));rw[ho] at hx;have C2:=Zd (λW (hb:ZD X W)=>Ls a b n c n d N s o W ay (hN.later (Zf ac hb)) ho);cases o with
  | false=>
   rw[if_neg (by simp)] at hx;obtain⟨rfl,rfl⟩:Ym=x/\5=y:=⟨congrArg Prod.fst hx,congrArg Prod.snd hx⟩;clear ac ah av hN hT sN sT hz hx hl h24 hH bk ho ay;go_enter func20,ntmps20;go_wp2_with fail;rw[<-hX];clear hX;refine C1.mono ?_;rintro e w1 ⟨rfl,z⟩;have CC:=Zd (C2 _ z);have hc:=ZE z cd;have aj:=ZE z be;obtain⟨H0,H1⟩:=kh2 hc aj;obtain⟨t0,t1,tl⟩:=kc2 hc;obtain⟨ca,ag⟩:=kh2 z (Zf HB z);clear z x0 x1 xl hc aj C1 C2;go_wp2_with fail;refine CC.mono ?_;rintro e w2 ⟨rfl,ab⟩;have Q:=ZE ab H1;obtain⟨z0,z1,z2,z3,z4,f0,f1,f2,f3,f4,zl⟩:=kf5 Q;clear Q;have bd:=Zd (Zf ag ab);clear ab t0 t1 tl;go_wp2;(try simp only[Exit.inBlock,Exit.then]);refine aW (v:=dB #[.agg #[E J 0,E J 0,E J 0,E J 0,F none 0 0],E J 5]) ?_ rfl (Mj ?_)
   ·rw[Zn rfl];go_simp
   ·exact (box5_gr _ _ _ _ _ _ _).below bd (by omega) (λk hk=>by omega)
  | true=>
   rw[if_pos rfl] at hx;obtain⟨bi,rfl⟩:fnd s N T=x/\0=y:=⟨congrArg Prod.fst hx,congrArg Prod.snd hx⟩;have cp:x∈T:=(by rw[<-bi];exact fnd_at hl (by simpa using ho));have cq:=blk_small (chkGo_blks N T [] [] hl bk x cp);have C3:=Zd (λW (hb:ZD X W)=>Sx a b n c d N T s x W ay (hN.later (Zf ac hb)) (hT.later (Zf ac hb)) bi);have cc:=Zd cq;clear ac ah av hN hT sN sT hz hx hl h24 hH bk ho ay bi cp cq;obtain⟨p,h,k,r,L⟩:=x;go_enter func20,ntmps20;go_wp2_with fail;rw[<-hX];clear hX;refine C1.mono ?_;rintro e w1 ⟨rfl,z⟩;have CC:=Zd (C2 _ z);have hc:=ZE z cd;have aj:=ZE z be;obtain⟨H0,H1⟩:=kh2 hc aj;obtain⟨t0,t1,tl⟩:=kc2 hc;obtain⟨ca,ag⟩:=kh2 z (Zf HB z);clear z x0 x1 xl hc aj C1 C2;go_wp2_with fail;refine CC.mono ?_;rintro e w2 ⟨rfl,ab⟩;have C4:=Zd (C3 _ (Zf ca ab));have cl:=ZE ab H0;have Q:=ZE ab H1;have HD:=Zd Q;obtain⟨u0,u1,ul⟩:=kc2 cl;have dd:=Zd (Zf ag ab);clear ab cl Q t0 t1 tl CC C3;go_wp2_with fail;refine C4.mono ?_;rintro e w3 ⟨ta,tn,tc,rfl,hL,sL,ax⟩;have hL:TxsAt w2 ta tn L:=hL;have C5:=Zd (clBlock_is p h k r ta tn tc L w3 (hL.later ax) sL (by rw[<-hL.1];exact cc.1) cc.2);have Q:=ZE ax HD;obtain⟨cb,de,dl⟩:=kh3 Q (Zf dd ax) hL.1;clear ax Q hL sL u0 u1 ul C4;unfold Jn;go_wp2_with fail;refine C5.mono ?_;rintro e w4 ⟨a',c',rfl,hf,bh⟩;have Q:=ZE bh cb;obtain⟨z0,z1,z2,z3,z4,f0,f1,f2,f3,f4,zl⟩:=kf5 Q;clear Q;have hg:=box5_gr w4 (w.heap.size+1) (E J p) (E J h) (E J k) (E J r) (F a' tn c');have di:=aA cb
   have HW:=Zd (hf _ (hg.mono λq _ e=>by omega));have bd:Hid (ZD w (((((w4.setCell ⟨w.heap.size+1,0,none⟩ (E J p)).setCell ⟨w.heap.size+1,1,none⟩ (E J h)).setCell ⟨w.heap.size+1,2,none⟩ (E J k)).setCell ⟨w.heap.size+1,3,none⟩ (E J r)).setCell ⟨w.heap.size+1,4,none⟩ (F a' tn c'))):=hg.below (Zf de bh) (by omega) (λk hk=>by omega);clear bh hf hg di C5;go_wp2;(try simp only[Exit.inBlock,Exit.then]);refine aW (v:=dB #[.agg #[E J p,E J h,E J k,E J r,F a' tn c'],E J 0]) ?_ rfl ?_
   ·rw[Zn rfl];go_simp
   ·obtain⟨a2,n2,c2,e2,f1,f2⟩:=Za HW;cases e2;exact⟨_,_,_,rfl,f1,f2,Za bd⟩
 ·rw[if_pos q] at hx;obtain⟨rfl,rfl⟩:Ym=x/\dq=y:=⟨congrArg Prod.fst hx,congrArg Prod.snd hx⟩;have g:(dq != 0)=true:=by simp[q]
  clear ac ah av hN hT sN sT hz hx q;go_enter func20,ntmps20;go_wp2_with fail;rw[<-hX];clear hX;refine C1.mono ?_;rintro e w1 ⟨rfl,z⟩;have Q:=ZE z be;obtain⟨z0,z1,z2,z3,z4,f0,f1,f2,f3,f4,zl⟩:=kf5 Q;clear Q;have ag:=Zd (Zf HB z);clear z x0 x1 xl C1;go_wp2;(try simp only[Exit.inBlock,Exit.then]);refine aW (v:=dB #[.agg #[E J 0,E J 0,E J 0,E J 0,F none 0 0],E J dq]) ?_ rfl (Mj ?_)
  ·rw[Zn rfl];go_simp
  ·exact (box5_gr _ _ _ _ _ _ _).below ag (by omega) (λk hk=>by omega)
end Tr
open Go.RowKit
def Mr(w:World)(q:Nat):Prop:=(∀ (j:Nat) (i z:Int),w.cell? ⟨q,j,none⟩=some (E J i)->w.cell? ⟨q,j+1,none⟩=some (E J z)->False)/\∀ (j:Nat) (s:ByteArray),w.cell? ⟨q,j,none⟩≠some (.string s)
theorem Zax{w:World}{q:Nat}{z:Array MapEntry}{c:Nat}(h:w.heap[q]? = some (.map z c)):Mr w q:=by
 refine⟨λj i Q h1 _=>?_,λj s h1=>?_⟩ <;> simp[bF,h] at h1
theorem Bs{w:World}{q:Nat}{a b c d n1 c1 n2 z n3 Q n4 c4}{t:Int}{m:Option Nat}{ty:TypeId}(h:w.heap[q]? = some (cZ [F a n1 c1,F b n2 z,F c n3 Q,F d n4 c4,E J t,.map m].toArray ty (0,0))):Mr w q:=by
 refine⟨λj i i' h1 h2=>?_,λj s h1=>?_⟩
 ·match j with
  | 0=>simp[bF,h] at h1
  | 1=>simp[bF,h] at h1
  | 2=>simp[bF,h] at h1
  | 3=>simp[bF,h] at h1
  | 4=>simp[bF,h] at h2
  | 5=>simp[bF,h] at h1
  | j+6=>simp[bF,h] at h1
 ·match j with
  | 0=>simp[bF,h] at h1
  | 1=>simp[bF,h] at h1
  | 2=>simp[bF,h] at h1
  | 3=>simp[bF,h] at h1
  | 4=>simp[bF,h] at h1
  | 5=>simp[bF,h] at h1
  | j+6=>simp[bF,h] at h1
theorem Zqw{w w'}{S:Nat->Prop}(g:Gr w w' S)(Q:∀ q,S q->Mr w q){a n l}(h:OpsAt w a n l):OpsAt w' a n l:=by
 refine⟨h.1,λh0=>?_⟩;obtain⟨b,off,rfl,hc⟩:=h.2 h0;refine⟨b,off,rfl,λi hi=>?_⟩;obtain⟨c0,c1⟩:=hc i hi;have z:¬S b:=λq=>(Q b q).1 _ _ _ c0 c1;exact⟨g.cell c0 z,g.cell c1 z⟩
theorem Zly{w w'}{S:Nat->Prop}(g:Gr w w' S)(Q:∀ q,S q->Mr w q){a n C}(h:CoinsAt w a n C):CoinsAt w' a n C:=by
 refine⟨h.1,λh0=>?_⟩;obtain⟨b,off,rfl,hl,hc⟩:=h.2 h0;refine⟨b,off,rfl,aD hl g.size,λi hi=>?_⟩;obtain⟨c0,c1,c2,⟨la,ln,lc,c3,h5,h6⟩,c4,c5⟩:=hc i hi;have z:¬S b:=λq=>(Q b q).1 _ _ _ c0 c1;exact⟨g.cell c0 z,g.cell c1 z,g.cell c2 z,⟨la,ln,lc,g.cell c3 z,Zqw g Q h5,h6⟩,g.cell c4 z,g.cell c5 z⟩
def Qk(β : Int->List Zj)(s:Int)(C:List Zj):Int->List Zj:=λx=>if x=s then C else β x
structure Ri(w:World)(ka:Option Addr)(kn:Nat)(K:List ByteArray)(na:Option Addr)(nn:Nat)(N:List Int)(ba:Option Addr)(bn:Nat)(T:List Zl)(pa:Option Addr)(pn:Nat)(P:List TxD):Prop where
 k:Bk.TextsAt w ka kn K
 n:Tr.IntsAt w na nn N
 b:Tr.BlksAt w ba bn T
 p:TxsAt w pa pn P
def Zmx(w:World)(f:Int->Value)(β : Int->List Zj):Prop:=∀ x,∃ a m c,f x = F a m c/\CoinsAt w a m (β x)/\SlOk a m c
structure DeskAt(Z:Nat->Prop)(w:World)(d bm m:Nat)(ka:Option Addr)(kn kc:Nat)(K:List ByteArray)(na:Option Addr)(nn nc:Nat)(N:List Int)(ba:Option Addr)(bn bc:Nat)(T:List Zl)(pa:Option Addr)(pn pc:Nat)(P:List TxD)(tip:Int)(f:Int->Value)(β : Int->List Zj):Prop where
 box:w.heap[d]? = some (cZ [F ka kn kc,F na nn nc,F ba bn bc,F pa pn pc,E J tip,.map (some bm)].toArray 254 (0,0))
 dat:∀ W,Gr w W (λq=>q=d\/q=bm\/Z q)->Ri W ka kn K na nn N ba bn T pa pn P
 coi:∀ W,Gr w W (λq=>q=d\/q=bm)->Zmx W f β
 sk:SlOk ka kn kc
 sn:SlOk na nn nc
 sb:SlOk ba bn bc
 sp:SlOk pa pn pc
 mp:BMap bm m f w
 ne:d≠bm
 zb:∀ q,Z q->q<w.heap.size
section
variable {Z : Nat -> Prop} {w w' : World} {d bm m : Nat} {ka na ba pa : Option Addr} {kn kc nn nc bn bc pn pc : Nat} {K : List ByteArray} {N : List Int} {T : List Zl} {P : List TxD} {tip : Int} {f : Int -> Value} {β : Int -> List Zj}
theorem DeskAt.now(h:DeskAt Z w d bm m ka kn kc K na nn nc N ba bn bc T pa pn pc P tip f β):Ri w ka kn K na nn N ba bn T pa pn P:=h.dat w (Gr.refl _ _)
theorem DeskAt.c(h:DeskAt Z w d bm m ka kn kc K na nn nc N ba bn bc T pa pn pc P tip f β):Zmx w f β:=h.coi w (Gr.refl _ _)
theorem DeskAt.later(h:DeskAt Z w d bm m ka kn kc K na nn nc N ba bn bc T pa pn pc P tip f β)(z:ZD w w'):DeskAt Z w' d bm m ka kn kc K na nn nc N ba bn bc T pa pn pc P tip f β:=
 ⟨(z.block d (aA h.box)).trans h.box,λW g=>h.dat W ((Gr.of z).trans g),λW g=>h.coi W ((Gr.of z).trans g),h.sk,h.sn,h.sb,h.sp,h.mp.keep z,h.ne,λq e=>aD (h.zb q e) z.size⟩
theorem DeskAt.np(h:DeskAt Z w d bm m ka kn kc K na nn nc N ba bn bc T pa pn pc P tip f β)(q:Nat)(hq:q=d\/q=bm):Mr w q:=by
 rcases hq with rfl|rfl
 ·exact Bs h.box
 ·obtain⟨Q,c,z⟩:=h.mp.isMap;exact Zax z
theorem DeskAt.book(h:DeskAt Z w d bm m ka kn kc K na nn nc N ba bn bc T pa pn pc P tip f β):KAt w d K:=⟨ka,kn,kc,Zb h.box 0 _ rfl,h.now.k,h.sk,aA h.box⟩
theorem DeskAt.put(h:DeskAt Z w d bm m ka kn kc K na nn nc N ba bn bc T pa pn pc P tip f β){W:World}(hb:ZD w W){s:Int}{a n c C}(Q:CoinsAt W a n C)(sC:SlOk a n c)
  (hm:BMap bm (m+1) (λy=>if y=s then F a n c else f y) w') (hg:W.grownBy w' (some bm)):DeskAt Z w' d bm (m+1) ka kn kc K na nn nc N ba bn bc T pa pn pc P tip (λy=>if y=s then F a n c else f y) (Qk β s C):=by
 have h2:=h.later hb;have g:Gr W w' (λq=>q=bm):=(Gr.refl W (λq=>q=bm)).grown hg (λq e=>.inl (by injection e with e;exact e.symm));have g2:Gr W w' (λq=>q=d\/q=bm):=g.mono (λq _ e=>.inr e);refine⟨g.heap h2.box h.ne,λV z=>h2.dat V ((g.mono (λq _ e=>.inr (.inl e))).trans z),λV z=>?_,h.sk,h.sn,h.sb,h.sp,hm,h.ne,λq e=>aD (h2.zb q e) g.size⟩;have D:=h2.coi V (g2.trans z);intro x;unfold Qk;by_cases e:x=s
 ·simp only[if_pos e];exact⟨a,n,c,rfl,Zly (g2.trans z) (λq hq=>h2.np q hq) Q,sC⟩
 ·simp only[if_neg e];exact D x
theorem DeskAt.widen(h:DeskAt Z w d bm m ka kn kc K na nn nc N ba bn bc T pa pn pc P tip f β)(z:ZD w w')(r:Nat)(Q:w.heap.size<=r)(aa:r<w'.heap.size):DeskAt (λq=>Z q\/q=r) w' d bm m ka kn kc K na nn nc N ba bn bc T pa pn pc P tip f β:=by
 have h2:=h.later z;refine⟨h2.box,λW g=>h.dat W ((Gr.of z).far g (λq e=>?_)),h2.coi,h2.sk,h2.sn,h2.sb,h2.sp,h2.mp,h2.ne,λq e=>?_⟩
 ·rcases e with e|e|e|e
  ·exact .inr (.inl e)
  ·exact .inr (.inr (.inl e))
  ·exact .inr (.inr (.inr e))
  ·exact .inl (e ▸ Q)
 ·rcases e with e|e
  ·exact h2.zb q e
  ·exact e ▸ aa
end
theorem Ke{P:Program}{z}{o:Oper}{a:Act}{w}{K:Act->World->Prop}{ah:Exit->Act->World->Prop}{aa:Prop}
  (hw:Region.wanted o (yielded z a.tmps)=true) (f:FuncId) (Q) (he:(execOp a.eval o).run P w = .ok (.enter f Q) w) {R:Ending->World->Prop} (hc:Calls P f Q w R) (h:∀ e w',R e w'->∃ v,e = dA v/\K (a.put o.dst v) w') :
  if Region.wanted o (yielded z a.tmps)=true then Oper.wp P o a w K ah else aa:=by
 rw[if_pos hw];unfold Oper.wp;rw[he,Oper.upon_enter];refine hc.mono ?_;intro e w' hr;obtain⟨v,rfl,hk⟩:=h e w' hr;exact hk
