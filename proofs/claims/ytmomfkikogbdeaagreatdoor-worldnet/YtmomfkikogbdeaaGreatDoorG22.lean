import Derived.Test.YtmomfkikogbdeaaGreatDoorH
import Derived.Test.YtmomfkikogbdeaaGreatDoorG21
open Go.Proofs.Tryz
open Decidable renaming not_not->aZ
open Go renaming lt_of_block->aA,maxLen->bP,bodyPost_ret->bA
open Go.Addr renaming add_lit->cB
open Go.Ending renaming returned->cY
open Go.IntKind renaming i64->J
open Go.Lib renaming run_eql_slice_nil->aY
open Go.Obj renaming cells->cW
open Go.Proofs.Tryz renaming prog->aB,underlying48->cS
open Go.RowKit renaming Below->aD,intOf->cE
open Go.Value renaming int->E,slice->F,tuple->cZ,bool->dB
open Go.World.ownsRow renaming cellAt->bK
open List renaming length_take->bL,drop_eq_getElem_cons->aN,drop_of_length_le->cK,take_succ_eq_append_getElem->aW,length_eq_zero_iff->aI,getElem?_eq_some_iff->cO
open Nat renaming le_refl->aH,zero_le->aQ,lt_of_lt_of_le->aE
set_option maxHeartbeats 3200000
set_option maxRecDepth 10000
namespace Go.Proofs.YtmomfkikogbdeaaGreatDoor
open Bk (Right nm nameR)
theorem Gu{h:Int}{K K':List ByteArray}{C C':List Zj}{t:TxD}(e:doD h (K,C) t=(0,K',C')) :
  Zv t=0/\t.2.1.length≠0/\∃ n S,nameR K (txT t)=(K',n,0)/\apD C t n h=(0,C',S):=by
 unfold doD at e;split at e
 ·rename_i q;injection e with e _;exact absurd e q
 rename_i q1;split at e
 ·injection e with e _;exact absurd (show (4:Int)=0 from e) (by decide)
 rename_i q2;split at e
 ·rename_i q;injection e with e _;exact absurd e q
 rename_i q3;split at e
 ·rename_i q;injection e with e _;exact absurd e q
 rename_i q4;injection e with _ e;injection e with z Q;exact⟨aZ.1 q1,q2,_,_,Prod.ext z (Prod.ext rfl (aZ.1 q3)),Prod.ext (aZ.1 q4) (Prod.ext Q rfl)⟩
theorem Gv{h:Int}{K K':List ByteArray}{C C':List Zj}{t:TxD}(hK:Right K)(e:doD h (K,C) t=(0,K',C')) :
  Right K'/\(∃ M,K'=K++M)/\Y2 C'/\Zp C'<=Zp C/\Zv t=0:=by
 obtain⟨h1,h2,n,S,h3,h4⟩:=Gu e;obtain⟨z,Q,_⟩:=Gw hK (show (doD h (K,C) t).1=0 by rw[e]);rw[e] at z Q;exact⟨z,Q,(F4 h4).2.1,(Zfl h4).2 h2,h1⟩
def swT(h:Int):List TxD->List ByteArray×List Zj->List (TxD×List Zj)
 | [],_=>[]
 | t :: l,s=>if (doD h s t).1=0 then (t,(doD h s t).2.2) :: swT h l (doD h s t).2 else swT h l s
def Yw(C:List Zj)(X:List (TxD×List Zj)):List Zj:=(X.getLast?.map (·.2)).getD C
theorem Wj(C:List Zj):Yw C []=C:=rfl
theorem Xp(C:List Zj)(X:List (TxD×List Zj))(t:TxD)(C':List Zj):Yw C (X++[(t,C')])=C':=by simp[Yw]
theorem Ba(C:List Zj)(X:List (TxD×List Zj))(t:TxD)(C':List Zj):Yw C ((t,C') :: X)=Yw C' X:=by
 cases X with
 | nil=>rfl
 | cons y X=>
  obtain⟨z,Q⟩:∃ z,(y :: X).getLast? = some z:=⟨_,List.getLast?_eq_some_getLast (by simp)⟩;unfold Yw;rw[List.getLast?_cons_cons,Q];rfl
theorem Q6(h:Int):∀ (l:List TxD) (s:List ByteArray×List Zj),(swT h l s).map (·.1)=(Z0 h l s).1
 | [],_=>rfl
 | t :: l,s=>by
  rw[swT,Z0];split
  ·rw[List.map_cons,Q6 h l]
  ·exact Q6 h l s
theorem Pk(h:Int):∀ (l:List TxD) (s:List ByteArray×List Zj),Yw s.2 (swT h l s)=(Z0 h l s).2.2
 | [],_=>rfl
 | t :: l,s=>by
  rw[swT,Z0];split
  ·rw[Ba,Pk h l]
  ·exact Pk h l s
theorem Sy(h:Int):∀ (l:List TxD) (s:List ByteArray×List Zj),(swT h l s).length<=l.length
 | [],_=>aH _
 | t :: l,s=>by
  rw[swT];split
  ·rw[List.length_cons,List.length_cons];exact Nat.succ_le_succ (Sy h l _)
  ·exact Nat.le_succ_of_le (Sy h l s)
theorem Pj{h:Int}:∀ (l:List TxD) (K:List ByteArray) (C:List Zj),Right K->Y2 C->Y2 (Z0 h l (K,C)).2.2/\Zp (Z0 h l (K,C)).2.2<=Zp C/\∀ t∈(Z0 h l (K,C)).1,Zv t=0/\t.2.1.length≠0
 | [],K,C,_,hC=>⟨hC,Int.le_refl _,λ_ q=>by cases q⟩
 | t :: l,K,C,hK,hC=>by
  rw[Z0];by_cases q:(doD h (K,C) t).1=0
  ·rw[if_pos q];have e:doD h (K,C) t=(0,(doD h (K,C) t).2.1,(doD h (K,C) t).2.2):=Prod.ext q rfl;obtain⟨z,_,Q,d4,d5⟩:=Gv hK e;obtain⟨s1,s2,s3⟩:=Pj (h:=h) l _ _ z Q;refine⟨s1,Int.le_trans s2 d4,λx hx=>?_⟩
   rcases List.mem_cons.1 hx with rfl|hx
   ·exact⟨d5,(Gu e).2.1⟩
   ·exact s3 x hx
  ·rw[if_neg q];exact Pj l K C hK hC
def swE(K:List ByteArray)(C:List Zj)(l:List TxD)(h:Int):Int:=
 if Jn K C h≠0 then Jn K C h else if 8<l.length then 2 else 0
theorem Uu{K:List ByteArray}{C:List Zj}{h:Int}(e:Jn K C h=0):Right K/\Y2 C/\1<=h/\h<=1000:=by
 unfold Jn at e;split at e
 ·rename_i q;exact absurd e q
 rename_i Q;split at e
 ·rename_i q;exact absurd e q
 rename_i q2;split at e
 ·exact absurd e (by decide)
 rename_i z;simp at z;exact⟨(Bk.right_iff K).1 (aZ.1 Q),(Yr C).1 (aZ.1 q2),z.1,z.2⟩
theorem Df{K:List ByteArray}{C:List Zj}{h:Int}(hK:Right K)(z:Y2 C)(h1:1<=h)(h2:h<=1000):Jn K C h=0:=by
 unfold Jn;rw[if_neg (λq=>q ((Bk.right_iff K).2 hK)),if_neg (λq=>q ((Yr C).2 z)),if_neg (by simp[h1,h2])]
theorem Rj{K:List ByteArray}{C:List Zj}{l:List TxD}{h:Int}(e:swE K C l h=0):Jn K C h=0/\l.length<=8:=by
 unfold swE at e;split at e
 ·rename_i q;exact absurd e q
 rename_i z;split at e
 ·exact absurd e (by decide)
 exact⟨aZ.1 z,by omega⟩
def P8(h n:Int)(lk:List (Int×Int)):TxD:=(h,[],[(n,lk)])
def Yq:Zl:=(0,0,0,0,[])
def Zen(h:Int)(l:List TxD)(K:List ByteArray)(C:List Zj):Int:=Zp C - Zp (Yw C ((swT h l (K,C)).take 3))
def mkE(K:List ByteArray)(C:List Zj)(l:List TxD)(p h wk n:Int)(lk:List (Int×Int)):Int×Zl:=
 if swE K C l h≠0 then (swE K C l h,Yq) else if (rwD h).1+Zen h l K C=0 then (9,Yq) else
 if Yn (p,h,wk,n,P8 h ((rwD h).1+Zen h l K C) lk :: (Z0 h l (K,C)).1.take 3)≠0 then (Yn (p,h,wk,n,P8 h ((rwD h).1+Zen h l K C) lk :: (Z0 h l (K,C)).1.take 3),Yq) else
 (0,(p,h,wk,n,P8 h ((rwD h).1+Zen h l K C) lk :: (Z0 h l (K,C)).1.take 3))
open Go.RowKit
theorem El(x:Zj)(a:Option Addr)(n c:Nat)(w:World):ZH 81 #[cnV x a n c] w (dB true):=by
 unfold cnV;have z:=Zd (Zh w (cW #[E J x.1,E J x.2.1,E J (cv x),F a n c,E J (ch x),dB (cr x)] 124));go_enter func81,ntmps81;go_wp2;go_ret;exact⟨rfl,Za z⟩
theorem Ng(a:Option Addr)(n c:Nat)(L:List Zj)(x s:Int)(w:World)(h:CoinsAt w a n L)(hx:Yj L=x)(hs:(if x=0 then Zp L else 0)=s) :
  ZH 80 #[F a n c,.func (.func 81) #[] #[]] w (cZ #[E J s,E J x]):=by
 have C1:=Zd (Vj a n c L x w h hx);by_cases e1:x=0
 ·subst e1;rw[if_pos rfl] at hs;have hR:=(Yr L).1 hx;have hn:n<=720:=by rw[<-h.1];exact hR.len
  have am:=Zd (λk=>Sz L k (λca hz=>by have:=Yy (hR.one ca hz);omega));have HL:=Zd h;have HZ:=Zd h.1;have HS:=Zd hs;clear hR h hx hs;go_enter func80,ntmps80;go_wp2_with fail;refine C1.mono ?_;rintro e w2 ⟨rfl,Q⟩;have af:=Zd Q;clear Q C1;go_wp2
  go_loopw [7,17] (λsv i wr=>∃ (k:Nat) (d:Int),k<=n/\sv = E J d/\i = E J k/\Hid (d=Zp (L.take k))/\Hid (aD w.heap.size w wr)) (λ_ i _=>n - (cE i).toNat)
  case atStart=>exact⟨0,0,aQ _,rfl,rfl,rfl,af⟩
  case round=>
   obtain⟨k,d,hk,rfl,rfl,A,HB⟩:=hrel;by_cases bg:k<n
   ·have ar:k<L.length:=(by rw[Za HZ];exact bg);obtain⟨b,off,rfl,bt,bf⟩:=HL.2 (by omega);have aj:=CoinAt.kept _ _ _ _ _ HB (bf k ar);have b1:=am k;have b2:=am (k+1);have z:=Tf L k ar;obtain⟨y,hy⟩:=ZF (L[k]);rw[hy] at aj z;obtain⟨la,ln,lc,g0,g1,g2,g3,g4,g5,_,_⟩:=aj.val;obtain⟨v,hv⟩:=ZF (cv y);have T1:=λw=>El y la ln lc w;unfold cnV at T1;rw[hv] at g2 z T1;have bd:=Zd T1;rw[<-Za A] at b1 z;rw[z] at b2;have A2:Hid (d+v=Zp (L.take (k+1))):=z.symm;obtain⟨X,hX⟩:=ZG (wr.alloc (cW #[E J y.1,E J y.2.1,E J v,F la ln lc,E J (ch y),dB (cr y)] 124));have aq:aD wr.heap.size wr X:=(by rw[hX];exact Zh _ _);have ap:X.heap[wr.heap.size]? = some (cW [E J y.1,E J y.2.1,E J v,F la ln lc,E J (ch y),dB (cr y)].toArray 124 (0,0)):=(by rw[hX];exact Vm _ _ _ _ _ _ _ _);have m2:=Zb ap 2 _ rfl;have ay:=Zd (Zf HB aq);have bz:IntKind.i64.wrap (d+v)=d+v:=(by rw[IntKind.wrap_i64];omega);clear aj hy z A HB T1 hv ap aq;go_wp2_with fail;rw[<-hX];clear hX;refine (bd _).mono ?_;rintro e w3 ⟨rfl,ah⟩;have n2:=Ze ah m2;have bv:=World.block_lt_of_cell? _ _ n2;have ax:=Zd (Zf ay ah);clear ah m2;go_wp2;go_roundw
    case rel=>exact⟨k+1,d+v,by omega,rfl,by go_num,A2,ax⟩
    case measure=>simp[cE];omega
   ·have e:k=n:=(by omega);subst e
    have R:Hid (d=s):=by
     show _=_;rw[Za A,List.take_of_length_le (by rw[Za HZ];exact aH _)];exact Za HS
    clear A;go_wp2;go_ret2;exact⟨by rw[<-Za R];rfl,Za HB⟩
 ·rw[if_neg e1] at hs;subst hs;have g:(x != 0)=true:=by simp[e1]
  clear h hx e1;go_enter func80,ntmps80;go_wp2_with fail;refine C1.mono ?_;rintro e w2 ⟨rfl,Q⟩;have af:=Zd Q;clear Q C1;go_wp2;go_ret2;exact⟨rfl,Za af⟩
theorem Zck(a:Option Addr)(n c:Nat)(L:List Zj)(x s:Int)(w:World)(h:CoinsAt w a n L)(hx:Yj L=x)(Q:(if x=0 then Zp L else 0)=s) :
  ZH 25 #[F a n c] w (cZ #[E J s,E J x]):=by
 have C:=Zd (Ng a n c L x s w h hx Q);clear h hx Q;go_enter func25,ntmps25;go_wp2_with fail;refine C.mono ?_;rintro e w2 ⟨rfl,z⟩;have aa:=Zd z;clear z;go_wp2;go_ret2;exact⟨rfl,Za aa⟩
theorem Ky(a:Option Addr)(n c:Nat)(L:List Zj)(s:Int)(w:World)(h:CoinsAt w a n L)(z:Y2 L)(hs:Zp L=s) :
  ZH 158 #[F a n c] w (E J s):=by
 have C1:=Zd (Zck a n c L 0 s w h ((Yr L).2 z) (by rw[if_pos rfl];exact hs));clear h z hs;go_enter func158,ntmps158;go_wp2_with fail;refine C1.mono ?_;rintro e w1 ⟨rfl,Q⟩;have HB:=Zd Q;clear Q C1;go_wp2;go_ret;exact⟨rfl,Za HB⟩
namespace Tr
open Go.RowKit
def IntsAt(w:World)(a:Option Addr)(len:Nat)(Z:List Int):Prop:=
 Z.length=len/\(0<len->∃ b off,a=some ⟨b,off,none⟩/\b<w.heap.size/\∀ i (h:i<Z.length),w.cell? ⟨b,off+i,none⟩=some (E J Z[i]))
theorem IntsAt.later{w w':World}{a:Option Addr}{len:Nat}{Z:List Int}(h:IntsAt w a len Z)(z:aD w.heap.size w w'):IntsAt w' a len Z:=by
 refine⟨h.1,λh0=>?_⟩;obtain⟨b,off,e,hl,Q⟩:=h.2 h0;exact⟨b,off,e,aE hl z.size,λi hi=>Ze z (Q i hi)⟩
theorem IntsAt.nil(w:World)(a:Option Addr):IntsAt w a 0 []:=⟨rfl,λh=>absurd h (by omega)⟩
theorem IntsAt.take{w:World}{a:Option Addr}{len:Nat}{l:List Int}(h:IntsAt w a len l)(k:Nat)(hk:k<=len):IntsAt w a k (l.take k):=by
 have hl:=h.1;refine⟨by rw[bL];omega,λh0=>?_⟩;obtain⟨b,off,e,z,Q⟩:=h.2 (by omega);refine⟨b,off,e,z,λi hi=>?_⟩;rw[bL] at hi;rw[List.getElem_take];exact Q i (by omega)
theorem Qp{w:World}{base:Nat}{v:Value}{n:Nat}{N:List Int}(h:w.ownsRow base 3 1 v n (N.map (Value.int .i64))):∃ a cap,v = F a n cap/\SlOk a n cap/\IntsAt w a n N:=by
 have z:N.length=n:=by simpa using h.1
 rcases h.2 with ⟨rfl,rfl⟩|⟨g,cap,aa,rfl,hg,Q,h1,h2,h3,h4⟩
 ·exact⟨none,0,rfl,⟨aH _,aQ _,λ_=>⟨rfl,rfl⟩⟩,z,λh=>absurd h (by omega)⟩
 ·refine⟨_,cap,rfl,⟨h1,h2,λe=>by cases e⟩,z,λ_=>⟨g,0,rfl,aA Q,λi hi=>?_⟩⟩;rw[Nat.zero_add,bK h _ (by omega)];simp[hi]
def BlkAt(w:World)(b o:Nat)(x:Zl):Prop:=
 w.cell? ⟨b,o,none⟩=some (E J x.1)/\w.cell? ⟨b,o+1,none⟩=some (E J x.2.1)/\w.cell? ⟨b,o+2,none⟩=some (E J x.2.2.1)/\w.cell? ⟨b,o+3,none⟩=some (E J x.2.2.2.1) /\
 ∃ a n c,w.cell? ⟨b,o+4,none⟩=some (F a n c)/\TxsAt w a n x.2.2.2.2/\SlOk a n c
theorem BlkAt.kept:So BlkAt:=λ_ _ _ _ _ z h=>by
 obtain⟨h1,h2,h3,h4,a,n,c,h5,h6,h7⟩:=h;exact⟨Ze z h1,Ze z h2,Ze z h3,Ze z h4,a,n,c,Ze z h5,h6.later z,h7⟩
def BlksAt(w:World)(a:Option Addr)(len:Nat)(l:List Zl):Prop:=RowsAt BlkAt 5 w a len l
theorem BlksAt.later{w w':World}{a:Option Addr}{len:Nat}{l:List Zl}(h:BlksAt w a len l)(z:aD w.heap.size w w'):BlksAt w' a len l:=RowsAt.later BlkAt.kept h z
theorem cells3{w:World}{b o:Nat}{x y aa:Value}(h0:w.cell? ⟨b,o,none⟩=some x)(h1:w.cell? ⟨b,o+1,none⟩=some y)(h2:w.cell? ⟨b,o+2,none⟩=some aa):U9 w b o [x,y,aa]:=by
 intro j u z
 match j,z with
 | 0,z=>cases z;exact h0
 | 1,z=>cases z;exact h1
 | 2,z=>cases z;exact h2
 | j+3,z=>simp at z
theorem Zka{w:World}{b o:Nat}{x y:Value}(h0:w.cell? ⟨b,o,none⟩=some x)(h1:w.cell? ⟨b,o+1,none⟩=some y):U9 w b o [x,y]:=by
 intro j u z
 match j,z with
 | 0,z=>cases z;exact h0
 | 1,z=>cases z;exact h1
 | j+2,z=>simp at z
theorem Zjz{w:World}{b o:Nat}{x y aa r s:Value}(h0:w.cell? ⟨b,o,none⟩=some x)(h1:w.cell? ⟨b,o+1,none⟩=some y)(h2:w.cell? ⟨b,o+2,none⟩=some aa)(h3:w.cell? ⟨b,o+3,none⟩=some r)(h4:w.cell? ⟨b,o+4,none⟩=some s):U9 w b o [x,y,aa,r,s]:=by
 intro j u z
 match j,z with
 | 0,z=>cases z;exact h0
 | 1,z=>cases z;exact h1
 | 2,z=>cases z;exact h2
 | 3,z=>cases z;exact h3
 | 4,z=>cases z;exact h4
 | j+5,z=>simp at z
def inR:Rec InD where
 sz:=3
 C w cs x:=∃ a n c,cs=[E J x.1,E J x.2.1,F a n c]/\OpsAt w a n x.2.2/\SlOk a n c
 R:=InAt
 wide _ _ _:=by rintro ⟨a,n,c,rfl,_⟩;rfl
 one _ _ _:=by rintro ⟨a,n,c,rfl,_⟩ v z;simp at z;rcases z with rfl|rfl|rfl <;> rfl
 kept _ _ _ _ hb:=by rintro ⟨a,n,c,rfl,h1,h2⟩;exact⟨a,n,c,rfl,h1.later hb,h2⟩
 rc _ _ _ _:=by rintro ⟨h1,h2,a,n,c,h3,h4,h5⟩;exact⟨_,cells3 h1 h2 h3,a,n,c,rfl,h4,h5⟩
 cr _ _ _ _ _ h:=by rintro ⟨a,n,c,rfl,h1,h2⟩;exact⟨h 0 _ rfl,h 1 _ rfl,a,n,c,h 2 _ rfl,h1,h2⟩
def outR:Rec Z5 where
 sz:=2
 C w cs x:=∃ a n c,cs=[E J x.1,F a n c]/\OpsAt w a n x.2/\SlOk a n c
 R:=OutAt
 wide _ _ _:=by rintro ⟨a,n,c,rfl,_⟩;rfl
 one _ _ _:=by rintro ⟨a,n,c,rfl,_⟩ v z;simp at z;rcases z with rfl|rfl <;> rfl
 kept _ _ _ _ hb:=by rintro ⟨a,n,c,rfl,h1,h2⟩;exact⟨a,n,c,rfl,h1.later hb,h2⟩
 rc _ _ _ _:=by rintro ⟨h1,a,n,c,h3,h4,h5⟩;exact⟨_,Zka h1 h3,a,n,c,rfl,h4,h5⟩
 cr _ _ _ _ _ h:=by rintro ⟨a,n,c,rfl,h1,h2⟩;exact⟨h 0 _ rfl,a,n,c,h 1 _ rfl,h1,h2⟩
def txR:Rec TxD where
 sz:=3
 C w cs x:=∃ a n c z Q c',cs=[E J x.1,F a n c,F z Q c']/\InsAt w a n x.2.1/\SlOk a n c/\OutsAt w z Q x.2.2/\SlOk z Q c'
 R:=TxAt
 wide _ _ _:=by rintro ⟨a,n,c,z,Q,c',rfl,_⟩;rfl
 one _ _ _:=by rintro ⟨a,n,c,z,Q,c',rfl,_⟩ v hv;simp at hv;rcases hv with rfl|rfl|rfl <;> rfl
 kept _ _ _ _ hb:=by rintro ⟨a,n,c,z,Q,c',rfl,h1,h2,h3,h4⟩;exact⟨a,n,c,z,Q,c',rfl,h1.later hb,h2,h3.later hb,h4⟩
 rc _ _ _ _:=by rintro ⟨h1,⟨a,n,c,h2,h3,h4⟩,z,Q,c',h5,h6,h7⟩;exact⟨_,cells3 h1 h2 h5,a,n,c,z,Q,c',rfl,h3,h4,h6,h7⟩
 cr _ _ _ _ _ h:=by rintro ⟨a,n,c,z,Q,c',rfl,h1,h2,h3,h4⟩;exact⟨h 0 _ rfl,⟨a,n,c,h 1 _ rfl,h1,h2⟩,z,Q,c',h 2 _ rfl,h3,h4⟩
def blkR:Rec Zl where
 sz:=5
 C w cs x:=∃ a n c,cs=[E J x.1,E J x.2.1,E J x.2.2.1,E J x.2.2.2.1,F a n c]/\TxsAt w a n x.2.2.2.2/\SlOk a n c
 R:=BlkAt
 wide _ _ _:=by rintro ⟨a,n,c,rfl,_⟩;rfl
 one _ _ _:=by rintro ⟨a,n,c,rfl,_⟩ v z;simp at z;rcases z with rfl|rfl|rfl|rfl|rfl <;> rfl
 kept _ _ _ _ hb:=by rintro ⟨a,n,c,rfl,h1,h2⟩;exact⟨a,n,c,rfl,h1.later hb,h2⟩
 rc _ _ _ _:=by rintro ⟨h1,h2,h3,h4,a,n,c,h5,h6,h7⟩;exact⟨_,Zjz h1 h2 h3 h4 h5,a,n,c,rfl,h6,h7⟩
 cr _ _ _ _ _ h:=by rintro ⟨a,n,c,rfl,h1,h2⟩;exact⟨h 0 _ rfl,h 1 _ rfl,h 2 _ rfl,h 3 _ rfl,a,n,c,h 4 _ rfl,h1,h2⟩
def Uz(x:Int):List Int->Nat->Int
 | [],_=>-1
 | a :: r,k=>if x=a then k else Uz x r (k+1)
theorem Zhl(x:Int)(L:List Int)(k:Nat)(h:k<L.length):Uz x (L.drop k) k=if x=L[k] then (k:Int) else Uz x (L.drop (k+1)) (k+1):=by
 rw[aN h];rfl
theorem Zeh(x:Int)(L:List Int)(k:Nat)(h:L.length<=k):Uz x (L.drop k) k = -1:=by
 rw[cK h];rfl
def Yq:Zl:=(0,0,0,0,[])
def fnd(x:Int):List Int->List Zl->Zl
 | a :: N,b :: T=>if x=a then b else fnd x N T
 | _,_=>Yq
theorem Rw(x:Int):∀ (N:List Int) (T:List Zl) (k:Nat),N.length=T.length->(Uz x N k = -1/\x∉N/\fnd x N T=Yq)\/∃ i,∃ h:i<T.length,Uz x N k=(k+i:Nat)/\x∈N/\fnd x N T=T[i]
 | [],_,_,_=>.inl ⟨rfl,by simp,by simp[fnd]⟩
 | a :: N,[],_,h=>by cases h
 | a :: N,b :: T,k,h=>by
  by_cases e:x=a
  ·exact .inr ⟨0,by simp,by simp[Uz,e],by simp[e],by simp[fnd,e]⟩
  ·rcases Rw x N T (k+1) (by simpa using h) with ⟨h1,h2,h3⟩|⟨i,hi,h1,h2,h3⟩
   ·exact .inl ⟨by simp[Uz,e,h1],by simp[e,h2],by simp[fnd,e,h3]⟩
   ·exact .inr ⟨i+1,by simpa using hi,by simp[Uz,e,h1];omega,by simp[h2],by simp[fnd,e,h3]⟩
theorem Du(x:Int):∀ (N:List Int) (k:Nat),decide (0<=Uz x N k)=decide (x∈N)
 | [],_=>by simp[Uz]
 | a :: N,k=>by
  by_cases e:x=a
  ·simp[Uz,e]
  ·simp[Uz,e,Du x N (k+1)]
def nextD(N:List Int)(T:List Zl)(x:Int)(b:Zl):Int:=
 if (decide (1<=x) && decide (x<=120))=false then 3 else if Yn b≠0 then Yn b else if decide (x∈N)=true then 6
 else if b.1≠0/\decide (b.1∈N)=false then 5 else if b.2.1≠(fnd b.1 N T).2.1+1 then 4 else 0
def Y5(N:List Int)(T:List Zl):List Int->List Zl->Int
 | x :: M,b :: U=>if nextD N T x b≠0 then nextD N T x b else Y5 (N++[x]) (T++[b]) M U
 | _,_=>0
def chkTr(N:List Int)(T:List Zl):Int:=if N.length≠T.length then 4 else if 24<N.length then 2 else Y5 [] [] N T
theorem Zfd(N:List Int)(T:List Zl)(k:Nat)(h:k<N.length)(h':k<T.length):Y5 (N.take k) (T.take k) (N.drop k) (T.drop k) =
  if nextD (N.take k) (T.take k) N[k] T[k]≠0 then nextD (N.take k) (T.take k) N[k] T[k] else Y5 (N.take (k+1)) (T.take (k+1)) (N.drop (k+1)) (T.drop (k+1)):=by
 rw[aN h,aN h',Y5,aW h,aW h']
theorem Zbv(N:List Int)(T:List Zl)(k:Nat)(h:N.length<=k):Y5 (N.take k) (T.take k) (N.drop k) (T.drop k)=0:=by
 rw[cK h];unfold Y5;rfl
def Xg(T:List Zl):Prop:=∀ b∈T,1<=b.2.1/\b.2.1<=1000/\1<=b.2.2.1/\b.2.2.1<=1000
theorem Ty{b:Zl}(h:Yn b=0):1<=b.2.1/\b.2.1<=1000/\1<=b.2.2.1/\b.2.2.1<=1000:=by
 unfold Yn at h;split at h
 ·cases h
 ·next q=>simp[Wk] at q;omega
theorem Eb(x:Int):∀ (N:List Int) (T:List Zl),fnd x N T=Yq\/fnd x N T∈T
 | [],_=>.inl (by simp[fnd])
 | _ :: _,[]=>.inl (by simp[fnd])
 | a :: N,b :: T=>by
  by_cases e:x=a
  ·exact .inr (by simp[fnd,e])
  ·rcases Eb x N T with h|h
   ·exact .inl (by simp[fnd,e,h])
   ·exact .inr (by simp[fnd,e,h])
theorem Tt{T:List Zl}(h:Xg T)(x:Int)(N:List Int):0<=(fnd x N T).2.1/\(fnd x N T).2.1<=1000/\0<=(fnd x N T).2.2.1/\(fnd x N T).2.2.1<=1000:=by
 rcases Eb x N T with e|e
 ·rw[e];simp[Yq]
 ·have:=h _ e;omega
def upD(N:List Int)(T:List Zl):Nat->Int->List Int
 | 0,_=>[]
 | d+1,x=>upD N T d (fnd x N T).1++[x]
theorem Lq(N:List Int)(T:List Zl):∀ (d:Nat) (x:Int),(upD N T d x).length=d
 | 0,_=>rfl
 | d+1,x=>by simp[upD,Lq N T d]
def Tj(N:List Int)(T:List Zl)(x:Int):List Int:=upD N T (fnd x N T).2.1.toNat x
def Jw(N:List Int)(T:List Zl)(s:Int):List Int->Int
 | []=>s
 | x :: P=>Jw N T (s+(fnd x N T).2.2.1) P
theorem Zfw(N:List Int)(T:List Zl)(s:Int)(P:List Int)(k:Nat)(h:k<P.length):Jw N T s (P.drop k)=Jw N T (s+(fnd P[k] N T).2.2.1) (P.drop (k+1)):=by
 rw[aN h];rfl
theorem Zcf(N:List Int)(T:List Zl)(s:Int)(P:List Int)(k:Nat)(h:P.length<=k):Jw N T s (P.drop k)=s:=by
 rw[cK h];rfl
def Wg(N:List Int)(T:List Zl)(x:Int):Int:=Jw N T 0 (Tj N T x)
def Xi(N:List Int)(T:List Zl)(b m:Int):List Int->Int
 | []=>b
 | x :: P=>if m<Wg N T x\/Wg N T x=m/\x<b then Xi N T x (Wg N T x) P else Xi N T b m P
theorem Zff(N:List Int)(T:List Zl)(b m:Int)(P:List Int)(k:Nat)(h:k<P.length):Xi N T b m (P.drop k)=if m<Wg N T P[k]\/Wg N T P[k]=m/\P[k]<b then Xi N T P[k] (Wg N T P[k]) (P.drop (k+1)) else Xi N T b m (P.drop (k+1)):=by
 rw[aN h];rfl
theorem Zby(N:List Int)(T:List Zl)(b m:Int)(P:List Int)(k:Nat)(h:P.length<=k):Xi N T b m (P.drop k)=b:=by
 rw[cK h];rfl
def bstD(N:List Int)(T:List Zl):Int×Int:=if chkTr N T≠0 then (0,chkTr N T) else (Xi N T 0 0 N,0)
theorem Tryz.infoIntC:(Tryz.prog.info? 3).map (λi=>(i.zero,i.size,i.bytes))=some (some (E J 0),1,8):=by kernel_rfl
theorem Mk(w:World):Calls aB 47 #[F none 0 0] w λe w'=>e = cY (F none 0 0)/\w=w':=by
 have z:=λw=>aY (P:=aB) w 25 3 none 0 0 0 0 underlying25;go_enter func47,ntmps47;go_wp2;go_ret;exact⟨rfl,rfl⟩
theorem H8(Q:Addr)(n c:Nat)(z:List Value)(w:World)(hn:n<=4096)(hz:z.length=n*1)(h1:∀ u∈z,u.oneCell'=true)(hc:∀ j u,z[j]? = some u->w.cell? (Q.add j)=some u) :
  Calls aB 47 #[F (some Q) n c] w λe w'=>∃ v,e = cY v/\w'.ownsRow w.heap.size 3 1 v n z/\aD w.heap.size w w':=by
 obtain⟨i0,hi,ap,aq,ar⟩:=info_parts Tryz.infoIntC;have hb:=Zh w (cW #[] 3);have HC:Hid (∀ j u,z[j]? = some u->(w.alloc (cW #[] 3)).cell? (Q.add j)=some u):=λj u hj=>Ze hb (hc j u hj);have HB:=Zd hb;have HZ:=Zd hz;have H1:=Zd h1;have HO:=Zd (Xj w 3 1);have he:=λw=>aY (P:=aB) w 25 3 (some Q) n c 0 0 underlying25;clear hc hb hz h1;go_enter func47,ntmps47
 go_wp2_with (at_builtin;refine wpList_append_own _ rfl _ _ 25 rfl w.heap.size 3 i0 (E J 0) 1 8 underlying25 hi ap aq ar rfl (by decide) _ _ _ rfl HO Q n c z rfl HZ HC H1 (by unfold bP;omega) (by omega) HB.size ?_;intro v2 w3 af ae _)
 have HW:Hid (w3.ownsRow w.heap.size 3 1 v2 n z):=by show World.ownsRow _ _ _ _ _ _ _;simpa using af
 have aj:=Zd (HB.grown ae HB.size (Y9 HO));clear af ae;go_wp2;go_ret;exact⟨v2,rfl,Za HW,Za aj⟩
theorem Ml(a:Option Addr)(n c:Nat)(L:List Int)(w:World)(hn:n<=4096)(h:IntsAt w a n L)(hs:SlOk a n c) :
  Calls aB 47 #[F a n c] w λe w'=>∃ v,e = cY v/\w'.ownsRow w.heap.size 3 1 v n (L.map (Value.int .i64))/\aD w.heap.size w w':=by
 obtain⟨hl,hc⟩:=h;cases a with
 | none=>
  obtain⟨rfl,rfl⟩:=hs.2.2 rfl;have e:L=[]:=aI.1 hl;subst e;exact (Mk w).mono λe w' ⟨x,y⟩=>⟨_,x,y ▸ World.ownsRow_nil _ _ _ _,y ▸ Below.refl _ _⟩
 | some ad=>
  refine (H8 ad n c (L.map (Value.int .i64)) w hn (by simp[hl]) (ints_oneCell _ _) (λj u z=>?_));have Q:j<L.length:=by have:=(cO.1 z).1;simpa using this
  obtain⟨b,off,e,_,ac⟩:=hc (by omega);cases e;rw[cB,ac j Q];simpa[Q] using z
theorem U6(Q:Addr)(n c:Nat)(z:List Value)(w:World)(hn:n<=8796093022208)(hz:z.length=n*2)(h1:∀ u∈z,u.oneCell'=true)(hc:∀ j u,z[j]? = some u->w.cell? (Q.add j)=some u) :
  Calls aB 150 #[F (some Q) n c] w λe w'=>∃ v,e = cY v/\w'.ownsRow w.heap.size 164 2 v n z/\aD w.heap.size w w':=by
 obtain⟨i0,hi,ap,aq,ar⟩:=info_parts Tryz.infoOpC;have hb:=Zh w (cW #[] 164);have HC:Hid (∀ j u,z[j]? = some u->(w.alloc (cW #[] 164)).cell? (Q.add j)=some u):=λj u hj=>Ze hb (hc j u hj);have HB:=Zd hb;have HZ:=Zd hz;have H1:=Zd h1;have HO:=Zd (Xj w 164 2);have he:=λw=>aY (P:=aB) w 48 164 (some Q) n c 0 0 cS;clear hc hb hz h1;go_enter func150,ntmps150
 go_wp2_with (at_builtin;refine wpList_append_own _ rfl _ _ 48 rfl w.heap.size 164 i0 (.agg #[E J 0,E J 0]) 2 16 cS hi ap aq ar rfl (by decide) _ _ _ rfl HO Q n c z rfl HZ HC H1 (by unfold bP;omega) (by omega) HB.size ?_;intro v2 w3 af ae _)
 have HW:Hid (w3.ownsRow w.heap.size 164 2 v2 n z):=by show World.ownsRow _ _ _ _ _ _ _;simpa using af
 have aj:=Zd (HB.grown ae HB.size (Y9 HO));clear af ae;go_wp2;go_ret;exact⟨v2,rfl,Za HW,Za aj⟩
theorem Ja{w:World}{base:Nat}{v:Value}{n:Nat}{l:List (Int×Int)}(h:w.ownsRow base 164 2 v n (Y3 l)):∃ a c,v = F a n c/\OpsAt w a n l/\SlOk a n c:=by
 have z:l.length=n:=by have:=h.1;rw[Y6] at this;omega
 rcases h.2 with ⟨rfl,rfl⟩|⟨g,cap,ab,rfl,hg,hh,h1,h2,h3,h4⟩
 ·exact⟨none,0,rfl,⟨z,λh=>absurd h (by omega)⟩,⟨aH _,aQ _,λ_=>⟨rfl,rfl⟩⟩⟩
 ·refine⟨_,cap,rfl,⟨z,λ_=>⟨g,0,rfl,λi hi=>?_⟩⟩,⟨h1,h2,λe=>by cases e⟩⟩;obtain⟨Q,f1⟩:=Ry l i (by omega);rw[Nat.zero_add,bK h _ (by omega),bK h _ (by omega)];exact⟨Q,f1⟩
theorem V7(a:Option Addr)(n c:Nat)(l:List (Int×Int))(w:World)(hn:n<=8796093022208)(h:OpsAt w a n l)(hs:SlOk a n c) :
  Calls aB 150 #[F a n c] w λe w'=>∃ z Q,e = cY (F z n Q)/\Fresh w.heap.size w' (λw2=>OpsAt w2 z n l/\SlOk z n Q)/\aD w.heap.size w w':=by
 obtain⟨hl,hc⟩:=h;cases a with
 | none=>
  obtain⟨rfl,rfl⟩:=hs.2.2 rfl;exact (Qt w).mono λe w' ⟨x,y⟩=>⟨none,0,x,λ_ _=>⟨⟨hl,λh=>absurd h (by omega)⟩,hs⟩,y ▸ Below.refl _ _⟩
 | some ad=>
  have af:∀ j u,(Y3 l)[j]? = some u->w.cell? (ad.add j)=some u:=λj u hj=>by
   have an:j<l.length*2:=(by rw[<-Y6];exact (cO.1 hj).1);obtain⟨b,off,e,ag⟩:=hc (by omega);cases e;rw[cB];exact Qr hl ag j u hj
  refine (U6 ad n c (Y3 l) w hn (by rw[Y6,hl]) (Jf l) af).mono ?_;rintro e w' ⟨v,rfl,x,y⟩;obtain⟨z,Q,rfl,h1,h2⟩:=Ja x;refine⟨z,Q,rfl,λw2 g2=>?_,y⟩;have x2:=g2.own x (λk hk=>by have:=(x.lt k hk).1;omega);obtain⟨a2,c2,e,h3,h4⟩:=Ja x2;cases e;exact⟨h3,h4⟩
theorem Tryz.infoInC:(Tryz.prog.info? 119).map (λi=>(i.zero,i.size,i.bytes))=some (some (.agg #[E J 0,E J 0,F none 0 0]),3,40):=by kernel_rfl
theorem Fp(w:World):Calls aB 159 #[F none 0 0] w λe w'=>e = cY (F none 0 0)/\w=w':=by
 have z:=λw=>aY (P:=aB) w 56 119 none 0 0 0 0 underlying56;go_enter func159,ntmps159;go_wp2;go_ret;exact⟨rfl,rfl⟩
theorem R8(Q:Addr)(n c:Nat)(z:List Value)(w:World)(hn:n<=3518437208883)(hz:z.length=n*3)(h1:∀ u∈z,u.oneCell'=true)(hc:∀ j u,z[j]? = some u->w.cell? (Q.add j)=some u) :
  Calls aB 159 #[F (some Q) n c] w λe w'=>∃ v,e = cY v/\w'.ownsRow w.heap.size 119 3 v n z/\aD w.heap.size w w':=by
 obtain⟨i0,hi,ap,aq,ar⟩:=info_parts Tryz.infoInC;have hb:=Zh w (cW #[] 119);have HC:Hid (∀ j u,z[j]? = some u->(w.alloc (cW #[] 119)).cell? (Q.add j)=some u):=λj u hj=>Ze hb (hc j u hj);have HB:=Zd hb;have HZ:=Zd hz;have H1:=Zd h1;have HO:=Zd (Xj w 119 3);have he:=λw=>aY (P:=aB) w 56 119 (some Q) n c 0 0 underlying56;clear hc hb hz h1;go_enter func159,ntmps159
 go_wp2_with (at_builtin;refine wpList_append_own _ rfl _ _ 56 rfl w.heap.size 119 i0 (.agg #[E J 0,E J 0,F none 0 0]) 3 40 underlying56 hi ap aq ar rfl (by decide) _ _ _ rfl HO Q n c z rfl HZ HC H1 (by unfold bP;omega) (by omega) HB.size ?_;intro v2 w3 af ae _)
 have HW:Hid (w3.ownsRow w.heap.size 119 3 v2 n z):=by show World.ownsRow _ _ _ _ _ _ _;simpa using af
 have aj:=Zd (HB.grown ae HB.size (Y9 HO));clear af ae;go_wp2;go_ret;exact⟨v2,rfl,Za HW,Za aj⟩
theorem Fq(a:Option Addr)(n c:Nat)(L:List InD)(w0 w:World)(hn:n<=3518437208883)(h:RowsAt inR.R 3 w0 a n L)(hb:aD w0.heap.size w0 w)(hs:SlOk a n c) :
  Calls aB 159 #[F a n c] w λe w'=>∃ v,∃ K:List (List Value),e = cY v/\AllC inR w0 K L/\w'.ownsRow w.heap.size 119 3 v n K.flatten/\aD w.heap.size w w':=by
 obtain⟨Q,hc⟩:=h;cases a with
 | none=>
  obtain⟨rfl,rfl⟩:=hs.2.2 rfl;have e:L=[]:=aI.1 Q;subst e;exact (Fp w).mono λe w' ⟨x,y⟩=>⟨_,[],x,⟨rfl,λi h=>absurd h (by simp)⟩,y ▸ World.ownsRow_nil _ _ _ _,y ▸ Below.refl _ _⟩
 | some ad=>
  by_cases h0:n=0
  ·subst h0;have e:L=[]:=aI.1 Q;subst e;exact (R8 ad 0 c [] w hn rfl (λu hu=>by cases hu) (λj u z=>by simp at z)).mono λe w' ⟨v,x,y,ak⟩=>⟨v,[],x,⟨rfl,λi h=>absurd h (by simp)⟩,y,ak⟩
  ·obtain⟨b,off,e,_,af⟩:=hc (by omega);obtain⟨rfl⟩:=e;obtain⟨K,h1,h3⟩:=W3 inR af;have hk:K.flatten.length=n*3:=(by rw[Xa h1,Q];rfl);exact (R8 ⟨b,off,none⟩ n c K.flatten w hn hk (flat_one h1) (λj u z=>by rw[cB];exact Ze hb (h3 j u z))).mono λe w' ⟨v,x,y,ak⟩=>⟨v,K,x,h1,y,ak⟩
theorem Tryz.infoOutC:(Tryz.prog.info? 122).map (λi=>(i.zero,i.size,i.bytes))=some (some (.agg #[E J 0,F none 0 0]),2,32):=by kernel_rfl
theorem Mg(w:World):Calls aB 160 #[F none 0 0] w λe w'=>e = cY (F none 0 0)/\w=w':=by
 have z:=λw=>aY (P:=aB) w 57 122 none 0 0 0 0 underlying57;go_enter func160,ntmps160;go_wp2;go_ret;exact⟨rfl,rfl⟩
theorem Js(Q:Addr)(n c:Nat)(z:List Value)(w:World)(hn:n<=4398046511104)(hz:z.length=n*2)(h1:∀ u∈z,u.oneCell'=true)(hc:∀ j u,z[j]? = some u->w.cell? (Q.add j)=some u) :
  Calls aB 160 #[F (some Q) n c] w λe w'=>∃ v,e = cY v/\w'.ownsRow w.heap.size 122 2 v n z/\aD w.heap.size w w':=by
 obtain⟨i0,hi,ap,aq,ar⟩:=info_parts Tryz.infoOutC;have hb:=Zh w (cW #[] 122);have HC:Hid (∀ j u,z[j]? = some u->(w.alloc (cW #[] 122)).cell? (Q.add j)=some u):=λj u hj=>Ze hb (hc j u hj);have HB:=Zd hb;have HZ:=Zd hz;have H1:=Zd h1;have HO:=Zd (Xj w 122 2);have he:=λw=>aY (P:=aB) w 57 122 (some Q) n c 0 0 underlying57;clear hc hb hz h1;go_enter func160,ntmps160
 go_wp2_with (at_builtin;refine wpList_append_own _ rfl _ _ 57 rfl w.heap.size 122 i0 (.agg #[E J 0,F none 0 0]) 2 32 underlying57 hi ap aq ar rfl (by decide) _ _ _ rfl HO Q n c z rfl HZ HC H1 (by unfold bP;omega) (by omega) HB.size ?_;intro v2 w3 af ae _)
 have HW:Hid (w3.ownsRow w.heap.size 122 2 v2 n z):=by show World.ownsRow _ _ _ _ _ _ _;simpa using af
 have aj:=Zd (HB.grown ae HB.size (Y9 HO));clear af ae;go_wp2;go_ret;exact⟨v2,rfl,Za HW,Za aj⟩
theorem Mh(a:Option Addr)(n c:Nat)(L:List Z5)(w0 w:World)(hn:n<=4398046511104)(h:RowsAt outR.R 2 w0 a n L)(hb:aD w0.heap.size w0 w)(hs:SlOk a n c) :
  Calls aB 160 #[F a n c] w λe w'=>∃ v,∃ K:List (List Value),e = cY v/\AllC outR w0 K L/\w'.ownsRow w.heap.size 122 2 v n K.flatten/\aD w.heap.size w w':=by
 obtain⟨Q,hc⟩:=h;cases a with
 | none=>
  obtain⟨rfl,rfl⟩:=hs.2.2 rfl;have e:L=[]:=aI.1 Q;subst e;exact (Mg w).mono λe w' ⟨x,y⟩=>⟨_,[],x,⟨rfl,λi h=>absurd h (by simp)⟩,y ▸ World.ownsRow_nil _ _ _ _,y ▸ Below.refl _ _⟩
 | some ad=>
  by_cases h0:n=0
  ·subst h0;have e:L=[]:=aI.1 Q;subst e;exact (Js ad 0 c [] w hn rfl (λu hu=>by cases hu) (λj u z=>by simp at z)).mono λe w' ⟨v,x,y,ak⟩=>⟨v,[],x,⟨rfl,λi h=>absurd h (by simp)⟩,y,ak⟩
  ·obtain⟨b,off,e,_,af⟩:=hc (by omega);obtain⟨rfl⟩:=e;obtain⟨K,h1,h3⟩:=W3 outR af;have hk:K.flatten.length=n*2:=(by rw[Xa h1,Q];rfl);exact (Js ⟨b,off,none⟩ n c K.flatten w hn hk (flat_one h1) (λj u z=>by rw[cB];exact Ze hb (h3 j u z))).mono λe w' ⟨v,x,y,ak⟩=>⟨v,K,x,h1,y,ak⟩
theorem Tryz.infoTxC:(Tryz.prog.info? 59).map (λi=>(i.zero,i.size,i.bytes))=some (some (.agg #[E J 0,F none 0 0,F none 0 0]),3,56):=by kernel_rfl
theorem Fm(w:World):Calls aB 199 #[F none 0 0] w λe w'=>e = cY (F none 0 0)/\w=w':=by
 have z:=λw=>aY (P:=aB) w 37 59 none 0 0 0 0 underlying37;go_enter func199,ntmps199;go_wp2;go_ret;exact⟨rfl,rfl⟩
theorem R7(Q:Addr)(n c:Nat)(z:List Value)(w:World)(hn:n<=2513169434916)(hz:z.length=n*3)(h1:∀ u∈z,u.oneCell'=true)(hc:∀ j u,z[j]? = some u->w.cell? (Q.add j)=some u) :
  Calls aB 199 #[F (some Q) n c] w λe w'=>∃ v,e = cY v/\w'.ownsRow w.heap.size 59 3 v n z/\aD w.heap.size w w':=by
 obtain⟨i0,hi,ap,aq,ar⟩:=info_parts Tryz.infoTxC;have hb:=Zh w (cW #[] 59);have HC:Hid (∀ j u,z[j]? = some u->(w.alloc (cW #[] 59)).cell? (Q.add j)=some u):=λj u hj=>Ze hb (hc j u hj);have HB:=Zd hb;have HZ:=Zd hz;have H1:=Zd h1;have HO:=Zd (Xj w 59 3);have he:=λw=>aY (P:=aB) w 37 59 (some Q) n c 0 0 underlying37;clear hc hb hz h1;go_enter func199,ntmps199
 go_wp2_with (at_builtin;refine wpList_append_own _ rfl _ _ 37 rfl w.heap.size 59 i0 (.agg #[E J 0,F none 0 0,F none 0 0]) 3 56 underlying37 hi ap aq ar rfl (by decide) _ _ _ rfl HO Q n c z rfl HZ HC H1 (by unfold bP;omega) (by omega) HB.size ?_;intro v2 w3 af ae _)
 have HW:Hid (w3.ownsRow w.heap.size 59 3 v2 n z):=by show World.ownsRow _ _ _ _ _ _ _;simpa using af
 have aj:=Zd (HB.grown ae HB.size (Y9 HO));clear af ae;go_wp2;go_ret;exact⟨v2,rfl,Za HW,Za aj⟩
theorem Fo(a:Option Addr)(n c:Nat)(L:List TxD)(w0 w:World)(hn:n<=2513169434916)(h:RowsAt txR.R 3 w0 a n L)(hb:aD w0.heap.size w0 w)(hs:SlOk a n c) :
  Calls aB 199 #[F a n c] w λe w'=>∃ v,∃ K:List (List Value),e = cY v/\AllC txR w0 K L/\w'.ownsRow w.heap.size 59 3 v n K.flatten/\aD w.heap.size w w':=by
 obtain⟨Q,hc⟩:=h;cases a with
 | none=>
  obtain⟨rfl,rfl⟩:=hs.2.2 rfl;have e:L=[]:=aI.1 Q;subst e;exact (Fm w).mono λe w' ⟨x,y⟩=>⟨_,[],x,⟨rfl,λi h=>absurd h (by simp)⟩,y ▸ World.ownsRow_nil _ _ _ _,y ▸ Below.refl _ _⟩
 | some ad=>
  by_cases h0:n=0
  ·subst h0;have e:L=[]:=aI.1 Q;subst e;exact (R7 ad 0 c [] w hn rfl (λu hu=>by cases hu) (λj u z=>by simp at z)).mono λe w' ⟨v,x,y,ak⟩=>⟨v,[],x,⟨rfl,λi h=>absurd h (by simp)⟩,y,ak⟩
  ·obtain⟨b,off,e,_,af⟩:=hc (by omega);obtain⟨rfl⟩:=e;obtain⟨K,h1,h3⟩:=W3 txR af;have hk:K.flatten.length=n*3:=(by rw[Xa h1,Q];rfl);exact (R7 ⟨b,off,none⟩ n c K.flatten w hn hk (flat_one h1) (λj u z=>by rw[cB];exact Ze hb (h3 j u z))).mono λe w' ⟨v,x,y,ak⟩=>⟨v,K,x,h1,y,ak⟩
theorem Tryz.infoBlkC:(Tryz.prog.info? 39).map (λi=>(i.zero,i.size,i.bytes))=some (some (.agg #[E J 0,E J 0,E J 0,E J 0,F none 0 0]),5,56):=by kernel_rfl
theorem Mm(w:World):Calls aB 196 #[F none 0 0] w λe w'=>e = cY (F none 0 0)/\w=w':=by
 have z:=λw=>aY (P:=aB) w 26 39 none 0 0 0 0 underlying26;go_enter func196,ntmps196;go_wp2;go_ret;exact⟨rfl,rfl⟩
theorem Jv(Q:Addr)(n c:Nat)(z:List Value)(w:World)(hn:n<=2513169434916)(hz:z.length=n*5)(h1:∀ u∈z,u.oneCell'=true)(hc:∀ j u,z[j]? = some u->w.cell? (Q.add j)=some u) :
  Calls aB 196 #[F (some Q) n c] w λe w'=>∃ v,e = cY v/\w'.ownsRow w.heap.size 39 5 v n z/\aD w.heap.size w w':=by
 obtain⟨i0,hi,ap,aq,ar⟩:=info_parts Tryz.infoBlkC;have hb:=Zh w (cW #[] 39);have HC:Hid (∀ j u,z[j]? = some u->(w.alloc (cW #[] 39)).cell? (Q.add j)=some u):=λj u hj=>Ze hb (hc j u hj);have HB:=Zd hb;have HZ:=Zd hz;have H1:=Zd h1;have HO:=Zd (Xj w 39 5);have he:=λw=>aY (P:=aB) w 26 39 (some Q) n c 0 0 underlying26;clear hc hb hz h1;go_enter func196,ntmps196
 go_wp2_with (at_builtin;refine wpList_append_own _ rfl _ _ 26 rfl w.heap.size 39 i0 (.agg #[E J 0,E J 0,E J 0,E J 0,F none 0 0]) 5 56 underlying26 hi ap aq ar rfl (by decide) _ _ _ rfl HO Q n c z rfl HZ HC H1 (by unfold bP;omega) (by omega) HB.size ?_;intro v2 w3 af ae _)
 have HW:Hid (w3.ownsRow w.heap.size 39 5 v2 n z):=by show World.ownsRow _ _ _ _ _ _ _;simpa using af
 have aj:=Zd (HB.grown ae HB.size (Y9 HO));clear af ae;go_wp2;go_ret;exact⟨v2,rfl,Za HW,Za aj⟩
theorem Mn(a:Option Addr)(n c:Nat)(L:List Zl)(w0 w:World)(hn:n<=2513169434916)(h:RowsAt blkR.R 5 w0 a n L)(hb:aD w0.heap.size w0 w)(hs:SlOk a n c) :
  Calls aB 196 #[F a n c] w λe w'=>∃ v,∃ K:List (List Value),e = cY v/\AllC blkR w0 K L/\w'.ownsRow w.heap.size 39 5 v n K.flatten/\aD w.heap.size w w':=by
 obtain⟨Q,hc⟩:=h;cases a with
 | none=>
  obtain⟨rfl,rfl⟩:=hs.2.2 rfl;have e:L=[]:=aI.1 Q;subst e;exact (Mm w).mono λe w' ⟨x,y⟩=>⟨_,[],x,⟨rfl,λi h=>absurd h (by simp)⟩,y ▸ World.ownsRow_nil _ _ _ _,y ▸ Below.refl _ _⟩
 | some ad=>
  by_cases h0:n=0
  ·subst h0;have e:L=[]:=aI.1 Q;subst e;exact (Jv ad 0 c [] w hn rfl (λu hu=>by cases hu) (λj u z=>by simp at z)).mono λe w' ⟨v,x,y,ak⟩=>⟨v,[],x,⟨rfl,λi h=>absurd h (by simp)⟩,y,ak⟩
  ·obtain⟨b,off,e,_,af⟩:=hc (by omega);obtain⟨rfl⟩:=e;obtain⟨K,h1,h3⟩:=W3 blkR af;have hk:K.flatten.length=n*5:=(by rw[Xa h1,Q];rfl);exact (Jv ⟨b,off,none⟩ n c K.flatten w hn hk (flat_one h1) (λj u z=>by rw[cB];exact Ze hb (h3 j u z))).mono λe w' ⟨v,x,y,ak⟩=>⟨v,K,x,h1,y,ak⟩
theorem T8(a:Option Addr)(n c:Nat)(L:List Int)(s x:Int)(w:World)(hn:n<=bP)(h:IntsAt w a n L)(hx:Uz s L 0=x) :
  Calls aB 77 #[F a n c,E J s] w λe w'=>e = cY (E J x)/\w=w':=by
 have HL:=Zd h;have HZ:=Zd h.1;have Q:Hid (Uz s (L.drop 0) 0=x):=hx;unfold bP at hn;clear h hx;go_enter func77,ntmps77;go_wp2
 go_loopw [8] (λi wr=>∃ j:Nat,j<=n/\i = E J j/\w=wr/\Hid (Uz s (L.drop j) j=x)) (λi _=>n - (cE i).toNat)
 case atStart=>exact⟨0,aQ _,rfl,rfl,Q⟩
 case round=>
  obtain⟨j,hk,rfl,rfl,A⟩:=hrel;clear Q;by_cases af:j<n
  ·have h1:j<L.length:=(by rw[Za HZ];exact af);obtain⟨b,off,rfl,ah,hc⟩:=HL.2 (by omega);have f1:=hc j h1;have z:=Zd (Zhl s L j h1);obtain⟨t,ht⟩:=ZF (L[j]);rw[ht] at f1 z;clear ht hc;by_cases e:s=t
   ·subst e;have R:Hid ((j:Int)=x):=(by show _=_;rw[<-Za A,Za z,if_pos rfl]);clear A z;go_wp2;go_ret;exact⟨by rw[Za R];rfl,rfl⟩
   ·have R:Hid (Uz s (L.drop (j+1)) (j+1)=x):=(by show _=_;rw[<-Za A,Za z,if_neg e]);have g:(s == t)=false:=(by simp[e]);clear A z e;go_wp2;go_roundw
    case rel=>exact⟨j+1,by omega,by go_num,(by trivial),R⟩
    case measure=>simp[cE];omega
  ·have R:Hid (x = -1):=(by show _=_;rw[<-Za A,Zeh s L j (by rw[Za HZ];omega)]);clear A;go_wp2;go_ret;exact⟨by rw[Za R];rfl,rfl⟩
theorem Gy(a:Option Addr)(n c:Nat)(L:List Int)(s:Int)(o:Bool)(w:World)(z:n<=bP)(h:IntsAt w a n L)(Q:decide (s∈L)=o) :
  Calls aB 141 #[F a n c,E J s] w λe w'=>e = cY (dB o)/\w=w':=by
 obtain⟨x,hx⟩:=ZF (Uz s L 0);have C:=Zd (T8 a n c L s x w z h hx);have HO:Hid (decide (0<=x)=o):=by show _=_;rw[<-hx,Du,Q]
 clear z h Q hx;go_enter func141,ntmps141;go_wp2_with fail;refine C.mono ?_;rintro e w1 ⟨rfl,rfl⟩;go_wp2;go_ret;exact⟨by rw[<-Za HO];rfl,rfl⟩
theorem Be(a b:Option Addr)(n c m d:Nat)(L:List Int)(s:Int)(o:Bool)(w:World)(hn:n<=bP)(h:IntsAt w a n L)(Q:decide (s∈L)=o) :
  ZH 70 #[.agg #[F a n c,F b m d],E J s] w (dB o):=by
 have z:=Zh w (cW #[F a n c,F b m d] 28);have C:=Zd (Gy a n c L s o _ hn (h.later z) Q);have HB:=Zd z;clear h Q z;go_enter func70,ntmps70;go_wp2_with fail;refine C.mono ?_;rintro e w1 ⟨rfl,rfl⟩;go_wp2;go_ret;exact⟨rfl,Za HB⟩
def Ji(x:Zl)(a:Option Addr)(n c:Nat):Value:=.agg #[E J x.1,E J x.2.1,E J x.2.2.1,E J x.2.2.2.1,F a n c]
theorem S9(a b:Option Addr)(n c d:Nat)(N:List Int)(T:List Zl)(s:Int)(x:Zl)(w:World)(hn:n<=bP)(h:IntsAt w a n N)(hT:BlksAt w b n T)(hx:fnd s N T=x) :
  Calls aB 72 #[.agg #[F a n c,F b n d],E J s] w λe w'=>∃ ta tn tc,e = cY (Ji x ta tn tc)/\TxsAt w ta tn x.2.2.2.2/\SlOk ta tn tc/\aD w.heap.size w w':=by
 unfold Ji;obtain⟨X,hX⟩:=ZG ((w.alloc (cW #[F a n c,F b n d] 28)).alloc (cW #[E J 0,E J 0,E J 0,E J 0,F none 0 0] 39));have Q:aD w.heap.size w X:=by rw[hX];exact Zf (Zh _ _) (Zh _ _)
 have x0:X.cell? ⟨w.heap.size,0,none⟩=some (F a n c):=by rw[hX];exact Ze (Zh _ _) (Z6 w _ _ _).1
 have x1:X.cell? ⟨w.heap.size,1,none⟩=some (F b n d):=by rw[hX];exact Ze (Zh _ _) (Z6 w _ _ _).2
 have z:X.heap[w.heap.size+1]? = some (cW [E J 0,E J 0,E J 0,E J 0,F none 0 0].toArray 39 (0,0)):=by
  rw[hX];have:=Zu (w.alloc (cW #[F a n c,F b n d] 28)) (E J 0) (E J 0) (E J 0) (E J 0) (F none 0 0) 39;rw[show (w.alloc (cW #[F a n c,F b n d] 28)).heap.size=w.heap.size+1 by simp] at this;exact this
 have z0:=Zb z 0 _ rfl;have z1:=Zb z 1 _ rfl;have z2:=Zb z 2 _ rfl;have z3:=Zb z 3 _ rfl;have z4:=Zb z 4 _ rfl;have y0:=Zg z 0;have y1:=Zg z 1;have y2:=Zg z 2;have y3:=Zg z 3;have y4:=Zg z 4;have xl:=aA z;obtain⟨k,hk⟩:=ZF (Uz s N 0);have C:=Zd (T8 a n c N s k X hn (h.later Q) hk);have af:=Zd Q;have HT:=Zd hT
 rcases Rw s N T 0 (by rw[h.1,hT.1]) with ⟨h1,_,h3⟩|⟨i,hi,h1,_,h3⟩
 ·rw[hx] at h3;obtain rfl:k = -1:=by rw[<-hk,h1]
  subst h3;clear h hT hx z Q hk h1;unfold Yq;simp only;go_enter func72,ntmps72;go_wp2_with fail;rw[<-hX];clear hX;refine C.mono ?_;rintro e w1 ⟨rfl,rfl⟩;go_wp2;(try simp only[Exit.inBlock,Exit.then]);refine bA (v:=.agg #[E J 0,E J 0,E J 0,E J 0,F none 0 0]) ?_ rfl ⟨none,0,0,rfl,RowsAt.nil _ _,⟨aH _,aQ _,λ_=>⟨rfl,rfl⟩⟩,?_⟩
  ·rw[Ya rfl];go_simp
  ·exact (((((Gr.refl X (λq=>q=w.heap.size+1)).one (w.heap.size+1) 0 (.inl rfl) _).one (w.heap.size+1) 1 (.inl rfl) _).one (w.heap.size+1) 2 (.inl rfl) _).one (w.heap.size+1) 3 (.inl rfl) _).one (w.heap.size+1) 4 (.inl rfl) _ |>.below af (by omega) (λk hk=>by omega)
 ·rw[hx] at h3;obtain rfl:k=(i:Int):=by rw[<-hk,h1];simp
  have ay:i<n:=by rw[<-hT.1];exact hi
  obtain⟨bb,off,rfl,ar,al⟩:=hT.2 (by omega);have ak:=al i hi;rw[<-h3] at ak;obtain⟨g0,g1,g2,g3,ta,tn,tc,g4,ht,hs⟩:=ak;have aq:=Zd ht;have ap:=Zd hs;have k0:=Ze Q g0;have k1:=Ze Q g1;have k2:=Ze Q g2;have k3:=Ze Q g3;have k4:=Ze Q g4;have bl:=aE ar Q.size;clear h hT hx z Q hk h1 al ht hs g0 g1 g2 g3 g4 h3;go_enter func72,ntmps72;go_wp2_with fail;rw[<-hX];clear hX;refine C.mono ?_;rintro e w1 ⟨rfl,rfl⟩;go_wp2;(try simp only[Exit.inBlock,Exit.then]);refine bA (v:=.agg #[E J x.1,E J x.2.1,E J x.2.2.1,E J x.2.2.2.1,F ta tn tc]) ?_ rfl ⟨ta,tn,tc,rfl,Za aq,Za ap,?_⟩
  ·rw[Ya rfl];go_simp
  ·exact (((((Gr.refl X (λq=>q=w.heap.size+1)).one (w.heap.size+1) 0 (.inl rfl) _).one (w.heap.size+1) 1 (.inl rfl) _).one (w.heap.size+1) 2 (.inl rfl) _).one (w.heap.size+1) 3 (.inl rfl) _).one (w.heap.size+1) 4 (.inl rfl) _ |>.below af (by omega) (λk hk=>by omega)
theorem Tv(p h k n v:Value)(w:World) :
  (Instr.field 39 (.agg #[p,h,k,n,v]) 0).run aB w = .ok p w/\(Instr.field 39 (.agg #[p,h,k,n,v]) 1).run aB w = .ok h w/\(Instr.field 39 (.agg #[p,h,k,n,v]) 2).run aB w = .ok k w:=by
 refine⟨?_,?_,?_⟩ <;> kernel_rfl
theorem Sa(a b:Option Addr)(n c d:Nat)(N:List Int)(T:List Zl)(s al:Int)(w:World)(hn:n<=bP)(h:IntsAt w a n N)(hT:BlksAt w b n T)(hz:(fnd s N T).2.1=al) :
  ZH 194 #[.agg #[F a n c,F b n d],E J s] w (E J al):=by
 have z:=Zh w (cW #[F a n c,F b n d] 28);have C:=S9 a b n c d N T s _ _ hn (h.later z) (hT.later z) rfl;unfold Ji at C;rw[hz] at C;have C:=Zd C;have HB:=Zd z;clear h hT hz z;go_enter func194,ntmps194;go_wp2_with fail;refine C.mono ?_;rintro e w1 ⟨ta,tn,tc,rfl,_,_,aa⟩;have ad:=Zd (Zf HB aa);have hf:=(Tv (E J (fnd s N T).1) (E J al) (E J (fnd s N T).2.2.1) (E J (fnd s N T).2.2.2.1) (F ta tn tc) w1).2.1;clear aa;go_wp2;go_ret;exact⟨rfl,Za ad⟩
