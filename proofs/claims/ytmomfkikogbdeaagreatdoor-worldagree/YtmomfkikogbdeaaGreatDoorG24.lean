import Derived.Test.YtmomfkikogbdeaaGreatDoorH
import Derived.Test.YtmomfkikogbdeaaGreatDoorG23
open Go.Proofs.Tryz
open Decidable renaming not_not->aT
open Go renaming maxLen->cK,bodyPost_ret->bB
open Go.Addr renaming add_lit->cN
open Go.Ending renaming returned->dF
open Go.IntKind renaming i64->J
open Go.Lib renaming run_eql_slice_nil->bD
open Go.Obj renaming cells->dE
open Go.Proofs.Tryz renaming prog->aB,underlying48->cV
open Go.Value renaming int->E,slice->F,tuple->dG,bool->dI
open Go.World.ownsRow renaming cellAt->bG
open List renaming length_take->bI,drop_eq_getElem_cons->aJ,drop_of_length_le->bU,take_succ_eq_append_getElem->bA,length_eq_zero_iff->aL,getElem?_eq_some_iff->aX
open Nat renaming le_refl->aF,zero_le->aI,lt_of_lt_of_le->aD
set_option maxHeartbeats 3200000
set_option maxRecDepth 10000
namespace Go.Proofs.YtmomfkikogbdeaaGreatDoor
open Bk (Right nm nameR)
theorem Ll{h:Int}{K K' C C'}{t:TxD}(e:doD h (K,C) t=(0,K',C')) :
  Zq t=0/\t.2.1.length≠0/\∃ n S,nameR K (txT t)=(K',n,0)/\apD C t n h=(0,C',S):=by
 unfold doD at e;split at e
 ·rename_i q;injection e with e _;exact absurd e q
 rename_i q1;split at e
 ·injection e with e _;exact absurd (show (4:Int)=0 from e) (by decide)
 rename_i q2;split at e
 ·rename_i q;injection e with e _;exact absurd e q
 rename_i q3;split at e
 ·rename_i q;injection e with e _;exact absurd e q
 rename_i q4;injection e with _ e;injection e with e1 e2;exact⟨aT.1 q1,q2,_,_,Prod.ext e1 (Prod.ext rfl (aT.1 q3)),Prod.ext (aT.1 q4) (Prod.ext e2 rfl)⟩
theorem Lm{h:Int}{K K' C C' t}(hK:Right K)(e:doD h (K,C) t=(0,K',C')) :
  Right K'/\(∃ M,K'=K++M)/\Yd C'/\Zp C'<=Zp C/\Zq t=0:=by
 obtain⟨h1,h2,n,S,h3,h4⟩:=Ll e;obtain⟨d1,d2,_⟩:=Ln hK (show (doD h (K,C) t).1=0 by rw[e]);rw[e] at d1 d2;exact⟨d1,d2,(Mc h4).2.1,(Zlv h4).2 h2,h1⟩
def swT(h:Int):List TxD->List ByteArray×List Zj->List (TxD×List Zj)
 | [],_=>[]
 | t :: l,s=>if (doD h s t).1=0 then (t,(doD h s t).2.2) :: swT h l (doD h s t).2 else swT h l s
def Y6(C:List Zj)(X:List (TxD×List Zj)):List Zj:=(X.getLast?.map (·.2)).getD C
theorem Ve(C):Y6 C []=C:=rfl
theorem Wj(C X t C'):Y6 C (X++[(t,C')])=C':=by simp[Y6]
theorem Zbs(C X t C'):Y6 C ((t,C') :: X)=Y6 C' X:=by
 cases X with
 | nil=>rfl
 | cons y X=>
  obtain⟨z,hz⟩:∃ z,(y :: X).getLast? = some z:=⟨_,List.getLast?_eq_some_getLast (by simp)⟩;unfold Y6;rw[List.getLast?_cons_cons,hz];rfl
theorem J6(h:Int):∀ (l:List TxD) (s:List ByteArray×List Zj),(swT h l s).map (·.1)=(Z5 h l s).1
 | [],_=>rfl
 | t :: l,s=>by
  rw[swT,Z5];split
  ·rw[List.map_cons,J6 h l]
  ·exact J6 h l s
theorem Hs(h:Int):∀ (l:List TxD) (s:List ByteArray×List Zj),Y6 s.2 (swT h l s)=(Z5 h l s).2.2
 | [],_=>rfl
 | t :: l,s=>by
  rw[swT,Z5];split
  ·rw[Zbs,Hs h l]
  ·exact Hs h l s
theorem Gx(h:Int):∀ (l:List TxD) (s:List ByteArray×List Zj),(swT h l s).length<=l.length
 | [],_=>aF _
 | t :: l,s=>by
  rw[swT];split
  ·rw[List.length_cons,List.length_cons];exact Nat.succ_le_succ (Gx h l _)
  ·exact Nat.le_succ_of_le (Gx h l s)
theorem Hq{h:Int}:∀ (l:List TxD) (K:List ByteArray) (C:List Zj),Right K->Yd C->Yd (Z5 h l (K,C)).2.2/\Zp (Z5 h l (K,C)).2.2<=Zp C/\∀ t∈(Z5 h l (K,C)).1,Zq t=0/\t.2.1.length≠0
 | [],K,C,_,hC=>⟨hC,Int.le_refl _,λ_ q=>by cases q⟩
 | t :: l,K,C,hK,hC=>by
  rw[Z5];by_cases q:(doD h (K,C) t).1=0
  ·rw[if_pos q];have e:doD h (K,C) t=(0,(doD h (K,C) t).2.1,(doD h (K,C) t).2.2):=Prod.ext q rfl;obtain⟨d1,_,d3,d4,d5⟩:=Lm hK e;obtain⟨s1,s2,s3⟩:=Hq (h:=h) l _ _ d1 d3;refine⟨s1,Int.le_trans s2 d4,λx hx=>?_⟩
   rcases List.mem_cons.1 hx with rfl|hx
   ·exact⟨d5,(Ll e).2.1⟩
   ·exact s3 x hx
  ·rw[if_neg q];exact Hq l K C hK hC
def swE(K:List ByteArray)(C:List Zj)(l:List TxD)(h:Int):Int:=
 if Rs K C h≠0 then Rs K C h else if 8<l.length then 2 else 0
theorem Tg{K C}{h:Int}(e:Rs K C h=0):Right K/\Yd C/\1<=h/\h<=1000:=by
 unfold Rs at e;split at e
 ·rename_i q;exact absurd e q
 rename_i q1;split at e
 ·rename_i q;exact absurd e q
 rename_i q2;split at e
 ·exact absurd e (by decide)
 rename_i q3;simp at q3;exact⟨(Bk.right_iff K).1 (aT.1 q1),(Z7 C).1 (aT.1 q2),q3.1,q3.2⟩
theorem Bw{K C}{h:Int}(hK:Right K)(hC:Yd C)(h1:1<=h)(h2:h<=1000):Rs K C h=0:=by
 unfold Rs;rw[if_neg (λq=>q ((Bk.right_iff K).2 hK)),if_neg (λq=>q ((Z7 C).2 hC)),if_neg (by simp[h1,h2])]
theorem Ht{K C}{l:List TxD}{h:Int}(e:swE K C l h=0):Rs K C h=0/\l.length<=8:=by
 unfold swE at e;split at e
 ·rename_i q;exact absurd e q
 rename_i q1;split at e
 ·exact absurd e (by decide)
 exact⟨aT.1 q1,by omega⟩
def Kj(h n:Int)(lk:List (Int×Int)):TxD:=(h,[],[(n,lk)])
def Yx:Zk:=(0,0,0,0,[])
def Zky(h:Int)(l:List TxD)(K:List ByteArray)(C:List Zj):Int:=Zp C - Zp (Y6 C ((swT h l (K,C)).take 3))
def mkE(K:List ByteArray)(C:List Zj)(l:List TxD)(p h wk n:Int)(lk:List (Int×Int)):Int×Zk:=
 if swE K C l h≠0 then (swE K C l h,Yx) else if (rwD h).1+Zky h l K C=0 then (9,Yx) else
 if Yq (p,h,wk,n,Kj h ((rwD h).1+Zky h l K C) lk :: (Z5 h l (K,C)).1.take 3)≠0 then (Yq (p,h,wk,n,Kj h ((rwD h).1+Zky h l K C) lk :: (Z5 h l (K,C)).1.take 3),Yx) else
 (0,(p,h,wk,n,Kj h ((rwD h).1+Zky h l K C) lk :: (Z5 h l (K,C)).1.take 3))
open Go.RowKit
theorem Zer(x:Zj)(a)(n c:Nat)(w:World):ZH 81 #[cnV x a n c] w (dI true):=by
 unfold cnV;have HB:=Zd (Zh w (dE #[E J x.1,E J x.2.1,E J (cv x),F a n c,E J (ch x),dI (cr x)] 124));go_enter func81,ntmps81;go_wp2;go_ret;exact⟨rfl,Za HB⟩
theorem Aw(a n c L)(x s:Int)(w:World)(h:CoinsAt w a n L)(hx:Z8 L=x)(hs:(if x=0 then Zp L else 0)=s) :
  ZH 80 #[F a n c,.func (.func 81) #[] #[]] w (dG #[E J s,E J x]):=by
 have C1:=Zd (Ub a n c L x w h hx);by_cases e1:x=0
 ·subst e1;rw[if_pos rfl] at hs;have hR:=(Z7 L).1 hx;have hn:n<=720:=by rw[<-h.1];exact hR.len
  have am:=Zd (λk=>Gy L k (λz hz=>by have:=Yy (hR.one z hz);omega));obtain⟨HL,HZ,HS⟩:=kh3 h h.1 hs;clear hR h hx hs;go_enter func80,ntmps80;go_wp2_with fail;refine C1.mono ?_;rintro e w2 ⟨rfl,ab⟩;have ag:=Zd ab;clear ab C1;go_wp2
  go_loopw [7,17] (λsv i wr=>∃ (k:Nat) (d:Int),k<=n/\sv = E J d/\i = E J k/\Hid (d=Zp (L.take k))/\Hid (ZD w wr)) (λ_ i _=>n - (intOf i).toNat)
  case atStart=>exact⟨0,0,aI _,rfl,rfl,rfl,ag⟩
  case round=>
   obtain⟨k,d,hk,rfl,rfl,A,HB⟩:=hrel;by_cases bi:k<n
   ·have au:k<L.length:=(by rw[Za HZ];exact bi);obtain⟨b,off,rfl,bu,bh⟩:=HL.2 (by omega);have ak:=CoinAt.kept _ _ _ _ _ HB (bh k au);have b1:=am k;have b2:=am (k+1);have aa:=Sz L k au;obtain⟨y,hy⟩:=ZF (L[k]);rw[hy] at ak aa;obtain⟨la,ln,lc,g0,g1,g2,g3,g4,g5,_,_⟩:=ak.val;obtain⟨v,hv⟩:=ZF (cv y);have T1:=λw=>Zer y la ln lc w;unfold cnV at T1;rw[hv] at g2 aa T1;have bg:=Zd T1;rw[<-Za A] at b1 aa;rw[aa] at b2;have A2:Hid (d+v=Zp (L.take (k+1))):=aa.symm;obtain⟨X,hX,ar,aq⟩:=ka00 wr [E J y.1,E J y.2.1,E J v,F la ln lc,E J (ch y),dI (cr y)] 124;have m2:=Zb aq 2 _ rfl;have bd:=Zd (Zf HB ar);have ca:IntKind.i64.wrap (d+v)=d+v:=(by rw[IntKind.wrap_i64];omega);clear ak hy aa A HB T1 hv aq ar;go_wp2_with fail;rw[<-hX];clear hX;refine (bg _).mono ?_;rintro e w3 ⟨rfl,aj⟩;have n2:=Ze aj m2;have bx:=World.block_lt_of_cell? _ _ n2;have bb:=Zd (Zf bd aj);clear aj m2;go_wp2;go_roundw
    case rel=>exact⟨k+1,d+v,by omega,rfl,by go_num,A2,bb⟩
    case measure=>simp[intOf];omega
   ·have e:k=n:=(by omega);subst e
    have R:Hid (d=s):=by
     show _=_;rw[Za A,List.take_of_length_le (by rw[Za HZ];exact aF _)];exact Za HS
    clear A;go_wp2;go_ret2;exact⟨by rw[<-Za R];rfl,Za HB⟩
 ·rw[if_neg e1] at hs;subst hs;have g:(x != 0)=true:=by simp[e1]
  clear h hx e1;go_enter func80,ntmps80;go_wp2_with fail;refine C1.mono ?_;rintro e w2 ⟨rfl,ab⟩;have ag:=Zd ab;clear ab C1;go_wp2;go_ret2;exact⟨rfl,Za ag⟩
theorem Zie(a n c L)(x s:Int)(w:World)(h:CoinsAt w a n L)(hx:Z8 L=x)(hs:(if x=0 then Zp L else 0)=s) :
  ZH 25 #[F a n c] w (dG #[E J s,E J x]):=by
 have C:=Zd (Aw a n c L x s w h hx hs);clear h hx hs;go_enter func25,ntmps25;go_wp2_with fail;refine C.mono ?_;rintro e w2 ⟨rfl,aa⟩;have ac:=Zd aa;clear aa;go_wp2;go_ret2;exact⟨rfl,Za ac⟩
theorem Np(a n c L)(s:Int)(w:World)(h:CoinsAt w a n L)(hR:Yd L)(hs:Zp L=s) :
  ZH 158 #[F a n c] w (E J s):=by
 have C1:=Zd (Zie a n c L 0 s w h ((Z7 L).2 hR) (by rw[if_pos rfl];exact hs));clear h hR hs;go_enter func158,ntmps158;go_wp2_with fail;refine C1.mono ?_;rintro e w1 ⟨rfl,hb⟩;have HB:=Zd hb;clear hb C1;go_wp2;go_ret;exact⟨rfl,Za HB⟩
namespace Tr
open Go.RowKit
def IntsAt(w:World)(a:Option Addr)(len:Nat)(Z:List Int):Prop:=
 Z.length=len/\(0<len->∃ b off,a=some ⟨b,off,none⟩/\b<w.heap.size/\∀ i (h:i<Z.length),w.cell? ⟨b,off+i,none⟩=some (E J Z[i]))
theorem IntsAt.later{w w':World}{a len Z}(h:IntsAt w a len Z)(hb:ZD w w'):IntsAt w' a len Z:=by
 refine⟨h.1,λh0=>?_⟩;obtain⟨b,off,e,hl,hc⟩:=h.2 h0;exact⟨b,off,e,aD hl hb.size,λi hi=>Ze hb (hc i hi)⟩
theorem IntsAt.nil(w a):IntsAt w a 0 []:=⟨rfl,λh=>absurd h (by omega)⟩
theorem IntsAt.take{w a len}{l:List Int}(h:IntsAt w a len l)(k:Nat)(hk:k<=len):IntsAt w a k (l.take k):=by
 have hl:=h.1;refine⟨by rw[bI];omega,λh0=>?_⟩;obtain⟨b,off,e,hb,hc⟩:=h.2 (by omega);refine⟨b,off,e,hb,λi hi=>?_⟩;rw[bI] at hi;rw[List.getElem_take];exact hc i (by omega)
theorem ints_of_own{w:World}{base:Nat}{v}{n:Nat}{N:List Int}(h:w.ownsRow base 3 1 v n (N.map (Value.int .i64))):∃ a cap,v = F a n cap/\SlOk a n cap/\IntsAt w a n N:=by
 have hl:N.length=n:=by simpa using h.1
 rcases h.2 with ⟨rfl,rfl⟩|⟨g,cap,ac,rfl,hg,hh,h1,h2,h3,h4⟩
 ·exact⟨none,0,rfl,⟨aF _,aI _,λ_=>⟨rfl,rfl⟩⟩,hl,λh=>absurd h (by omega)⟩
 ·refine⟨_,cap,rfl,⟨h1,h2,λe=>by cases e⟩,hl,λ_=>⟨g,0,rfl,lt_of_block hh,λi hi=>?_⟩⟩;rw[Nat.zero_add,bG h _ (by omega)];simp[hi]
def BlkAt(w:World)(b o:Nat)(x:Zk):Prop:=
 w.cell? ⟨b,o,none⟩=some (E J x.1)/\w.cell? ⟨b,o+1,none⟩=some (E J x.2.1)/\w.cell? ⟨b,o+2,none⟩=some (E J x.2.2.1)/\w.cell? ⟨b,o+3,none⟩=some (E J x.2.2.2.1) /\
 ∃ a n c,w.cell? ⟨b,o+4,none⟩=some (F a n c)/\TxsAt w a n x.2.2.2.2/\SlOk a n c
theorem BlkAt.kept:Gq BlkAt:=λ_ _ _ _ _ hb h=>by
 obtain⟨h1,h2,h3,h4,a,n,c,h5,h6,h7⟩:=h;exact⟨Ze hb h1,Ze hb h2,Ze hb h3,Ze hb h4,a,n,c,Ze hb h5,h6.later hb,h7⟩
def BlksAt(w:World)(a:Option Addr)(len:Nat)(l:List Zk):Prop:=RowsAt BlkAt 5 w a len l
theorem BlksAt.later{w w':World}{a len l}(h:BlksAt w a len l)(hb:ZD w w'):BlksAt w' a len l:=RowsAt.later BlkAt.kept h hb
theorem cells3{w:World}{b o:Nat}{x y z}(h0:w.cell? ⟨b,o,none⟩=some x)(h1:w.cell? ⟨b,o+1,none⟩=some y)(h2:w.cell? ⟨b,o+2,none⟩=some z):CellsAt w b o [x,y,z]:=by
 intro j u hj
 match j,hj with
 | 0,hj=>cases hj;exact h0
 | 1,hj=>cases hj;exact h1
 | 2,hj=>cases hj;exact h2
 | j+3,hj=>simp at hj
theorem Zri{w:World}{b o:Nat}{x y}(h0:w.cell? ⟨b,o,none⟩=some x)(h1:w.cell? ⟨b,o+1,none⟩=some y):CellsAt w b o [x,y]:=by
 intro j u hj
 match j,hj with
 | 0,hj=>cases hj;exact h0
 | 1,hj=>cases hj;exact h1
 | j+2,hj=>simp at hj
theorem Zrh{w:World}{b o:Nat}{x y z r s}(h0:w.cell? ⟨b,o,none⟩=some x)(h1:w.cell? ⟨b,o+1,none⟩=some y)(h2:w.cell? ⟨b,o+2,none⟩=some z)(h3:w.cell? ⟨b,o+3,none⟩=some r)(h4:w.cell? ⟨b,o+4,none⟩=some s):CellsAt w b o [x,y,z,r,s]:=by
 intro j u hj
 match j,hj with
 | 0,hj=>cases hj;exact h0
 | 1,hj=>cases hj;exact h1
 | 2,hj=>cases hj;exact h2
 | 3,hj=>cases hj;exact h3
 | 4,hj=>cases hj;exact h4
 | j+5,hj=>simp at hj
def inR:Rec InD where
 sz:=3
 C w cs x:=∃ a n c,cs=[E J x.1,E J x.2.1,F a n c]/\OpsAt w a n x.2.2/\SlOk a n c
 R:=InAt
 wide _ _ _:=by rintro ⟨a,n,c,rfl,_⟩;rfl
 one _ _ _:=by rintro ⟨a,n,c,rfl,_⟩ v hv;simp at hv;rcases hv with rfl|rfl|rfl <;> rfl
 kept _ _ _ _ hb:=by rintro ⟨a,n,c,rfl,h1,h2⟩;exact⟨a,n,c,rfl,h1.later hb,h2⟩
 rc _ _ _ _:=by rintro ⟨h1,h2,a,n,c,h3,h4,h5⟩;exact⟨_,cells3 h1 h2 h3,a,n,c,rfl,h4,h5⟩
 cr _ _ _ _ _ h:=by rintro ⟨a,n,c,rfl,h1,h2⟩;exact⟨h 0 _ rfl,h 1 _ rfl,a,n,c,h 2 _ rfl,h1,h2⟩
def outR:Rec Z3 where
 sz:=2
 C w cs x:=∃ a n c,cs=[E J x.1,F a n c]/\OpsAt w a n x.2/\SlOk a n c
 R:=OutAt
 wide _ _ _:=by rintro ⟨a,n,c,rfl,_⟩;rfl
 one _ _ _:=by rintro ⟨a,n,c,rfl,_⟩ v hv;simp at hv;rcases hv with rfl|rfl <;> rfl
 kept _ _ _ _ hb:=by rintro ⟨a,n,c,rfl,h1,h2⟩;exact⟨a,n,c,rfl,h1.later hb,h2⟩
 rc _ _ _ _:=by rintro ⟨h1,a,n,c,h3,h4,h5⟩;exact⟨_,Zri h1 h3,a,n,c,rfl,h4,h5⟩
 cr _ _ _ _ _ h:=by rintro ⟨a,n,c,rfl,h1,h2⟩;exact⟨h 0 _ rfl,a,n,c,h 1 _ rfl,h1,h2⟩
def txR:Rec TxD where
 sz:=3
 C w cs x:=∃ a n c a' n' c',cs=[E J x.1,F a n c,F a' n' c']/\InsAt w a n x.2.1/\SlOk a n c/\OutsAt w a' n' x.2.2/\SlOk a' n' c'
 R:=TxAt
 wide _ _ _:=by rintro ⟨a,n,c,a',n',c',rfl,_⟩;rfl
 one _ _ _:=by rintro ⟨a,n,c,a',n',c',rfl,_⟩ v hv;simp at hv;rcases hv with rfl|rfl|rfl <;> rfl
 kept _ _ _ _ hb:=by rintro ⟨a,n,c,a',n',c',rfl,h1,h2,h3,h4⟩;exact⟨a,n,c,a',n',c',rfl,h1.later hb,h2,h3.later hb,h4⟩
 rc _ _ _ _:=by rintro ⟨h1,⟨a,n,c,h2,h3,h4⟩,a',n',c',h5,h6,h7⟩;exact⟨_,cells3 h1 h2 h5,a,n,c,a',n',c',rfl,h3,h4,h6,h7⟩
 cr _ _ _ _ _ h:=by rintro ⟨a,n,c,a',n',c',rfl,h1,h2,h3,h4⟩;exact⟨h 0 _ rfl,⟨a,n,c,h 1 _ rfl,h1,h2⟩,a',n',c',h 2 _ rfl,h3,h4⟩
def blkR:Rec Zk where
 sz:=5
 C w cs x:=∃ a n c,cs=[E J x.1,E J x.2.1,E J x.2.2.1,E J x.2.2.2.1,F a n c]/\TxsAt w a n x.2.2.2.2/\SlOk a n c
 R:=BlkAt
 wide _ _ _:=by rintro ⟨a,n,c,rfl,_⟩;rfl
 one _ _ _:=by rintro ⟨a,n,c,rfl,_⟩ v hv;simp at hv;rcases hv with rfl|rfl|rfl|rfl|rfl <;> rfl
 kept _ _ _ _ hb:=by rintro ⟨a,n,c,rfl,h1,h2⟩;exact⟨a,n,c,rfl,h1.later hb,h2⟩
 rc _ _ _ _:=by rintro ⟨h1,h2,h3,h4,a,n,c,h5,h6,h7⟩;exact⟨_,Zrh h1 h2 h3 h4 h5,a,n,c,rfl,h6,h7⟩
 cr _ _ _ _ _ h:=by rintro ⟨a,n,c,rfl,h1,h2⟩;exact⟨h 0 _ rfl,h 1 _ rfl,h 2 _ rfl,h 3 _ rfl,a,n,c,h 4 _ rfl,h1,h2⟩
def Qx(x:Int):List Int->Nat->Int
 | [],_=>-1
 | a :: r,k=>if x=a then k else Qx x r (k+1)
theorem Zok(x:Int)(L:List Int)(k:Nat)(h:k<L.length):Qx x (L.drop k) k=if x=L[k] then (k:Int) else Qx x (L.drop (k+1)) (k+1):=by
 rw[aJ h];rfl
theorem Zks(x:Int)(L:List Int)(k:Nat)(h:L.length<=k):Qx x (L.drop k) k = -1:=by
 rw[bU h];rfl
def Yx:Zk:=(0,0,0,0,[])
def fnd(x:Int):List Int->List Zk->Zk
 | a :: N,b :: T=>if x=a then b else fnd x N T
 | _,_=>Yx
theorem Jv(x:Int):∀ (N:List Int) (T:List Zk) (k:Nat),N.length=T.length->(Qx x N k = -1/\x∉N/\fnd x N T=Yx)\/∃ i,∃ h:i<T.length,Qx x N k=(k+i:Nat)/\x∈N/\fnd x N T=T[i]
 | [],_,_,_=>.inl ⟨rfl,by simp,by simp[fnd]⟩
 | a :: N,[],_,h=>by cases h
 | a :: N,b :: T,k,h=>by
  by_cases e:x=a
  ·exact .inr ⟨0,by simp,by simp[Qx,e],by simp[e],by simp[fnd,e]⟩
  ·rcases Jv x N T (k+1) (by simpa using h) with ⟨h1,h2,h3⟩|⟨i,hi,h1,h2,h3⟩
   ·exact .inl ⟨by simp[Qx,e,h1],by simp[e,h2],by simp[fnd,e,h3]⟩
   ·exact .inr ⟨i+1,by simpa using hi,by simp[Qx,e,h1];omega,by simp[h2],by simp[fnd,e,h3]⟩
theorem Ct(x:Int):∀ (N:List Int) (k:Nat),decide (0<=Qx x N k)=decide (x∈N)
 | [],_=>by simp[Qx]
 | a :: N,k=>by
  by_cases e:x=a
  ·simp[Qx,e]
  ·simp[Qx,e,Ct x N (k+1)]
def nextD(N:List Int)(T:List Zk)(x:Int)(b:Zk):Int:=
 if (decide (1<=x) && decide (x<=120))=false then 3 else if Yq b≠0 then Yq b else if decide (x∈N)=true then 6
 else if b.1≠0/\decide (b.1∈N)=false then 5 else if b.2.1≠(fnd b.1 N T).2.1+1 then 4 else 0
def Xg(N:List Int)(T:List Zk):List Int->List Zk->Int
 | x :: M,b :: U=>if nextD N T x b≠0 then nextD N T x b else Xg (N++[x]) (T++[b]) M U
 | _,_=>0
def chkTr(N:List Int)(T:List Zk):Int:=if N.length≠T.length then 4 else if 24<N.length then 2 else Xg [] [] N T
theorem Zln(N:List Int)(T:List Zk)(k:Nat)(h:k<N.length)(h':k<T.length):Xg (N.take k) (T.take k) (N.drop k) (T.drop k) =
  if nextD (N.take k) (T.take k) N[k] T[k]≠0 then nextD (N.take k) (T.take k) N[k] T[k] else Xg (N.take (k+1)) (T.take (k+1)) (N.drop (k+1)) (T.drop (k+1)):=by
 rw[aJ h,aJ h',Xg,bA h,bA h']
theorem Zhn(N:List Int)(T:List Zk)(k:Nat)(h:N.length<=k):Xg (N.take k) (T.take k) (N.drop k) (T.drop k)=0:=by
 rw[bU h];unfold Xg;rfl
def Xb(T:List Zk):Prop:=∀ b∈T,1<=b.2.1/\b.2.1<=1000/\1<=b.2.2.1/\b.2.2.1<=1000
theorem Pt{b:Zk}(h:Yq b=0):1<=b.2.1/\b.2.1<=1000/\1<=b.2.2.1/\b.2.2.1<=1000:=by
 unfold Yq at h;split at h
 ·cases h
 ·next q=>simp[Wk] at q;omega
theorem Zed(x:Int):∀ (N:List Int) (T:List Zk),fnd x N T=Yx\/fnd x N T∈T
 | [],_=>.inl (by simp[fnd])
 | _ :: _,[]=>.inl (by simp[fnd])
 | a :: N,b :: T=>by
  by_cases e:x=a
  ·exact .inr (by simp[fnd,e])
  ·rcases Zed x N T with h|h
   ·exact .inl (by simp[fnd,e,h])
   ·exact .inr (by simp[fnd,e,h])
theorem Ti{T}(h:Xb T)(x:Int)(N):0<=(fnd x N T).2.1/\(fnd x N T).2.1<=1000/\0<=(fnd x N T).2.2.1/\(fnd x N T).2.2.1<=1000:=by
 rcases Zed x N T with e|e
 ·rw[e];simp[Yx]
 ·have:=h _ e;omega
def upD(N:List Int)(T:List Zk):Nat->Int->List Int
 | 0,_=>[]
 | d+1,x=>upD N T d (fnd x N T).1++[x]
theorem Dt(N T):∀ (d:Nat) (x:Int),(upD N T d x).length=d
 | 0,_=>rfl
 | d+1,x=>by simp[upD,Dt N T d]
def Vv(N:List Int)(T:List Zk)(x:Int):List Int:=upD N T (fnd x N T).2.1.toNat x
def W4(N:List Int)(T:List Zk)(s:Int):List Int->Int
 | []=>s
 | x :: P=>W4 N T (s+(fnd x N T).2.2.1) P
theorem Zmf(N T)(s:Int)(P:List Int)(k:Nat)(h:k<P.length):W4 N T s (P.drop k)=W4 N T (s+(fnd P[k] N T).2.2.1) (P.drop (k+1)):=by
 rw[aJ h];rfl
theorem Zia(N T)(s:Int)(P:List Int)(k:Nat)(h:P.length<=k):W4 N T s (P.drop k)=s:=by
 rw[bU h];rfl
def Xc(N:List Int)(T:List Zk)(x:Int):Int:=W4 N T 0 (Vv N T x)
def bstGo(N:List Int)(T:List Zk)(b m:Int):List Int->Int
 | []=>b
 | x :: P=>if m<Xc N T x\/Xc N T x=m/\x<b then bstGo N T x (Xc N T x) P else bstGo N T b m P
theorem Zlo(N T)(b m:Int)(P:List Int)(k:Nat)(h:k<P.length):bstGo N T b m (P.drop k)=if m<Xc N T P[k]\/Xc N T P[k]=m/\P[k]<b then bstGo N T P[k] (Xc N T P[k]) (P.drop (k+1)) else bstGo N T b m (P.drop (k+1)):=by
 rw[aJ h];rfl
theorem Zhq(N T)(b m:Int)(P:List Int)(k:Nat)(h:P.length<=k):bstGo N T b m (P.drop k)=b:=by
 rw[bU h];rfl
def bstD(N:List Int)(T:List Zk):Int×Int:=if chkTr N T≠0 then (0,chkTr N T) else (bstGo N T 0 0 N,0)
def Jo(N:List Int)(T:List Zk)(x:Int):List Int×Int:=if chkTr N T≠0 then ([],chkTr N T) else if x≠0/\decide (x∈N)=false then ([],5) else (Vv N T x,0)
def workE(N:List Int)(T:List Zk)(x:Int):Int×Int:=if (Jo N T x).2≠0 then (0,(Jo N T x).2) else (W4 N T 0 (Jo N T x).1,0)
theorem Tryz.infoIntC:(Tryz.prog.info? 3).map (λi=>(i.zero,i.size,i.bytes))=some (some (E J 0),1,8):=by kernel_rfl
theorem F4(w):Calls aB 47 #[F none 0 0] w λe w'=>e = dF (F none 0 0)/\w=w':=by
 have he:=λw=>bD (P:=aB) w 25 3 none 0 0 0 0 underlying25;go_enter func47,ntmps47;go_wp2;go_ret;exact⟨rfl,rfl⟩
theorem Ms(ad:Addr)(n c:Nat)(aa:List Value)(w:World)(hn:n<=4096)(hz:aa.length=n*1)(h1:∀ u∈aa,u.oneCell'=true)(hc:∀ j u,aa[j]? = some u->w.cell? (ad.add j)=some u) :
  Calls aB 47 #[F (some ad) n c] w λe w'=>∃ v,e = dF v/\w'.ownsRow w.heap.size 3 1 v n aa/\ZD w w':=by
 obtain⟨i0,hi,au,av,aw⟩:=info_parts Tryz.infoIntC;have hb:=Zh w (dE #[] 3);have HC:Hid (∀ j u,aa[j]? = some u->(w.alloc (dE #[] 3)).cell? (ad.add j)=some u):=λj u hj=>Ze hb (hc j u hj);obtain⟨HB,HZ,H1,HO⟩:=kh4 hb hz h1 (We w 3 1);have he:=λw=>bD (P:=aB) w 25 3 (some ad) n c 0 0 underlying25;clear hc hb hz h1;go_enter func47,ntmps47
 go_wp2_with (at_builtin;refine wpList_append_own _ rfl _ _ 25 rfl w.heap.size 3 i0 (E J 0) 1 8 underlying25 hi au av aw rfl (by decide) _ _ _ rfl HO ad n c aa rfl HZ HC H1 (by unfold cK;omega) (by omega) HB.size ?_;intro v2 w3 ah ag _)
 have HW:Hid (w3.ownsRow w.heap.size 3 1 v2 n aa):=by show World.ownsRow _ _ _ _ _ _ _;simpa using ah
 have am:=Zd (HB.grown ag HB.size (Xn HO));clear ah ag;go_wp2;go_ret;exact⟨v2,rfl,Za HW,Za am⟩
theorem cloneInt_any(a)(n c:Nat)(L:List Int)(w:World)(hn:n<=4096)(h:IntsAt w a n L)(hs:SlOk a n c) :
  Calls aB 47 #[F a n c] w λe w'=>∃ v,e = dF v/\w'.ownsRow w.heap.size 3 1 v n (L.map (Value.int .i64))/\ZD w w':=by
 obtain⟨hl,hc⟩:=h;cases a with
 | none=>
  obtain⟨rfl,rfl⟩:=hs.2.2 rfl;have e:L=[]:=aL.1 hl;subst e;exact (F4 w).mono λe w' ⟨x,y⟩=>⟨_,x,y ▸ World.ownsRow_nil _ _ _ _,y ▸ Below.refl _ _⟩
 | some ad=>
  refine (Ms ad n c (L.map (Value.int .i64)) w hn (by simp[hl]) (ints_oneCell _ _) (λj u hj=>?_));have ab:j<L.length:=by have:=(aX.1 hj).1;simpa using this
  obtain⟨b,off,e,_,af⟩:=hc (by omega);cases e;rw[cN,af j ab];simpa[ab] using hj
theorem Jc(ad:Addr)(n c:Nat)(aa:List Value)(w:World)(hn:n<=8796093022208)(hz:aa.length=n*2)(h1:∀ u∈aa,u.oneCell'=true)(hc:∀ j u,aa[j]? = some u->w.cell? (ad.add j)=some u) :
  Calls aB 150 #[F (some ad) n c] w λe w'=>∃ v,e = dF v/\w'.ownsRow w.heap.size 164 2 v n aa/\ZD w w':=by
 obtain⟨i0,hi,au,av,aw⟩:=info_parts Tryz.infoOpC;have hb:=Zh w (dE #[] 164);have HC:Hid (∀ j u,aa[j]? = some u->(w.alloc (dE #[] 164)).cell? (ad.add j)=some u):=λj u hj=>Ze hb (hc j u hj);obtain⟨HB,HZ,H1,HO⟩:=kh4 hb hz h1 (We w 164 2);have he:=λw=>bD (P:=aB) w 48 164 (some ad) n c 0 0 cV;clear hc hb hz h1;go_enter func150,ntmps150
 go_wp2_with (at_builtin;refine wpList_append_own _ rfl _ _ 48 rfl w.heap.size 164 i0 (.agg #[E J 0,E J 0]) 2 16 cV hi au av aw rfl (by decide) _ _ _ rfl HO ad n c aa rfl HZ HC H1 (by unfold cK;omega) (by omega) HB.size ?_;intro v2 w3 ah ag _)
 have HW:Hid (w3.ownsRow w.heap.size 164 2 v2 n aa):=by show World.ownsRow _ _ _ _ _ _ _;simpa using ah
 have am:=Zd (HB.grown ag HB.size (Xn HO));clear ah ag;go_wp2;go_ret;exact⟨v2,rfl,Za HW,Za am⟩
theorem Rb{w:World}{base:Nat}{v}{n:Nat}{l}(h:w.ownsRow base 164 2 v n (Xe l)):∃ a c,v = F a n c/\OpsAt w a n l/\SlOk a n c:=by
 have hl:l.length=n:=by have:=h.1;rw[Xh] at this;omega
 rcases h.2 with ⟨rfl,rfl⟩|⟨g,cap,ad,rfl,hg,hh,h1,h2,h3,h4⟩
 ·exact⟨none,0,rfl,⟨hl,λh=>absurd h (by omega)⟩,⟨aF _,aI _,λ_=>⟨rfl,rfl⟩⟩⟩
 ·refine⟨_,cap,rfl,⟨hl,λ_=>⟨g,0,rfl,λi hi=>?_⟩⟩,⟨h1,h2,λe=>by cases e⟩⟩;obtain⟨f0,f1⟩:=Si l i (by omega);rw[Nat.zero_add,bG h _ (by omega),bG h _ (by omega)];exact⟨f0,f1⟩
theorem Ux(a)(n c:Nat)(l)(w:World)(hn:n<=8796093022208)(h:OpsAt w a n l)(hs:SlOk a n c) :
  Calls aB 150 #[F a n c] w λe w'=>∃ a' c',e = dF (F a' n c')/\Fresh w.heap.size w' (λw2=>OpsAt w2 a' n l/\SlOk a' n c')/\ZD w w':=by
 obtain⟨hl,hc⟩:=h;cases a with
 | none=>
  obtain⟨rfl,rfl⟩:=hs.2.2 rfl;exact (Jz w).mono λe w' ⟨x,y⟩=>⟨none,0,x,λ_ _=>⟨⟨hl,λh=>absurd h (by omega)⟩,hs⟩,y ▸ Below.refl _ _⟩
 | some ad=>
  have ah:∀ j u,(Xe l)[j]? = some u->w.cell? (ad.add j)=some u:=λj u hj=>by
   have ar:j<l.length*2:=(by rw[<-Xh];exact (aX.1 hj).1);obtain⟨b,off,e,aj⟩:=hc (by omega);cases e;rw[cN];exact Jx hl aj j u hj
  refine (Jc ad n c (Xe l) w hn (by rw[Xh,hl]) (Rh l) ah).mono ?_;rintro e w' ⟨v,rfl,x,y⟩;obtain⟨a',c',rfl,h1,h2⟩:=Rb x;refine⟨a',c',rfl,λw2 g2=>?_,y⟩;have x2:=g2.own x (λk hk=>by have:=(x.lt k hk).1;omega);obtain⟨a2,c2,e,h3,h4⟩:=Rb x2;cases e;exact⟨h3,h4⟩
theorem Tryz.infoInC:(Tryz.prog.info? 119).map (λi=>(i.zero,i.size,i.bytes))=some (some (.agg #[E J 0,E J 0,F none 0 0]),3,40):=by kernel_rfl
theorem Eo(w):Calls aB 159 #[F none 0 0] w λe w'=>e = dF (F none 0 0)/\w=w':=by
 have he:=λw=>bD (P:=aB) w 56 119 none 0 0 0 0 underlying56;go_enter func159,ntmps159;go_wp2;go_ret;exact⟨rfl,rfl⟩
theorem So(ad:Addr)(n c:Nat)(aa:List Value)(w:World)(hn:n<=3518437208883)(hz:aa.length=n*3)(h1:∀ u∈aa,u.oneCell'=true)(hc:∀ j u,aa[j]? = some u->w.cell? (ad.add j)=some u) :
  Calls aB 159 #[F (some ad) n c] w λe w'=>∃ v,e = dF v/\w'.ownsRow w.heap.size 119 3 v n aa/\ZD w w':=by
 obtain⟨i0,hi,au,av,aw⟩:=info_parts Tryz.infoInC;have hb:=Zh w (dE #[] 119);have HC:Hid (∀ j u,aa[j]? = some u->(w.alloc (dE #[] 119)).cell? (ad.add j)=some u):=λj u hj=>Ze hb (hc j u hj);obtain⟨HB,HZ,H1,HO⟩:=kh4 hb hz h1 (We w 119 3);have he:=λw=>bD (P:=aB) w 56 119 (some ad) n c 0 0 underlying56;clear hc hb hz h1;go_enter func159,ntmps159
 go_wp2_with (at_builtin;refine wpList_append_own _ rfl _ _ 56 rfl w.heap.size 119 i0 (.agg #[E J 0,E J 0,F none 0 0]) 3 40 underlying56 hi au av aw rfl (by decide) _ _ _ rfl HO ad n c aa rfl HZ HC H1 (by unfold cK;omega) (by omega) HB.size ?_;intro v2 w3 ah ag _)
 have HW:Hid (w3.ownsRow w.heap.size 119 3 v2 n aa):=by show World.ownsRow _ _ _ _ _ _ _;simpa using ah
 have am:=Zd (HB.grown ag HB.size (Xn HO));clear ah ag;go_wp2;go_ret;exact⟨v2,rfl,Za HW,Za am⟩
theorem Ep(a)(n c:Nat)(L)(w0 w:World)(hn:n<=3518437208883)(h:RowsAt inR.R 3 w0 a n L)(hb:ZD w0 w)(hs:SlOk a n c) :
  Calls aB 159 #[F a n c] w λe w'=>∃ v,∃ K:List (List Value),e = dF v/\AllC inR w0 K L/\w'.ownsRow w.heap.size 119 3 v n K.flatten/\ZD w w':=by
 obtain⟨hl,hc⟩:=h;cases a with
 | none=>
  obtain⟨rfl,rfl⟩:=hs.2.2 rfl;have e:L=[]:=aL.1 hl;subst e;exact (Eo w).mono λe w' ⟨x,y⟩=>⟨_,[],x,⟨rfl,λi h=>absurd h (by simp)⟩,y ▸ World.ownsRow_nil _ _ _ _,y ▸ Below.refl _ _⟩
 | some ad=>
  by_cases h0:n=0
  ·subst h0;have e:L=[]:=aL.1 hl;subst e;exact (So ad 0 c [] w hn rfl (λu hu=>by cases hu) (λj u hj=>by simp at hj)).mono λe w' ⟨v,x,y,z⟩=>⟨v,[],x,⟨rfl,λi h=>absurd h (by simp)⟩,y,z⟩
  ·obtain⟨b,off,e,_,ag⟩:=hc (by omega);obtain⟨rfl⟩:=e;obtain⟨K,h1,h3⟩:=Vr inR ag;have hk:K.flatten.length=n*3:=(by rw[Xo h1,hl];rfl);exact (So ⟨b,off,none⟩ n c K.flatten w hn hk (flat_one h1) (λj u hj=>by rw[cN];exact Ze hb (h3 j u hj))).mono λe w' ⟨v,x,y,z⟩=>⟨v,K,x,h1,y,z⟩
theorem Tryz.infoOutC:(Tryz.prog.info? 122).map (λi=>(i.zero,i.size,i.bytes))=some (some (.agg #[E J 0,F none 0 0]),2,32):=by kernel_rfl
theorem Fw(w):Calls aB 160 #[F none 0 0] w λe w'=>e = dF (F none 0 0)/\w=w':=by
 have he:=λw=>bD (P:=aB) w 57 122 none 0 0 0 0 underlying57;go_enter func160,ntmps160;go_wp2;go_ret;exact⟨rfl,rfl⟩
theorem R4(ad:Addr)(n c:Nat)(aa:List Value)(w:World)(hn:n<=4398046511104)(hz:aa.length=n*2)(h1:∀ u∈aa,u.oneCell'=true)(hc:∀ j u,aa[j]? = some u->w.cell? (ad.add j)=some u) :
  Calls aB 160 #[F (some ad) n c] w λe w'=>∃ v,e = dF v/\w'.ownsRow w.heap.size 122 2 v n aa/\ZD w w':=by
 obtain⟨i0,hi,au,av,aw⟩:=info_parts Tryz.infoOutC;have hb:=Zh w (dE #[] 122);have HC:Hid (∀ j u,aa[j]? = some u->(w.alloc (dE #[] 122)).cell? (ad.add j)=some u):=λj u hj=>Ze hb (hc j u hj);obtain⟨HB,HZ,H1,HO⟩:=kh4 hb hz h1 (We w 122 2);have he:=λw=>bD (P:=aB) w 57 122 (some ad) n c 0 0 underlying57;clear hc hb hz h1;go_enter func160,ntmps160
 go_wp2_with (at_builtin;refine wpList_append_own _ rfl _ _ 57 rfl w.heap.size 122 i0 (.agg #[E J 0,F none 0 0]) 2 32 underlying57 hi au av aw rfl (by decide) _ _ _ rfl HO ad n c aa rfl HZ HC H1 (by unfold cK;omega) (by omega) HB.size ?_;intro v2 w3 ah ag _)
 have HW:Hid (w3.ownsRow w.heap.size 122 2 v2 n aa):=by show World.ownsRow _ _ _ _ _ _ _;simpa using ah
 have am:=Zd (HB.grown ag HB.size (Xn HO));clear ah ag;go_wp2;go_ret;exact⟨v2,rfl,Za HW,Za am⟩
theorem Fx(a)(n c:Nat)(L)(w0 w:World)(hn:n<=4398046511104)(h:RowsAt outR.R 2 w0 a n L)(hb:ZD w0 w)(hs:SlOk a n c) :
  Calls aB 160 #[F a n c] w λe w'=>∃ v,∃ K:List (List Value),e = dF v/\AllC outR w0 K L/\w'.ownsRow w.heap.size 122 2 v n K.flatten/\ZD w w':=by
 obtain⟨hl,hc⟩:=h;cases a with
 | none=>
  obtain⟨rfl,rfl⟩:=hs.2.2 rfl;have e:L=[]:=aL.1 hl;subst e;exact (Fw w).mono λe w' ⟨x,y⟩=>⟨_,[],x,⟨rfl,λi h=>absurd h (by simp)⟩,y ▸ World.ownsRow_nil _ _ _ _,y ▸ Below.refl _ _⟩
 | some ad=>
  by_cases h0:n=0
  ·subst h0;have e:L=[]:=aL.1 hl;subst e;exact (R4 ad 0 c [] w hn rfl (λu hu=>by cases hu) (λj u hj=>by simp at hj)).mono λe w' ⟨v,x,y,z⟩=>⟨v,[],x,⟨rfl,λi h=>absurd h (by simp)⟩,y,z⟩
  ·obtain⟨b,off,e,_,ag⟩:=hc (by omega);obtain⟨rfl⟩:=e;obtain⟨K,h1,h3⟩:=Vr outR ag;have hk:K.flatten.length=n*2:=(by rw[Xo h1,hl];rfl);exact (R4 ⟨b,off,none⟩ n c K.flatten w hn hk (flat_one h1) (λj u hj=>by rw[cN];exact Ze hb (h3 j u hj))).mono λe w' ⟨v,x,y,z⟩=>⟨v,K,x,h1,y,z⟩
theorem Tryz.infoTxC:(Tryz.prog.info? 59).map (λi=>(i.zero,i.size,i.bytes))=some (some (.agg #[E J 0,F none 0 0,F none 0 0]),3,56):=by kernel_rfl
theorem Em(w):Calls aB 199 #[F none 0 0] w λe w'=>e = dF (F none 0 0)/\w=w':=by
 have he:=λw=>bD (P:=aB) w 37 59 none 0 0 0 0 underlying37;go_enter func199,ntmps199;go_wp2;go_ret;exact⟨rfl,rfl⟩
theorem Sn(ad:Addr)(n c:Nat)(aa:List Value)(w:World)(hn:n<=2513169434916)(hz:aa.length=n*3)(h1:∀ u∈aa,u.oneCell'=true)(hc:∀ j u,aa[j]? = some u->w.cell? (ad.add j)=some u) :
  Calls aB 199 #[F (some ad) n c] w λe w'=>∃ v,e = dF v/\w'.ownsRow w.heap.size 59 3 v n aa/\ZD w w':=by
 obtain⟨i0,hi,au,av,aw⟩:=info_parts Tryz.infoTxC;have hb:=Zh w (dE #[] 59);have HC:Hid (∀ j u,aa[j]? = some u->(w.alloc (dE #[] 59)).cell? (ad.add j)=some u):=λj u hj=>Ze hb (hc j u hj);obtain⟨HB,HZ,H1,HO⟩:=kh4 hb hz h1 (We w 59 3);have he:=λw=>bD (P:=aB) w 37 59 (some ad) n c 0 0 underlying37;clear hc hb hz h1;go_enter func199,ntmps199
 go_wp2_with (at_builtin;refine wpList_append_own _ rfl _ _ 37 rfl w.heap.size 59 i0 (.agg #[E J 0,F none 0 0,F none 0 0]) 3 56 underlying37 hi au av aw rfl (by decide) _ _ _ rfl HO ad n c aa rfl HZ HC H1 (by unfold cK;omega) (by omega) HB.size ?_;intro v2 w3 ah ag _)
 have HW:Hid (w3.ownsRow w.heap.size 59 3 v2 n aa):=by show World.ownsRow _ _ _ _ _ _ _;simpa using ah
 have am:=Zd (HB.grown ag HB.size (Xn HO));clear ah ag;go_wp2;go_ret;exact⟨v2,rfl,Za HW,Za am⟩
theorem En(a)(n c:Nat)(L)(w0 w:World)(hn:n<=2513169434916)(h:RowsAt txR.R 3 w0 a n L)(hb:ZD w0 w)(hs:SlOk a n c) :
  Calls aB 199 #[F a n c] w λe w'=>∃ v,∃ K:List (List Value),e = dF v/\AllC txR w0 K L/\w'.ownsRow w.heap.size 59 3 v n K.flatten/\ZD w w':=by
 obtain⟨hl,hc⟩:=h;cases a with
 | none=>
  obtain⟨rfl,rfl⟩:=hs.2.2 rfl;have e:L=[]:=aL.1 hl;subst e;exact (Em w).mono λe w' ⟨x,y⟩=>⟨_,[],x,⟨rfl,λi h=>absurd h (by simp)⟩,y ▸ World.ownsRow_nil _ _ _ _,y ▸ Below.refl _ _⟩
 | some ad=>
  by_cases h0:n=0
  ·subst h0;have e:L=[]:=aL.1 hl;subst e;exact (Sn ad 0 c [] w hn rfl (λu hu=>by cases hu) (λj u hj=>by simp at hj)).mono λe w' ⟨v,x,y,z⟩=>⟨v,[],x,⟨rfl,λi h=>absurd h (by simp)⟩,y,z⟩
  ·obtain⟨b,off,e,_,ag⟩:=hc (by omega);obtain⟨rfl⟩:=e;obtain⟨K,h1,h3⟩:=Vr txR ag;have hk:K.flatten.length=n*3:=(by rw[Xo h1,hl];rfl);exact (Sn ⟨b,off,none⟩ n c K.flatten w hn hk (flat_one h1) (λj u hj=>by rw[cN];exact Ze hb (h3 j u hj))).mono λe w' ⟨v,x,y,z⟩=>⟨v,K,x,h1,y,z⟩
theorem Tryz.infoBlkC:(Tryz.prog.info? 39).map (λi=>(i.zero,i.size,i.bytes))=some (some (.agg #[E J 0,E J 0,E J 0,E J 0,F none 0 0]),5,56):=by kernel_rfl
theorem F6(w):Calls aB 196 #[F none 0 0] w λe w'=>e = dF (F none 0 0)/\w=w':=by
 have he:=λw=>bD (P:=aB) w 26 39 none 0 0 0 0 underlying26;go_enter func196,ntmps196;go_wp2;go_ret;exact⟨rfl,rfl⟩
theorem R7(ad:Addr)(n c:Nat)(aa:List Value)(w:World)(hn:n<=2513169434916)(hz:aa.length=n*5)(h1:∀ u∈aa,u.oneCell'=true)(hc:∀ j u,aa[j]? = some u->w.cell? (ad.add j)=some u) :
  Calls aB 196 #[F (some ad) n c] w λe w'=>∃ v,e = dF v/\w'.ownsRow w.heap.size 39 5 v n aa/\ZD w w':=by
 obtain⟨i0,hi,au,av,aw⟩:=info_parts Tryz.infoBlkC;have hb:=Zh w (dE #[] 39);have HC:Hid (∀ j u,aa[j]? = some u->(w.alloc (dE #[] 39)).cell? (ad.add j)=some u):=λj u hj=>Ze hb (hc j u hj);obtain⟨HB,HZ,H1,HO⟩:=kh4 hb hz h1 (We w 39 5);have he:=λw=>bD (P:=aB) w 26 39 (some ad) n c 0 0 underlying26;clear hc hb hz h1;go_enter func196,ntmps196
 go_wp2_with (at_builtin;refine wpList_append_own _ rfl _ _ 26 rfl w.heap.size 39 i0 (.agg #[E J 0,E J 0,E J 0,E J 0,F none 0 0]) 5 56 underlying26 hi au av aw rfl (by decide) _ _ _ rfl HO ad n c aa rfl HZ HC H1 (by unfold cK;omega) (by omega) HB.size ?_;intro v2 w3 ah ag _)
 have HW:Hid (w3.ownsRow w.heap.size 39 5 v2 n aa):=by show World.ownsRow _ _ _ _ _ _ _;simpa using ah
 have am:=Zd (HB.grown ag HB.size (Xn HO));clear ah ag;go_wp2;go_ret;exact⟨v2,rfl,Za HW,Za am⟩
theorem F7(a)(n c:Nat)(L)(w0 w:World)(hn:n<=2513169434916)(h:RowsAt blkR.R 5 w0 a n L)(hb:ZD w0 w)(hs:SlOk a n c) :
  Calls aB 196 #[F a n c] w λe w'=>∃ v,∃ K:List (List Value),e = dF v/\AllC blkR w0 K L/\w'.ownsRow w.heap.size 39 5 v n K.flatten/\ZD w w':=by
 obtain⟨hl,hc⟩:=h;cases a with
 | none=>
  obtain⟨rfl,rfl⟩:=hs.2.2 rfl;have e:L=[]:=aL.1 hl;subst e;exact (F6 w).mono λe w' ⟨x,y⟩=>⟨_,[],x,⟨rfl,λi h=>absurd h (by simp)⟩,y ▸ World.ownsRow_nil _ _ _ _,y ▸ Below.refl _ _⟩
 | some ad=>
  by_cases h0:n=0
  ·subst h0;have e:L=[]:=aL.1 hl;subst e;exact (R7 ad 0 c [] w hn rfl (λu hu=>by cases hu) (λj u hj=>by simp at hj)).mono λe w' ⟨v,x,y,z⟩=>⟨v,[],x,⟨rfl,λi h=>absurd h (by simp)⟩,y,z⟩
  ·obtain⟨b,off,e,_,ag⟩:=hc (by omega);obtain⟨rfl⟩:=e;obtain⟨K,h1,h3⟩:=Vr blkR ag;have hk:K.flatten.length=n*5:=(by rw[Xo h1,hl];rfl);exact (R7 ⟨b,off,none⟩ n c K.flatten w hn hk (flat_one h1) (λj u hj=>by rw[cN];exact Ze hb (h3 j u hj))).mono λe w' ⟨v,x,y,z⟩=>⟨v,K,x,h1,y,z⟩
theorem Gd(a)(n c:Nat)(L)(s x:Int)(w)(hn:n<=cK)(h:IntsAt w a n L)(hx:Qx s L 0=x) :
  Calls aB 77 #[F a n c,E J s] w λe w'=>e = dF (E J x)/\w=w':=by
 obtain⟨HL,HZ⟩:=kh2 h h.1;have HX:Hid (Qx s (L.drop 0) 0=x):=hx;unfold cK at hn;clear h hx;go_enter func77,ntmps77;go_wp2
 go_loopw [8] (λi wr=>∃ j:Nat,j<=n/\i = E J j/\w=wr/\Hid (Qx s (L.drop j) j=x)) (λi _=>n - (intOf i).toNat)
 case atStart=>exact⟨0,aI _,rfl,rfl,HX⟩
 case round=>
  obtain⟨j,hk,rfl,rfl,A⟩:=hrel;clear HX;by_cases ah:j<n
  ·have h1:j<L.length:=(by rw[Za HZ];exact ah);obtain⟨b,off,rfl,ak,hc⟩:=HL.2 (by omega);have f1:=hc j h1;have ST:=Zd (Zok s L j h1);obtain⟨t,ht⟩:=ZF (L[j]);rw[ht] at f1 ST;clear ht hc;by_cases e:s=t
   ·subst e;have R:Hid ((j:Int)=x):=(by show _=_;rw[<-Za A,Za ST,if_pos rfl]);clear A ST;go_wp2;go_ret;exact⟨by rw[Za R];rfl,rfl⟩
   ·have R:Hid (Qx s (L.drop (j+1)) (j+1)=x):=(by show _=_;rw[<-Za A,Za ST,if_neg e]);have g:(s == t)=false:=(by simp[e]);clear A ST e;go_wp2;go_roundw
    case rel=>exact⟨j+1,by omega,by go_num,(by trivial),R⟩
    case measure=>simp[intOf];omega
  ·have R:Hid (x = -1):=(by show _=_;rw[<-Za A,Zks s L j (by rw[Za HZ];omega)]);clear A;go_wp2;go_ret;exact⟨by rw[Za R];rfl,rfl⟩
theorem Lt(a)(n c:Nat)(L)(s:Int)(o:Bool)(w)(hn:n<=cK)(h:IntsAt w a n L)(ho:decide (s∈L)=o) :
  Calls aB 141 #[F a n c,E J s] w λe w'=>e = dF (dI o)/\w=w':=by
 obtain⟨x,hx⟩:=ZF (Qx s L 0);have C:=Zd (Gd a n c L s x w hn h hx);have HO:Hid (decide (0<=x)=o):=by show _=_;rw[<-hx,Ct,ho]
 clear hn h ho hx;go_enter func141,ntmps141;go_wp2_with fail;refine C.mono ?_;rintro e w1 ⟨rfl,rfl⟩;go_wp2;go_ret;exact⟨by rw[<-Za HO];rfl,rfl⟩
theorem Fq(a b)(n c m d:Nat)(L)(s:Int)(o:Bool)(w:World)(hn:n<=cK)(h:IntsAt w a n L)(ho:decide (s∈L)=o) :
  ZH 70 #[.agg #[F a n c,F b m d],E J s] w (dI o):=by
 have hb:=Zh w (dE #[F a n c,F b m d] 28);obtain⟨C,HB⟩:=kh2 (Lt a n c L s o _ hn (h.later hb) ho) hb;clear h ho hb;go_enter func70,ntmps70;go_wp2_with fail;refine C.mono ?_;rintro e w1 ⟨rfl,rfl⟩;go_wp2;go_ret;exact⟨rfl,Za HB⟩
def Rn(x:Zk)(a:Option Addr)(n c:Nat):Value:=.agg #[E J x.1,E J x.2.1,E J x.2.2.1,E J x.2.2.2.1,F a n c]
theorem Ha(a b)(n c d:Nat)(N T)(s:Int)(x:Zk)(w:World)(hn:n<=cK)(h:IntsAt w a n N)(hT:BlksAt w b n T)(hx:fnd s N T=x) :
  Calls aB 72 #[.agg #[F a n c,F b n d],E J s] w λe w'=>∃ ta tn tc,e = dF (Rn x ta tn tc)/\TxsAt w ta tn x.2.2.2.2/\SlOk ta tn tc/\ZD w w':=by
 unfold Rn;obtain⟨X,hX⟩:=ZG ((w.alloc (dE #[F a n c,F b n d] 28)).alloc (dE #[E J 0,E J 0,E J 0,E J 0,F none 0 0] 39));have aa:ZD w X:=by rw[hX];exact Zf (Zh _ _) (Zh _ _)
 have x0:X.cell? ⟨w.heap.size,0,none⟩=some (F a n c):=by rw[hX];exact Ze (Zh _ _) (Z4 w _ _ _).1
 have x1:X.cell? ⟨w.heap.size,1,none⟩=some (F b n d):=by rw[hX];exact Ze (Zh _ _) (Z4 w _ _ _).2
 have ag:X.heap[w.heap.size+1]? = some (dE [E J 0,E J 0,E J 0,E J 0,F none 0 0].toArray 39 (0,0)):=by
  rw[hX];have:=Zx (w.alloc (dE #[F a n c,F b n d] 28)) (E J 0) (E J 0) (E J 0) (E J 0) (F none 0 0) 39;rw[show (w.alloc (dE #[F a n c,F b n d] 28)).heap.size=w.heap.size+1 by simp] at this;exact this
 obtain⟨z0,z1,z2,z3,z4,y0,y1,y2,y3,y4,xl⟩:=kf5 ag;obtain⟨k,hk⟩:=ZF (Qx s N 0);obtain⟨C,ah,HT⟩:=kh3 (Gd a n c N s k X hn (h.later aa) hk) aa hT
 rcases Jv s N T 0 (by rw[h.1,hT.1]) with ⟨h1,_,h3⟩|⟨i,hi,h1,_,h3⟩
 ·rw[hx] at h3;obtain rfl:k = -1:=by rw[<-hk,h1]
  subst h3;clear h hT hx ag aa hk h1;unfold Yx;simp only;go_enter func72,ntmps72;go_wp2_with fail;rw[<-hX];clear hX;refine C.mono ?_;rintro e w1 ⟨rfl,rfl⟩;go_wp2;(try simp only[Exit.inBlock,Exit.then]);refine bB (v:=.agg #[E J 0,E J 0,E J 0,E J 0,F none 0 0]) ?_ rfl ⟨none,0,0,rfl,RowsAt.nil _ _,⟨aF _,aI _,λ_=>⟨rfl,rfl⟩⟩,?_⟩
  ·rw[Yf rfl];go_simp
  ·exact (((((Gr.refl X (λq=>q=w.heap.size+1)).one (w.heap.size+1) 0 (.inl rfl) _).one (w.heap.size+1) 1 (.inl rfl) _).one (w.heap.size+1) 2 (.inl rfl) _).one (w.heap.size+1) 3 (.inl rfl) _).one (w.heap.size+1) 4 (.inl rfl) _ |>.below ah (by omega) (λk hk=>by omega)
 ·rw[hx] at h3;obtain rfl:k=(i:Int):=by rw[<-hk,h1];simp
  have bd:i<n:=by rw[<-hT.1];exact hi
  obtain⟨bb,off,rfl,aw,ap⟩:=hT.2 (by omega);have an:=ap i hi;rw[<-h3] at an;obtain⟨g0,g1,g2,g3,ta,tn,tc,g4,ht,hs⟩:=an;obtain⟨av,au⟩:=kh2 ht hs;have k0:=Ze aa g0;have k1:=Ze aa g1;have k2:=Ze aa g2;have k3:=Ze aa g3;have k4:=Ze aa g4;have bl:=aD aw aa.size;clear h hT hx ag aa hk h1 ap ht hs g0 g1 g2 g3 g4 h3;go_enter func72,ntmps72;go_wp2_with fail;rw[<-hX];clear hX;refine C.mono ?_;rintro e w1 ⟨rfl,rfl⟩;go_wp2;(try simp only[Exit.inBlock,Exit.then]);refine bB (v:=.agg #[E J x.1,E J x.2.1,E J x.2.2.1,E J x.2.2.2.1,F ta tn tc]) ?_ rfl ⟨ta,tn,tc,rfl,Za av,Za au,?_⟩
  ·rw[Yf rfl];go_simp
  ·exact (((((Gr.refl X (λq=>q=w.heap.size+1)).one (w.heap.size+1) 0 (.inl rfl) _).one (w.heap.size+1) 1 (.inl rfl) _).one (w.heap.size+1) 2 (.inl rfl) _).one (w.heap.size+1) 3 (.inl rfl) _).one (w.heap.size+1) 4 (.inl rfl) _ |>.below ah (by omega) (λk hk=>by omega)
theorem Pp(p h k n v w) :
  (Instr.field 39 (.agg #[p,h,k,n,v]) 0).run aB w = .ok p w/\(Instr.field 39 (.agg #[p,h,k,n,v]) 1).run aB w = .ok h w/\(Instr.field 39 (.agg #[p,h,k,n,v]) 2).run aB w = .ok k w:=by
 refine⟨?_,?_,?_⟩ <;> kernel_rfl
theorem Gf(a b)(n c d:Nat)(N T)(s z:Int)(w:World)(hn:n<=cK)(h:IntsAt w a n N)(hT:BlksAt w b n T)(hz:(fnd s N T).2.1=z) :
  ZH 194 #[.agg #[F a n c,F b n d],E J s] w (E J z):=by
 have hb:=Zh w (dE #[F a n c,F b n d] 28);have C:=Ha a b n c d N T s _ _ hn (h.later hb) (hT.later hb) rfl;unfold Rn at C;rw[hz] at C;obtain⟨C,HB⟩:=kh2 C hb;clear h hT hz hb;go_enter func194,ntmps194;go_wp2_with fail;refine C.mono ?_;rintro e w1 ⟨ta,tn,tc,rfl,_,_,ab⟩;have ae:=Zd (Zf HB ab);have hf:=(Pp (E J (fnd s N T).1) (E J z) (E J (fnd s N T).2.2.1) (E J (fnd s N T).2.2.2.1) (F ta tn tc) w1).2.1;clear ab;go_wp2;go_ret;exact⟨rfl,Za ae⟩
