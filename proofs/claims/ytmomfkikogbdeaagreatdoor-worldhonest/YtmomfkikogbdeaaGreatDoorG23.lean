import Derived.Test.YtmomfkikogbdeaaGreatDoorH
import Derived.Test.YtmomfkikogbdeaaGreatDoorG22
open Go.Proofs.Tryz
open Go renaming lt_of_block->aA,maxLen->cW,bodyPost_ret->aW
open Go.Addr renaming add_lit->cC
open Go.Ending renaming returned->dA
open Go.IntKind renaming i64->J
open Go.Lib renaming run_eql_slice_nil->aY
open Go.Obj renaming cells->cZ
open Go.Proofs.Tryz renaming prog->aB
open Go.Value renaming int->E,slice->F,tuple->dB,bool->dD
open Go.World.ownsRow renaming cellAt->aZ
open List renaming length_take->bP,drop_eq_getElem_cons->aI,drop_of_length_le->bM,take_succ_eq_append_getElem->aS,length_eq_zero_iff->aP,getElem?_eq_some_iff->cT,flatten_cons->bJ,length_set->cD,getElem_set_self->cN,getElem_mem->aQ
open Nat renaming zero_le->aL,le_refl->aF,lt_of_lt_of_le->aD
set_option maxHeartbeats 3200000
set_option maxRecDepth 10000
namespace Go.Proofs.YtmomfkikogbdeaaGreatDoor
open Go.RowKit
theorem Zev(x:Zj)(a)(n c:Nat)(w:World):ZH 81 #[cnV x a n c] w (dD true):=by
 unfold cnV;have z:=Zd (Zh w (cZ #[E J x.1,E J x.2.1,E J (cv x),F a n c,E J (ch x),dD (cr x)] 124));go_enter func81,ntmps81;go_wp2;go_ret;exact⟨rfl,Za z⟩
theorem Ap(a n c L)(x s:Int)(w:World)(h:CoinsAt w a n L)(hx:Z4 L=x)(hs:(if x=0 then Zp L else 0)=s) :
  ZH 80 #[F a n c,.func (.func 81) #[] #[]] w (dB #[E J s,E J x]):=by
 have C1:=Zd (Vi a n c L x w h hx);by_cases e1:x=0
 ·subst e1;rw[if_pos rfl] at hs;have hR:=(Z6 L).1 hx;have hn:n<=720:=by rw[<-h.1];exact hR.len
  have aj:=Zd (λk=>Sb L k (λca hz=>by have:=Yu (hR.one ca hz);omega));obtain⟨HL,HZ,HS⟩:=kh3 h h.1 hs;clear hR h hx hs;go_enter func80,ntmps80;go_wp2_with fail;refine C1.mono ?_;rintro e w2 ⟨rfl,Q⟩;have ae:=Zd Q;clear Q C1;go_wp2
  go_loopw [7,17] (λsv i wr=>∃ (k:Nat) (d:Int),k<=n/\sv = E J d/\i = E J k/\Hid (d=Zp (L.take k))/\Hid (ZD w wr)) (λ_ i _=>n - (intOf i).toNat)
  case atStart=>exact⟨0,0,aL _,rfl,rfl,rfl,ae⟩
  case round=>
   obtain⟨k,d,hk,rfl,rfl,A,HB⟩:=hrel;by_cases bg:k<n
   ·have ap:k<L.length:=(by rw[Za HZ];exact bg);obtain⟨b,off,rfl,bt,bf⟩:=HL.2 (by omega);have ah:=CoinAt.kept _ _ _ _ _ HB (bf k ap);have b1:=aj k;have b2:=aj (k+1);have z:=Pk L k ap;obtain⟨y,hy⟩:=ZF (L[k]);rw[hy] at ah z;obtain⟨la,ln,lc,g0,g1,g2,g3,g4,g5,_,_⟩:=ah.val;obtain⟨v,hv⟩:=ZF (cv y);have T1:=λw=>Zev y la ln lc w;unfold cnV at T1;rw[hv] at g2 z T1;have bd:=Zd T1;rw[<-Za A] at b1 z;rw[z] at b2;have A2:Hid (d+v=Zp (L.take (k+1))):=z.symm;obtain⟨X,hX,an,am⟩:=ka00 wr [E J y.1,E J y.2.1,E J v,F la ln lc,E J (ch y),dD (cr y)] 124;have m2:=Zb am 2 _ rfl;have ay:=Zd (Zf HB an);have bz:IntKind.i64.wrap (d+v)=d+v:=(by rw[IntKind.wrap_i64];omega);clear ah hy z A HB T1 hv am an;go_wp2_with fail;rw[<-hX];clear hX;refine (bd _).mono ?_;rintro e w3 ⟨rfl,ag⟩;have n2:=Ze ag m2;have bv:=World.block_lt_of_cell? _ _ n2;have ax:=Zd (Zf ay ag);clear ag m2;go_wp2;go_roundw
    case rel=>exact⟨k+1,d+v,by omega,rfl,by go_num,A2,ax⟩
    case measure=>simp[intOf];omega
   ·have e:k=n:=(by omega);subst e
    have R:Hid (d=s):=by
     show _=_;rw[Za A,List.take_of_length_le (by rw[Za HZ];exact aF _)];exact Za HS
    clear A;go_wp2;go_ret2;exact⟨by rw[<-Za R];rfl,Za HB⟩
 ·rw[if_neg e1] at hs;subst hs;have g:(x != 0)=true:=by simp[e1]
  clear h hx e1;go_enter func80,ntmps80;go_wp2_with fail;refine C1.mono ?_;rintro e w2 ⟨rfl,Q⟩;have ae:=Zd Q;clear Q C1;go_wp2;go_ret2;exact⟨rfl,Za ae⟩
theorem An(a n c L)(x s:Int)(w:World)(h:CoinsAt w a n L)(hx:Z4 L=x)(Q:(if x=0 then Zp L else 0)=s) :
  ZH 25 #[F a n c] w (dB #[E J s,E J x]):=by
 have C:=Zd (Ap a n c L x s w h hx Q);clear h hx Q;go_enter func25,ntmps25;go_wp2_with fail;refine C.mono ?_;rintro e w2 ⟨rfl,z⟩;have aa:=Zd z;clear z;go_wp2;go_ret2;exact⟨rfl,Za aa⟩
theorem Nu(a n c L)(s:Int)(w:World)(h:CoinsAt w a n L)(z:Ys L)(hs:Zp L=s) :
  ZH 158 #[F a n c] w (E J s):=by
 have C1:=Zd (An a n c L 0 s w h ((Z6 L).2 z) (by rw[if_pos rfl];exact hs));clear h z hs;go_enter func158,ntmps158;go_wp2_with fail;refine C1.mono ?_;rintro e w1 ⟨rfl,Q⟩;have HB:=Zd Q;clear Q C1;go_wp2;go_ret;exact⟨rfl,Za HB⟩
namespace Tr
open Go.RowKit
def IntsAt(w:World)(a:Option Addr)(len:Nat)(Z:List Int):Prop:=
 Z.length=len/\(0<len->∃ b off,a=some ⟨b,off,none⟩/\b<w.heap.size/\∀ i (h:i<Z.length),w.cell? ⟨b,off+i,none⟩=some (E J Z[i]))
theorem IntsAt.later{w w':World}{a len Z}(h:IntsAt w a len Z)(z:ZD w w'):IntsAt w' a len Z:=by
 refine⟨h.1,λh0=>?_⟩;obtain⟨b,off,e,hl,Q⟩:=h.2 h0;exact⟨b,off,e,aD hl z.size,λi hi=>Ze z (Q i hi)⟩
theorem IntsAt.nil(w a):IntsAt w a 0 []:=⟨rfl,λh=>absurd h (by omega)⟩
theorem IntsAt.take{w a len}{l:List Int}(h:IntsAt w a len l)(k:Nat)(hk:k<=len):IntsAt w a k (l.take k):=by
 have hl:=h.1;refine⟨by rw[bP];omega,λh0=>?_⟩;obtain⟨b,off,e,z,Q⟩:=h.2 (by omega);refine⟨b,off,e,z,λi hi=>?_⟩;rw[bP] at hi;rw[List.getElem_take];exact Q i (by omega)
theorem ints_of_own{w:World}{base:Nat}{v}{n:Nat}{N:List Int}(h:w.ownsRow base 3 1 v n (N.map (Value.int .i64))):∃ a cap,v = F a n cap/\SlOk a n cap/\IntsAt w a n N:=by
 have z:N.length=n:=by simpa using h.1
 rcases h.2 with ⟨rfl,rfl⟩|⟨g,cap,aa,rfl,hg,Q,h1,h2,h3,h4⟩
 ·exact⟨none,0,rfl,⟨aF _,aL _,λ_=>⟨rfl,rfl⟩⟩,z,λh=>absurd h (by omega)⟩
 ·refine⟨_,cap,rfl,⟨h1,h2,λe=>by cases e⟩,z,λ_=>⟨g,0,rfl,aA Q,λi hi=>?_⟩⟩;rw[Nat.zero_add,aZ h _ (by omega)];simp[hi]
def BlkAt(w:World)(b o:Nat)(x:Zl):Prop:=
 w.cell? ⟨b,o,none⟩=some (E J x.1)/\w.cell? ⟨b,o+1,none⟩=some (E J x.2.1)/\w.cell? ⟨b,o+2,none⟩=some (E J x.2.2.1)/\w.cell? ⟨b,o+3,none⟩=some (E J x.2.2.2.1) /\
 ∃ a n c,w.cell? ⟨b,o+4,none⟩=some (F a n c)/\TxsAt w a n x.2.2.2.2/\SlOk a n c
theorem BlkAt.kept:Hf BlkAt:=λ_ _ _ _ _ z h=>by
 obtain⟨h1,h2,h3,h4,a,n,c,h5,h6,h7⟩:=h;exact⟨Ze z h1,Ze z h2,Ze z h3,Ze z h4,a,n,c,Ze z h5,h6.later z,h7⟩
def BlksAt(w:World)(a:Option Addr)(len:Nat)(l:List Zl):Prop:=RowsAt BlkAt 5 w a len l
theorem BlksAt.later{w w':World}{a len l}(h:BlksAt w a len l)(z:ZD w w'):BlksAt w' a len l:=RowsAt.later BlkAt.kept h z
theorem cells3{w:World}{b o:Nat}{x y aa}(h0:w.cell? ⟨b,o,none⟩=some x)(h1:w.cell? ⟨b,o+1,none⟩=some y)(h2:w.cell? ⟨b,o+2,none⟩=some aa):CellsAt w b o [x,y,aa]:=by
 intro j u z
 match j,z with
 | 0,z=>cases z;exact h0
 | 1,z=>cases z;exact h1
 | 2,z=>cases z;exact h2
 | j+3,z=>simp at z
theorem Zrz{w:World}{b o:Nat}{x y}(h0:w.cell? ⟨b,o,none⟩=some x)(h1:w.cell? ⟨b,o+1,none⟩=some y):CellsAt w b o [x,y]:=by
 intro j u z
 match j,z with
 | 0,z=>cases z;exact h0
 | 1,z=>cases z;exact h1
 | j+2,z=>simp at z
theorem Zry{w:World}{b o:Nat}{x y aa r s}(h0:w.cell? ⟨b,o,none⟩=some x)(h1:w.cell? ⟨b,o+1,none⟩=some y)(h2:w.cell? ⟨b,o+2,none⟩=some aa)(h3:w.cell? ⟨b,o+3,none⟩=some r)(h4:w.cell? ⟨b,o+4,none⟩=some s):CellsAt w b o [x,y,aa,r,s]:=by
 intro j u z
 match j,z with
 | 0,z=>cases z;exact h0
 | 1,z=>cases z;exact h1
 | 2,z=>cases z;exact h2
 | 3,z=>cases z;exact h3
 | 4,z=>cases z;exact h4
 | j+5,z=>simp at z
def inR:Rec InD where
 sz:=3
 C w cs x:=∃ a n c,cs=[E J x.1,E J x.2.1,F a n c]/\OpsAt w a n x.2.2/\SlOk a n c
 R:=InAt
 wide _ _ _:=by rintro ⟨a,n,c,rfl,_⟩;rfl
 one _ _ _:=by rintro ⟨a,n,c,rfl,_⟩ v z;simp at z;rcases z with rfl|rfl|rfl <;> rfl
 kept _ _ _ _ hb:=by rintro ⟨a,n,c,rfl,h1,h2⟩;exact⟨a,n,c,rfl,h1.later hb,h2⟩
 rc _ _ _ _:=by rintro ⟨h1,h2,a,n,c,h3,h4,h5⟩;exact⟨_,cells3 h1 h2 h3,a,n,c,rfl,h4,h5⟩
 cr _ _ _ _ _ h:=by rintro ⟨a,n,c,rfl,h1,h2⟩;exact⟨h 0 _ rfl,h 1 _ rfl,a,n,c,h 2 _ rfl,h1,h2⟩
def outR:Rec Zy where
 sz:=2
 C w cs x:=∃ a n c,cs=[E J x.1,F a n c]/\OpsAt w a n x.2/\SlOk a n c
 R:=OutAt
 wide _ _ _:=by rintro ⟨a,n,c,rfl,_⟩;rfl
 one _ _ _:=by rintro ⟨a,n,c,rfl,_⟩ v z;simp at z;rcases z with rfl|rfl <;> rfl
 kept _ _ _ _ hb:=by rintro ⟨a,n,c,rfl,h1,h2⟩;exact⟨a,n,c,rfl,h1.later hb,h2⟩
 rc _ _ _ _:=by rintro ⟨h1,a,n,c,h3,h4,h5⟩;exact⟨_,Zrz h1 h3,a,n,c,rfl,h4,h5⟩
 cr _ _ _ _ _ h:=by rintro ⟨a,n,c,rfl,h1,h2⟩;exact⟨h 0 _ rfl,a,n,c,h 1 _ rfl,h1,h2⟩
def txR:Rec TxD where
 sz:=3
 C w cs x:=∃ a n c z Q c',cs=[E J x.1,F a n c,F z Q c']/\InsAt w a n x.2.1/\SlOk a n c/\OutsAt w z Q x.2.2/\SlOk z Q c'
 R:=TxAt
 wide _ _ _:=by rintro ⟨a,n,c,z,Q,c',rfl,_⟩;rfl
 one _ _ _:=by rintro ⟨a,n,c,z,Q,c',rfl,_⟩ v hv;simp at hv;rcases hv with rfl|rfl|rfl <;> rfl
 kept _ _ _ _ hb:=by rintro ⟨a,n,c,z,Q,c',rfl,h1,h2,h3,h4⟩;exact⟨a,n,c,z,Q,c',rfl,h1.later hb,h2,h3.later hb,h4⟩
 rc _ _ _ _:=by rintro ⟨h1,⟨a,n,c,h2,h3,h4⟩,z,Q,c',h5,h6,h7⟩;exact⟨_,cells3 h1 h2 h5,a,n,c,z,Q,c',rfl,h3,h4,h6,h7⟩
 cr _ _ _ _ _ h:=by rintro ⟨a,n,c,z,Q,c',rfl,h1,h2,h3,h4⟩;exact⟨h 0 _ rfl,⟨a,n,c,h 1 _ rfl,h1,h2⟩,z,Q,c',h 2 _ rfl,h3,h4⟩
def blkR:Rec Zl where
 sz:=5
 C w cs x:=∃ a n c,cs=[E J x.1,E J x.2.1,E J x.2.2.1,E J x.2.2.2.1,F a n c]/\TxsAt w a n x.2.2.2.2/\SlOk a n c
 R:=BlkAt
 wide _ _ _:=by rintro ⟨a,n,c,rfl,_⟩;rfl
 one _ _ _:=by rintro ⟨a,n,c,rfl,_⟩ v z;simp at z;rcases z with rfl|rfl|rfl|rfl|rfl <;> rfl
 kept _ _ _ _ hb:=by rintro ⟨a,n,c,rfl,h1,h2⟩;exact⟨a,n,c,rfl,h1.later hb,h2⟩
 rc _ _ _ _:=by rintro ⟨h1,h2,h3,h4,a,n,c,h5,h6,h7⟩;exact⟨_,Zry h1 h2 h3 h4 h5,a,n,c,rfl,h6,h7⟩
 cr _ _ _ _ _ h:=by rintro ⟨a,n,c,rfl,h1,h2⟩;exact⟨h 0 _ rfl,h 1 _ rfl,h 2 _ rfl,h 3 _ rfl,a,n,c,h 4 _ rfl,h1,h2⟩
def Jh(x:Int):List Int->Nat->Int
 | [],_=>-1
 | a :: r,k=>if x=a then k else Jh x r (k+1)
theorem Zov(x:Int)(L:List Int)(k:Nat)(h:k<L.length):Jh x (L.drop k) k=if x=L[k] then (k:Int) else Jh x (L.drop (k+1)) (k+1):=by
 rw[aI h];rfl
theorem Zle(x:Int)(L:List Int)(k:Nat)(h:L.length<=k):Jh x (L.drop k) k = -1:=by
 rw[bM h];rfl
def Ym:Zl:=(0,0,0,0,[])
def fnd(x:Int):List Int->List Zl->Zl
 | a :: N,b :: T=>if x=a then b else fnd x N T
 | _,_=>Ym
theorem Ss(x:Int):∀ (N:List Int) (T:List Zl) (k:Nat),N.length=T.length->(Jh x N k = -1/\x∉N/\fnd x N T=Ym)\/∃ i,∃ h:i<T.length,Jh x N k=(k+i:Nat)/\x∈N/\fnd x N T=T[i]
 | [],_,_,_=>.inl ⟨rfl,by simp,by simp[fnd]⟩
 | a :: N,[],_,h=>by cases h
 | a :: N,b :: T,k,h=>by
  by_cases e:x=a
  ·exact .inr ⟨0,by simp,by simp[Jh,e],by simp[e],by simp[fnd,e]⟩
  ·rcases Ss x N T (k+1) (by simpa using h) with ⟨h1,h2,h3⟩|⟨i,hi,h1,h2,h3⟩
   ·exact .inl ⟨by simp[Jh,e,h1],by simp[e,h2],by simp[fnd,e,h3]⟩
   ·exact .inr ⟨i+1,by simpa using hi,by simp[Jh,e,h1];omega,by simp[h2],by simp[fnd,e,h3]⟩
theorem Ci(x:Int):∀ (N:List Int) (k:Nat),decide (0<=Jh x N k)=decide (x∈N)
 | [],_=>by simp[Jh]
 | a :: N,k=>by
  by_cases e:x=a
  ·simp[Jh,e]
  ·simp[Jh,e,Ci x N (k+1)]
def nextD(N:List Int)(T:List Zl)(x:Int)(b:Zl):Int:=
 if (decide (1<=x) && decide (x<=120))=false then 3 else if Yk b≠0 then Yk b else if decide (x∈N)=true then 6
 else if b.1≠0/\decide (b.1∈N)=false then 5 else if b.2.1≠(fnd b.1 N T).2.1+1 then 4 else 0
def Xq(N:List Int)(T:List Zl):List Int->List Zl->Int
 | x :: M,b :: U=>if nextD N T x b≠0 then nextD N T x b else Xq (N++[x]) (T++[b]) M U
 | _,_=>0
def chkTr(N:List Int)(T:List Zl):Int:=if N.length≠T.length then 4 else if 24<N.length then 2 else Xq [] [] N T
theorem Zme(N:List Int)(T:List Zl)(k:Nat)(h:k<N.length)(h':k<T.length):Xq (N.take k) (T.take k) (N.drop k) (T.drop k) =
  if nextD (N.take k) (T.take k) N[k] T[k]≠0 then nextD (N.take k) (T.take k) N[k] T[k] else Xq (N.take (k+1)) (T.take (k+1)) (N.drop (k+1)) (T.drop (k+1)):=by
 rw[aI h,aI h',Xq,aS h,aS h']
theorem Zie(N:List Int)(T:List Zl)(k:Nat)(h:N.length<=k):Xq (N.take k) (T.take k) (N.drop k) (T.drop k)=0:=by
 rw[bM h];unfold Xq;rfl
def Xj(T:List Zl):Prop:=∀ b∈T,1<=b.2.1/\b.2.1<=1000/\1<=b.2.2.1/\b.2.2.1<=1000
theorem chkB_head{b:Zl}(h:Yk b=0):1<=b.2.1/\b.2.1<=1000/\1<=b.2.2.1/\b.2.2.1<=1000:=by
 unfold Yk at h;split at h
 ·cases h
 ·next q=>simp[W9] at q;omega
theorem Zeh(x:Int):∀ (N:List Int) (T:List Zl),fnd x N T=Ym\/fnd x N T∈T
 | [],_=>.inl (by simp[fnd])
 | _ :: _,[]=>.inl (by simp[fnd])
 | a :: N,b :: T=>by
  by_cases e:x=a
  ·exact .inr (by simp[fnd,e])
  ·rcases Zeh x N T with h|h
   ·exact .inl (by simp[fnd,e,h])
   ·exact .inr (by simp[fnd,e,h])
theorem Qh{T}(h:Xj T)(x:Int)(N):0<=(fnd x N T).2.1/\(fnd x N T).2.1<=1000/\0<=(fnd x N T).2.2.1/\(fnd x N T).2.2.1<=1000:=by
 rcases Zeh x N T with e|e
 ·rw[e];simp[Ym]
 ·have:=h _ e;omega
def upD(N:List Int)(T:List Zl):Nat->Int->List Int
 | 0,_=>[]
 | d+1,x=>upD N T d (fnd x N T).1++[x]
theorem Hn(N T):∀ (d:Nat) (x:Int),(upD N T d x).length=d
 | 0,_=>rfl
 | d+1,x=>by simp[upD,Hn N T d]
def pthD(N:List Int)(T:List Zl)(x:Int):List Int:=upD N T (fnd x N T).2.1.toNat x
def Wq(N:List Int)(T:List Zl)(s:Int):List Int->Int
 | []=>s
 | x :: P=>Wq N T (s+(fnd x N T).2.2.1) P
theorem Zna(N T)(s:Int)(P:List Int)(k:Nat)(h:k<P.length):Wq N T s (P.drop k)=Wq N T (s+(fnd P[k] N T).2.2.1) (P.drop (k+1)):=by
 rw[aI h];rfl
theorem Ziq(N T)(s:Int)(P:List Int)(k:Nat)(h:P.length<=k):Wq N T s (P.drop k)=s:=by
 rw[bM h];rfl
def Xb(N:List Int)(T:List Zl)(x:Int):Int:=Wq N T 0 (pthD N T x)
def bstGo(N:List Int)(T:List Zl)(b m:Int):List Int->Int
 | []=>b
 | x :: P=>if m<Xb N T x\/Xb N T x=m/\x<b then bstGo N T x (Xb N T x) P else bstGo N T b m P
theorem Zmh(N T)(b m:Int)(P:List Int)(k:Nat)(h:k<P.length):bstGo N T b m (P.drop k)=if m<Xb N T P[k]\/Xb N T P[k]=m/\P[k]<b then bstGo N T P[k] (Xb N T P[k]) (P.drop (k+1)) else bstGo N T b m (P.drop (k+1)):=by
 rw[aI h];rfl
theorem Zih(N T)(b m:Int)(P:List Int)(k:Nat)(h:P.length<=k):bstGo N T b m (P.drop k)=b:=by
 rw[bM h];rfl
def bstD(N:List Int)(T:List Zl):Int×Int:=if chkTr N T≠0 then (0,chkTr N T) else (bstGo N T 0 0 N,0)
def pathE(N:List Int)(T:List Zl)(x:Int):List Int×Int:=if chkTr N T≠0 then ([],chkTr N T) else if x≠0/\decide (x∈N)=false then ([],5) else (pthD N T x,0)
def workE(N:List Int)(T:List Zl)(x:Int):Int×Int:=if (pathE N T x).2≠0 then (0,(pathE N T x).2) else (Wq N T 0 (pathE N T x).1,0)
theorem Tryz.infoIntC:(Tryz.prog.info? 3).map (λi=>(i.zero,i.size,i.bytes))=some (some (E J 0),1,8):=by kernel_rfl
theorem Fw(w):Calls aB 47 #[F none 0 0] w λe w'=>e = dA (F none 0 0)/\w=w':=by
 have z:=λw=>aY (P:=aB) w 25 3 none 0 0 0 0 underlying25;go_enter func47,ntmps47;go_wp2;go_ret;exact⟨rfl,rfl⟩
theorem M5(Q:Addr)(n c:Nat)(z:List Value)(w:World)(hn:n<=4096)(hz:z.length=n*1)(h1:∀ u∈z,u.oneCell'=true)(hc:∀ j u,z[j]? = some u->w.cell? (Q.add j)=some u) :
  Calls aB 47 #[F (some Q) n c] w λe w'=>∃ v,e = dA v/\w'.ownsRow w.heap.size 3 1 v n z/\ZD w w':=by
 obtain⟨i0,hi,ap,aq,ar⟩:=info_parts Tryz.infoIntC;have hb:=Zh w (cZ #[] 3);have HC:Hid (∀ j u,z[j]? = some u->(w.alloc (cZ #[] 3)).cell? (Q.add j)=some u):=λj u hj=>Ze hb (hc j u hj);obtain⟨HB,HZ,H1,HO⟩:=kh4 hb hz h1 (Wn w 3 1);have he:=λw=>aY (P:=aB) w 25 3 (some Q) n c 0 0 underlying25;clear hc hb hz h1;go_enter func47,ntmps47
 go_wp2_with (at_builtin;refine wpList_append_own _ rfl _ _ 25 rfl w.heap.size 3 i0 (E J 0) 1 8 underlying25 hi ap aq ar rfl (by decide) _ _ _ rfl HO Q n c z rfl HZ HC H1 (by unfold cW;omega) (by omega) HB.size ?_;intro v2 w3 af ae _)
 have HW:Hid (w3.ownsRow w.heap.size 3 1 v2 n z):=by show World.ownsRow _ _ _ _ _ _ _;simpa using af
 have aj:=Zd (HB.grown ae HB.size (Wb HO));clear af ae;go_wp2;go_ret;exact⟨v2,rfl,Za HW,Za aj⟩
theorem Fx(a)(n c:Nat)(L:List Int)(w:World)(hn:n<=4096)(h:IntsAt w a n L)(hs:SlOk a n c) :
  Calls aB 47 #[F a n c] w λe w'=>∃ v,e = dA v/\w'.ownsRow w.heap.size 3 1 v n (L.map (Value.int .i64))/\ZD w w':=by
 obtain⟨hl,hc⟩:=h;cases a with
 | none=>
  obtain⟨rfl,rfl⟩:=hs.2.2 rfl;have e:L=[]:=aP.1 hl;subst e;exact (Fw w).mono λe w' ⟨x,y⟩=>⟨_,x,y ▸ World.ownsRow_nil _ _ _ _,y ▸ Below.refl _ _⟩
 | some ad=>
  refine (M5 ad n c (L.map (Value.int .i64)) w hn (by simp[hl]) (ints_oneCell _ _) (λj u z=>?_));have Q:j<L.length:=by have:=(cT.1 z).1;simpa using this
  obtain⟨b,off,e,_,ac⟩:=hc (by omega);cases e;rw[cC,ac j Q];simpa[Q] using z
theorem Jm(Q:Addr)(n c:Nat)(z:List Value)(w:World)(hn:n<=8796093022208)(hz:z.length=n*2)(h1:∀ u∈z,u.oneCell'=true)(hc:∀ j u,z[j]? = some u->w.cell? (Q.add j)=some u) :
  Calls aB 150 #[F (some Q) n c] w λe w'=>∃ v,e = dA v/\w'.ownsRow w.heap.size 164 2 v n z/\ZD w w':=by
 obtain⟨i0,hi,ap,aq,ar⟩:=info_parts Tryz.infoOpC;have hb:=Zh w (cZ #[] 164);have HC:Hid (∀ j u,z[j]? = some u->(w.alloc (cZ #[] 164)).cell? (Q.add j)=some u):=λj u hj=>Ze hb (hc j u hj);obtain⟨HB,HZ,H1,HO⟩:=kh4 hb hz h1 (Wn w 164 2);have he:=λw=>aY (P:=aB) w 48 164 (some Q) n c 0 0 underlying48;clear hc hb hz h1;go_enter func150,ntmps150
 go_wp2_with (at_builtin;refine wpList_append_own _ rfl _ _ 48 rfl w.heap.size 164 i0 (.agg #[E J 0,E J 0]) 2 16 underlying48 hi ap aq ar rfl (by decide) _ _ _ rfl HO Q n c z rfl HZ HC H1 (by unfold cW;omega) (by omega) HB.size ?_;intro v2 w3 af ae _)
 have HW:Hid (w3.ownsRow w.heap.size 164 2 v2 n z):=by show World.ownsRow _ _ _ _ _ _ _;simpa using af
 have aj:=Zd (HB.grown ae HB.size (Wb HO));clear af ae;go_wp2;go_ret;exact⟨v2,rfl,Za HW,Za aj⟩
theorem Ro{w:World}{base:Nat}{v}{n:Nat}{l}(h:w.ownsRow base 164 2 v n (Xm l)):∃ a c,v = F a n c/\OpsAt w a n l/\SlOk a n c:=by
 have z:l.length=n:=by have:=h.1;rw[Xr] at this;omega
 rcases h.2 with ⟨rfl,rfl⟩|⟨g,cap,ab,rfl,hg,hh,h1,h2,h3,h4⟩
 ·exact⟨none,0,rfl,⟨z,λh=>absurd h (by omega)⟩,⟨aF _,aL _,λ_=>⟨rfl,rfl⟩⟩⟩
 ·refine⟨_,cap,rfl,⟨z,λ_=>⟨g,0,rfl,λi hi=>?_⟩⟩,⟨h1,h2,λe=>by cases e⟩⟩;obtain⟨Q,f1⟩:=Su l i (by omega);rw[Nat.zero_add,aZ h _ (by omega),aZ h _ (by omega)];exact⟨Q,f1⟩
theorem Qf(a)(n c:Nat)(l)(w:World)(hn:n<=8796093022208)(h:OpsAt w a n l)(hs:SlOk a n c) :
  Calls aB 150 #[F a n c] w λe w'=>∃ z Q,e = dA (F z n Q)/\Fresh w.heap.size w' (λw2=>OpsAt w2 z n l/\SlOk z n Q)/\ZD w w':=by
 obtain⟨hl,hc⟩:=h;cases a with
 | none=>
  obtain⟨rfl,rfl⟩:=hs.2.2 rfl;exact (Rd w).mono λe w' ⟨x,y⟩=>⟨none,0,x,λ_ _=>⟨⟨hl,λh=>absurd h (by omega)⟩,hs⟩,y ▸ Below.refl _ _⟩
 | some ad=>
  have af:∀ j u,(Xm l)[j]? = some u->w.cell? (ad.add j)=some u:=λj u hj=>by
   have an:j<l.length*2:=(by rw[<-Xr];exact (cT.1 hj).1);obtain⟨b,off,e,ag⟩:=hc (by omega);cases e;rw[cC];exact Rb hl ag j u hj
  refine (Jm ad n c (Xm l) w hn (by rw[Xr,hl]) (Rt l) af).mono ?_;rintro e w' ⟨v,rfl,x,y⟩;obtain⟨z,Q,rfl,h1,h2⟩:=Ro x;refine⟨z,Q,rfl,λw2 g2=>?_,y⟩;have x2:=g2.own x (λk hk=>by have:=(x.lt k hk).1;omega);obtain⟨a2,c2,e,h3,h4⟩:=Ro x2;cases e;exact⟨h3,h4⟩
theorem Tryz.infoInC:(Tryz.prog.info? 119).map (λi=>(i.zero,i.size,i.bytes))=some (some (.agg #[E J 0,E J 0,F none 0 0]),3,40):=by kernel_rfl
theorem Ej(w):Calls aB 159 #[F none 0 0] w λe w'=>e = dA (F none 0 0)/\w=w':=by
 have z:=λw=>aY (P:=aB) w 56 119 none 0 0 0 0 underlying56;go_enter func159,ntmps159;go_wp2;go_ret;exact⟨rfl,rfl⟩
theorem Pb(Q:Addr)(n c:Nat)(z:List Value)(w:World)(hn:n<=3518437208883)(hz:z.length=n*3)(h1:∀ u∈z,u.oneCell'=true)(hc:∀ j u,z[j]? = some u->w.cell? (Q.add j)=some u) :
  Calls aB 159 #[F (some Q) n c] w λe w'=>∃ v,e = dA v/\w'.ownsRow w.heap.size 119 3 v n z/\ZD w w':=by
 obtain⟨i0,hi,ap,aq,ar⟩:=info_parts Tryz.infoInC;have hb:=Zh w (cZ #[] 119);have HC:Hid (∀ j u,z[j]? = some u->(w.alloc (cZ #[] 119)).cell? (Q.add j)=some u):=λj u hj=>Ze hb (hc j u hj);obtain⟨HB,HZ,H1,HO⟩:=kh4 hb hz h1 (Wn w 119 3);have he:=λw=>aY (P:=aB) w 56 119 (some Q) n c 0 0 underlying56;clear hc hb hz h1;go_enter func159,ntmps159
 go_wp2_with (at_builtin;refine wpList_append_own _ rfl _ _ 56 rfl w.heap.size 119 i0 (.agg #[E J 0,E J 0,F none 0 0]) 3 40 underlying56 hi ap aq ar rfl (by decide) _ _ _ rfl HO Q n c z rfl HZ HC H1 (by unfold cW;omega) (by omega) HB.size ?_;intro v2 w3 af ae _)
 have HW:Hid (w3.ownsRow w.heap.size 119 3 v2 n z):=by show World.ownsRow _ _ _ _ _ _ _;simpa using af
 have aj:=Zd (HB.grown ae HB.size (Wb HO));clear af ae;go_wp2;go_ret;exact⟨v2,rfl,Za HW,Za aj⟩
theorem Ek(a)(n c:Nat)(L)(w0 w:World)(hn:n<=3518437208883)(h:RowsAt inR.R 3 w0 a n L)(hb:ZD w0 w)(hs:SlOk a n c) :
  Calls aB 159 #[F a n c] w λe w'=>∃ v,∃ K:List (List Value),e = dA v/\AllC inR w0 K L/\w'.ownsRow w.heap.size 119 3 v n K.flatten/\ZD w w':=by
 obtain⟨Q,hc⟩:=h;cases a with
 | none=>
  obtain⟨rfl,rfl⟩:=hs.2.2 rfl;have e:L=[]:=aP.1 Q;subst e;exact (Ej w).mono λe w' ⟨x,y⟩=>⟨_,[],x,⟨rfl,λi h=>absurd h (by simp)⟩,y ▸ World.ownsRow_nil _ _ _ _,y ▸ Below.refl _ _⟩
 | some ad=>
  by_cases h0:n=0
  ·subst h0;have e:L=[]:=aP.1 Q;subst e;exact (Pb ad 0 c [] w hn rfl (λu hu=>by cases hu) (λj u z=>by simp at z)).mono λe w' ⟨v,x,y,ak⟩=>⟨v,[],x,⟨rfl,λi h=>absurd h (by simp)⟩,y,ak⟩
  ·obtain⟨b,off,e,_,af⟩:=hc (by omega);obtain⟨rfl⟩:=e;obtain⟨K,h1,h3⟩:=V6 inR af;have hk:K.flatten.length=n*3:=(by rw[Wd h1,Q];rfl);exact (Pb ⟨b,off,none⟩ n c K.flatten w hn hk (flat_one h1) (λj u z=>by rw[cC];exact Ze hb (h3 j u z))).mono λe w' ⟨v,x,y,ak⟩=>⟨v,K,x,h1,y,ak⟩
theorem Tryz.infoOutC:(Tryz.prog.info? 122).map (λi=>(i.zero,i.size,i.bytes))=some (some (.agg #[E J 0,F none 0 0]),2,32):=by kernel_rfl
theorem Fs(w):Calls aB 160 #[F none 0 0] w λe w'=>e = dA (F none 0 0)/\w=w':=by
 have z:=λw=>aY (P:=aB) w 57 122 none 0 0 0 0 underlying57;go_enter func160,ntmps160;go_wp2;go_ret;exact⟨rfl,rfl⟩
theorem Tf(Q:Addr)(n c:Nat)(z:List Value)(w:World)(hn:n<=4398046511104)(hz:z.length=n*2)(h1:∀ u∈z,u.oneCell'=true)(hc:∀ j u,z[j]? = some u->w.cell? (Q.add j)=some u) :
  Calls aB 160 #[F (some Q) n c] w λe w'=>∃ v,e = dA v/\w'.ownsRow w.heap.size 122 2 v n z/\ZD w w':=by
 obtain⟨i0,hi,ap,aq,ar⟩:=info_parts Tryz.infoOutC;have hb:=Zh w (cZ #[] 122);have HC:Hid (∀ j u,z[j]? = some u->(w.alloc (cZ #[] 122)).cell? (Q.add j)=some u):=λj u hj=>Ze hb (hc j u hj);obtain⟨HB,HZ,H1,HO⟩:=kh4 hb hz h1 (Wn w 122 2);have he:=λw=>aY (P:=aB) w 57 122 (some Q) n c 0 0 underlying57;clear hc hb hz h1;go_enter func160,ntmps160
 go_wp2_with (at_builtin;refine wpList_append_own _ rfl _ _ 57 rfl w.heap.size 122 i0 (.agg #[E J 0,F none 0 0]) 2 32 underlying57 hi ap aq ar rfl (by decide) _ _ _ rfl HO Q n c z rfl HZ HC H1 (by unfold cW;omega) (by omega) HB.size ?_;intro v2 w3 af ae _)
 have HW:Hid (w3.ownsRow w.heap.size 122 2 v2 n z):=by show World.ownsRow _ _ _ _ _ _ _;simpa using af
 have aj:=Zd (HB.grown ae HB.size (Wb HO));clear af ae;go_wp2;go_ret;exact⟨v2,rfl,Za HW,Za aj⟩
theorem Ft(a)(n c:Nat)(L)(w0 w:World)(hn:n<=4398046511104)(h:RowsAt outR.R 2 w0 a n L)(hb:ZD w0 w)(hs:SlOk a n c) :
  Calls aB 160 #[F a n c] w λe w'=>∃ v,∃ K:List (List Value),e = dA v/\AllC outR w0 K L/\w'.ownsRow w.heap.size 122 2 v n K.flatten/\ZD w w':=by
 obtain⟨Q,hc⟩:=h;cases a with
 | none=>
  obtain⟨rfl,rfl⟩:=hs.2.2 rfl;have e:L=[]:=aP.1 Q;subst e;exact (Fs w).mono λe w' ⟨x,y⟩=>⟨_,[],x,⟨rfl,λi h=>absurd h (by simp)⟩,y ▸ World.ownsRow_nil _ _ _ _,y ▸ Below.refl _ _⟩
 | some ad=>
  by_cases h0:n=0
  ·subst h0;have e:L=[]:=aP.1 Q;subst e;exact (Tf ad 0 c [] w hn rfl (λu hu=>by cases hu) (λj u z=>by simp at z)).mono λe w' ⟨v,x,y,ak⟩=>⟨v,[],x,⟨rfl,λi h=>absurd h (by simp)⟩,y,ak⟩
  ·obtain⟨b,off,e,_,af⟩:=hc (by omega);obtain⟨rfl⟩:=e;obtain⟨K,h1,h3⟩:=V6 outR af;have hk:K.flatten.length=n*2:=(by rw[Wd h1,Q];rfl);exact (Tf ⟨b,off,none⟩ n c K.flatten w hn hk (flat_one h1) (λj u z=>by rw[cC];exact Ze hb (h3 j u z))).mono λe w' ⟨v,x,y,ak⟩=>⟨v,K,x,h1,y,ak⟩
theorem Tryz.infoTxC:(Tryz.prog.info? 59).map (λi=>(i.zero,i.size,i.bytes))=some (some (.agg #[E J 0,F none 0 0,F none 0 0]),3,56):=by kernel_rfl
theorem Eh(w):Calls aB 199 #[F none 0 0] w λe w'=>e = dA (F none 0 0)/\w=w':=by
 have z:=λw=>aY (P:=aB) w 37 59 none 0 0 0 0 underlying37;go_enter func199,ntmps199;go_wp2;go_ret;exact⟨rfl,rfl⟩
theorem Pa(Q:Addr)(n c:Nat)(z:List Value)(w:World)(hn:n<=2513169434916)(hz:z.length=n*3)(h1:∀ u∈z,u.oneCell'=true)(hc:∀ j u,z[j]? = some u->w.cell? (Q.add j)=some u) :
  Calls aB 199 #[F (some Q) n c] w λe w'=>∃ v,e = dA v/\w'.ownsRow w.heap.size 59 3 v n z/\ZD w w':=by
 obtain⟨i0,hi,ap,aq,ar⟩:=info_parts Tryz.infoTxC;have hb:=Zh w (cZ #[] 59);have HC:Hid (∀ j u,z[j]? = some u->(w.alloc (cZ #[] 59)).cell? (Q.add j)=some u):=λj u hj=>Ze hb (hc j u hj);obtain⟨HB,HZ,H1,HO⟩:=kh4 hb hz h1 (Wn w 59 3);have he:=λw=>aY (P:=aB) w 37 59 (some Q) n c 0 0 underlying37;clear hc hb hz h1;go_enter func199,ntmps199
 go_wp2_with (at_builtin;refine wpList_append_own _ rfl _ _ 37 rfl w.heap.size 59 i0 (.agg #[E J 0,F none 0 0,F none 0 0]) 3 56 underlying37 hi ap aq ar rfl (by decide) _ _ _ rfl HO Q n c z rfl HZ HC H1 (by unfold cW;omega) (by omega) HB.size ?_;intro v2 w3 af ae _)
 have HW:Hid (w3.ownsRow w.heap.size 59 3 v2 n z):=by show World.ownsRow _ _ _ _ _ _ _;simpa using af
 have aj:=Zd (HB.grown ae HB.size (Wb HO));clear af ae;go_wp2;go_ret;exact⟨v2,rfl,Za HW,Za aj⟩
theorem Ei(a)(n c:Nat)(L)(w0 w:World)(hn:n<=2513169434916)(h:RowsAt txR.R 3 w0 a n L)(hb:ZD w0 w)(hs:SlOk a n c) :
  Calls aB 199 #[F a n c] w λe w'=>∃ v,∃ K:List (List Value),e = dA v/\AllC txR w0 K L/\w'.ownsRow w.heap.size 59 3 v n K.flatten/\ZD w w':=by
 obtain⟨Q,hc⟩:=h;cases a with
 | none=>
  obtain⟨rfl,rfl⟩:=hs.2.2 rfl;have e:L=[]:=aP.1 Q;subst e;exact (Eh w).mono λe w' ⟨x,y⟩=>⟨_,[],x,⟨rfl,λi h=>absurd h (by simp)⟩,y ▸ World.ownsRow_nil _ _ _ _,y ▸ Below.refl _ _⟩
 | some ad=>
  by_cases h0:n=0
  ·subst h0;have e:L=[]:=aP.1 Q;subst e;exact (Pa ad 0 c [] w hn rfl (λu hu=>by cases hu) (λj u z=>by simp at z)).mono λe w' ⟨v,x,y,ak⟩=>⟨v,[],x,⟨rfl,λi h=>absurd h (by simp)⟩,y,ak⟩
  ·obtain⟨b,off,e,_,af⟩:=hc (by omega);obtain⟨rfl⟩:=e;obtain⟨K,h1,h3⟩:=V6 txR af;have hk:K.flatten.length=n*3:=(by rw[Wd h1,Q];rfl);exact (Pa ⟨b,off,none⟩ n c K.flatten w hn hk (flat_one h1) (λj u z=>by rw[cC];exact Ze hb (h3 j u z))).mono λe w' ⟨v,x,y,ak⟩=>⟨v,K,x,h1,y,ak⟩
theorem Tryz.infoBlkC:(Tryz.prog.info? 39).map (λi=>(i.zero,i.size,i.bytes))=some (some (.agg #[E J 0,E J 0,E J 0,E J 0,F none 0 0]),5,56):=by kernel_rfl
theorem Fy(w):Calls aB 196 #[F none 0 0] w λe w'=>e = dA (F none 0 0)/\w=w':=by
 have z:=λw=>aY (P:=aB) w 26 39 none 0 0 0 0 underlying26;go_enter func196,ntmps196;go_wp2;go_ret;exact⟨rfl,rfl⟩
theorem Ti(Q:Addr)(n c:Nat)(z:List Value)(w:World)(hn:n<=2513169434916)(hz:z.length=n*5)(h1:∀ u∈z,u.oneCell'=true)(hc:∀ j u,z[j]? = some u->w.cell? (Q.add j)=some u) :
  Calls aB 196 #[F (some Q) n c] w λe w'=>∃ v,e = dA v/\w'.ownsRow w.heap.size 39 5 v n z/\ZD w w':=by
 obtain⟨i0,hi,ap,aq,ar⟩:=info_parts Tryz.infoBlkC;have hb:=Zh w (cZ #[] 39);have HC:Hid (∀ j u,z[j]? = some u->(w.alloc (cZ #[] 39)).cell? (Q.add j)=some u):=λj u hj=>Ze hb (hc j u hj);obtain⟨HB,HZ,H1,HO⟩:=kh4 hb hz h1 (Wn w 39 5);have he:=λw=>aY (P:=aB) w 26 39 (some Q) n c 0 0 underlying26;clear hc hb hz h1;go_enter func196,ntmps196
 go_wp2_with (at_builtin;refine wpList_append_own _ rfl _ _ 26 rfl w.heap.size 39 i0 (.agg #[E J 0,E J 0,E J 0,E J 0,F none 0 0]) 5 56 underlying26 hi ap aq ar rfl (by decide) _ _ _ rfl HO Q n c z rfl HZ HC H1 (by unfold cW;omega) (by omega) HB.size ?_;intro v2 w3 af ae _)
 have HW:Hid (w3.ownsRow w.heap.size 39 5 v2 n z):=by show World.ownsRow _ _ _ _ _ _ _;simpa using af
 have aj:=Zd (HB.grown ae HB.size (Wb HO));clear af ae;go_wp2;go_ret;exact⟨v2,rfl,Za HW,Za aj⟩
theorem Fz(a)(n c:Nat)(L)(w0 w:World)(hn:n<=2513169434916)(h:RowsAt blkR.R 5 w0 a n L)(hb:ZD w0 w)(hs:SlOk a n c) :
  Calls aB 196 #[F a n c] w λe w'=>∃ v,∃ K:List (List Value),e = dA v/\AllC blkR w0 K L/\w'.ownsRow w.heap.size 39 5 v n K.flatten/\ZD w w':=by
 obtain⟨Q,hc⟩:=h;cases a with
 | none=>
  obtain⟨rfl,rfl⟩:=hs.2.2 rfl;have e:L=[]:=aP.1 Q;subst e;exact (Fy w).mono λe w' ⟨x,y⟩=>⟨_,[],x,⟨rfl,λi h=>absurd h (by simp)⟩,y ▸ World.ownsRow_nil _ _ _ _,y ▸ Below.refl _ _⟩
 | some ad=>
  by_cases h0:n=0
  ·subst h0;have e:L=[]:=aP.1 Q;subst e;exact (Ti ad 0 c [] w hn rfl (λu hu=>by cases hu) (λj u z=>by simp at z)).mono λe w' ⟨v,x,y,ak⟩=>⟨v,[],x,⟨rfl,λi h=>absurd h (by simp)⟩,y,ak⟩
  ·obtain⟨b,off,e,_,af⟩:=hc (by omega);obtain⟨rfl⟩:=e;obtain⟨K,h1,h3⟩:=V6 blkR af;have hk:K.flatten.length=n*5:=(by rw[Wd h1,Q];rfl);exact (Ti ⟨b,off,none⟩ n c K.flatten w hn hk (flat_one h1) (λj u z=>by rw[cC];exact Ze hb (h3 j u z))).mono λe w' ⟨v,x,y,ak⟩=>⟨v,K,x,h1,y,ak⟩
theorem Gs(a)(n c:Nat)(L)(s x:Int)(w)(hn:n<=cW)(h:IntsAt w a n L)(hx:Jh s L 0=x) :
  Calls aB 77 #[F a n c,E J s] w λe w'=>e = dA (E J x)/\w=w':=by
 obtain⟨HL,HZ⟩:=kh2 h h.1;have Q:Hid (Jh s (L.drop 0) 0=x):=hx;unfold cW at hn;clear h hx;go_enter func77,ntmps77;go_wp2
 go_loopw [8] (λi wr=>∃ j:Nat,j<=n/\i = E J j/\w=wr/\Hid (Jh s (L.drop j) j=x)) (λi _=>n - (intOf i).toNat)
 case atStart=>exact⟨0,aL _,rfl,rfl,Q⟩
 case round=>
  obtain⟨j,hk,rfl,rfl,A⟩:=hrel;clear Q;by_cases af:j<n
  ·have h1:j<L.length:=(by rw[Za HZ];exact af);obtain⟨b,off,rfl,ah,hc⟩:=HL.2 (by omega);have f1:=hc j h1;have z:=Zd (Zov s L j h1);obtain⟨t,ht⟩:=ZF (L[j]);rw[ht] at f1 z;clear ht hc;by_cases e:s=t
   ·subst e;have R:Hid ((j:Int)=x):=(by show _=_;rw[<-Za A,Za z,if_pos rfl]);clear A z;go_wp2;go_ret;exact⟨by rw[Za R];rfl,rfl⟩
   ·have R:Hid (Jh s (L.drop (j+1)) (j+1)=x):=(by show _=_;rw[<-Za A,Za z,if_neg e]);have g:(s == t)=false:=(by simp[e]);clear A z e;go_wp2;go_roundw
    case rel=>exact⟨j+1,by omega,by go_num,(by trivial),R⟩
    case measure=>simp[intOf];omega
  ·have R:Hid (x = -1):=(by show _=_;rw[<-Za A,Zle s L j (by rw[Za HZ];omega)]);clear A;go_wp2;go_ret;exact⟨by rw[Za R];rfl,rfl⟩
theorem L9(a)(n c:Nat)(L)(s:Int)(o:Bool)(w)(z:n<=cW)(h:IntsAt w a n L)(Q:decide (s∈L)=o) :
  Calls aB 141 #[F a n c,E J s] w λe w'=>e = dA (dD o)/\w=w':=by
 obtain⟨x,hx⟩:=ZF (Jh s L 0);have C:=Zd (Gs a n c L s x w z h hx);have HO:Hid (decide (0<=x)=o):=by show _=_;rw[<-hx,Ci,Q]
 clear z h Q hx;go_enter func141,ntmps141;go_wp2_with fail;refine C.mono ?_;rintro e w1 ⟨rfl,rfl⟩;go_wp2;go_ret;exact⟨by rw[<-Za HO];rfl,rfl⟩
theorem Ls(a b)(n c m d:Nat)(L)(s:Int)(o:Bool)(w:World)(hn:n<=cW)(h:IntsAt w a n L)(Q:decide (s∈L)=o) :
  ZH 70 #[.agg #[F a n c,F b m d],E J s] w (dD o):=by
 have z:=Zh w (cZ #[F a n c,F b m d] 28);obtain⟨C,HB⟩:=kh2 (L9 a n c L s o _ hn (h.later z) Q) z;clear h Q z;go_enter func70,ntmps70;go_wp2_with fail;refine C.mono ?_;rintro e w1 ⟨rfl,rfl⟩;go_wp2;go_ret;exact⟨rfl,Za HB⟩
def Jn(x:Zl)(a:Option Addr)(n c:Nat):Value:=.agg #[E J x.1,E J x.2.1,E J x.2.2.1,E J x.2.2.2.1,F a n c]
theorem Sx(a b)(n c d:Nat)(N T)(s:Int)(x:Zl)(w:World)(hn:n<=cW)(h:IntsAt w a n N)(hT:BlksAt w b n T)(hx:fnd s N T=x) :
  Calls aB 72 #[.agg #[F a n c,F b n d],E J s] w λe w'=>∃ ta tn tc,e = dA (Jn x ta tn tc)/\TxsAt w ta tn x.2.2.2.2/\SlOk ta tn tc/\ZD w w':=by
 unfold Jn;obtain⟨X,Q⟩:=ZG ((w.alloc (cZ #[F a n c,F b n d] 28)).alloc (cZ #[E J 0,E J 0,E J 0,E J 0,F none 0 0] 39));have z:ZD w X:=by rw[Q];exact Zf (Zh _ _) (Zh _ _)
 have x0:X.cell? ⟨w.heap.size,0,none⟩=some (F a n c):=by rw[Q];exact Ze (Zh _ _) (Yc w _ _ _).1
 have x1:X.cell? ⟨w.heap.size,1,none⟩=some (F b n d):=by rw[Q];exact Ze (Zh _ _) (Yc w _ _ _).2
 have ae:X.heap[w.heap.size+1]? = some (cZ [E J 0,E J 0,E J 0,E J 0,F none 0 0].toArray 39 (0,0)):=by
  rw[Q];have:=Zz (w.alloc (cZ #[F a n c,F b n d] 28)) (E J 0) (E J 0) (E J 0) (E J 0) (F none 0 0) 39;rw[show (w.alloc (cZ #[F a n c,F b n d] 28)).heap.size=w.heap.size+1 by simp] at this;exact this
 obtain⟨z0,z1,z2,z3,z4,y0,y1,y2,y3,y4,xl⟩:=kf5 ae;obtain⟨k,hk⟩:=ZF (Jh s N 0);obtain⟨C,af,HT⟩:=kh3 (Gs a n c N s k X hn (h.later z) hk) z hT
 rcases Ss s N T 0 (by rw[h.1,hT.1]) with ⟨h1,_,h3⟩|⟨i,hi,h1,_,h3⟩
 ·rw[hx] at h3;obtain rfl:k = -1:=by rw[<-hk,h1]
  subst h3;clear h hT hx ae z hk h1;unfold Ym;simp only;go_enter func72,ntmps72;go_wp2_with fail;rw[<-Q];clear Q;refine C.mono ?_;rintro e w1 ⟨rfl,rfl⟩;go_wp2;(try simp only[Exit.inBlock,Exit.then]);refine aW (v:=.agg #[E J 0,E J 0,E J 0,E J 0,F none 0 0]) ?_ rfl ⟨none,0,0,rfl,RowsAt.nil _ _,⟨aF _,aL _,λ_=>⟨rfl,rfl⟩⟩,?_⟩
  ·rw[Yn rfl];go_simp
  ·exact (((((Gr.refl X (λq=>q=w.heap.size+1)).one (w.heap.size+1) 0 (.inl rfl) _).one (w.heap.size+1) 1 (.inl rfl) _).one (w.heap.size+1) 2 (.inl rfl) _).one (w.heap.size+1) 3 (.inl rfl) _).one (w.heap.size+1) 4 (.inl rfl) _ |>.below af (by omega) (λk hk=>by omega)
 ·rw[hx] at h3;obtain rfl:k=(i:Int):=by rw[<-hk,h1];simp
  have ay:i<n:=by rw[<-hT.1];exact hi
  obtain⟨bb,off,rfl,ar,al⟩:=hT.2 (by omega);have ak:=al i hi;rw[<-h3] at ak;obtain⟨g0,g1,g2,g3,ta,tn,tc,g4,ht,hs⟩:=ak;obtain⟨aq,ap⟩:=kh2 ht hs;have k0:=Ze z g0;have k1:=Ze z g1;have k2:=Ze z g2;have k3:=Ze z g3;have k4:=Ze z g4;have bl:=aD ar z.size;clear h hT hx ae z hk h1 al ht hs g0 g1 g2 g3 g4 h3;go_enter func72,ntmps72;go_wp2_with fail;rw[<-Q];clear Q;refine C.mono ?_;rintro e w1 ⟨rfl,rfl⟩;go_wp2;(try simp only[Exit.inBlock,Exit.then]);refine aW (v:=.agg #[E J x.1,E J x.2.1,E J x.2.2.1,E J x.2.2.2.1,F ta tn tc]) ?_ rfl ⟨ta,tn,tc,rfl,Za aq,Za ap,?_⟩
  ·rw[Yn rfl];go_simp
  ·exact (((((Gr.refl X (λq=>q=w.heap.size+1)).one (w.heap.size+1) 0 (.inl rfl) _).one (w.heap.size+1) 1 (.inl rfl) _).one (w.heap.size+1) 2 (.inl rfl) _).one (w.heap.size+1) 3 (.inl rfl) _).one (w.heap.size+1) 4 (.inl rfl) _ |>.below af (by omega) (λk hk=>by omega)
theorem Gg(p h k n v w) :
  (Instr.field 39 (.agg #[p,h,k,n,v]) 0).run aB w = .ok p w/\(Instr.field 39 (.agg #[p,h,k,n,v]) 1).run aB w = .ok h w/\(Instr.field 39 (.agg #[p,h,k,n,v]) 2).run aB w = .ok k w:=by
 refine⟨?_,?_,?_⟩ <;> kernel_rfl
theorem Gu(a b)(n c d:Nat)(N T)(s al:Int)(w:World)(hn:n<=cW)(h:IntsAt w a n N)(hT:BlksAt w b n T)(hz:(fnd s N T).2.1=al) :
  ZH 194 #[.agg #[F a n c,F b n d],E J s] w (E J al):=by
 have z:=Zh w (cZ #[F a n c,F b n d] 28);have C:=Sx a b n c d N T s _ _ hn (h.later z) (hT.later z) rfl;unfold Jn at C;rw[hz] at C;obtain⟨C,HB⟩:=kh2 C z;clear h hT hz z;go_enter func194,ntmps194;go_wp2_with fail;refine C.mono ?_;rintro e w1 ⟨ta,tn,tc,rfl,_,_,aa⟩;have ad:=Zd (Zf HB aa);have hf:=(Gg (E J (fnd s N T).1) (E J al) (E J (fnd s N T).2.2.1) (E J (fnd s N T).2.2.2.1) (F ta tn tc) w1).2.1;clear aa;go_wp2;go_ret;exact⟨rfl,Za ad⟩
def Wid(sz:Nat)(K:List (List Value)):Prop:=∀ c∈K,c.length=sz
theorem AllC.wid{α : Type}{Z:Rec α}{w K}{L:List α}(h:AllC Z w K L):Wid Z.sz K:=by
 intro c z;obtain⟨i,hi,rfl⟩:=List.getElem_of_mem z;exact Z.wide _ _ _ (h.2 i (by rw[<-h.1];exact hi) hi)
theorem wid_at{sz:Nat}:∀ {K:List (List Value)} (_:Wid sz K) (k:Nat) (h:k<K.length) (j:Nat) (_:j<sz),K.flatten[k*sz+j]? = (K[k])[j]?
 | [],_,_,h,_,_=>absurd h (by simp)
 | c :: K,hw,0,_,j,hj=>by
  have h2:=hw c (by simp);rw[bJ,List.getElem?_append_left (by omega)];simp
 | c :: K,hw,k+1,h,j,hj=>by
  have h2:=hw c (by simp);rw[bJ,List.getElem?_append_right (by rw[h2,Nat.succ_mul];omega),h2];rw[show (k+1)*sz+j - sz=k*sz+j by rw[Nat.succ_mul];omega];rw[wid_at (λc z=>hw c (by simp[z])) k (by simpa using h) j hj];simp
theorem Xh{sz:Nat}:∀ {K:List (List Value)} (_:Wid sz K) (k:Nat) (h:k<K.length) (j:Nat) (_:j<sz) (u:Value),K.flatten.set (k*sz+j) u=(K.set k ((K[k]).set j u)).flatten
 | [],_,_,h,_,_,_=>absurd h (by simp)
 | c :: K,hw,0,_,j,hj,u=>by
  have h2:=hw c (by simp);rw[bJ,Nat.zero_mul,Nat.zero_add,List.set_append_left _ _ (by omega)];simp
 | c :: K,hw,k+1,h,j,hj,u=>by
  have h2:=hw c (by simp);rw[bJ,List.set_append_right _ _ (by rw[h2,Nat.succ_mul];omega),h2];rw[show (k+1)*sz+j - sz=k*sz+j by rw[Nat.succ_mul];omega];rw[Xh (λc z=>hw c (by simp[z])) k (by simpa using h) j hj u];simp
theorem Uf{sz:Nat}{K:List (List Value)}(Q:Wid sz K)(k:Nat){c:List Value}(z:c.length=sz):Wid sz (K.set k c):=by
 intro x hx
 rcases List.mem_or_eq_of_mem_set hx with q|rfl
 ·exact Q x q
 ·exact z
structure Cl{α : Type}(Z:Rec α)(e:TypeId)(B G:Nat)(w0 wr:World)(v:Value)(n:Nat)(K:List (List Value))(L:List α)(k:Nat):Prop where
 own:wr.ownsRow B e Z.sz v n K.flatten
 wid:Wid Z.sz K
 len:K.length=L.length
 ln:L.length=n
 gt:∀ q,v.ownBlock=some q->q<G
 new:∀ i (h:i<L.length) (h':i<K.length),i<k->Fresh G wr (λw2=>Z.C w2 K[i] L[i])
 old:∀ i (h:i<L.length) (h':i<K.length),k<=i->Z.C w0 K[i] L[i]
section
variable {α : Type} {Z : Rec α} {e : TypeId} {B G : Nat} {w0 wr w' : World} {v : Value} {n : Nat} {K : List (List Value)} {L : List α} {k : Nat}
theorem Cl.start(h:wr.ownsRow B e Z.sz v n K.flatten)(z:AllC Z w0 K L)(hn:L.length=n)(Q:wr.heap.size<=G):Cl Z e B G w0 wr v n K L 0:=
 ⟨h,z.wid,z.1,hn,λq hq=>aD (h.lt q hq).2 Q,λ_ _ _ h=>absurd h (by omega),λi h h' _=>z.2 i h h'⟩
theorem Cl.gr{S:Nat->Prop}(h:Cl Z e B G w0 wr v n K L k)(g:Gr wr w' S)(z:∀ q,S q->q<G)(Q:∀ q,v.ownBlock=some q->¬S q):Cl Z e B G w0 w' v n K L k:=
 ⟨g.own h.own Q,h.wid,h.len,h.ln,h.gt,λi a b c=>(h.new i a b c).on (g.mono λq _ hq=>z q hq),h.old⟩
theorem Cl.keep(h:Cl Z e B G w0 wr v n K L k)(z:ZD wr w'):Cl Z e B G w0 w' v n K L k:=
 h.gr (S:=λ_=>False) (Gr.of z) (λ_ q=>q.elim) (λ_ _ q=>q)
theorem Cl.form(h:Cl Z e B G w0 wr v n K L k)(hn:0<n):∃ g cap,v = F (some ⟨g,0,none⟩) n cap/\B<=g/\g<G/\g<wr.heap.size:=by
 rcases h.own.2 with ⟨_,h0⟩|⟨g,cap,aa,rfl,z,Q,_⟩
 ·omega
 ·exact⟨g,cap,rfl,z,h.gt g rfl,aA Q⟩
theorem Cl.cell{g cap:Nat}(h:Cl Z e B G w0 wr (F (some ⟨g,0,none⟩) n cap) n K L k)(i:Nat)(hi:i<K.length)(j:Nat)(z:j<Z.sz):wr.cell? ⟨g,i*Z.sz+j,none⟩=(K[i])[j]?:=by
 have Q:i<n:=by rw[<-h.ln,<-h.len];exact hi
 have:(i+1)*Z.sz<=n*Z.sz:=Nat.mul_le_mul_right _ (by omega);rw[Nat.succ_mul] at this;rw[aZ h.own _ (by omega),wid_at h.wid i hi j z]
theorem Cl.free{g cap:Nat}(h:Cl Z e B G w0 wr (F (some ⟨g,0,none⟩) n cap) n K L k)(j:Nat):wr.frozen? ⟨g,j,none⟩=false:=h.own.frozenAt j
theorem Cl.step{g cap:Nat}(h:Cl Z e B G w0 wr (F (some ⟨g,0,none⟩) n cap) n K L k)(hk:k<L.length){cs}(z:Fresh G wr (λw2=>Z.C w2 cs L[k]))(hg:Gr wr w' (λq=>q=g))(ho:w'.ownsRow B e Z.sz (F (some ⟨g,0,none⟩) n cap) n (K.set k cs).flatten):Cl Z e B G w0 w' (F (some ⟨g,0,none⟩) n cap) n (K.set k cs) L (k+1):=by
 have ad:=h.gt g rfl;have hw:=Z.wide _ _ _ z.now;have Q:Gr wr w' (λq=>q<G):=hg.mono λq _ e=>by omega
 refine⟨ho,Uf h.wid k hw,by rw[cD];exact h.len,h.ln,h.gt,λi a b c=>?_,λi a b c=>?_⟩
 ·by_cases e:i=k
  ·subst e;rw[cN];exact z.on Q
  ·rw[List.getElem_set_ne (by omega)];exact (h.new i a (by simpa using b) (by omega)).on Q
 ·rw[List.getElem_set_ne (by omega)];exact h.old i a (by simpa using b) (by omega)
theorem Cl.done(h:Cl Z e B G w0 wr v n K L n):Fresh G wr (λw2=>AllC Z w2 K L):=λw2 g2=>
 ⟨h.len,λi a b=>h.new i a b (by rw[<-h.ln];exact a) w2 g2⟩
theorem Cl.rows(h:Cl Z e B G w0 wr v n K L n)(hB:B<=G):∃ a c,v = F a n c/\Fresh B wr (λw2=>RowsAt Z.R Z.sz w2 a n L/\SlOk a n c):=by
 obtain⟨a,c,rfl,_,_⟩:=rows_of_own Z h.own h.done.now h.ln;refine⟨a,c,rfl,λw2 g2=>?_⟩;have z:=g2.own h.own (λq hq=>by have:=(h.own.lt q hq).1;omega);obtain⟨Q,c',e,h1,h2⟩:=rows_of_own Z z (h.done w2 (g2.mono λq _ hq=>by omega)) h.ln;cases e;exact⟨h1,h2⟩
end
theorem set_cells{w:World}{b:Nat}{X:List Value}{t:TypeId}(h:w.heap[b]? = some (cZ X.toArray t (0,0)))(j:Nat)(u):(w.setCell ⟨b,j,none⟩ u).heap[b]? = some (cZ (X.set j u).toArray t (0,0)):=by
 rw[setCell_eq_setRow w b j X.toArray t (0,0) u h];have:=setRow_heap w b _ (X.toArray.setIfInBounds j u) t _ h;simpa using this
theorem len1{c:List Value}(h:c.length=2):∃ x y,c=[x,y]:=by
 match c,h with
 | [x,y],_=>exact⟨x,y,rfl⟩
theorem len3{c:List Value}(h:c.length=3):∃ x y z,c=[x,y,z]:=by
 match c,h with
 | [x,y,z],_=>exact⟨x,y,z,rfl⟩
theorem len5{c:List Value}(h:c.length=5):∃ x y z r s,c=[x,y,z,r,s]:=by
 match c,h with
 | [x,y,z,r,s],_=>exact⟨x,y,z,r,s,rfl⟩
theorem put2{K:List (List Value)}(z:Wid 2 K)(k:Nat)(h:k<K.length)(a b):((K.flatten.set (k*2) a).set (k*2+1) b)=(K.set k [a,b]).flatten:=by
 obtain⟨x,y,e⟩:=len1 (z _ (aQ h));have h1:=Xh z k h 0 (by decide) a;rw[Nat.add_zero] at h1;rw[h1,Xh (Uf z k (by rw[cD,e];rfl)) k (by rw[cD];exact h) 1 (by decide) b,cN,List.set_set,e];rfl
theorem put3{K:List (List Value)}(z:Wid 3 K)(k:Nat)(h:k<K.length)(a b c):(((K.flatten.set (k*3) a).set (k*3+1) b).set (k*3+2) c)=(K.set k [a,b,c]).flatten:=by
 obtain⟨x,y,aa,e⟩:=len3 (z _ (aQ h));have h1:=Xh z k h 0 (by decide) a;rw[Nat.add_zero] at h1;rw[h1,Xh (Uf z k (by rw[cD,e];rfl)) k (by rw[cD];exact h) 1 (by decide) b,cN,List.set_set,e];rw[Xh (Uf z k rfl) k (by rw[cD];exact h) 2 (by decide) c,cN,List.set_set];rfl
theorem put5{K:List (List Value)}(z:Wid 5 K)(k:Nat)(h:k<K.length)(a b c d f):(((((K.flatten.set (k*5) a).set (k*5+1) b).set (k*5+2) c).set (k*5+3) d).set (k*5+4) f)=(K.set k [a,b,c,d,f]).flatten:=by
 obtain⟨x,y,aa,r,s,e⟩:=len5 (z _ (aQ h));have h1:=Xh z k h 0 (by decide) a;rw[Nat.add_zero] at h1;rw[h1,Xh (Uf z k (by rw[cD,e];rfl)) k (by rw[cD];exact h) 1 (by decide) b,cN,List.set_set,e];rw[Xh (Uf z k rfl) k (by rw[cD];exact h) 2 (by decide) c,cN,List.set_set];rw[Xh (Uf z k rfl) k (by rw[cD];exact h) 3 (by decide) d,cN,List.set_set];rw[Xh (Uf z k rfl) k (by rw[cD];exact h) 4 (by decide) f,cN,List.set_set];rfl
theorem Ts(x:Int)(a)(n c:Nat)(l)(w:World)(hn:n<=8796093022208)(h:OpsAt w a n l)(hs:SlOk a n c) :
  Calls aB 161 #[.agg #[E J x,F a n c]] w λe w'=>∃ z Q,e = dA (.agg #[E J x,F z n Q])/\Fresh w.heap.size w' (λw2=>OpsAt w2 z n l/\SlOk z n Q)/\ZD w w':=by
 obtain⟨X,hX⟩:=ZG ((w.alloc (cZ #[E J x,F a n c] 122)).alloc (cZ #[E J 0,F none 0 0] 122));have ae:ZD w X:=by rw[hX];exact Zf (Zh _ _) (Zh _ _)
 have x0:X.cell? ⟨w.heap.size,0,none⟩=some (E J x):=by rw[hX];exact Ze (Zh _ _) (Yc w _ _ _).1
 have x1:X.cell? ⟨w.heap.size,1,none⟩=some (F a n c):=by rw[hX];exact Ze (Zh _ _) (Yc w _ _ _).2
 have ah:X.heap[w.heap.size+1]? = some (cZ [E J 0,F none 0 0].toArray 122 (0,0)):=by
  rw[hX];have:=Y2 (w.alloc (cZ #[E J x,F a n c] 122)) (E J 0) (F none 0 0) 122;rw[show (w.alloc (cZ #[E J x,F a n c] 122)).heap.size=w.heap.size+1 by simp] at this;exact this
 obtain⟨C,af,al⟩:=kh3 (Qf a n c l X.drew hn (h.later (Zf ae (Zi X))) hs) ah ae;clear h hs ae ah;go_enter func161,ntmps161;go_wp2_with fail;rw[<-hX];clear hX
 go_region_with (go_at_call 150;refine C.mono ?_;rintro e w3 ⟨z,Q,rfl,ad,aa⟩;have o2:w3.cell? ⟨w.heap.size,0,none⟩=some (E J x):=Ze aa (Ze (Zi _) x0);have ac:=ZE aa af;have c0:=Zb ac 0 _ rfl;have c1:=Zb ac 1 _ rfl;have f0:=Zg ac 0;have f1:=Zg ac 1;have H3:Hid (Fresh X.drew.heap.size w3 (λw2=>OpsAt w2 z n l/\SlOk z n Q)/\Below X.drew.heap.size X.drew w3):=⟨ad,aa⟩;clear ad aa ac)
 all_goals
  go_wp2;(try simp only[Exit.inBlock,Exit.then]);obtain⟨ad,aa⟩:=Za H3;have hG:=((Gr.refl w3 (λq=>q=w.heap.size+1)).one (w.heap.size+1) 0 (.inl rfl) (E J x)).one (w.heap.size+1) 1 (.inl rfl) (F z n Q);have au:w.heap.size+1<X.drew.heap.size:=aA af;refine aW (v:=.agg #[E J x,F z n Q]) ?_ rfl ⟨z,Q,rfl,(ad.on (hG.mono λq _ e=>by omega)).less (by omega),?_⟩
  ·rw[Yn rfl];go_simp
  ·have av:=aa.size;exact hG.below (Zf (Zf al (Zi _)) aa) (by omega) (λk hk=>by omega)
