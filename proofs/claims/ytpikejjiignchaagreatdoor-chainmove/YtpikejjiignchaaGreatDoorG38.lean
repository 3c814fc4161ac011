import Derived.Test.YtpikejjiignchaaGreatDoorH
import Derived.Test.YtpikejjiignchaaGreatDoorG37
import Derived.Lib.OwnKind
open Go.Proofs.Tryz
open Go renaming lt_of_block->aA,bodyPost_ret->aR,maxLen->cD
open Go.Ending renaming returned->dX
open Go.Exit renaming inBlock->aO
open Go.IntKind renaming wrap_i64->bF,i64->J
open Go.Obj renaming cells->dW
open Go.Proofs.Tryz renaming prog->aB
open Go.Value renaming int->bC,int->E,slice->F,tuple->dY,bool->eA
open List renaming getElem?_append_right->cM,take_succ_eq_append_getElem->aM,length_take->bG,drop_eq_getElem_cons->aN,drop_of_length_le->cB
open Nat renaming lt_of_lt_of_le->aI,le_refl->aE,zero_le->aP,le_trans->aT
set_option maxHeartbeats 6400000
set_option maxRecDepth 10000
namespace Go.Proofs.YtpikejjiignchaaGreatDoor
open Go.RowKit
theorem Mz(ka kn kc K la ln lc C0)(p z O n:Int)(a m c T)(x:Int)(C' S' w)(hE:EnvF w)(hK:Bk.TextsAt w ka kn K)(sK:Bk.SlOk ka kn kc)(hR:Bk.Right K)(hC:CoinsAt w la ln C0)(sC:SlOk la ln lc)(ap:Zy C0)(hT:TxsAt w a m T)(sT:SlOk a m c)(hx:Ym K C0 (p,z,O,n,T)=(x,C',S')) :
  Calls aB 41 #[F ka kn kc,F la ln lc,.agg #[E J p,E J z,E J O,E J n,F a m c]] w λe w'=>Znn w w' x C' S' e:=by
 obtain⟨⟨X1,ba,N,cb⟩,ae⟩:=ZF (Q7 K (p,z,O,n,T));have ay:Zo C0=0:=(Z6 _).2 ap;have az:nfD K C0 (p,z,O,n,T)=(N,cb):=by unfold nfD;rw[if_neg (λq=>q ay),ae]
 unfold Ym at hx;rw[az] at hx;have zT:T.length=m:=hT.1;by_cases hz:cb=0
 ·subst hz;rw[if_neg (λq=>q rfl)] at hx;obtain⟨_,_,h1,h2⟩:=Ra (Qt ae).1;simp only at h1 h2
  have hr:rwD z=((rwD z).1,0):=by
   have e:(rwD z).2=0:=by
    unfold rwD;rw[if_pos (by simp only[Bool.and_eq_true,decide_eq_true_eq];omega)]
   rw[<-e]
  refine Zhm ka kn kc K la ln lc C0 p z O n a m c T X1 ba N (rwD z).1 x C' S' w hE hK sK hR hC sC ap hT sT ae hr ?_;rw[<-zT];exact hx
 ·rw[if_pos hz] at hx;have HE:Hid ((cb,([]:List Zf),([]:List (List Zf)))=(x,C',S')):=hx;obtain⟨X,hX⟩:=ZG (w.alloc (dW #[E J p,E J z,E J O,E J n,F a m c] 68));have ad:ZD w X:=by rw[hX];exact Zg _ _
  have aa:X.heap[w.heap.size]? = some (dW [E J p,E J z,E J O,E J n,F a m c].toArray 68 (0,0)):=by rw[hX];exact Z8 _ _ _ _ _ _ _
  have NF:=Zb (Jz ka kn kc K p z O n a m c T X1 ba N cb X (hE.later ad) (hK.later ad) sK hR (hT.later ad) ae);have x0:=Zd aa 0 _ rfl;have x1:=Zd aa 1 _ rfl;have x2:=Zd aa 2 _ rfl;have x3:=Zd aa 3 _ rfl;have x4:=Zd aa 4 _ rfl;have xl:=aA aa;have be:=Zb ad;have gm:(cb != 0)=true:=by simp[hz]
  clear hE hK sK hR hC ap hT ae hx ad aa az ay zT sT;go_enter func41,ntmps41;go_wp2_with fail;rw[<-hX];clear hX;(try go_wp2_with fail);refine NF.mono ?_;rintro e w1 ⟨a',n',c',na,nn,nc,rfl,_,_,hN,ax⟩;have bd:=Zb (Ze be ax);clear hN ax x0 x1 x2 x3 x4 xl;go_wp2;(try simp only[aO,Exit.then]);refine aR (v:=dY #[F none 0 0,F none 0 0,E J cb]) ?_ rfl (Rx HE bd);simp[results,Tryz.f41,go_sem]
theorem Gr.cell{w w':World}{S:Nat->Prop}(h:Gr w w' S){p:Addr}{v}(z:w.cell? p=some v)(O:¬S p.block):w'.cell? p=some v:=
 (World.cell?_of_block (h.block p.block (World.block_lt_of_cell? _ _ z) O)).trans z
theorem Fresh.now{B:Nat}{w}{Q:World->Prop}(h:Fresh B w Q):Q w:=h w (Gr.refl _ _)
theorem Fresh.on{B:Nat}{w w'}{Q:World->Prop}(h:Fresh B w Q)(g:Gr w w' (λk=>k<B)):Fresh B w' Q:=λw2 g2=>h w2 (g.trans g2)
theorem Fresh.later{B:Nat}{w w':World}{Q:World->Prop}(h:Fresh B w Q)(g:ZD w w'):Fresh B w' Q:=h.on (Gr.of g)
theorem Fresh.less{B z:Nat}{w}{Q:World->Prop}(h:Fresh z w Q)(O:B<=z):Fresh B w Q:=λw2 g2=>h w2 (g2.mono λ_ _ hk=>aI hk O)
theorem Fresh.imp{B:Nat}{w}{Q R:World->Prop}(h:Fresh B w Q)(f:∀ w2,Q w2->R w2):Fresh B w R:=λw2 g2=>f w2 (h w2 g2)
namespace Tr
open Go.RowKit
theorem two_heap(w:World)(a b)(t:TypeId):(w.alloc (dW #[a,b] t)).heap[w.heap.size]? = some (dW [a,b].toArray t (0,0)):=heap_alloc_new w _
theorem Y8{w:World}{base:Nat}{e:TypeId}{size:Nat}{v}{n:Nat}{xs}(h:w.ownsRow base e size v n xs):∃ a c,v = F a n c/\SlOk a n c/\∀ z,a=some z->base<=z.block/\z.block<w.heap.size:=by
 rcases h.2 with ⟨rfl,rfl⟩|⟨g,cap,ab,rfl,O,hh,h1,h2,_⟩
 ·exact⟨none,0,rfl,⟨aE _,aP _,λ_=>⟨rfl,rfl⟩⟩,λz e=>by cases e⟩
 ·exact⟨_,cap,rfl,⟨h1,h2,λe=>by cases e⟩,λz e=>by cases e;exact⟨O,aA hh⟩⟩
def R5(w:World)(b o:Nat)(cs:List Value):Prop:=∀ j u,cs[j]? = some u->w.cell? ⟨b,o+j,none⟩=some u
structure Rec(α : Type) where
 sz:Nat
 C:World->List Value -> α->Prop
 R:World->Nat->Nat -> α->Prop
 wide:∀ w cs x,C w cs x->cs.length=sz
 one:∀ w cs x,C w cs x->∀ v∈cs,v.oneCell'=true
 kept:∀ w w' cs x,ZD w w'->C w cs x->C w' cs x
 rc:∀ w b o x,R w b o x->∃ cs,R5 w b o cs/\C w cs x
 cr:∀ w b o cs x,R5 w b o cs->C w cs x->R w b o x
def AllC{α : Type}(Z:Rec α)(w:World)(K:List (List Value))(L:List α):Prop:=K.length=L.length/\∀ i (h:i<L.length) (h':i<K.length),Z.C w K[i] L[i]
theorem Vf{α : Type}{Z:Rec α}{w}:∀ {K:List (List Value)} {L:List α},AllC Z w K L->K.flatten.length=L.length*Z.sz
 | [],[],_=>by simp
 | [],_ :: _,h=>by cases h.1
 | _ :: _,[],h=>by cases h.1
 | k :: K,x :: L,h=>by
  have h1:AllC Z w K L:=⟨by simpa using h.1,λi h1 h2=>h.2 (i+1) (by simpa using h1) (by simpa using h2)⟩;have h2:=Z.wide _ _ _ (h.2 0 (by simp) (by simp));simp only[List.getElem_cons_zero] at h2;rw[List.flatten_cons,List.length_append,Vf h1,h2,List.length_cons,Nat.succ_mul];omega
theorem J4{α : Type}{Z:Rec α}{w}{K:List (List Value)}{L:List α}(h:AllC Z w K L):∀ u∈K.flatten,u.oneCell'=true:=by
 intro u z;obtain⟨k,O,z⟩:=List.mem_flatten.1 z;obtain⟨i,hi,rfl⟩:=List.getElem_of_mem O;exact Z.one _ _ _ (h.2 i (by rw[<-h.1];exact hi) hi) u z
theorem AllC.later{α : Type}{Z:Rec α}{w w':World}{K}{L:List α}(h:AllC Z w K L)(z:ZD w w'):AllC Z w' K L:=
 ⟨h.1,λi h1 h2=>Z.kept _ _ _ _ z (h.2 i h1 h2)⟩
theorem AllC.snoc{α : Type}{Z:Rec α}{w K}{L:List α}(h:AllC Z w K L){k}{x : α}(z:Z.C w k x):AllC Z w (K++[k]) (L++[x]):=by
 refine⟨by simp[h.1],λi h1 h2=>?_⟩
 rcases Nat.lt_or_ge i L.length with q|q
 ·rw[List.getElem_append_left (h:=by rw[h.1];exact q),List.getElem_append_left (h:=q)];exact h.2 i q (by rw[h.1];exact q)
 ·have e:i=L.length:=by simp at h1;omega
  subst e;rw[List.getElem_append_right (by rw[h.1];exact aE _),List.getElem_append_right (aE _)];simpa[h.1] using z
theorem Ru{α : Type}{Z:Rec α}{w}:∀ {K:List (List Value)} {L:List α} (_:AllC Z w K L) (i:Nat) (h':i<K.length) (j:Nat) (_:j<Z.sz),K.flatten[i*Z.sz+j]? = (K[i])[j]?
 | [],_,_,_,h',_,_=>absurd h' (by simp)
 | _ :: _,[],h,_,_,_,_=>by cases h.1
 | k :: K,x :: L,h,0,_,j,hj=>by
  have h2:=Z.wide _ _ _ (h.2 0 (by simp) (by simp));simp only[List.getElem_cons_zero] at h2;rw[List.flatten_cons,List.getElem?_append_left (by omega)];simp
 | k :: K,x :: L,h,i+1,h',j,hj=>by
  have h1:AllC Z w K L:=⟨by simpa using h.1,λi h1 h2=>h.2 (i+1) (by simpa using h1) (by simpa using h2)⟩;have h2:=Z.wide _ _ _ (h.2 0 (by simp) (by simp));simp only[List.getElem_cons_zero] at h2;rw[List.flatten_cons,cM (by rw[h2,Nat.succ_mul];omega),h2];rw[show (i+1)*Z.sz+j - Z.sz=i*Z.sz+j by rw[Nat.succ_mul];omega];rw[Ru h1 i (by simpa using h') j hj];simp
theorem Qx{α : Type}(Z:Rec α){w}{b off:Nat}{L:List α}(h:∀ i (h:i<L.length),Z.R w b (off+i*Z.sz) L[i]):∃ K,AllC Z w K L/\R5 w b off K.flatten:=by
 have h2:∀ k,k<=L.length->∃ K,AllC Z w K (L.take k)/\R5 w b off K.flatten:=by
  intro k
  induction k with
  | zero=>intro _;exact⟨[],⟨by simp,λi h1 h2=>absurd h2 (by simp)⟩,λj u z=>by simp at z⟩
  | succ k ih=>
   intro hk;obtain⟨K,h1,h3⟩:=ih (by omega);obtain⟨cs,h4,h5⟩:=Z.rc _ _ _ _ (h k (by omega));refine⟨K++[cs],by rw[aM (by omega)];exact h1.snoc h5,λj u z=>?_⟩;have O:=Vf h1;rw[bG,Nat.min_eq_left (by omega)] at O;rw[List.flatten_append] at z
   rcases Nat.lt_or_ge j K.flatten.length with q|q
   ·rw[List.getElem?_append_left q] at z;exact h3 j u z
   ·rw[cM q] at z;have:=h4 (j - K.flatten.length) u (by simpa using z);rw[show off+k*Z.sz+(j - K.flatten.length)=off+j by omega] at this;exact this
 obtain⟨K,h1,h3⟩:=h2 L.length (aE _);rw[List.take_length] at h1;exact⟨K,h1,h3⟩
theorem rows_of_own{α : Type}(Z:Rec α){w:World}{base n:Nat}{e:TypeId}{v}{K:List (List Value)}{L:List α}(h:w.ownsRow base e Z.sz v n K.flatten)(z:AllC Z w K L)(hn:L.length=n):∃ a c,v = F a n c/\RowsAt Z.R Z.sz w a n L/\SlOk a n c:=by
 rcases h.2 with ⟨rfl,rfl⟩|⟨g,cap,af,rfl,hg,hh,h1,h2,h3,h4⟩
 ·exact⟨none,0,rfl,⟨hn,λh=>absurd h (by omega)⟩,aE _,aP _,λ_=>⟨rfl,rfl⟩⟩
 ·refine⟨_,cap,rfl,⟨hn,λ_=>⟨g,0,rfl,aA hh,λi hi=>?_⟩⟩,h1,h2,λe=>by cases e⟩;have O:i<K.length:=by rw[z.1];exact hi
  refine Z.cr _ _ _ (K[i]) _ (λj u hj=>?_) (z.2 i hi O);have hw:=Z.wide _ _ _ (z.2 i hi O);have ad:j<Z.sz:=by rw[<-hw];exact (List.getElem?_eq_some_iff.1 hj).1
  rw[Nat.zero_add,World.ownsRow.cellAt h _ (by
   have:(i+1)*Z.sz<=n*Z.sz:=Nat.mul_le_mul_right _ (by omega);rw[Nat.succ_mul] at this;omega),Ru z i O j ad]
  exact hj
def IntsAt(w:World)(a:Option Addr)(len:Nat)(Z:List Int):Prop:=
 Z.length=len/\(0<len->∃ b off,a=some ⟨b,off,none⟩/\b<w.heap.size/\∀ i (h:i<Z.length),w.cell? ⟨b,off+i,none⟩=some (E J Z[i]))
theorem IntsAt.later{w w':World}{a len Z}(h:IntsAt w a len Z)(z:ZD w w'):IntsAt w' a len Z:=by
 refine⟨h.1,λh0=>?_⟩;obtain⟨b,off,e,hl,O⟩:=h.2 h0;exact⟨b,off,e,aI hl z.size,λi hi=>Zc z (O i hi)⟩
theorem IntsAt.nil(w)(a):IntsAt w a 0 []:=⟨rfl,λh=>absurd h (by omega)⟩
theorem IntsAt.take{w a len}{l:List Int}(h:IntsAt w a len l)(k:Nat)(hk:k<=len):IntsAt w a k (l.take k):=by
 have hl:=h.1;refine⟨by rw[bG];omega,λh0=>?_⟩;obtain⟨b,off,e,z,O⟩:=h.2 (by omega);refine⟨b,off,e,z,λi hi=>?_⟩;rw[bG] at hi;rw[List.getElem_take];exact O i (by omega)
theorem ints_of_own{w:World}{base:Nat}{v}{n:Nat}{N:List Int}(h:w.ownsRow base 3 1 v n (N.map (bC .i64))):∃ a cap,v = F a n cap/\SlOk a n cap/\IntsAt w a n N:=by
 have z:N.length=n:=by simpa using h.1
 rcases h.2 with ⟨rfl,rfl⟩|⟨g,cap,aa,rfl,hg,O,h1,h2,h3,h4⟩
 ·exact⟨none,0,rfl,⟨aE _,aP _,λ_=>⟨rfl,rfl⟩⟩,z,λh=>absurd h (by omega)⟩
 ·refine⟨_,cap,rfl,⟨h1,h2,λe=>by cases e⟩,z,λ_=>⟨g,0,rfl,aA O,λi hi=>?_⟩⟩;rw[Nat.zero_add,World.ownsRow.cellAt h _ (by omega)];simp[hi]
def BlkAt(w:World)(b o:Nat)(x:Zj):Prop:=
 w.cell? ⟨b,o,none⟩=some (E J x.1)/\w.cell? ⟨b,o+1,none⟩=some (E J x.2.1)/\w.cell? ⟨b,o+2,none⟩=some (E J x.2.2.1)/\w.cell? ⟨b,o+3,none⟩=some (E J x.2.2.2.1) /\
 ∃ a n c,w.cell? ⟨b,o+4,none⟩=some (F a n c)/\TxsAt w a n x.2.2.2.2/\SlOk a n c
theorem BlkAt.kept:Bg BlkAt:=λ_ _ _ _ _ z h=>by
 obtain⟨h1,h2,h3,h4,a,n,c,h5,h6,h7⟩:=h;exact⟨Zc z h1,Zc z h2,Zc z h3,Zc z h4,a,n,c,Zc z h5,h6.later z,h7⟩
def BlksAt(w:World)(a:Option Addr)(len:Nat)(l:List Zj):Prop:=RowsAt BlkAt 5 w a len l
theorem BlksAt.later{w w':World}{a len l}(h:BlksAt w a len l)(z:ZD w w'):BlksAt w' a len l:=RowsAt.later BlkAt.kept h z
theorem cells3{w:World}{b o:Nat}{x y aa}(h0:w.cell? ⟨b,o,none⟩=some x)(h1:w.cell? ⟨b,o+1,none⟩=some y)(h2:w.cell? ⟨b,o+2,none⟩=some aa):R5 w b o [x,y,aa]:=by
 intro j u z
 match j,z with
 | 0,z=>cases z;exact h0
 | 1,z=>cases z;exact h1
 | 2,z=>cases z;exact h2
 | j+3,z=>simp at z
theorem Zrf{w:World}{b o:Nat}{x y}(h0:w.cell? ⟨b,o,none⟩=some x)(h1:w.cell? ⟨b,o+1,none⟩=some y):R5 w b o [x,y]:=by
 intro j u z
 match j,z with
 | 0,z=>cases z;exact h0
 | 1,z=>cases z;exact h1
 | j+2,z=>simp at z
theorem cells5{w:World}{b o:Nat}{x y aa r s}(h0:w.cell? ⟨b,o,none⟩=some x)(h1:w.cell? ⟨b,o+1,none⟩=some y)(h2:w.cell? ⟨b,o+2,none⟩=some aa)(h3:w.cell? ⟨b,o+3,none⟩=some r)(h4:w.cell? ⟨b,o+4,none⟩=some s):R5 w b o [x,y,aa,r,s]:=by
 intro j u z
 match j,z with
 | 0,z=>cases z;exact h0
 | 1,z=>cases z;exact h1
 | 2,z=>cases z;exact h2
 | 3,z=>cases z;exact h3
 | 4,z=>cases z;exact h4
 | j+5,z=>simp at z
def inR:Rec InD where
 sz:=3
 C w cs x:=∃ a n c,cs=[E J x.1,E J x.2.1,F a n c]/\OpsAt w a n x.2.2/\SlOk a n c
 R:=InAt
 wide _ _ _:=by rintro ⟨a,n,c,rfl,_⟩;rfl
 one _ _ _:=by rintro ⟨a,n,c,rfl,_⟩ v z;simp at z;rcases z with rfl|rfl|rfl <;> rfl
 kept _ _ _ _ hb:=by rintro ⟨a,n,c,rfl,h1,h2⟩;exact⟨a,n,c,rfl,h1.later hb,h2⟩
 rc _ _ _ _:=by rintro ⟨h1,h2,a,n,c,h3,h4,h5⟩;exact⟨_,cells3 h1 h2 h3,a,n,c,rfl,h4,h5⟩
 cr _ _ _ _ _ h:=by rintro ⟨a,n,c,rfl,h1,h2⟩;exact⟨h 0 _ rfl,h 1 _ rfl,a,n,c,h 2 _ rfl,h1,h2⟩
def outR:Rec Ya where
 sz:=2
 C w cs x:=∃ a n c,cs=[E J x.1,F a n c]/\OpsAt w a n x.2/\SlOk a n c
 R:=OutAt
 wide _ _ _:=by rintro ⟨a,n,c,rfl,_⟩;rfl
 one _ _ _:=by rintro ⟨a,n,c,rfl,_⟩ v z;simp at z;rcases z with rfl|rfl <;> rfl
 kept _ _ _ _ hb:=by rintro ⟨a,n,c,rfl,h1,h2⟩;exact⟨a,n,c,rfl,h1.later hb,h2⟩
 rc _ _ _ _:=by rintro ⟨h1,a,n,c,h3,h4,h5⟩;exact⟨_,Zrf h1 h3,a,n,c,rfl,h4,h5⟩
 cr _ _ _ _ _ h:=by rintro ⟨a,n,c,rfl,h1,h2⟩;exact⟨h 0 _ rfl,a,n,c,h 1 _ rfl,h1,h2⟩
def txR:Rec TxD where
 sz:=3
 C w cs x:=∃ a n c a' z O,cs=[E J x.1,F a n c,F a' z O]/\InsAt w a n x.2.1/\SlOk a n c/\OutsAt w a' z x.2.2/\SlOk a' z O
 R:=TxAt
 wide _ _ _:=by rintro ⟨a,n,c,a',z,O,rfl,_⟩;rfl
 one _ _ _:=by rintro ⟨a,n,c,a',z,O,rfl,_⟩ v hv;simp at hv;rcases hv with rfl|rfl|rfl <;> rfl
 kept _ _ _ _ hb:=by rintro ⟨a,n,c,a',z,O,rfl,h1,h2,h3,h4⟩;exact⟨a,n,c,a',z,O,rfl,h1.later hb,h2,h3.later hb,h4⟩
 rc _ _ _ _:=by rintro ⟨h1,⟨a,n,c,h2,h3,h4⟩,a',z,O,h5,h6,h7⟩;exact⟨_,cells3 h1 h2 h5,a,n,c,a',z,O,rfl,h3,h4,h6,h7⟩
 cr _ _ _ _ _ h:=by rintro ⟨a,n,c,a',z,O,rfl,h1,h2,h3,h4⟩;exact⟨h 0 _ rfl,⟨a,n,c,h 1 _ rfl,h1,h2⟩,a',z,O,h 2 _ rfl,h3,h4⟩
def blkR:Rec Zj where
 sz:=5
 C w cs x:=∃ a n c,cs=[E J x.1,E J x.2.1,E J x.2.2.1,E J x.2.2.2.1,F a n c]/\TxsAt w a n x.2.2.2.2/\SlOk a n c
 R:=BlkAt
 wide _ _ _:=by rintro ⟨a,n,c,rfl,_⟩;rfl
 one _ _ _:=by rintro ⟨a,n,c,rfl,_⟩ v z;simp at z;rcases z with rfl|rfl|rfl|rfl|rfl <;> rfl
 kept _ _ _ _ hb:=by rintro ⟨a,n,c,rfl,h1,h2⟩;exact⟨a,n,c,rfl,h1.later hb,h2⟩
 rc _ _ _ _:=by rintro ⟨h1,h2,h3,h4,a,n,c,h5,h6,h7⟩;exact⟨_,cells5 h1 h2 h3 h4 h5,a,n,c,rfl,h6,h7⟩
 cr _ _ _ _ _ h:=by rintro ⟨a,n,c,rfl,h1,h2⟩;exact⟨h 0 _ rfl,h 1 _ rfl,h 2 _ rfl,h 3 _ rfl,a,n,c,h 4 _ rfl,h1,h2⟩
def idxI(x:Int):List Int->Nat->Int
 | [],_=>-1
 | a :: r,k=>if x=a then k else idxI x r (k+1)
theorem Zov(x:Int)(L:List Int)(k:Nat)(h:k<L.length):idxI x (L.drop k) k=if x=L[k] then (k:Int) else idxI x (L.drop (k+1)) (k+1):=by
 rw[aN h];rfl
theorem Zmb(x:Int)(L:List Int)(k:Nat)(h:L.length<=k):idxI x (L.drop k) k = -1:=by
 rw[cB h];rfl
def U6:Zj:=(0,0,0,0,[])
def fnd(x:Int):List Int->List Zj->Zj
 | a :: N,b :: T=>if x=a then b else fnd x N T
 | _,_=>U6
theorem idxI_fnd(x:Int):∀ (N:List Int) (T:List Zj) (k:Nat),N.length=T.length->(idxI x N k = -1/\x∉N/\fnd x N T=U6)\/∃ i,∃ h:i<T.length,idxI x N k=(k+i:Nat)/\x∈N/\fnd x N T=T[i]
 | [],_,_,_=>.inl ⟨rfl,by simp,by simp[fnd]⟩
 | a :: N,[],_,h=>by cases h
 | a :: N,b :: T,k,h=>by
  by_cases e:x=a
  ·exact .inr ⟨0,by simp,by simp[idxI,e],by simp[e],by simp[fnd,e]⟩
  ·rcases idxI_fnd x N T (k+1) (by simpa using h) with ⟨h1,h2,h3⟩|⟨i,hi,h1,h2,h3⟩
   ·exact .inl ⟨by simp[idxI,e,h1],by simp[e,h2],by simp[fnd,e,h3]⟩
   ·exact .inr ⟨i+1,by simpa using hi,by simp[idxI,e,h1];omega,by simp[h2],by simp[fnd,e,h3]⟩
theorem Zbo(x:Int):∀ (N:List Int) (k:Nat),decide (0<=idxI x N k)=decide (x∈N)
 | [],_=>by simp[idxI]
 | a :: N,k=>by
  by_cases e:x=a
  ·simp[idxI,e]
  ·simp[idxI,e,Zbo x N (k+1)]
def Xw(N:List Int)(T:List Zj)(x:Int)(b:Zj):Int:=
 if (decide (1<=x) && decide (x<=120))=false then 3 else if Xo b≠0 then Xo b else if decide (x∈N)=true then 6
 else if b.1≠0/\decide (b.1∈N)=false then 5 else if b.2.1≠(fnd b.1 N T).2.1+1 then 4 else 0
def Wa(N:List Int)(T:List Zj):List Int->List Zj->Int
 | x :: M,b :: U=>if Xw N T x b≠0 then Xw N T x b else Wa (N++[x]) (T++[b]) M U
 | _,_=>0
def chkTr(N:List Int)(T:List Zj):Int:=if N.length≠T.length then 4 else if 24<N.length then 2 else Wa [] [] N T
theorem Zcj(N:List Int)(T:List Zj)(k:Nat)(h:k<N.length)(h':k<T.length):Wa (N.take k) (T.take k) (N.drop k) (T.drop k) =
  if Xw (N.take k) (T.take k) N[k] T[k]≠0 then Xw (N.take k) (T.take k) N[k] T[k] else Wa (N.take (k+1)) (T.take (k+1)) (N.drop (k+1)) (T.drop (k+1)):=by
 rw[aN h,aN h',Wa,aM h,aM h']
theorem A9(N:List Int)(T:List Zj)(k:Nat)(h:N.length<=k):Wa (N.take k) (T.take k) (N.drop k) (T.drop k)=0:=by
 rw[cB h];unfold Wa;rfl
def Wv(T:List Zj):Prop:=∀ b∈T,1<=b.2.1/\b.2.1<=1000/\1<=b.2.2.1/\b.2.2.1<=1000
theorem Sf{b:Zj}(h:Xo b=0):1<=b.2.1/\b.2.1<=1000/\1<=b.2.2.1/\b.2.2.1<=1000:=by
 unfold Xo at h;split at h
 ·cases h
 ·next q=>simp[Wj] at q;omega
theorem Zgf(x:Int):∀ (N:List Int) (T:List Zj),fnd x N T=U6\/fnd x N T∈T
 | [],_=>.inl (by simp[fnd])
 | _ :: _,[]=>.inl (by simp[fnd])
 | a :: N,b :: T=>by
  by_cases e:x=a
  ·exact .inr (by simp[fnd,e])
  ·rcases Zgf x N T with h|h
   ·exact .inl (by simp[fnd,e,h])
   ·exact .inr (by simp[fnd,e,h])
theorem Jn{T}(h:Wv T)(x:Int)(N):0<=(fnd x N T).2.1/\(fnd x N T).2.1<=1000/\0<=(fnd x N T).2.2.1/\(fnd x N T).2.2.1<=1000:=by
 rcases Zgf x N T with e|e
 ·rw[e];simp[U6]
 ·have:=h _ e;omega
def upD(N:List Int)(T:List Zj):Nat->Int->List Int
 | 0,_=>[]
 | d+1,x=>upD N T d (fnd x N T).1++[x]
theorem Rb(N)(T):∀ (d:Nat) (x:Int),(upD N T d x).length=d
 | 0,_=>rfl
 | d+1,x=>by simp[upD,Rb N T d]
def Zm(N:List Int)(T:List Zj)(x:Int):List Int:=upD N T (fnd x N T).2.1.toNat x
def Zjj(N:List Int)(T:List Zj)(s:Int):List Int->Int
 | []=>s
 | x :: P=>Zjj N T (s+(fnd x N T).2.2.1) P
def pathE(N:List Int)(T:List Zj)(x:Int):List Int×Int:=if chkTr N T≠0 then ([],chkTr N T) else if x≠0/\decide (x∈N)=false then ([],5) else (Zm N T x,0)
theorem indexInt_is(a)(n c:Nat)(L)(s x:Int)(w)(hn:n<=cD)(h:IntsAt w a n L)(hx:idxI s L 0=x) :
  Calls aB 13 #[F a n c,E J s] w λe w'=>e = dX (E J x)/\w=w':=by
 have HL:=Zb h;have O:=Zb h.1;have HX:Hid (idxI s (L.drop 0) 0=x):=hx;unfold cD at hn;clear h hx;go_enter func13,ntmps13;go_wp2
 go_loopw [8] (λi wr=>∃ j:Nat,j<=n/\i = E J j/\w=wr/\Hid (idxI s (L.drop j) j=x)) (λi _=>n - (intOf i).toNat)
 case atStart=>exact⟨0,aP _,rfl,rfl,HX⟩
 case round=>
  obtain⟨j,hk,rfl,rfl,A⟩:=hrel;by_cases ag:j<n
  ·have h1:j<L.length:=(by rw[Za O];exact ag);obtain⟨b,off,rfl,ai,hc⟩:=HL.2 (by omega);have f1:=hc j h1;have z:=Zb (Zov s L j h1);obtain⟨t,ht⟩:=ZF (L[j]);rw[ht] at f1 z;clear ht hc;by_cases e:s=t
   ·subst e;have R:Hid ((j:Int)=x):=(by show _=_;rw[<-Za A,Za z,if_pos rfl]);clear A;go_wp2;go_ret;exact⟨by rw[Za R];rfl,rfl⟩
   ·have R:Hid (idxI s (L.drop (j+1)) (j+1)=x):=(by show _=_;rw[<-Za A,Za z,if_neg e]);have g:(s == t)=false:=(by simp[e]);clear A e;go_wp2;go_roundw
    case rel=>exact⟨j+1,by omega,by go_num,(by trivial),R⟩
    case measure=>simp[intOf];omega
  ·have R:Hid (x = -1):=(by show _=_;rw[<-Za A,Zmb s L j (by rw[Za O];omega)]);clear A;go_wp2;go_ret;exact⟨by rw[Za R];rfl,rfl⟩
theorem containsInt_is(a)(n c:Nat)(L)(s:Int)(o:Bool)(w)(O:n<=cD)(h:IntsAt w a n L)(ho:decide (s∈L)=o) :
  Calls aB 12 #[F a n c,E J s] w λe w'=>e = dX (eA o)/\w=w':=by
 obtain⟨x,z⟩:=ZF (idxI s L 0);have C:=Zb (indexInt_is a n c L s x w O h z);have HO:Hid (decide (0<=x)=o):=by show _=_;rw[<-z,Zbo,ho]
 clear O h ho z;go_enter func12,ntmps12;go_wp2_with fail;refine C.mono ?_;rintro e w1 ⟨rfl,rfl⟩;go_wp2;go_ret;exact⟨by rw[<-Za HO];rfl,rfl⟩
theorem Ci(a b)(n c m d:Nat)(L)(s:Int)(o:Bool)(w:World)(hn:n<=cD)(h:IntsAt w a n L)(O:decide (s∈L)=o) :
  ZH 76 #[.agg #[F a n c,F b m d],E J s] w (eA o):=by
 have z:=Zg w (dW #[F a n c,F b m d] 28);have C:=Zb (containsInt_is a n c L s o _ hn (h.later z) O);have HB:=Zb z;clear h O z;go_enter func76,ntmps76;go_wp2_with fail;refine C.mono ?_;rintro e w1 ⟨rfl,rfl⟩;go_wp2;go_ret;exact⟨rfl,Za HB⟩
def Zne(x:Zj)(a:Option Addr)(n c:Nat):Value:=.agg #[E J x.1,E J x.2.1,E J x.2.2.1,E J x.2.2.2.1,F a n c]
theorem Cm(a b)(n c d:Nat)(N T)(s:Int)(x:Zj)(w:World)(hn:n<=cD)(h:IntsAt w a n N)(hT:BlksAt w b n T)(hx:fnd s N T=x) :
  Calls aB 119 #[.agg #[F a n c,F b n d],E J s] w λe w'=>∃ ta tn tc,e = dX (Zne x ta tn tc)/\TxsAt w ta tn x.2.2.2.2/\SlOk ta tn tc/\ZD w w':=by
 unfold Zne;obtain⟨X,hX⟩:=ZG ((w.alloc (dW #[F a n c,F b n d] 28)).alloc (dW #[E J 0,E J 0,E J 0,E J 0,F none 0 0] 68));have O:ZD w X:=by rw[hX];exact Ze (Zg _ _) (Zg _ _)
 have x0:X.cell? ⟨w.heap.size,0,none⟩=some (F a n c):=by rw[hX];exact Zc (Zg _ _) (Yo w _ _ _).1
 have x1:X.cell? ⟨w.heap.size,1,none⟩=some (F b n d):=by rw[hX];exact Zc (Zg _ _) (Yo w _ _ _).2
 have z:X.heap[w.heap.size+1]? = some (dW [E J 0,E J 0,E J 0,E J 0,F none 0 0].toArray 68 (0,0)):=by
  rw[hX];have:=Z8 (w.alloc (dW #[F a n c,F b n d] 28)) (E J 0) (E J 0) (E J 0) (E J 0) (F none 0 0) 68;rw[show (w.alloc (dW #[F a n c,F b n d] 28)).heap.size=w.heap.size+1 by simp] at this;exact this
 have z0:=Zd z 0 _ rfl;have z1:=Zd z 1 _ rfl;have z2:=Zd z 2 _ rfl;have z3:=Zd z 3 _ rfl;have z4:=Zd z 4 _ rfl;have y0:=Zi z 0;have y1:=Zi z 1;have y2:=Zi z 2;have y3:=Zi z 3;have y4:=Zi z 4;have xl:=aA z;obtain⟨k,hk⟩:=ZF (idxI s N 0);have C:=Zb (indexInt_is a n c N s k X hn (h.later O) hk);have ah:=Zb O;have HT:=Zb hT
 rcases idxI_fnd s N T 0 (by rw[h.1,hT.1]) with ⟨h1,_,h3⟩|⟨i,hi,h1,_,h3⟩
 ·rw[hx] at h3;obtain rfl:k = -1:=by rw[<-hk,h1]
  subst h3;clear h hT hx z O hk h1;unfold U6;simp only;go_enter func119,ntmps119;go_wp2_with fail;rw[<-hX];clear hX;refine C.mono ?_;rintro e w1 ⟨rfl,rfl⟩;go_wp2;(try simp only[aO,Exit.then]);refine aR (v:=.agg #[E J 0,E J 0,E J 0,E J 0,F none 0 0]) ?_ rfl ⟨none,0,0,rfl,RowsAt.nil _ _,⟨aE _,aP _,λ_=>⟨rfl,rfl⟩⟩,?_⟩
  ·rw[Xb rfl];go_simp
  ·exact (((((Gr.refl X (λq=>q=w.heap.size+1)).one (w.heap.size+1) 0 (.inl rfl) _).one (w.heap.size+1) 1 (.inl rfl) _).one (w.heap.size+1) 2 (.inl rfl) _).one (w.heap.size+1) 3 (.inl rfl) _).one (w.heap.size+1) 4 (.inl rfl) _ |>.below ah (by omega) (λk hk=>by omega)
 ·rw[hx] at h3;obtain rfl:k=(i:Int):=by rw[<-hk,h1];simp
  have ax:i<n:=by rw[<-hT.1];exact hi
  obtain⟨bb,off,rfl,aq,al⟩:=hT.2 (by omega);have ak:=al i hi;rw[<-h3] at ak;obtain⟨g0,g1,g2,g3,ta,tn,tc,g4,ht,hs⟩:=ak;have ap:=Zb ht;have ao:=Zb hs;have k0:=Zc O g0;have k1:=Zc O g1;have k2:=Zc O g2;have k3:=Zc O g3;have k4:=Zc O g4;have bl:=aI aq O.size;clear h hT hx z O hk h1 al ht hs g0 g1 g2 g3 g4 h3;go_enter func119,ntmps119;go_wp2_with fail;rw[<-hX];clear hX;refine C.mono ?_;rintro e w1 ⟨rfl,rfl⟩;go_wp2;(try simp only[aO,Exit.then]);refine aR (v:=.agg #[E J x.1,E J x.2.1,E J x.2.2.1,E J x.2.2.2.1,F ta tn tc]) ?_ rfl ⟨ta,tn,tc,rfl,Za ap,Za ao,?_⟩
  ·rw[Xb rfl];go_simp
  ·exact (((((Gr.refl X (λq=>q=w.heap.size+1)).one (w.heap.size+1) 0 (.inl rfl) _).one (w.heap.size+1) 1 (.inl rfl) _).one (w.heap.size+1) 2 (.inl rfl) _).one (w.heap.size+1) 3 (.inl rfl) _).one (w.heap.size+1) 4 (.inl rfl) _ |>.below ah (by omega) (λk hk=>by omega)
theorem As(p h k n v)(w) :
  (Instr.field 68 (.agg #[p,h,k,n,v]) 0).run aB w = .ok p w/\(Instr.field 68 (.agg #[p,h,k,n,v]) 1).run aB w = .ok h w/\(Instr.field 68 (.agg #[p,h,k,n,v]) 2).run aB w = .ok k w:=by
 refine⟨?_,?_,?_⟩ <;> kernel_rfl
theorem Kx(a b)(n c d:Nat)(N T)(s al:Int)(w:World)(hn:n<=cD)(h:IntsAt w a n N)(hT:BlksAt w b n T)(hz:(fnd s N T).2.1=al) :
  ZH 124 #[.agg #[F a n c,F b n d],E J s] w (E J al):=by
 have z:=Zg w (dW #[F a n c,F b n d] 28);have C:=Cm a b n c d N T s _ _ hn (h.later z) (hT.later z) rfl;unfold Zne at C;rw[hz] at C;have C:=Zb C;have HB:=Zb z;clear h hT hz z;go_enter func124,ntmps124;go_wp2_with fail;refine C.mono ?_;rintro e w1 ⟨ta,tn,tc,rfl,_,_,ab⟩;have ae:=Zb (Ze HB ab);have hf:=(As (E J (fnd s N T).1) (E J al) (E J (fnd s N T).2.2.1) (E J (fnd s N T).2.2.2.1) (F ta tn tc) w1).2.1;clear ab;go_wp2;go_ret;exact⟨rfl,Za ae⟩
structure Up(B g H:Nat)(N:List Int)(T:List Zj)(s:Int)(wr:World)(k:Nat)(y:Int):Prop where
 ex:∃ xs:List Value,wr.ownsRow B 3 1 (F (some ⟨g,0,none⟩) H H) H xs/\(upD N T H s).map (bC .i64)=(upD N T (H - k) y).map (bC .i64)++xs.drop (H - k)
theorem Up.old{B g H:Nat}{N T}{s:Int}{wr:World}{k:Nat}{y:Int}(h:Up B g H N T s wr k y){r:Nat}(hr:r<H):(∃ v,wr.cell? ⟨g,r,none⟩=some v)/\wr.frozen? ⟨g,r,none⟩=false/\B<=g/\g<wr.heap.size:=by
 obtain⟨xs,z,_⟩:=h.ex;have O:xs.length=H:=by simpa using z.1
 exact⟨⟨xs[r]'(by omega),by rw[z.cellAt r (by omega)];simp[O,hr]⟩,z.frozenAt r,(z.lt g rfl).1,(z.lt g rfl).2⟩
theorem Up.step{B g H:Nat}{N T}{s:Int}{wr:World}{k:Nat}{y:Int}(h:Up B g H N T s wr k y)(hk:k<H){r:Nat}(hr:r=H - 1 - k):Up B g H N T s (wr.setCell ⟨g,r,none⟩ (E J y)) (k+1) (fnd y N T).1:=by
 obtain⟨xs,z,O⟩:=h.ex;have hl:xs.length=H:=by simpa using z.1
 refine⟨xs.set r (E J y),(z.stored r _).1,?_⟩;rw[O,show H - k=(H - (k+1))+1 by omega,upD,List.map_append,List.append_assoc]
 congr 1
 have e:r=H - (k+1):=by omega
 rw[<-e];rw[aN (l:=xs.set r (E J y)) (i:=r) (by rw[List.length_set];omega),List.drop_set_of_lt (by omega)];simp
theorem Up.keep{B g H:Nat}{N T}{s:Int}{wr w':World}{k:Nat}{y:Int}(h:Up B g H N T s wr k y)(z:ZD wr w'):Up B g H N T s w' k y:=by
 obtain⟨xs,O,hx⟩:=h.ex;exact⟨xs,(Gr.of (S:=λ_=>False) z).own O (λ_ _ q=>q),hx⟩
theorem Zhw(a b)(n c d:Nat)(N T)(s:Int)(w:World)(hn:n<=cD)(O:IntsAt w a n N)(hT:BlksAt w b n T)(hH:Wv T) :
  Calls aB 77 #[.agg #[F a n c,F b n d],E J s] w λe w'=>∃ v,e = dX v/\w'.ownsRow w.heap.size 3 1 v (Zm N T s).length ((Zm N T s).map (bC .i64))/\ZD w w':=by
 obtain⟨i0,hi,bv,bw,bx⟩:=info_parts Tryz.infoInt;obtain⟨X,hX⟩:=ZG (w.alloc (dW #[F a n c,F b n d] 28));have ae:ZD w X:=by rw[hX];exact Zg _ _
 have aj:X.heap[w.heap.size]? = some (dW [F a n c,F b n d].toArray 28 (0,0)):=by rw[hX];exact two_heap _ _ _ _
 obtain⟨H,hh⟩:∃ H:Nat,(fnd s N T).2.1=(H:Int):=⟨_,(Int.toNat_of_nonneg (Jn hH s N).1).symm⟩;have cf:H<=1000:=by have:=(Jn hH s N).2.1;omega
 have HP:Hid (Zm N T s=upD N T H s):=by show _=_;unfold Zm;rw[hh];rfl
 have C:=Zb (Kx a b n c d N T s H X hn (O.later ae) (hT.later ae) hh);have HB:=Zb ae;have bj:=Zb aj;have HN:=Zb O;have HT:=Zb hT;have CF:=Zb (λy W (hb:ZD w W)=>Cm a b n c d N T y _ W hn (O.later hb) (hT.later hb) rfl);have br:w.heap.size+1<=X.heap.size:=aA aj;clear ae aj O hT hH hh;go_enter func77,ntmps77;go_wp2_with fail;rw[<-hX];clear hX;refine C.mono ?_;rintro e w1 ⟨rfl,ac⟩;have ax:w.heap.size+1<=w1.heap.size:=aT br ac.size;have bf:=Zb (Ze HB ac);have C1:=Zb (ZE ac bj);clear ac
 go_wp2_with (at_make;refine wpList_make_full _ rfl _ _ 25 rfl (w.heap.size+1) 3 i0 (E J 0) 1 underlying25 hi bv bw .i64 .i64 _ _ H rfl rfl rfl rfl (by rw[bx];omega) (by unfold cD;omega) ax ?_;intro w3 am au)
 have ak:ZD w1 w3:=(Below.refl _ _).grown au (aE _) (λk h=>by cases h)
 have HU:Hid (Up (w.heap.size+1) w1.heap.size H N T s w3 0 s):=⟨_,am,by
  rw[Nat.sub_zero,cB (by rw[am.1];omega),List.append_nil]⟩
 have C3:=Zb (ZE ak C1);have be:=Zb (Ze bf ak);obtain⟨g,hg⟩:=ZF (w1.heap.size);rw[hg] at HU ⊢;clear ak am au hg ax
 go_loopw [1,14] (λnm i wr=>∃ (k:Nat) (y:Int),k<=H/\nm = E J y/\i = E J k/\Hid (Up (w.heap.size+1) g H N T s wr k y)/\Hid (ZD w wr)/\Hid (wr.heap[w.heap.size]? = some (dW [F a n c,F b n d].toArray 28 (0,0)))) (λ_ i _=>H - (intOf i).toNat)
 case atStart=>exact⟨0,s,aP _,rfl,rfl,HU,be,C3⟩
 case round=>
  obtain⟨k,y,hk,rfl,rfl,ag,ao,bh⟩:=hrel;by_cases bs:k<H
  ·obtain⟨r,hr⟩:=ZG (H - 1 - k);have bu:r<H:=(by omega);obtain⟨⟨v0,cq⟩,ci,cj,cl⟩:=ag.old bu;have ct:IntKind.i64.wrap ((H:Int) - 1)=(H:Int) - 1:=(by rw[bF];omega);have cu:IntKind.i64.wrap ((H:Int) - 1 - (k:Int))=(r:Int):=(by rw[bF];omega);have cp:(r:Int)<(H:Int):=(by omega);have ST:=Zb (ag.step bs hr);have hG:Gr wr (wr.setCell ⟨g,r,none⟩ (E J y)) (λq=>q=g):=(Gr.refl wr (λq=>q=g)).one g r (.inl rfl) _;have an:=Zb (hG.below ao (by omega) (λq hq=>by omega));have z:=hG.heap bh (by omega);have bg:=Zb z;have CC:=Zb (CF y _ an);have t0:=Zd z 0 _ rfl;have t1:=Zd z 1 _ rfl;have tl:=aA z;have cn:(k:Int)<(H:Int):=(by omega);clear hG hr z;go_wp2_with fail;refine CC.mono ?_;rintro e w5 ⟨ta,tn,tc,rfl,_,_,ad⟩;unfold Zne;have hf:=(As (E J (fnd y N T).1) (E J (fnd y N T).2.1) (E J (fnd y N T).2.2.1) (E J (fnd y N T).2.2.2.1) (F ta tn tc) w5).1;have R1:=Zb (ST.keep ad);have R2:=Zb (Ze an ad);have R3:=Zb (ZE ad bg);clear ad;go_wp2;go_roundw
   case rel=>exact⟨k+1,_,by omega,rfl,by go_num,R1,R2,R3⟩
   case measure=>simp[intOf];omega
  ·have e:k=H:=(by omega);subst e
   have R:Hid (wr.ownsRow w.heap.size 3 1 (F (some ⟨g,0,none⟩) k k) (Zm N T s).length ((Zm N T s).map (bC .i64))):=by
    show World.ownsRow _ _ _ _ _ _ _;rw[Za HP];obtain⟨xs,ho,hx⟩:=ag.ex;rw[Nat.sub_self,List.drop_zero,upD,List.map_nil,List.nil_append] at hx;rw[hx,Rb];exact Wh ho (by omega)
   go_wp2;go_ret;exact⟨_,rfl,Za R,Za ao⟩
theorem Zmj(a b)(n c d k:Nat)(w:World)(hk:k<=n)(z:SlOk a n c)(O:SlOk b n d) :
  ZH 123 #[.agg #[F a n c,F b n d],E J k] w (.agg #[F a k c,F b k d]):=by
 have hc:=aT hk z.1;have hd:=aT hk O.1;have hm:=z.2.1;have ac:=O.2.1;unfold cD at hm ac;have ae:(k:Int)<=(c:Int):=by omega
 have ag:(k:Int)<=(d:Int):=by omega
 clear z O;go_enter func123,ntmps123;go_wp2_with fail
 go_region
 all_goals
  go_wp2
 all_goals (try simp only[aO,Exit.then])
 all_goals
  refine aR (v:=.agg #[F a k c,F b k d]) ?_ rfl ⟨rfl,?_⟩
  ·rw[Xb rfl];go_simp
  ·exact Ze (Ze (Zg _ _) (Zg _ _)) (Zh _)
theorem Zfv(a b)(n c d:Nat)(N T)(s:Int)(p h k m:Int)(ta tn tc L)(x:Int)(w:World)(hn:n<=cD)(hN:IntsAt w a n N)(hT:BlksAt w b n T)(hL:TxsAt w ta tn L)(hH:Wv T)(hx:Xw N T s (p,h,k,m,L)=x) :
  ZH 82 #[.agg #[F a n c,F b n d],E J s,.agg #[E J p,E J h,E J k,E J m,F ta tn tc]] w (E J x):=by
 obtain⟨X,hX⟩:=ZG ((w.alloc (dW #[F a n c,F b n d] 28)).alloc (dW #[E J p,E J h,E J k,E J m,F ta tn tc] 68));have af:ZD w X:=by rw[hX];exact Ze (Zg _ _) (Zg _ _)
 have cb:X.heap[w.heap.size]? = some (dW [F a n c,F b n d].toArray 28 (0,0)):=by
  rw[hX,Below.heap_alloc _ _ _ (by simp)];exact two_heap _ _ _ _
 have cc:X.heap[w.heap.size+1]? = some (dW [E J p,E J h,E J k,E J m,F ta tn tc].toArray 68 (0,0)):=by
  rw[hX];have:=Z8 (w.alloc (dW #[F a n c,F b n d] 28)) (E J p) (E J h) (E J k) (E J m) (F ta tn tc) 68;rw[show (w.alloc (dW #[F a n c,F b n d] 28)).heap.size=w.heap.size+1 by simp] at this;exact this
 obtain⟨o1,bq⟩:∃ o,(decide (1<=s) && decide (s<=120))=o:=⟨_,rfl⟩;obtain⟨x2,bt⟩:∃ x,Xo (p,h,k,m,L)=x:=⟨_,rfl⟩;obtain⟨o3,br⟩:∃ o,decide (s∈N)=o:=⟨_,rfl⟩;obtain⟨o4,bs⟩:∃ o,decide (p∈N)=o:=⟨_,rfl⟩;obtain⟨da,hz⟩:=ZF ((fnd p N T).2.1);have co:=(Jn hH p N).1;have cp:=(Jn hH p N).2.1;rw[hz] at co cp;have ct:IntKind.i64.wrap (da+1)=da+1:=by rw[bF];omega
 unfold Xw at hx;simp only at hx;rw[bq,bt,br,bs,hz] at hx;have HB:=Zb af;have bu:=Zb cb;have ae:=Zb cc;have C1:=Zb (λW=>Xc s 1 120 o1 W bq.symm);have C2:=Zb (R0 p h k m ta tn tc L x2 X (hL.later af) bt);have C3:=Zb (λW (hb:ZD X W)=>Ci a b n c n d N s o3 W hn (hN.later (Ze af hb)) br);have C4:=Zb (λW (hb:ZD X W)=>Ci a b n c n d N p o4 W hn (hN.later (Ze af hb)) bs);have C5:=Zb (λW (hb:ZD X W)=>Kx a b n c d N T p da W hn (hN.later (Ze af hb)) (hT.later (Ze af hb)) hz);clear af cb cc hN hT hL hH bq bt br bs hz;have bx:=Zb hx;clear hx;go_enter func82,ntmps82;go_wp2_with fail;rw[<-hX];clear hX;refine (C1 _).mono ?_;rintro e w1 ⟨rfl,rfl⟩;cases o1 with
 | false=>
  have R:Hid (x=3):=by show _=_;rw[<-Za bx,if_pos rfl]
  go_wp2;go_ret;exact⟨by rw[Za R];rfl,Za HB⟩
 | true=>
  have c0:=Zd ae 0 _ rfl;have c1:=Zd ae 1 _ rfl;have c2:=Zd ae 2 _ rfl;have c3:=Zd ae 3 _ rfl;have c4:=Zd ae 4 _ rfl;have cl:=aA ae
  have bv:Hid ((if x2≠0 then x2 else if o3=true then 6 else if p≠0/\o4=false then 5 else if h≠da+1 then 4 else 0)=x):=by
   have q:=Za bx;rw[if_neg (by decide)] at q;exact q
  go_wp2_with fail;refine C2.mono ?_;rintro e w2 ⟨rfl,bn⟩;have bc:=Zb bn;have h20:=ZE bn bu;clear bn c0 c1 c2 c3 c4 cl;by_cases q2:x2=0
  ·subst q2
   have bw:Hid ((if o3=true then 6 else if p≠0/\o4=false then 5 else if h≠da+1 then 4 else 0)=x):=by
    have q:=Za bv;rw[if_neg (by decide)] at q;exact q
   have c0:=Zd h20 0 _ rfl;have c1:=Zd h20 1 _ rfl;have cl:=aA h20;clear h20;go_wp2_with fail;refine (C3 _ bc).mono ?_;rintro e w3 ⟨rfl,cd⟩;have ac:=Zb (Ze bc cd);have h30:=ZE ac bu;have h31:=ZE ac ae;have HF:=Zb (Ze HB ac);clear cd c0 c1 cl;cases o3 with
   | true=>
    have R:Hid (x=6):=(by show _=_;rw[<-Za bw,if_pos rfl]);clear h30 h31;go_wp2;go_ret;exact⟨by rw[Za R];rfl,Za HF⟩
   | false=>
    have bf:Hid ((if p≠0/\o4=false then 5 else if h≠da+1 then 4 else 0)=x):=by
     have q:=Za bw;rw[if_neg (by decide)] at q;exact q
    have c0:=Zd h30 0 _ rfl;have c1:=Zd h30 1 _ rfl;have cl:=aA h30;have d0:=Zd h31 0 _ rfl;have d1:=Zd h31 1 _ rfl;have dl:=aA h31;clear h30 h31;by_cases q4:p=0
    ·subst q4
     have ao:Hid ((if h≠da+1 then (4:Int) else 0)=x):=by
      have q:=Za bf;rw[if_neg (by simp)] at q;exact q
     by_cases q5:h=da+1
     ·have R:Hid (x=0):=(by show _=_;rw[<-Za ao,if_neg (by simp[q5])]);have g5:(h != da+1)=false:=(by simp[q5]);clear q5;go_wp2_with fail
      go_region_with (go_at_call 124;refine (C5 _ (Ze ac (Zh _))).mono ?_;rintro e w5 ⟨rfl,z⟩;have e0:=Zc z (Zc (Zh _) d0);have e1:=Zc z (Zc (Zh _) d1);have el:=aI dl z.size;have ad:=Zb (Ze HF (Ze (Zh _) z));clear z)
      all_goals
       go_wp2;go_ret;exact⟨by rw[Za R];rfl,Za ad⟩
     ·have R:Hid (x=4):=(by show _=_;rw[<-Za ao,if_pos q5]);have g5:(h != da+1)=true:=(by simp[q5]);clear q5;go_wp2_with fail
      go_region_with (go_at_call 124;refine (C5 _ (Ze ac (Zh _))).mono ?_;rintro e w5 ⟨rfl,z⟩;have e0:=Zc z (Zc (Zh _) d0);have e1:=Zc z (Zc (Zh _) d1);have el:=aI dl z.size;have ad:=Zb (Ze HF (Ze (Zh _) z));clear z)
      all_goals
       go_wp2;go_ret;exact⟨by rw[Za R];rfl,Za ad⟩
    ·have g4:(p != 0)=true:=(by simp[q4]);go_wp2_with fail;refine (C4 _ ac).mono ?_;rintro e w4 ⟨rfl,ab⟩;have bd:=Zb (Ze ac ab);have be:=Zb (Ze HB bd);have k0:=Zc ab c0;have k1:=Zc ab c1;have kl:=aI cl ab.size;have d0:=Zc ab d0;have d1:=Zc ab d1;have dl:=aI dl ab.size;clear ab c0 c1 cl;cases o4 with
     | false=>
      have R:Hid (x=5):=(by show _=_;rw[<-Za bf,if_pos ⟨q4,rfl⟩]);clear q4;go_wp2;go_ret;exact⟨by rw[Za R];rfl,Za be⟩
     | true=>
      have ao:Hid ((if h≠da+1 then (4:Int) else 0)=x):=by
       have q:=Za bf;rw[if_neg (by simp)] at q;exact q
      clear q4;by_cases q5:h=da+1
      ·have R:Hid (x=0):=(by show _=_;rw[<-Za ao,if_neg (by simp[q5])]);have g5:(h != da+1)=false:=(by simp[q5]);clear q5;go_wp2_with fail
       go_region_with (go_at_call 124;refine (C5 _ (Ze bd (Zh _))).mono ?_;rintro e w5 ⟨rfl,z⟩;have e0:=Zc z (Zc (Zh _) d0);have e1:=Zc z (Zc (Zh _) d1);have el:=aI dl z.size;have ad:=Zb (Ze be (Ze (Zh _) z));clear z)
       all_goals
        go_wp2;go_ret;exact⟨by rw[Za R];rfl,Za ad⟩
      ·have R:Hid (x=4):=(by show _=_;rw[<-Za ao,if_pos q5]);have g5:(h != da+1)=true:=(by simp[q5]);clear q5;go_wp2_with fail
       go_region_with (go_at_call 124;refine (C5 _ (Ze bd (Zh _))).mono ?_;rintro e w5 ⟨rfl,z⟩;have e0:=Zc z (Zc (Zh _) d0);have e1:=Zc z (Zc (Zh _) d1);have el:=aI dl z.size;have ad:=Zb (Ze be (Ze (Zh _) z));clear z)
       all_goals
        go_wp2;go_ret;exact⟨by rw[Za R];rfl,Za ad⟩
  ·have R:Hid (x=x2):=(by show _=_;rw[<-Za bv,if_pos q2]);have g2:(x2 != 0)=true:=(by simp[q2]);have HF:=Zb (Ze HB bc);clear q2 h20;go_wp2;go_ret;exact⟨by rw[Za R];rfl,Za HF⟩
theorem Ti{N T}{x:Int}{b:Zj}(h:Xw N T x b=0):Xo b=0:=by
 unfold Xw at h;split at h
 ·cases h
 ·split at h
  ·next q=>exact absurd h q
  ·next q=>exact Classical.not_not.1 q
theorem N8{T:List Zj}{j:Nat}(O:j<T.length)(h:Wv (T.take j))(z:Xo T[j]=0):Wv (T.take (j+1)):=by
 rw[aM O];intro b hm
 rcases List.mem_append.1 hm with q|q
 ·exact h b q
 ·rw[List.mem_singleton.1 q];exact Sf z
theorem Ta(a b n c m d N T)(x:Int)(w:World)(hN:IntsAt w a n N)(hT:BlksAt w b m T)(sN:SlOk a n c)(sT:SlOk b m d)(hx:chkTr N T=x) :
  ZH 75 #[.agg #[F a n c,F b m d]] w (E J x):=by
 subst hx;obtain⟨X,hX⟩:=ZG (w.alloc (dW #[F a n c,F b m d] 28));have ah:ZD w X:=by rw[hX];exact Zg _ _
 have af:X.heap[w.heap.size]? = some (dW [F a n c,F b m d].toArray 28 (0,0)):=by rw[hX];exact two_heap _ _ _ _
 have HB:=Zb ah;have cm:=Zb af;have x0:=Zd af 0 _ rfl;have x1:=Zd af 1 _ rfl;have xl:=aA af;have HN:=Zb (hN.later ah);have HT:=Zb (hT.later ah);have bi:=Zb hN.1;have cd:=Zb hT.1;have hm:=sN.2.1;have cj:=sT.2.1;have co:=sN.1;unfold cD at hm cj;by_cases e:n=m
 ·subst e;by_cases h24:24<n
  ·have R:Hid (chkTr N T=2):=(by show _=_;unfold chkTr;rw[hN.1,hT.1,if_neg (by simp),if_pos h24]);have g0:((n:Int) != (n:Int))=false:=(by simp);have g1:(24:Int)<(n:Int):=(by omega);clear hN hT sN sT af ah;go_enter func75,ntmps75;go_wp2_with fail;rw[<-hX];clear hX;go_wp2;go_ret;exact⟨by rw[Za R];rfl,Za HB⟩
  ·have R:Hid (chkTr N T=Wa (N.take 0) (T.take 0) (N.drop 0) (T.drop 0)):=(by show _=_;unfold chkTr;rw[hN.1,hT.1,if_neg (by simp),if_neg h24];rfl);have g0:((n:Int) != (n:Int))=false:=(by simp);have g1:¬(24:Int)<(n:Int):=(by omega);have SN:=Zb sN;have ST:=Zb sT;clear hN hT sN sT af ah;go_enter func75,ntmps75;go_wp2_with fail;rw[<-hX];clear hX;go_wp2
   go_loopw [19] (λi wr=>∃ j:Nat,j<=n/\i = E J j/\Hid (chkTr N T=Wa (N.take j) (T.take j) (N.drop j) (T.drop j))/\Hid (Wv (T.take j))/\Hid (ZD X wr)) (λi _=>n - (intOf i).toNat)
   case atStart=>exact⟨0,aP _,rfl,R,(λb hb=>(by simp at hb):Wv (T.take 0)),(Below.refl _ _:ZD X X)⟩
   case round=>
    obtain⟨j,hj,rfl,A,HH,ab⟩:=hrel;by_cases bs:j<n
    ·have h1:j<N.length:=(by rw[Za bi];exact bs);have h2:j<T.length:=(by rw[Za cd];exact bs);obtain⟨b1,ai,rfl,bq,bk⟩:=HN.2 (by omega);obtain⟨O,aa,rfl,br,bn⟩:=HT.2 (by omega);have f1:=Zc ab (bk j h1);have bo:=BlkAt.kept _ _ _ _ _ ab (bn j h2);have AT:=Zb (Zcj N T j h1 h2);have HM:=Zb (N8 h2 HH);obtain⟨s,hs⟩:=ZF (N[j]);obtain⟨t,ht⟩:=ZF (T[j]);rw[hs] at f1 AT;rw[ht] at bo AT HM;obtain⟨p,h,k,o,L⟩:=t;obtain⟨au,av,g2,g3,ta,tn,tc,g4,hL,_⟩:=bo;simp only at au av g2 g3 hL;obtain⟨y,hy⟩:=ZF (Xw (N.take j) (T.take j) s (p,h,k,o,L));have w0:=Zc ab x0;have w1:=Zc ab x1;have wl:=aI xl ab.size;have cp:=aI bq ab.size;have cq:=aI br ab.size;have C1:=Zb (λW=>Zmj (some ⟨b1,ai,none⟩) (some ⟨O,aa,none⟩) n c d j W hj SN ST);have cg:j<=cD:=(by unfold cD;omega);have C2:=Zb (λW (hb:ZD wr W)=>Zfv (some ⟨b1,ai,none⟩) (some ⟨O,aa,none⟩) j c d (N.take j) (T.take j) s p h k o ta tn tc L y W cg ((HN.later (Ze ab hb)).take j hj) (RowsAt.take (HT.later (Ze ab hb)) j hj) (hL.later hb) HH hy);rw[hy] at AT;have HY:Hid (y=0->Xo (p,h,k,o,L)=0):=λq=>Ti (hy.trans q);clear bk bn hL hs ht hy x0 x1 xl bq br;by_cases q:y=0
     ·subst q;have R:Hid (chkTr N T=Wa (N.take (j+1)) (T.take (j+1)) (N.drop (j+1)) (T.drop (j+1))):=(by show _=_;rw[Za A,Za AT,if_neg (by simp)]);have cb:=Zb (HM (HY rfl));clear A;go_wp2_with fail
      go_region_held3 (λW'=>ZD wr W'/\W'.cell? ⟨w.heap.size,0,none⟩=some (F (some ⟨b1,ai,none⟩) n c)/\W'.cell? ⟨w.heap.size,1,none⟩=some (F (some ⟨O,aa,none⟩) n d)/\W'.cell? ⟨b1,ai+j,none⟩=some (E J s)/\W'.cell? ⟨O,aa+j*5,none⟩=some (E J p)/\W'.cell? ⟨O,aa+j*5+1,none⟩=some (E J h)/\W'.cell? ⟨O,aa+j*5+2,none⟩=some (E J k)/\W'.cell? ⟨O,aa+j*5+3,none⟩=some (E J o)/\W'.cell? ⟨O,aa+j*5+4,none⟩=some (F ta tn tc))
       (first
       | exact⟨Zh _,w0,w1,f1,au,av,g2,g3,g4⟩
       | (go_split_ands;refine⟨Ze (by assumption) z,Zc z (by assumption),Zc z (by assumption),Zc z (by assumption),Zc z (by assumption),Zc z (by assumption),Zc z (by assumption),Zc z (by assumption),Zc z (by assumption)⟩))
       (first|(go_at_call 123;refine (C1 _).mono ?_;rintro e w' ⟨rfl,z⟩)|(go_at_call 82;go_split_ands;refine (C2 _ (by assumption)).mono ?_;rintro e w' ⟨rfl,z⟩))
      rename_i hq;have aq:=Zb (Ze ab hq.1);clear hq;go_wp2;go_roundw
      case rel=>exact⟨j+1,by omega,by go_num,R,cb,aq⟩
      case measure=>simp[intOf];omega
     ·have R:Hid (chkTr N T=y):=(by show _=_;rw[Za A,Za AT,if_pos q]);have gy:(y != 0)=true:=(by simp[q]);clear A q;go_wp2_with fail
      go_region_held3 (λW'=>ZD wr W'/\W'.cell? ⟨w.heap.size,0,none⟩=some (F (some ⟨b1,ai,none⟩) n c)/\W'.cell? ⟨w.heap.size,1,none⟩=some (F (some ⟨O,aa,none⟩) n d)/\W'.cell? ⟨b1,ai+j,none⟩=some (E J s)/\W'.cell? ⟨O,aa+j*5,none⟩=some (E J p)/\W'.cell? ⟨O,aa+j*5+1,none⟩=some (E J h)/\W'.cell? ⟨O,aa+j*5+2,none⟩=some (E J k)/\W'.cell? ⟨O,aa+j*5+3,none⟩=some (E J o)/\W'.cell? ⟨O,aa+j*5+4,none⟩=some (F ta tn tc))
       (first
       | exact⟨Zh _,w0,w1,f1,au,av,g2,g3,g4⟩
       | (go_split_ands;refine⟨Ze (by assumption) z,Zc z (by assumption),Zc z (by assumption),Zc z (by assumption),Zc z (by assumption),Zc z (by assumption),Zc z (by assumption),Zc z (by assumption),Zc z (by assumption)⟩))
       (first|(go_at_call 123;refine (C1 _).mono ?_;rintro e w' ⟨rfl,z⟩)|(go_at_call 82;go_split_ands;refine (C2 _ (by assumption)).mono ?_;rintro e w' ⟨rfl,z⟩))
      rename_i hq;have aq:=Zb (Ze HB (Ze ab hq.1));clear hq;go_wp2;go_ret;exact⟨by rw[Za R];rfl,Za aq⟩
    ·have R:Hid (chkTr N T=0):=(by show _=_;rw[Za A,A9 N T j (by rw[Za bi];omega)]);have ca:=Zb (Ze HB ab);clear A;go_wp2;go_ret;exact⟨by rw[Za R];rfl,Za ca⟩
 ·have R:Hid (chkTr N T=4):=by show _=_;unfold chkTr;rw[hN.1,hT.1,if_pos e]
  have g0:((n:Int) != (m:Int))=true:=by simp;omega
  clear hN hT sN sT af ah;go_enter func75,ntmps75;go_wp2_with fail;rw[<-hX];clear hX;go_wp2;go_ret;exact⟨by rw[Za R];rfl,Za HB⟩
