import Derived.Test.YtpikejjiignchaaGreatDoorG38
import Derived.Lib.OwnKind
set_option maxHeartbeats 6400000
set_option maxRecDepth 10000
namespace Go.Proofs.YtpikejjiignchaaGreatDoor
open Go.RowKit
theorem Zgk(ka:Option Addr)(kn kc:Nat)(K:List ByteArray)(la:Option Addr)(ln lc:Nat)(C0:List Zf)(p ht k0 n:Int)(a:Option Addr)(m c:Nat)(T:List TxD)(x:Int)(C':List Zf)(S':List (List Zf))(w:World)(hE:EnvF w)(hK:Bk.TextsAt w ka kn K)(sK:Bk.SlOk ka kn kc)(hR:Bk.Right K)(hC:CoinsAt w la ln C0)(sC:SlOk la ln lc)(hRC:Ye C0)(hT:TxsAt w a m T)(sT:SlOk a m c)(hx:Xp K C0 (p,ht,k0,n,T)=(x,C',S')) :
  Calls Tryz.prog 41 #[.slice ka kn kc,.slice la ln lc,.agg #[.int .i64 p,.int .i64 ht,.int .i64 k0,.int .i64 n,.slice a m c]] w fun e w'=>Zir w w' x C' S' e:=by
 obtain⟨⟨X1,nm1,N,z⟩,hnm⟩:∃ r,Qt K (p,ht,k0,n,T)=r:=⟨_,rfl⟩
 have hck:Yj C0=0:=(Y4 _).2 hRC
 have hnf:nfD K C0 (p,ht,k0,n,T)=(N,z):=by unfold nfD;rw[if_neg (fun q=>q hck),hnm]
 unfold Xp at hx
 rw[hnf] at hx
 have zT:T.length=m:=hT.1
 by_cases hz:z=0
 ·subst hz
  rw[if_neg (fun q=>q rfl)] at hx
  obtain⟨_,_,h1,h2⟩:=Pb (Sk hnm).1
  simp only at h1 h2
  have hr:rwD ht=((rwD ht).1,0):=by
   have e:(rwD ht).2=0:=by
    unfold rwD
    rw[if_pos (by simp only[Bool.and_eq_true,decide_eq_true_eq];omega)]
   rw[←e]
  refine Zde ka kn kc K la ln lc C0 p ht k0 n a m c T X1 nm1 N (rwD ht).1 x C' S' w hE hK sK hR hC sC hRC hT sT hnm hr ?_
  rw[←zT]
  exact hx
 ·rw[if_pos hz] at hx
  have HE:Hid ((z,([]:List Zf),([]:List (List Zf)))=(x,C',S')):=hx
  obtain⟨X,hX⟩:∃ X,X=w.alloc (.cells #[.int .i64 p,.int .i64 ht,.int .i64 k0,.int .i64 n,.slice a m c] 68):=⟨_,rfl⟩
  have hbX:Below w.heap.size w X:=by rw[hX];exact Zg _ _
  have hXb:X.heap[w.heap.size]? = some (.cells [.int .i64 p,.int .i64 ht,.int .i64 k0,.int .i64 n,.slice a m c].toArray 68 (0,0)):=by rw[hX];exact Yd _ _ _ _ _ _ _
  have NF:=Zb (Nh ka kn kc K p ht k0 n a m c T X1 nm1 N z X (hE.later hbX) (hK.later hbX) sK hR (hT.later hbX) hnm)
  have x0:=Zd hXb 0 _ rfl
  have x1:=Zd hXb 1 _ rfl
  have x2:=Zd hXb 2 _ rfl
  have x3:=Zd hXb 3 _ rfl
  have x4:=Zd hXb 4 _ rfl
  have xl:=lt_of_block hXb
  have HBX:=Zb hbX
  have gm:(z != 0)=true:=by simp[hz]
  clear hE hK sK hR hC hRC hT hnm hx hbX hXb hnf hck zT sT
  go_enter Tryz.func41,Tryz.ntmps41
  go_wp2_with fail
  rw[←hX]
  clear hX
  (try go_wp2_with fail)
  refine (Za NF).mono ?_
  rintro e w1 ⟨a',n',c',na,nn,nc,rfl,_,_,hN,hb1⟩
  have HB1:=Zb (Ze (Za HBX) hb1)
  clear hN hb1 NF x0 x1 x2 x3 x4 xl
  go_wp2
  (try simp only[Exit.inBlock,Exit.then])
  refine bodyPost_ret (v:=.tuple #[.slice none 0 0,.slice none 0 0,.int .i64 z]) ?_ rfl (Jl (Za HE) (Za HB1))
  simp[results,Tryz.f41,go_sem]
theorem Gr.cell{w w':World}{S:Nat→Prop}(h:Gr w w' S){p:Addr}{v:Value}(hc:w.cell? p=some v)(hn:¬S p.block):w'.cell? p=some v:=
 (World.cell?_of_block (h.block p.block (World.block_lt_of_cell? _ _ hc) hn)).trans hc
theorem Fresh.now{B:Nat}{w:World}{Q:World→Prop}(h:Fresh B w Q):Q w:=h w (Gr.refl _ _)
theorem Fresh.on{B:Nat}{w w':World}{Q:World→Prop}(h:Fresh B w Q)(g:Gr w w' (fun k=>k<B)):Fresh B w' Q:=fun w2 g2=>h w2 (g.trans g2)
theorem Fresh.later{B:Nat}{w w':World}{Q:World→Prop}(h:Fresh B w Q)(g:Below w.heap.size w w'):Fresh B w' Q:=h.on (Gr.of g)
theorem Fresh.less{B B':Nat}{w:World}{Q:World→Prop}(h:Fresh B' w Q)(hb:B≤B'):Fresh B w Q:=fun w2 g2=>h w2 (g2.mono fun _ _ hk=>Nat.lt_of_lt_of_le hk hb)
theorem Fresh.imp{B:Nat}{w:World}{Q R:World→Prop}(h:Fresh B w Q)(f:∀ w2,Q w2→R w2):Fresh B w R:=fun w2 g2=>f w2 (h w2 g2)
end Go.Proofs.YtpikejjiignchaaGreatDoor
namespace Go.Proofs.YtpikejjiignchaaGreatDoor.Tr
open Go.RowKit
theorem two_heap(w:World)(a b:Value)(t:TypeId):(w.alloc (.cells #[a,b] t)).heap[w.heap.size]? = some (.cells [a,b].toArray t (0,0)):=heap_alloc_new w _
theorem Yq{w:World}{base:Nat}{e:TypeId}{size:Nat}{v:Value}{n:Nat}{xs:List Value}(h:w.ownsRow base e size v n xs):∃ a c,v = .slice a n c∧SlOk a n c∧∀ ad,a=some ad→base≤ad.block∧ad.block<w.heap.size:=by
 rcases h.2 with ⟨rfl,rfl⟩|⟨g,cap,cur,rfl,hg,hh,h1,h2,_⟩
 ·exact⟨none,0,rfl,⟨Nat.le_refl _,Nat.zero_le _,fun _=>⟨rfl,rfl⟩⟩,fun ad e=>by cases e⟩
 ·exact⟨_,cap,rfl,⟨h1,h2,fun e=>by cases e⟩,fun ad e=>by cases e;exact⟨hg,lt_of_block hh⟩⟩
def Jq(w:World)(b o:Nat)(cs:List Value):Prop:=∀ j u,cs[j]? = some u→w.cell? ⟨b,o+j,none⟩=some u
structure Rec(α : Type) where
 sz:Nat
 C:World→List Value → α→Prop
 R:World→Nat→Nat → α→Prop
 wide:∀ w cs x,C w cs x→cs.length=sz
 one:∀ w cs x,C w cs x→∀ v∈cs,v.oneCell'=true
 kept:∀ w w' cs x,Below w.heap.size w w'→C w cs x→C w' cs x
 rc:∀ w b o x,R w b o x→∃ cs,Jq w b o cs∧C w cs x
 cr:∀ w b o cs x,Jq w b o cs→C w cs x→R w b o x
def AllC{α : Type}(Z:Rec α)(w:World)(K:List (List Value))(L:List α):Prop:=K.length=L.length∧∀ i (h:i<L.length) (h':i<K.length),Z.C w K[i] L[i]
theorem Ws{α : Type}{Z:Rec α}{w:World}:∀ {K:List (List Value)} {L:List α},AllC Z w K L→K.flatten.length=L.length*Z.sz
 | [],[],_=>by simp
 | [],_ :: _,h=>by cases h.1
 | _ :: _,[],h=>by cases h.1
 | k :: K,x :: L,h=>by
  have h1:AllC Z w K L:=⟨by simpa using h.1,fun i h1 h2=>h.2 (i+1) (by simpa using h1) (by simpa using h2)⟩
  have h2:=Z.wide _ _ _ (h.2 0 (by simp) (by simp))
  simp only[List.getElem_cons_zero] at h2
  rw[List.flatten_cons,List.length_append,Ws h1,h2,List.length_cons,Nat.succ_mul];omega
theorem Qv{α : Type}{Z:Rec α}{w:World}{K:List (List Value)}{L:List α}(h:AllC Z w K L):∀ u∈K.flatten,u.oneCell'=true:=by
 intro u hu
 obtain⟨k,hk,hu⟩:=List.mem_flatten.1 hu
 obtain⟨i,hi,rfl⟩:=List.getElem_of_mem hk
 exact Z.one _ _ _ (h.2 i (by rw[←h.1];exact hi) hi) u hu
theorem AllC.later{α : Type}{Z:Rec α}{w w':World}{K:List (List Value)}{L:List α}(h:AllC Z w K L)(hb:Below w.heap.size w w'):AllC Z w' K L:=
 ⟨h.1,fun i h1 h2=>Z.kept _ _ _ _ hb (h.2 i h1 h2)⟩
theorem AllC.snoc{α : Type}{Z:Rec α}{w:World}{K:List (List Value)}{L:List α}(h:AllC Z w K L){k:List Value}{x : α}(hx:Z.C w k x):AllC Z w (K++[k]) (L++[x]):=by
 refine⟨by simp[h.1],fun i h1 h2=>?_⟩
 rcases Nat.lt_or_ge i L.length with q|q
 ·rw[List.getElem_append_left (h:=by rw[h.1];exact q),List.getElem_append_left (h:=q)]
  exact h.2 i q (by rw[h.1];exact q)
 ·have e:i=L.length:=by simp at h1;omega
  subst e
  rw[List.getElem_append_right (by rw[h.1];exact Nat.le_refl _),List.getElem_append_right (Nat.le_refl _)]
  simpa[h.1] using hx
theorem Jj{α : Type}{Z:Rec α}{w:World}:∀ {K:List (List Value)} {L:List α} (_:AllC Z w K L) (i:Nat) (h':i<K.length) (j:Nat) (_:j<Z.sz),K.flatten[i*Z.sz+j]? = (K[i])[j]?
 | [],_,_,_,h',_,_=>absurd h' (by simp)
 | _ :: _,[],h,_,_,_,_=>by cases h.1
 | k :: K,x :: L,h,0,_,j,hj=>by
  have h2:=Z.wide _ _ _ (h.2 0 (by simp) (by simp))
  simp only[List.getElem_cons_zero] at h2
  rw[List.flatten_cons,List.getElem?_append_left (by omega)]
  simp
 | k :: K,x :: L,h,i+1,h',j,hj=>by
  have h1:AllC Z w K L:=⟨by simpa using h.1,fun i h1 h2=>h.2 (i+1) (by simpa using h1) (by simpa using h2)⟩
  have h2:=Z.wide _ _ _ (h.2 0 (by simp) (by simp))
  simp only[List.getElem_cons_zero] at h2
  rw[List.flatten_cons,List.getElem?_append_right (by rw[h2,Nat.succ_mul];omega),h2]
  rw[show (i+1)*Z.sz+j - Z.sz=i*Z.sz+j by rw[Nat.succ_mul];omega]
  rw[Jj h1 i (by simpa using h') j hj]
  simp
theorem Ux{α : Type}(Z:Rec α){w:World}{b off:Nat}{L:List α}(h:∀ i (h:i<L.length),Z.R w b (off+i*Z.sz) L[i]):∃ K,AllC Z w K L∧Jq w b off K.flatten:=by
 have h2:∀ k,k≤L.length→∃ K,AllC Z w K (L.take k)∧Jq w b off K.flatten:=by
  intro k
  induction k with
  | zero=>intro _;exact⟨[],⟨by simp,fun i h1 h2=>absurd h2 (by simp)⟩,fun j u hj=>by simp at hj⟩
  | succ k ih=>
   intro hk
   obtain⟨K,h1,h3⟩:=ih (by omega)
   obtain⟨cs,h4,h5⟩:=Z.rc _ _ _ _ (h k (by omega))
   refine⟨K++[cs],by rw[List.take_succ_eq_append_getElem (by omega)];exact h1.snoc h5,fun j u hj=>?_⟩
   have hl:=Ws h1
   rw[List.length_take,Nat.min_eq_left (by omega)] at hl
   rw[List.flatten_append] at hj
   rcases Nat.lt_or_ge j K.flatten.length with q|q
   ·rw[List.getElem?_append_left q] at hj;exact h3 j u hj
   ·rw[List.getElem?_append_right q] at hj
    have:=h4 (j - K.flatten.length) u (by simpa using hj)
    rw[show off+k*Z.sz+(j - K.flatten.length)=off+j by omega] at this
    exact this
 obtain⟨K,h1,h3⟩:=h2 L.length (Nat.le_refl _)
 rw[List.take_length] at h1
 exact⟨K,h1,h3⟩
theorem rows_of_own{α : Type}(Z:Rec α){w:World}{base n:Nat}{e:TypeId}{v:Value}{K:List (List Value)}{L:List α}(h:w.ownsRow base e Z.sz v n K.flatten)(hc:AllC Z w K L)(hn:L.length=n):∃ a c,v = .slice a n c∧RowsAt Z.R Z.sz w a n L∧SlOk a n c:=by
 rcases h.2 with ⟨rfl,rfl⟩|⟨g,cap,cur,rfl,hg,hh,h1,h2,h3,h4⟩
 ·exact⟨none,0,rfl,⟨hn,fun h=>absurd h (by omega)⟩,Nat.le_refl _,Nat.zero_le _,fun _=>⟨rfl,rfl⟩⟩
 ·refine⟨_,cap,rfl,⟨hn,fun _=>⟨g,0,rfl,lt_of_block hh,fun i hi=>?_⟩⟩,h1,h2,fun e=>by cases e⟩
  have hi':i<K.length:=by rw[hc.1];exact hi
  refine Z.cr _ _ _ (K[i]) _ (fun j u hj=>?_) (hc.2 i hi hi')
  have hw:=Z.wide _ _ _ (hc.2 i hi hi')
  have hjl:j<Z.sz:=by rw[←hw];exact (List.getElem?_eq_some_iff.1 hj).1
  rw[Nat.zero_add,World.ownsRow.cellAt h _ (by
   have:(i+1)*Z.sz≤n*Z.sz:=Nat.mul_le_mul_right _ (by omega)
   rw[Nat.succ_mul] at this;omega),Jj hc i hi' j hjl]
  exact hj
def IntsAt(w:World)(a:Option Addr)(len:Nat)(Z:List Int):Prop:=
 Z.length=len∧(0<len→∃ b off,a=some ⟨b,off,none⟩∧b<w.heap.size∧∀ i (h:i<Z.length),w.cell? ⟨b,off+i,none⟩=some (.int .i64 Z[i]))
theorem IntsAt.later{w w':World}{a:Option Addr}{len:Nat}{Z:List Int}(h:IntsAt w a len Z)(hb:Below w.heap.size w w'):IntsAt w' a len Z:=by
 refine⟨h.1,fun h0=>?_⟩
 obtain⟨b,off,e,hl,hc⟩:=h.2 h0
 exact⟨b,off,e,Nat.lt_of_lt_of_le hl hb.size,fun i hi=>Zc hb (hc i hi)⟩
theorem IntsAt.nil(w:World)(a:Option Addr):IntsAt w a 0 []:=⟨rfl,fun h=>absurd h (by omega)⟩
theorem IntsAt.take{w:World}{a:Option Addr}{len:Nat}{l:List Int}(h:IntsAt w a len l)(k:Nat)(hk:k≤len):IntsAt w a k (l.take k):=by
 have hl:=h.1
 refine⟨by rw[List.length_take];omega,fun h0=>?_⟩
 obtain⟨b,off,e,hb,hc⟩:=h.2 (by omega)
 refine⟨b,off,e,hb,fun i hi=>?_⟩
 rw[List.length_take] at hi
 rw[List.getElem_take]
 exact hc i (by omega)
theorem ints_of_own{w:World}{base:Nat}{v:Value}{n:Nat}{N:List Int}(h:w.ownsRow base 3 1 v n (N.map (Value.int .i64))):∃ a cap,v = .slice a n cap∧SlOk a n cap∧IntsAt w a n N:=by
 have hl:N.length=n:=by simpa using h.1
 rcases h.2 with ⟨rfl,rfl⟩|⟨g,cap,cur,rfl,hg,hh,h1,h2,h3,h4⟩
 ·exact⟨none,0,rfl,⟨Nat.le_refl _,Nat.zero_le _,fun _=>⟨rfl,rfl⟩⟩,hl,fun h=>absurd h (by omega)⟩
 ·refine⟨_,cap,rfl,⟨h1,h2,fun e=>by cases e⟩,hl,fun _=>⟨g,0,rfl,lt_of_block hh,fun i hi=>?_⟩⟩
  rw[Nat.zero_add,World.ownsRow.cellAt h _ (by omega)]
  simp[hi]
def BlkAt(w:World)(b o:Nat)(x:Zk):Prop:=
 w.cell? ⟨b,o,none⟩=some (.int .i64 x.1)∧w.cell? ⟨b,o+1,none⟩=some (.int .i64 x.2.1)∧w.cell? ⟨b,o+2,none⟩=some (.int .i64 x.2.2.1)∧w.cell? ⟨b,o+3,none⟩=some (.int .i64 x.2.2.2.1) ∧
 ∃ a n c,w.cell? ⟨b,o+4,none⟩=some (.slice a n c)∧TxsAt w a n x.2.2.2.2∧SlOk a n c
theorem BlkAt.kept:Dm BlkAt:=fun _ _ _ _ _ hb h=>by
 obtain⟨h1,h2,h3,h4,a,n,c,h5,h6,h7⟩:=h
 exact⟨Zc hb h1,Zc hb h2,Zc hb h3,Zc hb h4,a,n,c,Zc hb h5,h6.later hb,h7⟩
def BlksAt(w:World)(a:Option Addr)(len:Nat)(l:List Zk):Prop:=RowsAt BlkAt 5 w a len l
theorem BlksAt.later{w w':World}{a:Option Addr}{len:Nat}{l:List Zk}(h:BlksAt w a len l)(hb:Below w.heap.size w w'):BlksAt w' a len l:=RowsAt.later BlkAt.kept h hb
theorem cells3{w:World}{b o:Nat}{x y z:Value}(h0:w.cell? ⟨b,o,none⟩=some x)(h1:w.cell? ⟨b,o+1,none⟩=some y)(h2:w.cell? ⟨b,o+2,none⟩=some z):Jq w b o [x,y,z]:=by
 intro j u hj
 match j,hj with
 | 0,hj=>cases hj;exact h0
 | 1,hj=>cases hj;exact h1
 | 2,hj=>cases hj;exact h2
 | j+3,hj=>simp at hj
theorem Zlu{w:World}{b o:Nat}{x y:Value}(h0:w.cell? ⟨b,o,none⟩=some x)(h1:w.cell? ⟨b,o+1,none⟩=some y):Jq w b o [x,y]:=by
 intro j u hj
 match j,hj with
 | 0,hj=>cases hj;exact h0
 | 1,hj=>cases hj;exact h1
 | j+2,hj=>simp at hj
theorem cells5{w:World}{b o:Nat}{x y z r s:Value}(h0:w.cell? ⟨b,o,none⟩=some x)(h1:w.cell? ⟨b,o+1,none⟩=some y)(h2:w.cell? ⟨b,o+2,none⟩=some z)(h3:w.cell? ⟨b,o+3,none⟩=some r)(h4:w.cell? ⟨b,o+4,none⟩=some s):Jq w b o [x,y,z,r,s]:=by
 intro j u hj
 match j,hj with
 | 0,hj=>cases hj;exact h0
 | 1,hj=>cases hj;exact h1
 | 2,hj=>cases hj;exact h2
 | 3,hj=>cases hj;exact h3
 | 4,hj=>cases hj;exact h4
 | j+5,hj=>simp at hj
def inR:Rec InD where
 sz:=3
 C w cs x:=∃ a n c,cs=[.int .i64 x.1,.int .i64 x.2.1,.slice a n c]∧OpsAt w a n x.2.2∧SlOk a n c
 R:=InAt
 wide _ _ _:=by rintro ⟨a,n,c,rfl,_⟩;rfl
 one _ _ _:=by rintro ⟨a,n,c,rfl,_⟩ v hv;simp at hv;rcases hv with rfl|rfl|rfl <;> rfl
 kept _ _ _ _ hb:=by rintro ⟨a,n,c,rfl,h1,h2⟩;exact⟨a,n,c,rfl,h1.later hb,h2⟩
 rc _ _ _ _:=by rintro ⟨h1,h2,a,n,c,h3,h4,h5⟩;exact⟨_,cells3 h1 h2 h3,a,n,c,rfl,h4,h5⟩
 cr _ _ _ _ _ h:=by rintro ⟨a,n,c,rfl,h1,h2⟩;exact⟨h 0 _ rfl,h 1 _ rfl,a,n,c,h 2 _ rfl,h1,h2⟩
def outR:Rec Yc where
 sz:=2
 C w cs x:=∃ a n c,cs=[.int .i64 x.1,.slice a n c]∧OpsAt w a n x.2∧SlOk a n c
 R:=OutAt
 wide _ _ _:=by rintro ⟨a,n,c,rfl,_⟩;rfl
 one _ _ _:=by rintro ⟨a,n,c,rfl,_⟩ v hv;simp at hv;rcases hv with rfl|rfl <;> rfl
 kept _ _ _ _ hb:=by rintro ⟨a,n,c,rfl,h1,h2⟩;exact⟨a,n,c,rfl,h1.later hb,h2⟩
 rc _ _ _ _:=by rintro ⟨h1,a,n,c,h3,h4,h5⟩;exact⟨_,Zlu h1 h3,a,n,c,rfl,h4,h5⟩
 cr _ _ _ _ _ h:=by rintro ⟨a,n,c,rfl,h1,h2⟩;exact⟨h 0 _ rfl,a,n,c,h 1 _ rfl,h1,h2⟩
def txR:Rec TxD where
 sz:=3
 C w cs x:=∃ a n c a' n' c',cs=[.int .i64 x.1,.slice a n c,.slice a' n' c']∧InsAt w a n x.2.1∧SlOk a n c∧OutsAt w a' n' x.2.2∧SlOk a' n' c'
 R:=TxAt
 wide _ _ _:=by rintro ⟨a,n,c,a',n',c',rfl,_⟩;rfl
 one _ _ _:=by rintro ⟨a,n,c,a',n',c',rfl,_⟩ v hv;simp at hv;rcases hv with rfl|rfl|rfl <;> rfl
 kept _ _ _ _ hb:=by rintro ⟨a,n,c,a',n',c',rfl,h1,h2,h3,h4⟩;exact⟨a,n,c,a',n',c',rfl,h1.later hb,h2,h3.later hb,h4⟩
 rc _ _ _ _:=by rintro ⟨h1,⟨a,n,c,h2,h3,h4⟩,a',n',c',h5,h6,h7⟩;exact⟨_,cells3 h1 h2 h5,a,n,c,a',n',c',rfl,h3,h4,h6,h7⟩
 cr _ _ _ _ _ h:=by rintro ⟨a,n,c,a',n',c',rfl,h1,h2,h3,h4⟩;exact⟨h 0 _ rfl,⟨a,n,c,h 1 _ rfl,h1,h2⟩,a',n',c',h 2 _ rfl,h3,h4⟩
def blkR:Rec Zk where
 sz:=5
 C w cs x:=∃ a n c,cs=[.int .i64 x.1,.int .i64 x.2.1,.int .i64 x.2.2.1,.int .i64 x.2.2.2.1,.slice a n c]∧TxsAt w a n x.2.2.2.2∧SlOk a n c
 R:=BlkAt
 wide _ _ _:=by rintro ⟨a,n,c,rfl,_⟩;rfl
 one _ _ _:=by rintro ⟨a,n,c,rfl,_⟩ v hv;simp at hv;rcases hv with rfl|rfl|rfl|rfl|rfl <;> rfl
 kept _ _ _ _ hb:=by rintro ⟨a,n,c,rfl,h1,h2⟩;exact⟨a,n,c,rfl,h1.later hb,h2⟩
 rc _ _ _ _:=by rintro ⟨h1,h2,h3,h4,a,n,c,h5,h6,h7⟩;exact⟨_,cells5 h1 h2 h3 h4 h5,a,n,c,rfl,h6,h7⟩
 cr _ _ _ _ _ h:=by rintro ⟨a,n,c,rfl,h1,h2⟩;exact⟨h 0 _ rfl,h 1 _ rfl,h 2 _ rfl,h 3 _ rfl,a,n,c,h 4 _ rfl,h1,h2⟩
def idxI(x:Int):List Int→Nat→Int
 | [],_=>-1
 | a :: r,k=>if x=a then k else idxI x r (k+1)
theorem Zjx(x:Int)(L:List Int)(k:Nat)(h:k<L.length):idxI x (L.drop k) k=if x=L[k] then (k:Int) else idxI x (L.drop (k+1)) (k+1):=by
 rw[List.drop_eq_getElem_cons h];rfl
theorem Zhh(x:Int)(L:List Int)(k:Nat)(h:L.length≤k):idxI x (L.drop k) k = -1:=by
 rw[List.drop_of_length_le h];rfl
def Ud:Zk:=(0,0,0,0,[])
def fnd(x:Int):List Int→List Zk→Zk
 | a :: N,b :: T=>if x=a then b else fnd x N T
 | _,_=>Ud
theorem idxI_fnd(x:Int):∀ (N:List Int) (T:List Zk) (k:Nat),N.length=T.length→(idxI x N k = -1∧x∉N∧fnd x N T=Ud)∨∃ i,∃ h:i<T.length,idxI x N k=(k+i:Nat)∧x∈N∧fnd x N T=T[i]
 | [],_,_,_=>.inl ⟨rfl,by simp,by simp[fnd]⟩
 | a :: N,[],_,h=>by cases h
 | a :: N,b :: T,k,h=>by
  by_cases e:x=a
  ·exact .inr ⟨0,by simp,by simp[idxI,e],by simp[e],by simp[fnd,e]⟩
  ·rcases idxI_fnd x N T (k+1) (by simpa using h) with ⟨h1,h2,h3⟩|⟨i,hi,h1,h2,h3⟩
   ·exact .inl ⟨by simp[idxI,e,h1],by simp[e,h2],by simp[fnd,e,h3]⟩
   ·exact .inr ⟨i+1,by simpa using hi,by simp[idxI,e,h1];omega,by simp[h2],by simp[fnd,e,h3]⟩
theorem idxI_has(x:Int):∀ (N:List Int) (k:Nat),decide (0≤idxI x N k)=decide (x∈N)
 | [],_=>by simp[idxI]
 | a :: N,k=>by
  by_cases e:x=a
  ·simp[idxI,e]
  ·simp[idxI,e,idxI_has x N (k+1)]
def Xi(N:List Int)(T:List Zk)(x:Int)(b:Zk):Int:=
 if (decide (1≤x) && decide (x≤120))=false then 3 else if Xb b≠0 then Xb b else if decide (x∈N)=true then 6
 else if b.1≠0∧decide (b.1∈N)=false then 5 else if b.2.1≠(fnd b.1 N T).2.1+1 then 4 else 0
def Xo(N:List Int)(T:List Zk):List Int→List Zk→Int
 | x :: M,b :: U=>if Xi N T x b≠0 then Xi N T x b else Xo (N++[x]) (T++[b]) M U
 | _,_=>0
def chkTr(N:List Int)(T:List Zk):Int:=if N.length≠T.length then 4 else if 24<N.length then 2 else Xo [] [] N T
theorem Cx(N:List Int)(T:List Zk)(k:Nat)(h:k<N.length)(h':k<T.length):Xo (N.take k) (T.take k) (N.drop k) (T.drop k) =
  if Xi (N.take k) (T.take k) N[k] T[k]≠0 then Xi (N.take k) (T.take k) N[k] T[k] else Xo (N.take (k+1)) (T.take (k+1)) (N.drop (k+1)) (T.drop (k+1)):=by
 rw[List.drop_eq_getElem_cons h,List.drop_eq_getElem_cons h',Xo,List.take_succ_eq_append_getElem h,List.take_succ_eq_append_getElem h']
theorem Dg(N:List Int)(T:List Zk)(k:Nat)(h:N.length≤k):Xo (N.take k) (T.take k) (N.drop k) (T.drop k)=0:=by
 rw[List.drop_of_length_le h];unfold Xo;rfl
def Wd(T:List Zk):Prop:=∀ b∈T,1≤b.2.1∧b.2.1≤1000∧1≤b.2.2.1∧b.2.2.1≤1000
theorem Ro{b:Zk}(h:Xb b=0):1≤b.2.1∧b.2.1≤1000∧1≤b.2.2.1∧b.2.2.1≤1000:=by
 unfold Xb at h
 split at h
 ·cases h
 ·next q=>simp[Xx] at q;omega
theorem Zcf(x:Int):∀ (N:List Int) (T:List Zk),fnd x N T=Ud∨fnd x N T∈T
 | [],_=>.inl (by simp[fnd])
 | _ :: _,[]=>.inl (by simp[fnd])
 | a :: N,b :: T=>by
  by_cases e:x=a
  ·exact .inr (by simp[fnd,e])
  ·rcases Zcf x N T with h|h
   ·exact .inl (by simp[fnd,e,h])
   ·exact .inr (by simp[fnd,e,h])
theorem Qg{T:List Zk}(h:Wd T)(x:Int)(N:List Int):0≤(fnd x N T).2.1∧(fnd x N T).2.1≤1000∧0≤(fnd x N T).2.2.1∧(fnd x N T).2.2.1≤1000:=by
 rcases Zcf x N T with e|e
 ·rw[e];simp[Ud]
 ·have:=h _ e;omega
def upD(N:List Int)(T:List Zk):Nat→Int→List Int
 | 0,_=>[]
 | d+1,x=>upD N T d (fnd x N T).1++[x]
theorem Q0(N:List Int)(T:List Zk):∀ (d:Nat) (x:Int),(upD N T d x).length=d
 | 0,_=>rfl
 | d+1,x=>by simp[upD,Q0 N T d]
def Yt(N:List Int)(T:List Zk)(x:Int):List Int:=upD N T (fnd x N T).2.1.toNat x
def Zev(N:List Int)(T:List Zk)(s:Int):List Int→Int
 | []=>s
 | x :: P=>Zev N T (s+(fnd x N T).2.2.1) P
def pathE(N:List Int)(T:List Zk)(x:Int):List Int×Int:=if chkTr N T≠0 then ([],chkTr N T) else if x≠0∧decide (x∈N)=false then ([],5) else (Yt N T x,0)
theorem indexInt_is(a:Option Addr)(n c:Nat)(L:List Int)(s x:Int)(w:World)(hn:n≤maxLen)(h:IntsAt w a n L)(hx:idxI s L 0=x) :
  Calls Tryz.prog 13 #[.slice a n c,.int .i64 s] w fun e w'=>e = .returned (.int .i64 x)∧w=w':=by
 have HL:=Zb h
 have HZ:=Zb h.1
 have HX:Hid (idxI s (L.drop 0) 0=x):=hx
 unfold maxLen at hn
 clear h hx
 go_enter Tryz.func13,Tryz.ntmps13
 go_wp2
 go_loopw [8] (fun i wr=>∃ j:Nat,j≤n∧i = .int .i64 j∧w=wr∧Hid (idxI s (L.drop j) j=x)) (fun i _=>n - (intOf i).toNat)
 case atStart=>exact⟨0,Nat.zero_le _,rfl,rfl,HX⟩
 case round=>
  obtain⟨j,hk,rfl,rfl,A⟩:=hrel
  clear HX
  by_cases hlt:j<n
  ·have h1:j<L.length:=by rw[Za HZ];exact hlt
   obtain⟨b,off,rfl,hbl,hc⟩:=(Za HL).2 (by omega)
   have f1:=hc j h1
   have ST:=Zb (Zjx s L j h1)
   obtain⟨t,ht⟩:∃ t,L[j]=t:=⟨_,rfl⟩
   rw[ht] at f1 ST
   clear ht hc
   by_cases e:s=t
   ·subst e
    have R:Hid ((j:Int)=x):=by show _=_;rw[←Za A,Za ST,if_pos rfl]
    clear A ST
    go_wp2
    go_ret
    exact⟨by rw[Za R];rfl,rfl⟩
   ·have R:Hid (idxI s (L.drop (j+1)) (j+1)=x):=by show _=_;rw[←Za A,Za ST,if_neg e]
    have g:(s == t)=false:=by simp[e]
    clear A ST e
    go_wp2
    go_roundw
    case rel=>exact⟨j+1,by omega,by go_num,(by trivial),R⟩
    case measure=>simp[intOf];omega
  ·have R:Hid (x = -1):=by show _=_;rw[←Za A,Zhh s L j (by rw[Za HZ];omega)]
   clear A
   go_wp2
   go_ret
   exact⟨by rw[Za R];rfl,rfl⟩
theorem containsInt_is(a:Option Addr)(n c:Nat)(L:List Int)(s:Int)(o:Bool)(w:World)(hn:n≤maxLen)(h:IntsAt w a n L)(ho:decide (s∈L)=o) :
  Calls Tryz.prog 12 #[.slice a n c,.int .i64 s] w fun e w'=>e = .returned (.bool o)∧w=w':=by
 obtain⟨x,hx⟩:∃ x,idxI s L 0=x:=⟨_,rfl⟩
 have C:=Zb (indexInt_is a n c L s x w hn h hx)
 have HO:Hid (decide (0≤x)=o):=by show _=_;rw[←hx,idxI_has,ho]
 clear hn h ho hx
 go_enter Tryz.func12,Tryz.ntmps12
 go_wp2_with fail
 refine (Za C).mono ?_
 rintro e w1 ⟨rfl,rfl⟩
 go_wp2
 go_ret
 exact⟨by rw[←Za HO];rfl,rfl⟩
theorem Fh(a b:Option Addr)(n c m d:Nat)(L:List Int)(s:Int)(o:Bool)(w:World)(hn:n≤maxLen)(h:IntsAt w a n L)(ho:decide (s∈L)=o) :
  Calls Tryz.prog 76 #[.agg #[.slice a n c,.slice b m d],.int .i64 s] w fun e w'=>e = .returned (.bool o)∧Below w.heap.size w w':=by
 have hb:=Zg w (.cells #[.slice a n c,.slice b m d] 28)
 have C:=Zb (containsInt_is a n c L s o _ hn (h.later hb) ho)
 have HB:=Zb hb
 clear h ho hb
 go_enter Tryz.func76,Tryz.ntmps76
 go_wp2_with fail
 refine (Za C).mono ?_
 rintro e w1 ⟨rfl,rfl⟩
 go_wp2
 go_ret
 exact⟨rfl,Za HB⟩
def Zik(x:Zk)(a:Option Addr)(n c:Nat):Value:=.agg #[.int .i64 x.1,.int .i64 x.2.1,.int .i64 x.2.2.1,.int .i64 x.2.2.2.1,.slice a n c]
theorem Fj(a b:Option Addr)(n c d:Nat)(N:List Int)(T:List Zk)(s:Int)(x:Zk)(w:World)(hn:n≤maxLen)(h:IntsAt w a n N)(hT:BlksAt w b n T)(hx:fnd s N T=x) :
  Calls Tryz.prog 119 #[.agg #[.slice a n c,.slice b n d],.int .i64 s] w fun e w'=>∃ ta tn tc,e = .returned (Zik x ta tn tc)∧TxsAt w ta tn x.2.2.2.2∧SlOk ta tn tc∧Below w.heap.size w w':=by
 unfold Zik
 obtain⟨X,hX⟩:∃ X,X=(w.alloc (.cells #[.slice a n c,.slice b n d] 28)).alloc (.cells #[.int .i64 0,.int .i64 0,.int .i64 0,.int .i64 0,.slice none 0 0] 68):=⟨_,rfl⟩
 have hbX:Below w.heap.size w X:=by rw[hX];exact Ze (Zg _ _) (Zg _ _)
 have x0:X.cell? ⟨w.heap.size,0,none⟩=some (.slice a n c):=by rw[hX];exact Zc (Zg _ _) (Yg w _ _ _).1
 have x1:X.cell? ⟨w.heap.size,1,none⟩=some (.slice b n d):=by rw[hX];exact Zc (Zg _ _) (Yg w _ _ _).2
 have hX1:X.heap[w.heap.size+1]? = some (.cells [.int .i64 0,.int .i64 0,.int .i64 0,.int .i64 0,.slice none 0 0].toArray 68 (0,0)):=by
  rw[hX]
  have:=Yd (w.alloc (.cells #[.slice a n c,.slice b n d] 28)) (.int .i64 0) (.int .i64 0) (.int .i64 0) (.int .i64 0) (.slice none 0 0) 68
  rw[show (w.alloc (.cells #[.slice a n c,.slice b n d] 28)).heap.size=w.heap.size+1 by simp] at this
  exact this
 have z0:=Zd hX1 0 _ rfl
 have z1:=Zd hX1 1 _ rfl
 have z2:=Zd hX1 2 _ rfl
 have z3:=Zd hX1 3 _ rfl
 have z4:=Zd hX1 4 _ rfl
 have y0:=Zi hX1 0
 have y1:=Zi hX1 1
 have y2:=Zi hX1 2
 have y3:=Zi hX1 3
 have y4:=Zi hX1 4
 have xl:=lt_of_block hX1
 obtain⟨k,hk⟩:∃ k,idxI s N 0=k:=⟨_,rfl⟩
 have C:=Zb (indexInt_is a n c N s k X hn (h.later hbX) hk)
 have HBX:=Zb hbX
 have HT:=Zb hT
 rcases idxI_fnd s N T 0 (by rw[h.1,hT.1]) with ⟨h1,_,h3⟩|⟨i,hi,h1,_,h3⟩
 ·rw[hx] at h3
  obtain rfl:k = -1:=by rw[←hk,h1]
  subst h3
  clear h hT hx hX1 hbX hk h1
  unfold Ud
  simp only
  go_enter Tryz.func119,Tryz.ntmps119
  go_wp2_with fail
  rw[←hX]
  clear hX
  refine (Za C).mono ?_
  rintro e w1 ⟨rfl,rfl⟩
  go_wp2
  (try simp only[Exit.inBlock,Exit.then])
  refine bodyPost_ret (v:=.agg #[.int .i64 0,.int .i64 0,.int .i64 0,.int .i64 0,.slice none 0 0]) ?_ rfl ⟨none,0,0,rfl,RowsAt.nil _ _,⟨Nat.le_refl _,Nat.zero_le _,fun _=>⟨rfl,rfl⟩⟩,?_⟩
  ·rw[Ys rfl]
   go_simp
  ·exact (((((Gr.refl X (fun q=>q=w.heap.size+1)).one (w.heap.size+1) 0 (.inl rfl) _).one (w.heap.size+1) 1 (.inl rfl) _).one (w.heap.size+1) 2 (.inl rfl) _).one (w.heap.size+1) 3 (.inl rfl) _).one (w.heap.size+1) 4 (.inl rfl) _ |>.below (Za HBX) (by omega) (fun k hk=>by omega)
 ·rw[hx] at h3
  obtain rfl:k=(i:Int):=by rw[←hk,h1];simp
  have hin:i<n:=by rw[←hT.1];exact hi
  obtain⟨bb,off,rfl,hbl,hcell⟩:=hT.2 (by omega)
  have hat:=hcell i hi
  rw[←h3] at hat
  obtain⟨g0,g1,g2,g3,ta,tn,tc,g4,ht,hs⟩:=hat
  have HTX:=Zb ht
  have HSX:=Zb hs
  have k0:=Zc hbX g0
  have k1:=Zc hbX g1
  have k2:=Zc hbX g2
  have k3:=Zc hbX g3
  have k4:=Zc hbX g4
  have bl:=Nat.lt_of_lt_of_le hbl hbX.size
  clear h hT hx hX1 hbX hk h1 hcell ht hs g0 g1 g2 g3 g4 h3
  go_enter Tryz.func119,Tryz.ntmps119
  go_wp2_with fail
  rw[←hX]
  clear hX
  refine (Za C).mono ?_
  rintro e w1 ⟨rfl,rfl⟩
  go_wp2
  (try simp only[Exit.inBlock,Exit.then])
  refine bodyPost_ret (v:=.agg #[.int .i64 x.1,.int .i64 x.2.1,.int .i64 x.2.2.1,.int .i64 x.2.2.2.1,.slice ta tn tc]) ?_ rfl ⟨ta,tn,tc,rfl,Za HTX,Za HSX,?_⟩
  ·rw[Ys rfl]
   go_simp
  ·exact (((((Gr.refl X (fun q=>q=w.heap.size+1)).one (w.heap.size+1) 0 (.inl rfl) _).one (w.heap.size+1) 1 (.inl rfl) _).one (w.heap.size+1) 2 (.inl rfl) _).one (w.heap.size+1) 3 (.inl rfl) _).one (w.heap.size+1) 4 (.inl rfl) _ |>.below (Za HBX) (by omega) (fun k hk=>by omega)
theorem N6(p h k n v:Value)(w:World) :
  (Instr.field 68 (.agg #[p,h,k,n,v]) 0).run Tryz.prog w = .ok p w∧(Instr.field 68 (.agg #[p,h,k,n,v]) 1).run Tryz.prog w = .ok h w∧(Instr.field 68 (.agg #[p,h,k,n,v]) 2).run Tryz.prog w = .ok k w:=by
 refine⟨?_,?_,?_⟩ <;> kernel_rfl
theorem Gq(a b:Option Addr)(n c d:Nat)(N:List Int)(T:List Zk)(s z:Int)(w:World)(hn:n≤maxLen)(h:IntsAt w a n N)(hT:BlksAt w b n T)(hz:(fnd s N T).2.1=z) :
  Calls Tryz.prog 124 #[.agg #[.slice a n c,.slice b n d],.int .i64 s] w fun e w'=>e = .returned (.int .i64 z)∧Below w.heap.size w w':=by
 have hb:=Zg w (.cells #[.slice a n c,.slice b n d] 28)
 have C:=Fj a b n c d N T s _ _ hn (h.later hb) (hT.later hb) rfl
 unfold Zik at C
 rw[hz] at C
 have C:=Zb C
 have HB:=Zb hb
 clear h hT hz hb
 go_enter Tryz.func124,Tryz.ntmps124
 go_wp2_with fail
 refine (Za C).mono ?_
 rintro e w1 ⟨ta,tn,tc,rfl,_,_,hb1⟩
 have HB1:=Zb (Ze (Za HB) hb1)
 have hf:=(N6 (.int .i64 (fnd s N T).1) (.int .i64 z) (.int .i64 (fnd s N T).2.2.1) (.int .i64 (fnd s N T).2.2.2.1) (.slice ta tn tc) w1).2.1
 clear hb1
 go_wp2
 go_ret
 exact⟨rfl,Za HB1⟩
structure Up(B g H:Nat)(N:List Int)(T:List Zk)(s:Int)(wr:World)(k:Nat)(y:Int):Prop where
 ex:∃ xs:List Value,wr.ownsRow B 3 1 (.slice (some ⟨g,0,none⟩) H H) H xs∧(upD N T H s).map (Value.int .i64)=(upD N T (H - k) y).map (Value.int .i64)++xs.drop (H - k)
theorem Up.old{B g H:Nat}{N:List Int}{T:List Zk}{s:Int}{wr:World}{k:Nat}{y:Int}(h:Up B g H N T s wr k y){r:Nat}(hr:r<H):(∃ v,wr.cell? ⟨g,r,none⟩=some v)∧wr.frozen? ⟨g,r,none⟩=false∧B≤g∧g<wr.heap.size:=by
 obtain⟨xs,ho,_⟩:=h.ex
 have hl:xs.length=H:=by simpa using ho.1
 exact⟨⟨xs[r]'(by omega),by rw[ho.cellAt r (by omega)];simp[hl,hr]⟩,ho.frozenAt r,(ho.lt g rfl).1,(ho.lt g rfl).2⟩
theorem Up.step{B g H:Nat}{N:List Int}{T:List Zk}{s:Int}{wr:World}{k:Nat}{y:Int}(h:Up B g H N T s wr k y)(hk:k<H){r:Nat}(hr:r=H - 1 - k):Up B g H N T s (wr.setCell ⟨g,r,none⟩ (.int .i64 y)) (k+1) (fnd y N T).1:=by
 obtain⟨xs,ho,hx⟩:=h.ex
 have hl:xs.length=H:=by simpa using ho.1
 refine⟨xs.set r (.int .i64 y),(ho.stored r _).1,?_⟩
 rw[hx,show H - k=(H - (k+1))+1 by omega,upD,List.map_append,List.append_assoc]
 congr 1
 have e:r=H - (k+1):=by omega
 rw[←e]
 rw[List.drop_eq_getElem_cons (l:=xs.set r (.int .i64 y)) (i:=r) (by rw[List.length_set];omega),List.drop_set_of_lt (by omega)]
 simp
theorem Up.keep{B g H:Nat}{N:List Int}{T:List Zk}{s:Int}{wr w':World}{k:Nat}{y:Int}(h:Up B g H N T s wr k y)(hb:Below wr.heap.size wr w'):Up B g H N T s w' k y:=by
 obtain⟨xs,ho,hx⟩:=h.ex
 exact⟨xs,(Gr.of (S:=fun _=>False) hb).own ho (fun _ _ q=>q),hx⟩
theorem Zdo(a b:Option Addr)(n c d:Nat)(N:List Int)(T:List Zk)(s:Int)(w:World)(hn:n≤maxLen)(hN:IntsAt w a n N)(hT:BlksAt w b n T)(hH:Wd T) :
  Calls Tryz.prog 77 #[.agg #[.slice a n c,.slice b n d],.int .i64 s] w fun e w'=>∃ v,e = .returned v∧w'.ownsRow w.heap.size 3 1 v (Yt N T s).length ((Yt N T s).map (Value.int .i64))∧Below w.heap.size w w':=by
 obtain⟨i0,hi,hz0,hz1,hz2⟩:=info_parts Tryz.infoInt
 obtain⟨X,hX⟩:∃ X,X=w.alloc (.cells #[.slice a n c,.slice b n d] 28):=⟨_,rfl⟩
 have hbX:Below w.heap.size w X:=by rw[hX];exact Zg _ _
 have hX0:X.heap[w.heap.size]? = some (.cells [.slice a n c,.slice b n d].toArray 28 (0,0)):=by rw[hX];exact two_heap _ _ _ _
 obtain⟨H,hh⟩:∃ H:Nat,(fnd s N T).2.1=(H:Int):=⟨_,(Int.toNat_of_nonneg (Qg hH s N).1).symm⟩
 have hH1:H≤1000:=by have:=(Qg hH s N).2.1;omega
 have HP:Hid (Yt N T s=upD N T H s):=by show _=_;unfold Yt;rw[hh];rfl
 have C:=Zb (Gq a b n c d N T s H X hn (hN.later hbX) (hT.later hbX) hh)
 have HB:=Zb hbX
 have HX0:=Zb hX0
 have HN:=Zb hN
 have HT:=Zb hT
 have CF:=Zb (fun y W (hb:Below w.heap.size w W)=>Fj a b n c d N T y _ W hn (hN.later hb) (hT.later hb) rfl)
 have hXs:w.heap.size+1≤X.heap.size:=lt_of_block hX0
 clear hbX hX0 hN hT hH hh
 go_enter Tryz.func77,Tryz.ntmps77
 go_wp2_with fail
 rw[←hX]
 clear hX
 refine (Za C).mono ?_
 rintro e w1 ⟨rfl,hb1⟩
 have hw1s:w.heap.size+1≤w1.heap.size:=Nat.le_trans hXs hb1.size
 have HBW:=Zb (Ze (Za HB) hb1)
 have C1:=Zb ((hb1.block _ (lt_of_block (Za HX0))).trans (Za HX0))
 clear hb1
 go_wp2_with (at_make;refine wpList_make_full _ rfl _ _ 25 rfl (w.heap.size+1) 3 i0 (.int .i64 0) 1 Tryz.underlying25 hi hz0 hz1 .i64 .i64 _ _ H rfl rfl rfl rfl (by rw[hz2];omega) (by unfold maxLen;omega) hw1s ?_;intro w3 hown3 hgrow3)
 have hb3:Below w1.heap.size w1 w3:=(Below.refl _ _).grown hgrow3 (Nat.le_refl _) (fun k h=>by cases h)
 have HU:Hid (Up (w.heap.size+1) w1.heap.size H N T s w3 0 s):=⟨_,hown3,by
  rw[Nat.sub_zero,List.drop_of_length_le (by rw[hown3.1];omega),List.append_nil]⟩
 have C3:=Zb ((hb3.block _ (lt_of_block (Za C1))).trans (Za C1))
 have HB3:=Zb (Ze (Za HBW) hb3)
 obtain⟨g,hg⟩:∃ g,w1.heap.size=g:=⟨_,rfl⟩
 rw[hg] at HU ⊢
 clear hb3 hown3 hgrow3 C1 HBW hg hw1s
 go_loopw [1,14] (fun nm i wr=>∃ (k:Nat) (y:Int),k≤H∧nm = .int .i64 y∧i = .int .i64 k∧Hid (Up (w.heap.size+1) g H N T s wr k y)∧Hid (Below w.heap.size w wr)∧Hid (wr.heap[w.heap.size]? = some (.cells [.slice a n c,.slice b n d].toArray 28 (0,0)))) (fun _ i _=>H - (intOf i).toNat)
 case atStart=>exact⟨0,s,Nat.zero_le _,rfl,rfl,HU,HB3,C3⟩
 case round=>
  obtain⟨k,y,hk,rfl,rfl,HUr,HBr,HCr⟩:=hrel
  clear HU HB3 C3
  by_cases hlt:k<H
  ·obtain⟨r,hr⟩:∃ r,r=H - 1 - k:=⟨_,rfl⟩
   have hrl:r<H:=by omega
   obtain⟨⟨v0,hv0⟩,hfz,hgB,hgl⟩:=(Za HUr).old hrl
   have hwA:IntKind.i64.wrap ((H:Int) - 1)=(H:Int) - 1:=by rw[IntKind.wrap_i64];omega
   have hwB:IntKind.i64.wrap ((H:Int) - 1 - (k:Int))=(r:Int):=by rw[IntKind.wrap_i64];omega
   have hrI:(r:Int)<(H:Int):=by omega
   have ST:=Zb ((Za HUr).step hlt hr)
   have hG:Gr wr (wr.setCell ⟨g,r,none⟩ (.int .i64 y)) (fun q=>q=g):=(Gr.refl wr (fun q=>q=g)).one g r (.inl rfl) _
   have HB4:=Zb (hG.below (Za HBr) (by omega) (fun q hq=>by omega))
   have hc4:=hG.heap (Za HCr) (by omega)
   have HC4:=Zb hc4
   have CC:=Zb ((Za CF) y _ (Za HB4))
   have t0:=Zd hc4 0 _ rfl
   have t1:=Zd hc4 1 _ rfl
   have tl:=lt_of_block hc4
   have hkI:(k:Int)<(H:Int):=by omega
   clear hG hr hc4
   go_wp2_with fail
   refine (Za CC).mono ?_
   rintro e w5 ⟨ta,tn,tc,rfl,_,_,hb5⟩
   unfold Zik
   have hf:=(N6 (.int .i64 (fnd y N T).1) (.int .i64 (fnd y N T).2.1) (.int .i64 (fnd y N T).2.2.1) (.int .i64 (fnd y N T).2.2.2.1) (.slice ta tn tc) w5).1
   have R1:=Zb ((Za ST).keep hb5)
   have R2:=Zb (Ze (Za HB4) hb5)
   have R3:=Zb ((hb5.block _ (lt_of_block (Za HC4))).trans (Za HC4))
   clear hb5 CC ST
   go_wp2
   go_roundw
   case rel=>exact⟨k+1,_,by omega,rfl,by go_num,R1,R2,R3⟩
   case measure=>simp[intOf];omega
  ·have e:k=H:=by omega
   subst e
   have R:Hid (wr.ownsRow w.heap.size 3 1 (.slice (some ⟨g,0,none⟩) k k) (Yt N T s).length ((Yt N T s).map (Value.int .i64))):=by
    show World.ownsRow _ _ _ _ _ _ _
    rw[Za HP]
    obtain⟨xs,ho,hx⟩:=(Za HUr).ex
    rw[Nat.sub_self,List.drop_zero,upD,List.map_nil,List.nil_append] at hx
    rw[hx,Q0]
    exact Xv ho (by omega)
   clear HUr
   go_wp2
   go_ret
   exact⟨_,rfl,Za R,Za HBr⟩
end Go.Proofs.YtpikejjiignchaaGreatDoor.Tr
