/- Trees as plain data and in memory; what is wrong with one, paths, work, the best one, forks. -/
import Derived.Test.YtmomfkikogbdeaaGreatDoorCoinTakeToBlkHead
import Derived.Test.YtmomfkikogbdeaaGreatDoorTxStateToTrBase
set_option maxHeartbeats 1600000
set_option maxRecDepth 10000
namespace Go.Proofs.YtmomfkikogbdeaaGreatDoor.Tr
open Go.RowKit
def IntsAt(w:World)(a:Option Addr)(len:Nat)(Z:List Int):Prop:=
 Z.length=len∧(0<len→∃ b off,a=some ⟨b,off,none⟩∧b<w.heap.size∧∀ i (h:i<Z.length),w.cell? ⟨b,off+i,none⟩=some (.int .i64 Z[i]))
theorem IntsAt.later{w w':World}{a:Option Addr}{len:Nat}{Z:List Int}(h:IntsAt w a len Z)(hb:Below w.heap.size w w'):IntsAt w' a len Z:=by
 refine⟨h.1,fun h0=>?_⟩
 obtain⟨b,off,e,hl,hc⟩:=h.2 h0
 exact⟨b,off,e,Nat.lt_of_lt_of_le hl hb.size,fun i hi=>cell_later hb (hc i hi)⟩
theorem IntsAt.nil(w:World)(a:Option Addr):IntsAt w a 0 []:=⟨rfl,fun h=>absurd h (by omega)⟩
theorem IntsAt.take{w:World}{a:Option Addr}{len:Nat}{l:List Int}(h:IntsAt w a len l)(k:Nat)(hk:k≤len):IntsAt w a k (l.take k):=by
 have hl:=h.1
 refine⟨by rw[List.length_take];omega,fun h0=>?_⟩
 obtain⟨b,off,e,hb,hc⟩:=h.2 (by omega)
 refine⟨b,off,e,hb,fun i hi=>?_⟩
 rw[List.length_take] at hi
 rw[List.getElem_take]
 exact hc i (by omega)
theorem Ud{w:World}{base:Nat}{v:Value}{n:Nat}{N:List Int}(h:w.ownsRow base 3 1 v n (N.map (Value.int .i64))):∃ a cap,v = .slice a n cap∧SlOk a n cap∧IntsAt w a n N:=by
 have hl:N.length=n:=by simpa using h.1
 rcases h.2 with ⟨rfl,rfl⟩|⟨g,cap,cur,rfl,hg,hh,h1,h2,h3,h4⟩
 ·exact⟨none,0,rfl,⟨Nat.le_refl _,Nat.zero_le _,fun _=>⟨rfl,rfl⟩⟩,hl,fun h=>absurd h (by omega)⟩
 ·refine⟨_,cap,rfl,⟨h1,h2,fun e=>by cases e⟩,hl,fun _=>⟨g,0,rfl,lt_of_block hh,fun i hi=>?_⟩⟩
  rw[Nat.zero_add,World.ownsRow.cellAt h _ (by omega)]
  simp[hi]
def BlkAt(w:World)(b o:Nat)(x:Zg):Prop:=
 w.cell? ⟨b,o,none⟩=some (.int .i64 x.1)∧w.cell? ⟨b,o+1,none⟩=some (.int .i64 x.2.1)∧w.cell? ⟨b,o+2,none⟩=some (.int .i64 x.2.2.1)∧w.cell? ⟨b,o+3,none⟩=some (.int .i64 x.2.2.2.1) ∧
 ∃ a n c,w.cell? ⟨b,o+4,none⟩=some (.slice a n c)∧TxsAt w a n x.2.2.2.2∧SlOk a n c
theorem BlkAt.kept:Ga BlkAt:=fun _ _ _ _ _ hb h=>by
 obtain⟨h1,h2,h3,h4,a,n,c,h5,h6,h7⟩:=h
 exact⟨cell_later hb h1,cell_later hb h2,cell_later hb h3,cell_later hb h4,a,n,c,cell_later hb h5,h6.later hb,h7⟩
def BlksAt(w:World)(a:Option Addr)(len:Nat)(l:List Zg):Prop:=RowsAt BlkAt 5 w a len l
theorem BlksAt.later{w w':World}{a:Option Addr}{len:Nat}{l:List Zg}(h:BlksAt w a len l)(hb:Below w.heap.size w w'):BlksAt w' a len l:=RowsAt.later BlkAt.kept h hb
theorem cells3{w:World}{b o:Nat}{x y z:Value}(h0:w.cell? ⟨b,o,none⟩=some x)(h1:w.cell? ⟨b,o+1,none⟩=some y)(h2:w.cell? ⟨b,o+2,none⟩=some z):Vw w b o [x,y,z]:=by
 intro j u hj
 match j,hj with
 | 0,hj=>cases hj;exact h0
 | 1,hj=>cases hj;exact h1
 | 2,hj=>cases hj;exact h2
 | j+3,hj=>simp at hj
theorem Zcn{w:World}{b o:Nat}{x y:Value}(h0:w.cell? ⟨b,o,none⟩=some x)(h1:w.cell? ⟨b,o+1,none⟩=some y):Vw w b o [x,y]:=by
 intro j u hj
 match j,hj with
 | 0,hj=>cases hj;exact h0
 | 1,hj=>cases hj;exact h1
 | j+2,hj=>simp at hj
theorem Zcm{w:World}{b o:Nat}{x y z r s:Value}(h0:w.cell? ⟨b,o,none⟩=some x)(h1:w.cell? ⟨b,o+1,none⟩=some y)(h2:w.cell? ⟨b,o+2,none⟩=some z)(h3:w.cell? ⟨b,o+3,none⟩=some r)(h4:w.cell? ⟨b,o+4,none⟩=some s):Vw w b o [x,y,z,r,s]:=by
 intro j u hj
 match j,hj with
 | 0,hj=>cases hj;exact h0
 | 1,hj=>cases hj;exact h1
 | 2,hj=>cases hj;exact h2
 | 3,hj=>cases hj;exact h3
 | 4,hj=>cases hj;exact h4
 | j+5,hj=>simp at hj
def inR:Rec InD where
 sz:=3
 C w cs x:=∃ a n c,cs=[.int .i64 x.1,.int .i64 x.2.1,.slice a n c]∧OpsAt w a n x.2.2∧SlOk a n c
 R:=InAt
 wide _ _ _:=by rintro ⟨a,n,c,rfl,_⟩;rfl
 one _ _ _:=by rintro ⟨a,n,c,rfl,_⟩ v hv;simp at hv;rcases hv with rfl|rfl|rfl <;> rfl
 kept _ _ _ _ hb:=by rintro ⟨a,n,c,rfl,h1,h2⟩;exact⟨a,n,c,rfl,h1.later hb,h2⟩
 rc _ _ _ _:=by rintro ⟨h1,h2,a,n,c,h3,h4,h5⟩;exact⟨_,cells3 h1 h2 h3,a,n,c,rfl,h4,h5⟩
 cr _ _ _ _ _ h:=by rintro ⟨a,n,c,rfl,h1,h2⟩;exact⟨h 0 _ rfl,h 1 _ rfl,a,n,c,h 2 _ rfl,h1,h2⟩
def outR:Rec Zw where
 sz:=2
 C w cs x:=∃ a n c,cs=[.int .i64 x.1,.slice a n c]∧OpsAt w a n x.2∧SlOk a n c
 R:=OutAt
 wide _ _ _:=by rintro ⟨a,n,c,rfl,_⟩;rfl
 one _ _ _:=by rintro ⟨a,n,c,rfl,_⟩ v hv;simp at hv;rcases hv with rfl|rfl <;> rfl
 kept _ _ _ _ hb:=by rintro ⟨a,n,c,rfl,h1,h2⟩;exact⟨a,n,c,rfl,h1.later hb,h2⟩
 rc _ _ _ _:=by rintro ⟨h1,a,n,c,h3,h4,h5⟩;exact⟨_,Zcn h1 h3,a,n,c,rfl,h4,h5⟩
 cr _ _ _ _ _ h:=by rintro ⟨a,n,c,rfl,h1,h2⟩;exact⟨h 0 _ rfl,a,n,c,h 1 _ rfl,h1,h2⟩
def txR:Rec TxD where
 sz:=3
 C w cs x:=∃ a n c a' n' c',cs=[.int .i64 x.1,.slice a n c,.slice a' n' c']∧InsAt w a n x.2.1∧SlOk a n c∧OutsAt w a' n' x.2.2∧SlOk a' n' c'
 R:=TxAt
 wide _ _ _:=by rintro ⟨a,n,c,a',n',c',rfl,_⟩;rfl
 one _ _ _:=by rintro ⟨a,n,c,a',n',c',rfl,_⟩ v hv;simp at hv;rcases hv with rfl|rfl|rfl <;> rfl
 kept _ _ _ _ hb:=by rintro ⟨a,n,c,a',n',c',rfl,h1,h2,h3,h4⟩;exact⟨a,n,c,a',n',c',rfl,h1.later hb,h2,h3.later hb,h4⟩
 rc _ _ _ _:=by rintro ⟨h1,⟨a,n,c,h2,h3,h4⟩,a',n',c',h5,h6,h7⟩;exact⟨_,cells3 h1 h2 h5,a,n,c,a',n',c',rfl,h3,h4,h6,h7⟩
 cr _ _ _ _ _ h:=by rintro ⟨a,n,c,a',n',c',rfl,h1,h2,h3,h4⟩;exact⟨h 0 _ rfl,⟨a,n,c,h 1 _ rfl,h1,h2⟩,a',n',c',h 2 _ rfl,h3,h4⟩
def blkR:Rec Zg where
 sz:=5
 C w cs x:=∃ a n c,cs=[.int .i64 x.1,.int .i64 x.2.1,.int .i64 x.2.2.1,.int .i64 x.2.2.2.1,.slice a n c]∧TxsAt w a n x.2.2.2.2∧SlOk a n c
 R:=BlkAt
 wide _ _ _:=by rintro ⟨a,n,c,rfl,_⟩;rfl
 one _ _ _:=by rintro ⟨a,n,c,rfl,_⟩ v hv;simp at hv;rcases hv with rfl|rfl|rfl|rfl|rfl <;> rfl
 kept _ _ _ _ hb:=by rintro ⟨a,n,c,rfl,h1,h2⟩;exact⟨a,n,c,rfl,h1.later hb,h2⟩
 rc _ _ _ _:=by rintro ⟨h1,h2,h3,h4,a,n,c,h5,h6,h7⟩;exact⟨_,Zcm h1 h2 h3 h4 h5,a,n,c,rfl,h6,h7⟩
 cr _ _ _ _ _ h:=by rintro ⟨a,n,c,rfl,h1,h2⟩;exact⟨h 0 _ rfl,h 1 _ rfl,h 2 _ rfl,h 3 _ rfl,a,n,c,h 4 _ rfl,h1,h2⟩
def Vr(x:Int):List Int→Nat→Int
 | [],_=>-1
 | a :: r,k=>if x=a then k else Vr x r (k+1)
theorem Zac(x:Int)(L:List Int)(k:Nat)(h:k<L.length):Vr x (L.drop k) k=if x=L[k] then (k:Int) else Vr x (L.drop (k+1)) (k+1):=by
 rw[List.drop_eq_getElem_cons h];rfl
theorem Bm(x:Int)(L:List Int)(k:Nat)(h:L.length≤k):Vr x (L.drop k) k = -1:=by
 rw[List.drop_of_length_le h];rfl
def zeroB:Zg:=(0,0,0,0,[])
def fnd(x:Int):List Int→List Zg→Zg
 | a :: N,b :: T=>if x=a then b else fnd x N T
 | _,_=>zeroB
theorem Q0(x:Int):∀ (N:List Int) (T:List Zg) (k:Nat),N.length=T.length→(Vr x N k = -1∧x∉N∧fnd x N T=zeroB)∨∃ i,∃ h:i<T.length,Vr x N k=(k+i:Nat)∧x∈N∧fnd x N T=T[i]
 | [],_,_,_=>.inl ⟨rfl,by simp,by simp[fnd]⟩
 | a :: N,[],_,h=>by cases h
 | a :: N,b :: T,k,h=>by
  by_cases e:x=a
  ·exact .inr ⟨0,by simp,by simp[Vr,e],by simp[e],by simp[fnd,e]⟩
  ·rcases Q0 x N T (k+1) (by simpa using h) with ⟨h1,h2,h3⟩|⟨i,hi,h1,h2,h3⟩
   ·exact .inl ⟨by simp[Vr,e,h1],by simp[e,h2],by simp[fnd,e,h3]⟩
   ·exact .inr ⟨i+1,by simpa using hi,by simp[Vr,e,h1];omega,by simp[h2],by simp[fnd,e,h3]⟩
theorem K5(x:Int):∀ (N:List Int) (k:Nat),decide (0≤Vr x N k)=decide (x∈N)
 | [],_=>by simp[Vr]
 | a :: N,k=>by
  by_cases e:x=a
  ·simp[Vr,e]
  ·simp[Vr,e,K5 x N (k+1)]
def Xq(N:List Int)(T:List Zg)(x:Int)(b:Zg):Int:=
 if (decide (1≤x) && decide (x≤120))=false then 3 else if Yg b≠0 then Yg b else if decide (x∈N)=true then 6
 else if b.1≠0∧decide (b.1∈N)=false then 5 else if b.2.1≠(fnd b.1 N T).2.1+1 then 4 else 0
def Yt(N:List Int)(T:List Zg):List Int→List Zg→Int
 | x :: M,b :: U=>if Xq N T x b≠0 then Xq N T x b else Yt (N++[x]) (T++[b]) M U
 | _,_=>0
def chkTr(N:List Int)(T:List Zg):Int:=if N.length≠T.length then 4 else if 24<N.length then 2 else Yt [] [] N T
theorem Ch(N:List Int)(T:List Zg)(k:Nat)(h:k<N.length)(h':k<T.length):Yt (N.take k) (T.take k) (N.drop k) (T.drop k) =
  if Xq (N.take k) (T.take k) N[k] T[k]≠0 then Xq (N.take k) (T.take k) N[k] T[k] else Yt (N.take (k+1)) (T.take (k+1)) (N.drop (k+1)) (T.drop (k+1)):=by
 rw[List.drop_eq_getElem_cons h,List.drop_eq_getElem_cons h',Yt,List.take_succ_eq_append_getElem h,List.take_succ_eq_append_getElem h']
theorem Fy(N:List Int)(T:List Zg)(k:Nat)(h:N.length≤k):Yt (N.take k) (T.take k) (N.drop k) (T.drop k)=0:=by
 rw[List.drop_of_length_le h];unfold Yt;rfl
def Y3(T:List Zg):Prop:=∀ b∈T,1≤b.2.1∧b.2.1≤1000∧1≤b.2.2.1∧b.2.2.1≤1000
theorem Jz{b:Zg}(h:Yg b=0):1≤b.2.1∧b.2.1≤1000∧1≤b.2.2.1∧b.2.2.1≤1000:=by
 unfold Yg at h
 split at h
 ·cases h
 ·next q=>simp[Xy] at q;omega
theorem N5(x:Int):∀ (N:List Int) (T:List Zg),fnd x N T=zeroB∨fnd x N T∈T
 | [],_=>.inl (by simp[fnd])
 | _ :: _,[]=>.inl (by simp[fnd])
 | a :: N,b :: T=>by
  by_cases e:x=a
  ·exact .inr (by simp[fnd,e])
  ·rcases N5 x N T with h|h
   ·exact .inl (by simp[fnd,e,h])
   ·exact .inr (by simp[fnd,e,h])
theorem Jw{T:List Zg}(h:Y3 T)(x:Int)(N:List Int):0≤(fnd x N T).2.1∧(fnd x N T).2.1≤1000∧0≤(fnd x N T).2.2.1∧(fnd x N T).2.2.1≤1000:=by
 rcases N5 x N T with e|e
 ·rw[e];simp[zeroB]
 ·have:=h _ e;omega
def upD(N:List Int)(T:List Zg):Nat→Int→List Int
 | 0,_=>[]
 | d+1,x=>upD N T d (fnd x N T).1++[x]
theorem Gb(N:List Int)(T:List Zg):∀ (d:Nat) (x:Int),(upD N T d x).length=d
 | 0,_=>rfl
 | d+1,x=>by simp[upD,Gb N T d]
def Jn(N:List Int)(T:List Zg)(x:Int):List Int:=upD N T (fnd x N T).2.1.toNat x
def U6(N:List Int)(T:List Zg)(s:Int):List Int→Int
 | []=>s
 | x :: P=>U6 N T (s+(fnd x N T).2.2.1) P
theorem Cz(N:List Int)(T:List Zg)(s:Int)(P:List Int)(k:Nat)(h:k<P.length):U6 N T s (P.drop k)=U6 N T (s+(fnd P[k] N T).2.2.1) (P.drop (k+1)):=by
 rw[List.drop_eq_getElem_cons h];rfl
theorem F9(N:List Int)(T:List Zg)(s:Int)(P:List Int)(k:Nat)(h:P.length≤k):U6 N T s (P.drop k)=s:=by
 rw[List.drop_of_length_le h];rfl
def Xu(N:List Int)(T:List Zg)(x:Int):Int:=U6 N T 0 (Jn N T x)
def Y8(N:List Int)(T:List Zg)(b m:Int):List Int→Int
 | []=>b
 | x :: P=>if m<Xu N T x∨Xu N T x=m∧x<b then Y8 N T x (Xu N T x) P else Y8 N T b m P
theorem Cm(N:List Int)(T:List Zg)(b m:Int)(P:List Int)(k:Nat)(h:k<P.length):Y8 N T b m (P.drop k)=if m<Xu N T P[k]∨Xu N T P[k]=m∧P[k]<b then Y8 N T P[k] (Xu N T P[k]) (P.drop (k+1)) else Y8 N T b m (P.drop (k+1)):=by
 rw[List.drop_eq_getElem_cons h];rfl
theorem F3(N:List Int)(T:List Zg)(b m:Int)(P:List Int)(k:Nat)(h:P.length≤k):Y8 N T b m (P.drop k)=b:=by
 rw[List.drop_of_length_le h];rfl
def bstD(N:List Int)(T:List Zg):Int×Int:=if chkTr N T≠0 then (0,chkTr N T) else (Y8 N T 0 0 N,0)
theorem Tryz.infoIntC:(Tryz.prog.info? 3).map (fun i=>(i.zero,i.size,i.bytes))=some (some (.int .i64 0),1,8):=by kernel_rfl
theorem Gy(w:World):Calls Tryz.prog 47 #[.slice none 0 0] w fun e w'=>e = .returned (.slice none 0 0)∧w=w':=by
 have he:=fun w=>Lib.run_eql_slice_nil (P:=Tryz.prog) w 25 3 none 0 0 0 0 Tryz.underlying25
 go_enter Tryz.func47,Tryz.ntmps47
 go_wp2
 go_ret
 exact⟨rfl,rfl⟩
theorem Sz(ad:Addr)(n c:Nat)(F:List Value)(w:World)(hn:n≤4096)(hz:F.length=n*1)(h1:∀ u∈F,u.oneCell'=true)(hc:∀ j u,F[j]? = some u→w.cell? (ad.add j)=some u) :
  Calls Tryz.prog 47 #[.slice (some ad) n c] w fun e w'=>∃ v,e = .returned v∧w'.ownsRow w.heap.size 3 1 v n F∧Below w.heap.size w w':=by
 obtain⟨i0,hi,hz0,hz1,hz2⟩:=info_parts Tryz.infoIntC
 have hb:=bel_new w (.cells #[] 3)
 have HC:Hid (∀ j u,F[j]? = some u→(w.alloc (.cells #[] 3)).cell? (ad.add j)=some u):=fun j u hj=>cell_later hb (hc j u hj)
 have HB:=hide hb
 have HZ:=hide hz
 have H1:=hide h1
 have HO:=hide (Wl w 3 1)
 have he:=fun w=>Lib.run_eql_slice_nil (P:=Tryz.prog) w 25 3 (some ad) n c 0 0 Tryz.underlying25
 clear hc hb hz h1
 go_enter Tryz.func47,Tryz.ntmps47
 go_wp2_with (at_builtin;refine wpList_append_own _ rfl _ _ 25 rfl w.heap.size 3 i0 (.int .i64 0) 1 8 Tryz.underlying25 hi hz0 hz1 hz2 rfl (by decide) _ _ _ rfl (unhide HO) ad n c F rfl (unhide HZ) (unhide HC) (unhide H1) (by unfold maxLen;omega) (by omega) (unhide HB).size ?_;intro v2 w3 hown3 hgrow3 _)
 have HW:Hid (w3.ownsRow w.heap.size 3 1 v2 n F):=by show World.ownsRow _ _ _ _ _ _ _;simpa using hown3
 have HB3:=hide ((unhide HB).grown hgrow3 (unhide HB).size (Xo (unhide HO)))
 clear hown3 hgrow3
 go_wp2
 go_ret
 exact⟨v2,rfl,unhide HW,unhide HB3⟩
theorem Gz(a:Option Addr)(n c:Nat)(L:List Int)(w:World)(hn:n≤4096)(h:IntsAt w a n L)(hs:SlOk a n c) :
  Calls Tryz.prog 47 #[.slice a n c] w fun e w'=>∃ v,e = .returned v∧w'.ownsRow w.heap.size 3 1 v n (L.map (Value.int .i64))∧Below w.heap.size w w':=by
 obtain⟨hl,hc⟩:=h
 cases a with
 | none=>
  obtain⟨rfl,rfl⟩:=hs.2.2 rfl
  have e:L=[]:=List.length_eq_zero_iff.1 hl
  subst e
  exact (Gy w).mono fun e w' ⟨x,y⟩=>⟨_,x,y ▸ World.ownsRow_nil _ _ _ _,y ▸ Below.refl _ _⟩
 | some ad=>
  refine (Sz ad n c (L.map (Value.int .i64)) w hn (by simp[hl]) (ints_oneCell _ _) (fun j u hj=>?_))
  have hjl:j<L.length:=by have:=(List.getElem?_eq_some_iff.1 hj).1;simpa using this
  obtain⟨b,off,e,_,hcell⟩:=hc (by omega)
  cases e
  rw[Addr.add_lit,hcell j hjl]
  simpa[hjl] using hj
theorem cloneOp_some(ad:Addr)(n c:Nat)(F:List Value)(w:World)(hn:n≤8796093022208)(hz:F.length=n*2)(h1:∀ u∈F,u.oneCell'=true)(hc:∀ j u,F[j]? = some u→w.cell? (ad.add j)=some u) :
  Calls Tryz.prog 150 #[.slice (some ad) n c] w fun e w'=>∃ v,e = .returned v∧w'.ownsRow w.heap.size 164 2 v n F∧Below w.heap.size w w':=by
 obtain⟨i0,hi,hz0,hz1,hz2⟩:=info_parts Tryz.infoOpC
 have hb:=bel_new w (.cells #[] 164)
 have HC:Hid (∀ j u,F[j]? = some u→(w.alloc (.cells #[] 164)).cell? (ad.add j)=some u):=fun j u hj=>cell_later hb (hc j u hj)
 have HB:=hide hb
 have HZ:=hide hz
 have H1:=hide h1
 have HO:=hide (Wl w 164 2)
 have he:=fun w=>Lib.run_eql_slice_nil (P:=Tryz.prog) w 48 164 (some ad) n c 0 0 Tryz.underlying48
 clear hc hb hz h1
 go_enter Tryz.func150,Tryz.ntmps150
 go_wp2_with (at_builtin;refine wpList_append_own _ rfl _ _ 48 rfl w.heap.size 164 i0 (.agg #[.int .i64 0,.int .i64 0]) 2 16 Tryz.underlying48 hi hz0 hz1 hz2 rfl (by decide) _ _ _ rfl (unhide HO) ad n c F rfl (unhide HZ) (unhide HC) (unhide H1) (by unfold maxLen;omega) (by omega) (unhide HB).size ?_;intro v2 w3 hown3 hgrow3 _)
 have HW:Hid (w3.ownsRow w.heap.size 164 2 v2 n F):=by show World.ownsRow _ _ _ _ _ _ _;simpa using hown3
 have HB3:=hide ((unhide HB).grown hgrow3 (unhide HB).size (Xo (unhide HO)))
 clear hown3 hgrow3
 go_wp2
 go_ret
 exact⟨v2,rfl,unhide HW,unhide HB3⟩
theorem ops_own{w:World}{base:Nat}{v:Value}{n:Nat}{l:List (Int×Int)}(h:w.ownsRow base 164 2 v n (Yr l)):∃ a c,v = .slice a n c∧OpsAt w a n l∧SlOk a n c:=by
 have hl:l.length=n:=by have:=h.1;rw[Yu] at this;omega
 rcases h.2 with ⟨rfl,rfl⟩|⟨g,cap,cur,rfl,hg,hh,h1,h2,h3,h4⟩
 ·exact⟨none,0,rfl,⟨hl,fun h=>absurd h (by omega)⟩,⟨Nat.le_refl _,Nat.zero_le _,fun _=>⟨rfl,rfl⟩⟩⟩
 ·refine⟨_,cap,rfl,⟨hl,fun _=>⟨g,0,rfl,fun i hi=>?_⟩⟩,⟨h1,h2,fun e=>by cases e⟩⟩
  obtain⟨f0,f1⟩:=Q4 l i (by omega)
  rw[Nat.zero_add,World.ownsRow.cellAt h _ (by omega),World.ownsRow.cellAt h _ (by omega)]
  exact⟨f0,f1⟩
theorem cloneOp_any(a:Option Addr)(n c:Nat)(l:List (Int×Int))(w:World)(hn:n≤8796093022208)(h:OpsAt w a n l)(hs:SlOk a n c) :
  Calls Tryz.prog 150 #[.slice a n c] w fun e w'=>∃ a' c',e = .returned (.slice a' n c')∧Fresh w.heap.size w' (fun w2=>OpsAt w2 a' n l∧SlOk a' n c')∧Below w.heap.size w w':=by
 obtain⟨hl,hc⟩:=h
 cases a with
 | none=>
  obtain⟨rfl,rfl⟩:=hs.2.2 rfl
  exact (Ui w).mono fun e w' ⟨x,y⟩=>⟨none,0,x,fun _ _=>⟨⟨hl,fun h=>absurd h (by omega)⟩,hs⟩,y ▸ Below.refl _ _⟩
 | some ad=>
  have hc2:∀ j u,(Yr l)[j]? = some u→w.cell? (ad.add j)=some u:=fun j u hj=>by
   have hjl:j<l.length*2:=by rw[←Yu];exact (List.getElem?_eq_some_iff.1 hj).1
   obtain⟨b,off,e,hcell⟩:=hc (by omega)
   cases e
   rw[Addr.add_lit]
   exact Uf hl hcell j u hj
  refine (cloneOp_some ad n c (Yr l) w hn (by rw[Yu,hl]) (Uo l) hc2).mono ?_
  rintro e w' ⟨v,rfl,x,y⟩
  obtain⟨a',c',rfl,h1,h2⟩:=ops_own x
  refine⟨a',c',rfl,fun w2 g2=>?_,y⟩
  have x2:=g2.own x (fun k hk=>by have:=(x.lt k hk).1;omega)
  obtain⟨a2,c2,e,h3,h4⟩:=ops_own x2
  cases e
  exact⟨h3,h4⟩
theorem Tryz.infoInC:(Tryz.prog.info? 119).map (fun i=>(i.zero,i.size,i.bytes))=some (some (.agg #[.int .i64 0,.int .i64 0,.slice none 0 0]),3,40):=by kernel_rfl
theorem Lm(w:World):Calls Tryz.prog 159 #[.slice none 0 0] w fun e w'=>e = .returned (.slice none 0 0)∧w=w':=by
 have he:=fun w=>Lib.run_eql_slice_nil (P:=Tryz.prog) w 56 119 none 0 0 0 0 Tryz.underlying56
 go_enter Tryz.func159,Tryz.ntmps159
 go_wp2
 go_ret
 exact⟨rfl,rfl⟩
theorem Q9(ad:Addr)(n c:Nat)(F:List Value)(w:World)(hn:n≤3518437208883)(hz:F.length=n*3)(h1:∀ u∈F,u.oneCell'=true)(hc:∀ j u,F[j]? = some u→w.cell? (ad.add j)=some u) :
  Calls Tryz.prog 159 #[.slice (some ad) n c] w fun e w'=>∃ v,e = .returned v∧w'.ownsRow w.heap.size 119 3 v n F∧Below w.heap.size w w':=by
 obtain⟨i0,hi,hz0,hz1,hz2⟩:=info_parts Tryz.infoInC
 have hb:=bel_new w (.cells #[] 119)
 have HC:Hid (∀ j u,F[j]? = some u→(w.alloc (.cells #[] 119)).cell? (ad.add j)=some u):=fun j u hj=>cell_later hb (hc j u hj)
 have HB:=hide hb
 have HZ:=hide hz
 have H1:=hide h1
 have HO:=hide (Wl w 119 3)
 have he:=fun w=>Lib.run_eql_slice_nil (P:=Tryz.prog) w 56 119 (some ad) n c 0 0 Tryz.underlying56
 clear hc hb hz h1
 go_enter Tryz.func159,Tryz.ntmps159
 go_wp2_with (at_builtin;refine wpList_append_own _ rfl _ _ 56 rfl w.heap.size 119 i0 (.agg #[.int .i64 0,.int .i64 0,.slice none 0 0]) 3 40 Tryz.underlying56 hi hz0 hz1 hz2 rfl (by decide) _ _ _ rfl (unhide HO) ad n c F rfl (unhide HZ) (unhide HC) (unhide H1) (by unfold maxLen;omega) (by omega) (unhide HB).size ?_;intro v2 w3 hown3 hgrow3 _)
 have HW:Hid (w3.ownsRow w.heap.size 119 3 v2 n F):=by show World.ownsRow _ _ _ _ _ _ _;simpa using hown3
 have HB3:=hide ((unhide HB).grown hgrow3 (unhide HB).size (Xo (unhide HO)))
 clear hown3 hgrow3
 go_wp2
 go_ret
 exact⟨v2,rfl,unhide HW,unhide HB3⟩
theorem Ln(a:Option Addr)(n c:Nat)(L:List InD)(w0 w:World)(hn:n≤3518437208883)(h:RowsAt inR.R 3 w0 a n L)(hb:Below w0.heap.size w0 w)(hs:SlOk a n c) :
  Calls Tryz.prog 159 #[.slice a n c] w fun e w'=>∃ v,∃ K:List (List Value),e = .returned v∧AllC inR w0 K L∧w'.ownsRow w.heap.size 119 3 v n K.flatten∧Below w.heap.size w w':=by
 obtain⟨hl,hc⟩:=h
 cases a with
 | none=>
  obtain⟨rfl,rfl⟩:=hs.2.2 rfl
  have e:L=[]:=List.length_eq_zero_iff.1 hl
  subst e
  exact (Lm w).mono fun e w' ⟨x,y⟩=>⟨_,[],x,⟨rfl,fun i h=>absurd h (by simp)⟩,y ▸ World.ownsRow_nil _ _ _ _,y ▸ Below.refl _ _⟩
 | some ad=>
  by_cases h0:n=0
  ·subst h0
   have e:L=[]:=List.length_eq_zero_iff.1 hl
   subst e
   exact (Q9 ad 0 c [] w hn rfl (fun u hu=>by cases hu) (fun j u hj=>by simp at hj)).mono fun e w' ⟨v,x,y,z⟩=>⟨v,[],x,⟨rfl,fun i h=>absurd h (by simp)⟩,y,z⟩
  ·obtain⟨b,off,e,_,hcell⟩:=hc (by omega)
   obtain⟨rfl⟩:=e
   obtain⟨K,h1,h3⟩:=heads_of inR hcell
   have hk:K.flatten.length=n*3:=by rw[flat_len h1,hl];rfl
   exact (Q9 ⟨b,off,none⟩ n c K.flatten w hn hk (flat_one h1) (fun j u hj=>by rw[Addr.add_lit];exact cell_later hb (h3 j u hj))).mono fun e w' ⟨v,x,y,z⟩=>⟨v,K,x,h1,y,z⟩
theorem Tryz.infoOutC:(Tryz.prog.info? 122).map (fun i=>(i.zero,i.size,i.bytes))=some (some (.agg #[.int .i64 0,.slice none 0 0]),2,32):=by kernel_rfl
theorem Gv(w:World):Calls Tryz.prog 160 #[.slice none 0 0] w fun e w'=>e = .returned (.slice none 0 0)∧w=w':=by
 have he:=fun w=>Lib.run_eql_slice_nil (P:=Tryz.prog) w 57 122 none 0 0 0 0 Tryz.underlying57
 go_enter Tryz.func160,Tryz.ntmps160
 go_wp2
 go_ret
 exact⟨rfl,rfl⟩
theorem U2(ad:Addr)(n c:Nat)(F:List Value)(w:World)(hn:n≤4398046511104)(hz:F.length=n*2)(h1:∀ u∈F,u.oneCell'=true)(hc:∀ j u,F[j]? = some u→w.cell? (ad.add j)=some u) :
  Calls Tryz.prog 160 #[.slice (some ad) n c] w fun e w'=>∃ v,e = .returned v∧w'.ownsRow w.heap.size 122 2 v n F∧Below w.heap.size w w':=by
 obtain⟨i0,hi,hz0,hz1,hz2⟩:=info_parts Tryz.infoOutC
 have hb:=bel_new w (.cells #[] 122)
 have HC:Hid (∀ j u,F[j]? = some u→(w.alloc (.cells #[] 122)).cell? (ad.add j)=some u):=fun j u hj=>cell_later hb (hc j u hj)
 have HB:=hide hb
 have HZ:=hide hz
 have H1:=hide h1
 have HO:=hide (Wl w 122 2)
 have he:=fun w=>Lib.run_eql_slice_nil (P:=Tryz.prog) w 57 122 (some ad) n c 0 0 Tryz.underlying57
 clear hc hb hz h1
 go_enter Tryz.func160,Tryz.ntmps160
 go_wp2_with (at_builtin;refine wpList_append_own _ rfl _ _ 57 rfl w.heap.size 122 i0 (.agg #[.int .i64 0,.slice none 0 0]) 2 32 Tryz.underlying57 hi hz0 hz1 hz2 rfl (by decide) _ _ _ rfl (unhide HO) ad n c F rfl (unhide HZ) (unhide HC) (unhide H1) (by unfold maxLen;omega) (by omega) (unhide HB).size ?_;intro v2 w3 hown3 hgrow3 _)
 have HW:Hid (w3.ownsRow w.heap.size 122 2 v2 n F):=by show World.ownsRow _ _ _ _ _ _ _;simpa using hown3
 have HB3:=hide ((unhide HB).grown hgrow3 (unhide HB).size (Xo (unhide HO)))
 clear hown3 hgrow3
 go_wp2
 go_ret
 exact⟨v2,rfl,unhide HW,unhide HB3⟩
theorem Gw(a:Option Addr)(n c:Nat)(L:List Zw)(w0 w:World)(hn:n≤4398046511104)(h:RowsAt outR.R 2 w0 a n L)(hb:Below w0.heap.size w0 w)(hs:SlOk a n c) :
  Calls Tryz.prog 160 #[.slice a n c] w fun e w'=>∃ v,∃ K:List (List Value),e = .returned v∧AllC outR w0 K L∧w'.ownsRow w.heap.size 122 2 v n K.flatten∧Below w.heap.size w w':=by
 obtain⟨hl,hc⟩:=h
 cases a with
 | none=>
  obtain⟨rfl,rfl⟩:=hs.2.2 rfl
  have e:L=[]:=List.length_eq_zero_iff.1 hl
  subst e
  exact (Gv w).mono fun e w' ⟨x,y⟩=>⟨_,[],x,⟨rfl,fun i h=>absurd h (by simp)⟩,y ▸ World.ownsRow_nil _ _ _ _,y ▸ Below.refl _ _⟩
 | some ad=>
  by_cases h0:n=0
  ·subst h0
   have e:L=[]:=List.length_eq_zero_iff.1 hl
   subst e
   exact (U2 ad 0 c [] w hn rfl (fun u hu=>by cases hu) (fun j u hj=>by simp at hj)).mono fun e w' ⟨v,x,y,z⟩=>⟨v,[],x,⟨rfl,fun i h=>absurd h (by simp)⟩,y,z⟩
  ·obtain⟨b,off,e,_,hcell⟩:=hc (by omega)
   obtain⟨rfl⟩:=e
   obtain⟨K,h1,h3⟩:=heads_of outR hcell
   have hk:K.flatten.length=n*2:=by rw[flat_len h1,hl];rfl
   exact (U2 ⟨b,off,none⟩ n c K.flatten w hn hk (flat_one h1) (fun j u hj=>by rw[Addr.add_lit];exact cell_later hb (h3 j u hj))).mono fun e w' ⟨v,x,y,z⟩=>⟨v,K,x,h1,y,z⟩
theorem Tryz.infoTxC:(Tryz.prog.info? 59).map (fun i=>(i.zero,i.size,i.bytes))=some (some (.agg #[.int .i64 0,.slice none 0 0,.slice none 0 0]),3,56):=by kernel_rfl
theorem Lk(w:World):Calls Tryz.prog 199 #[.slice none 0 0] w fun e w'=>e = .returned (.slice none 0 0)∧w=w':=by
 have he:=fun w=>Lib.run_eql_slice_nil (P:=Tryz.prog) w 37 59 none 0 0 0 0 Tryz.underlying37
 go_enter Tryz.func199,Tryz.ntmps199
 go_wp2
 go_ret
 exact⟨rfl,rfl⟩
theorem Q8(ad:Addr)(n c:Nat)(F:List Value)(w:World)(hn:n≤2513169434916)(hz:F.length=n*3)(h1:∀ u∈F,u.oneCell'=true)(hc:∀ j u,F[j]? = some u→w.cell? (ad.add j)=some u) :
  Calls Tryz.prog 199 #[.slice (some ad) n c] w fun e w'=>∃ v,e = .returned v∧w'.ownsRow w.heap.size 59 3 v n F∧Below w.heap.size w w':=by
 obtain⟨i0,hi,hz0,hz1,hz2⟩:=info_parts Tryz.infoTxC
 have hb:=bel_new w (.cells #[] 59)
 have HC:Hid (∀ j u,F[j]? = some u→(w.alloc (.cells #[] 59)).cell? (ad.add j)=some u):=fun j u hj=>cell_later hb (hc j u hj)
 have HB:=hide hb
 have HZ:=hide hz
 have H1:=hide h1
 have HO:=hide (Wl w 59 3)
 have he:=fun w=>Lib.run_eql_slice_nil (P:=Tryz.prog) w 37 59 (some ad) n c 0 0 Tryz.underlying37
 clear hc hb hz h1
 go_enter Tryz.func199,Tryz.ntmps199
 go_wp2_with (at_builtin;refine wpList_append_own _ rfl _ _ 37 rfl w.heap.size 59 i0 (.agg #[.int .i64 0,.slice none 0 0,.slice none 0 0]) 3 56 Tryz.underlying37 hi hz0 hz1 hz2 rfl (by decide) _ _ _ rfl (unhide HO) ad n c F rfl (unhide HZ) (unhide HC) (unhide H1) (by unfold maxLen;omega) (by omega) (unhide HB).size ?_;intro v2 w3 hown3 hgrow3 _)
 have HW:Hid (w3.ownsRow w.heap.size 59 3 v2 n F):=by show World.ownsRow _ _ _ _ _ _ _;simpa using hown3
 have HB3:=hide ((unhide HB).grown hgrow3 (unhide HB).size (Xo (unhide HO)))
 clear hown3 hgrow3
 go_wp2
 go_ret
 exact⟨v2,rfl,unhide HW,unhide HB3⟩
theorem Ll(a:Option Addr)(n c:Nat)(L:List TxD)(w0 w:World)(hn:n≤2513169434916)(h:RowsAt txR.R 3 w0 a n L)(hb:Below w0.heap.size w0 w)(hs:SlOk a n c) :
  Calls Tryz.prog 199 #[.slice a n c] w fun e w'=>∃ v,∃ K:List (List Value),e = .returned v∧AllC txR w0 K L∧w'.ownsRow w.heap.size 59 3 v n K.flatten∧Below w.heap.size w w':=by
 obtain⟨hl,hc⟩:=h
 cases a with
 | none=>
  obtain⟨rfl,rfl⟩:=hs.2.2 rfl
  have e:L=[]:=List.length_eq_zero_iff.1 hl
  subst e
  exact (Lk w).mono fun e w' ⟨x,y⟩=>⟨_,[],x,⟨rfl,fun i h=>absurd h (by simp)⟩,y ▸ World.ownsRow_nil _ _ _ _,y ▸ Below.refl _ _⟩
 | some ad=>
  by_cases h0:n=0
  ·subst h0
   have e:L=[]:=List.length_eq_zero_iff.1 hl
   subst e
   exact (Q8 ad 0 c [] w hn rfl (fun u hu=>by cases hu) (fun j u hj=>by simp at hj)).mono fun e w' ⟨v,x,y,z⟩=>⟨v,[],x,⟨rfl,fun i h=>absurd h (by simp)⟩,y,z⟩
  ·obtain⟨b,off,e,_,hcell⟩:=hc (by omega)
   obtain⟨rfl⟩:=e
   obtain⟨K,h1,h3⟩:=heads_of txR hcell
   have hk:K.flatten.length=n*3:=by rw[flat_len h1,hl];rfl
   exact (Q8 ⟨b,off,none⟩ n c K.flatten w hn hk (flat_one h1) (fun j u hj=>by rw[Addr.add_lit];exact cell_later hb (h3 j u hj))).mono fun e w' ⟨v,x,y,z⟩=>⟨v,K,x,h1,y,z⟩
theorem Tryz.infoBlkC:(Tryz.prog.info? 39).map (fun i=>(i.zero,i.size,i.bytes))=some (some (.agg #[.int .i64 0,.int .i64 0,.int .i64 0,.int .i64 0,.slice none 0 0]),5,56):=by kernel_rfl
theorem G0(w:World):Calls Tryz.prog 196 #[.slice none 0 0] w fun e w'=>e = .returned (.slice none 0 0)∧w=w':=by
 have he:=fun w=>Lib.run_eql_slice_nil (P:=Tryz.prog) w 26 39 none 0 0 0 0 Tryz.underlying26
 go_enter Tryz.func196,Tryz.ntmps196
 go_wp2
 go_ret
 exact⟨rfl,rfl⟩
theorem U5(ad:Addr)(n c:Nat)(F:List Value)(w:World)(hn:n≤2513169434916)(hz:F.length=n*5)(h1:∀ u∈F,u.oneCell'=true)(hc:∀ j u,F[j]? = some u→w.cell? (ad.add j)=some u) :
  Calls Tryz.prog 196 #[.slice (some ad) n c] w fun e w'=>∃ v,e = .returned v∧w'.ownsRow w.heap.size 39 5 v n F∧Below w.heap.size w w':=by
 obtain⟨i0,hi,hz0,hz1,hz2⟩:=info_parts Tryz.infoBlkC
 have hb:=bel_new w (.cells #[] 39)
 have HC:Hid (∀ j u,F[j]? = some u→(w.alloc (.cells #[] 39)).cell? (ad.add j)=some u):=fun j u hj=>cell_later hb (hc j u hj)
 have HB:=hide hb
 have HZ:=hide hz
 have H1:=hide h1
 have HO:=hide (Wl w 39 5)
 have he:=fun w=>Lib.run_eql_slice_nil (P:=Tryz.prog) w 26 39 (some ad) n c 0 0 Tryz.underlying26
 clear hc hb hz h1
 go_enter Tryz.func196,Tryz.ntmps196
 go_wp2_with (at_builtin;refine wpList_append_own _ rfl _ _ 26 rfl w.heap.size 39 i0 (.agg #[.int .i64 0,.int .i64 0,.int .i64 0,.int .i64 0,.slice none 0 0]) 5 56 Tryz.underlying26 hi hz0 hz1 hz2 rfl (by decide) _ _ _ rfl (unhide HO) ad n c F rfl (unhide HZ) (unhide HC) (unhide H1) (by unfold maxLen;omega) (by omega) (unhide HB).size ?_;intro v2 w3 hown3 hgrow3 _)
 have HW:Hid (w3.ownsRow w.heap.size 39 5 v2 n F):=by show World.ownsRow _ _ _ _ _ _ _;simpa using hown3
 have HB3:=hide ((unhide HB).grown hgrow3 (unhide HB).size (Xo (unhide HO)))
 clear hown3 hgrow3
 go_wp2
 go_ret
 exact⟨v2,rfl,unhide HW,unhide HB3⟩
theorem G5(a:Option Addr)(n c:Nat)(L:List Zg)(w0 w:World)(hn:n≤2513169434916)(h:RowsAt blkR.R 5 w0 a n L)(hb:Below w0.heap.size w0 w)(hs:SlOk a n c) :
  Calls Tryz.prog 196 #[.slice a n c] w fun e w'=>∃ v,∃ K:List (List Value),e = .returned v∧AllC blkR w0 K L∧w'.ownsRow w.heap.size 39 5 v n K.flatten∧Below w.heap.size w w':=by
 obtain⟨hl,hc⟩:=h
 cases a with
 | none=>
  obtain⟨rfl,rfl⟩:=hs.2.2 rfl
  have e:L=[]:=List.length_eq_zero_iff.1 hl
  subst e
  exact (G0 w).mono fun e w' ⟨x,y⟩=>⟨_,[],x,⟨rfl,fun i h=>absurd h (by simp)⟩,y ▸ World.ownsRow_nil _ _ _ _,y ▸ Below.refl _ _⟩
 | some ad=>
  by_cases h0:n=0
  ·subst h0
   have e:L=[]:=List.length_eq_zero_iff.1 hl
   subst e
   exact (U5 ad 0 c [] w hn rfl (fun u hu=>by cases hu) (fun j u hj=>by simp at hj)).mono fun e w' ⟨v,x,y,z⟩=>⟨v,[],x,⟨rfl,fun i h=>absurd h (by simp)⟩,y,z⟩
  ·obtain⟨b,off,e,_,hcell⟩:=hc (by omega)
   obtain⟨rfl⟩:=e
   obtain⟨K,h1,h3⟩:=heads_of blkR hcell
   have hk:K.flatten.length=n*5:=by rw[flat_len h1,hl];rfl
   exact (U5 ⟨b,off,none⟩ n c K.flatten w hn hk (flat_one h1) (fun j u hj=>by rw[Addr.add_lit];exact cell_later hb (h3 j u hj))).mono fun e w' ⟨v,x,y,z⟩=>⟨v,K,x,h1,y,z⟩
theorem J5(a:Option Addr)(n c:Nat)(L:List Int)(s x:Int)(w:World)(hn:n≤maxLen)(h:IntsAt w a n L)(hx:Vr s L 0=x) :
  Calls Tryz.prog 77 #[.slice a n c,.int .i64 s] w fun e w'=>e = .returned (.int .i64 x)∧w=w':=by
 have HL:=hide h
 have HZ:=hide h.1
 have HX:Hid (Vr s (L.drop 0) 0=x):=hx
 unfold maxLen at hn
 clear h hx
 go_enter Tryz.func77,Tryz.ntmps77
 go_wp2
 go_loopw [8] (fun i wr=>∃ j:Nat,j≤n∧i = .int .i64 j∧w=wr∧Hid (Vr s (L.drop j) j=x)) (fun i _=>n - (intOf i).toNat)
 case atStart=>exact⟨0,Nat.zero_le _,rfl,rfl,HX⟩
 case round=>
  obtain⟨j,hk,rfl,rfl,A⟩:=hrel
  clear HX
  by_cases hlt:j<n
  ·have h1:j<L.length:=by rw[unhide HZ];exact hlt
   obtain⟨b,off,rfl,hbl,hc⟩:=(unhide HL).2 (by omega)
   have f1:=hc j h1
   have ST:=hide (Zac s L j h1)
   obtain⟨t,ht⟩:∃ t,L[j]=t:=⟨_,rfl⟩
   rw[ht] at f1 ST
   clear ht hc
   by_cases e:s=t
   ·subst e
    have R:Hid ((j:Int)=x):=by show _=_;rw[←unhide A,unhide ST,if_pos rfl]
    clear A ST
    go_wp2
    go_ret
    exact⟨by rw[unhide R];rfl,rfl⟩
   ·have R:Hid (Vr s (L.drop (j+1)) (j+1)=x):=by show _=_;rw[←unhide A,unhide ST,if_neg e]
    have g:(s == t)=false:=by simp[e]
    clear A ST e
    go_wp2
    go_roundw
    case rel=>exact⟨j+1,by omega,by go_num,(by trivial),R⟩
    case measure=>simp[intOf];omega
  ·have R:Hid (x = -1):=by show _=_;rw[←unhide A,Bm s L j (by rw[unhide HZ];omega)]
   clear A
   go_wp2
   go_ret
   exact⟨by rw[unhide R];rfl,rfl⟩
theorem T2(a:Option Addr)(n c:Nat)(L:List Int)(s:Int)(o:Bool)(w:World)(hn:n≤maxLen)(h:IntsAt w a n L)(ho:decide (s∈L)=o) :
  Calls Tryz.prog 141 #[.slice a n c,.int .i64 s] w fun e w'=>e = .returned (.bool o)∧w=w':=by
 obtain⟨x,hx⟩:∃ x,Vr s L 0=x:=⟨_,rfl⟩
 have C:=hide (J5 a n c L s x w hn h hx)
 have HO:Hid (decide (0≤x)=o):=by show _=_;rw[←hx,K5,ho]
 clear hn h ho hx
 go_enter Tryz.func141,Tryz.ntmps141
 go_wp2_with fail
 refine (unhide C).mono ?_
 rintro e w1 ⟨rfl,rfl⟩
 go_wp2
 go_ret
 exact⟨by rw[←unhide HO];rfl,rfl⟩
theorem Ms(a b:Option Addr)(n c m d:Nat)(L:List Int)(s:Int)(o:Bool)(w:World)(hn:n≤maxLen)(h:IntsAt w a n L)(ho:decide (s∈L)=o) :
  Calls Tryz.prog 70 #[.agg #[.slice a n c,.slice b m d],.int .i64 s] w fun e w'=>e = .returned (.bool o)∧Below w.heap.size w w':=by
 have hb:=bel_new w (.cells #[.slice a n c,.slice b m d] 28)
 have C:=hide (T2 a n c L s o _ hn (h.later hb) ho)
 have HB:=hide hb
 clear h ho hb
 go_enter Tryz.func70,Tryz.ntmps70
 go_wp2_with fail
 refine (unhide C).mono ?_
 rintro e w1 ⟨rfl,rfl⟩
 go_wp2
 go_ret
 exact⟨rfl,unhide HB⟩
def blkV(x:Zg)(a:Option Addr)(n c:Nat):Value:=.agg #[.int .i64 x.1,.int .i64 x.2.1,.int .i64 x.2.2.1,.int .i64 x.2.2.2.1,.slice a n c]
theorem Ro(a b:Option Addr)(n c d:Nat)(N:List Int)(T:List Zg)(s:Int)(x:Zg)(w:World)(hn:n≤maxLen)(h:IntsAt w a n N)(hT:BlksAt w b n T)(hx:fnd s N T=x) :
  Calls Tryz.prog 72 #[.agg #[.slice a n c,.slice b n d],.int .i64 s] w fun e w'=>∃ ta tn tc,e = .returned (blkV x ta tn tc)∧TxsAt w ta tn x.2.2.2.2∧SlOk ta tn tc∧Below w.heap.size w w':=by
 unfold blkV
 obtain⟨X,hX⟩:∃ X,X=(w.alloc (.cells #[.slice a n c,.slice b n d] 28)).alloc (.cells #[.int .i64 0,.int .i64 0,.int .i64 0,.int .i64 0,.slice none 0 0] 39):=⟨_,rfl⟩
 have hbX:Below w.heap.size w X:=by rw[hX];exact bel_on (bel_new _ _) (bel_new _ _)
 have x0:X.cell? ⟨w.heap.size,0,none⟩=some (.slice a n c):=by rw[hX];exact cell_later (bel_new _ _) (Zu w _ _ _).1
 have x1:X.cell? ⟨w.heap.size,1,none⟩=some (.slice b n d):=by rw[hX];exact cell_later (bel_new _ _) (Zu w _ _ _).2
 have hX1:X.heap[w.heap.size+1]? = some (.cells [.int .i64 0,.int .i64 0,.int .i64 0,.int .i64 0,.slice none 0 0].toArray 39 (0,0)):=by
  rw[hX]
  have:=Zl (w.alloc (.cells #[.slice a n c,.slice b n d] 28)) (.int .i64 0) (.int .i64 0) (.int .i64 0) (.int .i64 0) (.slice none 0 0) 39
  rw[show (w.alloc (.cells #[.slice a n c,.slice b n d] 28)).heap.size=w.heap.size+1 by simp] at this
  exact this
 have z0:=Za hX1 0 _ rfl
 have z1:=Za hX1 1 _ rfl
 have z2:=Za hX1 2 _ rfl
 have z3:=Za hX1 3 _ rfl
 have z4:=Za hX1 4 _ rfl
 have y0:=Zb hX1 0
 have y1:=Zb hX1 1
 have y2:=Zb hX1 2
 have y3:=Zb hX1 3
 have y4:=Zb hX1 4
 have xl:=lt_of_block hX1
 obtain⟨k,hk⟩:∃ k,Vr s N 0=k:=⟨_,rfl⟩
 have C:=hide (J5 a n c N s k X hn (h.later hbX) hk)
 have HBX:=hide hbX
 have HT:=hide hT
 rcases Q0 s N T 0 (by rw[h.1,hT.1]) with ⟨h1,_,h3⟩|⟨i,hi,h1,_,h3⟩
 ·rw[hx] at h3
  obtain rfl:k = -1:=by rw[←hk,h1]
  subst h3
  clear h hT hx hX1 hbX hk h1
  unfold zeroB
  simp only
  go_enter Tryz.func72,Tryz.ntmps72
  go_wp2_with fail
  rw[←hX]
  clear hX
  refine (unhide C).mono ?_
  rintro e w1 ⟨rfl,rfl⟩
  go_wp2
  (try simp only[Exit.inBlock,Exit.then])
  refine bodyPost_ret (v:=.agg #[.int .i64 0,.int .i64 0,.int .i64 0,.int .i64 0,.slice none 0 0]) ?_ rfl ⟨none,0,0,rfl,RowsAt.nil _ _,⟨Nat.le_refl _,Nat.zero_le _,fun _=>⟨rfl,rfl⟩⟩,?_⟩
  ·rw[Zz rfl]
   go_simp
  ·exact (((((Gr.refl X (fun q=>q=w.heap.size+1)).one (w.heap.size+1) 0 (.inl rfl) _).one (w.heap.size+1) 1 (.inl rfl) _).one (w.heap.size+1) 2 (.inl rfl) _).one (w.heap.size+1) 3 (.inl rfl) _).one (w.heap.size+1) 4 (.inl rfl) _ |>.below (unhide HBX) (by omega) (fun k hk=>by omega)
 ·rw[hx] at h3
  obtain rfl:k=(i:Int):=by rw[←hk,h1];simp
  have hin:i<n:=by rw[←hT.1];exact hi
  obtain⟨bb,off,rfl,hbl,hcell⟩:=hT.2 (by omega)
  have hat:=hcell i hi
  rw[←h3] at hat
  obtain⟨g0,g1,g2,g3,ta,tn,tc,g4,ht,hs⟩:=hat
  have HTX:=hide ht
  have HSX:=hide hs
  have k0:=cell_later hbX g0
  have k1:=cell_later hbX g1
  have k2:=cell_later hbX g2
  have k3:=cell_later hbX g3
  have k4:=cell_later hbX g4
  have bl:=Nat.lt_of_lt_of_le hbl hbX.size
  clear h hT hx hX1 hbX hk h1 hcell ht hs g0 g1 g2 g3 g4 h3
  go_enter Tryz.func72,Tryz.ntmps72
  go_wp2_with fail
  rw[←hX]
  clear hX
  refine (unhide C).mono ?_
  rintro e w1 ⟨rfl,rfl⟩
  go_wp2
  (try simp only[Exit.inBlock,Exit.then])
  refine bodyPost_ret (v:=.agg #[.int .i64 x.1,.int .i64 x.2.1,.int .i64 x.2.2.1,.int .i64 x.2.2.2.1,.slice ta tn tc]) ?_ rfl ⟨ta,tn,tc,rfl,unhide HTX,unhide HSX,?_⟩
  ·rw[Zz rfl]
   go_simp
  ·exact (((((Gr.refl X (fun q=>q=w.heap.size+1)).one (w.heap.size+1) 0 (.inl rfl) _).one (w.heap.size+1) 1 (.inl rfl) _).one (w.heap.size+1) 2 (.inl rfl) _).one (w.heap.size+1) 3 (.inl rfl) _).one (w.heap.size+1) 4 (.inl rfl) _ |>.below (unhide HBX) (by omega) (fun k hk=>by omega)
theorem Jy(p h k n v:Value)(w:World) :
  (Instr.field 39 (.agg #[p,h,k,n,v]) 0).run Tryz.prog w = .ok p w∧(Instr.field 39 (.agg #[p,h,k,n,v]) 1).run Tryz.prog w = .ok h w∧(Instr.field 39 (.agg #[p,h,k,n,v]) 2).run Tryz.prog w = .ok k w:=by
 refine⟨?_,?_,?_⟩ <;> kernel_rfl
theorem J7(a b:Option Addr)(n c d:Nat)(N:List Int)(T:List Zg)(s z:Int)(w:World)(hn:n≤maxLen)(h:IntsAt w a n N)(hT:BlksAt w b n T)(hz:(fnd s N T).2.1=z) :
  Calls Tryz.prog 194 #[.agg #[.slice a n c,.slice b n d],.int .i64 s] w fun e w'=>e = .returned (.int .i64 z)∧Below w.heap.size w w':=by
 have hb:=bel_new w (.cells #[.slice a n c,.slice b n d] 28)
 have C:=Ro a b n c d N T s _ _ hn (h.later hb) (hT.later hb) rfl
 unfold blkV at C
 rw[hz] at C
 have C:=hide C
 have HB:=hide hb
 clear h hT hz hb
 go_enter Tryz.func194,Tryz.ntmps194
 go_wp2_with fail
 refine (unhide C).mono ?_
 rintro e w1 ⟨ta,tn,tc,rfl,_,_,hb1⟩
 have HB1:=hide (bel_on (unhide HB) hb1)
 have hf:=(Jy (.int .i64 (fnd s N T).1) (.int .i64 z) (.int .i64 (fnd s N T).2.2.1) (.int .i64 (fnd s N T).2.2.2.1) (.slice ta tn tc) w1).2.1
 clear hb1
 go_wp2
 go_ret
 exact⟨rfl,unhide HB1⟩
end Go.Proofs.YtmomfkikogbdeaaGreatDoor.Tr
