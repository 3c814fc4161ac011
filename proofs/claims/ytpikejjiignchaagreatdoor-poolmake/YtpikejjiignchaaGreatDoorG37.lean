import Derived.Test.YtpikejjiignchaaGreatDoorG36
set_option maxHeartbeats 1600000
set_option maxRecDepth 10000
namespace Go.Proofs.YtpikejjiignchaaGreatDoor
open Bk (Right nm nameR)
theorem Hk{h:Int}{K K':List ByteArray}{C C':List Zg}{t:TxD}(e:doD h (K,C) t=(0,K',C')) :
  Zo t=0∧t.2.1.length≠0∧∃ n S,nameR K (txT t)=(K',n,0)∧apD C t n h=(0,C',S):=by
 unfold doD at e
 split at e
 ·rename_i q;injection e with e _;exact absurd e q
 rename_i q1
 split at e
 ·injection e with e _;exact absurd (show (4:Int)=0 from e) (by decide)
 rename_i q2
 split at e
 ·rename_i q;injection e with e _;exact absurd e q
 rename_i q3
 split at e
 ·rename_i q;injection e with e _;exact absurd e q
 rename_i q4
 injection e with _ e
 injection e with e1 e2
 exact⟨Decidable.not_not.1 q1,q2,_,_,Prod.ext e1 (Prod.ext rfl (Decidable.not_not.1 q3)),Prod.ext (Decidable.not_not.1 q4) (Prod.ext e2 rfl)⟩
theorem Hl{h:Int}{K K':List ByteArray}{C C':List Zg}{t:TxD}(hK:Right K)(e:doD h (K,C) t=(0,K',C')) :
  Right K'∧(∃ M,K'=K++M)∧Z5 C'∧Zp C'≤Zp C∧Zo t=0:=by
 obtain⟨h1,h2,n,S,h3,h4⟩:=Hk e
 obtain⟨d1,d2,_⟩:=D8 hK (show (doD h (K,C) t).1=0 by rw[e])
 rw[e] at d1 d2
 exact⟨d1,d2,(H9 h4).2.1,(Zek h4).2 h2,h1⟩
def swT(h:Int):List TxD→List ByteArray×List Zg→List (TxD×List Zg)
 | [],_=>[]
 | t :: l,s=>if (doD h s t).1=0 then (t,(doD h s t).2.2) :: swT h l (doD h s t).2 else swT h l s
def Xx(C:List Zg)(X:List (TxD×List Zg)):List Zg:=(X.getLast?.map (·.2)).getD C
theorem Ju(C:List Zg):Xx C []=C:=rfl
theorem Qi(C:List Zg)(X:List (TxD×List Zg))(t:TxD)(C':List Zg):Xx C (X++[(t,C')])=C':=by simp[Xx]
theorem Ap(C:List Zg)(X:List (TxD×List Zg))(t:TxD)(C':List Zg):Xx C ((t,C') :: X)=Xx C' X:=by
 cases X with
 | nil=>rfl
 | cons y X=>
  obtain⟨z,hz⟩:∃ z,(y :: X).getLast? = some z:=⟨_,List.getLast?_eq_some_getLast (by simp)⟩
  unfold Xx
  rw[List.getLast?_cons_cons,hz]
  rfl
theorem Rv(h:Int):∀ (l:List TxD) (s:List ByteArray×List Zg),(swT h l s).map (·.1)=(Yb h l s).1
 | [],_=>rfl
 | t :: l,s=>by
  rw[swT,Yb]
  split
  ·rw[List.map_cons,Rv h l]
  ·exact Rv h l s
theorem P5(h:Int):∀ (l:List TxD) (s:List ByteArray×List Zg),(swT h l s).length≤l.length
 | [],_=>Nat.le_refl _
 | t :: l,s=>by
  rw[swT]
  split
  ·rw[List.length_cons,List.length_cons];exact Nat.succ_le_succ (P5 h l _)
  ·exact Nat.le_succ_of_le (P5 h l s)
theorem Ru{h:Int}:∀ (l:List TxD) (K:List ByteArray) (C:List Zg),Right K→Z5 C→Z5 (Yb h l (K,C)).2.2∧Zp (Yb h l (K,C)).2.2≤Zp C∧∀ t∈(Yb h l (K,C)).1,Zo t=0∧t.2.1.length≠0
 | [],K,C,_,hC=>⟨hC,Int.le_refl _,fun _ q=>by cases q⟩
 | t :: l,K,C,hK,hC=>by
  rw[Yb]
  by_cases q:(doD h (K,C) t).1=0
  ·rw[if_pos q]
   have e:doD h (K,C) t=(0,(doD h (K,C) t).2.1,(doD h (K,C) t).2.2):=Prod.ext q rfl
   obtain⟨d1,_,d3,d4,d5⟩:=Hl hK e
   obtain⟨s1,s2,s3⟩:=Ru (h:=h) l _ _ d1 d3
   refine⟨s1,Int.le_trans s2 d4,fun x hx=>?_⟩
   rcases List.mem_cons.1 hx with rfl|hx
   ·exact⟨d5,(Hk e).2.1⟩
   ·exact s3 x hx
  ·rw[if_neg q]
   exact Ru l K C hK hC
def swE(K:List ByteArray)(C:List Zg)(l:List TxD)(h:Int):Int:=
 if Tf K C h≠0 then Tf K C h else if 8<l.length then 2 else 0
theorem Qe{K:List ByteArray}{C:List Zg}{h:Int}(e:Tf K C h=0):Right K∧Z5 C∧1≤h∧h≤1000:=by
 unfold Tf at e
 split at e
 ·rename_i q;exact absurd e q
 rename_i q1
 split at e
 ·rename_i q;exact absurd e q
 rename_i q2
 split at e
 ·exact absurd e (by decide)
 rename_i q3
 simp at q3
 exact⟨(Bk.right_iff K).1 (Decidable.not_not.1 q1),(Xa C).1 (Decidable.not_not.1 q2),q3.1,q3.2⟩
theorem Rw{K:List ByteArray}{C:List Zg}{l:List TxD}{h:Int}(e:swE K C l h=0):Tf K C h=0∧l.length≤8:=by
 unfold swE at e
 split at e
 ·rename_i q;exact absurd e q
 rename_i q1
 split at e
 ·exact absurd e (by decide)
 exact⟨Decidable.not_not.1 q1,by omega⟩
def acE(K:List ByteArray)(C:List Zg)(l:List TxD)(t:TxD)(h:Int):Int×List ByteArray×List TxD:=
 if swE K C l h≠0 then (swE K C l h,[],[]) else if ((Yb h l (K,C)).1.any fun x=>Vm x t)=true then (6,[],[]) else
 if (doD h (Yb h l (K,C)).2 t).1≠0 then ((doD h (Yb h l (K,C)).2 t).1,[],[]) else if (Yb h l (K,C)).1.length=8 then (12,[],[]) else
 (0,(doD h (Yb h l (K,C)).2 t).2.1,(Yb h l (K,C)).1++[t])
def Uj(h n:Int)(lk:List (Int×Int)):TxD:=(h,[],[(n,lk)])
def Xv:Z4:=(0,0,0,0,[])
def Av(h:Int)(l:List TxD)(K:List ByteArray)(C:List Zg):Int:=Zp C - Zp (Xx C ((swT h l (K,C)).take 3))
def mkE(K:List ByteArray)(C:List Zg)(l:List TxD)(p h wk n:Int)(lk:List (Int×Int)):Int×Z4:=
 if swE K C l h≠0 then (swE K C l h,Xv) else if (rwD h).1+Av h l K C=0 then (9,Xv) else
 if V5 (p,h,wk,n,Uj h ((rwD h).1+Av h l K C) lk :: (Yb h l (K,C)).1.take 3)≠0 then (V5 (p,h,wk,n,Uj h ((rwD h).1+Av h l K C) lk :: (Yb h l (K,C)).1.take 3),Xv) else
 (0,(p,h,wk,n,Uj h ((rwD h).1+Av h l K C) lk :: (Yb h l (K,C)).1.take 3))
open Go.RowKit
theorem Lj(a:Option Addr)(n c:Nat)(L:List Zg)(s:Int)(w:World)(h:CoinsAt w a n L)(hR:Z5 L)(hs:Zp L=s) :
  Calls Tryz.prog 99 #[.slice a n c] w fun e w'=>e = .returned (.int .i64 s)∧Below w.heap.size w w':=by
 have C1:=Zb (Zbd a n c L 0 s w h ((Xa L).2 hR) (by rw[if_pos rfl];exact hs))
 clear h hR hs
 go_enter Tryz.func99,Tryz.ntmps99
 go_wp2_with fail
 refine (Za C1).mono ?_
 rintro e w1 ⟨rfl,hb⟩
 have HB:=Zb hb
 clear hb C1
 go_wp2
 go_ret
 exact⟨rfl,Za HB⟩
end Go.Proofs.YtpikejjiignchaaGreatDoor
namespace Go.Proofs.YtpikejjiignchaaGreatDoor.Tr
open Go.RowKit
def IntsAt(w:World)(a:Option Addr)(len:Nat)(Z:List Int):Prop:=
 Z.length=len∧(0<len→∃ b off,a=some ⟨b,off,none⟩∧b<w.heap.size∧∀ i (h:i<Z.length),w.cell? ⟨b,off+i,none⟩=some (.int .i64 Z[i]))
theorem IntsAt.later{w w':World}{a:Option Addr}{len:Nat}{Z:List Int}(h:IntsAt w a len Z)(hb:Below w.heap.size w w'):IntsAt w' a len Z:=by
 refine⟨h.1,fun h0=>?_⟩
 obtain⟨b,off,e,hl,hc⟩:=h.2 h0
 exact⟨b,off,e,Nat.lt_of_lt_of_le hl hb.size,fun i hi=>Zc hb (hc i hi)⟩
theorem IntsAt.nil(w:World)(a:Option Addr):IntsAt w a 0 []:=⟨rfl,fun h=>absurd h (by omega)⟩
theorem IntsAt.take{w:World}{a:Option Addr}{len:Nat}{l:List Int}(h:IntsAt w a len l)(k:Nat)(hk:k≤len):IntsAt w a k (l.take k):=by
 have hl:=h.1
 refine⟨by rw[List.length_take];omega,fun h0=>?_⟩
 obtain⟨b,off,e,hb,hc⟩:=h.2 (by omega)
 refine⟨b,off,e,hb,fun i hi=>?_⟩
 rw[List.length_take] at hi
 rw[List.getElem_take]
 exact hc i (by omega)
theorem Pa{w:World}{base:Nat}{v:Value}{n:Nat}{N:List Int}(h:w.ownsRow base 3 1 v n (N.map (Value.int .i64))):∃ a cap,v = .slice a n cap∧SlOk a n cap∧IntsAt w a n N:=by
 have hl:N.length=n:=by simpa using h.1
 rcases h.2 with ⟨rfl,rfl⟩|⟨g,cap,cur,rfl,hg,hh,h1,h2,h3,h4⟩
 ·exact⟨none,0,rfl,⟨Nat.le_refl _,Nat.zero_le _,fun _=>⟨rfl,rfl⟩⟩,hl,fun h=>absurd h (by omega)⟩
 ·refine⟨_,cap,rfl,⟨h1,h2,fun e=>by cases e⟩,hl,fun _=>⟨g,0,rfl,lt_of_block hh,fun i hi=>?_⟩⟩
  rw[Nat.zero_add,World.ownsRow.cellAt h _ (by omega)]
  simp[hi]
def BlkAt(w:World)(b o:Nat)(x:Z4):Prop:=
 w.cell? ⟨b,o,none⟩=some (.int .i64 x.1)∧w.cell? ⟨b,o+1,none⟩=some (.int .i64 x.2.1)∧w.cell? ⟨b,o+2,none⟩=some (.int .i64 x.2.2.1)∧w.cell? ⟨b,o+3,none⟩=some (.int .i64 x.2.2.2.1) ∧
 ∃ a n c,w.cell? ⟨b,o+4,none⟩=some (.slice a n c)∧TxsAt w a n x.2.2.2.2∧SlOk a n c
theorem BlkAt.kept:L4 BlkAt:=fun _ _ _ _ _ hb h=>by
 obtain⟨h1,h2,h3,h4,a,n,c,h5,h6,h7⟩:=h
 exact⟨Zc hb h1,Zc hb h2,Zc hb h3,Zc hb h4,a,n,c,Zc hb h5,h6.later hb,h7⟩
def BlksAt(w:World)(a:Option Addr)(len:Nat)(l:List Z4):Prop:=RowsAt BlkAt 5 w a len l
theorem BlksAt.later{w w':World}{a:Option Addr}{len:Nat}{l:List Z4}(h:BlksAt w a len l)(hb:Below w.heap.size w w'):BlksAt w' a len l:=RowsAt.later BlkAt.kept h hb
theorem cells3{w:World}{b o:Nat}{x y z:Value}(h0:w.cell? ⟨b,o,none⟩=some x)(h1:w.cell? ⟨b,o+1,none⟩=some y)(h2:w.cell? ⟨b,o+2,none⟩=some z):Qw w b o [x,y,z]:=by
 intro j u hj
 match j,hj with
 | 0,hj=>cases hj;exact h0
 | 1,hj=>cases hj;exact h1
 | 2,hj=>cases hj;exact h2
 | j+3,hj=>simp at hj
theorem Zhv{w:World}{b o:Nat}{x y:Value}(h0:w.cell? ⟨b,o,none⟩=some x)(h1:w.cell? ⟨b,o+1,none⟩=some y):Qw w b o [x,y]:=by
 intro j u hj
 match j,hj with
 | 0,hj=>cases hj;exact h0
 | 1,hj=>cases hj;exact h1
 | j+2,hj=>simp at hj
theorem cells5{w:World}{b o:Nat}{x y z r s:Value}(h0:w.cell? ⟨b,o,none⟩=some x)(h1:w.cell? ⟨b,o+1,none⟩=some y)(h2:w.cell? ⟨b,o+2,none⟩=some z)(h3:w.cell? ⟨b,o+3,none⟩=some r)(h4:w.cell? ⟨b,o+4,none⟩=some s):Qw w b o [x,y,z,r,s]:=by
 intro j u hj
 match j,hj with
 | 0,hj=>cases hj;exact h0
 | 1,hj=>cases hj;exact h1
 | 2,hj=>cases hj;exact h2
 | 3,hj=>cases hj;exact h3
 | 4,hj=>cases hj;exact h4
 | j+5,hj=>simp at hj
def inR:Rec InD where
 sz:=3
 C w cs x:=∃ a n c,cs=[.int .i64 x.1,.int .i64 x.2.1,.slice a n c]∧OpsAt w a n x.2.2∧SlOk a n c
 R:=InAt
 wide _ _ _:=by rintro ⟨a,n,c,rfl,_⟩;rfl
 one _ _ _:=by rintro ⟨a,n,c,rfl,_⟩ v hv;simp at hv;rcases hv with rfl|rfl|rfl <;> rfl
 kept _ _ _ _ hb:=by rintro ⟨a,n,c,rfl,h1,h2⟩;exact⟨a,n,c,rfl,h1.later hb,h2⟩
 rc _ _ _ _:=by rintro ⟨h1,h2,a,n,c,h3,h4,h5⟩;exact⟨_,cells3 h1 h2 h3,a,n,c,rfl,h4,h5⟩
 cr _ _ _ _ _ h:=by rintro ⟨a,n,c,rfl,h1,h2⟩;exact⟨h 0 _ rfl,h 1 _ rfl,a,n,c,h 2 _ rfl,h1,h2⟩
def outR:Rec Zw where
 sz:=2
 C w cs x:=∃ a n c,cs=[.int .i64 x.1,.slice a n c]∧OpsAt w a n x.2∧SlOk a n c
 R:=OutAt
 wide _ _ _:=by rintro ⟨a,n,c,rfl,_⟩;rfl
 one _ _ _:=by rintro ⟨a,n,c,rfl,_⟩ v hv;simp at hv;rcases hv with rfl|rfl <;> rfl
 kept _ _ _ _ hb:=by rintro ⟨a,n,c,rfl,h1,h2⟩;exact⟨a,n,c,rfl,h1.later hb,h2⟩
 rc _ _ _ _:=by rintro ⟨h1,a,n,c,h3,h4,h5⟩;exact⟨_,Zhv h1 h3,a,n,c,rfl,h4,h5⟩
 cr _ _ _ _ _ h:=by rintro ⟨a,n,c,rfl,h1,h2⟩;exact⟨h 0 _ rfl,a,n,c,h 1 _ rfl,h1,h2⟩
def txR:Rec TxD where
 sz:=3
 C w cs x:=∃ a n c a' n' c',cs=[.int .i64 x.1,.slice a n c,.slice a' n' c']∧InsAt w a n x.2.1∧SlOk a n c∧OutsAt w a' n' x.2.2∧SlOk a' n' c'
 R:=TxAt
 wide _ _ _:=by rintro ⟨a,n,c,a',n',c',rfl,_⟩;rfl
 one _ _ _:=by rintro ⟨a,n,c,a',n',c',rfl,_⟩ v hv;simp at hv;rcases hv with rfl|rfl|rfl <;> rfl
 kept _ _ _ _ hb:=by rintro ⟨a,n,c,a',n',c',rfl,h1,h2,h3,h4⟩;exact⟨a,n,c,a',n',c',rfl,h1.later hb,h2,h3.later hb,h4⟩
 rc _ _ _ _:=by rintro ⟨h1,⟨a,n,c,h2,h3,h4⟩,a',n',c',h5,h6,h7⟩;exact⟨_,cells3 h1 h2 h5,a,n,c,a',n',c',rfl,h3,h4,h6,h7⟩
 cr _ _ _ _ _ h:=by rintro ⟨a,n,c,a',n',c',rfl,h1,h2,h3,h4⟩;exact⟨h 0 _ rfl,⟨a,n,c,h 1 _ rfl,h1,h2⟩,a',n',c',h 2 _ rfl,h3,h4⟩
def blkR:Rec Z4 where
 sz:=5
 C w cs x:=∃ a n c,cs=[.int .i64 x.1,.int .i64 x.2.1,.int .i64 x.2.2.1,.int .i64 x.2.2.2.1,.slice a n c]∧TxsAt w a n x.2.2.2.2∧SlOk a n c
 R:=BlkAt
 wide _ _ _:=by rintro ⟨a,n,c,rfl,_⟩;rfl
 one _ _ _:=by rintro ⟨a,n,c,rfl,_⟩ v hv;simp at hv;rcases hv with rfl|rfl|rfl|rfl|rfl <;> rfl
 kept _ _ _ _ hb:=by rintro ⟨a,n,c,rfl,h1,h2⟩;exact⟨a,n,c,rfl,h1.later hb,h2⟩
 rc _ _ _ _:=by rintro ⟨h1,h2,h3,h4,a,n,c,h5,h6,h7⟩;exact⟨_,cells5 h1 h2 h3 h4 h5,a,n,c,rfl,h6,h7⟩
 cr _ _ _ _ _ h:=by rintro ⟨a,n,c,rfl,h1,h2⟩;exact⟨h 0 _ rfl,h 1 _ rfl,h 2 _ rfl,h 3 _ rfl,a,n,c,h 4 _ rfl,h1,h2⟩
def Qn(x:Int):List Int→Nat→Int
 | [],_=>-1
 | a :: r,k=>if x=a then k else Qn x r (k+1)
theorem Zfz(x:Int)(L:List Int)(k:Nat)(h:k<L.length):Qn x (L.drop k) k=if x=L[k] then (k:Int) else Qn x (L.drop (k+1)) (k+1):=by
 rw[List.drop_eq_getElem_cons h];rfl
theorem Zdh(x:Int)(L:List Int)(k:Nat)(h:L.length≤k):Qn x (L.drop k) k = -1:=by
 rw[List.drop_of_length_le h];rfl
def Xv:Z4:=(0,0,0,0,[])
def fnd(x:Int):List Int→List Z4→Z4
 | a :: N,b :: T=>if x=a then b else fnd x N T
 | _,_=>Xv
theorem Du(x:Int):∀ (N:List Int) (T:List Z4) (k:Nat),N.length=T.length→(Qn x N k = -1∧x∉N∧fnd x N T=Xv)∨∃ i,∃ h:i<T.length,Qn x N k=(k+i:Nat)∧x∈N∧fnd x N T=T[i]
 | [],_,_,_=>.inl ⟨rfl,by simp,by simp[fnd]⟩
 | a :: N,[],_,h=>by cases h
 | a :: N,b :: T,k,h=>by
  by_cases e:x=a
  ·exact .inr ⟨0,by simp,by simp[Qn,e],by simp[e],by simp[fnd,e]⟩
  ·rcases Du x N T (k+1) (by simpa using h) with ⟨h1,h2,h3⟩|⟨i,hi,h1,h2,h3⟩
   ·exact .inl ⟨by simp[Qn,e,h1],by simp[e,h2],by simp[fnd,e,h3]⟩
   ·exact .inr ⟨i+1,by simpa using hi,by simp[Qn,e,h1];omega,by simp[h2],by simp[fnd,e,h3]⟩
theorem Dt(x:Int):∀ (N:List Int) (k:Nat),decide (0≤Qn x N k)=decide (x∈N)
 | [],_=>by simp[Qn]
 | a :: N,k=>by
  by_cases e:x=a
  ·simp[Qn,e]
  ·simp[Qn,e,Dt x N (k+1)]
def Qx(N:List Int)(T:List Z4)(x:Int)(b:Z4):Int:=
 if (decide (1≤x) && decide (x≤120))=false then 3 else if V5 b≠0 then V5 b else if decide (x∈N)=true then 6
 else if b.1≠0∧decide (b.1∈N)=false then 5 else if b.2.1≠(fnd b.1 N T).2.1+1 then 4 else 0
def Uh(N:List Int)(T:List Z4):List Int→List Z4→Int
 | x :: M,b :: U=>if Qx N T x b≠0 then Qx N T x b else Uh (N++[x]) (T++[b]) M U
 | _,_=>0
def Vw(N:List Int)(T:List Z4):Int:=if N.length≠T.length then 4 else if 24<N.length then 2 else Uh [] [] N T
theorem Zee(N:List Int)(T:List Z4)(k:Nat)(h:k<N.length)(h':k<T.length):Uh (N.take k) (T.take k) (N.drop k) (T.drop k) =
  if Qx (N.take k) (T.take k) N[k] T[k]≠0 then Qx (N.take k) (T.take k) N[k] T[k] else Uh (N.take (k+1)) (T.take (k+1)) (N.drop (k+1)) (T.drop (k+1)):=by
 rw[List.drop_eq_getElem_cons h,List.drop_eq_getElem_cons h',Uh,List.take_succ_eq_append_getElem h,List.take_succ_eq_append_getElem h']
theorem Zao(N:List Int)(T:List Z4)(k:Nat)(h:N.length≤k):Uh (N.take k) (T.take k) (N.drop k) (T.drop k)=0:=by
 rw[List.drop_of_length_le h];unfold Uh;rfl
def Us(T:List Z4):Prop:=∀ b∈T,1≤b.2.1∧b.2.1≤1000∧1≤b.2.2.1∧b.2.2.1≤1000
theorem Lx{b:Z4}(h:V5 b=0):1≤b.2.1∧b.2.1≤1000∧1≤b.2.2.1∧b.2.2.1≤1000:=by
 unfold V5 at h
 split at h
 ·cases h
 ·next q=>simp[Uw] at q;omega
theorem Cj(x:Int):∀ (N:List Int) (T:List Z4),fnd x N T=Xv∨fnd x N T∈T
 | [],_=>.inl (by simp[fnd])
 | _ :: _,[]=>.inl (by simp[fnd])
 | a :: N,b :: T=>by
  by_cases e:x=a
  ·exact .inr (by simp[fnd,e])
  ·rcases Cj x N T with h|h
   ·exact .inl (by simp[fnd,e,h])
   ·exact .inr (by simp[fnd,e,h])
theorem Zdo{T:List Z4}(h:Us T)(x:Int)(N:List Int):0≤(fnd x N T).2.1∧(fnd x N T).2.1≤1000∧0≤(fnd x N T).2.2.1∧(fnd x N T).2.2.1≤1000:=by
 rcases Cj x N T with e|e
 ·rw[e];simp[Xv]
 ·have:=h _ e;omega
def upD(N:List Int)(T:List Z4):Nat→Int→List Int
 | 0,_=>[]
 | d+1,x=>upD N T d (fnd x N T).1++[x]
theorem Tryz.infoIntC:(Tryz.prog.info? 3).map (fun i=>(i.zero,i.size,i.bytes))=some (some (.int .i64 0),1,8):=by kernel_rfl
theorem Mu(w:World):Calls Tryz.prog 129 #[.slice none 0 0] w fun e w'=>e = .returned (.slice none 0 0)∧w=w':=by
 have he:=fun w=>Lib.run_eql_slice_nil (P:=Tryz.prog) w 25 3 none 0 0 0 0 Tryz.underlying25
 go_enter Tryz.func129,Tryz.ntmps129
 go_wp2
 go_ret
 exact⟨rfl,rfl⟩
theorem Kt(ad:Addr)(n c:Nat)(F:List Value)(w:World)(hn:n≤4096)(hz:F.length=n*1)(h1:∀ u∈F,u.oneCell'=true)(hc:∀ j u,F[j]? = some u→w.cell? (ad.add j)=some u) :
  Calls Tryz.prog 129 #[.slice (some ad) n c] w fun e w'=>∃ v,e = .returned v∧w'.ownsRow w.heap.size 3 1 v n F∧Below w.heap.size w w':=by
 obtain⟨i0,hi,hz0,hz1,hz2⟩:=info_parts Tryz.infoIntC
 have hb:=Zf w (.cells #[] 3)
 have HC:Hid (∀ j u,F[j]? = some u→(w.alloc (.cells #[] 3)).cell? (ad.add j)=some u):=fun j u hj=>Zc hb (hc j u hj)
 have HB:=Zb hb
 have HZ:=Zb hz
 have H1:=Zb h1
 have HO:=Zb (V3 w 3 1)
 have he:=fun w=>Lib.run_eql_slice_nil (P:=Tryz.prog) w 25 3 (some ad) n c 0 0 Tryz.underlying25
 clear hc hb hz h1
 go_enter Tryz.func129,Tryz.ntmps129
 go_wp2_with (at_builtin;refine wpList_append_own _ rfl _ _ 25 rfl w.heap.size 3 i0 (.int .i64 0) 1 8 Tryz.underlying25 hi hz0 hz1 hz2 rfl (by decide) _ _ _ rfl (Za HO) ad n c F rfl (Za HZ) (Za HC) (Za H1) (by unfold maxLen;omega) (by omega) (Za HB).size ?_;intro v2 w3 hown3 hgrow3 _)
 have HW:Hid (w3.ownsRow w.heap.size 3 1 v2 n F):=by show World.ownsRow _ _ _ _ _ _ _;simpa using hown3
 have HB3:=Zb ((Za HB).grown hgrow3 (Za HB).size (Yk (Za HO)))
 clear hown3 hgrow3
 go_wp2
 go_ret
 exact⟨v2,rfl,Za HW,Za HB3⟩
theorem Mv(a:Option Addr)(n c:Nat)(L:List Int)(w:World)(hn:n≤4096)(h:IntsAt w a n L)(hs:SlOk a n c) :
  Calls Tryz.prog 129 #[.slice a n c] w fun e w'=>∃ v,e = .returned v∧w'.ownsRow w.heap.size 3 1 v n (L.map (Value.int .i64))∧Below w.heap.size w w':=by
 obtain⟨hl,hc⟩:=h
 cases a with
 | none=>
  obtain⟨rfl,rfl⟩:=hs.2.2 rfl
  have e:L=[]:=List.length_eq_zero_iff.1 hl
  subst e
  exact (Mu w).mono fun e w' ⟨x,y⟩=>⟨_,x,y ▸ World.ownsRow_nil _ _ _ _,y ▸ Below.refl _ _⟩
 | some ad=>
  refine (Kt ad n c (L.map (Value.int .i64)) w hn (by simp[hl]) (ints_oneCell _ _) (fun j u hj=>?_))
  have hjl:j<L.length:=by have:=(List.getElem?_eq_some_iff.1 hj).1;simpa using this
  obtain⟨b,off,e,_,hcell⟩:=hc (by omega)
  cases e
  rw[Addr.add_lit,hcell j hjl]
  simpa[hjl] using hj
theorem Qs(ad:Addr)(n c:Nat)(F:List Value)(w:World)(hn:n≤8796093022208)(hz:F.length=n*2)(h1:∀ u∈F,u.oneCell'=true)(hc:∀ j u,F[j]? = some u→w.cell? (ad.add j)=some u) :
  Calls Tryz.prog 102 #[.slice (some ad) n c] w fun e w'=>∃ v,e = .returned v∧w'.ownsRow w.heap.size 122 2 v n F∧Below w.heap.size w w':=by
 obtain⟨i0,hi,hz0,hz1,hz2⟩:=info_parts Tryz.infoOpC
 have hb:=Zf w (.cells #[] 122)
 have HC:Hid (∀ j u,F[j]? = some u→(w.alloc (.cells #[] 122)).cell? (ad.add j)=some u):=fun j u hj=>Zc hb (hc j u hj)
 have HB:=Zb hb
 have HZ:=Zb hz
 have H1:=Zb h1
 have HO:=Zb (V3 w 122 2)
 have he:=fun w=>Lib.run_eql_slice_nil (P:=Tryz.prog) w 66 122 (some ad) n c 0 0 Tryz.underlying66
 clear hc hb hz h1
 go_enter Tryz.func102,Tryz.ntmps102
 go_wp2_with (at_builtin;refine wpList_append_own _ rfl _ _ 66 rfl w.heap.size 122 i0 (.agg #[.int .i64 0,.int .i64 0]) 2 16 Tryz.underlying66 hi hz0 hz1 hz2 rfl (by decide) _ _ _ rfl (Za HO) ad n c F rfl (Za HZ) (Za HC) (Za H1) (by unfold maxLen;omega) (by omega) (Za HB).size ?_;intro v2 w3 hown3 hgrow3 _)
 have HW:Hid (w3.ownsRow w.heap.size 122 2 v2 n F):=by show World.ownsRow _ _ _ _ _ _ _;simpa using hown3
 have HB3:=Zb ((Za HB).grown hgrow3 (Za HB).size (Yk (Za HO)))
 clear hown3 hgrow3
 go_wp2
 go_ret
 exact⟨v2,rfl,Za HW,Za HB3⟩
theorem Js{w:World}{base:Nat}{v:Value}{n:Nat}{l:List (Int×Int)}(h:w.ownsRow base 122 2 v n (Xo l)):∃ a c,v = .slice a n c∧OpsAt w a n l∧SlOk a n c:=by
 have hl:l.length=n:=by have:=h.1;rw[Xp] at this;omega
 rcases h.2 with ⟨rfl,rfl⟩|⟨g,cap,cur,rfl,hg,hh,h1,h2,h3,h4⟩
 ·exact⟨none,0,rfl,⟨hl,fun h=>absurd h (by omega)⟩,⟨Nat.le_refl _,Nat.zero_le _,fun _=>⟨rfl,rfl⟩⟩⟩
 ·refine⟨_,cap,rfl,⟨hl,fun _=>⟨g,0,rfl,fun i hi=>?_⟩⟩,⟨h1,h2,fun e=>by cases e⟩⟩
  obtain⟨f0,f1⟩:=Tj l i (by omega)
  rw[Nat.zero_add,World.ownsRow.cellAt h _ (by omega),World.ownsRow.cellAt h _ (by omega)]
  exact⟨f0,f1⟩
theorem Uq(a:Option Addr)(n c:Nat)(l:List (Int×Int))(w:World)(hn:n≤8796093022208)(h:OpsAt w a n l)(hs:SlOk a n c) :
  Calls Tryz.prog 102 #[.slice a n c] w fun e w'=>∃ a' c',e = .returned (.slice a' n c')∧Fresh w.heap.size w' (fun w2=>OpsAt w2 a' n l∧SlOk a' n c')∧Below w.heap.size w w':=by
 obtain⟨hl,hc⟩:=h
 cases a with
 | none=>
  obtain⟨rfl,rfl⟩:=hs.2.2 rfl
  exact (Ji w).mono fun e w' ⟨x,y⟩=>⟨none,0,x,fun _ _=>⟨⟨hl,fun h=>absurd h (by omega)⟩,hs⟩,y ▸ Below.refl _ _⟩
 | some ad=>
  have hc2:∀ j u,(Xo l)[j]? = some u→w.cell? (ad.add j)=some u:=fun j u hj=>by
   have hjl:j<l.length*2:=by rw[←Xp];exact (List.getElem?_eq_some_iff.1 hj).1
   obtain⟨b,off,e,hcell⟩:=hc (by omega)
   cases e
   rw[Addr.add_lit]
   exact Jg hl hcell j u hj
  refine (Qs ad n c (Xo l) w hn (by rw[Xp,hl]) (Jw l) hc2).mono ?_
  rintro e w' ⟨v,rfl,x,y⟩
  obtain⟨a',c',rfl,h1,h2⟩:=Js x
  refine⟨a',c',rfl,fun w2 g2=>?_,y⟩
  have x2:=g2.own x (fun k hk=>by have:=(x.lt k hk).1;omega)
  obtain⟨a2,c2,e,h3,h4⟩:=Js x2
  cases e
  exact⟨h3,h4⟩
theorem Tryz.infoInC:(Tryz.prog.info? 124).map (fun i=>(i.zero,i.size,i.bytes))=some (some (.agg #[.int .i64 0,.int .i64 0,.slice none 0 0]),3,40):=by kernel_rfl
theorem Fg(w:World):Calls Tryz.prog 100 #[.slice none 0 0] w fun e w'=>e = .returned (.slice none 0 0)∧w=w':=by
 have he:=fun w=>Lib.run_eql_slice_nil (P:=Tryz.prog) w 49 124 none 0 0 0 0 Tryz.underlying49
 go_enter Tryz.func100,Tryz.ntmps100
 go_wp2
 go_ret
 exact⟨rfl,rfl⟩
theorem Tq(ad:Addr)(n c:Nat)(F:List Value)(w:World)(hn:n≤3518437208883)(hz:F.length=n*3)(h1:∀ u∈F,u.oneCell'=true)(hc:∀ j u,F[j]? = some u→w.cell? (ad.add j)=some u) :
  Calls Tryz.prog 100 #[.slice (some ad) n c] w fun e w'=>∃ v,e = .returned v∧w'.ownsRow w.heap.size 124 3 v n F∧Below w.heap.size w w':=by
 obtain⟨i0,hi,hz0,hz1,hz2⟩:=info_parts Tryz.infoInC
 have hb:=Zf w (.cells #[] 124)
 have HC:Hid (∀ j u,F[j]? = some u→(w.alloc (.cells #[] 124)).cell? (ad.add j)=some u):=fun j u hj=>Zc hb (hc j u hj)
 have HB:=Zb hb
 have HZ:=Zb hz
 have H1:=Zb h1
 have HO:=Zb (V3 w 124 3)
 have he:=fun w=>Lib.run_eql_slice_nil (P:=Tryz.prog) w 49 124 (some ad) n c 0 0 Tryz.underlying49
 clear hc hb hz h1
 go_enter Tryz.func100,Tryz.ntmps100
 go_wp2_with (at_builtin;refine wpList_append_own _ rfl _ _ 49 rfl w.heap.size 124 i0 (.agg #[.int .i64 0,.int .i64 0,.slice none 0 0]) 3 40 Tryz.underlying49 hi hz0 hz1 hz2 rfl (by decide) _ _ _ rfl (Za HO) ad n c F rfl (Za HZ) (Za HC) (Za H1) (by unfold maxLen;omega) (by omega) (Za HB).size ?_;intro v2 w3 hown3 hgrow3 _)
 have HW:Hid (w3.ownsRow w.heap.size 124 3 v2 n F):=by show World.ownsRow _ _ _ _ _ _ _;simpa using hown3
 have HB3:=Zb ((Za HB).grown hgrow3 (Za HB).size (Yk (Za HO)))
 clear hown3 hgrow3
 go_wp2
 go_ret
 exact⟨v2,rfl,Za HW,Za HB3⟩
theorem Fh(a:Option Addr)(n c:Nat)(L:List InD)(w0 w:World)(hn:n≤3518437208883)(h:RowsAt inR.R 3 w0 a n L)(hb:Below w0.heap.size w0 w)(hs:SlOk a n c) :
  Calls Tryz.prog 100 #[.slice a n c] w fun e w'=>∃ v,∃ K:List (List Value),e = .returned v∧AllC inR w0 K L∧w'.ownsRow w.heap.size 124 3 v n K.flatten∧Below w.heap.size w w':=by
 obtain⟨hl,hc⟩:=h
 cases a with
 | none=>
  obtain⟨rfl,rfl⟩:=hs.2.2 rfl
  have e:L=[]:=List.length_eq_zero_iff.1 hl
  subst e
  exact (Fg w).mono fun e w' ⟨x,y⟩=>⟨_,[],x,⟨rfl,fun i h=>absurd h (by simp)⟩,y ▸ World.ownsRow_nil _ _ _ _,y ▸ Below.refl _ _⟩
 | some ad=>
  by_cases h0:n=0
  ·subst h0
   have e:L=[]:=List.length_eq_zero_iff.1 hl
   subst e
   exact (Tq ad 0 c [] w hn rfl (fun u hu=>by cases hu) (fun j u hj=>by simp at hj)).mono fun e w' ⟨v,x,y,z⟩=>⟨v,[],x,⟨rfl,fun i h=>absurd h (by simp)⟩,y,z⟩
  ·obtain⟨b,off,e,_,hcell⟩:=hc (by omega)
   obtain⟨rfl⟩:=e
   obtain⟨K,h1,h3⟩:=Ug inR hcell
   have hk:K.flatten.length=n*3:=by rw[Wh h1,hl];rfl
   exact (Tq ⟨b,off,none⟩ n c K.flatten w hn hk (flat_one h1) (fun j u hj=>by rw[Addr.add_lit];exact Zc hb (h3 j u hj))).mono fun e w' ⟨v,x,y,z⟩=>⟨v,K,x,h1,y,z⟩
theorem Tryz.infoOutC:(Tryz.prog.info? 101).map (fun i=>(i.zero,i.size,i.bytes))=some (some (.agg #[.int .i64 0,.slice none 0 0]),2,32):=by kernel_rfl
theorem Mr(w:World):Calls Tryz.prog 101 #[.slice none 0 0] w fun e w'=>e = .returned (.slice none 0 0)∧w=w':=by
 have he:=fun w=>Lib.run_eql_slice_nil (P:=Tryz.prog) w 50 101 none 0 0 0 0 Tryz.underlying50
 go_enter Tryz.func101,Tryz.ntmps101
 go_wp2
 go_ret
 exact⟨rfl,rfl⟩
theorem J9(ad:Addr)(n c:Nat)(F:List Value)(w:World)(hn:n≤4398046511104)(hz:F.length=n*2)(h1:∀ u∈F,u.oneCell'=true)(hc:∀ j u,F[j]? = some u→w.cell? (ad.add j)=some u) :
  Calls Tryz.prog 101 #[.slice (some ad) n c] w fun e w'=>∃ v,e = .returned v∧w'.ownsRow w.heap.size 101 2 v n F∧Below w.heap.size w w':=by
 obtain⟨i0,hi,hz0,hz1,hz2⟩:=info_parts Tryz.infoOutC
 have hb:=Zf w (.cells #[] 101)
 have HC:Hid (∀ j u,F[j]? = some u→(w.alloc (.cells #[] 101)).cell? (ad.add j)=some u):=fun j u hj=>Zc hb (hc j u hj)
 have HB:=Zb hb
 have HZ:=Zb hz
 have H1:=Zb h1
 have HO:=Zb (V3 w 101 2)
 have he:=fun w=>Lib.run_eql_slice_nil (P:=Tryz.prog) w 50 101 (some ad) n c 0 0 Tryz.underlying50
 clear hc hb hz h1
 go_enter Tryz.func101,Tryz.ntmps101
 go_wp2_with (at_builtin;refine wpList_append_own _ rfl _ _ 50 rfl w.heap.size 101 i0 (.agg #[.int .i64 0,.slice none 0 0]) 2 32 Tryz.underlying50 hi hz0 hz1 hz2 rfl (by decide) _ _ _ rfl (Za HO) ad n c F rfl (Za HZ) (Za HC) (Za H1) (by unfold maxLen;omega) (by omega) (Za HB).size ?_;intro v2 w3 hown3 hgrow3 _)
 have HW:Hid (w3.ownsRow w.heap.size 101 2 v2 n F):=by show World.ownsRow _ _ _ _ _ _ _;simpa using hown3
 have HB3:=Zb ((Za HB).grown hgrow3 (Za HB).size (Yk (Za HO)))
 clear hown3 hgrow3
 go_wp2
 go_ret
 exact⟨v2,rfl,Za HW,Za HB3⟩
theorem Ms(a:Option Addr)(n c:Nat)(L:List Zw)(w0 w:World)(hn:n≤4398046511104)(h:RowsAt outR.R 2 w0 a n L)(hb:Below w0.heap.size w0 w)(hs:SlOk a n c) :
  Calls Tryz.prog 101 #[.slice a n c] w fun e w'=>∃ v,∃ K:List (List Value),e = .returned v∧AllC outR w0 K L∧w'.ownsRow w.heap.size 101 2 v n K.flatten∧Below w.heap.size w w':=by
 obtain⟨hl,hc⟩:=h
 cases a with
 | none=>
  obtain⟨rfl,rfl⟩:=hs.2.2 rfl
  have e:L=[]:=List.length_eq_zero_iff.1 hl
  subst e
  exact (Mr w).mono fun e w' ⟨x,y⟩=>⟨_,[],x,⟨rfl,fun i h=>absurd h (by simp)⟩,y ▸ World.ownsRow_nil _ _ _ _,y ▸ Below.refl _ _⟩
 | some ad=>
  by_cases h0:n=0
  ·subst h0
   have e:L=[]:=List.length_eq_zero_iff.1 hl
   subst e
   exact (J9 ad 0 c [] w hn rfl (fun u hu=>by cases hu) (fun j u hj=>by simp at hj)).mono fun e w' ⟨v,x,y,z⟩=>⟨v,[],x,⟨rfl,fun i h=>absurd h (by simp)⟩,y,z⟩
  ·obtain⟨b,off,e,_,hcell⟩:=hc (by omega)
   obtain⟨rfl⟩:=e
   obtain⟨K,h1,h3⟩:=Ug outR hcell
   have hk:K.flatten.length=n*2:=by rw[Wh h1,hl];rfl
   exact (J9 ⟨b,off,none⟩ n c K.flatten w hn hk (flat_one h1) (fun j u hj=>by rw[Addr.add_lit];exact Zc hb (h3 j u hj))).mono fun e w' ⟨v,x,y,z⟩=>⟨v,K,x,h1,y,z⟩
theorem Tryz.infoTxC:(Tryz.prog.info? 52).map (fun i=>(i.zero,i.size,i.bytes))=some (some (.agg #[.int .i64 0,.slice none 0 0,.slice none 0 0]),3,56):=by kernel_rfl
theorem Fe(w:World):Calls Tryz.prog 64 #[.slice none 0 0] w fun e w'=>e = .returned (.slice none 0 0)∧w=w':=by
 have he:=fun w=>Lib.run_eql_slice_nil (P:=Tryz.prog) w 48 52 none 0 0 0 0 Tryz.underlying48
 go_enter Tryz.func64,Tryz.ntmps64
 go_wp2
 go_ret
 exact⟨rfl,rfl⟩
theorem Tp(ad:Addr)(n c:Nat)(F:List Value)(w:World)(hn:n≤2513169434916)(hz:F.length=n*3)(h1:∀ u∈F,u.oneCell'=true)(hc:∀ j u,F[j]? = some u→w.cell? (ad.add j)=some u) :
  Calls Tryz.prog 64 #[.slice (some ad) n c] w fun e w'=>∃ v,e = .returned v∧w'.ownsRow w.heap.size 52 3 v n F∧Below w.heap.size w w':=by
 obtain⟨i0,hi,hz0,hz1,hz2⟩:=info_parts Tryz.infoTxC
 have hb:=Zf w (.cells #[] 52)
 have HC:Hid (∀ j u,F[j]? = some u→(w.alloc (.cells #[] 52)).cell? (ad.add j)=some u):=fun j u hj=>Zc hb (hc j u hj)
 have HB:=Zb hb
 have HZ:=Zb hz
 have H1:=Zb h1
 have HO:=Zb (V3 w 52 3)
 have he:=fun w=>Lib.run_eql_slice_nil (P:=Tryz.prog) w 48 52 (some ad) n c 0 0 Tryz.underlying48
 clear hc hb hz h1
 go_enter Tryz.func64,Tryz.ntmps64
 go_wp2_with (at_builtin;refine wpList_append_own _ rfl _ _ 48 rfl w.heap.size 52 i0 (.agg #[.int .i64 0,.slice none 0 0,.slice none 0 0]) 3 56 Tryz.underlying48 hi hz0 hz1 hz2 rfl (by decide) _ _ _ rfl (Za HO) ad n c F rfl (Za HZ) (Za HC) (Za H1) (by unfold maxLen;omega) (by omega) (Za HB).size ?_;intro v2 w3 hown3 hgrow3 _)
 have HW:Hid (w3.ownsRow w.heap.size 52 3 v2 n F):=by show World.ownsRow _ _ _ _ _ _ _;simpa using hown3
 have HB3:=Zb ((Za HB).grown hgrow3 (Za HB).size (Yk (Za HO)))
 clear hown3 hgrow3
 go_wp2
 go_ret
 exact⟨v2,rfl,Za HW,Za HB3⟩
theorem Ff(a:Option Addr)(n c:Nat)(L:List TxD)(w0 w:World)(hn:n≤2513169434916)(h:RowsAt txR.R 3 w0 a n L)(hb:Below w0.heap.size w0 w)(hs:SlOk a n c) :
  Calls Tryz.prog 64 #[.slice a n c] w fun e w'=>∃ v,∃ K:List (List Value),e = .returned v∧AllC txR w0 K L∧w'.ownsRow w.heap.size 52 3 v n K.flatten∧Below w.heap.size w w':=by
 obtain⟨hl,hc⟩:=h
 cases a with
 | none=>
  obtain⟨rfl,rfl⟩:=hs.2.2 rfl
  have e:L=[]:=List.length_eq_zero_iff.1 hl
  subst e
  exact (Fe w).mono fun e w' ⟨x,y⟩=>⟨_,[],x,⟨rfl,fun i h=>absurd h (by simp)⟩,y ▸ World.ownsRow_nil _ _ _ _,y ▸ Below.refl _ _⟩
 | some ad=>
  by_cases h0:n=0
  ·subst h0
   have e:L=[]:=List.length_eq_zero_iff.1 hl
   subst e
   exact (Tp ad 0 c [] w hn rfl (fun u hu=>by cases hu) (fun j u hj=>by simp at hj)).mono fun e w' ⟨v,x,y,z⟩=>⟨v,[],x,⟨rfl,fun i h=>absurd h (by simp)⟩,y,z⟩
  ·obtain⟨b,off,e,_,hcell⟩:=hc (by omega)
   obtain⟨rfl⟩:=e
   obtain⟨K,h1,h3⟩:=Ug txR hcell
   have hk:K.flatten.length=n*3:=by rw[Wh h1,hl];rfl
   exact (Tp ⟨b,off,none⟩ n c K.flatten w hn hk (flat_one h1) (fun j u hj=>by rw[Addr.add_lit];exact Zc hb (h3 j u hj))).mono fun e w' ⟨v,x,y,z⟩=>⟨v,K,x,h1,y,z⟩
theorem Tryz.infoBlkC:(Tryz.prog.info? 68).map (fun i=>(i.zero,i.size,i.bytes))=some (some (.agg #[.int .i64 0,.int .i64 0,.int .i64 0,.int .i64 0,.slice none 0 0]),5,56):=by kernel_rfl
theorem Mw(w:World):Calls Tryz.prog 130 #[.slice none 0 0] w fun e w'=>e = .returned (.slice none 0 0)∧w=w':=by
 have he:=fun w=>Lib.run_eql_slice_nil (P:=Tryz.prog) w 26 68 none 0 0 0 0 Tryz.underlying26
 go_enter Tryz.func130,Tryz.ntmps130
 go_wp2
 go_ret
 exact⟨rfl,rfl⟩
theorem Rb(ad:Addr)(n c:Nat)(F:List Value)(w:World)(hn:n≤2513169434916)(hz:F.length=n*5)(h1:∀ u∈F,u.oneCell'=true)(hc:∀ j u,F[j]? = some u→w.cell? (ad.add j)=some u) :
  Calls Tryz.prog 130 #[.slice (some ad) n c] w fun e w'=>∃ v,e = .returned v∧w'.ownsRow w.heap.size 68 5 v n F∧Below w.heap.size w w':=by
 obtain⟨i0,hi,hz0,hz1,hz2⟩:=info_parts Tryz.infoBlkC
 have hb:=Zf w (.cells #[] 68)
 have HC:Hid (∀ j u,F[j]? = some u→(w.alloc (.cells #[] 68)).cell? (ad.add j)=some u):=fun j u hj=>Zc hb (hc j u hj)
 have HB:=Zb hb
 have HZ:=Zb hz
 have H1:=Zb h1
 have HO:=Zb (V3 w 68 5)
 have he:=fun w=>Lib.run_eql_slice_nil (P:=Tryz.prog) w 26 68 (some ad) n c 0 0 Tryz.underlying26
 clear hc hb hz h1
 go_enter Tryz.func130,Tryz.ntmps130
 go_wp2_with (at_builtin;refine wpList_append_own _ rfl _ _ 26 rfl w.heap.size 68 i0 (.agg #[.int .i64 0,.int .i64 0,.int .i64 0,.int .i64 0,.slice none 0 0]) 5 56 Tryz.underlying26 hi hz0 hz1 hz2 rfl (by decide) _ _ _ rfl (Za HO) ad n c F rfl (Za HZ) (Za HC) (Za H1) (by unfold maxLen;omega) (by omega) (Za HB).size ?_;intro v2 w3 hown3 hgrow3 _)
 have HW:Hid (w3.ownsRow w.heap.size 68 5 v2 n F):=by show World.ownsRow _ _ _ _ _ _ _;simpa using hown3
 have HB3:=Zb ((Za HB).grown hgrow3 (Za HB).size (Yk (Za HO)))
 clear hown3 hgrow3
 go_wp2
 go_ret
 exact⟨v2,rfl,Za HW,Za HB3⟩
theorem Mx(a:Option Addr)(n c:Nat)(L:List Z4)(w0 w:World)(hn:n≤2513169434916)(h:RowsAt blkR.R 5 w0 a n L)(hb:Below w0.heap.size w0 w)(hs:SlOk a n c) :
  Calls Tryz.prog 130 #[.slice a n c] w fun e w'=>∃ v,∃ K:List (List Value),e = .returned v∧AllC blkR w0 K L∧w'.ownsRow w.heap.size 68 5 v n K.flatten∧Below w.heap.size w w':=by
 obtain⟨hl,hc⟩:=h
 cases a with
 | none=>
  obtain⟨rfl,rfl⟩:=hs.2.2 rfl
  have e:L=[]:=List.length_eq_zero_iff.1 hl
  subst e
  exact (Mw w).mono fun e w' ⟨x,y⟩=>⟨_,[],x,⟨rfl,fun i h=>absurd h (by simp)⟩,y ▸ World.ownsRow_nil _ _ _ _,y ▸ Below.refl _ _⟩
 | some ad=>
  by_cases h0:n=0
  ·subst h0
   have e:L=[]:=List.length_eq_zero_iff.1 hl
   subst e
   exact (Rb ad 0 c [] w hn rfl (fun u hu=>by cases hu) (fun j u hj=>by simp at hj)).mono fun e w' ⟨v,x,y,z⟩=>⟨v,[],x,⟨rfl,fun i h=>absurd h (by simp)⟩,y,z⟩
  ·obtain⟨b,off,e,_,hcell⟩:=hc (by omega)
   obtain⟨rfl⟩:=e
   obtain⟨K,h1,h3⟩:=Ug blkR hcell
   have hk:K.flatten.length=n*5:=by rw[Wh h1,hl];rfl
   exact (Rb ⟨b,off,none⟩ n c K.flatten w hn hk (flat_one h1) (fun j u hj=>by rw[Addr.add_lit];exact Zc hb (h3 j u hj))).mono fun e w' ⟨v,x,y,z⟩=>⟨v,K,x,h1,y,z⟩
end Go.Proofs.YtpikejjiignchaaGreatDoor.Tr
