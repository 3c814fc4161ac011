/- Contracts of what checks a transaction: its points, its ins, its outs. -/
import Derived.Test.YtmomfkikogbdeaaGreatDoorLockMathToTxSum
set_option maxHeartbeats 3200000
set_option maxRecDepth 10000
namespace Go.Proofs.YtmomfkikogbdeaaGreatDoor
open Go.RowKit
theorem Vo(x y:Int)(b:Bool)(w:World)(hb:((decide (1≤x) && decide (x≤120)) && (decide (0≤y) && decide (y≤5)))=b) :
  Calls Tryz.prog 248 #[.agg #[.int .i64 x,.int .i64 y]] w fun e w'=>e = .returned (.bool b)∧Below w.heap.size w w':=by
 have HB:=hide (bel_new w (.cells #[.int .i64 x,.int .i64 y] 117))
 by_cases h1:1≤x∧x≤120
 ·have e1:(decide (1≤x) && decide (x≤120))=true:=by simp[h1.1,h1.2]
  obtain⟨c,hc⟩:∃ c,(decide (0≤y) && decide (y≤5))=c:=⟨_,rfl⟩
  rw[e1,hc,Bool.true_and] at hb
  subst hb
  have C1:Hid (∀ w,Calls Tryz.prog 103 #[.int .i64 x,.int .i64 1,.int .i64 120] w fun e w'=>e = .returned (.bool true)∧w=w'):=fun w=>within_is x 1 120 true w e1.symm
  have C2:Hid (∀ w,Calls Tryz.prog 103 #[.int .i64 y,.int .i64 0,.int .i64 5] w fun e w'=>e = .returned (.bool c)∧w=w'):=fun w=>within_is y 0 5 c w hc.symm
  clear e1 hc h1
  go_enter Tryz.func248,Tryz.ntmps248
  go_wp2_with fail
  refine ((unhide C1) _).mono ?_
  rintro e w' ⟨rfl,rfl⟩
  go_wp2_with fail
  refine ((unhide C2) _).mono ?_
  rintro e w' ⟨rfl,rfl⟩
  go_wp2
  go_ret
  exact⟨rfl,unhide HB⟩
 ·have e1:(decide (1≤x) && decide (x≤120))=false:=by
   rw[Bool.and_eq_false_iff,decide_eq_false_iff_not,decide_eq_false_iff_not];omega
  rw[e1,Bool.false_and] at hb
  subst hb
  have C1:Hid (∀ w,Calls Tryz.prog 103 #[.int .i64 x,.int .i64 1,.int .i64 120] w fun e w'=>e = .returned (.bool false)∧w=w'):=fun w=>within_is x 1 120 false w e1.symm
  clear e1 h1
  go_enter Tryz.func248,Tryz.ntmps248
  go_wp2_with fail
  refine ((unhide C1) _).mono ?_
  rintro e w' ⟨rfl,rfl⟩
  go_wp2
  go_ret
  exact⟨rfl,unhide HB⟩
theorem Ap(x y x' y':Int)(a:Option Addr)(n c:Nat)(p:Nat)(b:Bool)(w:World)(h1:w.cell? ⟨p,0,none⟩=some (.int .i64 x'))(h2:w.cell? ⟨p,1,none⟩=some (.int .i64 y'))(hp:p<w.heap.size)
  (hb:(decide (x=x') && decide (y=y'))=b) :
  Calls Tryz.prog 256 #[.agg #[.int .i64 x,.int .i64 y,.slice a n c],.pointer (some ⟨p,0,none⟩)] w fun e w'=>e = .returned (.bool b)∧Below w.heap.size w w':=by
 subst hb
 have HB:=hide (bel_new w (.cells #[.int .i64 x,.int .i64 y,.slice a n c] 119))
 by_cases hx:x=x'
 ·subst hx
  by_cases hy:y=y'
  ·subst hy
   rw[decide_eq_true rfl,decide_eq_true rfl]
   go_enter Tryz.func256,Tryz.ntmps256
   go_wp2
   go_ret
   exact⟨rfl,unhide HB⟩
  ·rw[decide_eq_true rfl,decide_eq_false hy]
   go_enter Tryz.func256,Tryz.ntmps256
   go_wp2
   go_ret
   exact⟨rfl,unhide HB⟩
 ·rw[decide_eq_false hx,Bool.false_and]
  go_enter Tryz.func256,Tryz.ntmps256
  go_wp2
  go_ret
  exact⟨rfl,unhide HB⟩
def Qd(x:InD):List InD→Nat→Int
 | [],_=>-1
 | y :: r,k=>if Wf x y then k else Qd x r (k+1)
theorem Nq(x:InD):∀ (l:List InD) (k:Nat),decide (0≤Qd x l k)=l.any (Wf x)
 | [],_=>rfl
 | y :: r,k=>by
  unfold Qd
  by_cases h:Wf x y=true
  ·rw[if_pos h];simp[h]
  ·rw[if_neg h,Nq x r (k+1)];simp[h]
theorem Dt(x:InD)(l:List InD)(k:Nat)(h:k<l.length):Qd x (l.drop k) k=if Wf x l[k] then (k:Int) else Qd x (l.drop (k+1)) (k+1):=by
 rw[List.drop_eq_getElem_cons h];rfl
theorem Gp(b off n c:Nat)(l:List InD)(x:InD)(p:Nat)(w:World)(hz:l.length=n)(hn:n≤6)(hc:∀ i (h:i<l.length),InAt w b (off+i*3) l[i])
  (h1:w.cell? ⟨p,0,none⟩=some (.int .i64 x.1)) (h2:w.cell? ⟨p,1,none⟩=some (.int .i64 x.2.1)) :
  Calls Tryz.prog 285 #[.slice (some ⟨b,off,none⟩) n c,.func (.func 256) #[] #[.pointer (some ⟨p,0,none⟩)]] w fun e w'=>e = .returned (.int .i64 (Qd x l 0))∧Below w.heap.size w w':=by
 have HC:=hide hc
 have HZ:=hide hz
 have H1:=hide h1
 have H2:=hide h2
 clear hc hz h1 h2
 go_enter Tryz.func285,Tryz.ntmps285
 go_wp2
 go_loopw [5,8] (fun _ i wr=>∃ k:Nat,k≤n∧i = .int .i64 k∧Hid (Qd x l 0=Qd x (l.drop k) k)∧Below w.heap.size w wr) (fun _ i _=>n - (intOf i).toNat)
 case atStart=>exact⟨0,Nat.zero_le _,rfl,rfl,Below.refl _ _⟩
 case round=>
  obtain⟨k,hk,rfl,A,hb⟩:=hrel
  have HB:=hide hb
  by_cases hlt:k<n
  ·have hlk:k<l.length:=by rw[unhide HZ];exact hlt
   have hin:=InAt.kept _ _ _ _ _ hb ((unhide HC) k hlk)
   have S:=hide (Dt x l k hlk)
   obtain⟨y,hy⟩:∃ y,l[k]=y:=⟨_,rfl⟩
   rw[hy] at hin S
   obtain⟨g1,g2,ka,kn,kc,g3,_,_⟩:=hin
   have C1:Hid (∀ q,Wf x y=q→Calls Tryz.prog 256 #[.agg #[.int .i64 y.1,.int .i64 y.2.1,.slice ka kn kc],.pointer (some ⟨p,0,none⟩)] wr fun e w'=>e = .returned (.bool q)∧Below wr.heap.size wr w'):=
    fun q hq=>Ap y.1 y.2.1 x.1 x.2.1 ka kn kc p q wr (cell_later hb (unhide H1)) (cell_later hb (unhide H2)) (World.block_lt_of_cell? _ _ (cell_later hb (unhide H1))) hq
   by_cases hs:Wf x y=true
   ·have S2:Hid (Qd x l 0=k):=by show _=_;rw[unhide A,unhide S,if_pos hs]
    have C2:=hide ((unhide C1) true hs)
    clear S A hs C1 hb hy
    go_wp2_with fail
    refine (unhide C2).mono ?_
    rintro e w' ⟨rfl,hb'⟩
    have HB':=hide (bel_on (unhide HB) hb')
    clear hb'
    go_wp2
    go_ret
    exact⟨by rw[unhide S2];rfl,unhide HB'⟩
   ·have hs':Wf x y=false:=by simpa using hs
    have S2:Hid (Qd x l 0=Qd x (l.drop (k+1)) (k+1)):=by show _=_;rw[unhide A,unhide S,if_neg hs]
    have C2:=hide ((unhide C1) false hs')
    clear S A hs hs' C1 hb hy
    go_wp2_with fail
    refine (unhide C2).mono ?_
    rintro e w' ⟨rfl,hb'⟩
    have HB':=hide (bel_on (unhide HB) hb')
    clear hb'
    go_wp2
    go_roundw
    case rel=>exact⟨k+1,by omega,by go_num,S2,unhide HB'⟩
    case measure=>simp[intOf];omega
  ·have S2:Hid (Qd x l 0 = -1):=by
    show _=_
    rw[unhide A,List.drop_of_length_le (by rw[unhide HZ];omega)];rfl
   clear A hb
   go_wp2
   go_ret
   exact⟨by rw[unhide S2];rfl,unhide HB⟩
theorem Gq(a:Option Addr)(c:Nat)(v:Value)(w:World) :
  Calls Tryz.prog 285 #[.slice a 0 c,v] w fun e w'=>e = .returned (.int .i64 (-1))∧w=w':=by
 go_enter Tryz.func285,Tryz.ntmps285
 go_wp2
 refine wp_loop_rounds 1 ?_
 rw[rounds_succ]
 go_wp2
 go_ret
 exact⟨rfl,rfl⟩
theorem Kz(a:Option Addr)(n c:Nat)(l:List InD)(x:InD)(p:Nat)(w:World)(hn:n≤6)(h:InsAt w a n l)
  (h1:w.cell? ⟨p,0,none⟩=some (.int .i64 x.1)) (h2:w.cell? ⟨p,1,none⟩=some (.int .i64 x.2.1)) :
  Calls Tryz.prog 285 #[.slice a n c,.func (.func 256) #[] #[.pointer (some ⟨p,0,none⟩)]] w fun e w'=>e = .returned (.int .i64 (Qd x l 0))∧Below w.heap.size w w':=by
 obtain⟨hz,hc⟩:=h
 by_cases h0:n=0
 ·subst h0
  have e:l=[]:=List.length_eq_zero_iff.1 hz
  subst e
  exact (Gq a c _ w).mono fun e w' ⟨q1,q2⟩=>⟨q1,q2 ▸ Below.refl _ _⟩
 ·obtain⟨b,off,rfl,_,hcell⟩:=hc (by omega)
  exact Gp b off n c l x p w hz hn hcell h1 h2
theorem U1(a:Option Addr)(n c:Nat)(l:List InD)(x:InD)(p:Nat)(o:Bool)(w:World)(hn:n≤6)(h:InsAt w a n l)
  (h1:w.cell? ⟨p,0,none⟩=some (.int .i64 x.1)) (h2:w.cell? ⟨p,1,none⟩=some (.int .i64 x.2.1)) (ho:l.any (Wf x)=o) :
  Calls Tryz.prog 255 #[.slice a n c,.func (.func 256) #[] #[.pointer (some ⟨p,0,none⟩)]] w fun e w'=>e = .returned (.bool o)∧Below w.heap.size w w':=by
 have E:Hid (decide (0≤Qd x l 0)=o):=by show _=_;rw[Nq,ho]
 have C:=Kz a n c l x p w hn h h1 h2
 obtain⟨z,hz⟩:∃ z,Qd x l 0=z:=⟨_,rfl⟩
 rw[hz] at C E
 have CC:=hide C
 clear C hz h ho h1 h2
 cases o with
 | true=>
  have h0:0≤z:=of_decide_eq_true (unhide E)
  go_enter Tryz.func255,Tryz.ntmps255
  go_wp2_with fail
  refine (unhide CC).mono ?_
  rintro e w' ⟨rfl,hb⟩
  have HB:=hide hb
  clear hb
  go_wp2
  go_ret
  exact⟨rfl,unhide HB⟩
 | false=>
  have h2:decide (0≤z)=false:=unhide E
  have h1:z<0:=by have:=of_decide_eq_false h2;omega
  go_enter Tryz.func255,Tryz.ntmps255
  go_wp2_with fail
  refine (unhide CC).mono ?_
  rintro e w' ⟨rfl,hb⟩
  have HB:=hide hb
  clear hb
  go_wp2
  go_ret
  exact⟨rfl,unhide HB⟩
theorem Zcp{w w1 w2:World}(h1:Below w.heap.size w w1)(h2:Below w1.heap.size w1 w2):Below w.heap.size w w2:=h1.trans (h2.mono h1.size)
structure FillV(B:Nat)(e:TypeId)(p:Nat)(f:Nat→Value)(w wr:World)(k:Nat):Prop where
 ex:∃ xs:List Value,wr.ownsRow B e 1 (.slice (some ⟨B,0,none⟩) p p) p xs∧∀ j,j<k→xs[j]? = some (f j)
 bel:Below B w wr
theorem FillV.lt{B:Nat}{e:TypeId}{p:Nat}{f:Nat→Value}{w wr:World}{k:Nat}(h:FillV B e p f w wr k):B<wr.heap.size:=by
 obtain⟨_,ho,_⟩:=h.ex
 exact (ho.lt B rfl).2
theorem FillV.old{B:Nat}{e:TypeId}{p:Nat}{f:Nat→Value}{w wr:World}{k:Nat}(h:FillV B e p f w wr k)(hk:k<p):∃ v,wr.cell? ⟨B,k,none⟩=some v:=by
 obtain⟨xs,ho,_⟩:=h.ex
 have hl:xs.length=p:=by simpa using ho.1
 exact⟨xs[k]'(by omega),by rw[ho.cellAt k (by omega)];simp[hl,hk]⟩
theorem FillV.free{B:Nat}{e:TypeId}{p:Nat}{f:Nat→Value}{w wr:World}{k:Nat}(h:FillV B e p f w wr k)(j:Nat):wr.frozen? ⟨B,j,none⟩=false:=by
 obtain⟨xs,ho,_⟩:=h.ex
 exact ho.frozenAt j
theorem FillV.step{B:Nat}{e:TypeId}{p:Nat}{f:Nat→Value}{w wr:World}{k:Nat}(h:FillV B e p f w wr k)(hk:k<p){v:Value}(hv:v=f k):FillV B e p f w (wr.setCell ⟨B,k,none⟩ v) (k+1):=by
 obtain⟨xs,ho,hf⟩:=h.ex
 have hl:xs.length=p:=by simpa using ho.1
 refine⟨⟨xs.set k v,(ho.stored k _).1,fun j hj=>?_⟩,h.bel.setCell (Nat.le_refl _) _⟩
 by_cases e:j=k
 ·subst e;simp[hl,hk,hv]
 ·rw[List.getElem?_set_ne (by omega)];exact hf j (by omega)
theorem FillV.keep{B:Nat}{e:TypeId}{p:Nat}{f:Nat→Value}{w wr w':World}{k:Nat}(h:FillV B e p f w wr k)(hb:Below wr.heap.size wr w'):FillV B e p f w w' k:=by
 obtain⟨xs,ho,hf⟩:=h.ex
 refine⟨⟨xs,?_,hf⟩,h.bel.trans (hb.mono (Nat.le_of_lt h.lt))⟩
 obtain⟨hl,h0|⟨g,cap,cur,hv,hg,hh,r⟩⟩:=ho
 ·exact⟨hl,.inl h0⟩
 ·exact⟨hl,.inr ⟨g,cap,cur,hv,hg,(hb.block g (lt_of_block hh)).trans hh,r⟩⟩
theorem FillV.cells{B:Nat}{e:TypeId}{p:Nat}{f:Nat→Value}{w wr:World}{k:Nat}(h:FillV B e p f w wr k)(hk:k≤p)(i:Nat)(hi:i<k):wr.cell? ⟨B,i,none⟩=some (f i):=by
 obtain⟨xs,ho,hf⟩:=h.ex
 rw[ho.cellAt i (by omega)]
 exact hf i hi
theorem Je(w:World)(x y z:Value)(t:TypeId):(w.alloc (.cells #[x,y,z] t)).cell? ⟨w.heap.size,0,none⟩=some x∧(w.alloc (.cells #[x,y,z] t)).cell? ⟨w.heap.size,1,none⟩=some y∧(w.alloc (.cells #[x,y,z] t)).cell? ⟨w.heap.size,2,none⟩=some z:=
 ⟨by rw[World.cell?_alloc_at _ _ _ _ rfl];rfl,by rw[World.cell?_alloc_at _ _ _ _ rfl];rfl,by rw[World.cell?_alloc_at _ _ _ _ rfl];rfl⟩
theorem Pe(w:World)(x y:Value)(t:TypeId):(w.alloc (.cells #[x,y] t)).cell? ⟨w.heap.size,0,none⟩=some x∧(w.alloc (.cells #[x,y] t)).cell? ⟨w.heap.size,1,none⟩=some y:=
 ⟨by rw[World.cell?_alloc_at _ _ _ _ rfl];rfl,by rw[World.cell?_alloc_at _ _ _ _ rfl];rfl⟩
theorem T3(a:Option Addr)(len cap:Nat)(l:List (Int×Int))(x:Int)(w:World)(hx:chk l=x)(h:OpsAt w a len l) :
  Calls Tryz.prog 249 #[.slice a len cap] w fun e w'=>e = .returned (.int .i64 x)∧Below w.heap.size w w':=by
 subst hx;exact Wq a len cap l w h
theorem Pa(b off n c:Nat)(L:List InD)(w:World)(hn:n≤6)(hcap:n≤c)(hz:L.length=n)(hlb:b<w.heap.size)(hc:∀ i (h:i<L.length),InAt w b (off+i*3) L[i]) :
  Calls Tryz.prog 209 #[.slice (some ⟨b,off,none⟩) n c] w fun e w'=>e = .returned (.int .i64 (Z3 [] L))∧Below w.heap.size w w':=by
 have HC:=hide hc
 have HZ:=hide hz
 clear hc hz
 go_enter Tryz.func209,Tryz.ntmps209
 go_wp2
 go_loopw [8] (fun i wr=>∃ k:Nat,k≤n∧i = .int .i64 k∧Hid (Z3 [] L=Z3 (L.take k) (L.drop k))∧Below w.heap.size w wr) (fun i _=>n - (intOf i).toNat)
 case atStart=>exact⟨0,Nat.zero_le _,rfl,rfl,Below.refl _ _⟩
 case round=>
  obtain⟨k,hk,rfl,A,hb⟩:=hrel
  have HB:=hide hb
  by_cases hlt:k<n
  ·have hlk:k<L.length:=by rw[unhide HZ];exact hlt
   have hin:=InAt.kept _ _ _ _ _ hb ((unhide HC) k hlk)
   have IA:Hid (InsAt wr (some ⟨b,off,none⟩) k (L.take k)):=by
    have h0:InsAt wr (some ⟨b,off,none⟩) n L:=⟨unhide HZ,fun _=>⟨b,off,rfl,Nat.lt_of_lt_of_le hlb hb.size,fun i hi=>InAt.kept _ _ _ _ _ hb ((unhide HC) i hi)⟩⟩
    exact RowsAt.take h0 k hk
   have ST:=hide (Lr L k hlk)
   have SS:=hide (Ls L k hlk)
   obtain⟨x,hx⟩:∃ x,L[k]=x:=⟨_,rfl⟩
   rw[hx] at hin ST SS
   obtain⟨x1,x2,key⟩:=x
   obtain⟨g1,g2,ka,kn,kc,g3,g4,_⟩:=hin
   simp only at g1 g2 g3 g4
   have hba:=bel_new wr (.cells #[.int .i64 x1,.int .i64 x2,.slice ka kn kc] 119)
   obtain⟨n1,n2,n3⟩:=Je wr (.int .i64 x1) (.int .i64 x2) (.slice ka kn kc) 119
   have HBA:=hide hba
   have KO:=hide (g4.later hba)
   have N1:=hide n1
   have N2:=hide n2
   have N3:=hide n3
   clear hb hx g4 hba n1 n2 n3
   cases hp:Ri (x1,x2,key) with
   | false=>
    have C1:=hide (Vo x1 x2 false _ hp:Calls Tryz.prog 248 _ (wr.alloc (.cells #[.int .i64 x1,.int .i64 x2,.slice ka kn kc] 119)) _)
    have R:Hid (Z3 [] L=3):=by
     have e:=Fw (pre:=L.take k) hp
     show _=_
     rw[unhide A,(unhide ST) (by rw[e];decide),e]
    clear A ST SS hp IA
    go_wp2_with fail
    refine (unhide C1).mono ?_
    rintro e w2 ⟨rfl,hb2⟩
    have HB2:=hide (bel_on (bel_on (unhide HB) (unhide HBA)) hb2)
    clear hb2
    go_wp2
    go_ret
    exact⟨by rw[unhide R];rfl,unhide HB2⟩
   | true=>
    have C1:=hide (Vo x1 x2 true _ hp:Calls Tryz.prog 248 _ (wr.alloc (.cells #[.int .i64 x1,.int .i64 x2,.slice ka kn kc] 119)) _)
    have HP:=hide hp
    clear hp
    by_cases hk0:chk key=0
    ·cases ht:(L.take k).any (Wf (x1,x2,key)) with
     | true=>
      have R:Hid (Z3 [] L=6):=by
       have e:=Ha (pre:=L.take k) (unhide HP) hk0 ht
       show _=_
       rw[unhide A,(unhide ST) (by rw[e];decide),e]
      have HT:=hide ht
      have HK:=hide hk0
      clear A ST SS ht hk0
      go_wp2_with fail
      refine (unhide C1).mono ?_
      rintro e w2 ⟨rfl,hb2⟩
      have m3:=cell_later hb2 (unhide N3)
      have HB2:=hide hb2
      have HB2':=hide (bel_on (unhide HBA) hb2)
      have hs2:wr.heap.size<w2.heap.size:=World.block_lt_of_cell? _ _ m3
      clear hb2
      go_wp2_with fail
      refine (T3 ka kn kc key 0 _ (unhide HK) ((unhide KO).later (unhide HB2))).mono ?_
      rintro e w3 ⟨rfl,hb3⟩
      have HB3:=hide (bel_on (unhide HB2') hb3)
      have CT:=hide (U1 (some ⟨b,off,none⟩) k c (L.take k) (x1,x2,key) wr.heap.size true w3 (by omega) ((unhide IA).later (unhide HB3)) (cell_later hb3 (cell_later (unhide HB2) (unhide N1))) (cell_later hb3 (cell_later (unhide HB2) (unhide N2))) (unhide HT))
      clear hb3 m3
      go_wp2_with fail
      refine (unhide CT).mono ?_
      rintro e w4 ⟨rfl,hb4⟩
      have HB4:=hide (bel_on (bel_on (unhide HB) (unhide HB3)) hb4)
      clear hb4
      go_wp2
      go_ret
      exact⟨by rw[unhide R];rfl,unhide HB4⟩
     | false=>
      have R:Hid (Z3 [] L=Z3 (L.take (k+1)) (L.drop (k+1))):=by
       have e:=Fx (pre:=L.take k) (unhide HP) hk0 ht
       show _=_
       rw[unhide A,(unhide SS) e]
      have HT:=hide ht
      have HK:=hide hk0
      clear A ST SS ht hk0
      go_wp2_with fail
      refine (unhide C1).mono ?_
      rintro e w2 ⟨rfl,hb2⟩
      have m3:=cell_later hb2 (unhide N3)
      have HB2:=hide hb2
      have HB2':=hide (bel_on (unhide HBA) hb2)
      have hs2:wr.heap.size<w2.heap.size:=World.block_lt_of_cell? _ _ m3
      clear hb2
      go_wp2_with fail
      refine (T3 ka kn kc key 0 _ (unhide HK) ((unhide KO).later (unhide HB2))).mono ?_
      rintro e w3 ⟨rfl,hb3⟩
      have HB3:=hide (bel_on (unhide HB2') hb3)
      have CT:=hide (U1 (some ⟨b,off,none⟩) k c (L.take k) (x1,x2,key) wr.heap.size false w3 (by omega) ((unhide IA).later (unhide HB3)) (cell_later hb3 (cell_later (unhide HB2) (unhide N1))) (cell_later hb3 (cell_later (unhide HB2) (unhide N2))) (unhide HT))
      clear hb3 m3
      go_wp2_with fail
      refine (unhide CT).mono ?_
      rintro e w4 ⟨rfl,hb4⟩
      have HB4:=hide (bel_on (bel_on (unhide HB) (unhide HB3)) hb4)
      clear hb4
      go_wp2
      go_roundw
      case rel=>exact⟨k+1,by omega,by go_num,R,unhide HB4⟩
      case measure=>simp[intOf];omega
    ·obtain⟨z,hz⟩:∃ z,chk key=z:=⟨_,rfl⟩
     have R:Hid (Z3 [] L=z):=by
      have e:=Na (pre:=L.take k) (unhide HP) hk0
      show _=_
      rw[unhide A,(unhide ST) (by rw[e];exact hk0),e];exact hz
     have HK:=hide hz
     rw[hz] at hk0
     have gz:(z != 0)=true:=by simp[hk0]
     clear A ST SS hz hk0 IA
     go_wp2_with fail
     refine (unhide C1).mono ?_
     rintro e w2 ⟨rfl,hb2⟩
     have m3:=cell_later hb2 (unhide N3)
     have HB2:=hide hb2
     have HB2':=hide (bel_on (unhide HBA) hb2)
     have hs2:wr.heap.size<w2.heap.size:=World.block_lt_of_cell? _ _ m3
     clear hb2
     go_wp2_with fail
     refine (T3 ka kn kc key z _ (unhide HK) ((unhide KO).later (unhide HB2))).mono ?_
     rintro e w3 ⟨rfl,hb3⟩
     have HB3:=hide (bel_on (bel_on (unhide HB) (unhide HB2')) hb3)
     clear hb3 m3
     go_wp2
     go_ret
     exact⟨by rw[unhide R];rfl,unhide HB3⟩
  ·have R:Hid (Z3 [] L=0):=by show _=_;rw[unhide A,M9 L k (by rw[unhide HZ];omega)]
   clear A hb
   go_wp2
   go_ret
   exact⟨by rw[unhide R];rfl,unhide HB⟩
theorem Pb(a:Option Addr)(c:Nat)(w:World) :
  Calls Tryz.prog 209 #[.slice a 0 c] w fun e w'=>e = .returned (.int .i64 0)∧w=w':=by
 go_enter Tryz.func209,Tryz.ntmps209
 go_wp2
 refine wp_loop_rounds 1 ?_
 rw[rounds_succ]
 go_wp2
 go_ret
 exact⟨rfl,rfl⟩
theorem Rf(a:Option Addr)(n c:Nat)(L:List InD)(x:Int)(w:World)(hn:n≤6)(hs:SlOk a n c)(h:InsAt w a n L)(hx:Z3 [] L=x) :
  Calls Tryz.prog 209 #[.slice a n c] w fun e w'=>e = .returned (.int .i64 x)∧Below w.heap.size w w':=by
 subst hx
 obtain⟨hz,hc⟩:=h
 by_cases h0:n=0
 ·subst h0
  have e:L=[]:=List.length_eq_zero_iff.1 hz
  subst e
  exact (Pb a c w).mono fun e w' ⟨q1,q2⟩=>⟨q1,q2 ▸ Below.refl _ _⟩
 ·obtain⟨b,off,rfl,hl,hcell⟩:=hc (by omega)
  exact Pa b off n c L w hn hs.1 hz hl hcell
theorem Tryz.infoInt:(Tryz.prog.info? 3).map (fun i=>(i.zero,i.size,i.bytes))=some (some (.int .i64 0),1,8):=by kernel_rfl
def N6(L:List Zw)(j:Nat):Value:=.int .i64 ((L.map (·.1)).getD j 0)
theorem M8{x:Zw}(h:x.1<1):Yp x=3:=by unfold Yp;rw[if_pos h]
theorem T5{x:Zw}(h:¬x.1<1):Yp x=chk x.2:=by unfold Yp;rw[if_neg h]
theorem Sd(b off n c:Nat)(L:List Zw)(w:World)(hn:n≤6)(hpos:0<n)(hz:L.length=n)(hc:∀ i (h:i<L.length),OutAt w b (off+i*2) L[i]) :
  Calls Tryz.prog 210 #[.slice (some ⟨b,off,none⟩) n c] w fun e w'=>e = .returned (.int .i64 (Z6 L))∧Below w.heap.size w w':=by
 obtain⟨i0,hi,hz0,hz1,hz2⟩:=info_parts Tryz.infoInt
 have HC:=hide hc
 have HZ:=hide hz
 have HP:=hide hpos
 clear hc hz hpos
 go_enter Tryz.func210,Tryz.ntmps210
 go_wp2_with (at_make;refine wpList_make_full _ rfl _ _ 25 rfl w.heap.size 3 i0 (.int .i64 0) 1 Tryz.underlying25 hi hz0 hz1 .i64 .i64 _ _ n rfl rfl rfl rfl (by rw[hz2];omega) (by unfold maxLen;omega) (Nat.le_refl _) ?_;intro w2 hown2 hgrow2)
 have hst:FillV w.heap.size 3 n (N6 L) w w2 0:=⟨⟨_,hown2,fun j hj=>absurd hj (by omega)⟩,(Below.refl _ _).grown hgrow2 (Nat.le_refl _) (fun k h=>by cases h)⟩
 have HST:=hide hst
 clear hst hown2 hgrow2
 go_loopw [14] (fun i wr=>∃ k:Nat,k≤n∧i = .int .i64 k∧Hid (Z4 L=Z4 (L.drop k))∧FillV w.heap.size 3 n (N6 L) w wr k) (fun i _=>n - (intOf i).toNat)
 case atStart=>exact⟨0,Nat.zero_le _,rfl,rfl,unhide HST⟩
 case round=>
  obtain⟨k,hk,rfl,A,hfl⟩:=hrel
  have HF:=hide hfl
  have hb:Below w.heap.size w wr:=hfl.bel
  have HB:=hide hb
  by_cases hlt:k<n
  ·have hlk:k<L.length:=by rw[unhide HZ];exact hlt
   have hin:=OutAt.kept _ _ _ _ _ hb ((unhide HC) k hlk)
   have ST:=hide (G8 L k hlk)
   have SS:=hide (G9 L k hlk)
   have hcv:N6 L k = .int .i64 (L[k]).1:=by unfold N6;simp[hlk]
   obtain⟨x,hx⟩:∃ x,L[k]=x:=⟨_,rfl⟩
   rw[hx] at hin ST SS hcv
   have HCV:=hide hcv
   obtain⟨x1,key⟩:=x
   obtain⟨g1,ka,kn,kc,g3,g4,_⟩:=hin
   simp only at g1 g3 g4
   have hba:=bel_new wr (.cells #[.int .i64 x1,.slice ka kn kc] 122)
   obtain⟨n1,n2⟩:=Pe wr (.int .i64 x1) (.slice ka kn kc) 122
   have HBA:=hide hba
   have KO:=hide (g4.later hba)
   have N1:=hide n1
   have N2:=hide n2
   clear hb hx g4 hba n1 n2 hfl hcv
   by_cases hlo:x1<1
   ·have R:Hid (Z6 L=3):=by
     have e:Yp (x1,key)=3:=M8 hlo
     have e2:Z4 L=3:=by rw[unhide A,(unhide ST) (by rw[e];decide),e]
     show _=_
     unfold Z6;rw[e2];rfl
    have HB2:=hide (bel_on (unhide HB) (unhide HBA))
    clear A ST SS
    go_wp2
    go_ret
    exact⟨by rw[unhide R];rfl,unhide HB2⟩
   ·by_cases hk0:chk key=0
    ·have R:Hid (Z4 L=Z4 (L.drop (k+1))):=by
      have e:Yp (x1,key)=0:=by rw[T5 hlo];exact hk0
      show _=_
      rw[unhide A,(unhide SS) e]
     have HK:=hide hk0
     clear A ST SS hk0
     go_wp2_with fail
     refine (T3 ka kn kc key 0 _ (unhide HK) (unhide KO)).mono ?_
     rintro e w3 ⟨rfl,hb3⟩
     have m1:=cell_later hb3 (unhide N1)
     have hf3:=((unhide HF).keep (unhide HBA)).keep hb3
     obtain⟨v,hold⟩:=hf3.old hlt
     have hfree:=hf3.free k
     have HF3:=hide hf3
     have hs3:wr.heap.size<w3.heap.size:=World.block_lt_of_cell? _ _ m1
     clear hb3 hf3
     go_wp2
     go_roundw
     case rel=>exact⟨k+1,by omega,by go_num,R,(unhide HF3).step hlt (unhide HCV).symm⟩
     case measure=>simp[intOf];omega
    ·obtain⟨z,hz⟩:∃ z,chk key=z:=⟨_,rfl⟩
     have R:Hid (Z6 L=z):=by
      have e:Yp (x1,key)=chk key:=T5 hlo
      have e2:Z4 L=z:=by rw[unhide A,(unhide ST) (by rw[e];exact hk0),e];exact hz
      show _=_
      unfold Z6;rw[e2,if_neg (by rw[←hz];exact hk0)]
     have HK:=hide hz
     rw[hz] at hk0
     have gz:(z != 0)=true:=by simp[hk0]
     clear A ST SS hz hk0
     go_wp2_with fail
     refine (T3 ka kn kc key z _ (unhide HK) (unhide KO)).mono ?_
     rintro e w3 ⟨rfl,hb3⟩
     have HB3:=hide (bel_on (bel_on (unhide HB) (unhide HBA)) hb3)
     clear hb3
     go_wp2
     go_ret
     exact⟨by rw[unhide R];rfl,unhide HB3⟩
  ·have e:k=n:=by omega
   subst e
   have R:Hid (Z6 L=(sm 0 (L.map (·.1))).2):=by
    show _=_
    unfold Z6;rw[unhide A,Lq L k (by rw[unhide HZ];exact Nat.le_refl _)];rfl
   have hrow:RowAt wr (some ⟨w.heap.size,0,none⟩) k (L.map (·.1)):=by
    refine⟨by rw[List.length_map];exact unhide HZ,by unfold maxLen;omega,fun _=>⟨w.heap.size,0,rfl,fun i hi=>?_⟩⟩
    rw[Nat.zero_add,hfl.cells (Nat.le_refl _) i hi];rfl
   have SM:=hide (Nh (some ⟨w.heap.size,0,none⟩) k k (L.map (·.1)) wr hrow)
   obtain⟨s,hs⟩:∃ s,sm 0 (L.map (·.1))=s:=⟨_,rfl⟩
   rw[hs] at SM R
   obtain⟨s1,s2⟩:=s
   clear A hb hfl hrow hs hlt hk
   go_wp2_with fail
   refine (unhide SM).mono ?_
   rintro e w' ⟨rfl,rfl⟩
   go_wp2
   go_ret
   exact⟨by rw[unhide R];rfl,unhide HB⟩
theorem Hb(a:Option Addr)(n c:Nat)(L:List Zw)(x:Int)(w:World)(hn:n≤6)(hpos:0<n)(h:OutsAt w a n L)(hx:Z6 L=x) :
  Calls Tryz.prog 210 #[.slice a n c] w fun e w'=>e = .returned (.int .i64 x)∧Below w.heap.size w w':=by
 subst hx
 obtain⟨hz,hc⟩:=h
 obtain⟨b,off,rfl,_,hcell⟩:=hc hpos
 exact Sd b off n c L w hn hpos hz hcell
theorem Ux(h:Int)(ai ao:Option Addr)(ni ci no co:Nat)(o:Bool)(w:World)(ho:(if ni=0 then decide (1≤h) && decide (h≤1000) else decide (h=0))=o) :
  Calls Tryz.prog 208 #[.agg #[.int .i64 h,.slice ai ni ci,.slice ao no co]] w fun e w'=>e = .returned (.bool o)∧Below w.heap.size w w':=by
 have HB:=hide (bel_new w (.cells #[.int .i64 h,.slice ai ni ci,.slice ao no co] 59))
 by_cases h0:ni=0
 ·subst h0
  rw[if_pos rfl] at ho
  have C:Hid (∀ w,Calls Tryz.prog 103 #[.int .i64 h,.int .i64 1,.int .i64 1000] w fun e w'=>e = .returned (.bool o)∧w=w'):=fun w=>within_is h 1 1000 o w ho.symm
  clear ho
  go_enter Tryz.func208,Tryz.ntmps208
  go_wp2_with fail
  refine ((unhide C) _).mono ?_
  rintro e w' ⟨rfl,rfl⟩
  go_wp2
  go_ret
  exact⟨rfl,unhide HB⟩
 ·rw[if_neg h0] at ho
  have g:((ni:Int) == 0)=false:=by simp;omega
  by_cases hh:h=0
  ·rw[decide_eq_true hh] at ho
   subst ho hh
   go_enter Tryz.func208,Tryz.ntmps208
   go_wp2
   go_ret
   exact⟨rfl,unhide HB⟩
  ·rw[decide_eq_false hh] at ho
   subst ho
   have g2:(h == 0)=false:=by simp[hh]
   go_enter Tryz.func208,Tryz.ntmps208
   go_wp2
   go_ret
   exact⟨rfl,unhide HB⟩
theorem Ny(h:Int)(I:List InD)(O:List Zw)(ni:Nat)(hz:I.length=ni):Gt (h,I,O)=if ni=0 then decide (1≤h) && decide (h≤1000) else decide (h=0):=by
 unfold Gt;simp only[hz]
theorem W7(h:Int)(ai ao:Option Addr)(ni ci no co:Nat)(I:List InD)(O:List Zw)(w:World)(hI:InsAt w ai ni I)(hO:OutsAt w ao no O)(sI:SlOk ai ni ci) :
  Calls Tryz.prog 152 #[.agg #[.int .i64 h,.slice ai ni ci,.slice ao no co]] w fun e w'=>e = .returned (.int .i64 (Zp (h,I,O)))∧Below w.heap.size w w':=by
 have hb:=bel_new w (.cells #[.int .i64 h,.slice ai ni ci,.slice ao no co] 59)
 obtain⟨n0,n1,n2⟩:=Je w (.int .i64 h) (.slice ai ni ci) (.slice ao no co) 59
 have HB:=hide hb
 have N0:=hide n0
 have N1:=hide n1
 have N2:=hide n2
 have HI:=hide (hI.later hb)
 have HO:=hide (hO.later hb)
 have HS:=hide sI
 have zi:=hI.1
 have zo:=hO.1
 clear hb n0 n1 n2 hI hO sI
 by_cases h1:6<ni
 ·have e:Zp (h,I,O)=2:=by unfold Zp;rw[if_pos (Or.inl (by show 6<I.length;omega))]
  rw[e]
  have g:(6:Int)<(ni:Int):=by omega
  clear e h1 zi zo
  go_enter Tryz.func152,Tryz.ntmps152
  go_wp2
  go_ret
  exact⟨rfl,unhide HB⟩
 ·by_cases h2:6<no
  ·have e:Zp (h,I,O)=2:=by unfold Zp;rw[if_pos (Or.inr (by show 6<O.length;omega))]
   rw[e]
   have g:¬(6:Int)<(ni:Int):=by omega
   have g':(6:Int)<(no:Int):=by omega
   clear e h1 h2 zi zo
   go_enter Tryz.func152,Tryz.ntmps152
   go_wp2
   go_ret
   exact⟨rfl,unhide HB⟩
  ·have g:¬(6:Int)<(ni:Int):=by omega
   have g':¬(6:Int)<(no:Int):=by omega
   have e1:¬(6<I.length∨6<O.length):=by omega
   by_cases h3:no=0
   ·have e:Zp (h,I,O)=4:=by unfold Zp;rw[if_neg e1,if_pos (by show O.length=0;omega)]
    rw[e]
    subst h3
    clear e e1 h1 h2 zi zo
    go_enter Tryz.func152,Tryz.ntmps152
    go_wp2
    go_ret
    exact⟨rfl,unhide HB⟩
   ·have g3:((no:Int) == 0)=false:=by simp;omega
    have e3:¬O.length=0:=by omega
    cases hf:Gt (h,I,O) with
    | false=>
     have e:Zp (h,I,O)=3:=by unfold Zp;rw[if_neg e1,if_neg e3,if_pos hf]
     rw[e]
     have C:=hide (Ux h ai ao ni ci no co false (w.alloc (.cells #[.int .i64 h,.slice ai ni ci,.slice ao no co] 59)) (by rw[←Ny h I O ni zi];exact hf))
     clear e e1 e3 h1 h2 h3 zi zo hf
     go_enter Tryz.func152,Tryz.ntmps152
     go_wp2_with fail
     refine (unhide C).mono ?_
     rintro e w2 ⟨rfl,hb2⟩
     have HB2:=hide (bel_on (unhide HB) hb2)
     clear hb2
     go_wp2
     go_ret
     exact⟨rfl,unhide HB2⟩
    | true=>
     have C:=hide (Ux h ai ao ni ci no co true (w.alloc (.cells #[.int .i64 h,.slice ai ni ci,.slice ao no co] 59)) (by rw[←Ny h I O ni zi];exact hf))
     have e4:¬Gt (h,I,O)=false:=by rw[hf];decide
     by_cases h5:Z3 [] I=0
     ·obtain⟨z,hz⟩:∃ z,Z6 O=z:=⟨_,rfl⟩
      have e:Zp (h,I,O)=z:=by
       unfold Zp;rw[if_neg e1,if_neg e3,if_neg e4,if_neg (by intro q;exact q h5)];exact hz
      rw[e]
      have H5:=hide h5
      have HZ:=hide hz
      have H6i:Hid (ni≤6):=by show _≤_;omega
      have H6o:Hid (no≤6∧0<no):=⟨by omega,by omega⟩
      clear e e1 e3 e4 h1 h2 h3 zi zo hf h5 hz
      go_enter Tryz.func152,Tryz.ntmps152
      go_wp2_with fail
      refine (unhide C).mono ?_
      rintro e w2 ⟨rfl,hb2⟩
      have m1:=cell_later hb2 (unhide N1)
      have M2:=hide (cell_later hb2 (unhide N2))
      have hs2:w.heap.size<w2.heap.size:=World.block_lt_of_cell? _ _ m1
      have CI:=hide (Rf ai ni ci I 0 w2 (unhide H6i) (unhide HS) ((unhide HI).later hb2) (unhide H5))
      have HB2:=hide hb2
      clear hb2
      go_wp2_with fail
      refine (unhide CI).mono ?_
      rintro e w3 ⟨rfl,hb3⟩
      have m2:=cell_later hb3 (unhide M2)
      have hs3:w.heap.size<w3.heap.size:=World.block_lt_of_cell? _ _ m2
      have CO:=hide (Hb ao no co O z w3 (unhide H6o).1 (unhide H6o).2 (((unhide HO).later (unhide HB2)).later hb3) (unhide HZ))
      have HB3:=hide (bel_on (bel_on (unhide HB) (unhide HB2)) hb3)
      clear hb3 m1 hs2
      go_wp2_with fail
      refine (unhide CO).mono ?_
      rintro e w4 ⟨rfl,hb4⟩
      have HB4:=hide (bel_on (unhide HB3) hb4)
      clear hb4
      go_wp2
      go_ret
      exact⟨rfl,unhide HB4⟩
     ·obtain⟨z,hz⟩:∃ z,Z3 [] I=z:=⟨_,rfl⟩
      have e:Zp (h,I,O)=z:=by
       unfold Zp;rw[if_neg e1,if_neg e3,if_neg e4,if_pos h5];exact hz
      rw[e]
      have HZ:=hide hz
      rw[hz] at h5
      have gz:(z != 0)=true:=by simp[h5]
      have H6i:Hid (ni≤6):=by show _≤_;omega
      clear e e1 e3 e4 h1 h2 h3 zi zo hf h5 hz
      go_enter Tryz.func152,Tryz.ntmps152
      go_wp2_with fail
      refine (unhide C).mono ?_
      rintro e w2 ⟨rfl,hb2⟩
      have m1:=cell_later hb2 (unhide N1)
      have hs2:w.heap.size<w2.heap.size:=World.block_lt_of_cell? _ _ m1
      have CI:=hide (Rf ai ni ci I z w2 (unhide H6i) (unhide HS) ((unhide HI).later hb2) (unhide HZ))
      have HB2:=hide hb2
      clear hb2
      go_wp2_with fail
      refine (unhide CI).mono ?_
      rintro e w3 ⟨rfl,hb3⟩
      have HB3:=hide (bel_on (bel_on (unhide HB) (unhide HB2)) hb3)
      clear hb3
      go_wp2
      go_ret
      exact⟨rfl,unhide HB3⟩
end Go.Proofs.YtmomfkikogbdeaaGreatDoor
