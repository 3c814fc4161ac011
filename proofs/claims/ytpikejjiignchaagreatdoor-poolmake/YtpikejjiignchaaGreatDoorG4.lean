import Derived.Test.YtpikejjiignchaaGreatDoorG3
import Derived.Laws.CopyOwn
import Derived.Lib.AppendZerosOnto
import Derived.Lib.Overlaps
set_option maxHeartbeats 6400000
set_option maxRecDepth 10000
namespace Go.Proofs.YtpikejjiignchaaGreatDoor
open Go.RowKit
theorem Qk(x y:Int)(b:Bool)(w:World)(hb:((decide (1≤x) && decide (x≤120)) && (decide (0≤y) && decide (y≤5)))=b) :
  Calls Tryz.prog 184 #[.agg #[.int .i64 x,.int .i64 y]] w fun e w'=>e = .returned (.bool b)∧Below w.heap.size w w':=by
 have HB:=Zb (Zf w (.cells #[.int .i64 x,.int .i64 y] 99))
 by_cases h1:1≤x∧x≤120
 ·have e1:(decide (1≤x) && decide (x≤120))=true:=by simp[h1.1,h1.2]
  obtain⟨c,hc⟩:∃ c,(decide (0≤y) && decide (y≤5))=c:=⟨_,rfl⟩
  rw[e1,hc,Bool.true_and] at hb
  subst hb
  have C1:Hid (∀ w,Calls Tryz.prog 114 #[.int .i64 x,.int .i64 1,.int .i64 120] w fun e w'=>e = .returned (.bool true)∧w=w'):=fun w=>Yq x 1 120 true w e1.symm
  have C2:Hid (∀ w,Calls Tryz.prog 114 #[.int .i64 y,.int .i64 0,.int .i64 5] w fun e w'=>e = .returned (.bool c)∧w=w'):=fun w=>Yq y 0 5 c w hc.symm
  clear e1 hc h1
  go_enter Tryz.func184,Tryz.ntmps184
  go_wp2_with fail
  refine ((Za C1) _).mono ?_
  rintro e w' ⟨rfl,rfl⟩
  go_wp2_with fail
  refine ((Za C2) _).mono ?_
  rintro e w' ⟨rfl,rfl⟩
  go_wp2
  go_ret
  exact⟨rfl,Za HB⟩
 ·have e1:(decide (1≤x) && decide (x≤120))=false:=by
   rw[Bool.and_eq_false_iff,decide_eq_false_iff_not,decide_eq_false_iff_not];omega
  rw[e1,Bool.false_and] at hb
  subst hb
  have C1:Hid (∀ w,Calls Tryz.prog 114 #[.int .i64 x,.int .i64 1,.int .i64 120] w fun e w'=>e = .returned (.bool false)∧w=w'):=fun w=>Yq x 1 120 false w e1.symm
  clear e1 h1
  go_enter Tryz.func184,Tryz.ntmps184
  go_wp2_with fail
  refine ((Za C1) _).mono ?_
  rintro e w' ⟨rfl,rfl⟩
  go_wp2
  go_ret
  exact⟨rfl,Za HB⟩
theorem Zbz(x y x' y':Int)(a:Option Addr)(n c:Nat)(p:Nat)(b:Bool)(w:World)(h1:w.cell? ⟨p,0,none⟩=some (.int .i64 x'))(h2:w.cell? ⟨p,1,none⟩=some (.int .i64 y'))(hp:p<w.heap.size)
  (hb:(decide (x=x') && decide (y=y'))=b) :
  Calls Tryz.prog 187 #[.agg #[.int .i64 x,.int .i64 y,.slice a n c],.pointer (some ⟨p,0,none⟩)] w fun e w'=>e = .returned (.bool b)∧Below w.heap.size w w':=by
 subst hb
 have HB:=Zb (Zf w (.cells #[.int .i64 x,.int .i64 y,.slice a n c] 124))
 by_cases hx:x=x'
 ·subst hx
  by_cases hy:y=y'
  ·subst hy
   rw[decide_eq_true rfl,decide_eq_true rfl]
   go_enter Tryz.func187,Tryz.ntmps187
   go_wp2
   go_ret
   exact⟨rfl,Za HB⟩
  ·rw[decide_eq_true rfl,decide_eq_false hy]
   go_enter Tryz.func187,Tryz.ntmps187
   go_wp2
   go_ret
   exact⟨rfl,Za HB⟩
 ·rw[decide_eq_false hx,Bool.false_and]
  go_enter Tryz.func187,Tryz.ntmps187
  go_wp2
  go_ret
  exact⟨rfl,Za HB⟩
def Ri(x:InD):List InD→Nat→Int
 | [],_=>-1
 | y :: r,k=>if Wj x y then k else Ri x r (k+1)
theorem B8(x:InD):∀ (l:List InD) (k:Nat),decide (0≤Ri x l k)=l.any (Wj x)
 | [],_=>rfl
 | y :: r,k=>by
  unfold Ri
  by_cases h:Wj x y=true
  ·rw[if_pos h];simp[h]
  ·rw[if_neg h,B8 x r (k+1)];simp[h]
theorem Et(x:InD)(l:List InD)(k:Nat)(h:k<l.length):Ri x (l.drop k) k=if Wj x l[k] then (k:Int) else Ri x (l.drop (k+1)) (k+1):=by
 rw[List.drop_eq_getElem_cons h];rfl
theorem Mm(b off n c:Nat)(l:List InD)(x:InD)(p:Nat)(w:World)(hz:l.length=n)(hn:n≤6)(hc:∀ i (h:i<l.length),InAt w b (off+i*3) l[i])
  (h1:w.cell? ⟨p,0,none⟩=some (.int .i64 x.1)) (h2:w.cell? ⟨p,1,none⟩=some (.int .i64 x.2.1)) :
  Calls Tryz.prog 223 #[.slice (some ⟨b,off,none⟩) n c,.func (.func 187) #[] #[.pointer (some ⟨p,0,none⟩)]] w fun e w'=>e = .returned (.int .i64 (Ri x l 0))∧Below w.heap.size w w':=by
 have HC:=Zb hc
 have HZ:=Zb hz
 have H1:=Zb h1
 have H2:=Zb h2
 clear hc hz h1 h2
 go_enter Tryz.func223,Tryz.ntmps223
 go_wp2
 go_loopw [5,8] (fun _ i wr=>∃ k:Nat,k≤n∧i = .int .i64 k∧Hid (Ri x l 0=Ri x (l.drop k) k)∧Below w.heap.size w wr) (fun _ i _=>n - (intOf i).toNat)
 case atStart=>exact⟨0,Nat.zero_le _,rfl,rfl,Below.refl _ _⟩
 case round=>
  obtain⟨k,hk,rfl,A,hb⟩:=hrel
  have HB:=Zb hb
  by_cases hlt:k<n
  ·have hlk:k<l.length:=by rw[Za HZ];exact hlt
   have hin:=InAt.kept _ _ _ _ _ hb ((Za HC) k hlk)
   have S:=Zb (Et x l k hlk)
   obtain⟨y,hy⟩:∃ y,l[k]=y:=⟨_,rfl⟩
   rw[hy] at hin S
   obtain⟨g1,g2,ka,kn,kc,g3,_,_⟩:=hin
   have C1:Hid (∀ q,Wj x y=q→Calls Tryz.prog 187 #[.agg #[.int .i64 y.1,.int .i64 y.2.1,.slice ka kn kc],.pointer (some ⟨p,0,none⟩)] wr fun e w'=>e = .returned (.bool q)∧Below wr.heap.size wr w'):=
    fun q hq=>Zbz y.1 y.2.1 x.1 x.2.1 ka kn kc p q wr (Zc hb (Za H1)) (Zc hb (Za H2)) (World.block_lt_of_cell? _ _ (Zc hb (Za H1))) hq
   by_cases hs:Wj x y=true
   ·have S2:Hid (Ri x l 0=k):=by show _=_;rw[Za A,Za S,if_pos hs]
    have C2:=Zb ((Za C1) true hs)
    clear S A hs C1 hb hy
    go_wp2_with fail
    refine (Za C2).mono ?_
    rintro e w' ⟨rfl,hb'⟩
    have HB':=Zb (Ze (Za HB) hb')
    clear hb'
    go_wp2
    go_ret
    exact⟨by rw[Za S2];rfl,Za HB'⟩
   ·have hs':Wj x y=false:=by simpa using hs
    have S2:Hid (Ri x l 0=Ri x (l.drop (k+1)) (k+1)):=by show _=_;rw[Za A,Za S,if_neg hs]
    have C2:=Zb ((Za C1) false hs')
    clear S A hs hs' C1 hb hy
    go_wp2_with fail
    refine (Za C2).mono ?_
    rintro e w' ⟨rfl,hb'⟩
    have HB':=Zb (Ze (Za HB) hb')
    clear hb'
    go_wp2
    go_roundw
    case rel=>exact⟨k+1,by omega,by go_num,S2,Za HB'⟩
    case measure=>simp[intOf];omega
  ·have S2:Hid (Ri x l 0 = -1):=by
    show _=_
    rw[Za A,List.drop_of_length_le (by rw[Za HZ];omega)];rfl
   clear A hb
   go_wp2
   go_ret
   exact⟨by rw[Za S2];rfl,Za HB⟩
theorem Mn(a:Option Addr)(c:Nat)(v:Value)(w:World) :
  Calls Tryz.prog 223 #[.slice a 0 c,v] w fun e w'=>e = .returned (.int .i64 (-1))∧w=w':=by
 go_enter Tryz.func223,Tryz.ntmps223
 go_wp2
 refine wp_loop_rounds 1 ?_
 rw[rounds_succ]
 go_wp2
 go_ret
 exact⟨rfl,rfl⟩
theorem Ds(a:Option Addr)(n c:Nat)(l:List InD)(x:InD)(p:Nat)(w:World)(hn:n≤6)(h:InsAt w a n l)
  (h1:w.cell? ⟨p,0,none⟩=some (.int .i64 x.1)) (h2:w.cell? ⟨p,1,none⟩=some (.int .i64 x.2.1)) :
  Calls Tryz.prog 223 #[.slice a n c,.func (.func 187) #[] #[.pointer (some ⟨p,0,none⟩)]] w fun e w'=>e = .returned (.int .i64 (Ri x l 0))∧Below w.heap.size w w':=by
 obtain⟨hz,hc⟩:=h
 by_cases h0:n=0
 ·subst h0
  have e:l=[]:=List.length_eq_zero_iff.1 hz
  subst e
  exact (Mn a c _ w).mono fun e w' ⟨q1,q2⟩=>⟨q1,q2 ▸ Below.refl _ _⟩
 ·obtain⟨b,off,rfl,_,hcell⟩:=hc (by omega)
  exact Mm b off n c l x p w hz hn hcell h1 h2
theorem J8(a:Option Addr)(n c:Nat)(l:List InD)(x:InD)(p:Nat)(o:Bool)(w:World)(hn:n≤6)(h:InsAt w a n l)
  (h1:w.cell? ⟨p,0,none⟩=some (.int .i64 x.1)) (h2:w.cell? ⟨p,1,none⟩=some (.int .i64 x.2.1)) (ho:l.any (Wj x)=o) :
  Calls Tryz.prog 186 #[.slice a n c,.func (.func 187) #[] #[.pointer (some ⟨p,0,none⟩)]] w fun e w'=>e = .returned (.bool o)∧Below w.heap.size w w':=by
 have E:Hid (decide (0≤Ri x l 0)=o):=by show _=_;rw[B8,ho]
 have C:=Ds a n c l x p w hn h h1 h2
 obtain⟨z,hz⟩:∃ z,Ri x l 0=z:=⟨_,rfl⟩
 rw[hz] at C E
 have CC:=Zb C
 clear C hz h ho h1 h2
 cases o with
 | true=>
  have h0:0≤z:=of_decide_eq_true (Za E)
  go_enter Tryz.func186,Tryz.ntmps186
  go_wp2_with fail
  refine (Za CC).mono ?_
  rintro e w' ⟨rfl,hb⟩
  have HB:=Zb hb
  clear hb
  go_wp2
  go_ret
  exact⟨rfl,Za HB⟩
 | false=>
  have h2:decide (0≤z)=false:=Za E
  have h1:z<0:=by have:=of_decide_eq_false h2;omega
  go_enter Tryz.func186,Tryz.ntmps186
  go_wp2_with fail
  refine (Za CC).mono ?_
  rintro e w' ⟨rfl,hb⟩
  have HB:=Zb hb
  clear hb
  go_wp2
  go_ret
  exact⟨rfl,Za HB⟩
theorem Vx(h:Int)(b:Bool)(w:World)(hb:okH h=b) :
  Calls Tryz.prog 167 #[.int .i64 h] w fun e w'=>e = .returned (.bool b)∧w=w':=by
 have C:=Zb (Yq h 1 1000 b w (by rw[←hb];rfl))
 clear hb
 go_enter Tryz.func167,Tryz.ntmps167
 go_wp2_with fail
 refine (Za C).mono ?_
 rintro e w' ⟨rfl,rfl⟩
 go_wp2
 go_ret
 exact⟨rfl,rfl⟩
theorem Ao(a:Option Addr)(len cap:Nat)(l:List (Int×Int))(x:Int)(w:World)(hx:chk l=x)(h:OpsAt w a len l) :
  Calls Tryz.prog 185 #[.slice a len cap] w fun e w'=>e = .returned (.int .i64 x)∧Below w.heap.size w w':=by
 subst hx;exact Ua a len cap l w h
theorem Mz(x:Zg)(a:Option Addr)(n c:Nat)(z:Int)(w:World)(hO:OpsAt w a n (ck x))(hz:ck1 x=z) :
  Calls Tryz.prog 164 #[cnV x a n c] w fun e w'=>e = .returned (.int .i64 z)∧Below w.heap.size w w':=by
 obtain⟨x1,x2,x3,k,x4,x5⟩:=x
 unfold cnV
 simp only[cv,ck,ch,cr] at hO ⊢
 obtain⟨X,hX⟩:∃ X,X=w.alloc (.cells #[.int .i64 x1,.int .i64 x2,.int .i64 x3,.slice a n c,.int .i64 x4,.bool x5] 103):=⟨_,rfl⟩
 obtain⟨n0,n1,n2,n3,n4,n5⟩:=P6 w (.int .i64 x1) (.int .i64 x2) (.int .i64 x3) (.slice a n c) (.int .i64 x4) (.bool x5) 103
 rw[←hX] at n0 n1 n2 n3 n4 n5
 have hb:Below w.heap.size w X:=by rw[hX];exact Zf _ _
 have HB:=Zb hb
 have HO:=Zb (hO.later hb)
 have N2:=Zb n2
 have N3:=Zb n3
 have N4:=Zb n4
 clear hO hb n5
 cases hp:Zfn (x1,x2) with
 | false=>
  have e:z=3:=by rw[←hz];unfold ck1;rw[if_pos (by unfold okC pt;rw[hp];rfl)]
  subst e
  have C1:=Zb (Qk x1 x2 false X hp)
  clear hp hz
  go_enter Tryz.func164,Tryz.ntmps164
  go_wp2_with fail
  rw[←hX]
  clear hX
  go_wp2_with fail
  refine (Za C1).mono ?_
  rintro e w2 ⟨rfl,hb2⟩
  have HB2:=Zb (Ze (Za HB) hb2)
  clear hb2
  go_wp2
  go_ret
  exact⟨rfl,Za HB2⟩
 | true=>
  have C1:=Zb (Qk x1 x2 true X hp)
  cases hv:okV x3 with
  | false=>
   have e:z=3:=by rw[←hz];unfold ck1;rw[if_pos (by unfold okC pt;rw[hp];simp only[cv];rw[hv];rfl)]
   subst e
   have C2:=Zb (fun w=>Yq x3 1 1000000000 false w (by rw[←hv];rfl))
   clear hp hz hv
   go_enter Tryz.func164,Tryz.ntmps164
   go_wp2_with fail
   rw[←hX]
   clear hX
   go_wp2_with fail
   refine (Za C1).mono ?_
   rintro e w2 ⟨rfl,hb2⟩
   have m2:=Zc hb2 (Za N2)
   have hs2:w.heap.size<w2.heap.size:=World.block_lt_of_cell? _ _ m2
   have HB2:=Zb (Ze (Za HB) hb2)
   clear hb2
   go_wp2_with fail
   refine ((Za C2) _).mono ?_
   rintro e w3 ⟨rfl,rfl⟩
   go_wp2
   go_ret
   exact⟨rfl,Za HB2⟩
  | true=>
   have C2:=Zb (fun w=>Yq x3 1 1000000000 true w (by rw[←hv];rfl))
   cases hh:okH x4 with
   | false=>
    have e:z=3:=by rw[←hz];unfold ck1;rw[if_pos (by unfold okC pt;rw[hp];simp only[cv,ch];rw[hv,hh];rfl)]
    subst e
    have C3:=Zb (fun w=>Vx x4 false w hh)
    clear hp hz hv hh
    go_enter Tryz.func164,Tryz.ntmps164
    go_wp2_with fail
    rw[←hX]
    clear hX
    go_wp2_with fail
    refine (Za C1).mono ?_
    rintro e w2 ⟨rfl,hb2⟩
    have m2:=Zc hb2 (Za N2)
    have m4:=Zc hb2 (Za N4)
    have hs2:w.heap.size<w2.heap.size:=World.block_lt_of_cell? _ _ m2
    have HB2:=Zb (Ze (Za HB) hb2)
    clear hb2
    go_wp2_with fail
    refine ((Za C2) _).mono ?_
    rintro e w3 ⟨rfl,rfl⟩
    go_wp2_with fail
    refine ((Za C3) _).mono ?_
    rintro e w3 ⟨rfl,rfl⟩
    go_wp2
    go_ret
    exact⟨rfl,Za HB2⟩
   | true=>
    have e:chk k=z:=by rw[←hz];unfold ck1;rw[if_neg (by unfold okC pt;rw[hp];simp only[cv,ch];rw[hv,hh];decide)];rfl
    have C3:=Zb (fun w=>Vx x4 true w hh)
    have E:=Zb e
    clear hp hz hv hh e
    go_enter Tryz.func164,Tryz.ntmps164
    go_wp2_with fail
    rw[←hX]
    clear hX
    go_wp2_with fail
    refine (Za C1).mono ?_
    rintro e w2 ⟨rfl,hb2⟩
    have m2:=Zc hb2 (Za N2)
    have m3:=Zc hb2 (Za N3)
    have m4:=Zc hb2 (Za N4)
    have hs2:w.heap.size<w2.heap.size:=World.block_lt_of_cell? _ _ m2
    have C4:=Zb (Ao a n c k z w2 (Za E) ((Za HO).later hb2))
    have HB2:=Zb (Ze (Za HB) hb2)
    clear hb2
    go_wp2_with fail
    refine ((Za C2) _).mono ?_
    rintro e w3 ⟨rfl,rfl⟩
    go_wp2_with fail
    refine ((Za C3) _).mono ?_
    rintro e w3 ⟨rfl,rfl⟩
    go_wp2_with fail
    refine (Za C4).mono ?_
    rintro e w4 ⟨rfl,hb4⟩
    have HB4:=Zb (Ze (Za HB2) hb4)
    clear hb4
    go_wp2
    go_ret
    exact⟨rfl,Za HB4⟩
theorem Sm(w:World)(n:Nat):Below w.heap.size w (w.drewN n):=⟨rfl,rfl,rfl,Nat.le_refl _,fun _ _=>rfl⟩
theorem CoinAt.val{w:World}{b o:Nat}{x:Zg}(h:CoinAt w b o x):∃ a n c,w.cell? ⟨b,o,none⟩=some (.int .i64 x.1)∧w.cell? ⟨b,o+1,none⟩=some (.int .i64 x.2.1)∧w.cell? ⟨b,o+2,none⟩=some (.int .i64 (cv x)) ∧
  w.cell? ⟨b,o+3,none⟩=some (.slice a n c)∧w.cell? ⟨b,o+4,none⟩=some (.int .i64 (ch x))∧w.cell? ⟨b,o+5,none⟩=some (.bool (cr x))∧OpsAt w a n (ck x)∧SlOk a n c:=by
 obtain⟨h1,h2,h3,⟨a,n,c,h4,h5,h6⟩,h7,h8⟩:=h
 exact⟨a,n,c,h1,h2,h3,h4,h7,h8,h5,h6⟩
theorem M9(b off n c:Nat)(L:List Zg)(w:World)(hn:n≤720)(hz:L.length=n)(hc:∀ i (h:i<L.length),CoinAt w b (off+i*6) L[i]) :
  Calls Tryz.prog 137 #[.slice (some ⟨b,off,none⟩) n c] w fun e w'=>e = .returned (.int .i64 (Yh none 0 L))∧Below w.heap.size w w':=by
 have HC:=Zb hc
 have HZ:=Zb hz
 clear hc hz
 go_enter Tryz.func137,Tryz.ntmps137
 go_wp2
 go_loopw [3,12] (fun sv i wr=>∃ (k:Nat) (S:Int),k≤n∧i = .int .i64 k∧sv = .int .i64 S∧0≤S∧S≤1000000000∧Hid (Yh none 0 L=Yh (Wq L k) S (L.drop k))∧Below w.heap.size w wr) (fun _ i _=>n - (intOf i).toNat)
 case atStart=>exact⟨0,0,Nat.zero_le _,rfl,rfl,by decide,by decide,rfl,Below.refl _ _⟩
 case round=>
  obtain⟨k,S,hk,rfl,rfl,hS0,hS1,A,hb⟩:=hrel
  have HB:=Zb hb
  by_cases hlt:k<n
  ·have hlk:k<L.length:=by rw[Za HZ];exact hlt
   have hin:=CoinAt.kept _ _ _ _ _ hb ((Za HC) k hlk)
   have ST:=Zb (Cn L k hlk (Wq L k) S)
   have HL:Hid (∀ j,k=j+1→∃ q,Wq L k=some (pt q)∧CoinAt wr b (off+j*6) q):=fun j hj=>by
    have hj2:j<L.length:=by omega
    exact⟨L[j],by rw[hj];exact Qb L j hj2,CoinAt.kept _ _ _ _ _ hb ((Za HC) j hj2)⟩
   have HN:Hid (k+1≤L.length→Wq L (k+1)=some (pt L[k])):=fun _=>Qb L k hlk
   obtain⟨x,hx⟩:∃ x,L[k]=x:=⟨_,rfl⟩
   rw[hx] at hin ST HN
   have A2:Hid (Yh none 0 L=if ck1 x≠0 then ck1 x else if Jn (Wq L k) x=false then 6 else if 1000000000<S+cv x then 12 else Yh (some (pt x)) (S+cv x) (L.drop (k+1))):=by show _=_;rw[Za A,Za ST]
   have PN:Hid (Wq L (k+1)=some (pt x)):=(Za HN) hlk
   obtain⟨a,m,d,g1,g2,g3,g4,g5,g6,hO,_⟩:=hin.val
   obtain⟨X,hX⟩:∃ X,X=wr.alloc (.cells #[.int .i64 x.1,.int .i64 x.2.1,.int .i64 (cv x),.slice a m d,.int .i64 (ch x),.bool (cr x)] 103):=⟨_,rfl⟩
   obtain⟨n0,n1,n2,n3,n4,n5⟩:=P6 wr (.int .i64 x.1) (.int .i64 x.2.1) (.int .i64 (cv x)) (.slice a m d) (.int .i64 (ch x)) (.bool (cr x)) 103
   rw[←hX] at n0 n1 n2 n3 n4 n5
   have hbX:Below wr.heap.size wr X:=by rw[hX];exact Zf _ _
   have hsX:wr.heap.size<X.heap.size:=World.block_lt_of_cell? _ _ n0
   have HBX:=Zb hbX
   have HO:=Zb (hO.later hbX)
   have N0:=Zb n0
   have N1:=Zb n1
   have N2:=Zb n2
   obtain⟨z,hz⟩:∃ z,ck1 x=z:=⟨_,rfl⟩
   have C1:=Zb (Mz x a m d z X (Za HO) hz)
   rw[hz] at A2
   have HX:=Zb hX
   by_cases hz0:z=0
   ·subst hz0
    have K:=Yp hz
    have hv1:1≤cv x:=K.2.2.2.2.1
    have hv2:cv x≤1000000000:=K.2.2.2.2.2.1
    have A3:Hid (Yh none 0 L=if Jn (Wq L k) x=false then 6 else if 1000000000<S+cv x then 12 else Yh (some (pt x)) (S+cv x) (L.drop (k+1))):=by
     have h:=Za A2
     rw[if_neg (by decide)] at h
     exact h
    clear K A A2 ST HN hx hin hO hb hz n3 n4 n5 hX
    obtain⟨v,hv⟩:∃ v,cv x=v:=⟨_,rfl⟩
    rw[hv] at hv1 hv2 A3 n2 N2 g3 HX
    unfold cnV at C1
    rw[hv] at C1
    by_cases hk0:k=0
    ·have A4:Hid (Yh none 0 L=if 1000000000<S+v then 12 else Yh (some (pt x)) (S+v) (L.drop (k+1))):=by
      have h:=Za A3
      rw[hk0] at h
      rw[if_neg (by show ¬true=false;decide)] at h
      rw[hk0]
      exact h
     clear A3 HL
     have hg:decide ((0:Int)<(k:Int))=false:=by rw[hk0];decide
     have hg2:decide (0<k)=false:=by rw[hk0];decide
     clear hk0
     go_wp2_with fail
     rw[←Za HX]
     go_wp2_with fail
     refine (Za C1).mono ?_
     rintro e w2 ⟨rfl,hb2⟩
     have m2:=Zc hb2 (Za N2)
     have hs2:wr.heap.size<w2.heap.size:=World.block_lt_of_cell? _ _ m2
     have HB2:=Zb (Ze (Ze (Za HB) (Za HBX)) hb2)
     clear hb2
     go_wp2_with fail
     go_quiet (fail)
     by_cases hf:1000000000<S+v
     ·have R:Hid (Yh none 0 L=12):=by show _=_;rw[Za A4,if_pos hf]
      clear A4
      go_wp2
      go_ret
      exact⟨by rw[Za R];rfl,Ze (Za HB2) (Sm _ _)⟩
     ·have R:Hid (Yh none 0 L=Yh (Wq L (k+1)) (S+v) (L.drop (k+1))):=by show _=_;rw[Za A4,if_neg hf,Za PN]
      clear A4
      go_wp2
      go_roundw
      case rel=>exact⟨k+1,S+v,by omega,by go_num,rfl,by omega,by omega,R,Ze (Za HB2) (Sm _ _)⟩
      case measure=>simp[intOf];omega
    ·obtain⟨j,rfl⟩:∃ j,k=j+1:=⟨k - 1,by omega⟩
     obtain⟨q,hq,hqa⟩:=(Za HL) j rfl
     obtain⟨_,_,_,q1,q2,_,_,_,_,_,_⟩:=hqa.val
     have A5:Hid (Yh none 0 L=if lt (pt q) (pt x)=false then 6 else if 1000000000<S+v then 12 else Yh (some (pt x)) (S+v) (L.drop (j+1+1))):=by
      have h:=Za A3
      rw[hq] at h
      exact h
     have Q1:=Zb (Zc hbX q1)
     have Q2:=Zb (Zc hbX q2)
     have G:Hid (decide ((0:Int)<((j+1:Nat):Int))=true):=by show _=_;simp
     have hj1:(j:Int)<(n:Int):=by omega
     have hw2:IntKind.i64.wrap (j:Int)=(j:Int):=by rw[IntKind.wrap_i64];omega
     have hw3:IntKind.i64.wrap ((j:Int)+1 - 1)=(j:Int):=by rw[IntKind.wrap_i64];omega
     have hj2:j<n:=by omega
     have hj0:(0:Int)≤(j:Int):=by omega
     have hw1:IntKind.i64.wrap (((j+1:Nat):Int) - 1)=(j:Int):=by rw[IntKind.wrap_i64];omega
     clear A3 HL hk0 hq hqa q1 q2
     cases hl:lt (pt q) (pt x) with
     | false=>
      have R:Hid (Yh none 0 L=6):=by show _=_;rw[Za A5,if_pos hl]
      obtain⟨y,hy⟩:∃ y,P2 (pt q) (pt x)=y:=⟨_,rfl⟩
      have hy0:0≤y:=by
       rw[←hy]
       refine Int.not_lt.1 fun h=>?_
       rw[Mq,hl] at h;exact Bool.noConfusion h
      have CC:=Zb (fun w=>Ro (pt q) (pt x) y w hy)
      unfold pt at CC
      clear A5 hl hy
      go_wp2_with fail
      rw[←Za HX]
      go_wp2_with fail
      refine (Za C1).mono ?_
      rintro e w2 ⟨rfl,hb2⟩
      have m0:=Zc hb2 (Za N0)
      have m1:=Zc hb2 (Za N1)
      have p0:=Zc hb2 (Za Q1)
      have p1:=Zc hb2 (Za Q2)
      have hs2:wr.heap.size<w2.heap.size:=World.block_lt_of_cell? _ _ m0
      have HB2:=Zb (Ze (Ze (Za HB) (Za HBX)) hb2)
      clear hb2 n0 n1 n2 g1 g2 g3 g4 g5 g6
      have hG:=Za G
      go_wp2_with fail
      go_region_held3 (fun w'=>Below w2.heap.size w2 w'∧w'.cell? ⟨wr.heap.size,0,none⟩=some (.int .i64 x.1)∧w'.cell? ⟨wr.heap.size,1,none⟩=some (.int .i64 x.2.1)∧w'.cell? ⟨b,off+j*6,none⟩=some (.int .i64 q.1)∧w'.cell? ⟨b,off+j*6+1,none⟩=some (.int .i64 q.2.1))
       (first
       | exact⟨Zi _,m0,m1,p0,p1⟩
       | (go_split_ands;refine⟨Ze (by assumption) hbc,Zc hbc (by assumption),Zc hbc (by assumption),Zc hbc (by assumption),Zc hbc (by assumption)⟩))
       (first|(go_at_call 165;refine ((Za CC) _).mono ?_;rintro e w' ⟨rfl,hbc⟩))
      rename_i hH
      have HH:=Zb (Ze (Za HB2) hH.1)
      clear hH
      go_wp2
      go_ret
      exact⟨by rw[Za R];rfl,Za HH⟩
     | true=>
      have A4:Hid (Yh none 0 L=if 1000000000<S+v then 12 else Yh (some (pt x)) (S+v) (L.drop (j+1+1))):=by
       have h:=Za A5
       rw[if_neg (by rw[hl];decide)] at h
       exact h
      obtain⟨y,hy⟩:∃ y,P2 (pt q) (pt x)=y:=⟨_,rfl⟩
      have hy0:y<0:=by rw[←hy,Mq];exact hl
      have CC:=Zb (fun w=>Ro (pt q) (pt x) y w hy)
      unfold pt at CC
      clear A5 hl hy
      go_wp2_with fail
      rw[←Za HX]
      go_wp2_with fail
      refine (Za C1).mono ?_
      rintro e w2 ⟨rfl,hb2⟩
      have m0:=Zc hb2 (Za N0)
      have m1:=Zc hb2 (Za N1)
      have M2:=Zb (Zc hb2 (Za N2))
      have p0:=Zc hb2 (Za Q1)
      have p1:=Zc hb2 (Za Q2)
      have hs2:wr.heap.size<w2.heap.size:=World.block_lt_of_cell? _ _ m0
      have HB2:=Zb (Ze (Ze (Za HB) (Za HBX)) hb2)
      clear hb2 n0 n1 n2 g1 g2 g3 g4 g5 g6
      have hG:=Za G
      go_wp2_with fail
      go_region_held3 (fun w'=>Below w2.heap.size w2 w'∧w'.cell? ⟨wr.heap.size,0,none⟩=some (.int .i64 x.1)∧w'.cell? ⟨wr.heap.size,1,none⟩=some (.int .i64 x.2.1)∧w'.cell? ⟨b,off+j*6,none⟩=some (.int .i64 q.1)∧w'.cell? ⟨b,off+j*6+1,none⟩=some (.int .i64 q.2.1))
       (first
       | exact⟨Zi _,m0,m1,p0,p1⟩
       | (go_split_ands;refine⟨Ze (by assumption) hbc,Zc hbc (by assumption),Zc hbc (by assumption),Zc hbc (by assumption),Zc hbc (by assumption)⟩))
       (first|(go_at_call 165;refine ((Za CC) _).mono ?_;rintro e w' ⟨rfl,hbc⟩))
      rename_i hH
      have HH:=Zb (Ze (Za HB2) hH.1)
      have m2:=Zc hH.1 (Za M2)
      have hs3:=World.block_lt_of_cell? _ _ m2
      clear hH
      by_cases hf:1000000000<S+v
      ·have R:Hid (Yh none 0 L=12):=by show _=_;rw[Za A4,if_pos hf]
       clear A4
       go_wp2
       go_ret
       exact⟨by rw[Za R];rfl,Za HH⟩
      ·have R:Hid (Yh none 0 L=Yh (Wq L (j+1+1)) (S+v) (L.drop (j+1+1))):=by show _=_;rw[Za A4,if_neg hf,Za PN]
       clear A4
       go_wp2
       go_roundw
       case rel=>exact⟨j+1+1,S+v,by omega,by go_num,rfl,by omega,by omega,R,Za HH⟩
       case measure=>simp[intOf];omega
   ·have R:Hid (Yh none 0 L=z):=by show _=_;rw[Za A2,if_pos hz0]
    have gz:(z != 0)=true:=by simp[hz0]
    unfold cnV at C1
    clear A A2 ST HN HL PN hx hin hO hb hz n3 n4 n5 hX hz0
    go_wp2_with fail
    rw[←Za HX]
    go_wp2_with fail
    refine (Za C1).mono ?_
    rintro e w2 ⟨rfl,hb2⟩
    have HB2:=Zb (Ze (Ze (Za HB) (Za HBX)) hb2)
    clear hb2
    go_wp2
    go_ret
    exact⟨by rw[Za R];rfl,Za HB2⟩
  ·have R:Hid (Yh none 0 L=0):=by show _=_;rw[Za A,Fj L k (by rw[Za HZ];omega)]
   clear A hb
   go_wp2
   go_ret
   exact⟨by rw[Za R];rfl,Za HB⟩
theorem Nb(a:Option Addr)(n c:Nat)(w:World)(h:720<n) :
  Calls Tryz.prog 137 #[.slice a n c] w fun e w'=>e = .returned (.int .i64 2)∧w=w':=by
 go_enter Tryz.func137,Tryz.ntmps137
 go_wp2
 go_ret
 exact⟨rfl,rfl⟩
theorem Na(a:Option Addr)(c:Nat)(w:World) :
  Calls Tryz.prog 137 #[.slice a 0 c] w fun e w'=>e = .returned (.int .i64 0)∧w=w':=by
 go_enter Tryz.func137,Tryz.ntmps137
 go_wp2
 refine wp_loop_rounds 1 ?_
 rw[rounds_succ]
 go_wp2
 go_ret
 exact⟨rfl,rfl⟩
theorem U6(a:Option Addr)(n c:Nat)(L:List Zg)(z:Int)(w:World)(h:CoinsAt w a n L)(hz:Yi L=z) :
  Calls Tryz.prog 137 #[.slice a n c] w fun e w'=>e = .returned (.int .i64 z)∧Below w.heap.size w w':=by
 subst hz
 obtain⟨hl,hc⟩:=h
 unfold Yi
 rw[hl]
 by_cases h1:720<n
 ·rw[if_pos h1]
  exact (Nb a n c w h1).mono fun e w' ⟨x,y⟩=>⟨x,y ▸ Below.refl _ _⟩
 ·rw[if_neg h1]
  by_cases h2:n=0
  ·subst h2
   have e:L=[]:=List.length_eq_zero_iff.1 hl
   subst e
   exact (Na a c w).mono fun e w' ⟨x,y⟩=>⟨x,y ▸ Below.refl _ _⟩
  ·obtain⟨b,off,rfl,_,hcell⟩:=hc (by omega)
   exact M9 b off n c L w (by omega) hl hcell
def laid(L:List Value)(off:Nat)(cs:List Value):List Value:=L.take off++cs++L.drop (off+cs.length)
theorem Ue(L:List Value)(off:Nat)(cs:List Value)(h:off+cs.length≤L.length):(laid L off cs).length=L.length:=by simp[laid];omega
variable {P : Program}
theorem Vh(w:World)(dT sT ty elem:TypeId)(g o dLen dCap:Nat)(a:Addr)(sLen sCap k:Nat)(cur:Array Value)(t:TypeId)(cs:List Value)
  (hu:P.underlying dT=some (.slice elem)) (hs:(P.info? elem).map (·.size)=some k)
  (hg:w.heap[g]? = some (.cells cur t (0,0))) (hn:cs.length=Nat.min sLen dLen*k)
  (hsrc:∀ j v,cs[j]? = some v→w.cell? (a.add j)=some v) (hfit:o+cs.length≤cur.size) (h1:∀ v∈cs,v.oneCell'=true) :
  (Builtin.copy_ #[dT,sT] ty #[.slice (some ⟨g,o,none⟩) dLen dCap,.slice (some a) sLen sCap]).run P w =
   .ok (goInt (Nat.min sLen dLen)) (w.setRow g (laid cur.toList o cs).toArray):=by
 have hst:=run_storeCells_at P g o t cs 0 cur w hg (by simpa using hfit) h1
 cases hq:P.info? elem with
 | none=>simp[hq] at hs
 | some i=>
  have hi:i.size=k:=by simpa[hq] using hs
  have hl:=run_firstCells_some (P:=P) w k (Nat.min sLen dLen) a sLen sCap cs hn hsrc
  simp only[Nat.add_zero] at hst
  simp[Builtin.copy_,run_underlying hu,Builtin.lenOf,sizeOf,typeInfo,hq,hi,hl,hst,laid]
theorem Gn(w:World)(t e ty:TypeId)(z:Value)(ht:P.underlying t=some (.slice e))(hv:∀ w,(zeroValue e).run P w = .ok z w)(g o n c k:Nat)(cur:Array Value)(te:TypeId)(cs:List Value)(hn:0<n)
  (hcs:(Builtin.zeroCells z.cells n).toList=cs) (hg:w.heap[g]? = some (.cells cur te (0,0))) (hk:cs.length=n*k) (hfit:o+n*k≤cur.size) (h1:∀ v∈cs,v.oneCell'=true) :
  (Builtin.clear_ #[t] ty #[.slice (some ⟨g,o,none⟩) n c]).run P w = .ok (.tuple #[]) (w.setRow g (laid cur.toList o cs).toArray):=by
 have hst:=run_storeCells_at P g o te cs 0 cur w hg (by simpa[hk] using hfit) h1
 simp only[Nat.add_zero] at hst
 obtain⟨m,rfl⟩:∃ m,n=m+1:=⟨n - 1,by omega⟩
 simp[Builtin.clear_,run_underlying ht,hv,hcs,hst,laid]
theorem Rd{ops:Array Oper}{o:Oper}{a:Act}{w:World}{K:Act→World→Prop}{Q:Exit→Act→World→Prop}{E:Prop}
  (hg:o.guard=none) (s x:Operand) (t:TypeId) (hop:o.op=Op.call { callee:=Callee.builtin Builtin.append,args:=#[s,x],argTypes:=#[t,t] })
  (e:TypeId) (i:TypeInfo) (size:Nat) (h1:P.underlying t=some (.slice e)) (h2:P.info? e=some i) (h4:i.size=size)
  (b n cap:Nat) (hs:a.eval s = .slice (some ⟨b,0,none⟩) n cap)
  (ad:Addr) (m c:Nat) (news:List Value) (hx:a.eval x = .slice (some ad) m c) (hn:news.length=m*size) (hc:∀ j u,news[j]? = some u→w.cell? (ad.add j)=some u) (h1c:∀ u∈news,u.oneCell'=true)
  (hroom:n+m≤cap) (cur:Array Value) (te:TypeId) (hrow:w.heap[b]? = some (.cells cur te (0,0))) (hfit:n*size+news.length≤cur.size)
  (hK:K (a.put o.dst (.slice (some ⟨b,0,none⟩) (n+m) cap)) (w.setRow b (laid cur.toList (n*size) news).toArray)) :
  if Region.wanted o (yielded ops a.tmps)=true then Oper.wp P o a w K Q else E:=by
 have hw:Region.wanted o (yielded ops a.tmps)=true:=by simp[Region.wanted,hg]
 rw[if_pos hw]
 subst h4
 have hfc:=run_firstCells_some (P:=P) w i.size m ad m c news hn hc
 have hst:=run_storeCells_at P b (n*i.size) te news 0 cur w hrow (by simpa using hfit) h1c
 simp only[Nat.add_zero] at hst
 have hrun:(Builtin.append_ #[t,t] o.type #[.slice (some ⟨b,0,none⟩) n cap,.slice (some ad) m c]).run P w = .ok (.slice (some ⟨b,0,none⟩) (n+m) cap) (w.setRow b (laid cur.toList (n*i.size) news).toArray):=by
  simp[Builtin.append_,run_underlying h1,sizeOf,typeInfo,h2,Builtin.lenOf,hroom,hfc,Addr.add_lit,hst,laid]
 unfold Oper.wp
 simp[execOp,hop,resolve,invoke,builtin,hs,hx,hrun,Result.andThen]
 exact hK
theorem Vv(w:World){ops:Array Oper}{rest:List Oper}{o:Oper}{a:Act}{Q:Exit→Act→World→Prop}(hgd:o.guard=none)(d s:Operand)(t t':TypeId)
  (ho:o.op = .call { callee:=.builtin .append,args:=#[d,s],argTypes:=#[t,t'] }) (v u:Value) (hd:a.eval d=v) (hs:a.eval s=u) {v':Value} {w':World}
  (hr:(Builtin.append_ #[t,t'] o.type #[v,u]).run P w = .ok v' w') (h:wpList P ops Q rest (a.put o.dst v') w'):wpList P ops Q (o :: rest) a w:=by
 refine wpList_plain hgd fun K hK=>?_
 unfold Oper.wp
 simp[execOp,ho,resolve,invoke,builtin,hd,hs,hr,Result.andThen]
 exact hK _ _ h
abbrev CV:=Zg×Option Addr×Nat×Nat
def Zj:List CV→List Value
 | []=>[]
 | x :: r=>.int .i64 x.1.1 :: .int .i64 x.1.2.1 :: .int .i64 (cv x.1) :: .slice x.2.1 x.2.2.1 x.2.2.2 :: .int .i64 (ch x.1) :: .bool (cr x.1) :: Zj r
theorem Zy:∀ l:List CV,(Zj l).length=l.length*6
 | []=>rfl
 | _ :: r=>by simp only[Zj,List.length_cons,Zy r];omega
theorem Zu:∀ l m:List CV,Zj (l++m)=Zj l++Zj m
 | [],_=>rfl
 | _ :: r,m=>by simp only[List.cons_append,Zj,Zu r m]
theorem U3:∀ (l:List CV) (i:Nat) (h:i<l.length),(Zj l)[i*6]? = some (.int .i64 (l[i]).1.1)∧(Zj l)[i*6+1]? = some (.int .i64 (l[i]).1.2.1)∧(Zj l)[i*6+2]? = some (.int .i64 (cv (l[i]).1))∧(Zj l)[i*6+3]? = some (.slice (l[i]).2.1 (l[i]).2.2.1 (l[i]).2.2.2)∧(Zj l)[i*6+4]? = some (.int .i64 (ch (l[i]).1))∧(Zj l)[i*6+5]? = some (.bool (cr (l[i]).1))
 | [],_,h=>absurd h (by simp)
 | x :: r,0,_=>⟨rfl,rfl,rfl,rfl,rfl,rfl⟩
 | x :: r,i+1,h=>by
  have:=U3 r i (by simpa using h)
  have e:(i+1)*6=i*6+6:=by omega
  rw[e]
  exact this
theorem Y6:∀ (l:List CV) (u:Value),u∈Zj l→u.oneCell'=true
 | [],u,h=>by cases h
 | x :: r,u,h=>by
  simp only[Zj,List.mem_cons] at h
  rcases h with rfl|rfl|rfl|rfl|rfl|rfl|h
  ·rfl
  ·rfl
  ·rfl
  ·rfl
  ·rfl
  ·rfl
  ·exact Y6 r u h
theorem Vd:∀ (l:List CV) (i:Nat),(Zj l).take (i*6)=Zj (l.take i)
 | [],i=>by simp[Zj]
 | x :: r,0=>by simp[Zj]
 | x :: r,i+1=>by
  rw[show (i+1)*6=i*6+6 by omega,List.take_succ_cons]
  simp only[Zj,List.take_succ_cons,Vd r i]
theorem Ve:∀ (l:List CV) (i:Nat),(Zj l).drop (i*6)=Zj (l.drop i)
 | [],i=>by simp[Zj]
 | x :: r,0=>by simp[Zj]
 | x :: r,i+1=>by
  rw[show (i+1)*6=i*6+6 by omega,List.drop_succ_cons]
  simp only[Zj,List.drop_succ_cons,Ve r i]
def LkAt(w:World)(x:CV):Prop:=OpsAt w x.2.1 x.2.2.1 (ck x.1)∧SlOk x.2.1 x.2.2.1 x.2.2.2
theorem LkAt.later{w w':World}{x:CV}(h:LkAt w x)(hb:Below w.heap.size w w'):LkAt w' x:=⟨h.1.later hb,h.2⟩
theorem Z3{w:World}{base:Nat}{v:Value}{K:List CV}(h:w.ownsRow base 103 6 v K.length (Zj K))(hl:∀ x∈K,LkAt w x):∃ a c,v = .slice a K.length c∧CoinsAt w a K.length (K.map (·.1))∧SlOk a K.length c:=by
 rcases h.2 with ⟨rfl,hn⟩|⟨g,cap,cur,rfl,hg,hh,h1,h2,h3,h4⟩
 ·rw[hn]
  have e:K=[]:=List.length_eq_zero_iff.1 hn
  subst e
  exact⟨none,0,rfl,RowsAt.nil _ _,Nat.le_refl _,Nat.zero_le _,fun _=>⟨rfl,rfl⟩⟩
 ·refine⟨_,cap,rfl,⟨by simp,fun _=>⟨g,0,rfl,lt_of_block hh,fun i hi=>?_⟩⟩,h1,h2,fun e=>by cases e⟩
  rw[List.length_map] at hi
  obtain⟨f0,f1,f2,f3,f4,f5⟩:=U3 K i hi
  rw[List.getElem_map]
  refine⟨?_,?_,?_,⟨_,_,_,?_,(hl _ (List.getElem_mem hi)).1,(hl _ (List.getElem_mem hi)).2⟩,?_,?_⟩
  all_goals rw[Nat.zero_add,World.ownsRow.cellAt h _ (by omega)]
  ·exact f0
  ·exact f1
  ·exact f2
  ·exact f3
  ·exact f4
  ·exact f5
theorem Ug{w:World}{b off:Nat}:∀ {L:List Zg},(∀ i (h:i<L.length),CoinAt w b (off+i*6) L[i])→∃ K:List CV,K.map (·.1)=L∧(∀ x∈K,LkAt w x)∧∀ j u,(Zj K)[j]? = some u→w.cell? ⟨b,off+j,none⟩=some u:=by
 intro L h
 have h2:∀ k,k≤L.length→∃ K:List CV,K.map (·.1)=L.take k∧(∀ x∈K,LkAt w x)∧∀ j u,(Zj K)[j]? = some u→w.cell? ⟨b,off+j,none⟩=some u:=by
  intro k
  induction k with
  | zero=>intro _;exact⟨[],by simp,fun x hx=>(by cases hx),fun j u hj=>by simp[Zj] at hj⟩
  | succ k ih=>
   intro hk
   obtain⟨K,h1,h2,h3⟩:=ih (by omega)
   obtain⟨a,n,c,g1,g2,g3,g4,g5,g6,h5,h6⟩:=(h k (by omega)).val
   have hlen:K.length=k:=by have:=congrArg List.length h1;simpa[Nat.min_eq_left (show k≤L.length by omega)] using this
   refine⟨K++[(L[k],a,n,c)],by rw[List.map_append,h1,List.take_succ_eq_append_getElem (by omega)];rfl,fun x hx=>?_,fun j u hj=>?_⟩
   ·rcases List.mem_append.1 hx with hx|hx
    ·exact h2 x hx
    ·rw[List.mem_singleton.1 hx];exact⟨h5,h6⟩
   ·rw[Zu] at hj
    rcases Nat.lt_or_ge j (k*6) with q|q
    ·rw[List.getElem?_append_left (by rw[Zy,hlen];exact q)] at hj
     exact h3 j u hj
    ·rw[List.getElem?_append_right (by rw[Zy,hlen];exact q),Zy,hlen] at hj
     obtain⟨r,rfl⟩:∃ r,j=k*6+r:=⟨j - k*6,by omega⟩
     rw[Nat.add_sub_cancel_left] at hj
     rw[show off+(k*6+r)=off+k*6+r by omega]
     match r,hj with
     | 0,hj=>simp only[Zj,List.getElem?_cons_zero,Option.some.injEq] at hj;subst hj;exact g1
     | 1,hj=>simp only[Zj,List.getElem?_cons_zero,List.getElem?_cons_succ,Option.some.injEq] at hj;subst hj;exact g2
     | 2,hj=>simp only[Zj,List.getElem?_cons_zero,List.getElem?_cons_succ,Option.some.injEq] at hj;subst hj;exact g3
     | 3,hj=>simp only[Zj,List.getElem?_cons_zero,List.getElem?_cons_succ,Option.some.injEq] at hj;subst hj;exact g4
     | 4,hj=>simp only[Zj,List.getElem?_cons_zero,List.getElem?_cons_succ,Option.some.injEq] at hj;subst hj;exact g5
     | 5,hj=>simp only[Zj,List.getElem?_cons_zero,List.getElem?_cons_succ,Option.some.injEq] at hj;subst hj;exact g6
     | r+6,hj=>simp[Zj] at hj
 obtain⟨K,h1,h3⟩:=h2 L.length (Nat.le_refl _)
 exact⟨K,by rw[h1,List.take_length],h3⟩
def zeroC:Value:=.agg #[.int .i64 0,.int .i64 0,.int .i64 0,.slice none 0 0,.int .i64 0,.bool false]
theorem Tryz.infoCoin:(Tryz.prog.info? 103).map (fun i=>(i.zero,i.size,i.bytes))=some (some zeroC,6,64):=by kernel_rfl
theorem Yk{w:World}{base:Nat}{e:TypeId}{size:Nat}{v:Value}{n:Nat}{xs:List Value}(h:w.ownsRow base e size v n xs)(k:Nat)(hk:v.ownBlock=some k):base≤k:=by
 rcases h.2 with ⟨rfl,_⟩|⟨g,cap,cur,rfl,hg,_⟩
 ·cases hk
 ·cases hk;exact hg
theorem V3(w:World)(e:TypeId)(size:Nat):(w.alloc (.cells #[] e)).ownsRow w.heap.size e size (.slice (some ⟨w.heap.size,0,none⟩) 0 0) 0 []:=
 ⟨by simp,.inr ⟨w.heap.size,0,#[],rfl,Nat.le_refl _,heap_alloc_new w _,Nat.le_refl _,Nat.zero_le _,by simp,by simp⟩⟩
theorem Ux(w:World):Calls Tryz.prog 88 #[.slice none 0 0] w fun e w'=>e = .returned (.slice none 0 0)∧w=w':=by
 have he:=fun w=>Lib.run_eql_slice_nil (P:=Tryz.prog) w 29 103 none 0 0 0 0 Tryz.underlying29
 go_enter Tryz.func88,Tryz.ntmps88
 go_wp2
 go_ret
 exact⟨rfl,rfl⟩
theorem Xy(ad:Addr)(n c:Nat)(K:List CV)(w:World)(hn:n≤4096)(hz:K.length=n)(hc:∀ j u,(Zj K)[j]? = some u→w.cell? (ad.add j)=some u) :
  Calls Tryz.prog 88 #[.slice (some ad) n c] w fun e w'=>∃ v,e = .returned v∧w'.ownsRow w.heap.size 103 6 v n (Zj K)∧Below w.heap.size w w':=by
 obtain⟨i0,hi,hz0,hz1,hz2⟩:=info_parts Tryz.infoCoin
 have hb:=Zf w (.cells #[] 103)
 have HC:Hid (∀ j u,(Zj K)[j]? = some u→(w.alloc (.cells #[] 103)).cell? (ad.add j)=some u):=fun j u hj=>Zc hb (hc j u hj)
 have HB:=Zb hb
 have HZ:=Zb hz
 have HO:=Zb (V3 w 103 6)
 have he:=fun w=>Lib.run_eql_slice_nil (P:=Tryz.prog) w 29 103 (some ad) n c 0 0 Tryz.underlying29
 clear hc hb hz
 go_enter Tryz.func88,Tryz.ntmps88
 go_wp2_with (at_builtin;refine wpList_append_own _ rfl _ _ 29 rfl w.heap.size 103 i0 zeroC 6 64 Tryz.underlying29 hi hz0 hz1 hz2 rfl (by decide) _ _ _ rfl (Za HO) ad n c (Zj K) rfl (by rw[Zy,Za HZ]) (Za HC) (Y6 K) (by unfold maxLen;omega) (by omega) (Za HB).size ?_;intro v2 w3 hown3 hgrow3 _)
 have HW:Hid (w3.ownsRow w.heap.size 103 6 v2 n (Zj K)):=by show World.ownsRow _ _ _ _ _ _ _;simpa using hown3
 have HB3:=Zb ((Za HB).grown hgrow3 (Za HB).size (Yk (Za HO)))
 clear hown3 hgrow3
 go_wp2
 go_ret
 exact⟨v2,rfl,Za HW,Za HB3⟩
theorem Ra(a:Option Addr)(n c:Nat)(L:List Zg)(w:World)(hn:n≤4096)(h:CoinsAt w a n L)(hs:SlOk a n c) :
  Calls Tryz.prog 88 #[.slice a n c] w fun e w'=>∃ v,∃ K:List CV,e = .returned v∧K.map (·.1)=L∧(∀ x∈K,LkAt w x)∧w'.ownsRow w.heap.size 103 6 v K.length (Zj K)∧Below w.heap.size w w':=by
 obtain⟨hl,hc⟩:=h
 cases a with
 | none=>
  obtain⟨rfl,rfl⟩:=hs.2.2 rfl
  have e:L=[]:=List.length_eq_zero_iff.1 hl
  subst e
  exact (Ux w).mono fun e w' ⟨x,y⟩=>⟨_,[],x,rfl,fun _ hx=>(by cases hx),y ▸ ⟨rfl,.inl ⟨rfl,rfl⟩⟩,y ▸ Below.refl _ _⟩
 | some ad=>
  by_cases h0:n=0
  ·subst h0
   have e:L=[]:=List.length_eq_zero_iff.1 hl
   subst e
   exact (Xy ad 0 c [] w hn rfl (fun j u hj=>by simp[Zj] at hj)).mono fun e w' ⟨v,x,y,z⟩=>⟨v,[],x,rfl,fun _ hx=>(by cases hx),y,z⟩
  ·obtain⟨b,off,e,_,hcell⟩:=hc (by omega)
   obtain⟨rfl⟩:=e
   obtain⟨K,h1,h2,h3⟩:=Ug hcell
   have hk:K.length=n:=by rw[←hl,←h1,List.length_map]
   exact (Xy ⟨b,off,none⟩ n c K w hn hk (fun j u hj=>by rw[Addr.add_lit];exact h3 j u hj)).mono fun e w' ⟨v,x,y,z⟩=>⟨v,K,x,h1,h2,by rw[hk];exact y,z⟩
end Go.Proofs.YtpikejjiignchaaGreatDoor
