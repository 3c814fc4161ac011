import Derived.Test.YtpikejjiignchaaGreatDoorG4
import Derived.Laws.CopyOwn
import Derived.Lib.Overlaps
set_option maxHeartbeats 6400000
set_option maxRecDepth 10000
namespace Go.Proofs.YtpikejjiignchaaGreatDoor
open Go.RowKit
def Hf(x y:Int):Int:=if x<y then -1 else if y<x then 1 else 0
theorem Bx(x:Int)(w:World):Calls Tryz.prog 227 #[.int .i64 x] w fun e w'=>e = .returned (.bool false)∧w=w':=by
 go_enter Tryz.func227,Tryz.ntmps227
 go_wp2
 go_ret
 exact⟨rfl,rfl⟩
theorem Ms(x y:Int)(w:World):Calls Tryz.prog 192 #[.int .i64 x,.int .i64 y] w fun e w'=>e = .returned (.int .i64 (Hf x y))∧w=w':=by
 have C1:=Zb (Bx x)
 have C2:=Zb (Bx y)
 by_cases h1:x<y
 ·have e:Hf x y = -1:=by simp[Hf,h1]
  rw[e]
  clear e
  go_enter Tryz.func192,Tryz.ntmps192
  go_wp2_with fail
  refine ((Za C1) _).mono ?_
  rintro e w' ⟨rfl,rfl⟩
  go_wp2_with fail
  refine ((Za C2) _).mono ?_
  rintro e w' ⟨rfl,rfl⟩
  go_wp2
  go_ret
  exact⟨rfl,rfl⟩
 ·by_cases h2:y<x
  ·have e:Hf x y=1:=by simp[Hf,h1,h2]
   rw[e]
   clear e
   go_enter Tryz.func192,Tryz.ntmps192
   go_wp2_with fail
   refine ((Za C1) _).mono ?_
   rintro e w' ⟨rfl,rfl⟩
   go_wp2_with fail
   refine ((Za C2) _).mono ?_
   rintro e w' ⟨rfl,rfl⟩
   go_wp2
   go_ret
   exact⟨rfl,rfl⟩
  ·have e:Hf x y=0:=by simp[Hf,h1,h2]
   rw[e]
   clear e
   go_enter Tryz.func192,Tryz.ntmps192
   go_wp2_with fail
   refine ((Za C1) _).mono ?_
   rintro e w' ⟨rfl,rfl⟩
   go_wp2_with fail
   refine ((Za C2) _).mono ?_
   rintro e w' ⟨rfl,rfl⟩
   go_wp2
   go_ret
   exact⟨rfl,rfl⟩
def orI(x y:Int):Int:=if x=0 then y else x
theorem Zib(x y:Int)(b c:Nat)(w:World)(h1:w.cell? ⟨b,0,none⟩=some (.int .i64 x))(h2:w.cell? ⟨b,1,none⟩=some (.int .i64 y)) :
  Calls Tryz.prog 191 #[.slice (some ⟨b,0,none⟩) 2 c] w fun e w'=>e = .returned (.int .i64 (orI x y))∧w=w':=by
 by_cases hx:x=0
 ·subst hx
  by_cases hy:y=0
  ·subst hy
   have e:orI 0 0=0:=rfl
   rw[e]
   clear e
   go_enter Tryz.func191,Tryz.ntmps191
   go_wp2
   refine wp_loop_rounds 3 ?_
   rw[rounds_succ]
   go_wp2
   rw[rounds_succ]
   go_wp2
   rw[rounds_succ]
   go_wp2
   go_ret
   exact⟨rfl,rfl⟩
  ·have e:orI 0 y=y:=rfl
   rw[e]
   have gy:(y != 0)=true:=by simp[hy]
   clear e hy
   go_enter Tryz.func191,Tryz.ntmps191
   go_wp2
   refine wp_loop_rounds 2 ?_
   rw[rounds_succ]
   go_wp2
   rw[rounds_succ]
   go_wp2
   go_ret
   exact⟨rfl,rfl⟩
 ·have e:orI x y=x:=by simp[orI,hx]
  rw[e]
  have gx:(x != 0)=true:=by simp[hx]
  clear e hx
  go_enter Tryz.func191,Tryz.ntmps191
  go_wp2
  refine wp_loop_rounds 1 ?_
  rw[rounds_succ]
  go_wp2
  go_ret
  exact⟨rfl,rfl⟩
theorem Zkf(p q:PtD):orI (Hf p.1 q.1) (Hf p.2 q.2)=He p q:=by
 obtain⟨a,b⟩:=p
 obtain⟨c,d⟩:=q
 unfold orI Hf He lt
 simp only[Bool.or_eq_true,Bool.and_eq_true,decide_eq_true_eq,Prod.mk.injEq]
 repeat' split
 all_goals omega
theorem Yg(w:World)(x y:Value)(t:TypeId):(w.alloc (.cells #[x,y] t)).cell? ⟨w.heap.size,0,none⟩=some x∧(w.alloc (.cells #[x,y] t)).cell? ⟨w.heap.size,1,none⟩=some y:=
 ⟨by rw[World.cell?_alloc_at _ _ _ _ rfl];rfl,by rw[World.cell?_alloc_at _ _ _ _ rfl];rfl⟩
theorem Zh(w:World):Below w.heap.size w w.drew:=⟨rfl,rfl,rfl,Nat.le_refl _,fun _ _=>rfl⟩
theorem Tl(p q:PtD)(z:Int)(w:World)(hz:He p q=z) :
  Calls Tryz.prog 165 #[.agg #[.int .i64 p.1,.int .i64 p.2],.agg #[.int .i64 q.1,.int .i64 q.2]] w fun e w'=>e = .returned (.int .i64 z)∧Below w.heap.size w w':=by
 obtain⟨a,b⟩:=p
 obtain⟨c,d⟩:=q
 have e:=Zkf (a,b) (c,d)
 rw[hz] at e
 simp only at e ⊢
 have E:=Zb e
 obtain⟨X,hX⟩:∃ X,X=(w.alloc (.cells #[.int .i64 a,.int .i64 b] 99)).alloc (.cells #[.int .i64 c,.int .i64 d] 99):=⟨_,rfl⟩
 have HB:Hid (Below w.heap.size w X):=by rw[hX];exact (Ze (Zg w (.cells #[.int .i64 a,.int .i64 b] 99)) (Zg _ (.cells #[.int .i64 c,.int .i64 d] 99)))
 have x0:X.cell? ⟨w.heap.size,0,none⟩=some (.int .i64 a):=by rw[hX];exact Zc (Zg _ _) (Yg w _ _ _).1
 have x1:X.cell? ⟨w.heap.size,1,none⟩=some (.int .i64 b):=by rw[hX];exact Zc (Zg _ _) (Yg w _ _ _).2
 have x2:X.cell? ⟨w.heap.size+1,0,none⟩=some (.int .i64 c):=by rw[hX];have:=(Yg (w.alloc (.cells #[.int .i64 a,.int .i64 b] 99)) (.int .i64 c) (.int .i64 d) 99).1;simp at this ⊢
 have x3:X.cell? ⟨w.heap.size+1,1,none⟩=some (.int .i64 d):=by rw[hX];have:=(Yg (w.alloc (.cells #[.int .i64 a,.int .i64 b] 99)) (.int .i64 c) (.int .i64 d) 99).2;simp at this ⊢
 clear hz e
 go_enter Tryz.func165,Tryz.ntmps165
 go_wp2_with fail
 rw[←hX]
 clear hX
 go_region_held3 (fun w'=>Below X.heap.size X w'∧w'.cell? ⟨w.heap.size,0,none⟩=some (.int .i64 a)∧w'.cell? ⟨w.heap.size,1,none⟩=some (.int .i64 b)∧w'.cell? ⟨w.heap.size+1,0,none⟩=some (.int .i64 c)∧w'.cell? ⟨w.heap.size+1,1,none⟩=some (.int .i64 d))
  (first
  | exact⟨Zh _,x0,x1,x2,x3⟩
  | (go_split_ands;exact⟨by assumption,by assumption,by assumption,by assumption,by assumption⟩)
  | (go_split_ands;exact⟨Ze (by assumption) (Zg _ _),Zc (Zg _ _) (by assumption),Zc (Zg _ _) (by assumption),Zc (Zg _ _) (by assumption),Zc (Zg _ _) (by assumption)⟩))
  (first
  | (go_at_call 192;refine (Ms _ _ _).mono ?_;rintro e w' ⟨rfl,rfl⟩)
  | (go_at_call 191;refine (Zib (Hf a c) (Hf b d) _ 2 _ ?_ ?_).mono ?_;exact (Yg _ _ _ _).1;exact (Yg _ _ _ _).2;rintro e w' ⟨rfl,rfl⟩))
 rename_i hH
 have HH:=Zb (Ze (Za HB) hH.1)
 clear hH
 go_wp2
 go_ret
 exact⟨by rw[←Za E];rfl,Za HH⟩
theorem Uf(h:Int)(b:Bool)(w:World)(hb:okH h=b) :
  Calls Tryz.prog 167 #[.int .i64 h] w fun e w'=>e = .returned (.bool b)∧w=w':=by
 have C:=Zb (Yu h 1 1000 b w (by rw[←hb];rfl))
 clear hb
 go_enter Tryz.func167,Tryz.ntmps167
 go_wp2_with fail
 refine (Za C).mono ?_
 rintro e w' ⟨rfl,rfl⟩
 go_wp2
 go_ret
 exact⟨rfl,rfl⟩
theorem Zab(a:Option Addr)(len cap:Nat)(l:List (Int×Int))(x:Int)(w:World)(hx:chk l=x)(h:OpsAt w a len l) :
  Calls Tryz.prog 185 #[.slice a len cap] w fun e w'=>e = .returned (.int .i64 x)∧Below w.heap.size w w':=by
 subst hx;exact Uo a len cap l w h
theorem Fw(x:Zf)(a:Option Addr)(n c:Nat)(z:Int)(w:World)(hO:OpsAt w a n (ck x))(hz:ck1 x=z) :
  Calls Tryz.prog 164 #[cnV x a n c] w fun e w'=>e = .returned (.int .i64 z)∧Below w.heap.size w w':=by
 obtain⟨x1,x2,x3,k,x4,x5⟩:=x
 unfold cnV
 simp only[cv,ck,ch,cr] at hO ⊢
 obtain⟨X,hX⟩:∃ X,X=w.alloc (.cells #[.int .i64 x1,.int .i64 x2,.int .i64 x3,.slice a n c,.int .i64 x4,.bool x5] 103):=⟨_,rfl⟩
 obtain⟨n0,n1,n2,n3,n4,n5⟩:=Rg w (.int .i64 x1) (.int .i64 x2) (.int .i64 x3) (.slice a n c) (.int .i64 x4) (.bool x5) 103
 rw[←hX] at n0 n1 n2 n3 n4 n5
 have hb:Below w.heap.size w X:=by rw[hX];exact Zg _ _
 have HB:=Zb hb
 have HO:=Zb (hO.later hb)
 have N2:=Zb n2
 have N3:=Zb n3
 have N4:=Zb n4
 clear hO hb n5
 cases hp:Zjm (x1,x2) with
 | false=>
  have e:z=3:=by rw[←hz];unfold ck1;rw[if_pos (by unfold okC pt;rw[hp];rfl)]
  subst e
  have C1:=Zb (Je x1 x2 false X hp)
  clear hp hz
  go_enter Tryz.func164,Tryz.ntmps164
  go_wp2_with fail
  rw[←hX]
  clear hX
  go_wp2_with fail
  refine (Za C1).mono ?_
  rintro e w2 ⟨rfl,hb2⟩
  have HB2:=Zb (Ze (Za HB) hb2)
  clear hb2
  go_wp2
  go_ret
  exact⟨rfl,Za HB2⟩
 | true=>
  have C1:=Zb (Je x1 x2 true X hp)
  cases hv:okV x3 with
  | false=>
   have e:z=3:=by rw[←hz];unfold ck1;rw[if_pos (by unfold okC pt;rw[hp];simp only[cv];rw[hv];rfl)]
   subst e
   have C2:=Zb (fun w=>Yu x3 1 1000000000 false w (by rw[←hv];rfl))
   clear hp hz hv
   go_enter Tryz.func164,Tryz.ntmps164
   go_wp2_with fail
   rw[←hX]
   clear hX
   go_wp2_with fail
   refine (Za C1).mono ?_
   rintro e w2 ⟨rfl,hb2⟩
   have m2:=Zc hb2 (Za N2)
   have hs2:w.heap.size<w2.heap.size:=World.block_lt_of_cell? _ _ m2
   have HB2:=Zb (Ze (Za HB) hb2)
   clear hb2
   go_wp2_with fail
   refine ((Za C2) _).mono ?_
   rintro e w3 ⟨rfl,rfl⟩
   go_wp2
   go_ret
   exact⟨rfl,Za HB2⟩
  | true=>
   have C2:=Zb (fun w=>Yu x3 1 1000000000 true w (by rw[←hv];rfl))
   cases hh:okH x4 with
   | false=>
    have e:z=3:=by rw[←hz];unfold ck1;rw[if_pos (by unfold okC pt;rw[hp];simp only[cv,ch];rw[hv,hh];rfl)]
    subst e
    have C3:=Zb (fun w=>Uf x4 false w hh)
    clear hp hz hv hh
    go_enter Tryz.func164,Tryz.ntmps164
    go_wp2_with fail
    rw[←hX]
    clear hX
    go_wp2_with fail
    refine (Za C1).mono ?_
    rintro e w2 ⟨rfl,hb2⟩
    have m2:=Zc hb2 (Za N2)
    have m4:=Zc hb2 (Za N4)
    have hs2:w.heap.size<w2.heap.size:=World.block_lt_of_cell? _ _ m2
    have HB2:=Zb (Ze (Za HB) hb2)
    clear hb2
    go_wp2_with fail
    refine ((Za C2) _).mono ?_
    rintro e w3 ⟨rfl,rfl⟩
    go_wp2_with fail
    refine ((Za C3) _).mono ?_
    rintro e w3 ⟨rfl,rfl⟩
    go_wp2
    go_ret
    exact⟨rfl,Za HB2⟩
   | true=>
    have e:chk k=z:=by rw[←hz];unfold ck1;rw[if_neg (by unfold okC pt;rw[hp];simp only[cv,ch];rw[hv,hh];decide)];rfl
    have C3:=Zb (fun w=>Uf x4 true w hh)
    have E:=Zb e
    clear hp hz hv hh e
    go_enter Tryz.func164,Tryz.ntmps164
    go_wp2_with fail
    rw[←hX]
    clear hX
    go_wp2_with fail
    refine (Za C1).mono ?_
    rintro e w2 ⟨rfl,hb2⟩
    have m2:=Zc hb2 (Za N2)
    have m3:=Zc hb2 (Za N3)
    have m4:=Zc hb2 (Za N4)
    have hs2:w.heap.size<w2.heap.size:=World.block_lt_of_cell? _ _ m2
    have C4:=Zb (Zab a n c k z w2 (Za E) ((Za HO).later hb2))
    have HB2:=Zb (Ze (Za HB) hb2)
    clear hb2
    go_wp2_with fail
    refine ((Za C2) _).mono ?_
    rintro e w3 ⟨rfl,rfl⟩
    go_wp2_with fail
    refine ((Za C3) _).mono ?_
    rintro e w3 ⟨rfl,rfl⟩
    go_wp2_with fail
    refine (Za C4).mono ?_
    rintro e w4 ⟨rfl,hb4⟩
    have HB4:=Zb (Ze (Za HB2) hb4)
    clear hb4
    go_wp2
    go_ret
    exact⟨rfl,Za HB4⟩
theorem P6(w:World)(n:Nat):Below w.heap.size w (w.drewN n):=⟨rfl,rfl,rfl,Nat.le_refl _,fun _ _=>rfl⟩
theorem CoinAt.val{w:World}{b o:Nat}{x:Zf}(h:CoinAt w b o x):∃ a n c,w.cell? ⟨b,o,none⟩=some (.int .i64 x.1)∧w.cell? ⟨b,o+1,none⟩=some (.int .i64 x.2.1)∧w.cell? ⟨b,o+2,none⟩=some (.int .i64 (cv x)) ∧
  w.cell? ⟨b,o+3,none⟩=some (.slice a n c)∧w.cell? ⟨b,o+4,none⟩=some (.int .i64 (ch x))∧w.cell? ⟨b,o+5,none⟩=some (.bool (cr x))∧OpsAt w a n (ck x)∧SlOk a n c:=by
 obtain⟨h1,h2,h3,⟨a,n,c,h4,h5,h6⟩,h7,h8⟩:=h
 exact⟨a,n,c,h1,h2,h3,h4,h7,h8,h5,h6⟩
theorem F8(b off n c:Nat)(L:List Zf)(w:World)(hn:n≤720)(hz:L.length=n)(hc:∀ i (h:i<L.length),CoinAt w b (off+i*6) L[i]) :
  Calls Tryz.prog 137 #[.slice (some ⟨b,off,none⟩) n c] w fun e w'=>e = .returned (.int .i64 (Yk none 0 L))∧Below w.heap.size w w':=by
 have HC:=Zb hc
 have HZ:=Zb hz
 clear hc hz
 go_enter Tryz.func137,Tryz.ntmps137
 go_wp2
 go_loopw [3,12] (fun sv i wr=>∃ (k:Nat) (S:Int),k≤n∧i = .int .i64 k∧sv = .int .i64 S∧0≤S∧S≤1000000000∧Hid (Yk none 0 L=Yk (Va L k) S (L.drop k))∧Below w.heap.size w wr) (fun _ i _=>n - (intOf i).toNat)
 case atStart=>exact⟨0,0,Nat.zero_le _,rfl,rfl,by decide,by decide,rfl,Below.refl _ _⟩
 case round=>
  obtain⟨k,S,hk,rfl,rfl,hS0,hS1,A,hb⟩:=hrel
  have HB:=Zb hb
  by_cases hlt:k<n
  ·have hlk:k<L.length:=by rw[Za HZ];exact hlt
   have hin:=CoinAt.kept _ _ _ _ _ hb ((Za HC) k hlk)
   have ST:=Zb (Zcj L k hlk (Va L k) S)
   have HL:Hid (∀ j,k=j+1→∃ q,Va L k=some (pt q)∧CoinAt wr b (off+j*6) q):=fun j hj=>by
    have hj2:j<L.length:=by omega
    exact⟨L[j],by rw[hj];exact Q8 L j hj2,CoinAt.kept _ _ _ _ _ hb ((Za HC) j hj2)⟩
   have HN:Hid (k+1≤L.length→Va L (k+1)=some (pt L[k])):=fun _=>Q8 L k hlk
   obtain⟨x,hx⟩:∃ x,L[k]=x:=⟨_,rfl⟩
   rw[hx] at hin ST HN
   have A2:Hid (Yk none 0 L=if ck1 x≠0 then ck1 x else if Rd (Va L k) x=false then 6 else if 1000000000<S+cv x then 12 else Yk (some (pt x)) (S+cv x) (L.drop (k+1))):=by show _=_;rw[Za A,Za ST]
   have PN:Hid (Va L (k+1)=some (pt x)):=(Za HN) hlk
   obtain⟨a,m,d,g1,g2,g3,g4,g5,g6,hO,_⟩:=hin.val
   obtain⟨X,hX⟩:∃ X,X=wr.alloc (.cells #[.int .i64 x.1,.int .i64 x.2.1,.int .i64 (cv x),.slice a m d,.int .i64 (ch x),.bool (cr x)] 103):=⟨_,rfl⟩
   obtain⟨n0,n1,n2,n3,n4,n5⟩:=Rg wr (.int .i64 x.1) (.int .i64 x.2.1) (.int .i64 (cv x)) (.slice a m d) (.int .i64 (ch x)) (.bool (cr x)) 103
   rw[←hX] at n0 n1 n2 n3 n4 n5
   have hbX:Below wr.heap.size wr X:=by rw[hX];exact Zg _ _
   have hsX:wr.heap.size<X.heap.size:=World.block_lt_of_cell? _ _ n0
   have HBX:=Zb hbX
   have HO:=Zb (hO.later hbX)
   have N0:=Zb n0
   have N1:=Zb n1
   have N2:=Zb n2
   obtain⟨z,hz⟩:∃ z,ck1 x=z:=⟨_,rfl⟩
   have C1:=Zb (Fw x a m d z X (Za HO) hz)
   rw[hz] at A2
   have HX:=Zb hX
   by_cases hz0:z=0
   ·subst hz0
    have K:=Wj hz
    have hv1:1≤cv x:=K.2.2.2.2.1
    have hv2:cv x≤1000000000:=K.2.2.2.2.2.1
    have A3:Hid (Yk none 0 L=if Rd (Va L k) x=false then 6 else if 1000000000<S+cv x then 12 else Yk (some (pt x)) (S+cv x) (L.drop (k+1))):=by
     have h:=Za A2
     rw[if_neg (by decide)] at h
     exact h
    clear K A A2 ST HN hx hin hO hb hz n3 n4 n5 hX
    obtain⟨v,hv⟩:∃ v,cv x=v:=⟨_,rfl⟩
    rw[hv] at hv1 hv2 A3 n2 N2 g3 HX
    unfold cnV at C1
    rw[hv] at C1
    by_cases hk0:k=0
    ·have A4:Hid (Yk none 0 L=if 1000000000<S+v then 12 else Yk (some (pt x)) (S+v) (L.drop (k+1))):=by
      have h:=Za A3
      rw[hk0] at h
      rw[if_neg (by show ¬true=false;decide)] at h
      rw[hk0]
      exact h
     clear A3 HL
     have hg:decide ((0:Int)<(k:Int))=false:=by rw[hk0];decide
     have hg2:decide (0<k)=false:=by rw[hk0];decide
     clear hk0
     go_wp2_with fail
     rw[←Za HX]
     go_wp2_with fail
     refine (Za C1).mono ?_
     rintro e w2 ⟨rfl,hb2⟩
     have m2:=Zc hb2 (Za N2)
     have hs2:wr.heap.size<w2.heap.size:=World.block_lt_of_cell? _ _ m2
     have HB2:=Zb (Ze (Ze (Za HB) (Za HBX)) hb2)
     clear hb2
     go_wp2_with fail
     go_quiet (fail)
     by_cases hf:1000000000<S+v
     ·have R:Hid (Yk none 0 L=12):=by show _=_;rw[Za A4,if_pos hf]
      clear A4
      go_wp2
      go_ret
      exact⟨by rw[Za R];rfl,Ze (Za HB2) (P6 _ _)⟩
     ·have R:Hid (Yk none 0 L=Yk (Va L (k+1)) (S+v) (L.drop (k+1))):=by show _=_;rw[Za A4,if_neg hf,Za PN]
      clear A4
      go_wp2
      go_roundw
      case rel=>exact⟨k+1,S+v,by omega,by go_num,rfl,by omega,by omega,R,Ze (Za HB2) (P6 _ _)⟩
      case measure=>simp[intOf];omega
    ·obtain⟨j,rfl⟩:∃ j,k=j+1:=⟨k - 1,by omega⟩
     obtain⟨q,hq,hqa⟩:=(Za HL) j rfl
     obtain⟨_,_,_,q1,q2,_,_,_,_,_,_⟩:=hqa.val
     have A5:Hid (Yk none 0 L=if lt (pt q) (pt x)=false then 6 else if 1000000000<S+v then 12 else Yk (some (pt x)) (S+v) (L.drop (j+1+1))):=by
      have h:=Za A3
      rw[hq] at h
      exact h
     have Q1:=Zb (Zc hbX q1)
     have Q2:=Zb (Zc hbX q2)
     have G:Hid (decide ((0:Int)<((j+1:Nat):Int))=true):=by show _=_;simp
     have hj1:(j:Int)<(n:Int):=by omega
     have hw2:IntKind.i64.wrap (j:Int)=(j:Int):=by rw[IntKind.wrap_i64];omega
     have hw3:IntKind.i64.wrap ((j:Int)+1 - 1)=(j:Int):=by rw[IntKind.wrap_i64];omega
     have hj2:j<n:=by omega
     have hj0:(0:Int)≤(j:Int):=by omega
     have hw1:IntKind.i64.wrap (((j+1:Nat):Int) - 1)=(j:Int):=by rw[IntKind.wrap_i64];omega
     clear A3 HL hk0 hq hqa q1 q2
     cases hl:lt (pt q) (pt x) with
     | false=>
      have R:Hid (Yk none 0 L=6):=by show _=_;rw[Za A5,if_pos hl]
      obtain⟨y,hy⟩:∃ y,He (pt q) (pt x)=y:=⟨_,rfl⟩
      have hy0:0≤y:=by
       rw[←hy]
       refine Int.not_lt.1 fun h=>?_
       rw[Fm,hl] at h;exact Bool.noConfusion h
      have CC:=Zb (fun w=>Tl (pt q) (pt x) y w hy)
      unfold pt at CC
      clear A5 hl hy
      go_wp2_with fail
      rw[←Za HX]
      go_wp2_with fail
      refine (Za C1).mono ?_
      rintro e w2 ⟨rfl,hb2⟩
      have m0:=Zc hb2 (Za N0)
      have m1:=Zc hb2 (Za N1)
      have p0:=Zc hb2 (Za Q1)
      have p1:=Zc hb2 (Za Q2)
      have hs2:wr.heap.size<w2.heap.size:=World.block_lt_of_cell? _ _ m0
      have HB2:=Zb (Ze (Ze (Za HB) (Za HBX)) hb2)
      clear hb2 n0 n1 n2 g1 g2 g3 g4 g5 g6
      have hG:=Za G
      go_wp2_with fail
      go_region_held3 (fun w'=>Below w2.heap.size w2 w'∧w'.cell? ⟨wr.heap.size,0,none⟩=some (.int .i64 x.1)∧w'.cell? ⟨wr.heap.size,1,none⟩=some (.int .i64 x.2.1)∧w'.cell? ⟨b,off+j*6,none⟩=some (.int .i64 q.1)∧w'.cell? ⟨b,off+j*6+1,none⟩=some (.int .i64 q.2.1))
       (first
       | exact⟨Zh _,m0,m1,p0,p1⟩
       | (go_split_ands;refine⟨Ze (by assumption) hbc,Zc hbc (by assumption),Zc hbc (by assumption),Zc hbc (by assumption),Zc hbc (by assumption)⟩))
       (first|(go_at_call 165;refine ((Za CC) _).mono ?_;rintro e w' ⟨rfl,hbc⟩))
      rename_i hH
      have HH:=Zb (Ze (Za HB2) hH.1)
      clear hH
      go_wp2
      go_ret
      exact⟨by rw[Za R];rfl,Za HH⟩
     | true=>
      have A4:Hid (Yk none 0 L=if 1000000000<S+v then 12 else Yk (some (pt x)) (S+v) (L.drop (j+1+1))):=by
       have h:=Za A5
       rw[if_neg (by rw[hl];decide)] at h
       exact h
      obtain⟨y,hy⟩:∃ y,He (pt q) (pt x)=y:=⟨_,rfl⟩
      have hy0:y<0:=by rw[←hy,Fm];exact hl
      have CC:=Zb (fun w=>Tl (pt q) (pt x) y w hy)
      unfold pt at CC
      clear A5 hl hy
      go_wp2_with fail
      rw[←Za HX]
      go_wp2_with fail
      refine (Za C1).mono ?_
      rintro e w2 ⟨rfl,hb2⟩
      have m0:=Zc hb2 (Za N0)
      have m1:=Zc hb2 (Za N1)
      have M2:=Zb (Zc hb2 (Za N2))
      have p0:=Zc hb2 (Za Q1)
      have p1:=Zc hb2 (Za Q2)
      have hs2:wr.heap.size<w2.heap.size:=World.block_lt_of_cell? _ _ m0
      have HB2:=Zb (Ze (Ze (Za HB) (Za HBX)) hb2)
      clear hb2 n0 n1 n2 g1 g2 g3 g4 g5 g6
      have hG:=Za G
      go_wp2_with fail
      go_region_held3 (fun w'=>Below w2.heap.size w2 w'∧w'.cell? ⟨wr.heap.size,0,none⟩=some (.int .i64 x.1)∧w'.cell? ⟨wr.heap.size,1,none⟩=some (.int .i64 x.2.1)∧w'.cell? ⟨b,off+j*6,none⟩=some (.int .i64 q.1)∧w'.cell? ⟨b,off+j*6+1,none⟩=some (.int .i64 q.2.1))
       (first
       | exact⟨Zh _,m0,m1,p0,p1⟩
       | (go_split_ands;refine⟨Ze (by assumption) hbc,Zc hbc (by assumption),Zc hbc (by assumption),Zc hbc (by assumption),Zc hbc (by assumption)⟩))
       (first|(go_at_call 165;refine ((Za CC) _).mono ?_;rintro e w' ⟨rfl,hbc⟩))
      rename_i hH
      have HH:=Zb (Ze (Za HB2) hH.1)
      have m2:=Zc hH.1 (Za M2)
      have hs3:=World.block_lt_of_cell? _ _ m2
      clear hH
      by_cases hf:1000000000<S+v
      ·have R:Hid (Yk none 0 L=12):=by show _=_;rw[Za A4,if_pos hf]
       clear A4
       go_wp2
       go_ret
       exact⟨by rw[Za R];rfl,Za HH⟩
      ·have R:Hid (Yk none 0 L=Yk (Va L (j+1+1)) (S+v) (L.drop (j+1+1))):=by show _=_;rw[Za A4,if_neg hf,Za PN]
       clear A4
       go_wp2
       go_roundw
       case rel=>exact⟨j+1+1,S+v,by omega,by go_num,rfl,by omega,by omega,R,Za HH⟩
       case measure=>simp[intOf];omega
   ·have R:Hid (Yk none 0 L=z):=by show _=_;rw[Za A2,if_pos hz0]
    have gz:(z != 0)=true:=by simp[hz0]
    unfold cnV at C1
    clear A A2 ST HN HL PN hx hin hO hb hz n3 n4 n5 hX hz0
    go_wp2_with fail
    rw[←Za HX]
    go_wp2_with fail
    refine (Za C1).mono ?_
    rintro e w2 ⟨rfl,hb2⟩
    have HB2:=Zb (Ze (Ze (Za HB) (Za HBX)) hb2)
    clear hb2
    go_wp2
    go_ret
    exact⟨by rw[Za R];rfl,Za HB2⟩
  ·have R:Hid (Yk none 0 L=0):=by show _=_;rw[Za A,Cu L k (by rw[Za HZ];omega)]
   clear A hb
   go_wp2
   go_ret
   exact⟨by rw[Za R];rfl,Za HB⟩
theorem Aa(a:Option Addr)(n c:Nat)(w:World)(h:720<n) :
  Calls Tryz.prog 137 #[.slice a n c] w fun e w'=>e = .returned (.int .i64 2)∧w=w':=by
 go_enter Tryz.func137,Tryz.ntmps137
 go_wp2
 go_ret
 exact⟨rfl,rfl⟩
theorem F9(a:Option Addr)(c:Nat)(w:World) :
  Calls Tryz.prog 137 #[.slice a 0 c] w fun e w'=>e = .returned (.int .i64 0)∧w=w':=by
 go_enter Tryz.func137,Tryz.ntmps137
 go_wp2
 refine wp_loop_rounds 1 ?_
 rw[rounds_succ]
 go_wp2
 go_ret
 exact⟨rfl,rfl⟩
theorem R7(a:Option Addr)(n c:Nat)(L:List Zf)(z:Int)(w:World)(h:CoinsAt w a n L)(hz:Yj L=z) :
  Calls Tryz.prog 137 #[.slice a n c] w fun e w'=>e = .returned (.int .i64 z)∧Below w.heap.size w w':=by
 subst hz
 obtain⟨hl,hc⟩:=h
 unfold Yj
 rw[hl]
 by_cases h1:720<n
 ·rw[if_pos h1]
  exact (Aa a n c w h1).mono fun e w' ⟨x,y⟩=>⟨x,y ▸ Below.refl _ _⟩
 ·rw[if_neg h1]
  by_cases h2:n=0
  ·subst h2
   have e:L=[]:=List.length_eq_zero_iff.1 hl
   subst e
   exact (F9 a c w).mono fun e w' ⟨x,y⟩=>⟨x,y ▸ Below.refl _ _⟩
  ·obtain⟨b,off,rfl,_,hcell⟩:=hc (by omega)
   exact F8 b off n c L w (by omega) hl hcell
def laid(L:List Value)(off:Nat)(cs:List Value):List Value:=L.take off++cs++L.drop (off+cs.length)
theorem Uv(L:List Value)(off:Nat)(cs:List Value)(h:off+cs.length≤L.length):(laid L off cs).length=L.length:=by simp[laid];omega
variable {P : Program}
theorem X3(w:World)(dT sT ty elem:TypeId)(g o dLen dCap:Nat)(a:Addr)(sLen sCap k:Nat)(cur:Array Value)(t:TypeId)(cs:List Value)
  (hu:P.underlying dT=some (.slice elem)) (hs:(P.info? elem).map (·.size)=some k)
  (hg:w.heap[g]? = some (.cells cur t (0,0))) (hn:cs.length=Nat.min sLen dLen*k)
  (hsrc:∀ j v,cs[j]? = some v→w.cell? (a.add j)=some v) (hfit:o+cs.length≤cur.size) (h1:∀ v∈cs,v.oneCell'=true) :
  (Builtin.copy_ #[dT,sT] ty #[.slice (some ⟨g,o,none⟩) dLen dCap,.slice (some a) sLen sCap]).run P w =
   .ok (goInt (Nat.min sLen dLen)) (w.setRow g (laid cur.toList o cs).toArray):=by
 have hst:=run_storeCells_at P g o t cs 0 cur w hg (by simpa using hfit) h1
 cases hq:P.info? elem with
 | none=>simp[hq] at hs
 | some i=>
  have hi:i.size=k:=by simpa[hq] using hs
  have hl:=run_firstCells_some (P:=P) w k (Nat.min sLen dLen) a sLen sCap cs hn hsrc
  simp only[Nat.add_zero] at hst
  simp[Builtin.copy_,run_underlying hu,Builtin.lenOf,sizeOf,typeInfo,hq,hi,hl,hst,laid]
theorem Ka(w:World)(t e ty:TypeId)(z:Value)(ht:P.underlying t=some (.slice e))(hv:∀ w,(zeroValue e).run P w = .ok z w)(g o n c k:Nat)(cur:Array Value)(te:TypeId)(cs:List Value)(hn:0<n)
  (hcs:(Builtin.zeroCells z.cells n).toList=cs) (hg:w.heap[g]? = some (.cells cur te (0,0))) (hk:cs.length=n*k) (hfit:o+n*k≤cur.size) (h1:∀ v∈cs,v.oneCell'=true) :
  (Builtin.clear_ #[t] ty #[.slice (some ⟨g,o,none⟩) n c]).run P w = .ok (.tuple #[]) (w.setRow g (laid cur.toList o cs).toArray):=by
 have hst:=run_storeCells_at P g o te cs 0 cur w hg (by simpa[hk] using hfit) h1
 simp only[Nat.add_zero] at hst
 obtain⟨m,rfl⟩:∃ m,n=m+1:=⟨n - 1,by omega⟩
 simp[Builtin.clear_,run_underlying ht,hv,hcs,hst,laid]
theorem R9{ops:Array Oper}{o:Oper}{a:Act}{w:World}{K:Act→World→Prop}{Q:Exit→Act→World→Prop}{E:Prop}
  (hg:o.guard=none) (s x:Operand) (t:TypeId) (hop:o.op=Op.call { callee:=Callee.builtin Builtin.append,args:=#[s,x],argTypes:=#[t,t] })
  (e:TypeId) (i:TypeInfo) (size:Nat) (h1:P.underlying t=some (.slice e)) (h2:P.info? e=some i) (h4:i.size=size)
  (b n cap:Nat) (hs:a.eval s = .slice (some ⟨b,0,none⟩) n cap)
  (ad:Addr) (m c:Nat) (news:List Value) (hx:a.eval x = .slice (some ad) m c) (hn:news.length=m*size) (hc:∀ j u,news[j]? = some u→w.cell? (ad.add j)=some u) (h1c:∀ u∈news,u.oneCell'=true)
  (hroom:n+m≤cap) (cur:Array Value) (te:TypeId) (hrow:w.heap[b]? = some (.cells cur te (0,0))) (hfit:n*size+news.length≤cur.size)
  (hK:K (a.put o.dst (.slice (some ⟨b,0,none⟩) (n+m) cap)) (w.setRow b (laid cur.toList (n*size) news).toArray)) :
  if Region.wanted o (yielded ops a.tmps)=true then Oper.wp P o a w K Q else E:=by
 have hw:Region.wanted o (yielded ops a.tmps)=true:=by simp[Region.wanted,hg]
 rw[if_pos hw]
 subst h4
 have hfc:=run_firstCells_some (P:=P) w i.size m ad m c news hn hc
 have hst:=run_storeCells_at P b (n*i.size) te news 0 cur w hrow (by simpa using hfit) h1c
 simp only[Nat.add_zero] at hst
 have hrun:(Builtin.append_ #[t,t] o.type #[.slice (some ⟨b,0,none⟩) n cap,.slice (some ad) m c]).run P w = .ok (.slice (some ⟨b,0,none⟩) (n+m) cap) (w.setRow b (laid cur.toList (n*i.size) news).toArray):=by
  simp[Builtin.append_,run_underlying h1,sizeOf,typeInfo,h2,Builtin.lenOf,hroom,hfc,Addr.add_lit,hst,laid]
 unfold Oper.wp
 simp[execOp,hop,resolve,invoke,builtin,hs,hx,hrun,Result.andThen]
 exact hK
theorem Ue(w:World){ops:Array Oper}{rest:List Oper}{o:Oper}{a:Act}{Q:Exit→Act→World→Prop}(hgd:o.guard=none)(d s:Operand)(t t':TypeId)
  (ho:o.op = .call { callee:=.builtin .append,args:=#[d,s],argTypes:=#[t,t'] }) (v u:Value) (hd:a.eval d=v) (hs:a.eval s=u) {v':Value} {w':World}
  (hr:(Builtin.append_ #[t,t'] o.type #[v,u]).run P w = .ok v' w') (h:wpList P ops Q rest (a.put o.dst v') w'):wpList P ops Q (o :: rest) a w:=by
 refine wpList_plain hgd fun K hK=>?_
 unfold Oper.wp
 simp[execOp,ho,resolve,invoke,builtin,hd,hs,hr,Result.andThen]
 exact hK _ _ h
abbrev CV:=Zf×Option Addr×Nat×Nat
def Zj:List CV→List Value
 | []=>[]
 | x :: r=>.int .i64 x.1.1 :: .int .i64 x.1.2.1 :: .int .i64 (cv x.1) :: .slice x.2.1 x.2.2.1 x.2.2.2 :: .int .i64 (ch x.1) :: .bool (cr x.1) :: Zj r
theorem Zv:∀ l:List CV,(Zj l).length=l.length*6
 | []=>rfl
 | _ :: r=>by simp only[Zj,List.length_cons,Zv r];omega
theorem Zu:∀ l m:List CV,Zj (l++m)=Zj l++Zj m
 | [],_=>rfl
 | _ :: r,m=>by simp only[List.cons_append,Zj,Zu r m]
theorem Qw:∀ (l:List CV) (i:Nat) (h:i<l.length),(Zj l)[i*6]? = some (.int .i64 (l[i]).1.1)∧(Zj l)[i*6+1]? = some (.int .i64 (l[i]).1.2.1)∧(Zj l)[i*6+2]? = some (.int .i64 (cv (l[i]).1))∧(Zj l)[i*6+3]? = some (.slice (l[i]).2.1 (l[i]).2.2.1 (l[i]).2.2.2)∧(Zj l)[i*6+4]? = some (.int .i64 (ch (l[i]).1))∧(Zj l)[i*6+5]? = some (.bool (cr (l[i]).1))
 | [],_,h=>absurd h (by simp)
 | x :: r,0,_=>⟨rfl,rfl,rfl,rfl,rfl,rfl⟩
 | x :: r,i+1,h=>by
  have:=Qw r i (by simpa using h)
  have e:(i+1)*6=i*6+6:=by omega
  rw[e]
  exact this
theorem Xe:∀ (l:List CV) (u:Value),u∈Zj l→u.oneCell'=true
 | [],u,h=>by cases h
 | x :: r,u,h=>by
  simp only[Zj,List.mem_cons] at h
  rcases h with rfl|rfl|rfl|rfl|rfl|rfl|h
  ·rfl
  ·rfl
  ·rfl
  ·rfl
  ·rfl
  ·rfl
  ·exact Xe r u h
theorem Vs:∀ (l:List CV) (i:Nat),(Zj l).take (i*6)=Zj (l.take i)
 | [],i=>by simp[Zj]
 | x :: r,0=>by simp[Zj]
 | x :: r,i+1=>by
  rw[show (i+1)*6=i*6+6 by omega,List.take_succ_cons]
  simp only[Zj,List.take_succ_cons,Vs r i]
theorem Vt:∀ (l:List CV) (i:Nat),(Zj l).drop (i*6)=Zj (l.drop i)
 | [],i=>by simp[Zj]
 | x :: r,0=>by simp[Zj]
 | x :: r,i+1=>by
  rw[show (i+1)*6=i*6+6 by omega,List.drop_succ_cons]
  simp only[Zj,List.drop_succ_cons,Vt r i]
def LkAt(w:World)(x:CV):Prop:=OpsAt w x.2.1 x.2.2.1 (ck x.1)∧SlOk x.2.1 x.2.2.1 x.2.2.2
theorem LkAt.later{w w':World}{x:CV}(h:LkAt w x)(hb:Below w.heap.size w w'):LkAt w' x:=⟨h.1.later hb,h.2⟩
theorem Z5{w:World}{base:Nat}{v:Value}{K:List CV}(h:w.ownsRow base 103 6 v K.length (Zj K))(hl:∀ x∈K,LkAt w x):∃ a c,v = .slice a K.length c∧CoinsAt w a K.length (K.map (·.1))∧SlOk a K.length c:=by
 rcases h.2 with ⟨rfl,hn⟩|⟨g,cap,cur,rfl,hg,hh,h1,h2,h3,h4⟩
 ·rw[hn]
  have e:K=[]:=List.length_eq_zero_iff.1 hn
  subst e
  exact⟨none,0,rfl,RowsAt.nil _ _,Nat.le_refl _,Nat.zero_le _,fun _=>⟨rfl,rfl⟩⟩
 ·refine⟨_,cap,rfl,⟨by simp,fun _=>⟨g,0,rfl,lt_of_block hh,fun i hi=>?_⟩⟩,h1,h2,fun e=>by cases e⟩
  rw[List.length_map] at hi
  obtain⟨f0,f1,f2,f3,f4,f5⟩:=Qw K i hi
  rw[List.getElem_map]
  refine⟨?_,?_,?_,⟨_,_,_,?_,(hl _ (List.getElem_mem hi)).1,(hl _ (List.getElem_mem hi)).2⟩,?_,?_⟩
  all_goals rw[Nat.zero_add,World.ownsRow.cellAt h _ (by omega)]
  ·exact f0
  ·exact f1
  ·exact f2
  ·exact f3
  ·exact f4
  ·exact f5
theorem Ux{w:World}{b off:Nat}:∀ {L:List Zf},(∀ i (h:i<L.length),CoinAt w b (off+i*6) L[i])→∃ K:List CV,K.map (·.1)=L∧(∀ x∈K,LkAt w x)∧∀ j u,(Zj K)[j]? = some u→w.cell? ⟨b,off+j,none⟩=some u:=by
 intro L h
 have h2:∀ k,k≤L.length→∃ K:List CV,K.map (·.1)=L.take k∧(∀ x∈K,LkAt w x)∧∀ j u,(Zj K)[j]? = some u→w.cell? ⟨b,off+j,none⟩=some u:=by
  intro k
  induction k with
  | zero=>intro _;exact⟨[],by simp,fun x hx=>(by cases hx),fun j u hj=>by simp[Zj] at hj⟩
  | succ k ih=>
   intro hk
   obtain⟨K,h1,h2,h3⟩:=ih (by omega)
   obtain⟨a,n,c,g1,g2,g3,g4,g5,g6,h5,h6⟩:=(h k (by omega)).val
   have hlen:K.length=k:=by have:=congrArg List.length h1;simpa[Nat.min_eq_left (show k≤L.length by omega)] using this
   refine⟨K++[(L[k],a,n,c)],by rw[List.map_append,h1,List.take_succ_eq_append_getElem (by omega)];rfl,fun x hx=>?_,fun j u hj=>?_⟩
   ·rcases List.mem_append.1 hx with hx|hx
    ·exact h2 x hx
    ·rw[List.mem_singleton.1 hx];exact⟨h5,h6⟩
   ·rw[Zu] at hj
    rcases Nat.lt_or_ge j (k*6) with q|q
    ·rw[List.getElem?_append_left (by rw[Zv,hlen];exact q)] at hj
     exact h3 j u hj
    ·rw[List.getElem?_append_right (by rw[Zv,hlen];exact q),Zv,hlen] at hj
     obtain⟨r,rfl⟩:∃ r,j=k*6+r:=⟨j - k*6,by omega⟩
     rw[Nat.add_sub_cancel_left] at hj
     rw[show off+(k*6+r)=off+k*6+r by omega]
     match r,hj with
     | 0,hj=>simp only[Zj,List.getElem?_cons_zero,Option.some.injEq] at hj;subst hj;exact g1
     | 1,hj=>simp only[Zj,List.getElem?_cons_zero,List.getElem?_cons_succ,Option.some.injEq] at hj;subst hj;exact g2
     | 2,hj=>simp only[Zj,List.getElem?_cons_zero,List.getElem?_cons_succ,Option.some.injEq] at hj;subst hj;exact g3
     | 3,hj=>simp only[Zj,List.getElem?_cons_zero,List.getElem?_cons_succ,Option.some.injEq] at hj;subst hj;exact g4
     | 4,hj=>simp only[Zj,List.getElem?_cons_zero,List.getElem?_cons_succ,Option.some.injEq] at hj;subst hj;exact g5
     | 5,hj=>simp only[Zj,List.getElem?_cons_zero,List.getElem?_cons_succ,Option.some.injEq] at hj;subst hj;exact g6
     | r+6,hj=>simp[Zj] at hj
 obtain⟨K,h1,h3⟩:=h2 L.length (Nat.le_refl _)
 exact⟨K,by rw[h1,List.take_length],h3⟩
def zeroC:Value:=.agg #[.int .i64 0,.int .i64 0,.int .i64 0,.slice none 0 0,.int .i64 0,.bool false]
theorem Tryz.infoCoin:(Tryz.prog.info? 103).map (fun i=>(i.zero,i.size,i.bytes))=some (some zeroC,6,64):=by kernel_rfl
theorem Yx{w:World}{base:Nat}{e:TypeId}{size:Nat}{v:Value}{n:Nat}{xs:List Value}(h:w.ownsRow base e size v n xs)(k:Nat)(hk:v.ownBlock=some k):base≤k:=by
 rcases h.2 with ⟨rfl,_⟩|⟨g,cap,cur,rfl,hg,_⟩
 ·cases hk
 ·cases hk;exact hg
theorem U7(w:World)(e:TypeId)(size:Nat):(w.alloc (.cells #[] e)).ownsRow w.heap.size e size (.slice (some ⟨w.heap.size,0,none⟩) 0 0) 0 []:=
 ⟨by simp,.inr ⟨w.heap.size,0,#[],rfl,Nat.le_refl _,heap_alloc_new w _,Nat.le_refl _,Nat.zero_le _,by simp,by simp⟩⟩
theorem Qh(w:World):Calls Tryz.prog 88 #[.slice none 0 0] w fun e w'=>e = .returned (.slice none 0 0)∧w=w':=by
 have he:=fun w=>Lib.run_eql_slice_nil (P:=Tryz.prog) w 29 103 none 0 0 0 0 Tryz.underlying29
 go_enter Tryz.func88,Tryz.ntmps88
 go_wp2
 go_ret
 exact⟨rfl,rfl⟩
theorem Wi(ad:Addr)(n c:Nat)(K:List CV)(w:World)(hn:n≤4096)(hz:K.length=n)(hc:∀ j u,(Zj K)[j]? = some u→w.cell? (ad.add j)=some u) :
  Calls Tryz.prog 88 #[.slice (some ad) n c] w fun e w'=>∃ v,e = .returned v∧w'.ownsRow w.heap.size 103 6 v n (Zj K)∧Below w.heap.size w w':=by
 obtain⟨i0,hi,hz0,hz1,hz2⟩:=info_parts Tryz.infoCoin
 have hb:=Zg w (.cells #[] 103)
 have HC:Hid (∀ j u,(Zj K)[j]? = some u→(w.alloc (.cells #[] 103)).cell? (ad.add j)=some u):=fun j u hj=>Zc hb (hc j u hj)
 have HB:=Zb hb
 have HZ:=Zb hz
 have HO:=Zb (U7 w 103 6)
 have he:=fun w=>Lib.run_eql_slice_nil (P:=Tryz.prog) w 29 103 (some ad) n c 0 0 Tryz.underlying29
 clear hc hb hz
 go_enter Tryz.func88,Tryz.ntmps88
 go_wp2_with (at_builtin;refine wpList_append_own _ rfl _ _ 29 rfl w.heap.size 103 i0 zeroC 6 64 Tryz.underlying29 hi hz0 hz1 hz2 rfl (by decide) _ _ _ rfl (Za HO) ad n c (Zj K) rfl (by rw[Zv,Za HZ]) (Za HC) (Xe K) (by unfold maxLen;omega) (by omega) (Za HB).size ?_;intro v2 w3 hown3 hgrow3 _)
 have HW:Hid (w3.ownsRow w.heap.size 103 6 v2 n (Zj K)):=by show World.ownsRow _ _ _ _ _ _ _;simpa using hown3
 have HB3:=Zb ((Za HB).grown hgrow3 (Za HB).size (Yx (Za HO)))
 clear hown3 hgrow3
 go_wp2
 go_ret
 exact⟨v2,rfl,Za HW,Za HB3⟩
theorem R5(a:Option Addr)(n c:Nat)(L:List Zf)(w:World)(hn:n≤4096)(h:CoinsAt w a n L)(hs:SlOk a n c) :
  Calls Tryz.prog 88 #[.slice a n c] w fun e w'=>∃ v,∃ K:List CV,e = .returned v∧K.map (·.1)=L∧(∀ x∈K,LkAt w x)∧w'.ownsRow w.heap.size 103 6 v K.length (Zj K)∧Below w.heap.size w w':=by
 obtain⟨hl,hc⟩:=h
 cases a with
 | none=>
  obtain⟨rfl,rfl⟩:=hs.2.2 rfl
  have e:L=[]:=List.length_eq_zero_iff.1 hl
  subst e
  exact (Qh w).mono fun e w' ⟨x,y⟩=>⟨_,[],x,rfl,fun _ hx=>(by cases hx),y ▸ ⟨rfl,.inl ⟨rfl,rfl⟩⟩,y ▸ Below.refl _ _⟩
 | some ad=>
  by_cases h0:n=0
  ·subst h0
   have e:L=[]:=List.length_eq_zero_iff.1 hl
   subst e
   exact (Wi ad 0 c [] w hn rfl (fun j u hj=>by simp[Zj] at hj)).mono fun e w' ⟨v,x,y,z⟩=>⟨v,[],x,rfl,fun _ hx=>(by cases hx),y,z⟩
  ·obtain⟨b,off,e,_,hcell⟩:=hc (by omega)
   obtain⟨rfl⟩:=e
   obtain⟨K,h1,h2,h3⟩:=Ux hcell
   have hk:K.length=n:=by rw[←hl,←h1,List.length_map]
   exact (Wi ⟨b,off,none⟩ n c K w hn hk (fun j u hj=>by rw[Addr.add_lit];exact h3 j u hj)).mono fun e w' ⟨v,x,y,z⟩=>⟨v,K,x,h1,h2,by rw[hk];exact y,z⟩
theorem Tryz.zeroCoin(w:World):(zeroValue 103).run Tryz.prog w = .ok zeroC w:=by
 obtain⟨i0,hi,hz0,_,_⟩:=info_parts Tryz.infoCoin
 simp[zeroValue,typeInfo,hi,hz0]
def zeroCs:List Value:=[.int .i64 0,.int .i64 0,.int .i64 0,.slice none 0 0,.int .i64 0,.bool false]
theorem Zes:(Builtin.zeroCells zeroC.cells 1).toList=zeroCs:=by kernel_rfl
theorem Ec:∀ v∈zeroCs,v.oneCell'=true:=by
 intro v hv
 simp only[zeroCs,List.mem_cons,List.not_mem_nil,or_false] at hv
 rcases hv with rfl|rfl|rfl|rfl|rfl|rfl <;> rfl
theorem Zhz(X Z:List Value)(i n:Nat)(hi:i<n)(hX:n*6≤X.length) :
  (laid (laid X (i*6) ((X.take (n*6)).drop ((i+1)*6))) ((n - 1)*6) Z).take ((n - 1)*6)=(X.take (n*6)).take (i*6)++(X.take (n*6)).drop ((i+1)*6):=by
 have e1:((X.take (n*6)).drop ((i+1)*6)).length=(n - 1)*6 - i*6:=by simp;omega
 unfold laid
 rw[List.append_assoc,List.take_append_of_le_length (by simp;omega),List.take_of_length_le (by simp;omega)]
 rw[e1,show i*6+((n - 1)*6 - i*6)=(n - 1)*6 by omega,List.take_append_of_le_length (by rw[List.length_append,e1];simp;omega),List.take_of_length_le (by rw[List.length_append,e1];simp;omega),List.take_take,Nat.min_eq_left (by omega)]
theorem Mq(base g n c i j:Nat)(K:List CV)(w:World)(hi:i<n)(hj:j=i+1)(hz:K.length=n)(h:w.ownsRow base 103 6 (.slice (some ⟨g,0,none⟩) n c) n (Zj K)) :
  Calls Tryz.prog 136 #[.slice (some ⟨g,0,none⟩) n c,.int .i64 i,.int .i64 j] w fun e w'=>e = .returned (.slice (some ⟨g,0,none⟩) (n - 1) c)∧w'.ownsRow base 103 6 (.slice (some ⟨g,0,none⟩) (n - 1) c) (n - 1) (Zj (K.take i++K.drop (i+1)))∧w.grownBy w' (some g):=by
 obtain⟨i0,hi0,hz0,hz1,hz2⟩:=info_parts Tryz.infoCoin
 obtain⟨hlen,h|⟨g',c',cur,hv,hbg,hh,h1,h2,h3,h4⟩⟩:=h
 ·cases h.1
 simp only[Value.slice.injEq,Option.some.injEq,Addr.mk.injEq,and_true,true_and] at hv
 obtain⟨rfl,rfl⟩:=hv
 unfold maxLen at h2
 have hcur:cur.toList.length=c*6:=by simpa using h3
 obtain⟨news,hnews⟩:∃ news,news=(cur.toList.take (n*6)).drop ((i+1)*6):=⟨_,rfl⟩
 have hnl:news.length=(n - j)*6:=by rw[hnews];simp;omega
 have hone:∀ u∈news,u.oneCell'=true:=fun u hu=>by
  rw[hnews,h4] at hu
  exact Xe K u (List.mem_of_mem_drop hu)
 obtain⟨A,hA,hsrc⟩:∃ A:Addr,(if c=j then some (⟨g,0,none⟩:Addr) else some ⟨g,j*6,none⟩)=some A∧Hid (∀ t u,news[t]? = some u→w.drew.cell? (A.add t)=some u):=by
  by_cases hc:c=j
  ·refine⟨⟨g,0,none⟩,by simp[hc],fun t u hu=>?_⟩
   have h0:news.length=0:=by rw[hnl];omega
   rw[List.length_eq_zero_iff.1 h0] at hu
   simp at hu
  ·refine⟨⟨g,j*6,none⟩,by simp[hc],fun t u hu=>?_⟩
   have ht:t<(n - j)*6:=by rw[←hnl];exact (List.getElem?_eq_some_iff.1 hu).1
   rw[hnews,List.getElem?_drop,List.getElem?_take_of_lt (by omega)] at hu
   rw[Addr.add_lit]
   show w.cell? _=_
   simp only[World.cell?,hh]
   rw[←hu,←hj]
   simp
 have h5:i*6+news.length≤cur.size:=by rw[hnl,h3];omega
 obtain⟨W1,hW1⟩:∃ W1,W1=w.drew.setRow g (laid cur.toList (i*6) news).toArray:=⟨_,rfl⟩
 have hh1:W1.heap[g]? = some (.cells (laid cur.toList (i*6) news).toArray 103 (0,0)):=by rw[hW1];exact setRow_heap w.drew g cur _ 103 (0,0) hh
 have hll:(laid cur.toList (i*6) news).length=c*6:=by rw[Uv _ _ _ (by simpa using h5),hcur]
 have hcl:∀ ty d,(Builtin.clear_ #[29] ty #[.slice (some ⟨g,(n - 1)*6,none⟩) 1 d]).run Tryz.prog W1 = .ok (.tuple #[]) (W1.setRow g (laid (laid cur.toList (i*6) news) ((n - 1)*6) zeroCs).toArray):=fun ty d=>by
  have:=Ka (P:=Tryz.prog) W1 29 103 ty zeroC Tryz.underlying29 Tryz.zeroCoin g ((n - 1)*6) 1 d 6 (laid cur.toList (i*6) news).toArray 103 zeroCs (by decide) Zes hh1 rfl (by simp[hll];omega) Ec
  simpa using this
 have hsn:i+(n - j)=n - 1:=by omega
 have R:Hid (W1.setRow g (laid (laid cur.toList (i*6) news) ((n - 1)*6) zeroCs).toArray |>.ownsRow base 103 6 (.slice (some ⟨g,0,none⟩) (n - 1) c) (n - 1) (Zj (K.take i++K.drop (i+1)))):=by
  refine⟨by rw[Zv];simp;omega,.inr ⟨g,c,(laid (laid cur.toList (i*6) news) ((n - 1)*6) zeroCs).toArray,rfl,hbg,setRow_heap _ g _ _ 103 (0,0) hh1,by omega,by unfold maxLen;omega,?_,?_⟩⟩
  ·rw[List.size_toArray,Uv _ _ _ (by rw[hll];simp[zeroCs];omega),hll]
  ·rw[hnews]
   show List.take _ (laid _ _ _)=_
   rw[Zhz cur.toList zeroCs i n hi (by rw[hcur];omega),h4,Zu,Vs,Vt]
 have G:Hid (w.grownBy (W1.setRow g (laid (laid cur.toList (i*6) news) ((n - 1)*6) zeroCs).toArray) (some g)):=by
  have e:W1.setRow g (laid (laid cur.toList (i*6) news) ((n - 1)*6) zeroCs).toArray=w.drew.setRow g (laid (laid cur.toList (i*6) news) ((n - 1)*6) zeroCs).toArray:=by rw[hW1,setRow_setRow]
  rw[e]
  refine⟨rfl,rfl,rfl,by simp[World.setRow],fun k hk hne=>?_⟩
  exact setRow_other w.drew g k _ (fun e=>hne (by rw[e]))
 have HCL:=Zb hcl
 have HW:=Zb hW1
 have hH1:=Zb hone
 have hH2:=Zb hnl
 have hH3:=Zb hh
 have hH5:=Zb h5
 have hic:i≤c:=by omega
 have hjc:j≤c:=by omega
 have hjn:j≤n:=by omega
 have hij:¬(i=j):=by omega
 have hne:¬(c=i+(n - j)):=by omega
 have hle:i+(n - j)≤n:=by omega
 have hle2:(i:Int)+((n - j:Nat):Int)≤(n:Int):=by omega
 have hij2:((i:Int) == (j:Int))=false:=by simp;omega
 clear hcl hW1 hone hnl hh h5 hh1 hll hnews h3 h4 hlen hcur hj hz
 go_enter Tryz.func136,Tryz.ntmps136
 go_wp2_with fail
 go_region_law (refine R9 rfl (.tmp 22) (.tmp 25) 29 rfl 103 i0 6 Tryz.underlying29 hi0 hz1 g i c (by simp[Act.eval,Act.put]) A (n - j) (c - j) news (by simp[Act.eval,Act.put]) (Za hH2) (Za hsrc) (Za hH1) (by omega) cur 103 (Za hH3) (Za hH5) ?_;rw[←Za HW])
 have hcl2:∀ ty d,(Builtin.clear_ #[29] ty #[.slice (some ⟨g,(n - 1)*6,none⟩) (n - (n - 1)) d]).run Tryz.prog W1 = .ok (.tuple #[]) (W1.setRow g (laid (laid cur.toList (i*6) news) ((n - 1)*6) zeroCs).toArray):=fun ty d=>by
  rw[show n - (n - 1)=1 by omega];exact (Za HCL) ty d
 go_wp2
 go_ret
 exact⟨rfl,Za R,Za G⟩
theorem Yb(y:CV):(Zj [y]).length=6:=Zv [y]
theorem V7{w:World}{b:Nat}{X:List Value}{t:TypeId}(h:w.heap[b]? = some (.cells X.toArray t (0,0)))(j:Nat)(u:Value)(hj:X[j]? = some u):w.cell? ⟨b,j,none⟩=some u:=by
 simp only[World.cell?,h]
 simpa using hj
theorem Uw(ao:Option Addr)(n c vb:Nat)(K:List CV)(y:CV)(w:World)(hn:n≤4096)(hnc:n≤c)(hroom:c<n+1)(hz:K.length=n)(hnone:ao=none→n=0∧c=0)
  (hc:∀ b,ao=some b→∀ j u,(Zj K)[j]? = some u→w.cell? (b.add j)=some u) (hv:w.heap[vb]? = some (.cells (Zj [y]).toArray 103 (0,0))) :
  Calls Tryz.prog 197 #[.slice ao n c,.int .i64 n,.slice (some ⟨vb,0,none⟩) 1 1] w fun e w'=>∃ v',e = .returned v'∧w'.ownsRow w.heap.size 103 6 v' (n+1) (Zj (K++[y]))∧w.grownBy w' none:=by
 obtain⟨i0,hi0,hz0,hz1,hz2⟩:=info_parts Tryz.infoCoin
 have HC:=Zb hc
 have HZ:Hid ((Zj K).length=n*6):=by show _=_;rw[Zv,hz]
 have HN:=Zb hnone
 have HV:Hid (∀ j u,(Zj [y])[j]? = some u→w.cell? ((⟨vb,0,none⟩:Addr).add j)=some u):=fun j u hj=>by
  rw[Addr.add_lit,Nat.zero_add];exact V7 hv j u hj
 have H1:Hid ((Zj [y]).length=1*6):=Yb y
 clear hc hz hnone hv
 go_enter Tryz.func197,Tryz.ntmps197
 go_wp2_with (at_builtin;refine wpList_append_grows _ rfl _ _ 29 rfl 103 i0 zeroC 6 64 Tryz.underlying29 hi0 hz0 hz1 hz2 rfl (by decide) ao n c (Zj K) rfl (Za HN) (Za HZ) (Za HC) ⟨vb,0,none⟩ 1 1 (Zj [y]) rfl (Za H1) (Za HV) (Xe [y]) hroom (by unfold maxLen;omega) (by omega) ?_;intro v2 w3 hown3 hgrow3)
 have HW:Hid (w3.ownsRow w.heap.size 103 6 v2 (n+1) (Zj (K++[y]))):=by rw[Zu];exact hown3
 have HG:=Zb hgrow3
 clear hown3 hgrow3
 go_wp2
 go_ret
 exact⟨v2,rfl,Za HW,Za HG⟩
theorem T9{P:Program}(w:World)(t ty e:TypeId)(i:TypeInfo)(size:Nat)(h1:P.underlying t=some (.slice e))(h2:P.info? e=some i)(h4:i.size=size)
  (b n cap:Nat) (ad:Addr) (m c:Nat) (news:List Value) (hn:news.length=m*size) (hc:∀ j u,news[j]? = some u→w.cell? (ad.add j)=some u) (h1c:∀ u∈news,u.oneCell'=true)
  (hroom:n+m≤cap) (cur:Array Value) (te:TypeId) (hrow:w.heap[b]? = some (.cells cur te (0,0))) (hfit:n*size+news.length≤cur.size) :
  (Builtin.append_ #[t,t] ty #[.slice (some ⟨b,0,none⟩) n cap,.slice (some ad) m c]).run P w = .ok (.slice (some ⟨b,0,none⟩) (n+m) cap) (w.setRow b (laid cur.toList (n*size) news).toArray):=by
 subst h4
 have hfc:=run_firstCells_some (P:=P) w i.size m ad m c news hn hc
 have hst:=run_storeCells_at P b (n*i.size) te news 0 cur w hrow (by simpa using hfit) h1c
 simp only[Nat.add_zero] at hst
 simp[Builtin.append_,run_underlying h1,sizeOf,typeInfo,h2,Builtin.lenOf,hroom,hfc,Addr.add_lit,hst,laid]
theorem Zjv(X Y:List Value)(n c:Nat)(h:n+1≤c)(hX:X.length=c*6)(hY:Y.length=6):(laid X (n*6) Y).take ((n+1)*6)=X.take (n*6)++Y:=by
 unfold laid
 rw[List.take_append_of_le_length (by simp;omega),List.take_of_length_le (by simp;omega)]
theorem Ld(base g n c vb:Nat)(K:List CV)(y:CV)(w:World)(hroom:n+1≤c)(hz:K.length=n)(h:w.ownsRow base 103 6 (.slice (some ⟨g,0,none⟩) n c) n (Zj K))(hv:w.heap[vb]? = some (.cells (Zj [y]).toArray 103 (0,0))) :
  Calls Tryz.prog 197 #[.slice (some ⟨g,0,none⟩) n c,.int .i64 n,.slice (some ⟨vb,0,none⟩) 1 1] w fun e w'=>e = .returned (.slice (some ⟨g,0,none⟩) (n+1) c)∧w'.ownsRow base 103 6 (.slice (some ⟨g,0,none⟩) (n+1) c) (n+1) (Zj (K++[y]))∧w.grownBy w' (some g):=by
 obtain⟨i0,hi0,hz0,hz1,hz2⟩:=info_parts Tryz.infoCoin
 obtain⟨hlen,h|⟨g',c',cur,hv',hbg,hh,h1,h2,h3,h4⟩⟩:=h
 ·cases h.1
 simp only[Value.slice.injEq,Option.some.injEq,Addr.mk.injEq,and_true,true_and] at hv'
 obtain⟨rfl,rfl⟩:=hv'
 unfold maxLen at h2
 have hcur:cur.toList.length=c*6:=by simpa using h3
 have HR:Hid (∀ ty,(Builtin.append_ #[29,29] ty #[.slice (some ⟨g,0,none⟩) n c,.slice (some ⟨vb,0,none⟩) 1 1]).run Tryz.prog w = .ok (.slice (some ⟨g,0,none⟩) (n+1) c) (w.setRow g (laid cur.toList (n*6) (Zj [y])).toArray)):=fun ty=>
  T9 w 29 ty 103 i0 6 Tryz.underlying29 hi0 hz1 g n c ⟨vb,0,none⟩ 1 1 (Zj [y]) (Yb y) (fun j u hj=>by rw[Addr.add_lit,Nat.zero_add];exact V7 hv j u hj) (Xe [y]) hroom cur 103 hh (by rw[Yb,h3];omega)
 have R:Hid ((w.setRow g (laid cur.toList (n*6) (Zj [y])).toArray).ownsRow base 103 6 (.slice (some ⟨g,0,none⟩) (n+1) c) (n+1) (Zj (K++[y]))):=by
  refine⟨by rw[Zv];simp;omega,.inr ⟨g,c,(laid cur.toList (n*6) (Zj [y])).toArray,rfl,hbg,setRow_heap _ g _ _ 103 (0,0) hh,hroom,by unfold maxLen;omega,?_,?_⟩⟩
  ·rw[List.size_toArray,Uv _ _ _ (by rw[hcur,Yb];omega),hcur]
  ·show List.take _ (laid _ _ _)=_
   rw[Zjv _ _ n c hroom hcur (Yb y),h4,Zu]
 have G:Hid (w.grownBy (w.setRow g (laid cur.toList (n*6) (Zj [y])).toArray) (some g)):=
  ⟨rfl,rfl,rfl,by simp[World.setRow],fun k hk hne=>setRow_other w g k _ (fun e=>hne (by rw[e]))⟩
 clear hh h3 h4 hlen hcur hz hv
 go_enter Tryz.func197,Tryz.ntmps197
 go_wp2_with (at_builtin;refine Ue _ rfl _ _ 29 29 rfl _ _ rfl rfl ((Za HR) _) ?_)
 go_wp2
 go_ret
 exact⟨rfl,Za R,Za G⟩
end Go.Proofs.YtpikejjiignchaaGreatDoor
