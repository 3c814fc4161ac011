/- The contract of the reference's FeeOf. -/
import Derived.Test.YtepmnpapdknocaaGreatDoorCoinCoversToCoinFacts
import Derived.Test.YtepmnpapdknocaaGreatDoorCoinInsertBToCoinPlace
import Derived.Test.YtepmnpapdknocaaGreatDoorShelf
import Derived.Test.YtepmnpapdknocaaGreatDoorLockMathToLockFill
import Derived.Test.YtepmnpapdknocaaGreatDoorTxStateToRefCheckA
import Derived.Maps.OwnOps
import Derived.Laws.AppendOwnNone
set_option maxHeartbeats 6400000
namespace Go.Proofs.YtepmnpapdknocaaGreatDoor
open Go.RowKit
set_option maxRecDepth 10000 in
theorem Ml(sa:Option Addr)(ns cs:Nat)(S:List Zb)(ht:Int)(ai ao:Option Addr)(ni ci no co:Nat)(O:List Z7)(x:Int)(w:World)(hns:ns≤6)(hno:no≤6)(hS:CoinsAt w sa ns S)(hO:OutsAt w ao no O)
  (hs:∀ c∈S,0≤cv c∧cv c≤1000000000) (ho:∀ c∈O,0≤c.1∧c.1≤1000000000) (hx:Zy S - Yc O=x) :
  Calls Tryz.prog 43 #[.agg #[.int .i64 ht,.slice ai ni ci,.slice ao no co],.slice sa ns cs] w fun e w'=>e = .returned (.int .i64 x)∧Below w.heap.size w w':=by
 obtain⟨X0,hX0⟩:∃ X0,X0=w.alloc (.cells #[.int .i64 ht,.slice ai ni ci,.slice ao no co] 74):=⟨_,rfl⟩
 have hb0:Below w.heap.size w X0:=by rw[hX0];exact bel_new _ _
 have hX1:X0.heap[w.heap.size]? = some (.cells [.int .i64 ht,.slice ai ni ci,.slice ao no co].toArray 74 (0,0)):=by rw[hX0];exact Zp _ _ _ _ _
 have HSB:=hide (fun k=>Pp S k hs)
 have HOB:=hide (fun k=>Po O k ho)
 have HS:=hide (hS.later hb0)
 have HO:=hide (hO.later hb0)
 have HZS:=hide hS.1
 have HZO:=hide hO.1
 have HX:=hide hx
 have HX1:=hide hX1
 have HB0:=hide hb0
 clear hS hO hs ho hx hX1 hb0
 go_enter Tryz.func43,Tryz.ntmps43
 go_wp2
 rw[←hX0]
 clear hX0
 go_loopw [5,12] (fun sv i wr=>∃ (k:Nat) (s:Int),k≤ns∧sv = .int .i64 s∧i = .int .i64 k∧Hid (s=Zy (S.take k))∧Hid (Below X0.heap.size X0 wr)) (fun _ i _=>ns - (intOf i).toNat)
 case atStart=>exact⟨0,0,Nat.zero_le _,rfl,rfl,rfl,Below.refl _ _⟩
 case round=>
  obtain⟨k,s,hk,rfl,rfl,A,HB⟩:=hrel
  by_cases hlt:k<ns
  ·have hlk:k<S.length:=by rw[unhide HZS];exact hlt
   obtain⟨b,off,rfl,hbl,hcell⟩:=(unhide HS).2 (by omega)
   have hin:=CoinAt.kept _ _ _ _ _ (unhide HB) (hcell k hlk)
   have b1:=(unhide HSB) k
   have b2:=(unhide HSB) (k+1)
   have hst:=Ti S k hlk
   obtain⟨c,hc⟩:∃ c,S[k]=c:=⟨_,rfl⟩
   rw[hc] at hin hst
   obtain⟨la,ln,lc,g0,g1,g2,g3,g4,g5,_,_⟩:=hin.val
   obtain⟨v,hv⟩:∃ v,cv c=v:=⟨_,rfl⟩
   rw[hv] at g2 hst
   rw[←unhide A] at b1 hst
   rw[hst] at b2
   have A2:Hid (s+v=Zy (S.take (k+1))):=hst.symm
   have HB2:=hide (bel_on (unhide HB) (bel_new wr (.cells #[.int .i64 c.1,.int .i64 c.2.1,.int .i64 v,.slice la ln lc,.int .i64 (ch c),.bool (cr c)] 88)))
   have hw1:IntKind.i64.wrap (s+v)=s+v:=by rw[IntKind.wrap_i64];omega
   clear hin hc hst A HB
   go_wp2
   go_roundw
   case rel=>exact⟨k+1,s+v,by omega,rfl,by go_num,A2,HB2⟩
   case measure=>simp[intOf];omega
  ·have e:k=ns:=by omega
   subst e
   have A2:Hid (s=Zy S):=by
    show _=_
    rw[unhide A,List.take_of_length_le (by rw[unhide HZS];exact Nat.le_refl _)]
   have b1:=(unhide HSB) k
   rw[←unhide A] at b1
   have hh:=((unhide HB).block _ (lt_of_block (unhide HX1))).trans (unhide HX1)
   have c2:=Za hh 2 _ rfl
   have hl:=lt_of_block hh
   clear A hh
   go_wp2
   go_loopw [5,25] (fun sv i wr2=>∃ (j:Nat) (d:Int),j≤no∧sv = .int .i64 d∧i = .int .i64 j∧Hid (d=s - Yc (O.take j))∧Hid (Below X0.heap.size X0 wr2)) (fun _ i _=>no - (intOf i).toNat)
   case atStart=>exact⟨0,s,Nat.zero_le _,rfl,rfl,(by simp[Yc]:s=s - Yc (O.take 0)),HB⟩
   case round=>
    obtain⟨j,d,hj,rfl,rfl,D,HD⟩:=hrel
    clear HB
    have hbd:=unhide HD
    by_cases hlt:j<no
    ·have hlk:j<O.length:=by rw[unhide HZO];exact hlt
     obtain⟨b,off,rfl,hbl,hcell⟩:=(unhide HO).2 (by omega)
     have hin:=OutAt.kept _ _ _ _ _ hbd (hcell j hlk)
     have d1:=(unhide HOB) j
     have d2:=(unhide HOB) (j+1)
     have hst:=Jj O j hlk
     obtain⟨o,hc⟩:∃ o,O[j]=o:=⟨_,rfl⟩
     rw[hc] at hin hst
     obtain⟨q1,q2⟩:=o
     obtain⟨g0,la,ln,lc,g1,_,_⟩:=hin
     simp only at g0 g1 hst
     have hd:d=s - Yc (O.take j):=unhide D
     have A3:Hid (d - q1=s - Yc (O.take (j+1))):=by show _=_;rw[hst];omega
     have HB2:=hide (bel_on (unhide HD) (bel_new wr (.cells #[.int .i64 q1,.slice la ln lc] 84)))
     have hw1:IntKind.i64.wrap (d - q1)=d - q1:=by rw[IntKind.wrap_i64];omega
     clear hc hst D HD hd d1 d2 hbd
     go_wp2
     go_roundw
     case rel=>exact⟨j+1,d - q1,by omega,rfl,by go_num,A3,HB2⟩
     case measure=>simp[intOf];omega
    ·have e:j=no:=by omega
     subst e
     have hd:d=Zy S - Yc O:=by
      have:=unhide D
      rw[List.take_of_length_le (by rw[unhide HZO];exact Nat.le_refl _),unhide A2] at this
      exact this
     have HBD:=hide (bel_on (unhide HB0) hbd)
     have R:Hid (x=d):=by show _=_;rw[←unhide HX,hd]
     clear hbd D hd
     go_wp2
     go_ret
     exact⟨by rw[unhide R];rfl,unhide HBD⟩
theorem Ab(z:Array Value)(n:Nat):(Builtin.zeroCells z n).size=n*z.size:=by simp[Builtin.zeroCells]
theorem Zau(n:Nat)(w:World)(hn:n≤4096) :
  Calls Tryz.prog 123 #[.slice none 0 0,.int .i64 n] w fun e w'=>∃ v,e = .returned v∧w'.ownsRow w.heap.size 88 6 v 0 []∧Below w.heap.size w w':=by
 obtain⟨i0,hi,hz0,hz1,hz2⟩:=info_parts Tryz.infoCoin
 by_cases h:n=0
 ·subst h
  exact (Any8.slices_Grow_room Tryz.growC none 0 0 0 w (Nat.le_refl _) (by omega) (by omega) (by omega)).mono fun e w' ⟨h1,h2⟩=>⟨_,h1,⟨rfl,Or.inl ⟨rfl,rfl⟩⟩,h2 ▸ Below.refl _ _⟩
 ·refine (Any8.slices_Grow_grow Tryz.growC i0 zeroC hi hz0 (by rw[hz1];decide) none 0 0 n [] w (Nat.le_refl _) (by omega) (by rw[hz2];omega) (by omega) (by simp) (fun _=>rfl) (fun a h=>by cases h)).mono fun e w' ⟨h1,h2⟩=>⟨_,h1,?_,?_⟩
  ·rw[h2]
   have hge:=grownCap_ge w (0+n) 0 (Tryz.growC_ren.t 25)
   have hle:=grownCap_le_maxLen w (0+n) 0 (Tryz.growC_ren.t 25) (by unfold maxLen;omega)
   refine⟨rfl,Or.inr ⟨w.heap.size,_,_,rfl,Nat.le_refl _,heap_alloc_new _ _,Nat.zero_le _,hle,?_,rfl⟩⟩
   simp only[Array.size_append,Ab,List.size_toArray,List.length_nil]
   show 0+(0+n - 0)*6+_*6=_*6
   omega
  ·rw[h2]
   exact⟨rfl,rfl,rfl,by simp,fun k hk=>Below.heap_alloc w.drew _ k hk⟩
theorem Zdx(K:List CV)(M:List CV):Ze K++Ze M=Ze (K++M):=(Zk K M).symm
set_option maxRecDepth 100000 in
theorem Sy(B:Nat)(x y:Addr)(lenk capk len cap:Nat)(k l:List CV)(w:World)(hsum:lenk+len≤4096)(hzk:k.length=lenk)(hzl:l.length=len)
  (hK:∀ j u,(Ze k)[j]? = some u→w.cell? (x.add j)=some u) (hL:∀ j u,(Ze l)[j]? = some u→w.cell? (y.add j)=some u)
  (c0:w.cell? ⟨B,0,none⟩=some (.slice (some x) lenk capk)) (c1:w.cell? ⟨B,1,none⟩=some (.slice (some y) len cap)) :
  Calls Tryz.prog 87 #[.slice (some ⟨B,0,none⟩) 2 2] w fun e w'=>∃ v,e = .returned v∧w'.ownsRow w.heap.size 88 6 v (lenk+len) (Ze (k++l))∧Below w.heap.size w w':=by
 obtain⟨i0,hi,hz0,hz1,hz2⟩:=info_parts Tryz.infoCoin
 have hBl:B<w.heap.size:=World.block_lt_of_cell? _ _ c0
 have HK:=hide hK
 have HL:=hide hL
 have HZK:=hide hzk
 have HZL:=hide hzl
 clear hK hL hzk hzl
 go_enter Tryz.func87,Tryz.ntmps87
 go_wp2
 refine wp_loop_rounds 3 ?_
 rw[rounds_succ]
 go_wp2
 rw[rounds_succ]
 go_wp2
 rw[rounds_succ]
 have GR:=hide (Zau (lenk+len) w hsum)
 rw[Int.natCast_add] at GR
 go_wp2_with fail
 refine (unhide GR).mono ?_
 rintro e w1 ⟨v,rfl,hw1,hb1⟩
 have HW1:=hide hw1
 have HB1:=hide hb1
 have c01:=(hb1.cell (p:=⟨B,0,none⟩) hBl).trans c0
 have c11:=(hb1.cell (p:=⟨B,1,none⟩) hBl).trans c1
 clear hw1 hb1
 go_wp2
 refine wp_loop_rounds 3 ?_
 rw[rounds_succ]
 go_wp2_with (at_builtin;refine wpList_append_own _ rfl _ _ 25 rfl w.heap.size 88 i0 zeroC 6 64 Tryz.underlying25 hi hz0 hz1 hz2 rfl (by decide) _ _ _ rfl (unhide HW1) x lenk capk (Ze k) rfl (by rw[Zq,unhide HZK]) (fun j u hj=>cell_later (unhide HB1) ((unhide HK) j u hj)) (Yz k) (by unfold maxLen;omega) (by omega) (unhide HB1).size ?_;intro v1 w2 hown2 hgrow2 _)
 have HW2:Hid (w2.ownsRow w.heap.size 88 6 v1 (0+lenk) (Ze k)):=hide (by simpa using hown2)
 have HB2:=hide ((unhide HB1).grown hgrow2 (unhide HB1).size (Yp (unhide HW1)))
 have c02:=((unhide HB2).cell (p:=⟨B,0,none⟩) hBl).trans c0
 have c12:=((unhide HB2).cell (p:=⟨B,1,none⟩) hBl).trans c1
 clear hown2 hgrow2
 clear c01 c11
 go_wp2
 rw[rounds_succ]
 go_wp2_with (at_builtin;refine wpList_append_own _ rfl _ _ 25 rfl w.heap.size 88 i0 zeroC 6 64 Tryz.underlying25 hi hz0 hz1 hz2 rfl (by decide) _ _ _ rfl (unhide HW2) y len cap (Ze l) rfl (by rw[Zq,unhide HZL]) (fun j u hj=>cell_later (unhide HB2) ((unhide HL) j u hj)) (Yz l) (by unfold maxLen;omega) (by omega) (unhide HB2).size ?_;intro v2 w3 hown3 hgrow3 _)
 have HW3:Hid (w3.ownsRow w.heap.size 88 6 v2 (lenk+len) (Ze (k++l))):=by
  have q:=hown3
  rw[Zdx,Nat.zero_add] at q
  exact q
 have HB3:=hide ((unhide HB2).grown hgrow3 (unhide HB2).size (Yp (unhide HW2)))
 clear hown3 hgrow3 c02 c12
 go_wp2
 rw[rounds_succ]
 go_wp2
 go_ret
 exact⟨v2,rfl,unhide HW3,unhide HB3⟩
theorem Z9(n:Int)(b:Bool)(w:World)(hb:b=fit n) :
  Calls Tryz.prog 151 #[.int .i64 n] w fun e w'=>e = .returned (.bool b)∧w=w':=by
 subst hb
 by_cases h1 : -1000000≤n
 ·by_cases h2:n≤1000000
  ·have e:fit n=true:=(Zu n).2 ⟨h1,h2⟩
   rw[e]
   clear e
   go_enter Tryz.func151,Tryz.ntmps151
   go_wp2
   go_ret
   exact⟨rfl,rfl⟩
  ·have e:fit n=false:=(Px n).2 (by omega)
   have h3:decide (n≤1000000)=false:=by simp;omega
   rw[e]
   clear e
   go_enter Tryz.func151,Tryz.ntmps151
   go_wp2
   go_ret
   exact⟨rfl,rfl⟩
 ·have e:fit n=false:=(Px n).2 (by omega)
  have h3:n < -1000000:=by omega
  rw[e]
  clear e h1
  go_enter Tryz.func151,Tryz.ntmps151
  go_wp2
  go_ret
  exact⟨rfl,rfl⟩
theorem Tr(b:Bool)(w:World) :
  Calls Tryz.prog 150 #[.bool b] w fun e w'=>e = .returned (.slice (some ⟨w.heap.size,0,none⟩) 1 1)∧w'=w.alloc (.cells #[.int .i64 (b01 b)] 3):=by
 cases b
 all_goals
  go_enter Tryz.func150,Tryz.ntmps150
  go_wp2
  go_ret
  exact⟨rfl,rfl⟩
theorem Ym(M:List Int)(a:Int):Yx (M++[a])=some M:=by simp[Yx]
theorem Y8(M:List Int)(a:Int):Qe (M++[a])=a:=by simp[Qe]
theorem Ub(M:List Int)(a b:Int):Yx (M++[a,b])=some (M++[a]):=by
 rw[show M++[a,b]=(M++[a])++[b] by simp];exact Ym _ _
theorem U4(M:List Int)(a b:Int):Qe (M++[a,b])=b:=by
 rw[show M++[a,b]=(M++[a])++[b] by simp];exact Y8 _ _
theorem Ei(h n:Int)(L:List Int):Zz h 1 n L=Z8 L [n]:=by simp[Zz,Z8]
theorem Nz(h n:Int)(L:List Int):Zz h 12 n L=Z8 L [h]:=by simp[Zz,Z8]
theorem Zbx(h n:Int)(M:List Int)(a:Int):Zz h 2 n (M++[a])=Z8 M [a,a]:=by
 simp[Zz,Z8,Ym,Y8]
theorem El(h n:Int)(M:List Int)(a:Int):Zz h 4 n (M++[a])=some M:=by simp[Zz,Ym]
theorem Zbv(h n:Int)(M:List Int)(a:Int):Zz h 9 n (M++[a])=Z8 M [b01 (a == 0)]:=by
 simp[Zz,Z8,Ym,Y8,g1]
theorem Zbw(h n:Int)(M:List Int)(a:Int):Zz h 13 n (M++[a])=Z8 M [Fa a]:=by
 simp[Zz,Z8,Ym,Y8,g1]
theorem Sc(h n:Int)(M:List Int)(a:Int):Zz h 11 n (M++[a])=if a=0 then none else some M:=by
 simp[Zz,Ym,Y8]
theorem Eg(h n:Int)(M:List Int)(a b:Int):Zz h 3 n (M++[a,b])=Z8 M [b,a]:=by
 simp[Zz,Z8,Ub,U4,Ym,Y8]
theorem Zbz(h n:Int)(M:List Int)(a b:Int):Zz h 5 n (M++[a,b])=Z8 M [a+b]:=by
 simp[Zz,Z8,Ub,U4,Ym,Y8,g2]
theorem Zbu(h n:Int)(M:List Int)(a b:Int):Zz h 6 n (M++[a,b])=Z8 M [a - b]:=by
 simp[Zz,Z8,Ub,U4,Ym,Y8,g2]
theorem Eh(h n:Int)(M:List Int)(a b:Int):Zz h 7 n (M++[a,b])=Z8 M [b01 (a == b)]:=by
 simp[Zz,Z8,Ub,U4,Ym,Y8,g2]
theorem Ek(h n:Int)(M:List Int)(a b:Int):Zz h 8 n (M++[a,b])=Z8 M [b01 (decide (a<b))]:=by
 simp[Zz,Z8,Ub,U4,Ym,Y8,g2]
theorem Zby(h n:Int)(M:List Int)(a b:Int):Zz h 10 n (M++[a,b])=Z8 M [b01 (a != 0 && b != 0)]:=by
 simp[Zz,Z8,Ub,U4,Ym,Y8,g2]
theorem Lt:Yx []=none:=rfl
theorem Xs(h k n:Int)(hk:k≠1)(hk':k≠12):Zz h k n []=none:=by
 simp[Zz,Lt,hk,hk']
theorem U6(h k n a:Int)(hk:k=3∨k=5∨k=6∨k=7∨k=8∨k=10):Zz h k n [a]=none:=by
 have e:Yx [a]=some []:=rfl
 rcases hk with rfl|rfl|rfl|rfl|rfl|rfl <;> simp[Zz,e,Lt]
theorem Xb{L:List Int}(h:1≤L.length):∃ M a,L=M++[a]:=by
 have hn:L≠[]:=fun e=>by subst e;simp at h
 exact⟨L.dropLast,L.getLast hn,(List.dropLast_concat_getLast hn).symm⟩
theorem Qa{L:List Int}(h:2≤L.length):∃ M a b,L=M++[a,b]:=by
 obtain⟨M,b,rfl⟩:=Xb (L:=L) (by omega)
 obtain⟨N,a,rfl⟩:=Xb (L:=M) (by simp at h;omega)
 exact⟨N,a,b,by simp⟩
theorem Xa{M:List Int}{x:Int}(h1:M.length<16)(h2:fit x=true):Z8 M [x]=some (M++[x]):=by
 have:¬M.length=16:=by omega
 simp[Z8,Uw,this,h2]
theorem Yu{M:List Int}{x:Int}{r:List Int}(h1:M.length=16):Z8 M (x :: r)=none:=by simp[Z8,Uw,h1]
theorem Y0{M:List Int}{x:Int}{r:List Int}(h2:fit x=false):Z8 M (x :: r)=none:=by simp[Z8,Uw,h2]
theorem Rs{M:List Int}{x y:Int}(h1:M.length<16)(h2:fit x=true):Z8 M [x,y]=Z8 (M++[x]) [y]:=by
 have:¬M.length=16:=by omega
 simp[Z8,Uw,this,h2]
theorem Q4{L:List Int}(h:Z0 L=true):L.length≤16∧∀ x∈L,fit x=true:=by
 simpa[Z0] using h
open Go.RowKit Go.Maps
theorem Vo:Keyed Tryz.prog 3:=int_keyed Tryz.underlying3
theorem zero3(w:World):(zeroValue 3).run Tryz.prog w = .ok (.int .i64 0) w:=by kernel_rfl
theorem Rj{H:Type}{P:Program}(w:World){ops:Array Oper}{rest:List Oper}{o:Oper}{a:Act}{Q:Exit→Act→World→Prop}
  (hg:o.guard=none) (m x v:Operand) (t:TypeId) (hop:o.op=Op.insert t m x v)
  (k e:TypeId) (K:Keyed P k) (ht:P.underlying t=some (.map k e)) (R:Value→Option (DataW H×List MemPlace)) (b n:Nat) (D:DataW H)
  (hm:a.eval m = .map (some b)) (hown:w.ownsMap P k R b n D) (hn:n<maxLen) (key val:Value) (kl:Lit) (hx:a.eval x=key) (hv:a.eval v=val) (hkey:keyOf P k key=some kl)
  (d:DataW H) (ps:List MemPlace) (hval:R val=some (d,ps))
  (hK:∀ w',w'.ownsMap P k R b (n+1) (D.put kl d)→w.grownBy w' (some b)→wpList P ops Q rest (a.put o.dst undef) w') :
  wpList P ops Q (o :: rest) a w:=by
 refine wpList_plain hg fun K' hK'=>?_
 obtain⟨w',hrun,r1,r2⟩:=hown.update K ht hn hkey hval
 unfold Oper.wp
 simp[execOp,hop,hm,hx,hv,hrun,Result.andThen]
 exact hK' _ _ (hK w' r1 r2)
def putD(D:DataW Unit)(p:Int×Int):DataW Unit:=D.put (.int .i64 p.1) (.lit (.int .i64 p.2))
def TakesD:DataW Unit:=[(2,1),(3,2),(4,1),(5,2),(6,2),(7,2),(8,2),(9,1),(10,2),(11,1),(13,1)].foldl putD (.map [])
def Cp(k:Int):Int:=if k=1∨k=12 then 0 else if k=2∨k=4∨k=9∨k=11∨k=13 then 1 else 2
theorem Zbr(k:Int)(h1:1≤k)(h2:k≤13):TakesD.atKey (.int .i64 k) (.lit (.int .i64 0)) = .lit (.int .i64 (Cp k)):=by
 have h:k=1∨k=2∨k=3∨k=4∨k=5∨k=6∨k=7∨k=8∨k=9∨k=10∨k=11∨k=12∨k=13:=by omega
 rcases h with rfl|rfl|rfl|rfl|rfl|rfl|rfl|rfl|rfl|rfl|rfl|rfl|rfl
 all_goals rfl
abbrev Py(bm n:Nat)(D:DataW Unit)(w:World):Prop:=w.ownsMap Tryz.prog 3 (plainElem (H:=Unit) Tryz.prog 3) bm n D
structure St(W:World)(bm:Nat)(v:Value)(L:List Int)(w:World):Prop where
 row:∃ g cap,v = .slice (some ⟨g,0,none⟩) L.length cap∧L.length≤cap∧cap≤maxLen
 own:w.ownsRow W.heap.size 3 1 v L.length (L.map (Value.int .i64))
 map:Py bm 11 TakesD w
 bel:Below W.heap.size W w
theorem Zdk{bm n:Nat}{D:DataW Unit}{w w':World}(h:Py bm n D w)(hb:Below w.heap.size w w'):Py bm n D w':=by
 obtain⟨es,clock,h1,r⟩:=h
 exact⟨es,clock,(hb.block bm (lt_of_block h1)).trans h1,r⟩
theorem Zcz{w w':World}{base:Nat}{e:TypeId}{size:Nat}{v:Value}{n:Nat}{xs:List Value}(h:w.ownsRow base e size v n xs)(hb:Below w.heap.size w w'):w'.ownsRow base e size v n xs:=by
 obtain⟨hl,h0|⟨g,cap,cur,hv,hg,hh,r⟩⟩:=h
 ·exact⟨hl,.inl h0⟩
 ·exact⟨hl,.inr ⟨g,cap,cur,hv,hg,(hb.block g (lt_of_block hh)).trans hh,r⟩⟩
theorem St.keep{W:World}{bm:Nat}{v:Value}{L:List Int}{w w':World}(h:St W bm v L w)(hb:Below w.heap.size w w'):St W bm v L w':=
 ⟨h.row,Zcz h.own hb,Zdk h.map hb,h.bel.trans (hb.mono h.bel.size)⟩
theorem St.apart{W:World}{bm:Nat}{v:Value}{L:List Int}{w:World}(h:St W bm v L w):some bm≠v.ownBlock:=by
 obtain⟨es,clock,h1,_⟩:=h.map
 obtain⟨_,h0|⟨g,cap,cur,hv,hg,hh,r⟩⟩:=h.own
 ·obtain⟨g,cap,hv,_⟩:=h.row
  rw[hv] at h0
  simp at h0
 ·rw[hv]
  intro e
  simp only[Value.ownBlock,Option.some.injEq] at e
  rw[e,hh] at h1
  cases h1
theorem St.ge{W:World}{bm:Nat}{v:Value}{L:List Int}{w:World}(h:St W bm v L w):∀ k,v.ownBlock=some k→W.heap.size≤k:=by
 obtain⟨_,h0|⟨g,cap,cur,hv,hg,hh,r⟩⟩:=h.own
 ·intro k hk;rw[h0.1] at hk;cases hk
 ·intro k hk
  rw[hv] at hk
  simp only[Value.ownBlock,Option.some.injEq] at hk
  omega
theorem St.app{W:World}{bm:Nat}{v v':Value}{L:List Int}{x:Int}{w w':World}(h:St W bm v L w)
  (ho:w'.ownsRow W.heap.size 3 1 v' (L.length+1) (L.map (Value.int .i64)++[.int .i64 x])) (hg:w.grownBy w' v.ownBlock) (hn:v' = .slice none 0 0↔v = .slice none 0 0∧1=0):St W bm v' (L++[x]) w' where
 row:=by
  obtain⟨_,h0|⟨g,cap,cur,hv,hg,hh,h1,h2,r⟩⟩:=ho
  ·exact absurd (hn.1 h0.1).2 (by decide)
  ·exact⟨g,cap,by rw[hv];simp,by simpa using h1,h2⟩
 own:=by simpa using ho
 map:=h.map.kept hg h.apart
 bel:=h.bel.grown hg h.bel.size h.ge
theorem St.cut{W:World}{bm:Nat}{a:Option Addr}{n cap:Nat}{M T:List Int}{w:World}(h:St W bm (.slice a n cap) (M++T) w):St W bm (.slice a M.length cap) M w where
 row:=by
  obtain⟨g,c,hv,h1,h2⟩:=h.row
  simp only[Value.slice.injEq] at hv
  obtain⟨rfl,_,rfl⟩:=hv
  rw[List.length_append] at h1
  exact⟨g,cap,rfl,by omega,h2⟩
 own:=by
  obtain⟨hl,h0|⟨g,c,cur,hv,hg,hh,h1,h2,h3,h4⟩⟩:=h.own
  ·obtain⟨g,c,hv,_⟩:=h.row
   rw[hv] at h0
   simp at h0
  ·simp only[Value.slice.injEq] at hv
   obtain⟨rfl,_,rfl⟩:=hv
   rw[List.length_append] at h1
   refine⟨by simp,.inr ⟨g,cap,cur,rfl,hg,hh,by omega,h2,h3,?_⟩⟩
   have e:=congrArg (List.take (M.length*1)) h4
   rw[List.take_take,List.length_append] at e
   rw[show min (M.length*1) ((M.length+T.length)*1)=M.length*1 by omega] at e
   rw[e,List.map_append,List.take_left' (by simp)]
 map:=h.map
 bel:=h.bel
theorem St.cell{W:World}{bm:Nat}{g n cap:Nat}{L:List Int}{w:World}(h:St W bm (.slice (some ⟨g,0,none⟩) n cap) L w)(i:Nat)(hi:i<L.length):w.cell? ⟨g,i,none⟩=some (.int .i64 (L.getD i 0)):=by
 obtain⟨hl,h0|⟨g',c,cur,hv,hg,hh,h1,h2,h3,h4⟩⟩:=h.own
 ·obtain⟨h5,_⟩:=h0
  simp at h5
 ·simp only[Value.slice.injEq,Option.some.injEq,Addr.mk.injEq] at hv
  obtain⟨⟨rfl,_⟩,_,rfl⟩:=hv
  have e:=congrArg (fun l:List Value=>l[i]?) h4
  simp only[List.getElem?_take_of_lt (show i<L.length*1 by omega)] at e
  simp only[World.cell?,hh]
  rw[Array.getElem?_toList] at e
  simpa[hi] using e
theorem St.rowAt{W:World}{bm:Nat}{v:Value}{L:List Int}{w:World}(h:St W bm v L w):∃ a cap,v = .slice a L.length cap∧RowAt w a L.length L∧(a=none→cap=0):=by
 obtain⟨g,cap,rfl,h1,h2⟩:=h.row
 refine⟨_,cap,rfl,⟨rfl,Nat.le_trans h1 h2,fun _=>⟨g,0,rfl,fun i hi=>?_⟩⟩,fun h=>by cases h⟩
 rw[Nat.zero_add]
 exact h.cell i hi
open Go.RowKit Go.Maps
theorem Tryz.info3:(Tryz.prog.info? 3).map (fun i=>(i.zero,i.size,i.bytes))=some (some (.int .i64 0),1,8):=by kernel_rfl
theorem Uq{w:World}{ops:Array Oper}{rest:List Oper}{o:Oper}{a:Act}{Q:Exit→Act→World→Prop}(hgd:o.guard=none)(s x:Operand)
  (ho:o.op = .call { callee:=.builtin .append,args:=#[s,x],argTypes:=#[30,30] }) (base:Nat) (v:Value) (n:Nat) (xs:List Value) (hs:a.eval s=v) (hown:w.ownsRow base 3 1 v n xs)
  (az:Option Addr) (len cap:Nat) (Z:List Int) (hx:a.eval x = .slice az len cap) (hcap:az=none→cap=0) (hR:RowAt w az len Z) (hnz:n+len≤1000000) (hbase:base≤w.heap.size)
  (h:∀ v' w',w'.ownsRow base 3 1 v' (n+len) (xs++Z.map (Value.int .i64))→w.grownBy w' v.ownBlock→(v = .slice none 0 0∨v' ≠ .slice none 0 0)→wpList Tryz.prog ops Q rest (a.put o.dst v') w') :
  wpList Tryz.prog ops Q (o :: rest) a w:=by
 obtain⟨i0,hi,hz0,hz1,hz2⟩:=info_parts Tryz.info3
 cases az with
 | none=>
  have h0:len=0:=by
   by_cases e:len=0
   ·exact e
   ·obtain⟨b,off,e',_⟩:=hR.2.2 (by omega)
    cases e'
  subst h0
  have hc:=hcap rfl
  subst hc
  have hZ:Z=[]:=List.length_eq_zero_iff.1 hR.1
  subst hZ
  refine wpList_append_own_none hgd s x 30 ho base 3 i0 1 Tryz.underlying30 hi v n xs hs hown hx ?_
  by_cases hv:v = .slice none 0 0
  ·exact h v w (by simpa using hown) (World.grownBy.refl _ _) (.inl hv)
  ·exact h v w (by simpa using hown) (World.grownBy.refl _ _) (.inr hv)
 | some ad=>
  refine wpList_append_own w hgd s x 30 ho base 3 i0 (.int .i64 0) 1 8 Tryz.underlying30 hi hz0 hz1 hz2 rfl (by decide) v n xs hs hown ad len cap (Z.map (Value.int .i64)) hx (by simp[hR.1]) (fun j u hj=>?_) (fun u hu=>?_) (by unfold maxLen;omega) (by omega) hbase fun v' w' h1 h2 h3=>h v' w' h1 h2 ?_
  ·have hj':j<Z.length:=by
    have:=(List.getElem?_eq_some_iff.1 hj).1
    simpa using this
   obtain⟨b,off,e,hc⟩:=hR.2.2 (by rw[←hR.1];omega)
   cases e
   have hadd:(⟨b,off,none⟩:Addr).add j=⟨b,off+j,none⟩:=by unfold Addr.add;split <;> simp_all
   rw[hadd,hc j (by rw[←hR.1];exact hj')]
   simpa[hj'] using hj
  ·simp only[List.mem_map] at hu
   obtain⟨y,_,rfl⟩:=hu
   rfl
  ·by_cases e:v' = .slice none 0 0
   ·exact .inl (h3.1 e).1
   ·exact .inr e
structure Pro(W:World)(bm:Nat)(v:Value)(L:List Int)(n:Nat)(D:DataW Unit)(w:World):Prop where
 row:∃ g cap,v = .slice (some ⟨g,0,none⟩) L.length cap∧L.length≤cap∧cap≤maxLen
 own:w.ownsRow W.heap.size 3 1 v L.length (L.map (Value.int .i64))
 apart:v.ownBlock≠some bm
 new:W.heap.size≤bm
 map:Py bm n D w
 bel:Below W.heap.size W w
theorem Pro.start{W w0 w:World}{v0 v:Value}{L:List Int}(hb:Below W.heap.size W w0)(hv0:∀ k,v0.ownBlock=some k→W.heap.size≤k)(ho:w.ownsRow W.heap.size 3 1 v L.length (L.map (Value.int .i64)))(hg:w0.grownBy w v0.ownBlock)(hn:v ≠ .slice none 0 0) :
  Pro W w.heap.size v L 0 (.map []) (w.alloc (.map #[] 0)) where
 row:=by
  obtain⟨_,h0|⟨g,cap,cur,hv,_,hh,h1,h2,r⟩⟩:=ho
  ·exact absurd h0.1 hn
  ·exact⟨g,cap,hv,h1,h2⟩
 own:=ho.alloc _
 apart:=by
  obtain⟨_,h0|⟨g,cap,cur,hv,_,hh,_⟩⟩:=ho
  ·exact absurd h0.1 hn
  ·have:=lt_of_block hh
   rw[hv]
   intro e
   simp only[Value.ownBlock,Option.some.injEq] at e
   omega
 new:=(hb.grown hg hb.size hv0).size
 map:=World.ownsMap_made _ _ _ _
 bel:=(hb.grown hg hb.size hv0).alloc (hb.grown hg hb.size hv0).size _
theorem Lc{w w1:World}{v1:Value}{lens:Nat}{Z:List Int}(hb:Below w.heap.size w (w.alloc (.cells #[] 3)))(hz:Z.length=lens)(ho:w1.ownsRow w.heap.size 3 1 v1 (0+lens) ([]++Z.map (Value.int .i64)))
  (hg:(w.alloc (.cells #[] 3)).grownBy w1 (Value.ownBlock (.slice (some ⟨w.heap.size,0,none⟩) 0 0))) (hn:(Value.slice (some ⟨w.heap.size,0,none⟩) 0 0) = .slice none 0 0∨v1 ≠ .slice none 0 0):Pro w w1.heap.size v1 Z 0 (.map []) (w1.alloc (.map #[] 0)):=by
 rw[List.nil_append,Nat.zero_add,←hz] at ho
 exact Pro.start hb (fun k hk=>by cases hk;exact Nat.le_refl _) ho hg (hn.resolve_left (by simp))
theorem Pro.st{W:World}{bm:Nat}{v:Value}{L:List Int}{w:World}(h:Pro W bm v L 11 TakesD w):St W bm v L w:=⟨h.row,h.own,h.map,h.bel⟩
theorem Up(w:World){ops:Array Oper}{rest:List Oper}{o:Oper}{a:Act}{Q:Exit→Act→World→Prop}
  (hg:o.guard=none) (m x v:Operand) (hop:o.op=Op.insert 216 m x v) (W:World) (bm:Nat) (u:Value) (L:List Int) (n:Nat) (D:DataW Unit)
  (hp:Pro W bm u L n D w) (hm:a.eval m = .map (some bm)) (hn:n<100) (k t:Int) (hx:a.eval x = .int .i64 k) (hv:a.eval v = .int .i64 t) (hk:(Lit.int .i64 k).wf=true) (ht:(Lit.int .i64 t).wf=true)
  (hK:∀ w',Pro W bm u L (n+1) (putD D (k,t)) w'→wpList Tryz.prog ops Q rest (a.put o.dst undef) w') :
  wpList Tryz.prog ops Q (o :: rest) a w:=by
 refine Rj w hg m x v 216 hop 3 3 Vo Tryz.underlying216 _ bm n D hm hp.map (by unfold maxLen;omega) _ _ _ hx hv (keyOf_int_mk Tryz.underlying3 hk) _ [] (plainElem_int Tryz.underlying3 ht) fun w' h1 h2=>hK w' ?_
 exact⟨hp.row,hp.own.kept h2 (.inr hp.apart),hp.apart,hp.new,h1,hp.bel.grown h2 hp.bel.size (fun j hj=>by cases hj;exact hp.new)⟩
set_option maxRecDepth 100000 in
theorem Dc(az:Option Addr)(lens caps cap:Nat)(a:Option Addr)(Z:List Int)(h:Int)(w:World)(hR:RowAt w az lens Z)(hc:az=none→caps=0)(hZ:Z0 Z=true) :
  Calls Tryz.prog 122 #[.slice a 0 cap,.slice az lens caps,.int .i64 h] w fun e w'=>∃ a' cap',e = .returned (.tuple #[.slice a' Z.length cap',.bool true])∧RowAt w' a' Z.length Z∧Below w.heap.size w w'∧(a'=none→cap'=0):=by
 have hlen:lens≤16:=by rw[←hR.1];exact (Q4 hZ).1
 have HR:=hide hR
 have HC:=hide hc
 clear hR hc hZ
 have HB0:=hide ((Below.refl w.heap.size w).alloc (Nat.le_refl _) (.cells #[] 3))
 have HR0:=hide ((unhide HR).later (unhide HB0))
 have HO0:Hid ((w.alloc (.cells #[] 3)).ownsRow w.heap.size 3 1 (.slice (some ⟨w.heap.size,0,none⟩) 0 0) 0 []):=⟨rfl,.inr ⟨w.heap.size,0,#[],rfl,Nat.le_refl _,heap_alloc_new _ _,Nat.le_refl _,by decide,rfl,rfl⟩⟩
 have hmm:=@run_makeMap Tryz.prog
 go_enter Tryz.func122,Tryz.ntmps122
 go_wp2_with (first
  | (at_builtin;refine Uq rfl _ _ rfl w.heap.size _ _ _ rfl (unhide HO0) az lens caps Z rfl (unhide HC) (unhide HR0) (by omega) (unhide HB0).size ?_;intro v1 w1 ho1 hg1 hn1;have hst:=Lc (unhide HB0) (unhide HR).1 ho1 hg1 hn1;clear ho1 hg1 hn1)
  | (refine Up _ rfl _ _ _ rfl _ _ _ _ _ _ hst rfl (by omega) _ _ rfl rfl (by decide) (by decide) ?_;intro w2 hst2;clear hst;have hst:=hst2;clear hst2))
 have HST:=hide (Pro.st hst)
 clear hst
 obtain⟨a',cap',rfl,hra,hca⟩:=(unhide HST).rowAt
 have HCA:=hide hca
 have HRA:=hide hra
 clear hra hca
 refine wp_loop_rounds 1 ?_
 rw[rounds_succ]
 go_wp2
 go_ret2
 exact⟨a',cap',rfl,unhide HRA,(unhide HST).bel,unhide HCA⟩
end Go.Proofs.YtepmnpapdknocaaGreatDoor
