import Derived.Test.YtpikejjiignchaaGreatDoorG24
import Derived.Test.YtpikejjiignchaaGreatDoorG25
set_option maxHeartbeats 12800000
set_option maxRecDepth 10000
namespace Go.Proofs.YtpikejjiignchaaGreatDoor
open Go.RowKit
theorem Hi:∀ (L:List Zf) (k:Nat),(∀ c∈L,0≤cv c∧cv c≤1000000000)→0≤Z6 (L.take k)∧Z6 (L.take k)≤1000000000*(k:Int)
 | [],k,_=>by simp[Z6];omega
 | c :: r,0,_=>by simp[Z6]
 | c :: r,k+1,h=>by
  have h1:=h c (List.mem_cons_self ..)
  have h2:=Hi r k (fun x hx=>h x (List.mem_cons_of_mem _ hx))
  rw[List.take_succ_cons,Wm]
  omega
theorem Hh:∀ (L:List Yc) (k:Nat),(∀ c∈L,0≤c.1∧c.1≤1000000000)→0≤Yi (L.take k)∧Yi (L.take k)≤1000000000*(k:Int)
 | [],k,_=>by simp[Yi];omega
 | c :: r,0,_=>by simp[Yi]
 | c :: r,k+1,h=>by
  have h1:=h c (List.mem_cons_self ..)
  have h2:=Hh r k (fun x hx=>h x (List.mem_cons_of_mem _ hx))
  rw[List.take_succ_cons]
  have e:Yi (c :: r.take k)=c.1+Yi (r.take k):=by simp[Yi]
  rw[e]
  omega
theorem Zeg(sa:Option Addr)(ns cs:Nat)(S:List Zf)(ht:Int)(ai ao:Option Addr)(ni ci no co:Nat)(O:List Yc)(x:Int)(w:World)(hns:ns≤6)(hno:no≤6)(hS:CoinsAt w sa ns S)(hO:OutsAt w ao no O)
  (hs:∀ c∈S,0≤cv c∧cv c≤1000000000) (ho:∀ c∈O,0≤c.1∧c.1≤1000000000) (hx:(if Z6 S - Yi O<0∧decide (ni=0)=false then 9 else 0)=x) :
  Calls Tryz.prog 142 #[.slice sa ns cs,.agg #[.int .i64 ht,.slice ai ni ci,.slice ao no co]] w fun e w'=>e = .returned (.int .i64 x)∧Below w.heap.size w w':=by
 obtain⟨X0,hX0⟩:∃ X0,X0=w.alloc (.cells #[.int .i64 ht,.slice ai ni ci,.slice ao no co] 52):=⟨_,rfl⟩
 have hb0:Below w.heap.size w X0:=by rw[hX0];exact Zg _ _
 have hX1:X0.heap[w.heap.size]? = some (.cells [.int .i64 ht,.slice ai ni ci,.slice ao no co].toArray 52 (0,0)):=by rw[hX0];exact Zp _ _ _ _ _
 have HSB:=Zb (fun k=>Hi S k hs)
 have HOB:=Zb (fun k=>Hh O k ho)
 have HS:=Zb (hS.later hb0)
 have HO:=Zb (hO.later hb0)
 have HZS:=Zb hS.1
 have HZO:=Zb hO.1
 have HX:=Zb hx
 have HX1:=Zb hX1
 have HB0:=Zb hb0
 clear hS hO hs ho hx hX1 hb0
 go_enter Tryz.func142,Tryz.ntmps142
 go_wp2
 rw[←hX0]
 clear hX0
 go_loopw [5,12] (fun sv i wr=>∃ (k:Nat) (s:Int),k≤ns∧sv = .int .i64 s∧i = .int .i64 k∧Hid (s=Z6 (S.take k))∧Hid (Below X0.heap.size X0 wr)) (fun _ i _=>ns - (intOf i).toNat)
 case atStart=>exact⟨0,0,Nat.zero_le _,rfl,rfl,rfl,Below.refl _ _⟩
 case round=>
  obtain⟨k,s,hk,rfl,rfl,A,HB⟩:=hrel
  by_cases hlt:k<ns
  ·have hlk:k<S.length:=by rw[Za HZS];exact hlt
   obtain⟨b,off,rfl,hbl,hcell⟩:=(Za HS).2 (by omega)
   have hin:=CoinAt.kept _ _ _ _ _ (Za HB) (hcell k hlk)
   have b1:=(Za HSB) k
   have b2:=(Za HSB) (k+1)
   have hst:=Pf S k hlk
   obtain⟨c,hc⟩:∃ c,S[k]=c:=⟨_,rfl⟩
   rw[hc] at hin hst
   obtain⟨la,ln,lc,g0,g1,g2,g3,g4,g5,_,_⟩:=hin.val
   obtain⟨v,hv⟩:∃ v,cv c=v:=⟨_,rfl⟩
   rw[hv] at g2 hst
   rw[←Za A] at b1 hst
   rw[hst] at b2
   have A2:Hid (s+v=Z6 (S.take (k+1))):=hst.symm
   have HB2:=Zb (Ze (Za HB) (Zg wr (.cells #[.int .i64 c.1,.int .i64 c.2.1,.int .i64 v,.slice la ln lc,.int .i64 (ch c),.bool (cr c)] 103)))
   have hw1:IntKind.i64.wrap (s+v)=s+v:=by rw[IntKind.wrap_i64];omega
   clear hin hc hst A HB
   go_wp2
   go_roundw
   case rel=>exact⟨k+1,s+v,by omega,rfl,by go_num,A2,HB2⟩
   case measure=>simp[intOf];omega
  ·have e:k=ns:=by omega
   subst e
   have A2:Hid (s=Z6 S):=by
    show _=_
    rw[Za A,List.take_of_length_le (by rw[Za HZS];exact Nat.le_refl _)]
   have b1:=(Za HSB) k
   rw[←Za A] at b1
   have hh:=((Za HB).block _ (lt_of_block (Za HX1))).trans (Za HX1)
   have c2:=Zd hh 2 _ rfl
   have hl:=lt_of_block hh
   clear A hh
   go_wp2
   go_loopw [5,25] (fun sv i wr2=>∃ (j:Nat) (d:Int),j≤no∧sv = .int .i64 d∧i = .int .i64 j∧Hid (d=s - Yi (O.take j))∧Hid (Below X0.heap.size X0 wr2)) (fun _ i _=>no - (intOf i).toNat)
   case atStart=>exact⟨0,s,Nat.zero_le _,rfl,rfl,(by simp[Yi]:s=s - Yi (O.take 0)),HB⟩
   case round=>
    obtain⟨j,d,hj,rfl,rfl,D,HD⟩:=hrel
    clear HB
    have hbd:=Za HD
    by_cases hlt:j<no
    ·have hlk:j<O.length:=by rw[Za HZO];exact hlt
     obtain⟨b,off,rfl,hbl,hcell⟩:=(Za HO).2 (by omega)
     have hin:=OutAt.kept _ _ _ _ _ hbd (hcell j hlk)
     have d1:=(Za HOB) j
     have d2:=(Za HOB) (j+1)
     have hst:=Rf O j hlk
     obtain⟨o,hc⟩:∃ o,O[j]=o:=⟨_,rfl⟩
     rw[hc] at hin hst
     obtain⟨q1,q2⟩:=o
     obtain⟨g0,la,ln,lc,g1,_,_⟩:=hin
     simp only at g0 g1 hst
     have hd:d=s - Yi (O.take j):=Za D
     have A3:Hid (d - q1=s - Yi (O.take (j+1))):=by show _=_;rw[hst];omega
     have HB2:=Zb (Ze (Za HD) (Zg wr (.cells #[.int .i64 q1,.slice la ln lc] 101)))
     have hw1:IntKind.i64.wrap (d - q1)=d - q1:=by rw[IntKind.wrap_i64];omega
     clear hc hst D HD hd d1 d2 hbd
     go_wp2
     go_roundw
     case rel=>exact⟨j+1,d - q1,by omega,rfl,by go_num,A3,HB2⟩
     case measure=>simp[intOf];omega
    ·have e:j=no:=by omega
     subst e
     have hd:d=Z6 S - Yi O:=by
      have:=Za D
      rw[List.take_of_length_le (by rw[Za HZO];exact Nat.le_refl _),Za A2] at this
      exact this
     have hx:=Za HX
     rw[←hd] at hx
     have hh:=(hbd.block _ (lt_of_block (Za HX1))).trans (Za HX1)
     have e0:=Zd hh 0 _ rfl
     have e1:=Zd hh 1 _ rfl
     have e2:=Zd hh 2 _ rfl
     have hl2:=lt_of_block hh
     have HBD:=Zb (Ze (Za HB0) hbd)
     have IR:=Zb (fun w=>J7 ht ai ao ni ci j co (decide (ni=0)) w rfl)
     clear hh hbd D hd
     by_cases hneg:d<0
     ·cases hr:decide (ni=0) with
      | true=>
       have R:Hid (x=0):=by show _=_;rw[←hx,if_neg (by rw[hr];simp)]
       rw[hr] at IR
       clear hx hr
       go_wp2_with fail
       refine ((Za IR) _).mono ?_
       rintro e w3 ⟨rfl,hb3⟩
       have HB3:=Zb (Ze (Za HBD) hb3)
       clear hb3
       go_wp2
       go_ret
       exact⟨by rw[Za R];rfl,Za HB3⟩
      | false=>
       have R:Hid (x=9):=by show _=_;rw[←hx,if_pos ⟨hneg,hr⟩]
       rw[hr] at IR
       clear hx hr
       go_wp2_with fail
       refine ((Za IR) _).mono ?_
       rintro e w3 ⟨rfl,hb3⟩
       have HB3:=Zb (Ze (Za HBD) hb3)
       clear hb3
       go_wp2
       go_ret
       exact⟨by rw[Za R];rfl,Za HB3⟩
     ·have R:Hid (x=0):=by show _=_;rw[←hx,if_neg (fun q=>hneg q.1)]
      clear hx
      go_wp2
      go_ret
      exact⟨by rw[Za R];rfl,Za HBD⟩
def UndoAt(w:World)(b o:Nat)(s:List Zf):Prop:=∃ a n c,w.cell? ⟨b,o,none⟩=some (.slice a n c)∧CoinsAt w a n s∧SlOk a n c
theorem UndoAt.kept{w w':World}{b o:Nat}{s:List Zf}(hb:Below w.heap.size w w')(h:UndoAt w b o s):UndoAt w' b o s:=by
 obtain⟨a,n,c,h1,h2,h3⟩:=h
 exact⟨a,n,c,Zc hb h1,h2.later hb,h3⟩
def Y5(r:Int)(T:List TxD)(S:List (List Zf))(k:Nat):Int:=r+Z6 (S.take k).flatten - Yi ((T.take k).map (·.2.2)).flatten
theorem U5(L M:List Yc):Yi (L++M)=Yi L+Yi M:=by simp[Yi]
theorem Lc(r:Int)(T:List TxD)(S:List (List Zf)):Y5 r T S 0=r:=by simp[Y5,Z6,Yi]
theorem Ti(r:Int)(T:List TxD)(S:List (List Zf))(k:Nat)(hT:k<T.length)(hS:k<S.length):Y5 r T S (k+1)=Y5 r T S k+Z6 S[k] - Yi T[k].2.2:=by
 unfold Y5
 rw[List.take_succ_eq_append_getElem hT,List.take_succ_eq_append_getElem hS,List.map_append,List.flatten_append,List.flatten_append,W6,U5]
 simp
 omega
theorem Zam(p h k n:Int)(b off m c:Nat)(T:List TxD)(ub uo um uc:Nat)(S:List (List Zf))(r:Int)(o:Bool)(w:World)(hz:T.length=m)(hm:m≤4)(hcT:∀ i (h:i<T.length),TxAt w b (off+i*3) T[i])(hzS:S.length=m)(hum:um=m)
  (hcS:∀ i (h:i<S.length),UndoAt w ub (uo+i) S[i]) (hT:∀ t∈T,t.2.2.length≤6∧∀ x∈t.2.2,0≤x.1∧x.1≤1000000000) (hS:∀ s∈S,s.length≤6∧∀ x∈s,0≤cv x∧cv x≤1000000000) (hr:rwD h=(r,0)) (ho:decide (0≤Y5 r T S m)=o) :
  Calls Tryz.prog 122 #[.agg #[.int .i64 p,.int .i64 h,.int .i64 k,.int .i64 n,.slice (some ⟨b,off,none⟩) m c],.slice (some ⟨ub,uo,none⟩) um uc] w fun e w'=>e = .returned (.bool o)∧Below w.heap.size w w':=by
 subst hum
 have hr64:0≤r∧r≤64:=by
  unfold rwD at hr
  split at hr
  ·injection hr with e _
   have:=Pg ((h - 1).toNat / 8)
   omega
  ·injection hr with _ e;cases e
 obtain⟨X,hX⟩:∃ X,X=w.alloc (.cells #[.int .i64 p,.int .i64 h,.int .i64 k,.int .i64 n,.slice (some ⟨b,off,none⟩) um c] 68):=⟨_,rfl⟩
 have hbX:Below w.heap.size w X:=by rw[hX];exact Zg _ _
 have hX1:X.heap[w.heap.size]? = some (.cells [.int .i64 p,.int .i64 h,.int .i64 k,.int .i64 n,.slice (some ⟨b,off,none⟩) um c].toArray 68 (0,0)):=by rw[hX];exact Yd _ _ _ _ _ _ _
 have RW:=Zb (fun W=>Zdb h r 0 W hr)
 have HX1:=Zb hX1
 have HBX:=Zb hbX
 have HCT:Hid (∀ i (h:i<T.length),TxAt X b (off+i*3) T[i]):=fun i hi=>TxAt.kept _ _ _ _ _ hbX (hcT i hi)
 have HCS:Hid (∀ i (h:i<S.length),UndoAt X ub (uo+i) S[i]):=fun i hi=>(hcS i hi).kept hbX
 have HT:=Zb hT
 have HS:=Zb hS
 have HZ:=Zb hz
 have HZS:=Zb hzS
 have HO:=Zb ho
 clear hX1 hbX hcT hcS hT hS hz hzS ho hr
 go_enter Tryz.func122,Tryz.ntmps122
 go_wp2_with fail
 rw[←hX]
 clear hX
 refine ((Za RW) _).mono ?_
 rintro e w1 ⟨rfl,hb1⟩
 have hx1:=(hb1.block _ (lt_of_block (Za HX1))).trans (Za HX1)
 have c4:=Zd hx1 4 _ rfl
 have cl:=lt_of_block hx1
 have HB1:=Zb hb1
 clear hb1 hx1
 go_wp2
 go_loopw [5,22] (fun sv i wr=>∃ (j:Nat) (d:Int),j≤um∧sv = .int .i64 d∧i = .int .i64 j∧Hid (d=Y5 r T S j)∧-(6000000000*(j:Int))≤d∧d≤64+6000000000*(j:Int)∧Hid (Below X.heap.size X wr)) (fun _ i _=>um - (intOf i).toNat)
 case atStart=>exact⟨0,r,Nat.zero_le _,rfl,rfl,(Lc r T S).symm,by omega,by omega,HB1⟩
 case round=>
  obtain⟨j,d,hj,rfl,rfl,A,d1,d2,HBr⟩:=hrel
  clear c4 cl HB1
  by_cases hlt:j<um
  ·have hlT:j<T.length:=by rw[Za HZ];exact hlt
   have hlS:j<S.length:=by rw[Za HZS];exact hlt
   have hin:=TxAt.kept _ _ _ _ _ (Za HBr) ((Za HCT) j hlT)
   have hun:=((Za HCS) j hlS).kept (Za HBr)
   have bT:=(Za HT) T[j] (List.getElem_mem _)
   have bS:=(Za HS) S[j] (List.getElem_mem _)
   have ST:=Zb (Ti r T S j hlT hlS)
   obtain⟨t,ht⟩:∃ t,T[j]=t:=⟨_,rfl⟩
   obtain⟨s,hs⟩:∃ s,S[j]=s:=⟨_,rfl⟩
   rw[ht] at hin bT ST
   rw[hs] at hun bS ST
   obtain⟨t1,I,O⟩:=t
   obtain⟨g0,⟨ai,ni,ci,g1,hI,_⟩,ao,no,co,g2,hO,_⟩:=hin
   obtain⟨sa,sn,sc,gs,hC,_⟩:=hun
   simp only at g0 g1 g2 hI hO bT ST
   obtain⟨Y,hY⟩:∃ Y,Y=wr.alloc (.cells #[.int .i64 t1,.slice ai ni ci,.slice ao no co] 52):=⟨_,rfl⟩
   have hbY:Below wr.heap.size wr Y:=by rw[hY];exact Zg _ _
   have hY1:Y.heap[wr.heap.size]? = some (.cells [.int .i64 t1,.slice ai ni ci,.slice ao no co].toArray 52 (0,0)):=by rw[hY];exact Zp _ _ _ _ _
   have HY1:=Zb hY1
   have HBY:=Zb (Ze (Za HBr) hbY)
   have HCY:=Zb (hC.later hbY)
   have HOY:=Zb (hO.later hbY)
   have gsY:=Zc hbY gs
   have gl:=World.block_lt_of_cell? _ _ gs
   have glY:=World.block_lt_of_cell? _ _ gsY
   have HSB:=Zb (fun k=>Hi s k bS.2)
   have HOB:=Zb (fun k=>Hh O k bT.2)
   have hsn:sn≤6:=by rw[←hC.1];exact bS.1
   have hno:no≤6:=by rw[←hO.1];exact bT.1
   have hjI:(j:Int)<(um:Int):=by omega
   clear hbY hY1 hI hO hC ht hs bT bS
   go_wp2_with fail
   rw[←hY]
   clear hY
   go_wp2
   go_loopw [5,33] (fun sv i w2=>∃ (k2:Nat) (d2:Int),k2≤sn∧sv = .int .i64 d2∧i = .int .i64 k2∧Hid (d2=d+Z6 (s.take k2))∧Hid (Below Y.heap.size Y w2)) (fun _ i _=>sn - (intOf i).toNat)
   case atStart=>exact⟨0,d,Nat.zero_le _,rfl,rfl,(by simp[Z6]:d=d+Z6 (s.take 0)),(Below.refl _ _:Below Y.heap.size Y Y)⟩
   case round=>
    obtain⟨q,e,hq,rfl,rfl,D,HD⟩:=hrel
    clear g0 g1 g2 gs gsY gl glY
    by_cases hlt2:q<sn
    ·have hlk:q<s.length:=by rw[(Za HCY).1];exact hlt2
     obtain⟨b2,o2,rfl,_,hcell⟩:=(Za HCY).2 (by omega)
     have hin:=CoinAt.kept _ _ _ _ _ (Za HD) (hcell q hlk)
     have b1:=(Za HSB) q
     have b2':=(Za HSB) (q+1)
     have hst:=Pf s q hlk
     obtain⟨y,hy⟩:∃ y,s[q]=y:=⟨_,rfl⟩
     rw[hy] at hin hst
     obtain⟨la,ln,lc,f0,f1,f2,f3,f4,f5,_,_⟩:=hin.val
     obtain⟨v,hv⟩:∃ v,cv y=v:=⟨_,rfl⟩
     rw[hv] at f2 hst
     have hd:e=d+Z6 (s.take q):=Za D
     have A2:Hid (e+v=d+Z6 (s.take (q+1))):=by show _=_;rw[hst];omega
     have HB2:=Zb (Ze (Za HD) (Zg wr (.cells #[.int .i64 y.1,.int .i64 y.2.1,.int .i64 v,.slice la ln lc,.int .i64 (ch y),.bool (cr y)] 103)))
     have hw1:IntKind.i64.wrap (e+v)=e+v:=by rw[IntKind.wrap_i64];omega
     clear hin hy hst D HD hd b1 b2' hcell
     go_wp2
     go_roundw
     case rel=>exact⟨q+1,e+v,by omega,rfl,by go_num,A2,HB2⟩
     case measure=>simp[intOf];omega
    ·have e0:q=sn:=by omega
     subst e0
     have A2:Hid (e=d+Z6 s):=by
      show _=_
      rw[Za D,List.take_of_length_le (by rw[(Za HCY).1];exact Nat.le_refl _)]
     have b1:=(Za HSB) q
     have eb:0≤e - d∧e - d≤6000000000:=by
      have:=Za D
      omega
     have hh:=((Za HD).block _ (lt_of_block (Za HY1))).trans (Za HY1)
     have f2:=Zd hh 2 _ rfl
     have hl:=lt_of_block hh
     clear D hh b1
     go_wp2
     go_loopw [5,46] (fun sv i w3=>∃ (k3:Nat) (d3:Int),k3≤no∧sv = .int .i64 d3∧i = .int .i64 k3∧Hid (d3=e - Yi (O.take k3))∧Hid (Below Y.heap.size Y w3)) (fun _ i _=>no - (intOf i).toNat)
     case atStart=>exact⟨0,e,Nat.zero_le _,rfl,rfl,(by simp[Yi]:e=e - Yi (O.take 0)),HD⟩
     case round=>
      obtain⟨u,g,hu,rfl,rfl,G,HG⟩:=hrel
      clear f2 hl HD
      by_cases hlt3:u<no
      ·have hlk:u<O.length:=by rw[(Za HOY).1];exact hlt3
       obtain⟨b3,o3,rfl,_,hcell⟩:=(Za HOY).2 (by omega)
       have hin:=OutAt.kept _ _ _ _ _ (Za HG) (hcell u hlk)
       have x1:=(Za HOB) u
       have x2:=(Za HOB) (u+1)
       have hst:=Rf O u hlk
       obtain⟨y,hy⟩:∃ y,O[u]=y:=⟨_,rfl⟩
       rw[hy] at hin hst
       obtain⟨q1,q2⟩:=y
       obtain⟨f0,la,ln,lc,f1,_,_⟩:=hin
       simp only at f0 f1 hst
       have hd:g=e - Yi (O.take u):=Za G
       have A3:Hid (g - q1=e - Yi (O.take (u+1))):=by show _=_;rw[hst];omega
       have HB2:=Zb (Ze (Za HG) (Zg wr (.cells #[.int .i64 q1,.slice la ln lc] 101)))
       have hw1:IntKind.i64.wrap (g - q1)=g - q1:=by rw[IntKind.wrap_i64];omega
       clear hy hst G HG hd x1 x2 hcell
       go_wp2
       go_roundw
       case rel=>exact⟨u+1,g - q1,by omega,rfl,by go_num,A3,HB2⟩
       case measure=>simp[intOf];omega
      ·have e1:u=no:=by omega
       subst e1
       have hd:g=e - Yi O:=by
        have:=Za G
        rw[List.take_of_length_le (by rw[(Za HOY).1];exact Nat.le_refl _)] at this
        exact this
       have x1:=(Za HOB) u
       rw[List.take_of_length_le (by rw[(Za HOY).1];exact Nat.le_refl _)] at x1
       have A4:Hid (g=Y5 r T S (j+1)):=by
        show _=_
        rw[Za ST,←Za A,hd,Za A2]
       have HBF:=Zb (Ze (Za HBY) (Za HG))
       have y1 : -(6000000000*((j+1:Nat):Int))≤g:=by omega
       have y2:g≤64+6000000000*((j+1:Nat):Int):=by omega
       clear hd x1 G HG A A2 ST
       go_wp2
       go_roundw
       case rel=>exact⟨j+1,g,by omega,rfl,by go_num,A4,y1,y2,HBF⟩
       case measure=>simp[intOf];omega
  ·have e0:j=um:=by omega
   subst e0
   have HBF:=Zb (Ze (Za HBX) (Za HBr))
   have ho:=Za HO
   rw[←Za A] at ho
   clear A
   by_cases hp:0≤d
   ·obtain rfl:true=o:=by rw[←ho,decide_eq_true hp]
    clear ho
    go_wp2
    go_ret
    exact⟨rfl,Za HBF⟩
   ·obtain rfl:false=o:=by rw[←ho,decide_eq_false hp]
    clear ho
    go_wp2
    go_ret
    exact⟨rfl,Za HBF⟩
theorem Fx(a:Option Addr)(n c:Nat)(L:List Zf)(h:Int)(ai ao:Option Addr)(ni ci no co:Nat)(I:List InD)(O:List Yc)(x:Int)(w:World)(hL:CoinsAt w a n L)(hI:InsAt w ai ni I)(hO:OutsAt w ao no O)(sI:SlOk ai ni ci)(hx:Vm L (h,I,O)=x) :
  Calls Tryz.prog 161 #[.slice a n c,.agg #[.int .i64 h,.slice ai ni ci,.slice ao no co]] w fun e w'=>e = .returned (.int .i64 x)∧Below w.heap.size w w':=by
 obtain⟨X0,hX0⟩:∃ X0,X0=w.alloc (.cells #[.int .i64 h,.slice ai ni ci,.slice ao no co] 52):=⟨_,rfl⟩
 have hb0:Below w.heap.size w X0:=by rw[hX0];exact Zg _ _
 have hX1:X0.heap[w.heap.size]? = some (.cells [.int .i64 h,.slice ai ni ci,.slice ao no co].toArray 52 (0,0)):=by rw[hX0];exact Zp _ _ _ _ _
 obtain⟨y,hy⟩:∃ y,Yj L=y:=⟨_,rfl⟩
 have C1:=Zb (R7 a n c L y X0 (hL.later hb0) hy)
 have TX:=Zb (fun w' (hb:Below X0.heap.size X0 w')=>Ju h ai ao ni ci no co I O w' ((hI.later hb0).later hb) ((hO.later hb0).later hb) sI)
 have HX1:=Zb hX1
 have HB0:=Zb hb0
 unfold Vm at hx
 rw[hy] at hx
 clear hL hI hO sI hX1 hb0 hy
 by_cases h0:y=0
 ·subst h0
  rw[if_neg (by decide)] at hx
  rw[hx] at TX
  clear hx
  go_enter Tryz.func161,Tryz.ntmps161
  go_wp2_with fail
  rw[←hX0]
  clear hX0
  refine (Za C1).mono ?_
  rintro e w2 ⟨rfl,hb2⟩
  have hh:=(hb2.block _ (lt_of_block (Za HX1))).trans (Za HX1)
  have c0:=Zd hh 0 _ rfl
  have c1:=Zd hh 1 _ rfl
  have c2:=Zd hh 2 _ rfl
  have hl:=lt_of_block hh
  have C2:=Zb ((Za TX) w2 hb2)
  have HB2:=Zb (Ze (Za HB0) hb2)
  clear hh hb2
  go_wp2_with fail
  refine (Za C2).mono ?_
  rintro e w3 ⟨rfl,hb3⟩
  have HB3:=Zb (Ze (Za HB2) hb3)
  clear hb3
  go_wp2
  go_ret
  exact⟨rfl,Za HB3⟩
 ·rw[if_pos h0] at hx
  subst hx
  have g:(y != 0)=true:=by simp[h0]
  clear h0
  go_enter Tryz.func161,Tryz.ntmps161
  go_wp2_with fail
  rw[←hX0]
  clear hX0
  refine (Za C1).mono ?_
  rintro e w2 ⟨rfl,hb2⟩
  have HB2:=Zb (Ze (Za HB0) hb2)
  clear hb2
  go_wp2
  go_ret
  exact⟨rfl,Za HB2⟩
theorem Mx(a:Option Addr)(n c:Nat)(L:List Zf)(h:Int)(ai ao:Option Addr)(ni ci no co:Nat)(I:List InD)(O:List Yc)(name ht:Int)(x:Int)(w:World)(hL:CoinsAt w a n L)(hI:InsAt w ai ni I)(hO:OutsAt w ao no O)(sI:SlOk ai ni ci)(hx:Xq L (h,I,O) name ht=x) :
  Calls Tryz.prog 139 #[.slice a n c,.agg #[.int .i64 h,.slice ai ni ci,.slice ao no co],.int .i64 name,.int .i64 ht] w fun e w'=>e = .returned (.int .i64 x)∧Below w.heap.size w w':=by
 obtain⟨X0,hX0⟩:∃ X0,X0=w.alloc (.cells #[.int .i64 h,.slice ai ni ci,.slice ao no co] 52):=⟨_,rfl⟩
 have hb0:Below w.heap.size w X0:=by rw[hX0];exact Zg _ _
 have hX1:X0.heap[w.heap.size]? = some (.cells [.int .i64 h,.slice ai ni ci,.slice ao no co].toArray 52 (0,0)):=by rw[hX0];exact Zp _ _ _ _ _
 obtain⟨y,hy⟩:∃ y,Vm L (h,I,O)=y:=⟨_,rfl⟩
 have C1:=Zb (Fx a n c L h ai ao ni ci no co I O y X0 (hL.later hb0) (hI.later hb0) (hO.later hb0) sI hy)
 have hIl:=hI.1
 have x0:=Zd hX1 0 _ rfl
 have x1:=Zd hX1 1 _ rfl
 have x2:=Zd hX1 2 _ rfl
 have HX1:=Zb hX1
 have HB0:=Zb hb0
 unfold Xq at hx
 rw[hy] at hx
 have hR:isR (h,I,O)=decide (ni=0):=by unfold isR;rw[←hIl]
 rw[hR] at hx
 clear hL hI hO sI hX1 hb0 hy hR hIl
 by_cases h0:y=0
 ·subst h0
  rw[if_neg (by decide)] at hx
  cases hN:okN name with
  | false=>
   rw[hN,Bool.false_and,if_pos rfl] at hx
   subst hx
   have W1:=Zb (fun w=>Yu name 1 120 false w (by rw[←hN];rfl))
   clear hN
   go_enter Tryz.func139,Tryz.ntmps139
   go_wp2_with fail
   rw[←hX0]
   clear hX0
   refine (Za C1).mono ?_
   rintro e w2 ⟨rfl,hb2⟩
   have HB2:=Zb (Ze (Za HB0) hb2)
   clear hb2
   go_wp2_with fail
   refine ((Za W1) _).mono ?_
   rintro e w3 ⟨rfl,rfl⟩
   go_wp2
   go_ret
   exact⟨rfl,Za HB2⟩
  | true=>
   rw[hN,Bool.true_and] at hx
   have W1:=Zb (fun w=>Yu name 1 120 true w (by rw[←hN];rfl))
   cases hH:okH ht with
   | false=>
    rw[hH,if_pos rfl] at hx
    subst hx
    have W2:=Zb (fun w=>Uf ht false w hH)
    clear hN hH
    go_enter Tryz.func139,Tryz.ntmps139
    go_wp2_with fail
    rw[←hX0]
    clear hX0
    refine (Za C1).mono ?_
    rintro e w2 ⟨rfl,hb2⟩
    have HB2:=Zb (Ze (Za HB0) hb2)
    clear hb2
    go_wp2_with fail
    refine ((Za W1) _).mono ?_
    rintro e w3 ⟨rfl,rfl⟩
    go_wp2_with fail
    refine ((Za W2) _).mono ?_
    rintro e w3 ⟨rfl,rfl⟩
    go_wp2
    go_ret
    exact⟨rfl,Za HB2⟩
   | true=>
    rw[hH,if_neg (by decide)] at hx
    have W2:=Zb (fun w=>Uf ht true w hH)
    clear hN hH
    have body:∀ (r:Bool) (q:Bool) (hr:decide (ni=0)=r) (hq:(h != ht)=q) (hz:(if r=true∧q=true then (4:Int) else 0)=x),Calls Tryz.prog 139 #[.slice a n c,.agg #[.int .i64 h,.slice ai ni ci,.slice ao no co],.int .i64 name,.int .i64 ht] w fun e w'=>e = .returned (.int .i64 x)∧Below w.heap.size w w':=by
     intro r q hr hq hz
     have IR:=Zb (fun w=>J7 h ai ao ni ci no co r w hr)
     cases r with
     | false=>
      rw[if_neg (by simp)] at hz
      subst hz
      clear hx hr
      go_enter Tryz.func139,Tryz.ntmps139
      go_wp2_with fail
      rw[←hX0]
      clear hX0
      refine (Za C1).mono ?_
      rintro e w2 ⟨rfl,hb2⟩
      have hh:=(hb2.block _ (lt_of_block (Za HX1))).trans (Za HX1)
      have c0:=Zd hh 0 _ rfl
      have c1:=Zd hh 1 _ rfl
      have c2:=Zd hh 2 _ rfl
      have hl:=lt_of_block hh
      have HB2:=Zb (Ze (Za HB0) hb2)
      clear hb2 hh
      go_wp2_with fail
      refine ((Za W1) _).mono ?_
      rintro e w3 ⟨rfl,rfl⟩
      go_wp2_with fail
      refine ((Za W2) _).mono ?_
      rintro e w3 ⟨rfl,rfl⟩
      go_wp2_with fail
      refine ((Za IR) _).mono ?_
      rintro e w3 ⟨rfl,hb3⟩
      have HB3:=Zb (Ze (Za HB2) hb3)
      clear hb3
      go_wp2
      go_ret
      exact⟨rfl,Za HB3⟩
     | true=>
      cases q with
      | false=>
       rw[if_neg (by simp)] at hz
       subst hz
       clear hx hr
       go_enter Tryz.func139,Tryz.ntmps139
       go_wp2_with fail
       rw[←hX0]
       clear hX0
       refine (Za C1).mono ?_
       rintro e w2 ⟨rfl,hb2⟩
       have hh:=(hb2.block _ (lt_of_block (Za HX1))).trans (Za HX1)
       have c0:=Zd hh 0 _ rfl
       have c1:=Zd hh 1 _ rfl
       have c2:=Zd hh 2 _ rfl
       have hl:=lt_of_block hh
       have HH:=Zb hh
       have HB2:=Zb (Ze (Za HB0) hb2)
       clear hb2 hh
       go_wp2_with fail
       refine ((Za W1) _).mono ?_
       rintro e w3 ⟨rfl,rfl⟩
       go_wp2_with fail
       refine ((Za W2) _).mono ?_
       rintro e w3 ⟨rfl,rfl⟩
       go_wp2_with fail
       refine ((Za IR) _).mono ?_
       rintro e w4 ⟨rfl,hb4⟩
       have d0:=Zc hb4 c0
       have hl4:=World.block_lt_of_cell? _ _ d0
       have HB4:=Zb (Ze (Za HB2) hb4)
       clear hb4 c0 c1 c2
       go_wp2
       go_ret
       exact⟨rfl,Za HB4⟩
      | true=>
       rw[if_pos ⟨rfl,rfl⟩] at hz
       subst hz
       clear hx hr
       go_enter Tryz.func139,Tryz.ntmps139
       go_wp2_with fail
       rw[←hX0]
       clear hX0
       refine (Za C1).mono ?_
       rintro e w2 ⟨rfl,hb2⟩
       have hh:=(hb2.block _ (lt_of_block (Za HX1))).trans (Za HX1)
       have c0:=Zd hh 0 _ rfl
       have c1:=Zd hh 1 _ rfl
       have c2:=Zd hh 2 _ rfl
       have hl:=lt_of_block hh
       have HH:=Zb hh
       have HB2:=Zb (Ze (Za HB0) hb2)
       clear hb2 hh
       go_wp2_with fail
       refine ((Za W1) _).mono ?_
       rintro e w3 ⟨rfl,rfl⟩
       go_wp2_with fail
       refine ((Za W2) _).mono ?_
       rintro e w3 ⟨rfl,rfl⟩
       go_wp2_with fail
       refine ((Za IR) _).mono ?_
       rintro e w4 ⟨rfl,hb4⟩
       have d0:=Zc hb4 c0
       have hl4:=World.block_lt_of_cell? _ _ d0
       have HB4:=Zb (Ze (Za HB2) hb4)
       clear hb4 c0 c1 c2
       go_wp2
       go_ret
       exact⟨rfl,Za HB4⟩
    refine body (decide (ni=0)) (h != ht) rfl rfl ?_
    rw[←hx]
    by_cases e1:ni=0 <;> by_cases e2:h=ht <;> simp[e1,e2]
 ·rw[if_pos h0] at hx
  subst hx
  have g:(y != 0)=true:=by simp[h0]
  clear h0
  go_enter Tryz.func139,Tryz.ntmps139
  go_wp2_with fail
  rw[←hX0]
  clear hX0
  refine (Za C1).mono ?_
  rintro e w2 ⟨rfl,hb2⟩
  have HB2:=Zb (Ze (Za HB0) hb2)
  clear hb2
  go_wp2
  go_ret
  exact⟨rfl,Za HB2⟩
theorem Zbk:∀ (l:List Int) (s:Int),(sm s l).2=0→∀ x∈l,0≤x∧x≤1000000000
 | [],_,_=>by simp
 | y :: r,s,h=>by
  intro x hx
  unfold sm at h
  split at h
  ·rename_i hy
   split at h
   ·rcases List.mem_cons.1 hx with rfl|hx
    ·exact hy
    ·exact Zbk r _ h x hx
   ·cases h
  ·cases h
theorem Xa{t:TxD}(h:Zo t=0):t.2.1.length≤6∧t.2.2.length≤6∧0<t.2.2.length∧Lk t=true∧Zy [] t.2.1=0∧Zx t.2.2=0∧(sm 0 (t.2.2.map (·.1))).2=0:=by
 unfold Zo at h
 split at h
 ·cases h
 rename_i h1
 split at h
 ·cases h
 rename_i h2
 split at h
 ·cases h
 rename_i h3
 split at h
 ·rename_i h4;exact absurd h h4
 rename_i h4
 unfold Zr at h
 split at h
 ·rename_i h5
  exact⟨by omega,by omega,by omega,by simpa using h3,by simpa using h4,h5,h⟩
 ·rename_i h5;exact absurd h h5
theorem Ja{t:TxD}(h:Zo t=0):∀ o∈t.2.2,0≤o.1∧o.1≤1000000000:=fun o ho=>
 Zbk _ 0 (Xa h).2.2.2.2.2.2 o.1 (List.mem_map_of_mem ho)
theorem Cv{L:List Zf}{t:TxD}(h:Vm L t=0):Ye L∧Zo t=0:=by
 unfold Vm at h
 split at h
 ·rename_i h1;exact absurd h h1
 ·rename_i h1;exact⟨(Y4 L).1 (by simpa using h1),h⟩
theorem Vn{L:List Zf}{t:TxD}{name h:Int}(q:Xq L t name h=0):Ye L∧Zo t=0∧okN name=true∧okH h=true∧(t.2.1.length=0→t.1=h):=by
 unfold Xq at q
 split at q
 ·rename_i h1;exact absurd q h1
 rename_i h1
 split at q
 ·cases q
 rename_i h2
 split at q
 ·cases q
 rename_i h3
 obtain⟨r1,r2⟩:=Cv (by simpa using h1)
 rw[Bool.not_eq_false,Bool.and_eq_true] at h2
 refine⟨r1,r2,h2.1,h2.2,fun e=>?_⟩
 refine Decidable.byContradiction fun n=>h3 ⟨by unfold isR;exact decide_eq_true e,n⟩
theorem F4{L:List Zf}{t:TxD}{name h x1 x2 x3 x4 x5:Int}{S2 M2 M4:List Zf}(h1:Xq L t name h=x1)(h2:Zm h t.2.1 [] L=(x2,S2,M2))(h3:Lu S2 t=x3)(h4:Z7 name h (isR t) 0 t.2.2 M2=(x4,M4))(h5:Yj M4=x5) :
  apD L t name h=if x1≠0 then (x1,[],[]) else if x2≠0 then (x2,[],[]) else if x3≠0 then (x3,[],[]) else if x4≠0 then (x4,[],[]) else if x5≠0 then (x5,[],[]) else (0,M4,S2):=by
 unfold apD
 simp only[h1,h2,h3,h4,h5]
theorem Zky{L S:List Zf}{t:TxD}{name x1 x2 x3 x4:Int}{M2 M3:List Zf}(h1:Vm L t=x1)(h2:Vw name 0 t.2.2 L=(x2,M2))(h3:Us t.2.1 S M2=(x3,M3))(h4:Yj M3=x4) :
  rvD L t name S=if x1≠0 then (x1,[]) else if S.length≠t.2.1.length then (4,[]) else if x2≠0 then (x2,[]) else if x3≠0 then (x3,[]) else if x4≠0 then (x4,[]) else (0,M3):=by
 unfold rvD
 simp only[h1,h2,h3,h4]
theorem Hq{l:List (Int×Int)}(h:chk l=0):l.length≤16:=by
 unfold chk at h
 split at h
 ·cases h
 ·omega
theorem Zl{fn:Func}{p u v:Tmp}{ty:TypeId}(h:fn.results=#[.tmp u,.cell p ty,.tmp v])(tmps:Array Value)(P:Program)(w:World) :
  (results fn tmps).run P w =
   ((asAddr (tmps.getD p undef)).run P w).andThen fun a w₁=>((loadVar ty a).run P w₁).andThen fun x w₂=>.ok (.tuple #[tmps.getD u undef,x,tmps.getD v undef]) w₂:=by
 simp only[results,h]
 simp[Sem.run_bind,Result.andThen]
def ApR(w w':World)(x:Int)(M S:List Zf)(e:Ending):Prop:=
 ∃ am nm cm sa ns cs,e = .returned (.tuple #[.slice am nm cm,.agg #[.slice sa ns cs],.int .i64 x])∧CoinsAt w' am nm M∧SlOk am nm cm∧CoinsAt w' sa ns S∧SlOk sa ns cs∧Below w.heap.size w w'
def ApF(w w':World)(x:Int)(M S:List Zf)(e:Ending):Prop:=
 ∃ am nm cm sa ns cs,e = .returned (.tuple #[.slice am nm cm,.agg #[.slice sa ns cs],.int .i64 x])∧Fresh w.heap.size w' (fun w2=>CoinsAt w2 am nm M)∧SlOk am nm cm∧CoinsAt w' sa ns S∧SlOk sa ns cs∧Below w.heap.size w w'
theorem ApF.plain{w w':World}{x:Int}{M S:List Zf}{e:Ending}(h:ApF w w' x M S e):ApR w w' x M S e:=by
 obtain⟨am,nm,cm,sa,ns,cs,h1,h2,h3⟩:=h
 exact⟨am,nm,cm,sa,ns,cs,h1,h2 _ (Gr.refl _ _),h3⟩
theorem Wp:SlOk none 0 0:=⟨Nat.le_refl _,Nat.zero_le _,fun _=>⟨rfl,rfl⟩⟩
theorem Xz{w w':World}{x y:Int}{M S:List Zf}{b:Nat}{v:Value}(h:(x,M,S)=((y:Int),([]:List Zf),([]:List Zf))∧w.heap.size≤b)(hb:Below w.heap.size w w'):ApF w (w'.setCell ⟨b,0,none⟩ v) x M S (.returned (.tuple #[.slice none 0 0,.agg #[.slice none 0 0],.int .i64 y])):=by
 obtain⟨h1,h2⟩:=h
 injection h1 with h1 h3
 injection h3 with h3 h4
 subst h1 h3 h4
 exact⟨none,0,0,none,0,0,rfl,fun _ _=>RowsAt.nil _ _,Wp,RowsAt.nil _ _,Wp,hb.setCell (p:=⟨b,0,none⟩) h2 _⟩
theorem C9(a:Option Addr)(n c:Nat)(L:List Zf)(h:Int)(ai ao:Option Addr)(ni ci no co:Nat)(I:List InD)(O:List Yc)(name ht:Int)(x:Int)(M S:List Zf)(w:World)(hL:CoinsAt w a n L)(sL:SlOk a n c)(hI:InsAt w ai ni I)(hO:OutsAt w ao no O)(sI:SlOk ai ni ci)(hx:apD L (h,I,O) name ht=(x,M,S)) :
  Calls Tryz.prog 98 #[.slice a n c,.agg #[.int .i64 h,.slice ai ni ci,.slice ao no co],.int .i64 name,.int .i64 ht] w fun e w'=>ApF w w' x M S e:=by
 obtain⟨X0,hX0⟩:∃ X0,X0=(w.alloc (.cells #[.int .i64 h,.slice ai ni ci,.slice ao no co] 52)).alloc (.cells #[.slice none 0 0] 130):=⟨_,rfl⟩
 have hb0:Below w.heap.size w X0:=by rw[hX0];exact Ze (Zg _ _) (Zg _ _)
 have hX1:X0.heap[w.heap.size]? = some (.cells [.int .i64 h,.slice ai ni ci,.slice ao no co].toArray 52 (0,0)):=by
  rw[hX0,Below.heap_alloc _ _ _ (by simp)];exact Zp _ _ _ _ _
 have hX2:X0.heap[w.heap.size+1]? = some (.cells [.slice none 0 0].toArray 130 (0,0)):=by
  rw[hX0]
  have:=heap_alloc_new (w.alloc (.cells #[.int .i64 h,.slice ai ni ci,.slice ao no co] 52)) (.cells #[.slice none 0 0] 130)
  rw[show (w.alloc (.cells #[.int .i64 h,.slice ai ni ci,.slice ao no co] 52)).heap.size=w.heap.size+1 by simp] at this
  exact this
 obtain⟨x1,h1⟩:∃ x1,Xq L (h,I,O) name ht=x1:=⟨_,rfl⟩
 obtain⟨⟨x2,S2,M2⟩,h2⟩:∃ r,Zm ht I [] L=r:=⟨_,rfl⟩
 obtain⟨x3,h3⟩:∃ x3,Lu S2 (h,I,O)=x3:=⟨_,rfl⟩
 obtain⟨⟨x4,M4⟩,h4⟩:∃ r,Z7 name ht (isR (h,I,O)) 0 O M2=r:=⟨_,rfl⟩
 obtain⟨x5,h5⟩:∃ x5,Yj M4=x5:=⟨_,rfl⟩
 rw[F4 h1 h2 h3 h4 h5] at hx
 have hR:isR (h,I,O)=decide (ni=0):=by unfold isR;rw[←hI.1]
 have C1:=Zb (Mx a n c L h ai ao ni ci no co I O name ht x1 X0 (hL.later hb0) (hI.later hb0) (hO.later hb0) sI h1)
 have HX1:=Zb hX1
 have HX2:=Zb hX2
 have HB0:=Zb hb0
 by_cases e1:x1=0
 ·subst e1
  rw[if_neg (by decide)] at hx
  obtain⟨hRC,hTx,hName,hHt,_⟩:=Vn h1
  obtain⟨t1,t2,t3,_⟩:=Xa hTx
  have hni:ni≤6:=by rw[←hI.1];exact t1
  have hno:no≤6:=by rw[←hO.1];exact t2
  have hn:n≤720:=by rw[←hL.1];exact hRC.len
  have hob:=Ja hTx
  have OPN:=Zb (fun w' (hb:Below X0.heap.size X0 w')=>Zez a n c L w' (by omega) ((hL.later hb0).later hb) sL)
  have HI:=Zb (fun w' (hb:Below X0.heap.size X0 w')=>(hI.later hb0).later hb)
  have HO:=Zb (fun w' (hb:Below X0.heap.size X0 w')=>(hO.later hb0).later hb)
  have HRC:=Zb hRC
  have HOB:=Zb hob
  have H2:=Zb h2
  have H3:=Zb h3
  have H4:=Zb h4
  have H5:=Zb h5
  have HR:=Zb hR
  have HX:=Zb hx
  have HZL:=Zb hL.1
  have hsz:w.heap.size+1<X0.heap.size:=lt_of_block hX2
  have x0:=Zd hX1 0 _ rfl
  have x1:=Zd hX1 1 _ rfl
  have x2':=Zd hX1 2 _ rfl
  clear hL sL hI hO sI h1 hX1 hX2 hb0 hRC hTx hName hHt t1 t2 t3 hob h2 h3 h4 h5 hR hx
  go_enter Tryz.func98,Tryz.ntmps98
  go_wp2_with fail
  rw[←hX0]
  clear hX0
  refine (Za C1).mono ?_
  rintro e w2 ⟨rfl,hb2⟩
  have OP2:=Zb ((Za OPN) w2 hb2)
  have HI2:=Zb ((Za HI) w2 hb2)
  have HO2:=Zb ((Za HO) w2 hb2)
  have hh2:=(hb2.block _ (lt_of_block (Za HX1))).trans (Za HX1)
  have hu2:=(hb2.block _ (lt_of_block (Za HX2))).trans (Za HX2)
  have HH2:=Zb hh2
  have HU2:=Zb hu2
  have HB2:=Zb (Ze (Za HB0) hb2)
  clear hb2 hh2 hu2 x0 x1 x2' OPN HI HO C1
  go_wp2_with fail
  refine (Za OP2).mono ?_
  rintro e w3 ⟨p,v,K,rfl,hK,hP3⟩
  have hKl:K.length=n:=by rw[←Za HZL,←hK,List.length_map]
  have hsrt:Srt (K.map (·.1)):=by rw[hK];exact (Za HRC).srt
  have hone:∀ z∈K,ck1 z.1=0:=fun z hz=>(Za HRC).one z.1 (by rw[←hK];exact List.mem_map_of_mem hz)
  have SP:=Zb (Zft w2 w3 p v K ai ni ci I ht x2 S2 M2 hP3 hsrt (by omega) hone (Za HI2) hni (by rw[hK];exact Za H2))
  have hh3:=(hP3.bel.block _ (lt_of_block (Za HH2))).trans (Za HH2)
  have c1:=Zd hh3 1 _ rfl
  have hl3:=lt_of_block hh3
  have HONE:=Zb hone
  have HKL:=Zb hKl
  have hw2:w.heap.size+1<w2.heap.size:=lt_of_block (Za HU2)
  clear hK hP3 hKl hsrt hone hh3 OP2
  go_wp2_with fail
  refine (Za SP).mono ?_
  rintro e w4 ⟨sa,ns,cs,rfl,hb4,hsp4⟩
  have hh4:=(hb4.block _ (lt_of_block (Za HH2))).trans (Za HH2)
  have hu4:=(hb4.block _ (lt_of_block (Za HU2))).trans (Za HU2)
  have d0:=Zd hh4 0 _ rfl
  have d1:=Zd hh4 1 _ rfl
  have d2:=Zd hh4 2 _ rfl
  have u4:=Zd hu4 0 _ rfl
  have f4:=Zi hu4 0
  have hl4:=lt_of_block hh4
  have hl4':=lt_of_block hu4
  have HB4:=Zb hb4
  clear hh4 hu4 c1 hl3 SP
  by_cases e2:x2=0
  ·subst e2
   obtain⟨v4,K4,T4,q1,q2,q3,q4,q5,q6,q7,q8,q9,q10,q11,s4,q12,q13,q14⟩:=hsp4 rfl
   have hx:=Za HX
   rw[if_neg (by decide)] at hx
   have HXa:=Zb hx
   have hT1:∀ z∈T4,LkAt w4 z:=fun z hz=>(q8 z hz).later hb4
   have hrow:w4.ownsRow w2.heap.size 103 6 (.slice sa ns cs) T4.length (Zj T4):=by have h:=q7;rw[q5] at h ⊢;exact h
   obtain⟨sa',cs',e,hcs,hsk⟩:=Z5 hrow hT1
   have e2:sa=sa'∧ns=T4.length∧cs=cs':=by injection e with e1 e2 e3;exact⟨e1,e2,e3⟩
   obtain⟨rfl,-,rfl⟩:=e2
   rw[q1,←q5] at hcs
   have hns:ns≤6:=by rw[q5,q6];exact hni
   have hSb:∀ z∈S2,0≤cv z∧cv z≤1000000000:=fun z hz=>by
    rw[←q1] at hz
    obtain⟨y,hy,rfl⟩:=List.mem_map.1 hz
    have:=Wj ((Za HONE) y (q10 y hy))
    omega
   have COV:=Zb (Zeg sa ns cs S2 h ai ao ni ci no co O x3 w4 hns hno hcs ((Za HO2).later hb4) hSb (Za HOB) (by have:=Za H3;unfold Lu at this;rw[Za HR] at this;exact this))
   have HP4:=Zb q11
   have HROW:=Zb hrow
   have HT8:=Zb q8
   have HQ:Hid (T4.map (·.1)=S2∧K4.map (·.1)=M2∧Srt M2∧K4.length≤K.length∧ns=T4.length∧(Value.slice sa ns cs).ownBlock=some s4∧v4.ownBlock≠some s4∧s4≠p):=⟨q1,q2,q3,q4,q5,q12,q13,q14⟩
   have HT10:=Zb q10
   clear hsp4 q1 q2 q3 q4 q5 q6 q7 q8 q9 q10 q11 q12 q13 q14 hx hT1 hrow hcs hsk hSb HX e hb4
   go_wp2_with fail
   refine (Za COV).mono ?_
   rintro e w5 ⟨rfl,hb5⟩
   have hP5:=(Za HP4).kept hb5
   have hh5:=(hP5.bel.block _ (lt_of_block (Za HH2))).trans (Za HH2)
   have hu5:=(hP5.bel.block _ (lt_of_block (Za HU2))).trans (Za HU2)
   have g0:=Zd hh5 0 _ rfl
   have g1:=Zd hh5 1 _ rfl
   have g2:=Zd hh5 2 _ rfl
   have u5:=Zd hu5 0 _ rfl
   have f5:=Zi hu5 0
   have hl5:=lt_of_block hh5
   have hl5':=lt_of_block hu5
   have HP5:=Zb hP5
   have HROW5:=Zb ((Gr.of (S:=fun _=>False) hb5).own (Za HROW) (fun _ _ q=>q))
   clear hb5 hP5 hh5 hu5 d0 d1 d2 u4 f4 hl4 hl4' COV HROW HP4
   by_cases e3:x3=0
   ·subst e3
    have hx:=Za HXa
    rw[if_neg (by decide)] at hx
    have HXb:=Zb hx
    have hq:=Za HQ
    have hKl:=Za HKL
    have GV:=Zb (Zjz w2 w5 p v4 K4 h ai ao ni ci no co O name ht (decide (ni=0)) x4 M4 (Za HP5) (by rw[hq.2.1];exact hq.2.2.1) (by omega) (Za HO2) hno rfl (by rw[hq.2.1,←Za HR];exact Za H4))
    clear hx HXa hq hKl
    go_wp2_with fail
    refine (Za GV).mono ?_
    rintro e w6 ⟨rfl,hb6,hgv⟩
    have hh6:=(hb6.block _ (lt_of_block (Za HH2))).trans (Za HH2)
    have hu6:=(hb6.block _ (lt_of_block (Za HU2))).trans (Za HU2)
    have u6:=Zd hu6 0 _ rfl
    have f6:=Zi hu6 0
    have hl6':=lt_of_block hu6
    have HB6:=Zb hb6
    clear hh6 hu6 g0 g1 g2 u5 f5 hl5 hl5' GV
    by_cases e4:x4=0
    ·subst e4
     obtain⟨v6,K6,r1,r2,r3,r4,r5⟩:=hgv rfl
     have hx:=Za HXb
     rw[if_neg (by decide)] at hx
     have HXc:=Zb hx
     obtain⟨a6,c6,rfl,hc6,hs6⟩:=r4.coins
     have hK6:K6.length≤726:=by have:=(Za HQ).2.2.2.1;have:=Za HKL;omega
     obtain⟨n6,hn6⟩:∃ n6,K6.length=n6:=⟨_,rfl⟩
     rw[r1,hn6] at hc6
     have hbox:=r4.box
     rw[hn6] at hbox
     have p6:=Zd (X:=[.slice a6 n6 c6]) hbox 0 _ rfl
     have hlp6:=lt_of_block hbox
     have CK:=Zb (R7 a6 n6 c6 M4 x5 w6 hc6 (Za H5))
     have hq:=Za HQ
     have hnS:¬PuS p v4 s4:=by
      rintro (e|e)
      ·exact hq.2.2.2.2.2.2.2 e
      ·exact hq.2.2.2.2.2.2.1 e
     have hrow6:=r5.own (Za HROW5) (fun k hk=>by
      rw[show (Value.slice sa ns cs).ownBlock=some s4 from hq.2.2.2.2.2.1] at hk
      cases hk;exact hnS)
     have HROW6:=Zb hrow6
     have HC6:=Zb hc6
     have HS6:Hid (SlOk a6 n6 c6):=by rw[←hn6];exact hs6
     have hK6':n6≤726:=by rw[←hn6];exact hK6
     clear hgv hx HXb r1 r2 r3 r4 r5 hc6 hs6 hK6 hn6 hbox hq hnS hrow6 hb6 HROW5 HP5
     go_wp2_with fail
     refine (Za CK).mono ?_
     rintro e w7 ⟨rfl,hb7⟩
     have p7:=Zc hb7 p6
     have hlp7:=World.block_lt_of_cell? _ _ p7
     have hu7:=Zc hb7 u6
     have hl7':=World.block_lt_of_cell? _ _ hu7
     have f7:w7.frozen? ⟨w.heap.size+1,0,none⟩=false:=(World.frozen?_of_block (w:=w6) (a:=⟨w.heap.size+1,0,none⟩) (hb7.block _ hl6')).trans f6
     have HB7:Hid (Below w2.heap.size w2 w7):=(Za HB6).trans (hb7.mono (Za HB6).size)
     have HC7:=Zb ((Za HC6).later hb7)
     have HROW7:=Zb ((Gr.of (S:=fun _=>False) hb7).own (Za HROW6) (fun _ _ q=>q))
     clear hb7 p6 u6 f6 CK HROW6 HC6
     by_cases e5:x5=0
     ·subst e5
      have hx:=Za HXc
      rw[if_neg (by decide)] at hx
      have hx0:x=0:=by injection hx with hx _;exact hx.symm
      have hxM:M=M4:=by injection hx with _ hx;injection hx with hx _;exact hx.symm
      have hxS:S=S2:=by injection hx with _ hx;injection hx with _ hx;exact hx.symm
      subst hx0 hxM hxS
      have hRM:=(Y4 M).1 (Za H5)
      have CP1:=Zb (Sv a6 n6 c6 M w7 (by omega) (Za HC7) (Za HS6) (fun z hz=>by have:=Hq (Wj (hRM.one z hz)).2.2.2.2.2.2.2.2;omega))
      clear hx HXc hRM
      go_wp2_with fail
      refine (Za CP1).mono ?_
      rintro e w8 ⟨a8,c8,rfl,hf8,hs8,hb8⟩
      have hrow8:=(Gr.of (S:=fun _=>False) hb8).own (Za HROW7) (fun _ _ q=>q)
      have hb28:Below w2.heap.size w2 w8:=(Za HB7).trans (hb8.mono (Za HB7).size)
      have hq:=Za HQ
      obtain⟨sa',cs',e,hcs8,hsk8⟩:=Z5 hrow8 (fun z hz=>((Za HT8) z hz).later hb28)
      have e2:sa=sa'∧cs=cs':=by injection e with e1 e2 e3;exact⟨e1,e3⟩
      obtain⟨rfl,rfl⟩:=e2
      rw[hq.1,←hq.2.2.2.2.1] at hcs8
      rw[←hq.2.2.2.2.1] at hsk8
      have CP2:=Zb (Sv sa ns cs S w8 (by omega) hcs8 hsk8 (fun z hz=>by
       rw[←hq.1] at hz
       obtain⟨y,hy,rfl⟩:=List.mem_map.1 hz
       have:=Hq (Wj ((Za HONE) y ((Za HT10) y hy))).2.2.2.2.2.2.2.2
       omega))
      have u8:=Zc hb8 hu7
      have hl8':=World.block_lt_of_cell? _ _ u8
      have f8:w8.frozen? ⟨w.heap.size+1,0,none⟩=false:=(World.frozen?_of_block (w:=w7) (a:=⟨w.heap.size+1,0,none⟩) (hb8.block _ hl7')).trans f7
      have HF8:=Zb hf8
      have HS8:=Zb hs8
      have HB28:=Zb hb28
      have hl78:w7.heap.size≤w8.heap.size:=hb8.size
      clear hf8 hs8 hb8 hrow8 hb28 hq hcs8 hsk8 e CP1 p7 hu7 f7
      go_wp2_with fail
      refine (Za CP2).mono ?_
      rintro e w9 ⟨a9,c9,rfl,hf9,hs9,hb9⟩
      have u9:=Zc hb9 u8
      have hl9':=World.block_lt_of_cell? _ _ u9
      have f9:w9.frozen? ⟨w.heap.size+1,0,none⟩=false:=(World.frozen?_of_block (w:=w8) (a:=⟨w.heap.size+1,0,none⟩) (hb9.block _ hl8')).trans f8
      have HEND:Hid (ApF w (w9.setCell ⟨w.heap.size+1,0,none⟩ (.slice a9 ns c9)) 0 M S (.returned (.tuple #[.slice a8 n6 c8,.agg #[.slice a9 ns c9],.int .i64 0]))):=by
       refine⟨a8,n6,c8,a9,ns,c9,rfl,?_,Za HS8,?_,hs9,?_⟩
       ·exact fun w2 g2=>(Za HF8) w2 (((Gr.of hb9).one (w.heap.size+1) 0 (.inl (by show w.heap.size+1<w7.heap.size;omega)) _).trans (g2.mono (fun _ _ hk=>Nat.lt_of_lt_of_le hk (by omega))))
       ·exact hf9 _ ((Gr.refl w9 (fun k=>k<w8.heap.size)).one (w.heap.size+1) 0 (.inl (by show w.heap.size+1<w8.heap.size;omega)) _)
       ·have hb29:Below w2.heap.size w2 w9:=(Za HB28).trans (hb9.mono (Za HB28).size)
        exact (Ze (Za HB2) hb29).setCell (p:=⟨w.heap.size+1,0,none⟩) (Nat.le_succ _) _
      clear hf9 hs9 hb9 u8 f8 CP2
      go_wp2
      (try simp only[Exit.inBlock,Exit.then])
      refine bodyPost_ret (v:=.tuple #[.slice a8 n6 c8,.agg #[.slice a9 ns c9],.int .i64 0]) ?_ rfl (Za HEND)
      rw[Zl rfl]
      go_simp
     ·have g:(x5 != 0)=true:=by simp[e5]
      have HE:Hid ((x,M,S)=((x5:Int),([]:List Zf),([]:List Zf))∧w.heap.size≤w.heap.size+1):=⟨by have:=Za HXc;rw[if_pos e5] at this;exact this.symm,Nat.le_succ _⟩
      have HBE:=Zb (Ze (Za HB2) (Za HB7))
      clear e5 p7
      go_wp2
      (try simp only[Exit.inBlock,Exit.then])
      refine bodyPost_ret (v:=.tuple #[.slice none 0 0,.agg #[.slice none 0 0],.int .i64 x5]) ?_ rfl ?_
      ·rw[Zl rfl]
       go_simp
      ·exact Xz (Za HE) (Za HBE)
    ·have g:(x4 == 0)=false:=by simp[e4]
     have g':(x4 != 0)=true:=by simp[e4]
     have HE:Hid ((x,M,S)=((x4:Int),([]:List Zf),([]:List Zf))∧w.heap.size≤w.heap.size+1):=⟨by have:=Za HXb;rw[if_pos e4] at this;exact this.symm,Nat.le_succ _⟩
     have HBE:=Zb (Ze (Za HB2) (Za HB6))
     clear e4 hgv
     go_wp2
     (try simp only[Exit.inBlock,Exit.then])
     refine bodyPost_ret (v:=.tuple #[.slice none 0 0,.agg #[.slice none 0 0],.int .i64 x4]) ?_ rfl ?_
     ·rw[Zl rfl]
      go_simp
     ·exact Xz (Za HE) (Za HBE)
   ·have g:(x3 == 0)=false:=by simp[e3]
    have g':(x3 != 0)=true:=by simp[e3]
    have HE:Hid ((x,M,S)=((x3:Int),([]:List Zf),([]:List Zf))∧w.heap.size≤w.heap.size+1):=⟨by have:=Za HXa;rw[if_pos e3] at this;exact this.symm,Nat.le_succ _⟩
    have HBE:=Zb (Ze (Za HB2) (Za HP5).bel)
    clear e3
    go_wp2
    (try simp only[Exit.inBlock,Exit.then])
    refine bodyPost_ret (v:=.tuple #[.slice none 0 0,.agg #[.slice none 0 0],.int .i64 x3]) ?_ rfl ?_
    ·rw[Zl rfl]
     go_simp
    ·exact Xz (Za HE) (Za HBE)
  ·have g:(x2 == 0)=false:=by simp[e2]
   have g':(x2 != 0)=true:=by simp[e2]
   have HE:Hid ((x,M,S)=((x2:Int),([]:List Zf),([]:List Zf))∧w.heap.size≤w.heap.size+1):=⟨by have:=Za HX;rw[if_pos e2] at this;exact this.symm,Nat.le_succ _⟩
   have HBE:=Zb (Ze (Za HB2) (Za HB4))
   clear e2 hsp4 hb4
   go_wp2
   (try simp only[Exit.inBlock,Exit.then])
   refine bodyPost_ret (v:=.tuple #[.slice none 0 0,.agg #[.slice none 0 0],.int .i64 x2]) ?_ rfl ?_
   ·rw[Zl rfl]
    go_simp
   ·exact Xz (Za HE) (Za HBE)
 ·have g:(x1 != 0)=true:=by simp[e1]
  have HE:Hid ((x,M,S)=((x1:Int),([]:List Zf),([]:List Zf))∧w.heap.size≤w.heap.size+1):=⟨by rw[if_pos e1] at hx;exact hx.symm,Nat.le_succ _⟩
  have x0:=Zd hX1 0 _ rfl
  have x1':=Zd hX1 1 _ rfl
  have x2':=Zd hX1 2 _ rfl
  have hsz:w.heap.size+1<X0.heap.size:=lt_of_block hX2
  clear hL sL hI hO sI h1 hX1 hX2 hb0 h2 h3 h4 h5 hR hx e1
  go_enter Tryz.func98,Tryz.ntmps98
  go_wp2_with fail
  rw[←hX0]
  clear hX0
  refine (Za C1).mono ?_
  rintro e w2 ⟨rfl,hb2⟩
  have hu2:=(hb2.block _ (lt_of_block (Za HX2))).trans (Za HX2)
  have u2:=Zd hu2 0 _ rfl
  have f2:=Zi hu2 0
  have HBE:=Zb (Ze (Za HB0) hb2)
  clear hb2 hu2 x0 x1' x2'
  go_wp2
  (try simp only[Exit.inBlock,Exit.then])
  refine bodyPost_ret (v:=.tuple #[.slice none 0 0,.agg #[.slice none 0 0],.int .i64 x1]) ?_ rfl ?_
  ·rw[Zl rfl]
   go_simp
  ·exact Xz (Za HE) (Za HBE)
theorem Zio(a:Option Addr)(n c:Nat)(L:List Zf)(h:Int)(ai ao:Option Addr)(ni ci no co:Nat)(I:List InD)(O:List Yc)(name ht:Int)(x:Int)(M S:List Zf)(w:World)(hL:CoinsAt w a n L)(sL:SlOk a n c)(hI:InsAt w ai ni I)(hO:OutsAt w ao no O)(sI:SlOk ai ni ci)(hx:apD L (h,I,O) name ht=(x,M,S)) :
  Calls Tryz.prog 98 #[.slice a n c,.agg #[.int .i64 h,.slice ai ni ci,.slice ao no co],.int .i64 name,.int .i64 ht] w fun e w'=>ApR w w' x M S e:=
 (C9 a n c L h ai ao ni ci no co I O name ht x M S w hL sL hI hO sI hx).mono fun _ _ q=>q.plain
end Go.Proofs.YtpikejjiignchaaGreatDoor
