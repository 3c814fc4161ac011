/- RunOps, of any orders. -/
import Derived.Test.YtepmnpapdknocaaGreatDoorRefRunB
import Derived.Test.YtepmnpapdknocaaGreatDoorSortCoinBToRefEq
import Derived.Test.YtepmnpapdknocaaGreatDoorRefFeeToRefRunA
import Derived.Test.YtepmnpapdknocaaGreatDoorCoinApplyBToCoinTwiceM
set_option maxHeartbeats 3200000
set_option maxRecDepth 10000
namespace Go.Proofs.YtepmnpapdknocaaGreatDoor
open Go.RowKit Go.Maps
theorem Ga(a:Option Addr)(len cap:Nat)(l:List (Int×Int))(az:Option Addr)(lens caps:Nat)(Z:List Int)(h:Int)(w:World)(hO:OpsAt w a len l)(hck:chk l=0)
  (hR:RowAt w az lens Z) (hcz:az=none→caps=0) (hZ:Z0 Z=true) (hh:hOk h=true) :
  Calls Tryz.prog 122 #[.slice a len cap,.slice az lens caps,.int .i64 h] w fun e w'=>∃ a' cap',e = .returned (.tuple #[.slice a' ((Yo h l Z).getD []).length cap',.bool (Yo h l Z).isSome])∧RowAt w' a' ((Yo h l Z).getD []).length ((Yo h l Z).getD [])∧Below w.heap.size w w'∧(a'=none→cap'=0):=by
 obtain⟨hz,hc⟩:=hO
 have h16:len≤16∧Vd l=0:=by
  unfold chk at hck
  split at hck
  ·cases hck
  ·exact⟨by omega,hck⟩
 by_cases h0:len=0
 ·subst h0
  have e:l=[]:=List.length_eq_zero_iff.1 hz
  subst e
  exact Dc az lens caps cap a Z h w hR hcz hZ
 ·obtain⟨b,off,rfl,hcell⟩:=hc (by omega)
  exact Db b off len cap l az lens caps Z h w h16.1 h16.2 hz hcell (World.block_lt_of_cell? _ _ (hcell 0 (by omega)).1) hR hcz hZ hh
open Go.RowKit Go.Maps
def Ws(l k:List (Int×Int))(h:Int):Bool:=match (Yo h k []).bind (Yo h l) with|some L=>Rx L|none=>false
theorem Gt(a b:Option Addr)(lena capa lenb capb:Nat)(l k:List (Int×Int))(h:Int)(w:World)(hO:OpsAt w a lena l)(hK:OpsAt w b lenb k)(hcl:chk l=0)(hck:chk k=0)(hh:hOk h=true) :
  Calls Tryz.prog 86 #[.slice a lena capa,.slice b lenb capb,.int .i64 h] w fun e w'=>e = .returned (.bool (Ws l k h))∧Below w.heap.size w w':=by
 have r1:=Ga b lenb capb k none 0 0 [] h w hK hck (RowAt.nil _ _) (fun _=>rfl) rfl hh
 cases h1:Yo h k [] with
 | none=>
  rw[h1] at r1
  simp only[Option.getD_none,Option.isSome_none,List.length_nil] at r1
  have R1:=hide r1
  have e:Ws l k h=false:=by unfold Ws;rw[h1];rfl
  rw[e]
  clear e h1 r1 hO hK hcl hck hh
  go_enter Tryz.func86,Tryz.ntmps86
  go_wp2_with fail
  refine (unhide R1).mono ?_
  rintro e w1 ⟨a',cap',rfl,_,hb,_⟩
  have HB:=hide hb
  clear hb
  go_wp2
  go_ret
  exact⟨rfl,unhide HB⟩
 | some S=>
  rw[h1] at r1
  simp only[Option.getD_some,Option.isSome_some] at r1
  have R1:=hide r1
  have r2:∀ (a':Option Addr) (cap':Nat) (w1:World),RowAt w1 a' S.length S→Below w.heap.size w w1→(a'=none→cap'=0)→_:=fun a' cap' w1 hr hb hc=>Ga a lena capa l a' S.length cap' S h w1 (hO.later hb) hcl hr hc (Pq (L:=[]) rfl h1) hh
  cases h2:Yo h l S with
  | none=>
   rw[h2] at r2
   simp only[Option.getD_none,Option.isSome_none,List.length_nil] at r2
   have R2:=hide r2
   have e:Ws l k h=false:=by unfold Ws;rw[h1];simp only[Option.bind_some];rw[h2]
   rw[e]
   clear e h1 h2 r1 r2 hO hK hcl hck hh
   go_enter Tryz.func86,Tryz.ntmps86
   go_wp2_with fail
   refine (unhide R1).mono ?_
   rintro e w1 ⟨a',cap',rfl,hr,hb,hc⟩
   have C2:=hide ((unhide R2) a' cap' w1 hr hb hc)
   have HB:=hide hb
   clear hr hb hc
   go_wp2_with fail
   refine (unhide C2).mono ?_
   rintro e w2 ⟨a2,cap2,rfl,_,hb2,_⟩
   have HB2:=hide ((unhide HB).trans (hb2.mono (unhide HB).size))
   clear hb2
   go_wp2
   go_ret
   exact⟨rfl,unhide HB2⟩
  | some L=>
   rw[h2] at r2
   simp only[Option.getD_some,Option.isSome_some] at r2
   have R2:=hide r2
   have e:Ws l k h=Rx L:=by unfold Ws;rw[h1];simp only[Option.bind_some];rw[h2]
   rw[e]
   clear e h1 h2 r1 r2 hO hK hcl hck hh
   by_cases h3:L.length=1
   ·obtain⟨x,rfl⟩:=List.length_eq_one_iff.1 h3
    have e:Rx [x]=(x != 0):=by simp[Rx,Qe]
    rw[e]
    clear h3 e
    go_enter Tryz.func86,Tryz.ntmps86
    go_wp2_with fail
    refine (unhide R1).mono ?_
    rintro e w1 ⟨a',cap',rfl,hr,hb,hc⟩
    have C2:=hide ((unhide R2) a' cap' w1 hr hb hc)
    have HB:=hide hb
    clear hr hb hc
    go_wp2_with fail
    refine (unhide C2).mono ?_
    rintro e w2 ⟨a2,cap2,rfl,hr2,hb2,_⟩
    obtain⟨b2,off2,rfl,hc2⟩:=hr2.2.2 (Nat.zero_lt_one)
    have c2:=hc2 0 (Nat.zero_lt_one)
    have c3:w2.cell? ⟨b2,off2,none⟩=some (.int .i64 x):=c2
    have HB2:=hide ((unhide HB).trans (hb2.mono (unhide HB).size))
    clear hb2 hr2 hc2 c2
    simp only[List.length_cons,List.length_nil]
    go_wp2
    go_ret
    exact⟨rfl,unhide HB2⟩
   ·have e:Rx L=false:=by simp[Rx,h3]
    rw[e]
    obtain⟨n,hn⟩:∃ n,L.length=n:=⟨_,rfl⟩
    rw[hn] at R2 h3
    have h4:((n:Int) == 1)=false:=by simp;omega
    clear hn e h3
    go_enter Tryz.func86,Tryz.ntmps86
    go_wp2_with fail
    refine (unhide R1).mono ?_
    rintro e w1 ⟨a',cap',rfl,hr,hb,hc⟩
    have C2:=hide ((unhide R2) a' cap' w1 hr hb hc)
    have HB:=hide hb
    clear hr hb hc
    go_wp2_with fail
    refine (unhide C2).mono ?_
    rintro e w2 ⟨a2,cap2,rfl,_,hb2,_⟩
    have HB2:=hide ((unhide HB).trans (hb2.mono (unhide HB).size))
    clear hb2
    go_wp2
    go_ret
    exact⟨rfl,unhide HB2⟩
theorem Yh(e:Int)(w:World):Calls Tryz.prog 83 #[.int .i64 e] w fun r w'=>r = .returned (.tuple #[.slice none 0 0,.agg #[.slice none 0 0],.int .i64 e])∧Below w.heap.size w w':=by
 go_enter Tryz.func83,Tryz.ntmps83
 go_wp2
 (try simp only[Exit.inBlock,Exit.then])
 refine bodyPost_ret (v:=.tuple #[.slice none 0 0,.agg #[.slice none 0 0],.int .i64 e]) ?_ rfl ?_
 ·rw[Zi rfl]
  go_simp
 ·exact⟨rfl,bel_new _ _⟩
theorem Ty{L:List Zb}{t:TxD}(hRC:Zs L)(hTx:Zj t=0):Xh L t=0:=by
 unfold Xh
 rw[(Z6 L).2 hRC,if_neg (by decide)]
 exact hTx
theorem Jo{L:List Zb}{t:TxD}{name ht x:Int}{M S:List Zb}(hRC:Zs L)(hTx:Zj t=0)(hb:(okN name && okH ht)=false)(hx:apD L t name ht=(x,M,S)):(x,M,S)=((3:Int),([]:List Zb),([]:List Zb)):=by
 have e:Y7 L t name ht=3:=by
  unfold Y7
  rw[Ty hRC hTx,if_neg (by decide),if_pos hb]
 rw[←hx]
 unfold apD
 rw[e,if_pos (by decide)]
theorem Zeo{L:List Zb}{t:TxD}{name ht x:Int}{M S:List Zb}(hRC:Zs L)(hTx:Zj t=0)(hb:(okN name && okH ht)=true)(hr:isR t=true∧t.1≠ht)(hx:apD L t name ht=(x,M,S)):(x,M,S)=((4:Int),([]:List Zb),([]:List Zb)):=by
 have e:Y7 L t name ht=4:=by
  unfold Y7
  rw[Ty hRC hTx,if_neg (by decide),if_neg (by rw[hb];decide),if_pos hr]
 rw[←hx]
 unfold apD
 rw[e,if_pos (by decide)]
theorem Hp{L:List Zb}{t:TxD}{name ht:Int}(hRC:Zs L)(hTx:Zj t=0)(hb:(okN name && okH ht)=true)(hr:¬(isR t=true∧t.1≠ht)):Y7 L t name ht=0:=by
 unfold Y7
 rw[Ty hRC hTx,if_neg (by decide),if_neg (by rw[hb];decide),if_neg hr]
theorem B9(a:Option Addr)(n c:Nat)(L:List Zb)(h:Int)(ai ao:Option Addr)(ni ci no co:Nat)(I:List InD)(O:List Z7)(name ht:Int)(x:Int)(M S:List Zb)(w:World)(hRC:Zs L)(hTx:Zj (h,I,O)=0)(hx:apD L (h,I,O) name ht=(x,M,S))(n1:name<1) :
  Calls Tryz.prog 42 #[.slice a n c,.agg #[.int .i64 h,.slice ai ni ci,.slice ao no co],.int .i64 name,.int .i64 ht] w fun e w'=>ApR w w' x M S e:=by
 obtain⟨X0,hX0⟩:∃ X0,X0=(w.alloc (.cells #[.int .i64 h,.slice ai ni ci,.slice ao no co] 74)).alloc (.cells #[.slice none 0 0] 68):=⟨_,rfl⟩
 have hb0:Below w.heap.size w X0:=by rw[hX0];exact bel_on (bel_new _ _) (bel_new _ _)
 have hX1:X0.heap[w.heap.size]? = some (.cells [.int .i64 h,.slice ai ni ci,.slice ao no co].toArray 74 (0,0)):=by
  rw[hX0,Below.heap_alloc _ _ _ (by simp)];exact Zp _ _ _ _ _
 have hX2:X0.heap[w.heap.size+1]? = some (.cells [.slice none 0 0].toArray 68 (0,0)):=by
  rw[hX0]
  have:=heap_alloc_new (w.alloc (.cells #[.int .i64 h,.slice ai ni ci,.slice ao no co] 74)) (.cells #[.slice none 0 0] 68)
  rw[show (w.alloc (.cells #[.int .i64 h,.slice ai ni ci,.slice ao no co] 74)).heap.size=w.heap.size+1 by simp] at this
  exact this
 have HE:Hid ((x,M,S)=((3:Int),([]:List Zb),([]:List Zb))∧w.heap.size≤w.heap.size+1):=⟨Jo hRC hTx (by unfold okN okH;simp only[Bool.and_eq_false_iff,decide_eq_false_iff_not];omega) hx,Nat.le_succ _⟩
 have BU:=hide hX2
 have HB:=hide hb0
 have xx0:=Za hX1 0 _ rfl
 have xx1:=Za hX1 1 _ rfl
 have xx2:=Za hX1 2 _ rfl
 have xxl:=lt_of_block hX1
 clear hRC hTx hx hX1 hX2 hb0
 go_enter Tryz.func42,Tryz.ntmps42
 go_wp2_with fail
 rw[←hX0]
 clear hX0
 have CF:=hide (Yh 3 X0)
 go_wp2_with fail
 refine (unhide CF).mono ?_
 rintro e wf ⟨rfl,hbf⟩
 have BUF:=hide ((hbf.block _ (lt_of_block (unhide BU))).trans (unhide BU))
 have HBF:=hide (bel_on (unhide HB) hbf)
 have uuc:=Za (unhide BUF) 0 _ rfl
 have uuf:=Zd (unhide BUF) 0
 have uul:=lt_of_block (unhide BUF)
 clear hbf CF
 go_wp2
 (try simp only[Exit.inBlock,Exit.then])
 refine bodyPost_ret (v:=.tuple #[.slice none 0 0,.agg #[.slice none 0 0],.int .i64 3]) ?_ rfl ?_
 ·rw[Zi rfl]
  go_simp
 ·exact Xi (unhide HE) (unhide HBF)
theorem B8(a:Option Addr)(n c:Nat)(L:List Zb)(h:Int)(ai ao:Option Addr)(ni ci no co:Nat)(I:List InD)(O:List Z7)(name ht:Int)(x:Int)(M S:List Zb)(w:World)(hRC:Zs L)(hTx:Zj (h,I,O)=0)(hx:apD L (h,I,O) name ht=(x,M,S))(n1:¬name<1)(n2:120<name) :
  Calls Tryz.prog 42 #[.slice a n c,.agg #[.int .i64 h,.slice ai ni ci,.slice ao no co],.int .i64 name,.int .i64 ht] w fun e w'=>ApR w w' x M S e:=by
 obtain⟨X0,hX0⟩:∃ X0,X0=(w.alloc (.cells #[.int .i64 h,.slice ai ni ci,.slice ao no co] 74)).alloc (.cells #[.slice none 0 0] 68):=⟨_,rfl⟩
 have hb0:Below w.heap.size w X0:=by rw[hX0];exact bel_on (bel_new _ _) (bel_new _ _)
 have hX1:X0.heap[w.heap.size]? = some (.cells [.int .i64 h,.slice ai ni ci,.slice ao no co].toArray 74 (0,0)):=by
  rw[hX0,Below.heap_alloc _ _ _ (by simp)];exact Zp _ _ _ _ _
 have hX2:X0.heap[w.heap.size+1]? = some (.cells [.slice none 0 0].toArray 68 (0,0)):=by
  rw[hX0]
  have:=heap_alloc_new (w.alloc (.cells #[.int .i64 h,.slice ai ni ci,.slice ao no co] 74)) (.cells #[.slice none 0 0] 68)
  rw[show (w.alloc (.cells #[.int .i64 h,.slice ai ni ci,.slice ao no co] 74)).heap.size=w.heap.size+1 by simp] at this
  exact this
 have HE:Hid ((x,M,S)=((3:Int),([]:List Zb),([]:List Zb))∧w.heap.size≤w.heap.size+1):=⟨Jo hRC hTx (by unfold okN okH;simp only[Bool.and_eq_false_iff,decide_eq_false_iff_not];omega) hx,Nat.le_succ _⟩
 have BU:=hide hX2
 have HB:=hide hb0
 have xx0:=Za hX1 0 _ rfl
 have xx1:=Za hX1 1 _ rfl
 have xx2:=Za hX1 2 _ rfl
 have xxl:=lt_of_block hX1
 clear hRC hTx hx hX1 hX2 hb0
 go_enter Tryz.func42,Tryz.ntmps42
 go_wp2_with fail
 rw[←hX0]
 clear hX0
 have CF:=hide (Yh 3 X0)
 go_wp2_with fail
 refine (unhide CF).mono ?_
 rintro e wf ⟨rfl,hbf⟩
 have BUF:=hide ((hbf.block _ (lt_of_block (unhide BU))).trans (unhide BU))
 have HBF:=hide (bel_on (unhide HB) hbf)
 have uuc:=Za (unhide BUF) 0 _ rfl
 have uuf:=Zd (unhide BUF) 0
 have uul:=lt_of_block (unhide BUF)
 clear hbf CF
 go_wp2
 (try simp only[Exit.inBlock,Exit.then])
 refine bodyPost_ret (v:=.tuple #[.slice none 0 0,.agg #[.slice none 0 0],.int .i64 3]) ?_ rfl ?_
 ·rw[Zi rfl]
  go_simp
 ·exact Xi (unhide HE) (unhide HBF)
theorem Bz(a:Option Addr)(n c:Nat)(L:List Zb)(h:Int)(ai ao:Option Addr)(ni ci no co:Nat)(I:List InD)(O:List Z7)(name ht:Int)(x:Int)(M S:List Zb)(w:World)(hRC:Zs L)(hTx:Zj (h,I,O)=0)(hx:apD L (h,I,O) name ht=(x,M,S))(n1:¬name<1)(n2:¬120<name)(n3:ht<1) :
  Calls Tryz.prog 42 #[.slice a n c,.agg #[.int .i64 h,.slice ai ni ci,.slice ao no co],.int .i64 name,.int .i64 ht] w fun e w'=>ApR w w' x M S e:=by
 obtain⟨X0,hX0⟩:∃ X0,X0=(w.alloc (.cells #[.int .i64 h,.slice ai ni ci,.slice ao no co] 74)).alloc (.cells #[.slice none 0 0] 68):=⟨_,rfl⟩
 have hb0:Below w.heap.size w X0:=by rw[hX0];exact bel_on (bel_new _ _) (bel_new _ _)
 have hX1:X0.heap[w.heap.size]? = some (.cells [.int .i64 h,.slice ai ni ci,.slice ao no co].toArray 74 (0,0)):=by
  rw[hX0,Below.heap_alloc _ _ _ (by simp)];exact Zp _ _ _ _ _
 have hX2:X0.heap[w.heap.size+1]? = some (.cells [.slice none 0 0].toArray 68 (0,0)):=by
  rw[hX0]
  have:=heap_alloc_new (w.alloc (.cells #[.int .i64 h,.slice ai ni ci,.slice ao no co] 74)) (.cells #[.slice none 0 0] 68)
  rw[show (w.alloc (.cells #[.int .i64 h,.slice ai ni ci,.slice ao no co] 74)).heap.size=w.heap.size+1 by simp] at this
  exact this
 have HE:Hid ((x,M,S)=((3:Int),([]:List Zb),([]:List Zb))∧w.heap.size≤w.heap.size+1):=⟨Jo hRC hTx (by unfold okN okH;simp only[Bool.and_eq_false_iff,decide_eq_false_iff_not];omega) hx,Nat.le_succ _⟩
 have BU:=hide hX2
 have HB:=hide hb0
 have xx0:=Za hX1 0 _ rfl
 have xx1:=Za hX1 1 _ rfl
 have xx2:=Za hX1 2 _ rfl
 have xxl:=lt_of_block hX1
 clear hRC hTx hx hX1 hX2 hb0
 go_enter Tryz.func42,Tryz.ntmps42
 go_wp2_with fail
 rw[←hX0]
 clear hX0
 have CF:=hide (Yh 3 X0)
 go_wp2_with fail
 refine (unhide CF).mono ?_
 rintro e wf ⟨rfl,hbf⟩
 have BUF:=hide ((hbf.block _ (lt_of_block (unhide BU))).trans (unhide BU))
 have HBF:=hide (bel_on (unhide HB) hbf)
 have uuc:=Za (unhide BUF) 0 _ rfl
 have uuf:=Zd (unhide BUF) 0
 have uul:=lt_of_block (unhide BUF)
 clear hbf CF
 go_wp2
 (try simp only[Exit.inBlock,Exit.then])
 refine bodyPost_ret (v:=.tuple #[.slice none 0 0,.agg #[.slice none 0 0],.int .i64 3]) ?_ rfl ?_
 ·rw[Zi rfl]
  go_simp
 ·exact Xi (unhide HE) (unhide HBF)
theorem Bx(a:Option Addr)(n c:Nat)(L:List Zb)(h:Int)(ai ao:Option Addr)(ni ci no co:Nat)(I:List InD)(O:List Z7)(name ht:Int)(x:Int)(M S:List Zb)(w:World)(hRC:Zs L)(hTx:Zj (h,I,O)=0)(hx:apD L (h,I,O) name ht=(x,M,S))(n1:¬name<1)(n2:¬120<name)(n3:¬ht<1)(n4:1000<ht) :
  Calls Tryz.prog 42 #[.slice a n c,.agg #[.int .i64 h,.slice ai ni ci,.slice ao no co],.int .i64 name,.int .i64 ht] w fun e w'=>ApR w w' x M S e:=by
 obtain⟨X0,hX0⟩:∃ X0,X0=(w.alloc (.cells #[.int .i64 h,.slice ai ni ci,.slice ao no co] 74)).alloc (.cells #[.slice none 0 0] 68):=⟨_,rfl⟩
 have hb0:Below w.heap.size w X0:=by rw[hX0];exact bel_on (bel_new _ _) (bel_new _ _)
 have hX1:X0.heap[w.heap.size]? = some (.cells [.int .i64 h,.slice ai ni ci,.slice ao no co].toArray 74 (0,0)):=by
  rw[hX0,Below.heap_alloc _ _ _ (by simp)];exact Zp _ _ _ _ _
 have hX2:X0.heap[w.heap.size+1]? = some (.cells [.slice none 0 0].toArray 68 (0,0)):=by
  rw[hX0]
  have:=heap_alloc_new (w.alloc (.cells #[.int .i64 h,.slice ai ni ci,.slice ao no co] 74)) (.cells #[.slice none 0 0] 68)
  rw[show (w.alloc (.cells #[.int .i64 h,.slice ai ni ci,.slice ao no co] 74)).heap.size=w.heap.size+1 by simp] at this
  exact this
 have HE:Hid ((x,M,S)=((3:Int),([]:List Zb),([]:List Zb))∧w.heap.size≤w.heap.size+1):=⟨Jo hRC hTx (by unfold okN okH;simp only[Bool.and_eq_false_iff,decide_eq_false_iff_not];omega) hx,Nat.le_succ _⟩
 have BU:=hide hX2
 have HB:=hide hb0
 have xx0:=Za hX1 0 _ rfl
 have xx1:=Za hX1 1 _ rfl
 have xx2:=Za hX1 2 _ rfl
 have xxl:=lt_of_block hX1
 clear hRC hTx hx hX1 hX2 hb0
 go_enter Tryz.func42,Tryz.ntmps42
 go_wp2_with fail
 rw[←hX0]
 clear hX0
 have CF:=hide (Yh 3 X0)
 go_wp2_with fail
 refine (unhide CF).mono ?_
 rintro e wf ⟨rfl,hbf⟩
 have BUF:=hide ((hbf.block _ (lt_of_block (unhide BU))).trans (unhide BU))
 have HBF:=hide (bel_on (unhide HB) hbf)
 have uuc:=Za (unhide BUF) 0 _ rfl
 have uuf:=Zd (unhide BUF) 0
 have uul:=lt_of_block (unhide BUF)
 clear hbf CF
 go_wp2
 (try simp only[Exit.inBlock,Exit.then])
 refine bodyPost_ret (v:=.tuple #[.slice none 0 0,.agg #[.slice none 0 0],.int .i64 3]) ?_ rfl ?_
 ·rw[Zi rfl]
  go_simp
 ·exact Xi (unhide HE) (unhide HBF)
theorem Bw(a:Option Addr)(n c:Nat)(L:List Zb)(h:Int)(ai ao:Option Addr)(ni ci no co:Nat)(I:List InD)(O:List Z7)(name ht:Int)(x:Int)(M S:List Zb)(w:World)(hI:InsAt w ai ni I)(hRC:Zs L)(hTx:Zj (h,I,O)=0)(hx:apD L (h,I,O) name ht=(x,M,S))(n1:¬name<1)(n2:¬120<name)(n3:¬ht<1)(n4:¬1000<ht)(hr:ni=0)(hh:h≠ht) :
  Calls Tryz.prog 42 #[.slice a n c,.agg #[.int .i64 h,.slice ai ni ci,.slice ao no co],.int .i64 name,.int .i64 ht] w fun e w'=>ApR w w' x M S e:=by
 obtain⟨X0,hX0⟩:∃ X0,X0=(w.alloc (.cells #[.int .i64 h,.slice ai ni ci,.slice ao no co] 74)).alloc (.cells #[.slice none 0 0] 68):=⟨_,rfl⟩
 have hb0:Below w.heap.size w X0:=by rw[hX0];exact bel_on (bel_new _ _) (bel_new _ _)
 have hX1:X0.heap[w.heap.size]? = some (.cells [.int .i64 h,.slice ai ni ci,.slice ao no co].toArray 74 (0,0)):=by
  rw[hX0,Below.heap_alloc _ _ _ (by simp)];exact Zp _ _ _ _ _
 have hX2:X0.heap[w.heap.size+1]? = some (.cells [.slice none 0 0].toArray 68 (0,0)):=by
  rw[hX0]
  have:=heap_alloc_new (w.alloc (.cells #[.int .i64 h,.slice ai ni ci,.slice ao no co] 74)) (.cells #[.slice none 0 0] 68)
  rw[show (w.alloc (.cells #[.int .i64 h,.slice ai ni ci,.slice ao no co] 74)).heap.size=w.heap.size+1 by simp] at this
  exact this
 have HE:Hid ((x,M,S)=((4:Int),([]:List Zb),([]:List Zb))∧w.heap.size≤w.heap.size+1):=⟨Zeo hRC hTx (by unfold okN okH;simp only[Bool.and_eq_true,decide_eq_true_eq];omega) ⟨by unfold isR;rw[hI.1];exact decide_eq_true hr,hh⟩ hx,Nat.le_succ _⟩
 have g0:((ni:Int) == 0)=true:=by simp[hr]
 have g1:(h != ht)=true:=by simp[hh]
 have g2:(ni:Int)=0:=by omega
 clear hr hh
 have BU:=hide hX2
 have HB:=hide hb0
 have xx0:=Za hX1 0 _ rfl
 have xx1:=Za hX1 1 _ rfl
 have xx2:=Za hX1 2 _ rfl
 have xxl:=lt_of_block hX1
 clear hI hRC hTx hx hX1 hX2 hb0
 go_enter Tryz.func42,Tryz.ntmps42
 go_wp2_with fail
 rw[←hX0]
 clear hX0
 have CF:=hide (Yh 4 X0)
 go_wp2_with fail
 refine (unhide CF).mono ?_
 rintro e wf ⟨rfl,hbf⟩
 have BUF:=hide ((hbf.block _ (lt_of_block (unhide BU))).trans (unhide BU))
 have HBF:=hide (bel_on (unhide HB) hbf)
 have uuc:=Za (unhide BUF) 0 _ rfl
 have uuf:=Zd (unhide BUF) 0
 have uul:=lt_of_block (unhide BUF)
 clear hbf CF
 go_wp2
 (try simp only[Exit.inBlock,Exit.then])
 refine bodyPost_ret (v:=.tuple #[.slice none 0 0,.agg #[.slice none 0 0],.int .i64 4]) ?_ rfl ?_
 ·rw[Zi rfl]
  go_simp
 ·exact Xi (unhide HE) (unhide HBF)
end Go.Proofs.YtepmnpapdknocaaGreatDoor
