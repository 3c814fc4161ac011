import Derived.Test.YtpikejjiignchaaGreatDoorG26
import Derived.Test.YtpikejjiignchaaGreatDoorG29
set_option maxHeartbeats 3200000
set_option maxRecDepth 10000
namespace Go.Proofs.YtpikejjiignchaaGreatDoor
open Go.RowKit
theorem Ym(e:Int)(w:World):Calls Tryz.prog 109 #[.int .i64 e] w fun r w'=>r = .returned (.tuple #[.slice none 0 0,.agg #[.slice none 0 0],.int .i64 e])∧Below w.heap.size w w':=by
 go_enter Tryz.func109,Tryz.ntmps109
 go_wp2
 (try simp only[Exit.inBlock,Exit.then])
 refine bodyPost_ret (v:=.tuple #[.slice none 0 0,.agg #[.slice none 0 0],.int .i64 e]) ?_ rfl ?_
 ·rw[Zl rfl]
  go_simp
 ·exact⟨rfl,Zg _ _⟩
theorem P5{L:List Zf}{t:TxD}(hRC:Ye L)(hTx:Zo t=0):Vm L t=0:=by
 unfold Vm
 rw[(Y4 L).2 hRC,if_neg (by decide)]
 exact hTx
theorem Rr{L:List Zf}{t:TxD}{name ht x:Int}{M S:List Zf}(hRC:Ye L)(hTx:Zo t=0)(hb:(okN name && okH ht)=false)(hx:apD L t name ht=(x,M,S)):(x,M,S)=((3:Int),([]:List Zf),([]:List Zf)):=by
 have e:Xq L t name ht=3:=by
  unfold Xq
  rw[P5 hRC hTx,if_neg (by decide),if_pos hb]
 rw[←hx]
 unfold apD
 rw[e,if_pos (by decide)]
theorem Zip{L:List Zf}{t:TxD}{name ht x:Int}{M S:List Zf}(hRC:Ye L)(hTx:Zo t=0)(hb:(okN name && okH ht)=true)(hr:isR t=true∧t.1≠ht)(hx:apD L t name ht=(x,M,S)):(x,M,S)=((4:Int),([]:List Zf),([]:List Zf)):=by
 have e:Xq L t name ht=4:=by
  unfold Xq
  rw[P5 hRC hTx,if_neg (by decide),if_neg (by rw[hb];decide),if_pos hr]
 rw[←hx]
 unfold apD
 rw[e,if_pos (by decide)]
theorem Ly{L:List Zf}{t:TxD}{name ht:Int}(hRC:Ye L)(hTx:Zo t=0)(hb:(okN name && okH ht)=true)(hr:¬(isR t=true∧t.1≠ht)):Xq L t name ht=0:=by
 unfold Xq
 rw[P5 hRC hTx,if_neg (by decide),if_neg (by rw[hb];decide),if_neg hr]
theorem Zbd(a:Option Addr)(n c:Nat)(L:List Zf)(h:Int)(ai ao:Option Addr)(ni ci no co:Nat)(I:List InD)(O:List Yc)(name ht:Int)(x:Int)(M S:List Zf)(w:World)(hRC:Ye L)(hTx:Zo (h,I,O)=0)(hx:apD L (h,I,O) name ht=(x,M,S))(n1:name<1) :
  Calls Tryz.prog 60 #[.slice a n c,.agg #[.int .i64 h,.slice ai ni ci,.slice ao no co],.int .i64 name,.int .i64 ht] w fun e w'=>ApR w w' x M S e:=by
 obtain⟨X0,hX0⟩:∃ X0,X0=(w.alloc (.cells #[.int .i64 h,.slice ai ni ci,.slice ao no co] 52)).alloc (.cells #[.slice none 0 0] 130):=⟨_,rfl⟩
 have hb0:Below w.heap.size w X0:=by rw[hX0];exact Ze (Zg _ _) (Zg _ _)
 have hX1:X0.heap[w.heap.size]? = some (.cells [.int .i64 h,.slice ai ni ci,.slice ao no co].toArray 52 (0,0)):=by
  rw[hX0,Below.heap_alloc _ _ _ (by simp)];exact Zp _ _ _ _ _
 have hX2:X0.heap[w.heap.size+1]? = some (.cells [.slice none 0 0].toArray 130 (0,0)):=by
  rw[hX0]
  have:=heap_alloc_new (w.alloc (.cells #[.int .i64 h,.slice ai ni ci,.slice ao no co] 52)) (.cells #[.slice none 0 0] 130)
  rw[show (w.alloc (.cells #[.int .i64 h,.slice ai ni ci,.slice ao no co] 52)).heap.size=w.heap.size+1 by simp] at this
  exact this
 have HE:Hid ((x,M,S)=((3:Int),([]:List Zf),([]:List Zf))∧w.heap.size≤w.heap.size+1):=⟨Rr hRC hTx (by unfold okN okH;simp only[Bool.and_eq_false_iff,decide_eq_false_iff_not];omega) hx,Nat.le_succ _⟩
 have BU:=Zb hX2
 have HB:=Zb hb0
 have xx0:=Zd hX1 0 _ rfl
 have xx1:=Zd hX1 1 _ rfl
 have xx2:=Zd hX1 2 _ rfl
 have xxl:=lt_of_block hX1
 clear hRC hTx hx hX1 hX2 hb0
 go_enter Tryz.func60,Tryz.ntmps60
 go_wp2_with fail
 rw[←hX0]
 clear hX0
 have CF:=Zb (Ym 3 X0)
 go_wp2_with fail
 refine (Za CF).mono ?_
 rintro e wf ⟨rfl,hbf⟩
 have BUF:=Zb ((hbf.block _ (lt_of_block (Za BU))).trans (Za BU))
 have HBF:=Zb (Ze (Za HB) hbf)
 have uuc:=Zd (Za BUF) 0 _ rfl
 have uuf:=Zi (Za BUF) 0
 have uul:=lt_of_block (Za BUF)
 clear hbf CF
 go_wp2
 (try simp only[Exit.inBlock,Exit.then])
 refine bodyPost_ret (v:=.tuple #[.slice none 0 0,.agg #[.slice none 0 0],.int .i64 3]) ?_ rfl ?_
 ·rw[Zl rfl]
  go_simp
 ·exact (Xz (Za HE) (Za HBF)).plain
theorem Zbc(a:Option Addr)(n c:Nat)(L:List Zf)(h:Int)(ai ao:Option Addr)(ni ci no co:Nat)(I:List InD)(O:List Yc)(name ht:Int)(x:Int)(M S:List Zf)(w:World)(hRC:Ye L)(hTx:Zo (h,I,O)=0)(hx:apD L (h,I,O) name ht=(x,M,S))(n1:¬name<1)(n2:120<name) :
  Calls Tryz.prog 60 #[.slice a n c,.agg #[.int .i64 h,.slice ai ni ci,.slice ao no co],.int .i64 name,.int .i64 ht] w fun e w'=>ApR w w' x M S e:=by
 obtain⟨X0,hX0⟩:∃ X0,X0=(w.alloc (.cells #[.int .i64 h,.slice ai ni ci,.slice ao no co] 52)).alloc (.cells #[.slice none 0 0] 130):=⟨_,rfl⟩
 have hb0:Below w.heap.size w X0:=by rw[hX0];exact Ze (Zg _ _) (Zg _ _)
 have hX1:X0.heap[w.heap.size]? = some (.cells [.int .i64 h,.slice ai ni ci,.slice ao no co].toArray 52 (0,0)):=by
  rw[hX0,Below.heap_alloc _ _ _ (by simp)];exact Zp _ _ _ _ _
 have hX2:X0.heap[w.heap.size+1]? = some (.cells [.slice none 0 0].toArray 130 (0,0)):=by
  rw[hX0]
  have:=heap_alloc_new (w.alloc (.cells #[.int .i64 h,.slice ai ni ci,.slice ao no co] 52)) (.cells #[.slice none 0 0] 130)
  rw[show (w.alloc (.cells #[.int .i64 h,.slice ai ni ci,.slice ao no co] 52)).heap.size=w.heap.size+1 by simp] at this
  exact this
 have HE:Hid ((x,M,S)=((3:Int),([]:List Zf),([]:List Zf))∧w.heap.size≤w.heap.size+1):=⟨Rr hRC hTx (by unfold okN okH;simp only[Bool.and_eq_false_iff,decide_eq_false_iff_not];omega) hx,Nat.le_succ _⟩
 have BU:=Zb hX2
 have HB:=Zb hb0
 have xx0:=Zd hX1 0 _ rfl
 have xx1:=Zd hX1 1 _ rfl
 have xx2:=Zd hX1 2 _ rfl
 have xxl:=lt_of_block hX1
 clear hRC hTx hx hX1 hX2 hb0
 go_enter Tryz.func60,Tryz.ntmps60
 go_wp2_with fail
 rw[←hX0]
 clear hX0
 have CF:=Zb (Ym 3 X0)
 go_wp2_with fail
 refine (Za CF).mono ?_
 rintro e wf ⟨rfl,hbf⟩
 have BUF:=Zb ((hbf.block _ (lt_of_block (Za BU))).trans (Za BU))
 have HBF:=Zb (Ze (Za HB) hbf)
 have uuc:=Zd (Za BUF) 0 _ rfl
 have uuf:=Zi (Za BUF) 0
 have uul:=lt_of_block (Za BUF)
 clear hbf CF
 go_wp2
 (try simp only[Exit.inBlock,Exit.then])
 refine bodyPost_ret (v:=.tuple #[.slice none 0 0,.agg #[.slice none 0 0],.int .i64 3]) ?_ rfl ?_
 ·rw[Zl rfl]
  go_simp
 ·exact (Xz (Za HE) (Za HBF)).plain
theorem Zbb(a:Option Addr)(n c:Nat)(L:List Zf)(h:Int)(ai ao:Option Addr)(ni ci no co:Nat)(I:List InD)(O:List Yc)(name ht:Int)(x:Int)(M S:List Zf)(w:World)(hRC:Ye L)(hTx:Zo (h,I,O)=0)(hx:apD L (h,I,O) name ht=(x,M,S))(n1:¬name<1)(n2:¬120<name)(n3:ht<1) :
  Calls Tryz.prog 60 #[.slice a n c,.agg #[.int .i64 h,.slice ai ni ci,.slice ao no co],.int .i64 name,.int .i64 ht] w fun e w'=>ApR w w' x M S e:=by
 obtain⟨X0,hX0⟩:∃ X0,X0=(w.alloc (.cells #[.int .i64 h,.slice ai ni ci,.slice ao no co] 52)).alloc (.cells #[.slice none 0 0] 130):=⟨_,rfl⟩
 have hb0:Below w.heap.size w X0:=by rw[hX0];exact Ze (Zg _ _) (Zg _ _)
 have hX1:X0.heap[w.heap.size]? = some (.cells [.int .i64 h,.slice ai ni ci,.slice ao no co].toArray 52 (0,0)):=by
  rw[hX0,Below.heap_alloc _ _ _ (by simp)];exact Zp _ _ _ _ _
 have hX2:X0.heap[w.heap.size+1]? = some (.cells [.slice none 0 0].toArray 130 (0,0)):=by
  rw[hX0]
  have:=heap_alloc_new (w.alloc (.cells #[.int .i64 h,.slice ai ni ci,.slice ao no co] 52)) (.cells #[.slice none 0 0] 130)
  rw[show (w.alloc (.cells #[.int .i64 h,.slice ai ni ci,.slice ao no co] 52)).heap.size=w.heap.size+1 by simp] at this
  exact this
 have HE:Hid ((x,M,S)=((3:Int),([]:List Zf),([]:List Zf))∧w.heap.size≤w.heap.size+1):=⟨Rr hRC hTx (by unfold okN okH;simp only[Bool.and_eq_false_iff,decide_eq_false_iff_not];omega) hx,Nat.le_succ _⟩
 have BU:=Zb hX2
 have HB:=Zb hb0
 have xx0:=Zd hX1 0 _ rfl
 have xx1:=Zd hX1 1 _ rfl
 have xx2:=Zd hX1 2 _ rfl
 have xxl:=lt_of_block hX1
 clear hRC hTx hx hX1 hX2 hb0
 go_enter Tryz.func60,Tryz.ntmps60
 go_wp2_with fail
 rw[←hX0]
 clear hX0
 have CF:=Zb (Ym 3 X0)
 go_wp2_with fail
 refine (Za CF).mono ?_
 rintro e wf ⟨rfl,hbf⟩
 have BUF:=Zb ((hbf.block _ (lt_of_block (Za BU))).trans (Za BU))
 have HBF:=Zb (Ze (Za HB) hbf)
 have uuc:=Zd (Za BUF) 0 _ rfl
 have uuf:=Zi (Za BUF) 0
 have uul:=lt_of_block (Za BUF)
 clear hbf CF
 go_wp2
 (try simp only[Exit.inBlock,Exit.then])
 refine bodyPost_ret (v:=.tuple #[.slice none 0 0,.agg #[.slice none 0 0],.int .i64 3]) ?_ rfl ?_
 ·rw[Zl rfl]
  go_simp
 ·exact (Xz (Za HE) (Za HBF)).plain
theorem Zba(a:Option Addr)(n c:Nat)(L:List Zf)(h:Int)(ai ao:Option Addr)(ni ci no co:Nat)(I:List InD)(O:List Yc)(name ht:Int)(x:Int)(M S:List Zf)(w:World)(hRC:Ye L)(hTx:Zo (h,I,O)=0)(hx:apD L (h,I,O) name ht=(x,M,S))(n1:¬name<1)(n2:¬120<name)(n3:¬ht<1)(n4:1000<ht) :
  Calls Tryz.prog 60 #[.slice a n c,.agg #[.int .i64 h,.slice ai ni ci,.slice ao no co],.int .i64 name,.int .i64 ht] w fun e w'=>ApR w w' x M S e:=by
 obtain⟨X0,hX0⟩:∃ X0,X0=(w.alloc (.cells #[.int .i64 h,.slice ai ni ci,.slice ao no co] 52)).alloc (.cells #[.slice none 0 0] 130):=⟨_,rfl⟩
 have hb0:Below w.heap.size w X0:=by rw[hX0];exact Ze (Zg _ _) (Zg _ _)
 have hX1:X0.heap[w.heap.size]? = some (.cells [.int .i64 h,.slice ai ni ci,.slice ao no co].toArray 52 (0,0)):=by
  rw[hX0,Below.heap_alloc _ _ _ (by simp)];exact Zp _ _ _ _ _
 have hX2:X0.heap[w.heap.size+1]? = some (.cells [.slice none 0 0].toArray 130 (0,0)):=by
  rw[hX0]
  have:=heap_alloc_new (w.alloc (.cells #[.int .i64 h,.slice ai ni ci,.slice ao no co] 52)) (.cells #[.slice none 0 0] 130)
  rw[show (w.alloc (.cells #[.int .i64 h,.slice ai ni ci,.slice ao no co] 52)).heap.size=w.heap.size+1 by simp] at this
  exact this
 have HE:Hid ((x,M,S)=((3:Int),([]:List Zf),([]:List Zf))∧w.heap.size≤w.heap.size+1):=⟨Rr hRC hTx (by unfold okN okH;simp only[Bool.and_eq_false_iff,decide_eq_false_iff_not];omega) hx,Nat.le_succ _⟩
 have BU:=Zb hX2
 have HB:=Zb hb0
 have xx0:=Zd hX1 0 _ rfl
 have xx1:=Zd hX1 1 _ rfl
 have xx2:=Zd hX1 2 _ rfl
 have xxl:=lt_of_block hX1
 clear hRC hTx hx hX1 hX2 hb0
 go_enter Tryz.func60,Tryz.ntmps60
 go_wp2_with fail
 rw[←hX0]
 clear hX0
 have CF:=Zb (Ym 3 X0)
 go_wp2_with fail
 refine (Za CF).mono ?_
 rintro e wf ⟨rfl,hbf⟩
 have BUF:=Zb ((hbf.block _ (lt_of_block (Za BU))).trans (Za BU))
 have HBF:=Zb (Ze (Za HB) hbf)
 have uuc:=Zd (Za BUF) 0 _ rfl
 have uuf:=Zi (Za BUF) 0
 have uul:=lt_of_block (Za BUF)
 clear hbf CF
 go_wp2
 (try simp only[Exit.inBlock,Exit.then])
 refine bodyPost_ret (v:=.tuple #[.slice none 0 0,.agg #[.slice none 0 0],.int .i64 3]) ?_ rfl ?_
 ·rw[Zl rfl]
  go_simp
 ·exact (Xz (Za HE) (Za HBF)).plain
theorem Zaz(a:Option Addr)(n c:Nat)(L:List Zf)(h:Int)(ai ao:Option Addr)(ni ci no co:Nat)(I:List InD)(O:List Yc)(name ht:Int)(x:Int)(M S:List Zf)(w:World)(hI:InsAt w ai ni I)(hRC:Ye L)(hTx:Zo (h,I,O)=0)(hx:apD L (h,I,O) name ht=(x,M,S))(n1:¬name<1)(n2:¬120<name)(n3:¬ht<1)(n4:¬1000<ht)(hr:ni=0)(hh:h≠ht) :
  Calls Tryz.prog 60 #[.slice a n c,.agg #[.int .i64 h,.slice ai ni ci,.slice ao no co],.int .i64 name,.int .i64 ht] w fun e w'=>ApR w w' x M S e:=by
 obtain⟨X0,hX0⟩:∃ X0,X0=(w.alloc (.cells #[.int .i64 h,.slice ai ni ci,.slice ao no co] 52)).alloc (.cells #[.slice none 0 0] 130):=⟨_,rfl⟩
 have hb0:Below w.heap.size w X0:=by rw[hX0];exact Ze (Zg _ _) (Zg _ _)
 have hX1:X0.heap[w.heap.size]? = some (.cells [.int .i64 h,.slice ai ni ci,.slice ao no co].toArray 52 (0,0)):=by
  rw[hX0,Below.heap_alloc _ _ _ (by simp)];exact Zp _ _ _ _ _
 have hX2:X0.heap[w.heap.size+1]? = some (.cells [.slice none 0 0].toArray 130 (0,0)):=by
  rw[hX0]
  have:=heap_alloc_new (w.alloc (.cells #[.int .i64 h,.slice ai ni ci,.slice ao no co] 52)) (.cells #[.slice none 0 0] 130)
  rw[show (w.alloc (.cells #[.int .i64 h,.slice ai ni ci,.slice ao no co] 52)).heap.size=w.heap.size+1 by simp] at this
  exact this
 have HE:Hid ((x,M,S)=((4:Int),([]:List Zf),([]:List Zf))∧w.heap.size≤w.heap.size+1):=⟨Zip hRC hTx (by unfold okN okH;simp only[Bool.and_eq_true,decide_eq_true_eq];omega) ⟨by unfold isR;rw[hI.1];exact decide_eq_true hr,hh⟩ hx,Nat.le_succ _⟩
 have g0:((ni:Int) == 0)=true:=by simp[hr]
 have g1:(h != ht)=true:=by simp[hh]
 have g2:(ni:Int)=0:=by omega
 clear hr hh
 have BU:=Zb hX2
 have HB:=Zb hb0
 have xx0:=Zd hX1 0 _ rfl
 have xx1:=Zd hX1 1 _ rfl
 have xx2:=Zd hX1 2 _ rfl
 have xxl:=lt_of_block hX1
 clear hI hRC hTx hx hX1 hX2 hb0
 go_enter Tryz.func60,Tryz.ntmps60
 go_wp2_with fail
 rw[←hX0]
 clear hX0
 have CF:=Zb (Ym 4 X0)
 go_wp2_with fail
 refine (Za CF).mono ?_
 rintro e wf ⟨rfl,hbf⟩
 have BUF:=Zb ((hbf.block _ (lt_of_block (Za BU))).trans (Za BU))
 have HBF:=Zb (Ze (Za HB) hbf)
 have uuc:=Zd (Za BUF) 0 _ rfl
 have uuf:=Zi (Za BUF) 0
 have uul:=lt_of_block (Za BUF)
 clear hbf CF
 go_wp2
 (try simp only[Exit.inBlock,Exit.then])
 refine bodyPost_ret (v:=.tuple #[.slice none 0 0,.agg #[.slice none 0 0],.int .i64 4]) ?_ rfl ?_
 ·rw[Zl rfl]
  go_simp
 ·exact (Xz (Za HE) (Za HBF)).plain
end Go.Proofs.YtpikejjiignchaaGreatDoor
