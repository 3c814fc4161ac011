import Derived.Test.YtpikejjiignchaaGreatDoorG24
import Derived.Test.YtpikejjiignchaaGreatDoorG18
set_option maxHeartbeats 3200000
set_option maxRecDepth 10000
namespace Go.Proofs.YtpikejjiignchaaGreatDoor
open Go.RowKit Go.Maps
theorem Gl(a:Option Addr)(len cap:Nat)(l:List (Int×Int))(az:Option Addr)(lens caps:Nat)(Z:List Int)(h:Int)(w:World)(hO:OpsAt w a len l)(hck:chk l=0)
  (hR:RowAt w az lens Z) (hcz:az=none→caps=0) (hZ:Z8 Z=true) (hh:hOk h=true) :
  Calls Tryz.prog 151 #[.slice a len cap,.slice az lens caps,.int .i64 h] w fun e w'=>∃ a' cap',e = .returned (.tuple #[.slice a' ((Yv h l Z).getD []).length cap',.bool (Yv h l Z).isSome])∧RowAt w' a' ((Yv h l Z).getD []).length ((Yv h l Z).getD [])∧Below w.heap.size w w'∧(a'=none→cap'=0):=by
 obtain⟨hz,hc⟩:=hO
 have h16:len≤16∧Vg l=0:=by
  unfold chk at hck
  split at hck
  ·cases hck
  ·exact⟨by omega,hck⟩
 by_cases h0:len=0
 ·subst h0
  have e:l=[]:=List.length_eq_zero_iff.1 hz
  subst e
  exact Nr az lens caps cap a Z h w hR hcz hZ
 ·obtain⟨b,off,rfl,hcell⟩:=hc (by omega)
  exact Nq b off len cap l az lens caps Z h w h16.1 h16.2 hz hcell (World.block_lt_of_cell? _ _ (hcell 0 (by omega)).1) hR hcz hZ hh
open Go.RowKit Go.Maps
def Wx(l k:List (Int×Int))(h:Int):Bool:=match (Yv h k []).bind (Yv h l) with|some L=>Tg L|none=>false
theorem G4(a b:Option Addr)(lena capa lenb capb:Nat)(l k:List (Int×Int))(h:Int)(w:World)(hO:OpsAt w a lena l)(hK:OpsAt w b lenb k)(hcl:chk l=0)(hck:chk k=0)(hh:hOk h=true) :
  Calls Tryz.prog 111 #[.slice a lena capa,.slice b lenb capb,.int .i64 h] w fun e w'=>e = .returned (.bool (Wx l k h))∧Below w.heap.size w w':=by
 have r1:=Gl b lenb capb k none 0 0 [] h w hK hck (RowAt.nil _ _) (fun _=>rfl) rfl hh
 cases h1:Yv h k [] with
 | none=>
  rw[h1] at r1
  simp only[Option.getD_none,Option.isSome_none,List.length_nil] at r1
  have R1:=Zb r1
  have e:Wx l k h=false:=by unfold Wx;rw[h1];rfl
  rw[e]
  clear e h1 r1 hO hK hcl hck hh
  go_enter Tryz.func111,Tryz.ntmps111
  go_wp2_with fail
  refine (Za R1).mono ?_
  rintro e w1 ⟨a',cap',rfl,_,hb,_⟩
  have HB:=Zb hb
  clear hb
  go_wp2
  go_ret
  exact⟨rfl,Za HB⟩
 | some S=>
  rw[h1] at r1
  simp only[Option.getD_some,Option.isSome_some] at r1
  have R1:=Zb r1
  have r2:∀ (a':Option Addr) (cap':Nat) (w1:World),RowAt w1 a' S.length S→Below w.heap.size w w1→(a'=none→cap'=0)→_:=fun a' cap' w1 hr hb hc=>Gl a lena capa l a' S.length cap' S h w1 (hO.later hb) hcl hr hc (P9 (L:=[]) rfl h1) hh
  cases h2:Yv h l S with
  | none=>
   rw[h2] at r2
   simp only[Option.getD_none,Option.isSome_none,List.length_nil] at r2
   have R2:=Zb r2
   have e:Wx l k h=false:=by unfold Wx;rw[h1];simp only[Option.bind_some];rw[h2]
   rw[e]
   clear e h1 h2 r1 r2 hO hK hcl hck hh
   go_enter Tryz.func111,Tryz.ntmps111
   go_wp2_with fail
   refine (Za R1).mono ?_
   rintro e w1 ⟨a',cap',rfl,hr,hb,hc⟩
   have C2:=Zb ((Za R2) a' cap' w1 hr hb hc)
   have HB:=Zb hb
   clear hr hb hc
   go_wp2_with fail
   refine (Za C2).mono ?_
   rintro e w2 ⟨a2,cap2,rfl,_,hb2,_⟩
   have HB2:=Zb ((Za HB).trans (hb2.mono (Za HB).size))
   clear hb2
   go_wp2
   go_ret
   exact⟨rfl,Za HB2⟩
  | some L=>
   rw[h2] at r2
   simp only[Option.getD_some,Option.isSome_some] at r2
   have R2:=Zb r2
   have e:Wx l k h=Tg L:=by unfold Wx;rw[h1];simp only[Option.bind_some];rw[h2]
   rw[e]
   clear e h1 h2 r1 r2 hO hK hcl hck hh
   by_cases h3:L.length=1
   ·obtain⟨x,rfl⟩:=List.length_eq_one_iff.1 h3
    have e:Tg [x]=(x != 0):=by simp[Tg,U8]
    rw[e]
    clear h3 e
    go_enter Tryz.func111,Tryz.ntmps111
    go_wp2_with fail
    refine (Za R1).mono ?_
    rintro e w1 ⟨a',cap',rfl,hr,hb,hc⟩
    have C2:=Zb ((Za R2) a' cap' w1 hr hb hc)
    have HB:=Zb hb
    clear hr hb hc
    go_wp2_with fail
    refine (Za C2).mono ?_
    rintro e w2 ⟨a2,cap2,rfl,hr2,hb2,_⟩
    obtain⟨b2,off2,rfl,hc2⟩:=hr2.2.2 (Nat.zero_lt_one)
    have c2:=hc2 0 (Nat.zero_lt_one)
    have c3:w2.cell? ⟨b2,off2,none⟩=some (.int .i64 x):=c2
    have HB2:=Zb ((Za HB).trans (hb2.mono (Za HB).size))
    clear hb2 hr2 hc2 c2
    simp only[List.length_cons,List.length_nil]
    go_wp2
    go_ret
    exact⟨rfl,Za HB2⟩
   ·have e:Tg L=false:=by simp[Tg,h3]
    rw[e]
    obtain⟨n,hn⟩:∃ n,L.length=n:=⟨_,rfl⟩
    rw[hn] at R2 h3
    have h4:((n:Int) == 1)=false:=by simp;omega
    clear hn e h3
    go_enter Tryz.func111,Tryz.ntmps111
    go_wp2_with fail
    refine (Za R1).mono ?_
    rintro e w1 ⟨a',cap',rfl,hr,hb,hc⟩
    have C2:=Zb ((Za R2) a' cap' w1 hr hb hc)
    have HB:=Zb hb
    clear hr hb hc
    go_wp2_with fail
    refine (Za C2).mono ?_
    rintro e w2 ⟨a2,cap2,rfl,_,hb2,_⟩
    have HB2:=Zb ((Za HB).trans (hb2.mono (Za HB).size))
    clear hb2
    go_wp2
    go_ret
    exact⟨rfl,Za HB2⟩
theorem Yj(e:Int)(w:World):Calls Tryz.prog 109 #[.int .i64 e] w fun r w'=>r = .returned (.tuple #[.slice none 0 0,.agg #[.slice none 0 0],.int .i64 e])∧Below w.heap.size w w':=by
 go_enter Tryz.func109,Tryz.ntmps109
 go_wp2
 (try simp only[Exit.inBlock,Exit.then])
 refine bodyPost_ret (v:=.tuple #[.slice none 0 0,.agg #[.slice none 0 0],.int .i64 e]) ?_ rfl ?_
 ·rw[Zq rfl]
  go_simp
 ·exact⟨rfl,Zf _ _⟩
theorem Sk{L:List Zg}{t:TxD}(hRC:Z5 L)(hTx:Zo t=0):Qt L t=0:=by
 unfold Qt
 rw[(Xa L).2 hRC,if_neg (by decide)]
 exact hTx
theorem Jy{L:List Zg}{t:TxD}{name ht x:Int}{M S:List Zg}(hRC:Z5 L)(hTx:Zo t=0)(hb:(okN name && okH ht)=false)(hx:apD L t name ht=(x,M,S)):(x,M,S)=((3:Int),([]:List Zg),([]:List Zg)):=by
 have e:Xc L t name ht=3:=by
  unfold Xc
  rw[Sk hRC hTx,if_neg (by decide),if_pos hb]
 rw[←hx]
 unfold apD
 rw[e,if_pos (by decide)]
theorem Zel{L:List Zg}{t:TxD}{name ht x:Int}{M S:List Zg}(hRC:Z5 L)(hTx:Zo t=0)(hb:(okN name && okH ht)=true)(hr:isR t=true∧t.1≠ht)(hx:apD L t name ht=(x,M,S)):(x,M,S)=((4:Int),([]:List Zg),([]:List Zg)):=by
 have e:Xc L t name ht=4:=by
  unfold Xc
  rw[Sk hRC hTx,if_neg (by decide),if_neg (by rw[hb];decide),if_pos hr]
 rw[←hx]
 unfold apD
 rw[e,if_pos (by decide)]
theorem Hq{L:List Zg}{t:TxD}{name ht:Int}(hRC:Z5 L)(hTx:Zo t=0)(hb:(okN name && okH ht)=true)(hr:¬(isR t=true∧t.1≠ht)):Xc L t name ht=0:=by
 unfold Xc
 rw[Sk hRC hTx,if_neg (by decide),if_neg (by rw[hb];decide),if_neg hr]
theorem Bl(a:Option Addr)(n c:Nat)(L:List Zg)(h:Int)(ai ao:Option Addr)(ni ci no co:Nat)(I:List InD)(O:List Zw)(name ht:Int)(x:Int)(M S:List Zg)(w:World)(hRC:Z5 L)(hTx:Zo (h,I,O)=0)(hx:apD L (h,I,O) name ht=(x,M,S))(n1:name<1) :
  Calls Tryz.prog 60 #[.slice a n c,.agg #[.int .i64 h,.slice ai ni ci,.slice ao no co],.int .i64 name,.int .i64 ht] w fun e w'=>ApR w w' x M S e:=by
 obtain⟨X0,hX0⟩:∃ X0,X0=(w.alloc (.cells #[.int .i64 h,.slice ai ni ci,.slice ao no co] 52)).alloc (.cells #[.slice none 0 0] 130):=⟨_,rfl⟩
 have hb0:Below w.heap.size w X0:=by rw[hX0];exact Ze (Zf _ _) (Zf _ _)
 have hX1:X0.heap[w.heap.size]? = some (.cells [.int .i64 h,.slice ai ni ci,.slice ao no co].toArray 52 (0,0)):=by
  rw[hX0,Below.heap_alloc _ _ _ (by simp)];exact Zl _ _ _ _ _
 have hX2:X0.heap[w.heap.size+1]? = some (.cells [.slice none 0 0].toArray 130 (0,0)):=by
  rw[hX0]
  have:=heap_alloc_new (w.alloc (.cells #[.int .i64 h,.slice ai ni ci,.slice ao no co] 52)) (.cells #[.slice none 0 0] 130)
  rw[show (w.alloc (.cells #[.int .i64 h,.slice ai ni ci,.slice ao no co] 52)).heap.size=w.heap.size+1 by simp] at this
  exact this
 have HE:Hid ((x,M,S)=((3:Int),([]:List Zg),([]:List Zg))∧w.heap.size≤w.heap.size+1):=⟨Jy hRC hTx (by unfold okN okH;simp only[Bool.and_eq_false_iff,decide_eq_false_iff_not];omega) hx,Nat.le_succ _⟩
 have BU:=Zb hX2
 have HB:=Zb hb0
 have xx0:=Zd hX1 0 _ rfl
 have xx1:=Zd hX1 1 _ rfl
 have xx2:=Zd hX1 2 _ rfl
 have xxl:=lt_of_block hX1
 clear hRC hTx hx hX1 hX2 hb0
 go_enter Tryz.func60,Tryz.ntmps60
 go_wp2_with fail
 rw[←hX0]
 clear hX0
 have CF:=Zb (Yj 3 X0)
 go_wp2_with fail
 refine (Za CF).mono ?_
 rintro e wf ⟨rfl,hbf⟩
 have BUF:=Zb ((hbf.block _ (lt_of_block (Za BU))).trans (Za BU))
 have HBF:=Zb (Ze (Za HB) hbf)
 have uuc:=Zd (Za BUF) 0 _ rfl
 have uuf:=Zh (Za BUF) 0
 have uul:=lt_of_block (Za BUF)
 clear hbf CF
 go_wp2
 (try simp only[Exit.inBlock,Exit.then])
 refine bodyPost_ret (v:=.tuple #[.slice none 0 0,.agg #[.slice none 0 0],.int .i64 3]) ?_ rfl ?_
 ·rw[Zq rfl]
  go_simp
 ·exact (Xl (Za HE) (Za HBF)).plain
theorem Bj(a:Option Addr)(n c:Nat)(L:List Zg)(h:Int)(ai ao:Option Addr)(ni ci no co:Nat)(I:List InD)(O:List Zw)(name ht:Int)(x:Int)(M S:List Zg)(w:World)(hRC:Z5 L)(hTx:Zo (h,I,O)=0)(hx:apD L (h,I,O) name ht=(x,M,S))(n1:¬name<1)(n2:120<name) :
  Calls Tryz.prog 60 #[.slice a n c,.agg #[.int .i64 h,.slice ai ni ci,.slice ao no co],.int .i64 name,.int .i64 ht] w fun e w'=>ApR w w' x M S e:=by
 obtain⟨X0,hX0⟩:∃ X0,X0=(w.alloc (.cells #[.int .i64 h,.slice ai ni ci,.slice ao no co] 52)).alloc (.cells #[.slice none 0 0] 130):=⟨_,rfl⟩
 have hb0:Below w.heap.size w X0:=by rw[hX0];exact Ze (Zf _ _) (Zf _ _)
 have hX1:X0.heap[w.heap.size]? = some (.cells [.int .i64 h,.slice ai ni ci,.slice ao no co].toArray 52 (0,0)):=by
  rw[hX0,Below.heap_alloc _ _ _ (by simp)];exact Zl _ _ _ _ _
 have hX2:X0.heap[w.heap.size+1]? = some (.cells [.slice none 0 0].toArray 130 (0,0)):=by
  rw[hX0]
  have:=heap_alloc_new (w.alloc (.cells #[.int .i64 h,.slice ai ni ci,.slice ao no co] 52)) (.cells #[.slice none 0 0] 130)
  rw[show (w.alloc (.cells #[.int .i64 h,.slice ai ni ci,.slice ao no co] 52)).heap.size=w.heap.size+1 by simp] at this
  exact this
 have HE:Hid ((x,M,S)=((3:Int),([]:List Zg),([]:List Zg))∧w.heap.size≤w.heap.size+1):=⟨Jy hRC hTx (by unfold okN okH;simp only[Bool.and_eq_false_iff,decide_eq_false_iff_not];omega) hx,Nat.le_succ _⟩
 have BU:=Zb hX2
 have HB:=Zb hb0
 have xx0:=Zd hX1 0 _ rfl
 have xx1:=Zd hX1 1 _ rfl
 have xx2:=Zd hX1 2 _ rfl
 have xxl:=lt_of_block hX1
 clear hRC hTx hx hX1 hX2 hb0
 go_enter Tryz.func60,Tryz.ntmps60
 go_wp2_with fail
 rw[←hX0]
 clear hX0
 have CF:=Zb (Yj 3 X0)
 go_wp2_with fail
 refine (Za CF).mono ?_
 rintro e wf ⟨rfl,hbf⟩
 have BUF:=Zb ((hbf.block _ (lt_of_block (Za BU))).trans (Za BU))
 have HBF:=Zb (Ze (Za HB) hbf)
 have uuc:=Zd (Za BUF) 0 _ rfl
 have uuf:=Zh (Za BUF) 0
 have uul:=lt_of_block (Za BUF)
 clear hbf CF
 go_wp2
 (try simp only[Exit.inBlock,Exit.then])
 refine bodyPost_ret (v:=.tuple #[.slice none 0 0,.agg #[.slice none 0 0],.int .i64 3]) ?_ rfl ?_
 ·rw[Zq rfl]
  go_simp
 ·exact (Xl (Za HE) (Za HBF)).plain
theorem Bi(a:Option Addr)(n c:Nat)(L:List Zg)(h:Int)(ai ao:Option Addr)(ni ci no co:Nat)(I:List InD)(O:List Zw)(name ht:Int)(x:Int)(M S:List Zg)(w:World)(hRC:Z5 L)(hTx:Zo (h,I,O)=0)(hx:apD L (h,I,O) name ht=(x,M,S))(n1:¬name<1)(n2:¬120<name)(n3:ht<1) :
  Calls Tryz.prog 60 #[.slice a n c,.agg #[.int .i64 h,.slice ai ni ci,.slice ao no co],.int .i64 name,.int .i64 ht] w fun e w'=>ApR w w' x M S e:=by
 obtain⟨X0,hX0⟩:∃ X0,X0=(w.alloc (.cells #[.int .i64 h,.slice ai ni ci,.slice ao no co] 52)).alloc (.cells #[.slice none 0 0] 130):=⟨_,rfl⟩
 have hb0:Below w.heap.size w X0:=by rw[hX0];exact Ze (Zf _ _) (Zf _ _)
 have hX1:X0.heap[w.heap.size]? = some (.cells [.int .i64 h,.slice ai ni ci,.slice ao no co].toArray 52 (0,0)):=by
  rw[hX0,Below.heap_alloc _ _ _ (by simp)];exact Zl _ _ _ _ _
 have hX2:X0.heap[w.heap.size+1]? = some (.cells [.slice none 0 0].toArray 130 (0,0)):=by
  rw[hX0]
  have:=heap_alloc_new (w.alloc (.cells #[.int .i64 h,.slice ai ni ci,.slice ao no co] 52)) (.cells #[.slice none 0 0] 130)
  rw[show (w.alloc (.cells #[.int .i64 h,.slice ai ni ci,.slice ao no co] 52)).heap.size=w.heap.size+1 by simp] at this
  exact this
 have HE:Hid ((x,M,S)=((3:Int),([]:List Zg),([]:List Zg))∧w.heap.size≤w.heap.size+1):=⟨Jy hRC hTx (by unfold okN okH;simp only[Bool.and_eq_false_iff,decide_eq_false_iff_not];omega) hx,Nat.le_succ _⟩
 have BU:=Zb hX2
 have HB:=Zb hb0
 have xx0:=Zd hX1 0 _ rfl
 have xx1:=Zd hX1 1 _ rfl
 have xx2:=Zd hX1 2 _ rfl
 have xxl:=lt_of_block hX1
 clear hRC hTx hx hX1 hX2 hb0
 go_enter Tryz.func60,Tryz.ntmps60
 go_wp2_with fail
 rw[←hX0]
 clear hX0
 have CF:=Zb (Yj 3 X0)
 go_wp2_with fail
 refine (Za CF).mono ?_
 rintro e wf ⟨rfl,hbf⟩
 have BUF:=Zb ((hbf.block _ (lt_of_block (Za BU))).trans (Za BU))
 have HBF:=Zb (Ze (Za HB) hbf)
 have uuc:=Zd (Za BUF) 0 _ rfl
 have uuf:=Zh (Za BUF) 0
 have uul:=lt_of_block (Za BUF)
 clear hbf CF
 go_wp2
 (try simp only[Exit.inBlock,Exit.then])
 refine bodyPost_ret (v:=.tuple #[.slice none 0 0,.agg #[.slice none 0 0],.int .i64 3]) ?_ rfl ?_
 ·rw[Zq rfl]
  go_simp
 ·exact (Xl (Za HE) (Za HBF)).plain
theorem Bh(a:Option Addr)(n c:Nat)(L:List Zg)(h:Int)(ai ao:Option Addr)(ni ci no co:Nat)(I:List InD)(O:List Zw)(name ht:Int)(x:Int)(M S:List Zg)(w:World)(hRC:Z5 L)(hTx:Zo (h,I,O)=0)(hx:apD L (h,I,O) name ht=(x,M,S))(n1:¬name<1)(n2:¬120<name)(n3:¬ht<1)(n4:1000<ht) :
  Calls Tryz.prog 60 #[.slice a n c,.agg #[.int .i64 h,.slice ai ni ci,.slice ao no co],.int .i64 name,.int .i64 ht] w fun e w'=>ApR w w' x M S e:=by
 obtain⟨X0,hX0⟩:∃ X0,X0=(w.alloc (.cells #[.int .i64 h,.slice ai ni ci,.slice ao no co] 52)).alloc (.cells #[.slice none 0 0] 130):=⟨_,rfl⟩
 have hb0:Below w.heap.size w X0:=by rw[hX0];exact Ze (Zf _ _) (Zf _ _)
 have hX1:X0.heap[w.heap.size]? = some (.cells [.int .i64 h,.slice ai ni ci,.slice ao no co].toArray 52 (0,0)):=by
  rw[hX0,Below.heap_alloc _ _ _ (by simp)];exact Zl _ _ _ _ _
 have hX2:X0.heap[w.heap.size+1]? = some (.cells [.slice none 0 0].toArray 130 (0,0)):=by
  rw[hX0]
  have:=heap_alloc_new (w.alloc (.cells #[.int .i64 h,.slice ai ni ci,.slice ao no co] 52)) (.cells #[.slice none 0 0] 130)
  rw[show (w.alloc (.cells #[.int .i64 h,.slice ai ni ci,.slice ao no co] 52)).heap.size=w.heap.size+1 by simp] at this
  exact this
 have HE:Hid ((x,M,S)=((3:Int),([]:List Zg),([]:List Zg))∧w.heap.size≤w.heap.size+1):=⟨Jy hRC hTx (by unfold okN okH;simp only[Bool.and_eq_false_iff,decide_eq_false_iff_not];omega) hx,Nat.le_succ _⟩
 have BU:=Zb hX2
 have HB:=Zb hb0
 have xx0:=Zd hX1 0 _ rfl
 have xx1:=Zd hX1 1 _ rfl
 have xx2:=Zd hX1 2 _ rfl
 have xxl:=lt_of_block hX1
 clear hRC hTx hx hX1 hX2 hb0
 go_enter Tryz.func60,Tryz.ntmps60
 go_wp2_with fail
 rw[←hX0]
 clear hX0
 have CF:=Zb (Yj 3 X0)
 go_wp2_with fail
 refine (Za CF).mono ?_
 rintro e wf ⟨rfl,hbf⟩
 have BUF:=Zb ((hbf.block _ (lt_of_block (Za BU))).trans (Za BU))
 have HBF:=Zb (Ze (Za HB) hbf)
 have uuc:=Zd (Za BUF) 0 _ rfl
 have uuf:=Zh (Za BUF) 0
 have uul:=lt_of_block (Za BUF)
 clear hbf CF
 go_wp2
 (try simp only[Exit.inBlock,Exit.then])
 refine bodyPost_ret (v:=.tuple #[.slice none 0 0,.agg #[.slice none 0 0],.int .i64 3]) ?_ rfl ?_
 ·rw[Zq rfl]
  go_simp
 ·exact (Xl (Za HE) (Za HBF)).plain
theorem Bg(a:Option Addr)(n c:Nat)(L:List Zg)(h:Int)(ai ao:Option Addr)(ni ci no co:Nat)(I:List InD)(O:List Zw)(name ht:Int)(x:Int)(M S:List Zg)(w:World)(hI:InsAt w ai ni I)(hRC:Z5 L)(hTx:Zo (h,I,O)=0)(hx:apD L (h,I,O) name ht=(x,M,S))(n1:¬name<1)(n2:¬120<name)(n3:¬ht<1)(n4:¬1000<ht)(hr:ni=0)(hh:h≠ht) :
  Calls Tryz.prog 60 #[.slice a n c,.agg #[.int .i64 h,.slice ai ni ci,.slice ao no co],.int .i64 name,.int .i64 ht] w fun e w'=>ApR w w' x M S e:=by
 obtain⟨X0,hX0⟩:∃ X0,X0=(w.alloc (.cells #[.int .i64 h,.slice ai ni ci,.slice ao no co] 52)).alloc (.cells #[.slice none 0 0] 130):=⟨_,rfl⟩
 have hb0:Below w.heap.size w X0:=by rw[hX0];exact Ze (Zf _ _) (Zf _ _)
 have hX1:X0.heap[w.heap.size]? = some (.cells [.int .i64 h,.slice ai ni ci,.slice ao no co].toArray 52 (0,0)):=by
  rw[hX0,Below.heap_alloc _ _ _ (by simp)];exact Zl _ _ _ _ _
 have hX2:X0.heap[w.heap.size+1]? = some (.cells [.slice none 0 0].toArray 130 (0,0)):=by
  rw[hX0]
  have:=heap_alloc_new (w.alloc (.cells #[.int .i64 h,.slice ai ni ci,.slice ao no co] 52)) (.cells #[.slice none 0 0] 130)
  rw[show (w.alloc (.cells #[.int .i64 h,.slice ai ni ci,.slice ao no co] 52)).heap.size=w.heap.size+1 by simp] at this
  exact this
 have HE:Hid ((x,M,S)=((4:Int),([]:List Zg),([]:List Zg))∧w.heap.size≤w.heap.size+1):=⟨Zel hRC hTx (by unfold okN okH;simp only[Bool.and_eq_true,decide_eq_true_eq];omega) ⟨by unfold isR;rw[hI.1];exact decide_eq_true hr,hh⟩ hx,Nat.le_succ _⟩
 have g0:((ni:Int) == 0)=true:=by simp[hr]
 have g1:(h != ht)=true:=by simp[hh]
 have g2:(ni:Int)=0:=by omega
 clear hr hh
 have BU:=Zb hX2
 have HB:=Zb hb0
 have xx0:=Zd hX1 0 _ rfl
 have xx1:=Zd hX1 1 _ rfl
 have xx2:=Zd hX1 2 _ rfl
 have xxl:=lt_of_block hX1
 clear hI hRC hTx hx hX1 hX2 hb0
 go_enter Tryz.func60,Tryz.ntmps60
 go_wp2_with fail
 rw[←hX0]
 clear hX0
 have CF:=Zb (Yj 4 X0)
 go_wp2_with fail
 refine (Za CF).mono ?_
 rintro e wf ⟨rfl,hbf⟩
 have BUF:=Zb ((hbf.block _ (lt_of_block (Za BU))).trans (Za BU))
 have HBF:=Zb (Ze (Za HB) hbf)
 have uuc:=Zd (Za BUF) 0 _ rfl
 have uuf:=Zh (Za BUF) 0
 have uul:=lt_of_block (Za BUF)
 clear hbf CF
 go_wp2
 (try simp only[Exit.inBlock,Exit.then])
 refine bodyPost_ret (v:=.tuple #[.slice none 0 0,.agg #[.slice none 0 0],.int .i64 4]) ?_ rfl ?_
 ·rw[Zq rfl]
  go_simp
 ·exact (Xl (Za HE) (Za HBF)).plain
theorem Yf{P:Program}{ops:Array Oper}{o:Oper}{a:Act}{w:World}{K:Act→World→Prop}{Q:Exit→Act→World→Prop}{E:Prop}
  (hw:Region.wanted o (yielded ops a.tmps)=true) (f:FuncId) (vs:Array Value) (he:(execOp a.eval o).run P w = .ok (.enter f vs) w) {R:Ending→World→Prop} (hc:Calls P f vs w R) (h:∀ e w',R e w'→∃ v,e = .returned v∧K (a.put o.dst v) w') :
  if Region.wanted o (yielded ops a.tmps)=true then Oper.wp P o a w K Q else E:=by
 rw[if_pos hw]
 unfold Oper.wp
 rw[he,Oper.upon_enter]
 refine hc.mono ?_
 intro e w' hr
 obtain⟨v,rfl,hk⟩:=h e w' hr
 exact hk
theorem L9{P:Program}{ops:Array Oper}{o:Oper}{a:Act}{w:World}{K:Act→World→Prop}{Q:Exit→Act→World→Prop}{E:Prop}
  (hg:o.guard=none) (f:FuncId) (vs:Array Value) (he:(execOp a.eval o).run P w = .ok (.enter f vs) w) {R:Ending→World→Prop} (hc:Calls P f vs w R) (h:∀ e w',R e w'→∃ v,e = .returned v∧K (a.put o.dst v) w') :
  if Region.wanted o (yielded ops a.tmps)=true then Oper.wp P o a w K Q else E:=
 Yf (by simp[Region.wanted,hg]) f vs he hc h
open Go.RowKit Go.Lib
theorem Wi{base:Nat}(v:Value)(K:List CV)(X:World)(hn:K.length≤4096)(ho:X.ownsRow base 103 6 v K.length (Zj K)) :
  Calls Tryz.prog 88 #[v] X fun e w'=>∃ v',e = .returned v'∧w'.ownsRow X.heap.size 103 6 v' K.length (Zj K)∧Below X.heap.size X w':=by
 have ho':=ho
 rcases ho.2 with ⟨rfl,hk⟩|⟨g,cap,cur,rfl,hg,hh,r⟩
 ·have e:K=[]:=List.length_eq_zero_iff.1 hk
  subst e
  exact (Ux X).mono fun e w' ⟨x,y⟩=>⟨_,x,y ▸ ⟨rfl,.inl ⟨rfl,rfl⟩⟩,y ▸ Below.refl _ _⟩
 ·refine (Xy ⟨g,0,none⟩ K.length cap K X hn rfl (fun j u hj=>?_)).mono fun e w' ⟨v,x,y,z⟩=>⟨v,x,y,z⟩
  have hi:j<K.length*6:=by
   have:=(List.getElem?_eq_some_iff.1 hj).1
   rwa [Zy] at this
  rw[Addr.add_lit,Nat.zero_add,World.ownsRow.cellAt ho' j (by omega)]
  exact hj
theorem Zdi{w w2:World}{g:Nat}{d:Array CV}(h:Sort.HoldsK Vu 6 w g 0 d)(e:w2.heap[g]? = w.heap[g]?):Sort.HoldsK Vu 6 w2 g 0 d:=by
 intro j hj
 obtain⟨h1,h2⟩:=h j hj
 refine⟨?_,?_⟩
 ·simp only[World.cell?] at h1 ⊢
  rw[e]
  exact h1
 ·simp only[World.frozen?] at h2 ⊢
  rw[e]
  exact h2
def Zhz(w0:World)(B:Nat)(w':World)(p:Option Addr)(n:Nat)(L:List Zg):Prop:=∀ w2,Gr w' w2 (fun k=>w0.heap.size≤k∧k<B)→CoinsAt w2 p n L
theorem Ed(w0 w3:World)(bx B:Nat)(p:Option Addr)(n cap:Nat)(K:List CV)(hn:n≤4096)(hk:K.length=n)(ho:w3.ownsRow B 103 6 (.slice p n cap) n (Zj K))(hl:∀ x∈K,LkAt w0 x)(hb:Below w0.heap.size w0 w3)(hB:w0.heap.size≤B)
  (hc:w3.cell? ⟨bx,0,none⟩=some (.slice p n cap)) (hbx:bx<B) :
  Calls Tryz.prog 153 #[.iface 29 (.slice p n cap),.func (.func 154) #[] #[.pointer (some ⟨bx,0,none⟩)]] w3 fun e w'=>e = .returned (.tuple #[])∧∃ L',Zhz w0 B w' p n L'∧SlOk p n cap∧L'.Perm (K.map (·.1))∧Wk L'∧w'.cell? ⟨bx,0,none⟩=some (.slice p n cap)∧Gr w3 w' (fun k=>B≤k):=by
 subst hk
 have hl3:∀ x∈K,LkAt w3 x:=fun x hx=>(hl x hx).later hb
 obtain⟨a',c',e,hco,hso⟩:=Z3 ho hl3
 obtain⟨rfl,rfl⟩:p=a'∧cap=c':=by injection e with e1 e2 e3;exact⟨e1,e3⟩
 by_cases h2:K.length≤1
 ·refine (Fz w3 p K.length cap h2 _ _ _).mono ?_
  rintro e w' ⟨rfl,hb'⟩
  refine⟨rfl,K.map (·.1),fun w2 hg=>?_,hso,List.Perm.refl _,Zax _ (by rw[List.length_map];exact h2),Zc hb' hc,Gr.of hb'⟩
  have hb2:Below w0.heap.size w0 w2:=hg.below (Ze hb hb') (Ze hb hb').size (fun k e=>e.1)
  have ho':=hg.own ((Gr.of (S:=fun _=>False) hb').own ho (fun _ _ q=>q)) (fun k e q=>by have:=Yk ho k e;omega)
  obtain⟨a2,c2,e,hco2,_⟩:=Z3 ho' (fun x hx=>(hl x hx).later hb2)
  obtain⟨rfl,rfl⟩:p=a2∧cap=c2:=by injection e with e1 e2 e3;exact⟨e1,e3⟩
  exact hco2
 ·obtain⟨g,rfl,hg⟩:∃ g,p=some ⟨g,0,none⟩∧B≤g:=by
   rcases ho.2 with ⟨e,q⟩|⟨g,cap',cur,e,q,_⟩
   ·omega
   ·exact⟨g,by injection e,q⟩
  have hgl:g<w3.heap.size:=(ho.lt g rfl).2
  have hst:CSt w3 g 0 K.length w3 K.toArray:=⟨Mo ho,by simp,Gr.refl _ _⟩
  refine (Fy w3 g 0 K.length cap bx K.toArray hn (by omega) hst hgl hc (by omega)).mono ?_
  rintro e w' ⟨rfl,d',⟨hp,hs⟩,hS⟩
  have hbw:Below w0.heap.size w0 w':=hS.gr.below hb hb.size (fun k e=>by omega)
  have hpl:=Zfd hp (by simp)
  have hd:d'.size=K.length:=hS.len
  refine⟨rfl,d'.toList.map (·.1),fun w2 hg2=>?_,hso,(hpl.map (·.1)),wk_of hs hd,?_,hS.gr.mono (fun k _ e=>by omega)⟩
  ·have hb2:Below w0.heap.size w0 w2:=hg2.below hbw hbw.size (fun k e=>e.1)
   have hgw:g<w'.heap.size:=Nat.lt_of_lt_of_le hgl hS.gr.size
   rw[←hd]
   exact coins_of_holds (Zdi hS.holds (hg2.block g hgw (fun q=>by omega))) (Nat.lt_of_lt_of_le hgw hg2.size) (fun x hx=>(hl x (by simpa using (hpl.mem_iff.1 hx))).later hb2)
  ·have e:=hS.gr.block bx (World.block_lt_of_cell? _ _ hc) (by omega)
   simp only[World.cell?] at hc ⊢
   rw[e]
   exact hc
theorem Gk{base:Nat}(a:Option Addr)(n c:Nat)(K:List CV)(w0 w:World)(hn:n≤4096)(hk:K.length=n)(ho:w.ownsRow base 103 6 (.slice a n c) n (Zj K))(hl:∀ x∈K,LkAt w0 x)(hb:Below w0.heap.size w0 w) :
  Calls Tryz.prog 113 #[.slice a n c] w fun e w'=>∃ a' c' L',e = .returned (.slice a' n c')∧Zhz w0 w.heap.size w' a' n L'∧SlOk a' n c'∧L'.Perm (K.map (·.1))∧Wk L'∧Below w.heap.size w w':=by
 subst hk
 have hbX:=Zf w (.cells #[.slice a K.length c] 29)
 have hX:=heap_alloc_new w (.cells #[.slice a K.length c] 29)
 have C:=Zb (Wi (.slice a K.length c) K (w.alloc (.cells #[.slice a K.length c] 29)) hn ((Gr.of (S:=fun _=>False) hbX).own ho (fun _ _ q=>q)))
 obtain⟨n,hkn⟩:∃ n,K.length=n:=⟨_,rfl⟩
 rw[hkn] at C hX hbX hn ⊢
 have HBX:=Zb hbX
 have HX:=Zb hX
 have HK:=Zb hkn
 have HL:=Zb hl
 have HB:=Zb hb
 clear ho hbX hX hkn hl hb
 go_enter Tryz.func113,Tryz.ntmps113
 go_wp2_with fail
 refine (Za C).mono ?_
 rintro e w2 ⟨v,rfl,ho,hb2⟩
 obtain⟨p,cap,rfl,hpc⟩:∃ p cap,v = .slice p n cap∧True:=by
  rcases ho.2 with ⟨rfl,q⟩|⟨g,cap,cur,rfl,_⟩
  ·exact⟨none,0,by rw[q],trivial⟩
  ·exact⟨_,cap,rfl,trivial⟩
 have hx2:=(hb2.block _ (lt_of_block (Za HX))).trans (Za HX)
 have xl:=lt_of_block hx2
 have xf:=Zh hx2 0
 have xc:=Zd hx2 0 _ rfl
 obtain⟨w3,hw3⟩:∃ w3,w3=w2.setCell ⟨w.heap.size,0,none⟩ (.slice p n cap):=⟨_,rfl⟩
 have hc3:w3.cell? ⟨w.heap.size,0,none⟩=some (.slice p n cap):=by rw[hw3];exact World.cell?_setCell_same _ _ _ xc
 have hg3:Gr w2 w3 (fun k=>k=w.heap.size):=by rw[hw3];exact (Gr.refl w2 (fun k=>k=w.heap.size)).set (p:=⟨w.heap.size,0,none⟩) (.inl rfl) _
 have hs1:(w.alloc (.cells #[.slice a n c] 29)).heap.size=w.heap.size+1:=by simp
 have ho3:=hg3.own ho (fun k hk=>by have:=Yk ho k hk;omega)
 have hbw3:Below w.heap.size w w3:=hg3.below (Ze (Za HBX) hb2) (Ze (Za HBX) hb2).size (fun k e=>by omega)
 have hb3:Below w0.heap.size w0 w3:=Ze (Za HB) hbw3
 have CS:=Zb (Ed w0 w3 w.heap.size (w.heap.size+1) p n cap K hn (Za HK) (by rw[←hs1];exact ho3) (Za HL) hb3 (Nat.le_succ_of_le (Za HB).size) hc3 (by omega))
 have HBW3:=Zb hbw3
 have l3:w.heap.size<w3.heap.size:=World.block_lt_of_cell? _ _ hc3
 clear ho hb2 hx2 hg3 ho3 hb3 hbw3
 go_wp2_with fail
 rw[←hw3]
 go_wp2_with fail
 refine (Za CS).mono ?_
 rintro e w4 ⟨rfl,L',hco,hso,hpm,hwk,hc4,hg4⟩
 have R1:Hid (Zhz w0 w.heap.size w4 p n L'):=fun w5 h5=>hco w5 (h5.mono (fun k _ q=>⟨q.1,by omega⟩))
 have R2:=Zb hpm
 have R3:=Zb hwk
 have R4:Hid (Below w.heap.size w w4):=hg4.below (Za HBW3) (Za HBW3).size (fun k q=>by omega)
 clear hco hpm hwk hg4
 go_wp2
 go_ret
 exact⟨p,cap,L',rfl,Za R1,hso,Za R2,Za R3,Za R4⟩
end Go.Proofs.YtpikejjiignchaaGreatDoor
