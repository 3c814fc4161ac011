import Derived.Test.YtpikejjiignchaaGreatDoorG15
set_option maxHeartbeats 6400000
namespace Go.Proofs.YtpikejjiignchaaGreatDoor
open Go.RowKit
abbrev Z4:=Int×Int×Int×Int×List TxD
def TxAt(w:World)(b o:Nat)(t:TxD):Prop:=
 w.cell? ⟨b,o,none⟩=some (.int .i64 t.1)∧(∃ a n c,w.cell? ⟨b,o+1,none⟩=some (.slice a n c)∧InsAt w a n t.2.1∧SlOk a n c)∧(∃ a n c,w.cell? ⟨b,o+2,none⟩=some (.slice a n c)∧OutsAt w a n t.2.2∧SlOk a n c)
theorem TxAt.kept:L4 TxAt:=fun _ _ _ _ _ hb h=>by
 obtain⟨h1,⟨a,n,c,h2,h3,h4⟩,a',n',c',h5,h6,h7⟩:=h
 exact⟨Zc hb h1,⟨a,n,c,Zc hb h2,h3.later hb,h4⟩,a',n',c',Zc hb h5,h6.later hb,h7⟩
def TxsAt(w:World)(a:Option Addr)(len:Nat)(l:List TxD):Prop:=RowsAt TxAt 3 w a len l
theorem TxsAt.later{w w':World}{a:Option Addr}{len:Nat}{l:List TxD}(h:TxsAt w a len l)(hb:Below w.heap.size w w'):TxsAt w' a len l:=RowsAt.later TxAt.kept h hb
def Uw(p h k n:Int):Bool:=(decide (0≤p) && decide (p≤120)) && ((decide (1≤h) && decide (h≤1000)) && ((decide (1≤k) && decide (k≤1000)) && (decide (0≤n) && decide (n≤1000000000))))
def Vy(t:TxD)(i h:Int):Bool:=if 0<i then !decide (t.2.1.length=0) else decide (t.2.1.length=0) && decide (t.1=h)
def Yu(h:Int):Nat→List TxD→Int
 | _,[]=>0
 | i,t :: r=>if Zo t≠0 then Zo t else if Vy t i h=false then 4 else Yu h (i+1) r
def V5(b:Z4):Int:=if Uw b.1 b.2.1 b.2.2.1 b.2.2.2.1=false then 3 else if 4<b.2.2.2.2.length then 2 else if b.2.2.2.2.length=0 then 4 else Yu b.2.1 0 b.2.2.2.2
theorem Fl(h:Int)(T:List TxD)(k:Nat)(hk:k<T.length):Yu h k (T.drop k)=if Zo T[k]≠0 then Zo T[k] else if Vy T[k] k h=false then 4 else Yu h (k+1) (T.drop (k+1)):=by
 rw[List.drop_eq_getElem_cons hk];rfl
theorem Lr(h:Int)(T:List TxD)(k:Nat)(hk:T.length≤k):Yu h k (T.drop k)=0:=by
 rw[List.drop_of_length_le hk];rfl
theorem Xq(w:World)(a b c d e:Value)(t:TypeId):(w.alloc (.cells #[a,b,c,d,e] t)).heap[w.heap.size]? = some (.cells [a,b,c,d,e].toArray t (0,0)):=heap_alloc_new w _
theorem Yn{fn:Func}{p:Tmp}{ty:TypeId}(h:fn.results=#[.cell p ty])(tmps:Array Value)(P:Program)(w:World) :
  (results fn tmps).run P w=((asAddr (tmps.getD p undef)).run P w).andThen fun a w₁=>(loadVar ty a).run P w₁:=by
 simp only[results,h]
 simp[Sem.run_bind,Result.andThen]
set_option maxRecDepth 10000 in
theorem Zad(p h k n:Int)(a:Option Addr)(m c:Nat)(w:World) :
  Calls Tryz.prog 125 #[.agg #[.int .i64 p,.int .i64 h,.int .i64 k,.int .i64 n,.slice a m c]] w fun e w'=>e = .returned (.agg #[.int .i64 p,.int .i64 h,.int .i64 k,.int .i64 n])∧Below w.heap.size w w':=by
 have HB:=Zb (Ze (Zf w (.cells #[.int .i64 p,.int .i64 h,.int .i64 k,.int .i64 n,.slice a m c] 68)) (Zf _ (.cells #[.int .i64 p,.int .i64 h,.int .i64 k,.int .i64 n] 201)))
 go_enter Tryz.func125,Tryz.ntmps125
 go_wp2
 (try simp only[Exit.inBlock,Exit.then])
 refine bodyPost_ret (v:=.agg #[.int .i64 p,.int .i64 h,.int .i64 k,.int .i64 n]) ?_ rfl ⟨rfl,?_⟩
 ·rw[Yn rfl]
  go_simp
 ·exact Za HB
theorem Ec(h:Int)(ai ao:Option Addr)(ni ci no co:Nat)(I:List InD)(O:List Zw)(i:Nat)(ht:Int)(o:Bool)(w:World)(hI:I.length=ni)(ho:Vy (h,I,O) i ht=o) :
  Calls Tryz.prog 117 #[.agg #[.int .i64 h,.slice ai ni ci,.slice ao no co],.int .i64 i,.int .i64 ht] w fun e w'=>e = .returned (.bool o)∧Below w.heap.size w w':=by
 have HB:=Zb (Zf w (.cells #[.int .i64 h,.slice ai ni ci,.slice ao no co] 52))
 unfold Vy at ho
 simp only at ho
 rw[hI] at ho
 clear hI
 by_cases h1:i=0
 ·subst h1
  rw[if_neg (by decide)] at ho
  by_cases h2:ni=0
  ·subst h2
   by_cases h3:h=ht
   ·subst h3
    obtain rfl:true=o:=by rw[←ho];simp
    clear ho
    go_enter Tryz.func117,Tryz.ntmps117
    go_wp2
    go_ret
    exact⟨rfl,Za HB⟩
   ·obtain rfl:false=o:=by rw[←ho];simp[h3]
    have g:(h == ht)=false:=by simp[h3]
    clear ho h3
    go_enter Tryz.func117,Tryz.ntmps117
    go_wp2
    go_ret
    exact⟨by rw[←g];rfl,Za HB⟩
  ·obtain rfl:false=o:=by rw[←ho];simp[h2]
   have g:((ni:Int) == 0)=false:=by simp[h2]
   clear ho
   go_enter Tryz.func117,Tryz.ntmps117
   go_wp2
   go_ret
   exact⟨rfl,Za HB⟩
 ·have hi:0<(i:Int):=by omega
  rw[if_pos hi] at ho
  by_cases h2:ni=0
  ·subst h2
   obtain rfl:false=o:=by rw[←ho];simp
   clear ho
   go_enter Tryz.func117,Tryz.ntmps117
   go_wp2
   go_ret
   exact⟨rfl,Za HB⟩
  ·obtain rfl:true=o:=by rw[←ho];simp[h2]
   have g:((ni:Int) == 0)=false:=by simp[h2]
   clear ho
   go_enter Tryz.func117,Tryz.ntmps117
   go_wp2
   go_ret
   exact⟨rfl,Za HB⟩
theorem Qm(a b c d:Value)(w:World) :
  (Instr.index 201 (.agg #[a,b,c,d]) (.int .i64 0)).run Tryz.prog w = .ok a w∧(Instr.index 201 (.agg #[a,b,c,d]) (.int .i64 1)).run Tryz.prog w = .ok b w ∧
  (Instr.index 201 (.agg #[a,b,c,d]) (.int .i64 2)).run Tryz.prog w = .ok c w∧(Instr.index 201 (.agg #[a,b,c,d]) (.int .i64 3)).run Tryz.prog w = .ok d w:=by
 refine⟨?_,?_,?_,?_⟩ <;> kernel_rfl
theorem Yz(n lo hi:Int)(b:Bool)(w:World)(hb:(decide (lo≤n) && decide (n≤hi))=b) :
  Calls Tryz.prog 114 #[.int .i64 n,.int .i64 lo,.int .i64 hi] w fun e w'=>e = .returned (.bool b)∧Below w.heap.size w w':=
 (Yq n lo hi b w hb.symm).mono fun _ _ ⟨h1,h2⟩=>⟨h1,h2 ▸ Below.refl _ _⟩
theorem Ln(w:World)(a b c d:Value)(t:TypeId):(w.alloc (.cells #[a,b,c,d] t)).heap[w.heap.size]? = some (.cells [a,b,c,d].toArray t (0,0)):=heap_alloc_new w _
set_option maxRecDepth 100000 in
theorem Pe(p h k n:Int)(a:Option Addr)(m c:Nat)(o:Bool)(w:World)(ho:Uw p h k n=o) :
  Calls Tryz.prog 115 #[.agg #[.int .i64 p,.int .i64 h,.int .i64 k,.int .i64 n,.slice a m c]] w fun e w'=>e = .returned (.bool o)∧Below w.heap.size w w':=by
 obtain⟨X,hX⟩:∃ X,X=((w.alloc (.cells #[.int .i64 p,.int .i64 h,.int .i64 k,.int .i64 n,.slice a m c] 68)).alloc (.cells #[.int .i64 0,.int .i64 1,.int .i64 1,.int .i64 0] 201)).alloc (.cells #[.int .i64 120,.int .i64 1000,.int .i64 1000,.int .i64 1000000000] 201):=⟨_,rfl⟩
 have hbX:Below w.heap.size w X:=by rw[hX];exact Ze (Ze (Zf _ _) (Zf _ _)) (Zf _ _)
 have hL:X.heap[w.heap.size+1]? = some (.cells [.int .i64 0,.int .i64 1,.int .i64 1,.int .i64 0].toArray 201 (0,0)):=by
  rw[hX,Below.heap_alloc _ _ _ (by simp)]
  have:=Ln (w.alloc (.cells #[.int .i64 p,.int .i64 h,.int .i64 k,.int .i64 n,.slice a m c] 68)) (.int .i64 0) (.int .i64 1) (.int .i64 1) (.int .i64 0) 201
  rw[show (w.alloc (.cells #[.int .i64 p,.int .i64 h,.int .i64 k,.int .i64 n,.slice a m c] 68)).heap.size=w.heap.size+1 by simp] at this
  exact this
 have hH:X.heap[w.heap.size+2]? = some (.cells [.int .i64 120,.int .i64 1000,.int .i64 1000,.int .i64 1000000000].toArray 201 (0,0)):=by
  rw[hX]
  have:=Ln ((w.alloc (.cells #[.int .i64 p,.int .i64 h,.int .i64 k,.int .i64 n,.slice a m c] 68)).alloc (.cells #[.int .i64 0,.int .i64 1,.int .i64 1,.int .i64 0] 201)) (.int .i64 120) (.int .i64 1000) (.int .i64 1000) (.int .i64 1000000000) 201
  rw[show ((w.alloc (.cells #[.int .i64 p,.int .i64 h,.int .i64 k,.int .i64 n,.slice a m c] 68)).alloc (.cells #[.int .i64 0,.int .i64 1,.int .i64 1,.int .i64 0] 201)).heap.size=w.heap.size+2 by simp] at this
  exact this
 have C:=Zb (Zad p h k n a m c X)
 have HBX:=Zb hbX
 have HL:=Zb hL
 have HH:=Zb hH
 have hi0:=fun w=>(Qm (.int .i64 p) (.int .i64 h) (.int .i64 k) (.int .i64 n) w).1
 have hi1:=fun w=>(Qm (.int .i64 p) (.int .i64 h) (.int .i64 k) (.int .i64 n) w).2.1
 have hi2:=fun w=>(Qm (.int .i64 p) (.int .i64 h) (.int .i64 k) (.int .i64 n) w).2.2.1
 have hi3:=fun w=>(Qm (.int .i64 p) (.int .i64 h) (.int .i64 k) (.int .i64 n) w).2.2.2
 unfold Uw at ho
 clear hbX hL hH
 go_enter Tryz.func115,Tryz.ntmps115
 go_wp2_with fail
 rw[←hX]
 clear hX
 go_wp2_with fail
 refine (Za C).mono ?_
 rintro e w1 ⟨rfl,hb1⟩
 have HB1:=Zb (Ze (Za HBX) hb1)
 have hl1:=(hb1.block _ (lt_of_block (Za HL))).trans (Za HL)
 have hh1:=(hb1.block _ (lt_of_block (Za HH))).trans (Za HH)
 have lo0:=Zd hl1 0 _ rfl
 have up0:=Zd hh1 0 _ rfl
 have lo1:=Zd hl1 1 _ rfl
 have up1:=Zd hh1 1 _ rfl
 have lo2:=Zd hl1 2 _ rfl
 have up2:=Zd hh1 2 _ rfl
 have lo3:=Zd hl1 3 _ rfl
 have up3:=Zd hh1 3 _ rfl
 have ll0:=lt_of_block hl1
 have lh0:=lt_of_block hh1
 clear hb1 hl1 hh1 C HL HH HBX
 go_wp2
 have bq0:Below w1.heap.size w1 w1:=Below.refl _ _
 refine wp_loop_rounds 5 ?_
 cases q0:(decide ((0:Int)≤p) && decide (p≤120)) with
 | false=>
  rw[q0] at ho
  have CC:=Zb (fun W=>Yz p 0 120 false W q0)
  clear q0
  obtain rfl:false=o:=by rw[←ho];rfl
  clear ho
  rw[rounds_succ]
  go_wp2_with fail
  go_region_held3 (fun W'=>Below w1.heap.size w1 W'∧W'.cell? ⟨w.heap.size+1,0,none⟩=some (.int .i64 0)∧W'.cell? ⟨w.heap.size+2,0,none⟩=some (.int .i64 120)∧W'.cell? ⟨w.heap.size+1,1,none⟩=some (.int .i64 1)∧W'.cell? ⟨w.heap.size+2,1,none⟩=some (.int .i64 1000)∧W'.cell? ⟨w.heap.size+1,2,none⟩=some (.int .i64 1)∧W'.cell? ⟨w.heap.size+2,2,none⟩=some (.int .i64 1000)∧W'.cell? ⟨w.heap.size+1,3,none⟩=some (.int .i64 0)∧W'.cell? ⟨w.heap.size+2,3,none⟩=some (.int .i64 1000000000))
   (first
   | exact⟨Ze bq0 (Zi _),lo0,up0,lo1,up1,lo2,up2,lo3,up3⟩
   | (go_split_ands;refine⟨Ze (by assumption) hbc,Zc hbc (by assumption),Zc hbc (by assumption),Zc hbc (by assumption),Zc hbc (by assumption),Zc hbc (by assumption),Zc hbc (by assumption),Zc hbc (by assumption),Zc hbc (by assumption)⟩))
   (first|(go_at_call 114;refine ((Za CC) _).mono ?_;rintro e w' ⟨rfl,hbc⟩))
  rename_i hq
  have HBF:=Zb (Ze (Za HB1) hq.1)
  clear hq
  go_wp2
  go_ret
  exact⟨rfl,Za HBF⟩
 | true=>
  rw[q0] at ho
  have CC:=Zb (fun W=>Yz p 0 120 true W q0)
  clear q0
  rw[rounds_succ]
  go_wp2_with fail
  go_region_held3 (fun W'=>Below w1.heap.size w1 W'∧W'.cell? ⟨w.heap.size+1,0,none⟩=some (.int .i64 0)∧W'.cell? ⟨w.heap.size+2,0,none⟩=some (.int .i64 120)∧W'.cell? ⟨w.heap.size+1,1,none⟩=some (.int .i64 1)∧W'.cell? ⟨w.heap.size+2,1,none⟩=some (.int .i64 1000)∧W'.cell? ⟨w.heap.size+1,2,none⟩=some (.int .i64 1)∧W'.cell? ⟨w.heap.size+2,2,none⟩=some (.int .i64 1000)∧W'.cell? ⟨w.heap.size+1,3,none⟩=some (.int .i64 0)∧W'.cell? ⟨w.heap.size+2,3,none⟩=some (.int .i64 1000000000))
   (first
   | exact⟨Ze bq0 (Zi _),lo0,up0,lo1,up1,lo2,up2,lo3,up3⟩
   | (go_split_ands;refine⟨Ze (by assumption) hbc,Zc hbc (by assumption),Zc hbc (by assumption),Zc hbc (by assumption),Zc hbc (by assumption),Zc hbc (by assumption),Zc hbc (by assumption),Zc hbc (by assumption),Zc hbc (by assumption)⟩))
   (first|(go_at_call 114;refine ((Za CC) _).mono ?_;rintro e w' ⟨rfl,hbc⟩))
  rename_i hq
  have ll:=Nat.lt_of_lt_of_le ll0 hq.1.size
  have lh:=Nat.lt_of_lt_of_le lh0 hq.1.size
  obtain⟨bq1,lo0,up0,lo1,up1,lo2,up2,lo3,up3⟩:=hq
  rw[Bool.true_and] at ho
  go_wp2
  cases q1:(decide ((1:Int)≤h) && decide (h≤1000)) with
  | false=>
   rw[q1] at ho
   have CC:=Zb (fun W=>Yz h 1 1000 false W q1)
   clear q1
   obtain rfl:false=o:=by rw[←ho];rfl
   clear ho
   rw[rounds_succ]
   go_wp2_with fail
   go_region_held3 (fun W'=>Below w1.heap.size w1 W'∧W'.cell? ⟨w.heap.size+1,0,none⟩=some (.int .i64 0)∧W'.cell? ⟨w.heap.size+2,0,none⟩=some (.int .i64 120)∧W'.cell? ⟨w.heap.size+1,1,none⟩=some (.int .i64 1)∧W'.cell? ⟨w.heap.size+2,1,none⟩=some (.int .i64 1000)∧W'.cell? ⟨w.heap.size+1,2,none⟩=some (.int .i64 1)∧W'.cell? ⟨w.heap.size+2,2,none⟩=some (.int .i64 1000)∧W'.cell? ⟨w.heap.size+1,3,none⟩=some (.int .i64 0)∧W'.cell? ⟨w.heap.size+2,3,none⟩=some (.int .i64 1000000000))
    (first
    | exact⟨Ze bq1 (Zi _),lo0,up0,lo1,up1,lo2,up2,lo3,up3⟩
    | (go_split_ands;refine⟨Ze (by assumption) hbc,Zc hbc (by assumption),Zc hbc (by assumption),Zc hbc (by assumption),Zc hbc (by assumption),Zc hbc (by assumption),Zc hbc (by assumption),Zc hbc (by assumption),Zc hbc (by assumption)⟩))
    (first|(go_at_call 114;refine ((Za CC) _).mono ?_;rintro e w' ⟨rfl,hbc⟩))
   rename_i hq
   have HBF:=Zb (Ze (Za HB1) hq.1)
   clear hq
   go_wp2
   go_ret
   exact⟨rfl,Za HBF⟩
  | true=>
   rw[q1] at ho
   have CC:=Zb (fun W=>Yz h 1 1000 true W q1)
   clear q1
   rw[rounds_succ]
   go_wp2_with fail
   go_region_held3 (fun W'=>Below w1.heap.size w1 W'∧W'.cell? ⟨w.heap.size+1,0,none⟩=some (.int .i64 0)∧W'.cell? ⟨w.heap.size+2,0,none⟩=some (.int .i64 120)∧W'.cell? ⟨w.heap.size+1,1,none⟩=some (.int .i64 1)∧W'.cell? ⟨w.heap.size+2,1,none⟩=some (.int .i64 1000)∧W'.cell? ⟨w.heap.size+1,2,none⟩=some (.int .i64 1)∧W'.cell? ⟨w.heap.size+2,2,none⟩=some (.int .i64 1000)∧W'.cell? ⟨w.heap.size+1,3,none⟩=some (.int .i64 0)∧W'.cell? ⟨w.heap.size+2,3,none⟩=some (.int .i64 1000000000))
    (first
    | exact⟨Ze bq1 (Zi _),lo0,up0,lo1,up1,lo2,up2,lo3,up3⟩
    | (go_split_ands;refine⟨Ze (by assumption) hbc,Zc hbc (by assumption),Zc hbc (by assumption),Zc hbc (by assumption),Zc hbc (by assumption),Zc hbc (by assumption),Zc hbc (by assumption),Zc hbc (by assumption),Zc hbc (by assumption)⟩))
    (first|(go_at_call 114;refine ((Za CC) _).mono ?_;rintro e w' ⟨rfl,hbc⟩))
   rename_i hq
   have ll:=Nat.lt_of_lt_of_le ll0 hq.1.size
   have lh:=Nat.lt_of_lt_of_le lh0 hq.1.size
   obtain⟨bq2,lo0,up0,lo1,up1,lo2,up2,lo3,up3⟩:=hq
   rw[Bool.true_and] at ho
   go_wp2
   cases q2:(decide ((1:Int)≤k) && decide (k≤1000)) with
   | false=>
    rw[q2] at ho
    have CC:=Zb (fun W=>Yz k 1 1000 false W q2)
    clear q2
    obtain rfl:false=o:=by rw[←ho];rfl
    clear ho
    rw[rounds_succ]
    go_wp2_with fail
    go_region_held3 (fun W'=>Below w1.heap.size w1 W'∧W'.cell? ⟨w.heap.size+1,0,none⟩=some (.int .i64 0)∧W'.cell? ⟨w.heap.size+2,0,none⟩=some (.int .i64 120)∧W'.cell? ⟨w.heap.size+1,1,none⟩=some (.int .i64 1)∧W'.cell? ⟨w.heap.size+2,1,none⟩=some (.int .i64 1000)∧W'.cell? ⟨w.heap.size+1,2,none⟩=some (.int .i64 1)∧W'.cell? ⟨w.heap.size+2,2,none⟩=some (.int .i64 1000)∧W'.cell? ⟨w.heap.size+1,3,none⟩=some (.int .i64 0)∧W'.cell? ⟨w.heap.size+2,3,none⟩=some (.int .i64 1000000000))
     (first
     | exact⟨Ze bq2 (Zi _),lo0,up0,lo1,up1,lo2,up2,lo3,up3⟩
     | (go_split_ands;refine⟨Ze (by assumption) hbc,Zc hbc (by assumption),Zc hbc (by assumption),Zc hbc (by assumption),Zc hbc (by assumption),Zc hbc (by assumption),Zc hbc (by assumption),Zc hbc (by assumption),Zc hbc (by assumption)⟩))
     (first|(go_at_call 114;refine ((Za CC) _).mono ?_;rintro e w' ⟨rfl,hbc⟩))
    rename_i hq
    have HBF:=Zb (Ze (Za HB1) hq.1)
    clear hq
    go_wp2
    go_ret
    exact⟨rfl,Za HBF⟩
   | true=>
    rw[q2] at ho
    have CC:=Zb (fun W=>Yz k 1 1000 true W q2)
    clear q2
    rw[rounds_succ]
    go_wp2_with fail
    go_region_held3 (fun W'=>Below w1.heap.size w1 W'∧W'.cell? ⟨w.heap.size+1,0,none⟩=some (.int .i64 0)∧W'.cell? ⟨w.heap.size+2,0,none⟩=some (.int .i64 120)∧W'.cell? ⟨w.heap.size+1,1,none⟩=some (.int .i64 1)∧W'.cell? ⟨w.heap.size+2,1,none⟩=some (.int .i64 1000)∧W'.cell? ⟨w.heap.size+1,2,none⟩=some (.int .i64 1)∧W'.cell? ⟨w.heap.size+2,2,none⟩=some (.int .i64 1000)∧W'.cell? ⟨w.heap.size+1,3,none⟩=some (.int .i64 0)∧W'.cell? ⟨w.heap.size+2,3,none⟩=some (.int .i64 1000000000))
     (first
     | exact⟨Ze bq2 (Zi _),lo0,up0,lo1,up1,lo2,up2,lo3,up3⟩
     | (go_split_ands;refine⟨Ze (by assumption) hbc,Zc hbc (by assumption),Zc hbc (by assumption),Zc hbc (by assumption),Zc hbc (by assumption),Zc hbc (by assumption),Zc hbc (by assumption),Zc hbc (by assumption),Zc hbc (by assumption)⟩))
     (first|(go_at_call 114;refine ((Za CC) _).mono ?_;rintro e w' ⟨rfl,hbc⟩))
    rename_i hq
    have ll:=Nat.lt_of_lt_of_le ll0 hq.1.size
    have lh:=Nat.lt_of_lt_of_le lh0 hq.1.size
    obtain⟨bq3,lo0,up0,lo1,up1,lo2,up2,lo3,up3⟩:=hq
    rw[Bool.true_and] at ho
    go_wp2
    cases q3:(decide ((0:Int)≤n) && decide (n≤1000000000)) with
    | false=>
     rw[q3] at ho
     have CC:=Zb (fun W=>Yz n 0 1000000000 false W q3)
     clear q3
     obtain rfl:false=o:=by rw[←ho]
     clear ho
     rw[rounds_succ]
     go_wp2_with fail
     go_region_held3 (fun W'=>Below w1.heap.size w1 W'∧W'.cell? ⟨w.heap.size+1,0,none⟩=some (.int .i64 0)∧W'.cell? ⟨w.heap.size+2,0,none⟩=some (.int .i64 120)∧W'.cell? ⟨w.heap.size+1,1,none⟩=some (.int .i64 1)∧W'.cell? ⟨w.heap.size+2,1,none⟩=some (.int .i64 1000)∧W'.cell? ⟨w.heap.size+1,2,none⟩=some (.int .i64 1)∧W'.cell? ⟨w.heap.size+2,2,none⟩=some (.int .i64 1000)∧W'.cell? ⟨w.heap.size+1,3,none⟩=some (.int .i64 0)∧W'.cell? ⟨w.heap.size+2,3,none⟩=some (.int .i64 1000000000))
      (first
      | exact⟨Ze bq3 (Zi _),lo0,up0,lo1,up1,lo2,up2,lo3,up3⟩
      | (go_split_ands;refine⟨Ze (by assumption) hbc,Zc hbc (by assumption),Zc hbc (by assumption),Zc hbc (by assumption),Zc hbc (by assumption),Zc hbc (by assumption),Zc hbc (by assumption),Zc hbc (by assumption),Zc hbc (by assumption)⟩))
      (first|(go_at_call 114;refine ((Za CC) _).mono ?_;rintro e w' ⟨rfl,hbc⟩))
     rename_i hq
     have HBF:=Zb (Ze (Za HB1) hq.1)
     clear hq
     go_wp2
     go_ret
     exact⟨rfl,Za HBF⟩
    | true=>
     rw[q3] at ho
     have CC:=Zb (fun W=>Yz n 0 1000000000 true W q3)
     clear q3
     obtain rfl:true=o:=by rw[←ho]
     clear ho
     rw[rounds_succ]
     go_wp2_with fail
     go_region_held3 (fun W'=>Below w1.heap.size w1 W'∧W'.cell? ⟨w.heap.size+1,0,none⟩=some (.int .i64 0)∧W'.cell? ⟨w.heap.size+2,0,none⟩=some (.int .i64 120)∧W'.cell? ⟨w.heap.size+1,1,none⟩=some (.int .i64 1)∧W'.cell? ⟨w.heap.size+2,1,none⟩=some (.int .i64 1000)∧W'.cell? ⟨w.heap.size+1,2,none⟩=some (.int .i64 1)∧W'.cell? ⟨w.heap.size+2,2,none⟩=some (.int .i64 1000)∧W'.cell? ⟨w.heap.size+1,3,none⟩=some (.int .i64 0)∧W'.cell? ⟨w.heap.size+2,3,none⟩=some (.int .i64 1000000000))
      (first
      | exact⟨Ze bq3 (Zi _),lo0,up0,lo1,up1,lo2,up2,lo3,up3⟩
      | (go_split_ands;refine⟨Ze (by assumption) hbc,Zc hbc (by assumption),Zc hbc (by assumption),Zc hbc (by assumption),Zc hbc (by assumption),Zc hbc (by assumption),Zc hbc (by assumption),Zc hbc (by assumption),Zc hbc (by assumption)⟩))
      (first|(go_at_call 114;refine ((Za CC) _).mono ?_;rintro e w' ⟨rfl,hbc⟩))
     rename_i hq
     have ll:=Nat.lt_of_lt_of_le ll0 hq.1.size
     have lh:=Nat.lt_of_lt_of_le lh0 hq.1.size
     obtain⟨bq4,lo0,up0,lo1,up1,lo2,up2,lo3,up3⟩:=hq
     go_wp2
     rw[rounds_succ]
     go_wp2
     go_ret
     exact⟨rfl,Ze (Za HB1) bq4⟩
set_option maxRecDepth 10000 in
theorem Tv(p h k n:Int)(a:Option Addr)(m c:Nat)(T:List TxD)(x:Int)(w:World)(hT:TxsAt w a m T)(hx:V5 (p,h,k,n,T)=x) :
  Calls Tryz.prog 68 #[.agg #[.int .i64 p,.int .i64 h,.int .i64 k,.int .i64 n,.slice a m c]] w fun e w'=>e = .returned (.int .i64 x)∧Below w.heap.size w w':=by
 subst hx
 obtain⟨X,hX⟩:∃ X,X=w.alloc (.cells #[.int .i64 p,.int .i64 h,.int .i64 k,.int .i64 n,.slice a m c] 68):=⟨_,rfl⟩
 have hbX:Below w.heap.size w X:=by rw[hX];exact Zf _ _
 have hX1:X.heap[w.heap.size]? = some (.cells [.int .i64 p,.int .i64 h,.int .i64 k,.int .i64 n,.slice a m c].toArray 68 (0,0)):=by rw[hX];exact Xq _ _ _ _ _ _ _
 have HX1:=Zb hX1
 have HBX:=Zb hbX
 have HT:=Zb (hT.later hbX)
 have hz:T.length=m:=hT.1
 unfold V5
 simp only
 rw[hz]
 clear hbX hX1 hT
 cases q:Uw p h k n with
 | false=>
  have C:=Zb (Pe p h k n a m c false X q)
  rw[if_pos rfl]
  clear q hz
  go_enter Tryz.func68,Tryz.ntmps68
  go_wp2_with fail
  rw[←hX]
  clear hX
  refine (Za C).mono ?_
  rintro e w1 ⟨rfl,hb1⟩
  have HB1:=Zb (Ze (Za HBX) hb1)
  clear hb1
  go_wp2
  go_ret
  exact⟨rfl,Za HB1⟩
 | true=>
  have C:=Zb (Pe p h k n a m c true X q)
  rw[if_neg (by decide)]
  clear q
  by_cases h4:4<m
  ·rw[if_pos h4]
   clear hz
   go_enter Tryz.func68,Tryz.ntmps68
   go_wp2_with fail
   rw[←hX]
   clear hX
   refine (Za C).mono ?_
   rintro e w1 ⟨rfl,hb1⟩
   have hx1:=(hb1.block _ (lt_of_block (Za HX1))).trans (Za HX1)
   have c4:=Zd hx1 4 _ rfl
   have l1:=lt_of_block hx1
   have HB1:=Zb (Ze (Za HBX) hb1)
   clear hb1 hx1
   go_wp2
   go_ret
   exact⟨rfl,Za HB1⟩
  ·rw[if_neg h4]
   by_cases h0:m=0
   ·subst h0
    rw[if_pos rfl]
    clear hz h4
    go_enter Tryz.func68,Tryz.ntmps68
    go_wp2_with fail
    rw[←hX]
    clear hX
    refine (Za C).mono ?_
    rintro e w1 ⟨rfl,hb1⟩
    have hx1:=(hb1.block _ (lt_of_block (Za HX1))).trans (Za HX1)
    have c4:=Zd hx1 4 _ rfl
    have l1:=lt_of_block hx1
    have HB1:=Zb (Ze (Za HBX) hb1)
    clear hb1 hx1
    go_wp2
    go_ret
    exact⟨rfl,Za HB1⟩
   ·rw[if_neg h0]
    have g0:((m:Int) == 0)=false:=by simp[h0]
    have HZ:=Zb hz
    obtain⟨b,off,rfl,hbl,hcell⟩:=(Za HT).2 (by omega)
    have HC:=Zb hcell
    clear hz hcell
    go_enter Tryz.func68,Tryz.ntmps68
    go_wp2_with fail
    rw[←hX]
    clear hX
    refine (Za C).mono ?_
    rintro e w1 ⟨rfl,hb1⟩
    have hx1:=(hb1.block _ (lt_of_block (Za HX1))).trans (Za HX1)
    have c4:=Zd hx1 4 _ rfl
    have l1:=lt_of_block hx1
    have HX2:=Zb hb1
    clear hb1 hx1
    go_wp2
    go_loopw [20] (fun i wr=>∃ k:Nat,k≤m∧i = .int .i64 k∧Hid (Yu h 0 T=Yu h k (T.drop k))∧Hid (Below X.heap.size X wr)) (fun i _=>m - (intOf i).toNat)
    case atStart=>exact⟨0,Nat.zero_le _,rfl,rfl,HX2⟩
    case round=>
     obtain⟨j,hj,rfl,A,HBr⟩:=hrel
     clear c4 l1 HX2
     by_cases hlt:j<m
     ·have hlk:j<T.length:=by rw[Za HZ];exact hlt
      have hin:=TxAt.kept _ _ _ _ _ (Za HBr) ((Za HC) j hlk)
      have ST:=Zb (Fl h T j hlk)
      obtain⟨t,ht⟩:∃ t,T[j]=t:=⟨_,rfl⟩
      rw[ht] at hin ST
      obtain⟨t1,I,O⟩:=t
      obtain⟨g0',⟨ai,ni,ci,g1,hI,sI⟩,ao,no,co,g2,hO,_⟩:=hin
      have A2:Hid (Yu h 0 T=if Zo (t1,I,O)≠0 then Zo (t1,I,O) else if Vy (t1,I,O) j h=false then 4 else Yu h (j+1) (T.drop (j+1))):=by show _=_;rw[Za A,Za ST]
      simp only at g0' g1 g2 hI hO
      obtain⟨Y,hY⟩:∃ Y,Y=wr.alloc (.cells #[.int .i64 t1,.slice ai ni ci,.slice ao no co] 52):=⟨_,rfl⟩
      have hbY:Below wr.heap.size wr Y:=by rw[hY];exact Zf _ _
      have hY1:Y.heap[wr.heap.size]? = some (.cells [.int .i64 t1,.slice ai ni ci,.slice ao no co].toArray 52 (0,0)):=by rw[hY];exact Zl _ _ _ _ _
      have HY1:=Zb hY1
      have HBY:=Zb (Ze (Za HBr) hbY)
      have hhY:=((Za HBY).block _ (lt_of_block (Za HX1))).trans (Za HX1)
      have y0:=Zd hY1 0 _ rfl
      have y1:=Zd hY1 1 _ rfl
      have y2:=Zd hY1 2 _ rfl
      have yl:=lt_of_block hY1
      obtain⟨x,hx⟩:∃ x,Zo (t1,I,O)=x:=⟨_,rfl⟩
      obtain⟨o,ho⟩:∃ o,Vy (t1,I,O) j h=o:=⟨_,rfl⟩
      have CT:=Zb (Un t1 ai ao ni ci no co I O Y (hI.later hbY) (hO.later hbY) sI)
      have CS:=Zb (fun W=>Ec t1 ai ao ni ci no co I O j h o W hI.1 ho)
      rw[hx] at A2 CT
      rw[ho] at A2
      clear hbY hY1 hhY A ST ht hI hO sI hx ho
      by_cases hx0:x=0
      ·subst hx0
       have A3:Hid (Yu h 0 T=if o=false then 4 else Yu h (j+1) (T.drop (j+1))):=by
        have q:=Za A2
        rw[if_neg (by decide)] at q
        exact q
       clear A2
       go_wp2_with fail
       rw[←hY]
       clear hY
       go_wp2_with fail
       refine (Za CT).mono ?_
       rintro e w2 ⟨rfl,hb2⟩
       have hy2:=(hb2.block _ (lt_of_block (Za HY1))).trans (Za HY1)
       have HB2:=Zb (Ze (Za HBY) hb2)
       have hh2:=((Za HB2).block _ (lt_of_block (Za HX1))).trans (Za HX1)
       have z0:=Zd hy2 0 _ rfl
       have z1:=Zd hy2 1 _ rfl
       have z2:=Zd hy2 2 _ rfl
       have zl:=lt_of_block hy2
       have k1:=Zd hh2 1 _ rfl
       have kl:=lt_of_block hh2
       clear hb2 hy2 hh2 y0 y1 y2 yl g0' g1 g2
       go_wp2_with fail
       refine ((Za CS) _).mono ?_
       rintro e w3 ⟨rfl,hb3⟩
       have HB3:=Zb (Ze (Za HB2) hb3)
       clear hb3
       cases o with
       | false=>
        have R:Hid (Yu h 0 T=4):=by show _=_;rw[Za A3];rfl
        have HBF:=Zb (Ze (Za HBX) (Za HB3))
        clear A3
        go_wp2
        go_ret
        exact⟨by rw[Za R];rfl,Za HBF⟩
       | true=>
        have R:Hid (Yu h 0 T=Yu h (j+1) (T.drop (j+1))):=by show _=_;rw[Za A3];rfl
        clear A3
        go_wp2
        go_roundw
        case rel=>exact⟨j+1,by omega,by go_num,R,HB3⟩
        case measure=>simp[intOf];omega
      ·have R:Hid (Yu h 0 T=x):=by show _=_;rw[Za A2,if_pos hx0]
       have gx:(x != 0)=true:=by simp[hx0]
       clear A2 hx0
       go_wp2_with fail
       rw[←hY]
       clear hY
       go_wp2_with fail
       refine (Za CT).mono ?_
       rintro e w2 ⟨rfl,hb2⟩
       have HBF:=Zb (Ze (Za HBX) (Ze (Za HBY) hb2))
       clear hb2
       go_wp2
       go_ret
       exact⟨by rw[Za R];rfl,Za HBF⟩
     ·have R:Hid (Yu h 0 T=0):=by show _=_;rw[Za A,Lr h T j (by rw[Za HZ];omega)]
      have HBF:=Zb (Ze (Za HBX) (Za HBr))
      clear A
      go_wp2
      go_ret
      exact⟨by rw[Za R];rfl,Za HBF⟩
end Go.Proofs.YtpikejjiignchaaGreatDoor
