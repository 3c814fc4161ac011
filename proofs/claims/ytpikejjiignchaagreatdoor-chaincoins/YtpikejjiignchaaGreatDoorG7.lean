import Derived.Test.YtpikejjiignchaaGreatDoorG6
set_option maxHeartbeats 6400000
namespace Go.Proofs.YtpikejjiignchaaGreatDoor
open Go.RowKit
set_option maxRecDepth 10000 in
theorem Ny(p h k n:Int)(a:Option Addr)(m c:Nat)(w:World) :
  Calls Tryz.prog 125 #[.agg #[.int .i64 p,.int .i64 h,.int .i64 k,.int .i64 n,.slice a m c]] w fun e w'=>e = .returned (.agg #[.int .i64 p,.int .i64 h,.int .i64 k,.int .i64 n])∧Below w.heap.size w w':=by
 have HB:=Zb (Ze (Zg w (.cells #[.int .i64 p,.int .i64 h,.int .i64 k,.int .i64 n,.slice a m c] 68)) (Zg _ (.cells #[.int .i64 p,.int .i64 h,.int .i64 k,.int .i64 n] 201)))
 go_enter Tryz.func125,Tryz.ntmps125
 go_wp2
 (try simp only[Exit.inBlock,Exit.then])
 refine bodyPost_ret (v:=.agg #[.int .i64 p,.int .i64 h,.int .i64 k,.int .i64 n]) ?_ rfl ⟨rfl,?_⟩
 ·rw[Ys rfl]
  go_simp
 ·exact Za HB
theorem Zcw(h:Int)(ai ao:Option Addr)(ni ci no co:Nat)(I:List InD)(O:List Yc)(i:Nat)(ht:Int)(o:Bool)(w:World)(hI:I.length=ni)(ho:Uh (h,I,O) i ht=o) :
  Calls Tryz.prog 117 #[.agg #[.int .i64 h,.slice ai ni ci,.slice ao no co],.int .i64 i,.int .i64 ht] w fun e w'=>e = .returned (.bool o)∧Below w.heap.size w w':=by
 have HB:=Zb (Zg w (.cells #[.int .i64 h,.slice ai ni ci,.slice ao no co] 52))
 unfold Uh at ho
 simp only at ho
 rw[hI] at ho
 clear hI
 by_cases h1:i=0
 ·subst h1
  rw[if_neg (by decide)] at ho
  by_cases h2:ni=0
  ·subst h2
   by_cases h3:h=ht
   ·subst h3
    obtain rfl:true=o:=by rw[←ho];simp
    clear ho
    go_enter Tryz.func117,Tryz.ntmps117
    go_wp2
    go_ret
    exact⟨rfl,Za HB⟩
   ·obtain rfl:false=o:=by rw[←ho];simp[h3]
    have g:(h == ht)=false:=by simp[h3]
    clear ho h3
    go_enter Tryz.func117,Tryz.ntmps117
    go_wp2
    go_ret
    exact⟨by rw[←g];rfl,Za HB⟩
  ·obtain rfl:false=o:=by rw[←ho];simp[h2]
   have g:((ni:Int) == 0)=false:=by simp[h2]
   clear ho
   go_enter Tryz.func117,Tryz.ntmps117
   go_wp2
   go_ret
   exact⟨rfl,Za HB⟩
 ·have hi:0<(i:Int):=by omega
  rw[if_pos hi] at ho
  by_cases h2:ni=0
  ·subst h2
   obtain rfl:false=o:=by rw[←ho];simp
   clear ho
   go_enter Tryz.func117,Tryz.ntmps117
   go_wp2
   go_ret
   exact⟨rfl,Za HB⟩
  ·obtain rfl:true=o:=by rw[←ho];simp[h2]
   have g:((ni:Int) == 0)=false:=by simp[h2]
   clear ho
   go_enter Tryz.func117,Tryz.ntmps117
   go_wp2
   go_ret
   exact⟨rfl,Za HB⟩
theorem Jg(a b c d:Value)(w:World) :
  (Instr.index 201 (.agg #[a,b,c,d]) (.int .i64 0)).run Tryz.prog w = .ok a w∧(Instr.index 201 (.agg #[a,b,c,d]) (.int .i64 1)).run Tryz.prog w = .ok b w ∧
  (Instr.index 201 (.agg #[a,b,c,d]) (.int .i64 2)).run Tryz.prog w = .ok c w∧(Instr.index 201 (.agg #[a,b,c,d]) (.int .i64 3)).run Tryz.prog w = .ok d w:=by
 refine⟨?_,?_,?_,?_⟩ <;> kernel_rfl
theorem Xk(n lo hi:Int)(b:Bool)(w:World)(hb:(decide (lo≤n) && decide (n≤hi))=b) :
  Calls Tryz.prog 114 #[.int .i64 n,.int .i64 lo,.int .i64 hi] w fun e w'=>e = .returned (.bool b)∧Below w.heap.size w w':=
 (Yu n lo hi b w hb.symm).mono fun _ _ ⟨h1,h2⟩=>⟨h1,h2 ▸ Below.refl _ _⟩
theorem Rm(w:World)(a b c d:Value)(t:TypeId):(w.alloc (.cells #[a,b,c,d] t)).heap[w.heap.size]? = some (.cells [a,b,c,d].toArray t (0,0)):=heap_alloc_new w _
set_option maxRecDepth 100000 in
theorem Gs(p h k n:Int)(a:Option Addr)(m c:Nat)(o:Bool)(w:World)(ho:Xx p h k n=o) :
  Calls Tryz.prog 115 #[.agg #[.int .i64 p,.int .i64 h,.int .i64 k,.int .i64 n,.slice a m c]] w fun e w'=>e = .returned (.bool o)∧Below w.heap.size w w':=by
 obtain⟨X,hX⟩:∃ X,X=((w.alloc (.cells #[.int .i64 p,.int .i64 h,.int .i64 k,.int .i64 n,.slice a m c] 68)).alloc (.cells #[.int .i64 0,.int .i64 1,.int .i64 1,.int .i64 0] 201)).alloc (.cells #[.int .i64 120,.int .i64 1000,.int .i64 1000,.int .i64 1000000000] 201):=⟨_,rfl⟩
 have hbX:Below w.heap.size w X:=by rw[hX];exact Ze (Ze (Zg _ _) (Zg _ _)) (Zg _ _)
 have hL:X.heap[w.heap.size+1]? = some (.cells [.int .i64 0,.int .i64 1,.int .i64 1,.int .i64 0].toArray 201 (0,0)):=by
  rw[hX,Below.heap_alloc _ _ _ (by simp)]
  have:=Rm (w.alloc (.cells #[.int .i64 p,.int .i64 h,.int .i64 k,.int .i64 n,.slice a m c] 68)) (.int .i64 0) (.int .i64 1) (.int .i64 1) (.int .i64 0) 201
  rw[show (w.alloc (.cells #[.int .i64 p,.int .i64 h,.int .i64 k,.int .i64 n,.slice a m c] 68)).heap.size=w.heap.size+1 by simp] at this
  exact this
 have hH:X.heap[w.heap.size+2]? = some (.cells [.int .i64 120,.int .i64 1000,.int .i64 1000,.int .i64 1000000000].toArray 201 (0,0)):=by
  rw[hX]
  have:=Rm ((w.alloc (.cells #[.int .i64 p,.int .i64 h,.int .i64 k,.int .i64 n,.slice a m c] 68)).alloc (.cells #[.int .i64 0,.int .i64 1,.int .i64 1,.int .i64 0] 201)) (.int .i64 120) (.int .i64 1000) (.int .i64 1000) (.int .i64 1000000000) 201
  rw[show ((w.alloc (.cells #[.int .i64 p,.int .i64 h,.int .i64 k,.int .i64 n,.slice a m c] 68)).alloc (.cells #[.int .i64 0,.int .i64 1,.int .i64 1,.int .i64 0] 201)).heap.size=w.heap.size+2 by simp] at this
  exact this
 have C:=Zb (Ny p h k n a m c X)
 have HBX:=Zb hbX
 have HL:=Zb hL
 have HH:=Zb hH
 have hi0:=fun w=>(Jg (.int .i64 p) (.int .i64 h) (.int .i64 k) (.int .i64 n) w).1
 have hi1:=fun w=>(Jg (.int .i64 p) (.int .i64 h) (.int .i64 k) (.int .i64 n) w).2.1
 have hi2:=fun w=>(Jg (.int .i64 p) (.int .i64 h) (.int .i64 k) (.int .i64 n) w).2.2.1
 have hi3:=fun w=>(Jg (.int .i64 p) (.int .i64 h) (.int .i64 k) (.int .i64 n) w).2.2.2
 unfold Xx at ho
 clear hbX hL hH
 go_enter Tryz.func115,Tryz.ntmps115
 go_wp2_with fail
 rw[←hX]
 clear hX
 go_wp2_with fail
 refine (Za C).mono ?_
 rintro e w1 ⟨rfl,hb1⟩
 have HB1:=Zb (Ze (Za HBX) hb1)
 have hl1:=(hb1.block _ (lt_of_block (Za HL))).trans (Za HL)
 have hh1:=(hb1.block _ (lt_of_block (Za HH))).trans (Za HH)
 have lo0:=Zd hl1 0 _ rfl
 have up0:=Zd hh1 0 _ rfl
 have lo1:=Zd hl1 1 _ rfl
 have up1:=Zd hh1 1 _ rfl
 have lo2:=Zd hl1 2 _ rfl
 have up2:=Zd hh1 2 _ rfl
 have lo3:=Zd hl1 3 _ rfl
 have up3:=Zd hh1 3 _ rfl
 have ll0:=lt_of_block hl1
 have lh0:=lt_of_block hh1
 clear hb1 hl1 hh1 C HL HH HBX
 go_wp2
 have bq0:Below w1.heap.size w1 w1:=Below.refl _ _
 refine wp_loop_rounds 5 ?_
 cases q0:(decide ((0:Int)≤p) && decide (p≤120)) with
 | false=>
  rw[q0] at ho
  have CC:=Zb (fun W=>Xk p 0 120 false W q0)
  clear q0
  obtain rfl:false=o:=by rw[←ho];rfl
  clear ho
  rw[rounds_succ]
  go_wp2_with fail
  go_region_held3 (fun W'=>Below w1.heap.size w1 W'∧W'.cell? ⟨w.heap.size+1,0,none⟩=some (.int .i64 0)∧W'.cell? ⟨w.heap.size+2,0,none⟩=some (.int .i64 120)∧W'.cell? ⟨w.heap.size+1,1,none⟩=some (.int .i64 1)∧W'.cell? ⟨w.heap.size+2,1,none⟩=some (.int .i64 1000)∧W'.cell? ⟨w.heap.size+1,2,none⟩=some (.int .i64 1)∧W'.cell? ⟨w.heap.size+2,2,none⟩=some (.int .i64 1000)∧W'.cell? ⟨w.heap.size+1,3,none⟩=some (.int .i64 0)∧W'.cell? ⟨w.heap.size+2,3,none⟩=some (.int .i64 1000000000))
   (first
   | exact⟨Ze bq0 (Zh _),lo0,up0,lo1,up1,lo2,up2,lo3,up3⟩
   | (go_split_ands;refine⟨Ze (by assumption) hbc,Zc hbc (by assumption),Zc hbc (by assumption),Zc hbc (by assumption),Zc hbc (by assumption),Zc hbc (by assumption),Zc hbc (by assumption),Zc hbc (by assumption),Zc hbc (by assumption)⟩))
   (first|(go_at_call 114;refine ((Za CC) _).mono ?_;rintro e w' ⟨rfl,hbc⟩))
  rename_i hq
  have HBF:=Zb (Ze (Za HB1) hq.1)
  clear hq
  go_wp2
  go_ret
  exact⟨rfl,Za HBF⟩
 | true=>
  rw[q0] at ho
  have CC:=Zb (fun W=>Xk p 0 120 true W q0)
  clear q0
  rw[rounds_succ]
  go_wp2_with fail
  go_region_held3 (fun W'=>Below w1.heap.size w1 W'∧W'.cell? ⟨w.heap.size+1,0,none⟩=some (.int .i64 0)∧W'.cell? ⟨w.heap.size+2,0,none⟩=some (.int .i64 120)∧W'.cell? ⟨w.heap.size+1,1,none⟩=some (.int .i64 1)∧W'.cell? ⟨w.heap.size+2,1,none⟩=some (.int .i64 1000)∧W'.cell? ⟨w.heap.size+1,2,none⟩=some (.int .i64 1)∧W'.cell? ⟨w.heap.size+2,2,none⟩=some (.int .i64 1000)∧W'.cell? ⟨w.heap.size+1,3,none⟩=some (.int .i64 0)∧W'.cell? ⟨w.heap.size+2,3,none⟩=some (.int .i64 1000000000))
   (first
   | exact⟨Ze bq0 (Zh _),lo0,up0,lo1,up1,lo2,up2,lo3,up3⟩
   | (go_split_ands;refine⟨Ze (by assumption) hbc,Zc hbc (by assumption),Zc hbc (by assumption),Zc hbc (by assumption),Zc hbc (by assumption),Zc hbc (by assumption),Zc hbc (by assumption),Zc hbc (by assumption),Zc hbc (by assumption)⟩))
   (first|(go_at_call 114;refine ((Za CC) _).mono ?_;rintro e w' ⟨rfl,hbc⟩))
  rename_i hq
  have ll:=Nat.lt_of_lt_of_le ll0 hq.1.size
  have lh:=Nat.lt_of_lt_of_le lh0 hq.1.size
  obtain⟨bq1,lo0,up0,lo1,up1,lo2,up2,lo3,up3⟩:=hq
  rw[Bool.true_and] at ho
  go_wp2
  cases q1:(decide ((1:Int)≤h) && decide (h≤1000)) with
  | false=>
   rw[q1] at ho
   have CC:=Zb (fun W=>Xk h 1 1000 false W q1)
   clear q1
   obtain rfl:false=o:=by rw[←ho];rfl
   clear ho
   rw[rounds_succ]
   go_wp2_with fail
   go_region_held3 (fun W'=>Below w1.heap.size w1 W'∧W'.cell? ⟨w.heap.size+1,0,none⟩=some (.int .i64 0)∧W'.cell? ⟨w.heap.size+2,0,none⟩=some (.int .i64 120)∧W'.cell? ⟨w.heap.size+1,1,none⟩=some (.int .i64 1)∧W'.cell? ⟨w.heap.size+2,1,none⟩=some (.int .i64 1000)∧W'.cell? ⟨w.heap.size+1,2,none⟩=some (.int .i64 1)∧W'.cell? ⟨w.heap.size+2,2,none⟩=some (.int .i64 1000)∧W'.cell? ⟨w.heap.size+1,3,none⟩=some (.int .i64 0)∧W'.cell? ⟨w.heap.size+2,3,none⟩=some (.int .i64 1000000000))
    (first
    | exact⟨Ze bq1 (Zh _),lo0,up0,lo1,up1,lo2,up2,lo3,up3⟩
    | (go_split_ands;refine⟨Ze (by assumption) hbc,Zc hbc (by assumption),Zc hbc (by assumption),Zc hbc (by assumption),Zc hbc (by assumption),Zc hbc (by assumption),Zc hbc (by assumption),Zc hbc (by assumption),Zc hbc (by assumption)⟩))
    (first|(go_at_call 114;refine ((Za CC) _).mono ?_;rintro e w' ⟨rfl,hbc⟩))
   rename_i hq
   have HBF:=Zb (Ze (Za HB1) hq.1)
   clear hq
   go_wp2
   go_ret
   exact⟨rfl,Za HBF⟩
  | true=>
   rw[q1] at ho
   have CC:=Zb (fun W=>Xk h 1 1000 true W q1)
   clear q1
   rw[rounds_succ]
   go_wp2_with fail
   go_region_held3 (fun W'=>Below w1.heap.size w1 W'∧W'.cell? ⟨w.heap.size+1,0,none⟩=some (.int .i64 0)∧W'.cell? ⟨w.heap.size+2,0,none⟩=some (.int .i64 120)∧W'.cell? ⟨w.heap.size+1,1,none⟩=some (.int .i64 1)∧W'.cell? ⟨w.heap.size+2,1,none⟩=some (.int .i64 1000)∧W'.cell? ⟨w.heap.size+1,2,none⟩=some (.int .i64 1)∧W'.cell? ⟨w.heap.size+2,2,none⟩=some (.int .i64 1000)∧W'.cell? ⟨w.heap.size+1,3,none⟩=some (.int .i64 0)∧W'.cell? ⟨w.heap.size+2,3,none⟩=some (.int .i64 1000000000))
    (first
    | exact⟨Ze bq1 (Zh _),lo0,up0,lo1,up1,lo2,up2,lo3,up3⟩
    | (go_split_ands;refine⟨Ze (by assumption) hbc,Zc hbc (by assumption),Zc hbc (by assumption),Zc hbc (by assumption),Zc hbc (by assumption),Zc hbc (by assumption),Zc hbc (by assumption),Zc hbc (by assumption),Zc hbc (by assumption)⟩))
    (first|(go_at_call 114;refine ((Za CC) _).mono ?_;rintro e w' ⟨rfl,hbc⟩))
   rename_i hq
   have ll:=Nat.lt_of_lt_of_le ll0 hq.1.size
   have lh:=Nat.lt_of_lt_of_le lh0 hq.1.size
   obtain⟨bq2,lo0,up0,lo1,up1,lo2,up2,lo3,up3⟩:=hq
   rw[Bool.true_and] at ho
   go_wp2
   cases q2:(decide ((1:Int)≤k) && decide (k≤1000)) with
   | false=>
    rw[q2] at ho
    have CC:=Zb (fun W=>Xk k 1 1000 false W q2)
    clear q2
    obtain rfl:false=o:=by rw[←ho];rfl
    clear ho
    rw[rounds_succ]
    go_wp2_with fail
    go_region_held3 (fun W'=>Below w1.heap.size w1 W'∧W'.cell? ⟨w.heap.size+1,0,none⟩=some (.int .i64 0)∧W'.cell? ⟨w.heap.size+2,0,none⟩=some (.int .i64 120)∧W'.cell? ⟨w.heap.size+1,1,none⟩=some (.int .i64 1)∧W'.cell? ⟨w.heap.size+2,1,none⟩=some (.int .i64 1000)∧W'.cell? ⟨w.heap.size+1,2,none⟩=some (.int .i64 1)∧W'.cell? ⟨w.heap.size+2,2,none⟩=some (.int .i64 1000)∧W'.cell? ⟨w.heap.size+1,3,none⟩=some (.int .i64 0)∧W'.cell? ⟨w.heap.size+2,3,none⟩=some (.int .i64 1000000000))
     (first
     | exact⟨Ze bq2 (Zh _),lo0,up0,lo1,up1,lo2,up2,lo3,up3⟩
     | (go_split_ands;refine⟨Ze (by assumption) hbc,Zc hbc (by assumption),Zc hbc (by assumption),Zc hbc (by assumption),Zc hbc (by assumption),Zc hbc (by assumption),Zc hbc (by assumption),Zc hbc (by assumption),Zc hbc (by assumption)⟩))
     (first|(go_at_call 114;refine ((Za CC) _).mono ?_;rintro e w' ⟨rfl,hbc⟩))
    rename_i hq
    have HBF:=Zb (Ze (Za HB1) hq.1)
    clear hq
    go_wp2
    go_ret
    exact⟨rfl,Za HBF⟩
   | true=>
    rw[q2] at ho
    have CC:=Zb (fun W=>Xk k 1 1000 true W q2)
    clear q2
    rw[rounds_succ]
    go_wp2_with fail
    go_region_held3 (fun W'=>Below w1.heap.size w1 W'∧W'.cell? ⟨w.heap.size+1,0,none⟩=some (.int .i64 0)∧W'.cell? ⟨w.heap.size+2,0,none⟩=some (.int .i64 120)∧W'.cell? ⟨w.heap.size+1,1,none⟩=some (.int .i64 1)∧W'.cell? ⟨w.heap.size+2,1,none⟩=some (.int .i64 1000)∧W'.cell? ⟨w.heap.size+1,2,none⟩=some (.int .i64 1)∧W'.cell? ⟨w.heap.size+2,2,none⟩=some (.int .i64 1000)∧W'.cell? ⟨w.heap.size+1,3,none⟩=some (.int .i64 0)∧W'.cell? ⟨w.heap.size+2,3,none⟩=some (.int .i64 1000000000))
     (first
     | exact⟨Ze bq2 (Zh _),lo0,up0,lo1,up1,lo2,up2,lo3,up3⟩
     | (go_split_ands;refine⟨Ze (by assumption) hbc,Zc hbc (by assumption),Zc hbc (by assumption),Zc hbc (by assumption),Zc hbc (by assumption),Zc hbc (by assumption),Zc hbc (by assumption),Zc hbc (by assumption),Zc hbc (by assumption)⟩))
     (first|(go_at_call 114;refine ((Za CC) _).mono ?_;rintro e w' ⟨rfl,hbc⟩))
    rename_i hq
    have ll:=Nat.lt_of_lt_of_le ll0 hq.1.size
    have lh:=Nat.lt_of_lt_of_le lh0 hq.1.size
    obtain⟨bq3,lo0,up0,lo1,up1,lo2,up2,lo3,up3⟩:=hq
    rw[Bool.true_and] at ho
    go_wp2
    cases q3:(decide ((0:Int)≤n) && decide (n≤1000000000)) with
    | false=>
     rw[q3] at ho
     have CC:=Zb (fun W=>Xk n 0 1000000000 false W q3)
     clear q3
     obtain rfl:false=o:=by rw[←ho]
     clear ho
     rw[rounds_succ]
     go_wp2_with fail
     go_region_held3 (fun W'=>Below w1.heap.size w1 W'∧W'.cell? ⟨w.heap.size+1,0,none⟩=some (.int .i64 0)∧W'.cell? ⟨w.heap.size+2,0,none⟩=some (.int .i64 120)∧W'.cell? ⟨w.heap.size+1,1,none⟩=some (.int .i64 1)∧W'.cell? ⟨w.heap.size+2,1,none⟩=some (.int .i64 1000)∧W'.cell? ⟨w.heap.size+1,2,none⟩=some (.int .i64 1)∧W'.cell? ⟨w.heap.size+2,2,none⟩=some (.int .i64 1000)∧W'.cell? ⟨w.heap.size+1,3,none⟩=some (.int .i64 0)∧W'.cell? ⟨w.heap.size+2,3,none⟩=some (.int .i64 1000000000))
      (first
      | exact⟨Ze bq3 (Zh _),lo0,up0,lo1,up1,lo2,up2,lo3,up3⟩
      | (go_split_ands;refine⟨Ze (by assumption) hbc,Zc hbc (by assumption),Zc hbc (by assumption),Zc hbc (by assumption),Zc hbc (by assumption),Zc hbc (by assumption),Zc hbc (by assumption),Zc hbc (by assumption),Zc hbc (by assumption)⟩))
      (first|(go_at_call 114;refine ((Za CC) _).mono ?_;rintro e w' ⟨rfl,hbc⟩))
     rename_i hq
     have HBF:=Zb (Ze (Za HB1) hq.1)
     clear hq
     go_wp2
     go_ret
     exact⟨rfl,Za HBF⟩
    | true=>
     rw[q3] at ho
     have CC:=Zb (fun W=>Xk n 0 1000000000 true W q3)
     clear q3
     obtain rfl:true=o:=by rw[←ho]
     clear ho
     rw[rounds_succ]
     go_wp2_with fail
     go_region_held3 (fun W'=>Below w1.heap.size w1 W'∧W'.cell? ⟨w.heap.size+1,0,none⟩=some (.int .i64 0)∧W'.cell? ⟨w.heap.size+2,0,none⟩=some (.int .i64 120)∧W'.cell? ⟨w.heap.size+1,1,none⟩=some (.int .i64 1)∧W'.cell? ⟨w.heap.size+2,1,none⟩=some (.int .i64 1000)∧W'.cell? ⟨w.heap.size+1,2,none⟩=some (.int .i64 1)∧W'.cell? ⟨w.heap.size+2,2,none⟩=some (.int .i64 1000)∧W'.cell? ⟨w.heap.size+1,3,none⟩=some (.int .i64 0)∧W'.cell? ⟨w.heap.size+2,3,none⟩=some (.int .i64 1000000000))
      (first
      | exact⟨Ze bq3 (Zh _),lo0,up0,lo1,up1,lo2,up2,lo3,up3⟩
      | (go_split_ands;refine⟨Ze (by assumption) hbc,Zc hbc (by assumption),Zc hbc (by assumption),Zc hbc (by assumption),Zc hbc (by assumption),Zc hbc (by assumption),Zc hbc (by assumption),Zc hbc (by assumption),Zc hbc (by assumption)⟩))
      (first|(go_at_call 114;refine ((Za CC) _).mono ?_;rintro e w' ⟨rfl,hbc⟩))
     rename_i hq
     have ll:=Nat.lt_of_lt_of_le ll0 hq.1.size
     have lh:=Nat.lt_of_lt_of_le lh0 hq.1.size
     obtain⟨bq4,lo0,up0,lo1,up1,lo2,up2,lo3,up3⟩:=hq
     go_wp2
     rw[rounds_succ]
     go_wp2
     go_ret
     exact⟨rfl,Ze (Za HB1) bq4⟩
theorem Yq{w:World}{base:Nat}{e:TypeId}{size:Nat}{v:Value}{n:Nat}{xs:List Value}(h:w.ownsRow base e size v n xs):∃ a c,v = .slice a n c:=by
 rcases h.2 with ⟨rfl,rfl⟩|⟨g,cap,cur,rfl,_⟩
 ·exact⟨none,0,rfl⟩
 ·exact⟨_,_,rfl⟩
def Al(y:CV):List Value:=[.int .i64 y.1.1,.int .i64 y.1.2.1,.int .i64 (cv y.1),.slice y.2.1 y.2.2.1 y.2.2.2,.int .i64 (ch y.1),.bool (cr y.1)]
theorem Zhn(y:CV):Zj [y]=Al y:=rfl
set_option maxRecDepth 10000 in
theorem Zje(w0 w:World)(p:Nat)(v:Value)(K:List CV)(y:CV)(h:Pu w0 w p v K)(hs:Srt (K.map (·.1)))(hn:K.length≤4096)(hf:Xy (pt y.1) (K.map (·.1))=true) :
  Calls Tryz.prog 171 #[.pointer (some ⟨p,0,none⟩),cnV y.1 y.2.1 y.2.2.1 y.2.2.2] w fun e w'=>e = .returned (.bool false)∧Below w.heap.size w w':=by
 obtain⟨a,c,rfl,hC,hS⟩:=h.coins
 obtain⟨n,hn'⟩:∃ n,K.length=n:=⟨_,rfl⟩
 obtain⟨k,hk⟩:∃ k,pos (pt y.1) (K.map (·.1))=k:=⟨_,rfl⟩
 have hbox:=h.box
 rw[hn'] at hC hbox hn
 unfold cnV
 obtain⟨X,hX⟩:∃ X,X=w.alloc (.cells #[.int .i64 y.1.1,.int .i64 y.1.2.1,.int .i64 (cv y.1),.slice y.2.1 y.2.2.1 y.2.2.2,.int .i64 (ch y.1),.bool (cr y.1)] 103):=⟨_,rfl⟩
 have hbX:Below w.heap.size w X:=by rw[hX];exact Zg _ _
 have hX1:X.heap[w.heap.size]? = some (.cells (Al y).toArray 103 (0,0)):=by rw[hX];exact Qn _ _ _ _ _ _ _ _
 have x0:=Zd hX1 0 _ rfl
 have x1:=Zd hX1 1 _ rfl
 have xp:X.cell? ⟨p,0,none⟩=some (.slice a n c):=Zc hbX (Zd (X:=[.slice a n c]) hbox 0 _ rfl)
 have PL:=Zb (fun w' (hb:Below X.heap.size X w')=>Rj a n c (K.map (·.1)) (pt y.1) k true w' hs (by omega) ((hC.later hbX).later hb) hk hf)
 unfold pt at PL
 have HBX:=Zb hbX
 clear hk hf hC hS hs hbox hbX hX1 h hn'
 go_enter Tryz.func171,Tryz.ntmps171
 go_wp2_with fail
 rw[←hX]
 clear hX
 go_region_held3 (fun w'=>Below X.heap.size X w'∧w'.cell? ⟨w.heap.size,0,none⟩=some (.int .i64 y.1.1)∧w'.cell? ⟨w.heap.size,1,none⟩=some (.int .i64 y.1.2.1)∧w'.cell? ⟨p,0,none⟩=some (.slice a n c))
  (first
  | exact⟨Zh _,x0,x1,xp⟩
  | (go_split_ands;refine⟨Ze (by assumption) hbc,Zc hbc (by assumption),Zc hbc (by assumption),Zc hbc (by assumption)⟩))
  (first|(go_at_call 194;go_split_ands;refine ((Za PL) _ (by assumption)).mono ?_;rintro e w' ⟨rfl,hbc⟩))
 rename_i hH
 have HB:=Zb (Ze (Za HBX) hH.1)
 clear hH
 go_wp2
 go_ret
 exact⟨rfl,Za HB⟩
set_option maxRecDepth 10000 in
theorem Zgl(w0 w:World)(p:Nat)(v:Value)(K:List CV)(y:CV)(h:Pu w0 w p v K)(hs:Srt (K.map (·.1)))(hn:K.length≤4096)(hf:Xy (pt y.1) (K.map (·.1))=false)(hy:LkAt w0 y) :
  Calls Tryz.prog 171 #[.pointer (some ⟨p,0,none⟩),cnV y.1 y.2.1 y.2.2.1 y.2.2.2] w fun e w'=>∃ (v':Value) (K':List CV),e = .returned (.bool true)∧K'.map (·.1)=Qd y.1 (K.map (·.1))∧(∀ z∈K',z=y∨z∈K)∧K'.length=K.length+1 ∧
   Pu w0 w' p v' K'∧Gr w w' (PuS p v)∧(v'.ownBlock=v.ownBlock∨∀ k,v'.ownBlock=some k→w.heap.size≤k):=by
 obtain⟨a,c,rfl,hC,hS⟩:=h.coins
 obtain⟨n,hn'⟩:∃ n,K.length=n:=⟨_,rfl⟩
 obtain⟨k,hk⟩:∃ k,pos (pt y.1) (K.map (·.1))=k:=⟨_,rfl⟩
 have hbox:=h.box
 have hO:=h.own
 have hne:=h.ne
 have hkn:k≤n:=by rw[←hk,←hn'];have:=Zgm (pt y.1) (K.map (·.1));simpa using this
 have hPD:=Zbr hs hf
 rw[hk,←List.map_take,←List.map_drop,show y.1 :: (K.drop k).map (·.1)=(y :: K.drop k).map (·.1) from rfl,←List.map_append] at hPD
 rw[hn'] at hC hbox hn hO hne
 unfold cnV
 obtain⟨X,hX⟩:∃ X,X=w.alloc (.cells #[.int .i64 y.1.1,.int .i64 y.1.2.1,.int .i64 (cv y.1),.slice y.2.1 y.2.2.1 y.2.2.2,.int .i64 (ch y.1),.bool (cr y.1)] 103):=⟨_,rfl⟩
 have hbX:Below w.heap.size w X:=by rw[hX];exact Zg _ _
 have hX1:X.heap[w.heap.size]? = some (.cells (Al y).toArray 103 (0,0)):=by rw[hX];exact Qn _ _ _ _ _ _ _ _
 have x0:=Zd hX1 0 _ rfl
 have x1:=Zd hX1 1 _ rfl
 have xp:X.cell? ⟨p,0,none⟩=some (.slice a n c):=Zc hbX (Zd (X:=[.slice a n c]) hbox 0 _ rfl)
 have PL:=Zb (fun w' (hb:Below X.heap.size X w')=>Rj a n c (K.map (·.1)) (pt y.1) k false w' hs (by omega) ((hC.later hbX).later hb) hk hf)
 unfold pt at PL
 have HBX:=Zb hbX
 have HX1:=Zb hX1
 have HO:=Zb hO
 have HNE:=Zb hne
 have HPD:=Zb hPD
 have HP:=Zb h
 have HY:=Zb hy
 have HBOX:=Zb hbox
 have HN':=Zb hn'
 have hpw:p<w.heap.size:=h.lt
 clear hk hf hC hS hs hbox hbX hX1 h hn' hO hne hPD hy
 go_enter Tryz.func171,Tryz.ntmps171
 go_wp2_with fail
 rw[←hX]
 clear hX
 go_region_held3 (fun w'=>Below X.heap.size X w'∧w'.cell? ⟨w.heap.size,0,none⟩=some (.int .i64 y.1.1)∧w'.cell? ⟨w.heap.size,1,none⟩=some (.int .i64 y.1.2.1)∧w'.cell? ⟨p,0,none⟩=some (.slice a n c))
  (first
  | exact⟨Zh _,x0,x1,xp⟩
  | (go_split_ands;refine⟨Ze (by assumption) hbc,Zc hbc (by assumption),Zc hbc (by assumption),Zc hbc (by assumption)⟩))
  (first|(go_at_call 194;go_split_ands;refine ((Za PL) _ (by assumption)).mono ?_;rintro e w' ⟨rfl,hbc⟩))
 rename_i hH
 have hb2:=Ze (Za HBX) hH.1
 have hh2:=(hH.1.block _ (lt_of_block (Za HX1))).trans (Za HX1)
 have c0:=Zd hh2 0 _ rfl
 have c1:=Zd hh2 1 _ rfl
 have c2:=Zd hh2 2 _ rfl
 have c3:=Zd hh2 3 _ rfl
 have c4:=Zd hh2 4 _ rfl
 have c5:=Zd hh2 5 _ rfl
 have xp2:=hH.2.2.2
 have hpl:=World.block_lt_of_cell? _ _ xp2
 have hhp:=(hb2.block p hpw).trans (Za HBOX)
 have HB2:=Zb hb2
 have INS:Hid (∀ W,W.heap=(w'.alloc (.cells #[.int .i64 y.1.1,.int .i64 y.1.2.1,.int .i64 (cv y.1),.slice y.2.1 y.2.2.1 y.2.2.2,.int .i64 (ch y.1),.bool (cr y.1)] 103)).heap→W.os=w'.os→W.tape=w'.tape→W.output=w'.output →
   Calls Tryz.prog 197 #[.slice a n c,.int .i64 k,.slice (some ⟨w'.heap.size,0,none⟩) 1 1] W fun e w4=>∃ a' c',e = .returned (.slice a' (n+1) c')∧w4.cell? ⟨p,0,none⟩=some (.slice a n c)∧w4.frozen? ⟨p,0,none⟩=false∧p<w4.heap.size∧Hid (w4.ownsRow w0.heap.size 103 6 (.slice a' (n+1) c') (n+1) (Zj (K.take k++y :: K.drop k))∧Gr w w4 (PuS p (.slice a n c))∧((Value.slice a' (n+1) c').ownBlock=(Value.slice a n c).ownBlock∨∀ k,(Value.slice a' (n+1) c').ownBlock=some k→w.heap.size≤k)∧w4.heap[p]? = some (.cells #[.slice a n c] 221 (0,0)))):=by
  intro W hW1 hW2 hW3 hW4
  have hbw:Below w'.heap.size w' W:=⟨hW2,hW3,hW4,by rw[hW1];simp,fun i hi=>by rw[hW1];exact Below.heap_alloc w' _ i hi⟩
  have hbw2:=Ze hb2 hbw
  have hOW:W.ownsRow w0.heap.size 103 6 (.slice a n c) n (Zj K):=(Gr.of (S:=fun _=>False) hbw2).own (Za HO) (fun _ _ q=>q)
  have hvb:W.heap[w'.heap.size]? = some (.cells (Zj [y]).toArray 103 (0,0)):=by rw[hW1];exact Qn _ _ _ _ _ _ _ _
  have hsz:w.heap.size<W.heap.size:=Nat.lt_of_lt_of_le (lt_of_block hh2) hbw.size
  refine (Le w0.heap.size a n c k w'.heap.size K y W hkn hn (Za HN') (Nat.le_trans (Za HP).bel.size (Nat.le_of_lt hsz)) hOW hvb ?_).mono ?_
  ·intro e
   have:=(Za HO).lt _ e
   have h3:=hb2.size
   omega
  ·rintro e w4 ⟨v',rfl,ho4,hg4,hn4⟩
   obtain⟨a',c',rfl⟩:=Yq ho4
   have hp4:w4.heap[p]? = some (.cells #[.slice a n c] 221 (0,0)):=by
    rw[hg4.block p (Nat.lt_trans hpw hsz) (fun e=>(Za HNE) e.symm),hbw2.block p hpw]
    exact Za HBOX
   refine⟨a',c',rfl,Zd (X:=[.slice a n c]) hp4 0 _ rfl,Zi hp4 0,lt_of_block hp4,ho4,(Gr.of hbw2).grown hg4 (fun k hk=>.inl (.inr hk)),?_,hp4⟩
   ·rcases hn4 with q|q
    ·exact .inl q
    ·exact .inr fun k hk=>Nat.le_trans (Nat.le_of_lt hsz) (q k hk)
 clear hH hbc hb2 hh2 xp x0 x1 hhp
 go_wp2_with fail
 go_region_with (go_at_call 197;refine ((Za INS) _ ?_ ?_ ?_ ?_).mono ?_;rfl;rfl;rfl;rfl;rintro e w4 ⟨a',c',rfl,p4,p4f,p4l,H4⟩)
 all_goals
  go_wp2
  go_ret
  obtain⟨ho4,hg4,hn4,hp4⟩:=Za H4
  have hp:=Za HP
  have hl:(K.take k++y :: K.drop k).length=n+1:=by
   have:=Za HN'
   simp only[List.length_append,List.length_take,List.length_cons,List.length_drop]
   omega
  have hnp:(Value.slice a' (n+1) c').ownBlock≠some p:=fun e=>by
   rcases hn4 with q|q
   ·rw[q] at e;exact (Za HNE) e
   ·have:=q p e;omega
  have hsub:∀ z∈K.take k++y :: K.drop k,z=y∨z∈K:=fun z hz=>by
   rcases List.mem_append.1 hz with q|q
   ·exact .inr (List.mem_of_mem_take q)
   ·rcases List.mem_cons.1 q with q|q
    ·exact .inl q
    ·exact .inr (List.mem_of_mem_drop q)
  have hgr:=hg4.one p 0 (.inl (.inl rfl)) (.slice a' (n+1) c')
  refine⟨.slice a' (n+1) c',K.take k++y :: K.drop k,rfl,(Za HPD).symm,hsub,by rw[hl,Za HN'],⟨?_,hp.ge,Rp hp4,?_,hnp,?_⟩,?_,?_⟩
  ·refine hgr.below hp.bel hp.bel.size (fun k hk=>?_)
   rcases hk with rfl|hk
   ·exact hp.ge
   ·exact Yx (Za HO) k hk
  ·rw[hl]
   exact ((Gr.refl w4 (fun k=>k=p)).one p 0 (.inl rfl) _).own ho4 (fun k hk e=>hnp (by rw[hk,e]))
  ·intro z hz
   rcases hsub z hz with rfl|q
   ·exact Za HY
   ·exact hp.lk z q
  ·rw[Za HN'];exact hgr
  ·rw[Za HN'];exact hn4
def Zm(h:Int):List InD→List Zf→List Zf→Int×List Zf×List Zf
 | [],S,L=>(0,S,L)
 | x :: r,S,L=>match Wz (x.1,x.2.1) L with
  | none=>(7,[],[])
  | some (c,M)=>if cr c=true∧h<ch c+2 then (10,[],[]) else if Y1 (ck c) x.2.2 h=false then (8,[],[]) else Zm h r (S++[c]) M
def Jc(name:Int)(i:Nat)(o:Yc)(h:Int)(r:Bool):Zf:=(name,(i:Int),o.1,o.2,h,r)
def Z7(name h:Int)(r:Bool):Nat→List Yc→List Zf→Int×List Zf
 | _,[],L=>(0,L)
 | i,o :: q,L=>if Xy (name,(i:Int)) L=true then (6,[]) else Z7 name h r (i+1) q (Qd (Jc name i o h r) L)
def Vw(name:Int):Nat→List Yc→List Zf→Int×List Zf
 | _,[],L=>(0,L)
 | i,o :: q,L=>match Wz (name,(i:Int)) L with
  | none=>(7,[])
  | some (c,M)=>if (cv c,ck c)=o then Vw name (i+1) q M else (7,[])
def Us:List InD→List Zf→List Zf→Int×List Zf
 | x :: r,c :: q,L=>if pt c≠(x.1,x.2.1)∨Xy (pt c) L=true then (6,[]) else Us r q (Qd c L)
 | _,_,L=>(0,L)
def okN(n:Int):Bool:=decide (1≤n) && decide (n≤120)
def isR(t:TxD):Bool:=decide (t.2.1.length=0)
def Vm(L:List Zf)(t:TxD):Int:=if Yj L≠0 then Yj L else Zo t
def Xq(L:List Zf)(t:TxD)(name h:Int):Int:=
 if Vm L t≠0 then Vm L t else if (okN name && okH h)=false then 3 else if isR t=true∧t.1≠h then 4 else 0
def Lu(S:List Zf)(t:TxD):Int:=if Z6 S - Yi t.2.2<0∧isR t=false then 9 else 0
def apD(L:List Zf)(t:TxD)(name h:Int):Int×List Zf×List Zf:=
 if Xq L t name h≠0 then (Xq L t name h,[],[])
 else
  if (Zm h t.2.1 [] L).1≠0 then ((Zm h t.2.1 [] L).1,[],[])
  else if Lu (Zm h t.2.1 [] L).2.1 t≠0 then (Lu (Zm h t.2.1 [] L).2.1 t,[],[])
  else if (Z7 name h (isR t) 0 t.2.2 (Zm h t.2.1 [] L).2.2).1≠0 then ((Z7 name h (isR t) 0 t.2.2 (Zm h t.2.1 [] L).2.2).1,[],[])
  else if Yj (Z7 name h (isR t) 0 t.2.2 (Zm h t.2.1 [] L).2.2).2≠0 then (Yj (Z7 name h (isR t) 0 t.2.2 (Zm h t.2.1 [] L).2.2).2,[],[])
  else (0,(Z7 name h (isR t) 0 t.2.2 (Zm h t.2.1 [] L).2.2).2,(Zm h t.2.1 [] L).2.1)
def rvD(L:List Zf)(t:TxD)(name:Int)(S:List Zf):Int×List Zf:=
 if Vm L t≠0 then (Vm L t,[])
 else if S.length≠t.2.1.length then (4,[])
 else if (Vw name 0 t.2.2 L).1≠0 then ((Vw name 0 t.2.2 L).1,[])
 else if (Us t.2.1 S (Vw name 0 t.2.2 L).2).1≠0 then ((Us t.2.1 S (Vw name 0 t.2.2 L).2).1,[])
 else if Yj (Us t.2.1 S (Vw name 0 t.2.2 L).2).2≠0 then (Yj (Us t.2.1 S (Vw name 0 t.2.2 L).2).2,[])
 else (0,(Us t.2.1 S (Vw name 0 t.2.2 L).2).2)
def MS.cells(s:MS):Array Value:=(s.cs.map (Value.int .i64)++([Value.int .i64 s.n,Value.int .i64 s.h,Value.bool s.f]:List Value)).toArray
theorem MS.cells_stack{s:MS}(hs:s.ok)(i:Nat)(hi:i<16):s.cells[i]? = some (.int .i64 (s.cs.getD i 0)):=by
 have hl:i<s.cs.length:=by rw[hs.1];exact hi
 simp[MS.cells,List.getElem?_append_left,hl]
theorem MS.cells_n{s:MS}(hs:s.ok):s.cells[16]? = some (.int .i64 s.n):=by
 have hl:=hs.1
 simp[MS.cells,hl]
theorem MS.cells_h{s:MS}(hs:s.ok):s.cells[17]? = some (.int .i64 s.h):=by
 have hl:=hs.1
 simp[MS.cells,hl]
theorem MS.cells_f{s:MS}(hs:s.ok):s.cells[18]? = some (.bool s.f):=by
 have hl:=hs.1
 simp[MS.cells,hl]
theorem MS.set_stack{s:MS}(hs:s.ok)(i:Nat)(hi:i<16)(x:Int):s.cells.setIfInBounds i (.int .i64 x)=MS.cells { s with cs:=s.cs.set i x }:=by
 have hl:i<(s.cs.map (Value.int .i64)).length:=by rw[List.length_map,hs.1];exact hi
 simp only[MS.cells,List.setIfInBounds_toArray,List.set_append_left _ _ hl,List.map_set]
theorem MS.set_n{s:MS}(hs:s.ok)(n:Nat):s.cells.setIfInBounds 16 (.int .i64 n)=MS.cells { s with n:=n }:=by
 have hl:(s.cs.map (Value.int .i64)).length=16:=by rw[List.length_map,hs.1]
 simp only[MS.cells,List.setIfInBounds_toArray]
 rw[List.set_append_right _ _ (by omega),hl];rfl
theorem MS.set_f{s:MS}(hs:s.ok)(b:Bool):s.cells.setIfInBounds 18 (.bool b)=MS.cells { s with f:=b }:=by
 have hl:(s.cs.map (Value.int .i64)).length=16:=by rw[List.length_map,hs.1]
 simp only[MS.cells,List.setIfInBounds_toArray]
 rw[List.set_append_right _ _ (by omega),hl];rfl
structure Mach(p:Nat)(s:MS)(W w:World):Prop where
 good:s.ok
 block:w.heap[p]? = some (.cells s.cells 319 (0,0))
 old:∀ k,k≠p→k<W.heap.size→w.heap[k]? = W.heap[k]?
 size:W.heap.size≤w.heap.size
 os:w.os=W.os
 tape:w.tape=W.tape
 output:w.output=W.output
theorem Mach.lt{p:Nat}{s:MS}{W w:World}(h:Mach p s W w):p<w.heap.size:=lt_of_block h.block
theorem Mach.cell{p:Nat}{s:MS}{W w:World}(h:Mach p s W w)(i:Nat):w.cell? ⟨p,i,none⟩=s.cells[i]?:=by simp[World.cell?,h.block]
theorem Mach.cell_n{p:Nat}{s:MS}{W w:World}(h:Mach p s W w):w.cell? ⟨p,16,none⟩=some (.int .i64 s.n):=by rw[h.cell,MS.cells_n h.good]
theorem Mach.cell_h{p:Nat}{s:MS}{W w:World}(h:Mach p s W w):w.cell? ⟨p,17,none⟩=some (.int .i64 s.h):=by rw[h.cell,MS.cells_h h.good]
theorem Mach.cell_f{p:Nat}{s:MS}{W w:World}(h:Mach p s W w):w.cell? ⟨p,18,none⟩=some (.bool s.f):=by rw[h.cell,MS.cells_f h.good]
theorem Mach.cell_s{p:Nat}{s:MS}{W w:World}(h:Mach p s W w)(i:Nat)(hi:i<16):w.cell? ⟨p,i,none⟩=some (.int .i64 (s.cs.getD i 0)):=by rw[h.cell,MS.cells_stack h.good i hi]
theorem Mach.free{p:Nat}{s:MS}{W w:World}(h:Mach p s W w)(i:Nat):w.frozen? ⟨p,i,none⟩=false:=by simp[World.frozen?,h.block]
theorem Mach.store{p:Nat}{s s':MS}{W w:World}(h:Mach p s W w)(i:Nat)(v:Value)(e:s.cells.setIfInBounds i v=s'.cells)(g:s'.ok):Mach p s' W (w.setCell ⟨p,i,none⟩ v) where
 good:=g
 block:=by
  rw[heap_setCell_same w p i s.cells 319 v h.block,e]
 old:=fun k hk hl=>by rw[heap_setCell_other w ⟨p,i,none⟩ k v hk];exact h.old k hk hl
 size:=by rw[World.size_setCell];exact h.size
 os:=h.os
 tape:=h.tape
 output:=h.output
theorem Mach.drew{p:Nat}{s:MS}{W w:World}(h:Mach p s W w):Mach p s W w.drew:=⟨h.good,h.block,h.old,h.size,h.os,h.tape,h.output⟩
theorem Mach.drewN{p:Nat}{s:MS}{W w:World}(h:Mach p s W w)(n:Nat):Mach p s W (w.drewN n):=⟨h.good,h.block,h.old,h.size,h.os,h.tape,h.output⟩
theorem Mach.alloc{p:Nat}{s:MS}{W w:World}(h:Mach p s W w)(o:Obj):Mach p s W (w.alloc o) where
 good:=h.good
 block:=by rw[Below.heap_alloc w o p h.lt];exact h.block
 old:=fun k hk hl=>by rw[Below.heap_alloc w o k (Nat.lt_of_lt_of_le hl h.size)];exact h.old k hk hl
 size:=by have:=h.size;simp;omega
 os:=h.os
 tape:=h.tape
 output:=h.output
theorem Mach.past{p:Nat}{s:MS}{W w:World}(h:Mach p s W w)(q:Addr)(hq:q.block≠p)(hl:q.block<W.heap.size):w.cell? q=W.cell? q:=World.cell?_of_block (w:=W) (h.old q.block hq hl)
theorem Mach.below{p:Nat}{s:MS}{W w:World}(h:Mach p s W w)(hp:W.heap.size≤p):Below W.heap.size W w:=
 ⟨h.os,h.tape,h.output,h.size,fun k hk=>h.old k (by omega) hk⟩
theorem Mach.trans{p:Nat}{s s':MS}{W V w:World}(h:Mach p s W V)(k:Mach p s' V w):Mach p s' W w where
 good:=k.good
 block:=k.block
 old:=fun j hj hl=>by rw[k.old j hj (Nat.lt_of_lt_of_le hl h.size)];exact h.old j hj hl
 size:=Nat.le_trans h.size k.size
 os:=k.os.trans h.os
 tape:=k.tape.trans h.tape
 output:=k.output.trans h.output
theorem Mach.self{p:Nat}{s:MS}{W w:World}(h:Mach p s W w):Mach p s w w:=⟨h.good,h.block,fun _ _ _=>rfl,Nat.le_refl _,rfl,rfl,rfl⟩
theorem Vb(n:Int)(b:Bool)(w:World)(hb:b=hOk n) :
  Calls Tryz.prog 195 #[.int .i64 n] w fun e w'=>e = .returned (.bool b)∧w=w':=by
 have HB:=Zb hb
 clear hb
 go_enter Tryz.func195,Tryz.ntmps195
 go_wp2_with (go_at_call 114;refine (Yu _ _ _ b _ (Za HB)).mono ?_;rintro e w' ⟨rfl,rfl⟩)
 go_ret
 exact⟨rfl,rfl⟩
theorem Ss(p:Nat)(s:MS)(W w:World)(hm:Mach p s W w) :
  Calls Tryz.prog 253 #[.pointer (some ⟨p,0,none⟩)] w fun e w'=>e = .returned (.tuple #[])∧Mach p s.fail W w':=by
 have c1:=hm.cell_f
 have c2:=hm.free 18
 have HM:=Zb hm
 clear hm
 go_enter Tryz.func253,Tryz.ntmps253
 go_wp2
 go_end0
 exact⟨rfl,(Za HM).store 18 _ (MS.set_f (Za HM).good true) (Za HM).good.fail_ok⟩
theorem Be{s:MS}{x:Int}(h:s.n=16∨fit x=false):s.put x=s.fail:=by unfold MS.put;rw[if_pos h];rfl
theorem Bd{s:MS}{x:Int}(h1:s.n≠16)(h2:fit x=true):s.put x={ s with cs:=s.cs.set s.n x,n:=s.n+1 }:=by unfold MS.put;rw[if_neg (by simp[h1,h2])]
theorem Wb(p:Nat)(s:MS)(x:Int)(W w:World)(hm:Mach p s W w) :
  Calls Tryz.prog 247 #[.pointer (some ⟨p,0,none⟩),.int .i64 x] w fun e w'=>e = .returned (.tuple #[])∧Mach p (s.put x) W w':=by
 have hn:=hm.good.2.1
 have c1:=hm.cell_n
 have HM:=Zb hm
 by_cases h1:s.n=16
 ·rw[Be (Or.inl h1)]
  rw[h1] at c1
  clear hm hn
  go_enter Tryz.func247,Tryz.ntmps247
  go_wp2_with (go_at_call 253;refine (Ss p s W _ (Za HM)).mono ?_;rintro e w' ⟨rfl,hm'⟩)
  first|go_end0|(simp only[Exit.inBlock,Exit.then];refine bodyPost_ret (results_none rfl _ _ _) rfl ?_)|refine bodyPost_ret (results_none rfl _ _ _) rfl ?_
  exact⟨rfl,by assumption⟩
 ·have g1:((s.n:Int) == 16)=false:=by simp;omega
  by_cases h2:fit x=true
  ·rw[Bd h1 h2]
   have c2:=hm.cell_s s.n (by omega)
   have c3:=hm.free s.n
   have c4:=hm.free 16
   have c5:((w.setCell ⟨p,s.n,none⟩ (.int .i64 x))).cell? ⟨p,16,none⟩=some (.int .i64 s.n):=by
    rw[World.cell?_setCell_other]
    ·exact c1
    ·exact fun e=>h1 (congrArg Addr.off e)
   have g2:(s.n:Int)<16:=by omega
   have H1:=Zb h1
   have H2:=Zb h2
   clear hm h1 h2
   go_enter Tryz.func247,Tryz.ntmps247
   go_wp2_with (go_at_call 246;refine (Sq _ true _ (Za H2).symm).mono ?_;rintro e w' ⟨rfl,rfl⟩)
   go_region
   all_goals go_wp2
   all_goals go_end0
   all_goals
    refine⟨rfl,Mach.drew ?_⟩
    have hm:=Za HM
    have g:=hm.good.put_ok x
    rw[Bd (Za H1) (Za H2)] at g
    have ok1:MS.ok { s with cs:=s.cs.set s.n x }:=⟨g.1,hm.good.2.1,g.2.2⟩
    exact (hm.store s.n _ (MS.set_stack hm.good s.n (by omega) x) ok1).store 16 _ (MS.set_n ok1 (s.n+1)) g
  ·have h3:fit x=false:=by simpa using h2
   rw[Be (Or.inr h3)]
   have H3:=Zb h3
   clear hm h2 h3 h1
   go_enter Tryz.func247,Tryz.ntmps247
   go_wp2_with (first|(go_at_call 246;refine (Sq _ false _ (Za H3).symm).mono ?_;rintro e w' ⟨rfl,rfl⟩)|(go_at_call 253;refine (Ss p s W _ (Za HM)).mono ?_;rintro e w' ⟨rfl,hm'⟩))
   first|go_end0|(simp only[Exit.inBlock,Exit.then];refine bodyPost_ret (results_none rfl _ _ _) rfl ?_)|refine bodyPost_ret (results_none rfl _ _ _) rfl ?_
   exact⟨rfl,by assumption⟩
theorem Zco{s:MS}(h:s.n=0):s.take=s.fail:=by unfold MS.take;rw[if_pos h];rfl
theorem Zcn{s:MS}(h:s.n≠0):s.take={ s with n:=s.n - 1 }:=by unfold MS.take;rw[if_neg h]
theorem Zfd{s:MS}(h:s.n=0):s.top=0:=by unfold MS.top;rw[if_pos h]
theorem Zfc{s:MS}(h:s.n≠0):s.top=s.cs.getD (s.n - 1) 0:=by unfold MS.top;rw[if_neg h]
theorem Yo(p:Nat)(s:MS)(W w:World)(hm:Mach p s W w) :
  Calls Tryz.prog 270 #[.pointer (some ⟨p,0,none⟩)] w fun e w'=>e = .returned (.int .i64 s.top)∧Mach p s.take W w':=by
 have hn:=hm.good.2.1
 have c1:=hm.cell_n
 have HM:=Zb hm
 by_cases h1:s.n=0
 ·rw[Zco h1,Zfd h1]
  rw[h1] at c1
  clear hm hn
  go_enter Tryz.func270,Tryz.ntmps270
  go_wp2_with (go_at_call 253;refine (Ss p s W _ (Za HM)).mono ?_;rintro e w' ⟨rfl,hm'⟩)
  go_ret
  exact⟨rfl,by assumption⟩
 ·obtain⟨m,hm1⟩:∃ m,s.n=m+1:=⟨s.n - 1,by omega⟩
  have e1:s.take={ s with n:=m }:=by rw[Zcn h1,hm1];rfl
  have e2:s.top=s.cs.getD m 0:=by rw[Zfc h1,hm1];rfl
  rw[e1,e2]
  have g1:(((m:Int)+1) == 0)=false:=by simp;omega
  rw[hm1] at c1
  have c2:(w.setCell ⟨p,16,none⟩ (.int .i64 m)).cell? ⟨p,m,none⟩=some (.int .i64 (s.cs.getD m 0)):=by
   rw[World.cell?_setCell_other]
   ·exact hm.cell_s m (by omega)
   ·exact fun e=>absurd (congrArg Addr.off e) (by show ¬(16=m);omega)
  have c3:(w.setCell ⟨p,16,none⟩ (.int .i64 m)).cell? ⟨p,16,none⟩=some (.int .i64 m):=World.cell?_setCell_same _ _ _ hm.cell_n
  have c4:=hm.free 16
  have g2:(m:Int)<16:=by omega
  have H1:=Zb hm1
  obtain⟨t,ht⟩:∃ t,t=s.cs.getD m 0:=⟨_,rfl⟩
  rw[←ht] at c2 ⊢
  clear hm h1 hm1 hn e1 e2 ht
  go_enter Tryz.func270,Tryz.ntmps270
  go_wp2
  go_quiet (fail)
  go_wp2
  go_ret
  refine⟨rfl,Mach.drewN ?_ _⟩
  have hm:=Za HM
  have h1:=Za H1
  exact hm.store 16 _ (MS.set_n hm.good m) ⟨hm.good.1,by show m≤16;omega,hm.good.2.2⟩
theorem Bg(p:Nat)(s:MS)(a:Option Addr)(cap:Nat)(W w:World)(hm:Mach p s W w) :
  Calls Tryz.prog 230 #[.pointer (some ⟨p,0,none⟩),.slice a 0 cap] w fun e w'=>e = .returned (.tuple #[])∧Mach p s W w':=by
 have HM:=Zb hm
 clear hm
 go_enter Tryz.func230,Tryz.ntmps230
 go_wp2
 refine wp_loop_rounds 1 ?_
 rw[rounds_succ]
 go_wp2
 go_end0
 exact⟨rfl,Za HM⟩
theorem Bf(p:Nat)(s:MS)(b off len cap:Nat)(Z:List Int)(W w:World)(hm:Mach p s W w)(hp:W.heap.size≤p)(hz:Z.length=len)(hl:len≤maxLen)
  (hb:b<W.heap.size) (hc:∀ i,i<len→W.cell? ⟨b,off+i,none⟩=some (.int .i64 (Z.getD i 0))) :
  Calls Tryz.prog 230 #[.pointer (some ⟨p,0,none⟩),.slice (some ⟨b,off,none⟩) len cap] w fun e w'=>e = .returned (.tuple #[])∧∃ s',Mach p s' W w'∧s'.h=s.h∧s'.rep=s.rep.bind (fun L=>Yf L Z):=by
 have HM:=Zb hm
 have HC:=Zb hc
 have HZ:=Zb hz
 unfold maxLen at hl
 clear hm hc hz
 go_enter Tryz.func230,Tryz.ntmps230
 go_wp2
 go_loopw [8] (fun i wr=>∃ (k:Nat) (s':MS),k≤len∧i = .int .i64 k∧Mach p s' W wr∧s'.h=s.h∧s'.rep=s.rep.bind (fun L=>Yf L (Z.take k))) (fun i _=>len - (intOf i).toNat)
 case atStart=>exact⟨0,s,Nat.zero_le _,rfl,Za HM,rfl,by cases s.rep <;> rfl⟩
 case round=>
  obtain⟨k,s',hk,rfl,hm,hh,hr⟩:=hrel
  have HM':=Zb hm
  have HH:=Zb hh
  have HR:=Zb hr
  clear hh hr
  by_cases hlt:k<len
  ·have c1:wr.cell? ⟨b,off+k,none⟩=some (.int .i64 (Z.getD k 0)):=(hm.past ⟨b,off+k,none⟩ (by show b≠p;omega) hb).trans ((Za HC) k hlt)
   obtain⟨x,hx⟩:∃ x,x=Z.getD k 0:=⟨_,rfl⟩
   rw[←hx] at c1
   have HX:=Zb hx
   clear hm hx
   go_wp2_with fail
   refine (Wb p s' x W _ (Za HM')).mono ?_
   rintro e w1 ⟨rfl,hm1⟩
   have HM1:=Zb hm1
   clear hm1
   go_wp2
   go_roundw
   case rel=>
    refine⟨k+1,s'.put x,by omega,by go_num,Za HM1,(MS.put_h _ _).trans (Za HH),?_⟩
    have hkl:k<Z.length:=by rw[Za HZ];exact hlt
    have ex:x=Z[k]:=by rw[Za HX];simp[hkl]
    rw[MS.rep_put (Za HM').good,Za HR,List.take_succ_eq_append_getElem hkl,ex]
    cases s.rep with
    | none=>rfl
    | some L=>exact (Ki _ _ _).symm
   case measure=>simp[intOf];omega
  ·clear hm
   go_wp2
   go_end0
   have e:k=len:=by omega
   subst e
   refine⟨rfl,s',Za HM',Za HH,?_⟩
   rw[Za HR,←Za HZ,List.take_length]
theorem Er(p:Nat)(s:MS)(a:Option Addr)(len cap:Nat)(Z:List Int)(W w:World)(hm:Mach p s W w)(hp:W.heap.size≤p)(hR:RowAt W a len Z) :
  Calls Tryz.prog 230 #[.pointer (some ⟨p,0,none⟩),.slice a len cap] w fun e w'=>e = .returned (.tuple #[])∧∃ s',Mach p s' W w'∧s'.h=s.h∧s'.rep=s.rep.bind (fun L=>Yf L Z):=by
 obtain⟨hz,hl,hc⟩:=hR
 by_cases h:len=0
 ·subst h
  have e:Z=[]:=List.length_eq_zero_iff.1 hz
  subst e
  exact (Bg p s a cap W w hm).mono fun e w' ⟨x,y⟩=>⟨x,s,y,rfl,by cases s.rep <;> rfl⟩
 ·obtain⟨b,off,rfl,hcell⟩:=hc (by omega)
  exact Bf p s b off len cap Z W w hm hp hz hl (World.block_lt_of_cell? _ _ (hcell 0 (by omega))) hcell
theorem Qk(b:Bool)(w:World) :
  Calls Tryz.prog 261 #[.bool b] w fun e w'=>e = .returned (.int .i64 (b01 b))∧w=w':=by
 cases b
 all_goals
  go_enter Tryz.func261,Tryz.ntmps261
  go_wp2
  go_ret
  exact⟨rfl,rfl⟩
theorem Zlh(a b:Int)(w:World)(ha:fit a=true)(hb:fit b=true) :
  Calls Tryz.prog 258 #[.int .i64 a,.int .i64 b] w fun e w'=>e = .returned (.int .i64 (g2 5 a b))∧w=w':=by
 have h1:=(Z0 a).1 ha
 have h2:=(Z0 b).1 hb
 clear ha hb
 go_enter Tryz.func258,Tryz.ntmps258
 go_wp2
 go_ret
 exact⟨rfl,rfl⟩
theorem Zlg(a b:Int)(w:World)(ha:fit a=true)(hb:fit b=true) :
  Calls Tryz.prog 259 #[.int .i64 a,.int .i64 b] w fun e w'=>e = .returned (.int .i64 (g2 6 a b))∧w=w':=by
 have h1:=(Z0 a).1 ha
 have h2:=(Z0 b).1 hb
 clear ha hb
 go_enter Tryz.func259,Tryz.ntmps259
 go_wp2
 go_ret
 exact⟨rfl,rfl⟩
theorem Zlf(a b:Int)(w:World) :
  Calls Tryz.prog 260 #[.int .i64 a,.int .i64 b] w fun e w'=>e = .returned (.int .i64 (g2 7 a b))∧w=w':=by
 go_enter Tryz.func260,Tryz.ntmps260
 go_wp2_with (go_at_call 261;refine (Qk _ _).mono ?_;rintro e w' ⟨rfl,rfl⟩)
 go_ret
 exact⟨rfl,rfl⟩
theorem Zle(a b:Int)(w:World) :
  Calls Tryz.prog 262 #[.int .i64 a,.int .i64 b] w fun e w'=>e = .returned (.int .i64 (g2 8 a b))∧w=w':=by
 go_enter Tryz.func262,Tryz.ntmps262
 go_wp2_with (go_at_call 261;refine (Qk _ _).mono ?_;rintro e w' ⟨rfl,rfl⟩)
 go_ret
 exact⟨rfl,rfl⟩
theorem Zlc(a b:Int)(w:World) :
  Calls Tryz.prog 265 #[.int .i64 a,.int .i64 b] w fun e w'=>e = .returned (.int .i64 (g2 10 a b))∧w=w':=by
 by_cases h:a=0
 ·have h1:(a != 0)=false:=by simp[h]
  have e:g2 10 a b=b01 false:=by simp[g2,h]
  rw[e]
  clear h e
  go_enter Tryz.func265,Tryz.ntmps265
  go_wp2_with (go_at_call 261;refine (Qk _ _).mono ?_;rintro e w' ⟨rfl,rfl⟩)
  go_ret
  exact⟨rfl,rfl⟩
 ·have h1:(a != 0)=true:=by simp[h]
  have e:g2 10 a b=b01 (b != 0):=by simp[g2,h1]
  rw[e]
  clear h e
  go_enter Tryz.func265,Tryz.ntmps265
  go_wp2_with (go_at_call 261;refine (Qk _ _).mono ?_;rintro e w' ⟨rfl,rfl⟩)
  go_ret
  exact⟨rfl,rfl⟩
theorem Zld(a:Int)(w:World) :
  Calls Tryz.prog 264 #[.int .i64 a] w fun e w'=>e = .returned (.int .i64 (g1 9 a))∧w=w':=by
 go_enter Tryz.func264,Tryz.ntmps264
 go_wp2_with (go_at_call 261;refine (Qk _ _).mono ?_;rintro e w' ⟨rfl,rfl⟩)
 go_ret
 exact⟨rfl,rfl⟩
theorem Zjc{k:IntKind}{a b:Int}(h:a=b):Ending.returned (.int k a) = .returned (.int k b):=by rw[h]
theorem Zjo(a:Int)(w:World)(ha:fit a=true) :
  Calls Tryz.prog 268 #[.int .i64 a] w fun e w'=>e = .returned (.int .i64 (g1 13 a))∧w=w':=by
 have hbd:=Zb (Zby a ha)
 have h1:=(Z0 a).1 ha
 clear ha
 go_enter Tryz.func268,Tryz.ntmps268
 go_wp2
 go_loop [3,6] (fun r i=>∃ k:Nat,k≤3∧i = .int .i64 k∧r = .int .i64 (Hb a k)) (fun _ i=>3 - (intOf i).toNat)
 case atStart=>exact⟨0,Nat.zero_le _,rfl,rfl⟩
 case round=>
  obtain⟨k,hk,rfl,rfl⟩:=hrel
  obtain⟨b1,b2⟩:=(Za hbd) k
  obtain⟨m,hm⟩:∃ m,m=Hb a k:=⟨_,rfl⟩
  rw[←hm] at b1 b2 ⊢
  have HM:=Zb hm
  clear hm
  by_cases hlt:k<3
  ·go_wp2
   go_round
   case rel=>
    refine⟨k+1,by omega,by go_num,?_⟩
    have:=Za HM
    simp only[Hb,←this]
   case measure=>simp[intOf];omega
  ·go_wp2
   go_ret
   have e:k=3:=by omega
   subst e
   refine⟨Zjc ?_,rfl⟩
   have:=Za HM
   simp only[g1,Bt,←this]
   simp
theorem Zhu(p:Nat)(s:MS)(n:Int)(W w:World)(hm:Mach p s W w) :
  Calls Tryz.prog 256 #[.pointer (some ⟨p,0,none⟩),.int .i64 n] w fun e w'=>e = .returned (.tuple #[])∧Mach p (s.step 4 n) W w':=by
 have HM:=Zb hm
 clear hm
 go_enter Tryz.func256,Tryz.ntmps256
 go_wp2_with (go_at_call 270;refine (Yo p s W _ (Za HM)).mono ?_;rintro e w' ⟨rfl,hm'⟩)
 go_end0
 exact⟨rfl,by assumption⟩
theorem Mn(p:Nat)(s:MS)(n:Int)(W w:World)(hm:Mach p s W w) :
  Calls Tryz.prog 267 #[.pointer (some ⟨p,0,none⟩),.int .i64 n] w fun e w'=>e = .returned (.tuple #[])∧Mach p (s.step 12 n) W w':=by
 have c1:=hm.cell_h
 have HM:=Zb hm
 clear hm
 go_enter Tryz.func267,Tryz.ntmps267
 go_wp2_with (go_at_call 247;refine (Wb p s _ W _ (Za HM)).mono ?_;rintro e w' ⟨rfl,hm'⟩)
 go_end0
 exact⟨rfl,by assumption⟩
theorem Zkc(p:Nat)(s:MS)(n:Int)(W w:World)(hm:Mach p s W w) :
  Calls Tryz.prog 254 #[.pointer (some ⟨p,0,none⟩),.int .i64 n] w fun e w'=>e = .returned (.tuple #[])∧Mach p (s.step 2 n) W w':=by
 have HM:=Zb hm
 clear hm
 go_enter Tryz.func254,Tryz.ntmps254
 go_wp2_with fail
 refine (Yo p s W _ (Za HM)).mono ?_
 rintro e w1 ⟨rfl,hm1⟩
 have HM1:=Zb hm1
 clear hm1
 go_wp2_with fail
 refine (Wb p s.take _ W _ (Za HM1)).mono ?_
 rintro e w2 ⟨rfl,hm2⟩
 have HM2:=Zb hm2
 clear hm2
 go_wp2_with fail
 refine (Wb p (s.take.put s.top) _ W _ (Za HM2)).mono ?_
 rintro e w3 ⟨rfl,hm3⟩
 have HM3:=Zb hm3
 clear hm3
 go_wp2
 go_end0
 exact⟨rfl,Za HM3⟩
theorem Zfh(p:Nat)(s:MS)(n:Int)(W w:World)(hm:Mach p s W w) :
  Calls Tryz.prog 255 #[.pointer (some ⟨p,0,none⟩),.int .i64 n] w fun e w'=>e = .returned (.tuple #[])∧Mach p (s.step 3 n) W w':=by
 have HM:=Zb hm
 clear hm
 go_enter Tryz.func255,Tryz.ntmps255
 go_wp2_with fail
 refine (Yo p s W _ (Za HM)).mono ?_
 rintro e w1 ⟨rfl,hm1⟩
 have HM1:=Zb hm1
 clear hm1
 go_wp2_with fail
 refine (Yo p s.take W _ (Za HM1)).mono ?_
 rintro e w2 ⟨rfl,hm2⟩
 have HM2:=Zb hm2
 clear hm2
 go_wp2_with fail
 refine (Wb p s.take.take _ W _ (Za HM2)).mono ?_
 rintro e w3 ⟨rfl,hm3⟩
 have HM3:=Zb hm3
 clear hm3
 go_wp2_with fail
 refine (Wb p (s.take.take.put s.top) _ W _ (Za HM3)).mono ?_
 rintro e w4 ⟨rfl,hm4⟩
 have HM4:=Zb hm4
 clear hm4
 go_wp2
 go_end0
 exact⟨rfl,Za HM4⟩
theorem Ef(p:Nat)(s:MS)(n:Int)(W w:World)(hm:Mach p s W w) :
  Calls Tryz.prog 266 #[.pointer (some ⟨p,0,none⟩),.int .i64 n] w fun e w'=>e = .returned (.tuple #[])∧Mach p (s.step 11 n) W w':=by
 have HM:=Zb hm
 clear hm
 by_cases h:s.top=0
 ·have e0:s.step 11 n=s.take.fail:=by simp[MS.step,h]
  have h1:(s.top == 0)=true:=by simp[h]
  rw[e0]
  clear h e0
  go_enter Tryz.func266,Tryz.ntmps266
  go_wp2_with fail
  refine (Yo p s W _ (Za HM)).mono ?_
  rintro e w1 ⟨rfl,hm1⟩
  have HM1:=Zb hm1
  clear hm1
  go_wp2_with fail
  refine (Ss p s.take W _ (Za HM1)).mono ?_
  rintro e w2 ⟨rfl,hm2⟩
  have HM2:=Zb hm2
  clear hm2
  go_wp2
  go_end0
  exact⟨rfl,Za HM2⟩
 ·have e0:s.step 11 n=s.take:=by simp[MS.step,h]
  have h1:(s.top == 0)=false:=by simp[h]
  rw[e0]
  clear h e0
  go_enter Tryz.func266,Tryz.ntmps266
  go_wp2_with fail
  refine (Yo p s W _ (Za HM)).mono ?_
  rintro e w1 ⟨rfl,hm1⟩
  have HM1:=Zb hm1
  clear hm1
  go_wp2
  go_end0
  exact⟨rfl,Za HM1⟩
end Go.Proofs.YtpikejjiignchaaGreatDoor
