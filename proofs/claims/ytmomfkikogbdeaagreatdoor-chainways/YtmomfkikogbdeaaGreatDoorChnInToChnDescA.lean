/- Whole rows by value where a function holds a loop over an iterator; two rows held against each other. -/
import Derived.Test.YtmomfkikogbdeaaGreatDoorBlkDisAToChnBack
import Derived.Test.YtmomfkikogbdeaaGreatDoorBlkHeadToTxParts
import Derived.DeepKeys
import Derived.Laws.StructEq
import Derived.Test.YtmomfkikogbdeaaGreatDoorChnCoinsToChnChained
namespace Go.Proofs.YtmomfkikogbdeaaGreatDoor
open Go.RowKit Go.Shelf

theorem wpListIn_load_row {F : Fence} {n : Nat} {P : Program} {ops : Array Oper} {rest : List Oper} {o : Oper} {a : Act} {w : World} {Q : Exit → Act → World → Prop} (hgd : o.guard = none) (ty : TypeId) (x : Operand) (ho : o.op = .load ty x)
    (g : Nat) (hx : a.eval x = .pointer (some ⟨g, 0, none⟩)) (c : Array Value) (t : TypeId) (hg : w.heap[g]? = some (.cells c t (0, 0))) (m : Nat) (e : TypeId) (hu : P.underlying ty = some (.array m e)) (hi : (P.info? ty).map (·.size) = some c.size)
    (h : wpListIn F n P ops Q rest (a.put o.dst (.agg c)) w) : wpListIn F n P ops Q (o :: rest) a w := by
  refine wpListIn_plain hgd fun K hK => ?_
  unfold Oper.wpIn
  refine ⟨?_, ?_⟩
  · simp [Oper.about, ho]
  · rw [Oper.semAt_plain F _ _ (by rw [ho]; intro c hc'; cases hc')]
    unfold execOp
    simp only [ho, hx, Instr.loadAt, Instr.sureAddr, Sem.run_bind, Sem.run_pure, Result.andThen_ok, run_loadVar_row w g t ty c (0, 0) _ hg hu rfl hi]
    exact hK _ _ h
theorem wpListIn_store_row {F : Fence} {n : Nat} {P : Program} {ops : Array Oper} {rest : List Oper} {o : Oper} {a : Act} {w : World} {Q : Exit → Act → World → Prop} (hgd : o.guard = none) (ty : TypeId) (x y : Operand) (ho : o.op = .store ty x y)
    (g : Nat) (hx : a.eval x = .pointer (some ⟨g, 0, none⟩)) (c c' : Array Value) (hy : a.eval y = .agg c') (t : TypeId) (hg : w.heap[g]? = some (.cells c t (0, 0))) (hi : (P.info? ty).map (·.size) = some c'.size) (hs : c.size = c'.size) (h1 : c'.all (·.oneCell') = true)
    (h : wpListIn F n P ops Q rest (a.put o.dst undef) (w.setRow g c')) : wpListIn F n P ops Q (o :: rest) a w := by
  refine wpListIn_plain hgd fun K hK => ?_
  unfold Oper.wpIn
  refine ⟨?_, ?_⟩
  · simp [Oper.about, ho]
  · rw [Oper.semAt_plain F _ _ (by rw [ho]; intro c hc'; cases hc')]
    unfold execOp
    simp only [ho, hx, hy, Instr.storeAt, Instr.sureAddr, Sem.run_bind, Sem.run_pure, Result.andThen_ok, run_storeVar_row w g t ty c c' hg hi hs h1]
    exact hK _ _ h
theorem rows_items (A B : List Int) (W : World) : ∀ (is : List Nat), (∀ i ∈ is, i < A.length ∧ i < B.length) → (Op.eqItems 9999 3 1 (rowV A).toArray (rowV B).toArray is).run Tryz.prog W = .ok (is.all fun i => A.getD i 0 == B.getD i 0) W
  | [], _ => by simp [Op.eqItems]
  | i :: is, h => by
    have hk : Tryz.prog.plainKey 3 = true := by kernel_rfl
    obtain ⟨h1, h2⟩ := h i (by simp)
    have p0 : (part 3 (rowV A).toArray (i * 1)).run Tryz.prog W = .ok (.int .i64 A[i]) W := run_part_plain W hk (by simp [rowV, h1])
    have p1 : (part 3 (rowV B).toArray (i * 1)).run Tryz.prog W = .ok (.int .i64 B[i]) W := run_part_plain W hk (by simp [rowV, h2])
    have q : (Op.equalIn 9999 3 (.int .i64 A[i]) (.int .i64 B[i])).run Tryz.prog W = .ok (A[i] == B[i]) W := run_equalIn_int W 9998 3 .i64 .i64 _ _ Tryz.underlying3
    have ih := rows_items A B W is (fun j hj => h j (by simp [hj]))
    simp only [Op.eqItems, Sem.run_bind, p0, p1, Result.andThen_ok, q]
    by_cases e : A[i] = B[i]
    · simp [e, ih, List.getD, h1, h2]
    · simp [e, List.getD, h1, h2]
theorem Tryz.underRow : Tryz.prog.underlying 129 = some (.array 24 3) := by kernel_rfl
theorem rows_eql (A : List Int) (hA : A.length = 24) (W : World) : (binOp .eql 129 (.agg (rowV A).toArray) (.agg (rowV (List.replicate 24 0)).toArray)).run Tryz.prog W = .ok (.bool (decide (A = List.replicate 24 0))) W := by
  obtain ⟨i0, hi, _, _, _⟩ := info_parts Tryz.infoInt
  have hc : Tryz.prog.cellsOf 3 = 1 := by kernel_rfl
  have key : ((List.range 24).all fun i => A.getD i 0 == (List.replicate 24 (0 : Int)).getD i 0) = decide (A = List.replicate 24 0) := by
    rw [Bool.eq_iff_iff]
    simp only [List.all_eq_true, List.mem_range, beq_iff_eq, decide_eq_true_eq]
    constructor
    · intro h
      refine List.ext_getElem (by rw [hA, List.length_replicate]) fun i h1 h2 => ?_
      have := h i (by omega)
      rw [getD_rep] at this
      rw [List.getElem_replicate]
      simpa [List.getD, h1] using this
    · intro h i _
      rw [h]
  have e : (Op.equalIn 10000 129 (.agg (rowV A).toArray) (.agg (rowV (List.replicate 24 0)).toArray)).run Tryz.prog W = .ok (decide (A = List.replicate 24 0)) W := by
    rw [show (10000 : Nat) = 9999 + 1 from rfl, run_equalIn_array W 9999 _ _ Tryz.underRow hi, hc, rows_items A _ W _ (fun i hi => by rw [List.mem_range] at hi; rw [hA, List.length_replicate]; omega), key]
  rw [run_eql_struct, e]
  rfl

end Go.Proofs.YtmomfkikogbdeaaGreatDoor

/- The contract of descend, the ways that don't come to its loop; what its loop does, as a list (written by a program of ours: mkdesc.py). -/
namespace Go.Proofs.YtmomfkikogbdeaaGreatDoor
open Go.RowKit Go.Shelf

/-! Going down step by step, as a list. -/
def foL (st : Nat → List CoinD → Int × List CoinD) : List Nat → List CoinD → Int × List CoinD
  | [], C => (0, C)
  | i :: r, C => if (st i C).1 ≠ 0 then ((st i C).1, []) else foL st r (st i C).2
def dsSt (K : List ByteArray) (N : List Int) (T : List BlkD) (L : List Int) (U : List (List (List CoinD))) (k : Nat) (C : List CoinD) : Int × List CoinD :=
  if L.getD k 0 = 0 then (0, C) else
      if (Tr.blockE N T (L.getD k 0)).2 ≠ 0 then ((Tr.blockE N T (L.getD k 0)).2, []) else
      if (disD K C (Tr.blockE N T (L.getD k 0)).1 (U.getD k [])).1 ≠ 0 then ((disD K C (Tr.blockE N T (L.getD k 0)).1 (U.getD k [])).1, []) else (0, (disD K C (Tr.blockE N T (L.getD k 0)).1 (U.getD k [])).2)
theorem ds_list (K : List ByteArray) (N : List Int) (T : List BlkD) (L : List Int) (U : List (List (List CoinD))) : ∀ (q : Nat) (C : List CoinD), dsGo K N T L U q C = foL (dsSt K N T L U) (downto q) C
  | 0, C => rfl
  | q + 1, C => by
    rw [dsGo, downto, foL]
    by_cases h1 : L.getD q 0 = 0
    · have e : dsSt K N T L U q C = (0, C) := by rw [dsSt, if_pos h1]
      rw [if_pos h1, e, if_neg (fun r => r rfl), ds_list K N T L U q]
    · rw [if_neg h1]
      by_cases h2 : (Tr.blockE N T (L.getD q 0)).2 = 0
      · rw [if_neg (fun r => r h2)]
        by_cases h3 : (disD K C (Tr.blockE N T (L.getD q 0)).1 (U.getD q [])).1 = 0
        · have e : dsSt K N T L U q C = (0, (disD K C (Tr.blockE N T (L.getD q 0)).1 (U.getD q [])).2) := by rw [dsSt, if_neg h1, if_neg (fun r => r h2), if_neg (fun r => r h3)]
          rw [if_neg (fun r => r h3), e, if_neg (fun r => r rfl), ds_list K N T L U q]
        · have e : dsSt K N T L U q C = ((disD K C (Tr.blockE N T (L.getD q 0)).1 (U.getD q [])).1, []) := by rw [dsSt, if_neg h1, if_neg (fun r => r h2), if_pos h3]
          rw [if_pos h3, e, if_pos h3]
      · have e : dsSt K N T L U q C = ((Tr.blockE N T (L.getD q 0)).2, []) := by rw [dsSt, if_neg h1, if_pos h2]
        rw [if_pos h2, e, if_pos h2]
theorem foL_snoc {st : Nat → List CoinD → Int × List CoinD} {i : Nat} {y : Int} {M : List CoinD} : ∀ {l : List Nat} {C C1 : List CoinD}, foL st l C = (0, C1) → st i C1 = (y, M) → foL st (l ++ [i]) C = if y ≠ 0 then (y, []) else (0, M)
  | [], C, C1, h, hs => by
    rw [foL] at h
    injection h with _ h
    subst h
    rw [List.nil_append, foL, hs]
    rfl
  | j :: l, C, C1, h, hs => by
    rw [foL] at h
    rw [List.cons_append, foL]
    split at h
    · rename_i q; injection h with h _; exact absurd h q
    · rename_i q
      rw [if_neg q]
      exact foL_snoc h hs
theorem foL_err {st : Nat → List CoinD → Int × List CoinD} {y : Int} {M : List CoinD} {r : List Nat} : ∀ {l : List Nat} {C : List CoinD}, foL st l C = (y, M) → y ≠ 0 → foL st (l ++ r) C = (y, [])
  | [], C, h, hy => by
    rw [foL] at h
    injection h with h _
    exact absurd h.symm hy
  | j :: l, C, h, hy => by
    rw [foL] at h
    rw [List.cons_append, foL]
    split at h
    · rename_i q
      rw [if_pos q]
      injection h with h _
      rw [h]
    · rename_i q
      rw [if_neg q]
      exact foL_err h hy
/-- Seven boxes, one behind the other. -/
theorem seven_boxes (w : World) (o1 o2 o3 o4 o5 o6 o7 : Obj) (X : World) (hX : X = ((((((w.alloc o1).alloc o2).alloc o3).alloc o4).alloc o5).alloc o6).alloc o7) :
    Below w.heap.size w X ∧ X.heap.size = w.heap.size + 7 ∧ X.heap[w.heap.size]? = some o1 ∧ X.heap[w.heap.size + 1]? = some o2 ∧ X.heap[w.heap.size + 2]? = some o3 ∧ X.heap[w.heap.size + 3]? = some o4 ∧ X.heap[w.heap.size + 4]? = some o5 ∧ X.heap[w.heap.size + 5]? = some o6 ∧ X.heap[w.heap.size + 6]? = some o7 := by
  obtain ⟨b, s, h1, h2, h3, h4, h5, h6⟩ := six_boxes w o1 o2 o3 o4 o5 o6 _ rfl
  have b7 := bel_new ((((((w.alloc o1).alloc o2).alloc o3).alloc o4).alloc o5).alloc o6) o7
  have h7 := heap_alloc_new ((((((w.alloc o1).alloc o2).alloc o3).alloc o4).alloc o5).alloc o6) o7
  rw [s] at h7
  subst hX
  exact ⟨bel_on b b7, by simp [World.size_alloc], (b7.block _ (lt_of_block h1)).trans h1, (b7.block _ (lt_of_block h2)).trans h2, (b7.block _ (lt_of_block h3)).trans h3, (b7.block _ (lt_of_block h4)).trans h4, (b7.block _ (lt_of_block h5)).trans h5, (b7.block _ (lt_of_block h6)).trans h6, h7⟩

set_option maxRecDepth 10000 in
set_option maxHeartbeats 3200000 in
theorem desc_none (ka : Option Addr) (kn kc : Nat) (K : List ByteArray) (a b : Option Addr) (n c m d : Nat) (N : List Int) (T : List BlkD) (la : Option Addr) (ln lc : Nat) (C0 : List CoinD) (R L : List Int) (w : World) (_hE : Env w) (_hK : Bk.TextsAt w ka kn K) (_hN : Tr.IntsAt w a n N) (_hT : Tr.BlksAt w b m T) (_sN : SlOk a n c) (_sT : SlOk b m d) (hC : CoinsAt w la ln C0) (sC : SlOk la ln lc) (hR : R.length = 24) (hL : L.length = 24) (hzz : L = List.replicate 24 0) :
    Calls Tryz.prog 65 #[.agg #[.slice ka kn kc], .agg #[.slice a n c, .slice b m d], .slice la ln lc, .agg (rowV R).toArray, .agg (rowV L).toArray] w fun e w' => CnR w w' 0 C0 e := by
  obtain ⟨X, hX⟩ : ∃ X, X = ((((((w.alloc (.cells #[.slice ka kn kc] 24)).alloc (.cells #[.slice a n c, .slice b m d] 28)).alloc (.cells #[.slice la ln lc] 29)).alloc (.cells (rowV R).toArray 129)).alloc (.cells (rowV L).toArray 129)).alloc (.cells #[.slice none 0 0] 29)).alloc (.cells #[.int .i64 0] 30) := ⟨_, rfl⟩
  obtain ⟨hbX, hXs, x1, x2, x3, x4, x5, x6, x7⟩ := seven_boxes w _ _ _ _ _ _ _ X hX
  have hLI := row_info hL
  have hRI := row_info hR
  have HLX : Hid ((((((((w.alloc (.cells #[.slice ka kn kc] 24)).alloc (.cells #[.slice a n c, .slice b m d] 28)).alloc (.cells #[.slice la ln lc] 29)).alloc (.cells (rowV R).toArray 129)).alloc (.cells (rowV L).toArray 129)).alloc (.cells #[.slice none 0 0] 29)).alloc (.cells #[.int .i64 0] 30)).heap[w.heap.size + 4]? = some (.cells (rowV L).toArray 129 (0, 0))) := by rw [← hX]; exact x5
  obtain ⟨z, hz⟩ : ∃ z, decide (L = List.replicate 24 0) = z := ⟨_, rfl⟩
  have hEQ : ∀ V : World, (binOp .eql 129 (.agg (rowV L).toArray) (.agg #[.int .i64 0, .int .i64 0, .int .i64 0, .int .i64 0, .int .i64 0, .int .i64 0, .int .i64 0, .int .i64 0, .int .i64 0, .int .i64 0, .int .i64 0, .int .i64 0, .int .i64 0, .int .i64 0, .int .i64 0, .int .i64 0, .int .i64 0, .int .i64 0, .int .i64 0, .int .i64 0, .int .i64 0, .int .i64 0, .int .i64 0, .int .i64 0])).run Tryz.prog V = .ok (.bool z) V := fun V => by rw [zero24, ← hz]; exact rows_eql L hL V
  have HBX := hide hbX
  have HX1 := hide x1
  have HX2 := hide x2
  have HX3 := hide x3
  have HX4 := hide x4
  have HX5 := hide x5
  have HX6 := hide x6
  have HX7 := hide x7
  have HXS := hide hXs
  obtain rfl : z = true := by rw [← hz]; simpa using hzz
  obtain ⟨Y, hY⟩ : ∃ Y, Y = ((((((w.alloc (.cells #[.slice ka kn kc] 24)).alloc (.cells #[.slice a n c, .slice b m d] 28)).alloc (.cells #[.slice la ln lc] 29)).alloc (.cells (rowV R).toArray 129)).alloc (.cells (rowV L).toArray 129)).alloc (.cells #[.slice la ln lc] 29)).alloc (.cells #[.int .i64 0] 30) := ⟨_, rfl⟩
  obtain ⟨hbY, hYs, y1, y2, y3, y4, y5, y6, y7⟩ := seven_boxes w _ _ _ _ _ _ _ Y hY
  have z6 := cell_of (X := [.slice la ln lc]) y6 0 _ rfl
  have z7 := cell_of (X := [.int .i64 0]) y7 0 _ rfl
  have HF : Hid (CnR w Y 0 C0 (.returned (.tuple #[.slice la ln lc, .int .i64 0]))) := ⟨la, ln, lc, rfl, hC.later hbY, sC, hbY⟩
  clear _hE _hK _hN _hT _sN _sT hC sC hR hL hbX hXs x1 x2 x3 x4 x5 x6 x7 hz hzz hRI hbY hYs y1 y2 y3 y4 y5 y6 y7 hX HBX HX1 HX2 HX3 HX4 HX5 HX6 HX7 HXS
  go_enter Tryz.func65, Tryz.ntmps65
  go_wp2_with (refine wpList_load_row rfl 129 _ rfl _ rfl _ _ (unhide HLX) _ _ Tryz.underlying129 hLI ?_)
  rw [← hY]
  clear hY
  (try simp only [Exit.inBlock, Exit.then])
  refine bodyPost_ret (v := .tuple #[.slice la ln lc, .int .i64 0]) ?_ rfl (unhide HF)
  simp [results, Tryz.f65, go_sem, z6, z7]

set_option maxRecDepth 10000 in
set_option maxHeartbeats 3200000 in
theorem desc_bad (ka : Option Addr) (kn kc : Nat) (K : List ByteArray) (a b : Option Addr) (n c m d : Nat) (N : List Int) (T : List BlkD) (la : Option Addr) (ln lc : Nat) (C0 : List CoinD) (R L : List Int) (w : World) (hE : Env w) (hK : Bk.TextsAt w ka kn K) (hN : Tr.IntsAt w a n N) (hT : Tr.BlksAt w b m T) (sN : SlOk a n c) (sT : SlOk b m d) (_hC : CoinsAt w la ln C0) (_sC : SlOk la ln lc) (hR : R.length = 24) (hL : L.length = 24) (x4 : Int) (C4 : List CoinD) (U4 : List (List (List CoinD))) (hcl : clGo K N T R [] [] = (x4, C4, U4)) (hzz : ¬ L = List.replicate 24 0) (hx4 : x4 ≠ 0) :
    Calls Tryz.prog 65 #[.agg #[.slice ka kn kc], .agg #[.slice a n c, .slice b m d], .slice la ln lc, .agg (rowV R).toArray, .agg (rowV L).toArray] w fun e w' => CnR w w' x4 [] e := by
  obtain ⟨X, hX⟩ : ∃ X, X = ((((((w.alloc (.cells #[.slice ka kn kc] 24)).alloc (.cells #[.slice a n c, .slice b m d] 28)).alloc (.cells #[.slice la ln lc] 29)).alloc (.cells (rowV R).toArray 129)).alloc (.cells (rowV L).toArray 129)).alloc (.cells #[.slice none 0 0] 29)).alloc (.cells #[.int .i64 0] 30) := ⟨_, rfl⟩
  obtain ⟨hbX, hXs, x1, x2, x3, x4_, x5, x6, x7⟩ := seven_boxes w _ _ _ _ _ _ _ X hX
  have hLI := row_info hL
  have hRI := row_info hR
  have HLX : Hid ((((((((w.alloc (.cells #[.slice ka kn kc] 24)).alloc (.cells #[.slice a n c, .slice b m d] 28)).alloc (.cells #[.slice la ln lc] 29)).alloc (.cells (rowV R).toArray 129)).alloc (.cells (rowV L).toArray 129)).alloc (.cells #[.slice none 0 0] 29)).alloc (.cells #[.int .i64 0] 30)).heap[w.heap.size + 4]? = some (.cells (rowV L).toArray 129 (0, 0))) := by rw [← hX]; exact x5
  obtain ⟨z, hz⟩ : ∃ z, decide (L = List.replicate 24 0) = z := ⟨_, rfl⟩
  have hEQ : ∀ V : World, (binOp .eql 129 (.agg (rowV L).toArray) (.agg #[.int .i64 0, .int .i64 0, .int .i64 0, .int .i64 0, .int .i64 0, .int .i64 0, .int .i64 0, .int .i64 0, .int .i64 0, .int .i64 0, .int .i64 0, .int .i64 0, .int .i64 0, .int .i64 0, .int .i64 0, .int .i64 0, .int .i64 0, .int .i64 0, .int .i64 0, .int .i64 0, .int .i64 0, .int .i64 0, .int .i64 0, .int .i64 0])).run Tryz.prog V = .ok (.bool z) V := fun V => by rw [zero24, ← hz]; exact rows_eql L hL V
  have HBX := hide hbX
  have HX1 := hide x1
  have HX2 := hide x2
  have HX3 := hide x3
  have HX4 := hide x4_
  have HX5 := hide x5
  have HX6 := hide x6
  have HX7 := hide x7
  have HXS := hide hXs
  obtain rfl : z = false := by rw [← hz]; simpa using hzz
  have CL := hide (climb_is ka kn kc K a b n c m d N T none 0 0 [] R x4 C4 U4 X (hE.later hbX) (hK.later hbX) (hN.later hbX) (hT.later hbX) sN sT ⟨rfl, fun h => absurd h (by omega)⟩ slok_nil hR hcl)
  have c1 := cell_of (X := [.slice ka kn kc]) x1 0 _ rfl
  have l1 := lt_of_block x1
  have c20 := cell_of (X := [.slice a n c, .slice b m d]) x2 0 _ rfl
  have c21 := cell_of (X := [.slice a n c, .slice b m d]) x2 1 _ rfl
  have l2 := lt_of_block x2
  have HRX : Hid ((((((((w.alloc (.cells #[.slice ka kn kc] 24)).alloc (.cells #[.slice a n c, .slice b m d] 28)).alloc (.cells #[.slice la ln lc] 29)).alloc (.cells (rowV R).toArray 129)).alloc (.cells (rowV L).toArray 129)).alloc (.cells #[.slice none 0 0] 29)).alloc (.cells #[.int .i64 0] 30)).heap[w.heap.size + 3]? = some (.cells (rowV R).toArray 129 (0, 0))) := by rw [← hX]; exact x4_
  clear hE hK hN hT sN sT _hC _sC hR hL hbX hXs x1 x2 x3 x4_ x5 x6 x7 hz hzz hcl
  go_enter Tryz.func65, Tryz.ntmps65
  go_wp2_with (first | refine wpList_load_row rfl 129 _ rfl _ rfl _ _ (unhide HLX) _ _ Tryz.underlying129 hLI ?_ | refine wpList_load_row rfl 129 _ rfl _ rfl _ _ (unhide HRX) _ _ Tryz.underlying129 hRI ?_)
  rw [← hX]
  clear hX HLX HRX
  refine (unhide CL).mono ?_
  rintro e w1 ⟨oa, oon, oc, cs, rfl, hC1, sC1, hUn, hb1⟩
  have hci := un_info hUn.1
  have hc1 := hUn.one
  have hus : ((List.replicate 24 (Value.slice none 0 0)).toArray : Array Value).size = cs.toArray.size := by simp [hUn.1]
  clear hC1 sC1 CL c1 l1 c20 c21 l2
  obtain ⟨CC, hCC⟩ : ∃ CC, cs.toArray = CC := ⟨_, rfl⟩
  rw [hCC] at hci hc1 hus
  rw [hCC]
  clear hCC hUn
  have HZ3 : Hid ((w1.alloc (.cells #[.slice none 0 0, .slice none 0 0, .slice none 0 0, .slice none 0 0, .slice none 0 0, .slice none 0 0, .slice none 0 0, .slice none 0 0, .slice none 0 0, .slice none 0 0, .slice none 0 0, .slice none 0 0, .slice none 0 0, .slice none 0 0, .slice none 0 0, .slice none 0 0, .slice none 0 0, .slice none 0 0, .slice none 0 0, .slice none 0 0, .slice none 0 0, .slice none 0 0, .slice none 0 0, .slice none 0 0] 133)).heap[w1.heap.size]? = some (.cells (List.replicate 24 (Value.slice none 0 0)).toArray 133 (0, 0))) := by rw [zeroU24]; exact heap_alloc_new _ _
  obtain ⟨Y, hY⟩ : ∃ Y, Y = w1.alloc (.cells CC 133) := ⟨_, rfl⟩
  have E3 : Hid ((w1.alloc (.cells #[.slice none 0 0, .slice none 0 0, .slice none 0 0, .slice none 0 0, .slice none 0 0, .slice none 0 0, .slice none 0 0, .slice none 0 0, .slice none 0 0, .slice none 0 0, .slice none 0 0, .slice none 0 0, .slice none 0 0, .slice none 0 0, .slice none 0 0, .slice none 0 0, .slice none 0 0, .slice none 0 0, .slice none 0 0, .slice none 0 0, .slice none 0 0, .slice none 0 0, .slice none 0 0, .slice none 0 0] 133)).setRow w1.heap.size CC = Y) := by rw [hY]; exact World.setRow_alloc_new _ _ _ _
  have hbY : Below w1.heap.size w1 Y := by rw [hY]; exact bel_new _ _
  have hXY := bel_on hb1 hbY
  have hwY := bel_on (unhide HBX) hXY
  have y6 := (hXY.block _ (lt_of_block (unhide HX6))).trans (unhide HX6)
  have y7 := (hXY.block _ (lt_of_block (unhide HX7))).trans (unhide HX7)
  have c6 := cell_of (X := [.slice none 0 0]) y6 0 _ rfl
  have f6 := frozen_of y6 0
  have l6 := lt_of_block y6
  have f7 := frozen_of y7 0
  have g1 : Gr Y (Y.setCell ⟨w.heap.size + 5, 0, none⟩ (.slice none 0 0)) (fun q => q = w.heap.size + 5) := (Gr.refl Y (fun q => q = w.heap.size + 5)).set (p := ⟨w.heap.size + 5, 0, none⟩) (.inl rfl) _
  have e7 := g1.heap y7 (by omega)
  have c7 := cell_of (X := [.int .i64 0]) e7 0 _ rfl
  have l7 := lt_of_block e7
  have l7y := lt_of_block y7
  have g2 : Gr (Y.setCell ⟨w.heap.size + 5, 0, none⟩ (.slice none 0 0)) ((Y.setCell ⟨w.heap.size + 5, 0, none⟩ (.slice none 0 0)).setCell ⟨w.heap.size + 6, 0, none⟩ (.int .i64 x4)) (fun q => q = w.heap.size + 6) := (Gr.refl _ (fun q => q = w.heap.size + 6)).set (p := ⟨w.heap.size + 6, 0, none⟩) (.inl rfl) _
  have e6 : (Y.setCell ⟨w.heap.size + 5, 0, none⟩ (.slice none 0 0)).heap[w.heap.size + 5]? = some (.cells #[.slice none 0 0] 29 (0, 0)) := box_set y6
  have k6 := g2.heap e6 (by omega)
  have k7 : ((Y.setCell ⟨w.heap.size + 5, 0, none⟩ (.slice none 0 0)).setCell ⟨w.heap.size + 6, 0, none⟩ (.int .i64 x4)).heap[w.heap.size + 6]? = some (.cells #[.int .i64 x4] 30 (0, 0)) := box_set e7
  have hb2 : Below w.heap.size w ((Y.setCell ⟨w.heap.size + 5, 0, none⟩ (.slice none 0 0)).setCell ⟨w.heap.size + 6, 0, none⟩ (.int .i64 x4)) := g2.below (g1.below hwY hwY.size (fun q e => by omega)) (g1.below hwY hwY.size (fun q e => by omega)).size (fun q e => by omega)
  have z6 := cell_of (X := [.slice none 0 0]) k6 0 _ rfl
  have z7 := cell_of (X := [.int .i64 x4]) k7 0 _ rfl
  have HF : Hid (CnR w ((Y.setCell ⟨w.heap.size + 5, 0, none⟩ (.slice none 0 0)).setCell ⟨w.heap.size + 6, 0, none⟩ (.int .i64 x4)) x4 [] (.returned (.tuple #[.slice none 0 0, .int .i64 x4]))) := cn_err rfl hb2
  have n67 : ¬ w.heap.size + 5 = w.heap.size + 6 := by omega
  have n76 : ¬ w.heap.size + 6 = w.heap.size + 5 := by omega
  have gx : (x4 != 0) = true := by simp [hx4]
  clear hb1 hbY hXY hwY y6 y7 g1 g2 e6 e7 k6 k7 hb2 hY HBX HX1 HX2 HX3 HX4 HX5 HX6 HX7 HXS hEQ hLI hRI hx4
  go_wp2_with (refine wpList_store_row rfl 133 _ _ rfl _ rfl _ _ rfl _ (unhide HZ3) hci hus hc1 ?_; rw [unhide E3])
  (try simp only [Exit.inBlock, Exit.then])
  refine bodyPost_ret (v := .tuple #[.slice none 0 0, .int .i64 x4]) ?_ rfl (unhide HF)
  simp [results, Tryz.f65, go_sem, z6, z7]

end Go.Proofs.YtmomfkikogbdeaaGreatDoor
