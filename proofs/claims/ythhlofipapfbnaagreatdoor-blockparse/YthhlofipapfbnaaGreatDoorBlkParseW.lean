/- The walk of the law BlockParse: it returns true, whatever the blocks and the text (written by a program of ours: mkbpw.py). -/
import Derived.Test.YthhlofipapfbnaaGreatDoorBlkParse
import Derived.Test.YthhlofipapfbnaaGreatDoorBookEqToRefPts
import Derived.Test.YthhlofipapfbnaaGreatDoorRefBlk
import Derived.Test.YthhlofipapfbnaaGreatDoorRefTxTextToTrStep
namespace Go.Proofs.YthhlofipapfbnaaGreatDoor
open Go.RowKit

theorem sameB_dec (b c : BlkD) : sameB b c = decide (b = c) := by
  by_cases h : b = c
  · rw [decide_eq_true h]; exact (sameB_iff b c).2 h
  · rw [decide_eq_false h]
    cases q : sameB b c with
    | false => rfl
    | true => exact absurd ((sameB_iff b c).1 q) h
/-- What the reference's ReadBlock answers. -/
def ReadsB : Prop := ∀ (s : ByteArray) (W : World), s.size ≤ 4000 → EnvF W → ∀ (x : Int) (b : BlkD), prB s = (x, b) → Calls Tryz.prog 15 #[.string s] W fun e w' => BlkIs W w' e x b

set_option maxRecDepth 10000 in
set_option maxHeartbeats 6400000 in
theorem parse_bad (p h k n : Int) (a : Option Addr) (m c : Nat) (T : List TxD) (p2 h2 k2 n2 : Int) (a2 : Option Addr) (m2 c2 : Nat) (U : List TxD) (s : ByteArray) (x : Int) (w : World) (hE : EnvF w) (hT : TxsAt w a m T) (hm : m ≤ maxLen) (hU : TxsAt w a2 m2 U) (hx : chkB (p, h, k, n, T) = x) (h0 : x ≠ 0) (RB : ReadsB) :
    Calls Tryz.prog 3 #[.agg #[.int .i64 p, .int .i64 h, .int .i64 k, .int .i64 n, .slice a m c], .agg #[.int .i64 p2, .int .i64 h2, .int .i64 k2, .int .i64 n2, .slice a2 m2 c2], .string s] w fun e w' => e = .returned (.bool true) ∧ Below w.heap.size w w' := by
  obtain ⟨V0, hV0⟩ : ∃ V0, V0 = (w.alloc (.cells #[.int .i64 p, .int .i64 h, .int .i64 k, .int .i64 n, .slice a m c] 24)).alloc (.cells #[.int .i64 p2, .int .i64 h2, .int .i64 k2, .int .i64 n2, .slice a2 m2 c2] 24) := ⟨_, rfl⟩
  have hb0 : Below w.heap.size w V0 := by rw [hV0]; exact bel_on (bel_new _ _) (bel_new _ _)
  have hB0 : V0.heap[w.heap.size]? = some (.cells [.int .i64 p, .int .i64 h, .int .i64 k, .int .i64 n, .slice a m c].toArray 24 (0, 0)) := by rw [hV0, Below.heap_alloc _ _ _ (by simp)]; exact five_heap _ _ _ _ _ _ _
  have hC0 : V0.heap[w.heap.size + 1]? = some (.cells [.int .i64 p2, .int .i64 h2, .int .i64 k2, .int .i64 n2, .slice a2 m2 c2].toArray 24 (0, 0)) := by
    rw [hV0]
    have := five_heap (w.alloc (.cells #[.int .i64 p, .int .i64 h, .int .i64 k, .int .i64 n, .slice a m c] 24)) (.int .i64 p2) (.int .i64 h2) (.int .i64 k2) (.int .i64 n2) (.slice a2 m2 c2) 24
    rw [show (w.alloc (.cells #[.int .i64 p, .int .i64 h, .int .i64 k, .int .i64 n, .slice a m c] 24)).heap.size = w.heap.size + 1 by simp] at this
    exact this
  obtain ⟨t, ht⟩ : ∃ t, blkT (p, h, k, n, T) = t := ⟨_, rfl⟩
  obtain ⟨o, ho⟩ : ∃ o, decide (((p, h, k, n, T) : BlkD) = (p2, h2, k2, n2, U)) = o := ⟨_, rfl⟩
  obtain ⟨y, D, hy⟩ : ∃ y D, prB s = (y, D) := ⟨_, _, rfl⟩
  obtain ⟨d1, d2, d3, d4, DT⟩ := D
  have C1 := hide (blkPrint_is p h k n a m c T t x V0 (hE.later hb0).envp.env (hT.later hb0) hx ht)
  have C2 := hide (fun W (hb : Below w.heap.size w W) => blkParse_any s W (hE.later hb).envp y (d1, d2, d3, d4, DT) hy)
  have C3 := hide (fun W (hb : Below w.heap.size w W) => rchkBlock_any p h k n a m c T x W (hT.later hb) hx)
  have C4 := hide (fun W (hb : Below w.heap.size w W) => laid_yes W (hE.later hb).envp.env)
  have C5 := hide (fun W (hb : Below w.heap.size w W) => blkCheck_any p h k n a m c T x W (hT.later hb) hx)
  have C6 := hide (fun W (hb : Below w.heap.size w W) => blkSame_is p h k n p2 h2 k2 n2 a a2 m c m2 c2 T U o W hm (hT.later hb) (hU.later hb) ((sameB_dec _ _).trans ho))
  have C7 := hide (fun W (hb : Below w.heap.size w W) => rsameBlk_is p h k n p2 h2 k2 n2 a a2 m c m2 c2 T U o W hm (hT.later hb) (hU.later hb) ho)
  have HTT : Hid (t = ⟨#[]⟩) := by show _ = _; rw [← ht]; unfold blkT; rw [hx, if_neg h0]
  have g0 : (x != 0) = true := by simp [h0]
  have g00 : (x == 0) = false := by simp [h0]
  have C9 := hide (fun (hl : s.size ≤ 4000) W (hb : Below w.heap.size w W) => RB s W hl (hE.later hb) y (d1, d2, d3, d4, DT) hy)
  have HZ : Hid (4000 < s.size → (y, (d1, d2, d3, d4, DT)) = ((2 : Int), zeroBk)) := fun hl => by rw [← hy]; unfold prB; rw [if_pos hl]
  have HB0 := hide hb0
  have BB0 := hide hB0
  have BC0 := hide hC0
  clear hE hT hU hx hy ht ho hb0 hB0 hC0 RB h0
  have bbb0 := cell_of (unhide BB0) 0 _ rfl
  have bbb1 := cell_of (unhide BB0) 1 _ rfl
  have bbb2 := cell_of (unhide BB0) 2 _ rfl
  have bbb3 := cell_of (unhide BB0) 3 _ rfl
  have bbb4 := cell_of (unhide BB0) 4 _ rfl
  have bbbl := lt_of_block (unhide BB0)
  go_enter Tryz.func3, Tryz.ntmps3
  go_wp2_with fail
  rw [← hV0]
  clear hV0
  refine (unhide C1).mono ?_
  rintro e w1 ⟨rfl, hb1⟩
  have HB1 := hide (bel_on (unhide HB0) hb1)
  have BB1 := hide ((hb1.block _ (lt_of_block (unhide BB0))).trans (unhide BB0))
  have BC1 := hide ((hb1.block _ (lt_of_block (unhide BC0))).trans (unhide BC0))
  clear hb1 C1 BB0 BC0 bbb0 bbb1 bbb2 bbb3 bbb4 bbbl
  have CC := hide ((unhide C2) w1 (unhide HB1))
  go_wp2_with fail
  refine (unhide CC).mono ?_
  rintro e w2 ⟨da, dn, dc, rfl, hD2, sD2, hb2⟩
  simp only at hD2 ⊢
  obtain ⟨V2, hV2⟩ : ∃ V2, V2 = w2.alloc (.cells #[.int .i64 d1, .int .i64 d2, .int .i64 d3, .int .i64 d4, .slice da dn dc] 24) := ⟨_, rfl⟩
  have hbV : Below w2.heap.size w2 V2 := by rw [hV2]; exact bel_new _ _
  have hD0 : V2.heap[w2.heap.size]? = some (.cells [.int .i64 d1, .int .i64 d2, .int .i64 d3, .int .i64 d4, .slice da dn dc].toArray 24 (0, 0)) := by rw [hV2]; exact five_heap _ _ _ _ _ _ _
  have hb2V := bel_on hb2 hbV
  have HB2 := hide (bel_on (unhide HB1) hb2V)
  have BB2 := hide ((hb2V.block _ (lt_of_block (unhide BB1))).trans (unhide BB1))
  have BC2 := hide ((hb2V.block _ (lt_of_block (unhide BC1))).trans (unhide BC1))
  have BBw := hide ((hb2.block _ (lt_of_block (unhide BB1))).trans (unhide BB1))
  have BD2 := hide hD0
  have HD2 := hide (hD2.later hbV)
  have SD := hide sD2
  have CC := hide ((unhide C3) V2 (unhide HB2))
  clear hb2 hbV hb2V hD0 hD2 sD2 C2 BB1 BC1
  have bbb0 := cell_of (unhide BBw) 0 _ rfl
  have bbb1 := cell_of (unhide BBw) 1 _ rfl
  have bbb2 := cell_of (unhide BBw) 2 _ rfl
  have bbb3 := cell_of (unhide BBw) 3 _ rfl
  have bbb4 := cell_of (unhide BBw) 4 _ rfl
  have bbbl := lt_of_block (unhide BBw)
  clear BBw
  go_wp2_with fail
  rw [← hV2]
  clear hV2
  refine (unhide CC).mono ?_
  rintro e w3 ⟨rfl, hb⟩
  have HB3 := hide (bel_on (unhide HB2) hb)
  have BB3 := hide ((hb.block _ (lt_of_block (unhide BB2))).trans (unhide BB2))
  have BC3 := hide ((hb.block _ (lt_of_block (unhide BC2))).trans (unhide BC2))
  have BD3 := hide ((hb.block _ (lt_of_block (unhide BD2))).trans (unhide BD2))
  have HD3 := hide ((unhide HD2).later hb)
  clear hb CC BB2 BC2 BD2 HD2 bbb0 bbb1 bbb2 bbb3 bbb4 bbbl
  obtain rfl := unhide HTT
  clear HTT
  have bbb0 := cell_of (unhide BB3) 0 _ rfl
  have bbb1 := cell_of (unhide BB3) 1 _ rfl
  have bbb2 := cell_of (unhide BB3) 2 _ rfl
  have bbb3 := cell_of (unhide BB3) 3 _ rfl
  have bbb4 := cell_of (unhide BB3) 4 _ rfl
  have bbbl := lt_of_block (unhide BB3)
  have ccc0 := cell_of (unhide BC3) 0 _ rfl
  have ccc1 := cell_of (unhide BC3) 1 _ rfl
  have ccc2 := cell_of (unhide BC3) 2 _ rfl
  have ccc3 := cell_of (unhide BC3) 3 _ rfl
  have ccc4 := cell_of (unhide BC3) 4 _ rfl
  have cccl := lt_of_block (unhide BC3)
  have KS : Hid (∀ W, Below w3.heap.size w3 W → Below w3.heap.size w3 W ∧ W.cell? ⟨w.heap.size, 0, none⟩ = some (.int .i64 p) ∧ W.cell? ⟨w.heap.size, 1, none⟩ = some (.int .i64 h) ∧ W.cell? ⟨w.heap.size, 2, none⟩ = some (.int .i64 k) ∧ W.cell? ⟨w.heap.size, 3, none⟩ = some (.int .i64 n) ∧ W.cell? ⟨w.heap.size, 4, none⟩ = some (.slice a m c) ∧ W.cell? ⟨w.heap.size + 1, 0, none⟩ = some (.int .i64 p2) ∧ W.cell? ⟨w.heap.size + 1, 1, none⟩ = some (.int .i64 h2) ∧ W.cell? ⟨w.heap.size + 1, 2, none⟩ = some (.int .i64 k2) ∧ W.cell? ⟨w.heap.size + 1, 3, none⟩ = some (.int .i64 n2) ∧ W.cell? ⟨w.heap.size + 1, 4, none⟩ = some (.slice a2 m2 c2)) := fun W hW => ⟨hW, cell_later hW bbb0, cell_later hW bbb1, cell_later hW bbb2, cell_later hW bbb3, cell_later hW bbb4, cell_later hW ccc0, cell_later hW ccc1, cell_later hW ccc2, cell_later hW ccc3, cell_later hW ccc4⟩
  go_wp2_with fail
  refine wp_region_held_drew (S := fun W => Below w3.heap.size w3 W ∧ W.cell? ⟨w.heap.size, 0, none⟩ = some (.int .i64 p) ∧ W.cell? ⟨w.heap.size, 1, none⟩ = some (.int .i64 h) ∧ W.cell? ⟨w.heap.size, 2, none⟩ = some (.int .i64 k) ∧ W.cell? ⟨w.heap.size, 3, none⟩ = some (.int .i64 n) ∧ W.cell? ⟨w.heap.size, 4, none⟩ = some (.slice a m c) ∧ W.cell? ⟨w.heap.size + 1, 0, none⟩ = some (.int .i64 p2) ∧ W.cell? ⟨w.heap.size + 1, 1, none⟩ = some (.int .i64 h2) ∧ W.cell? ⟨w.heap.size + 1, 2, none⟩ = some (.int .i64 k2) ∧ W.cell? ⟨w.heap.size + 1, 3, none⟩ = some (.int .i64 n2) ∧ W.cell? ⟨w.heap.size + 1, 4, none⟩ = some (.slice a2 m2 c2)) (by kernel_rfl) ((unhide KS) _ (bel_draw1 _)) (fun hHeld => ?_)
  have HR0 := hide (bel_draw1 w3)
  clear bbb0 bbb1 bbb2 bbb3 bbb4 bbbl ccc0 ccc1 ccc2 ccc3 ccc4 cccl
  refine wpAnyH_ready (rs := [0]) (by kernel_rfl) (by simp) ?_
  refine AllReadyH.cons (o := { dst := some 25, op := Op.call { callee := Callee.value (Operand.func 10), args := #[], argTypes := #[] }, type := 4, pos := "law1.go:381", after := #[], guard := none }) rfl (fun K hK => ?_) AllReadyH.nil
  refine step_call_w (by kernel_rfl) 10 #[] (by kernel_rfl) ((unhide C4) _ (bel_on (unhide HB3) (unhide HR0))) ?_
  rintro e r1 ⟨rfl, hb⟩
  refine ⟨_, rfl, ?_⟩
  have HR1 := hide (bel_on (unhide HR0) hb)
  clear hb HR0
  refine hK.out _ _ ((unhide KS) _ (unhide HR1)) (fun hHeld2 => ?_)
  clear hK K hHeld
  have hHeld := hHeld2
  clear hHeld2
  (try simp only [Act.put, List.setIfInBounds_toArray, List.set_cons_zero, List.set_cons_succ])
  refine wpAnyH_take (i := 1) (oi := { dst := some 26, op := Op.unOp UnOp.not 4 (Operand.tmp 25), type := 4, pos := "law1.go:381", after := #[{ on := 0, ground := Ground.data }], guard := none }) (v := ?_) rfl (by kernel_rfl) (by kernel_rfl) (by kernel_rfl) (fun _ _ _ h => h) (Or.inl ⟨by rfl, ?_⟩) hHeld ?_
  rotate_left
  · (intro W hSw; (try dsimp only at hSw); go_simp; first | done | with_reducible rfl)
  (try simp only [Act.put, List.setIfInBounds_toArray, List.set_cons_zero, List.set_cons_succ])
  refine wpAnyH_take (i := 2) (oi := { dst := some 27, op := Op.move (Operand.tmp 26), type := 4, pos := "law1.go:381", after := #[{ on := 1, ground := Ground.data }, { on := 0, ground := Ground.chain }], guard := none }) (v := ?_) rfl (by kernel_rfl) (by kernel_rfl) (by kernel_rfl) (fun _ _ _ h => h) (Or.inl ⟨by rfl, ?_⟩) hHeld ?_
  rotate_left
  · (intro W hSw; (try dsimp only at hSw); go_simp; first | done | with_reducible rfl)
  (try simp only [Act.put, List.setIfInBounds_toArray, List.set_cons_zero, List.set_cons_succ])
  refine wpAnyH_take (i := 3) (oi := { dst := some 28, op := Op.load 24 (Operand.tmp 3), type := 24, pos := "law1.go:381", after := #[{ on := 2, ground := Ground.guard }], guard := some (2, false) }) (v := ?_) rfl (by kernel_rfl) (by kernel_rfl) (by kernel_rfl) (fun _ _ _ h => h) (Or.inl ⟨by rfl, ?_⟩) hHeld ?_
  rotate_left
  · (intro W hSw; (try dsimp only at hSw); go_simp; first | done | with_reducible rfl)
  (try simp only [Act.put, List.setIfInBounds_toArray, List.set_cons_zero, List.set_cons_succ])
  refine wpAnyH_take (i := 5) (oi := { dst := some 30, op := Op.move (Operand.tmp 11), type := 25, pos := "law1.go:381", after := #[{ on := 2, ground := Ground.guard }], guard := some (2, false) }) (v := ?_) rfl (by kernel_rfl) (by kernel_rfl) (by kernel_rfl) (fun _ _ _ h => h) (Or.inl ⟨by rfl, ?_⟩) hHeld ?_
  rotate_left
  · (intro W hSw; (try dsimp only at hSw); go_simp; first | done | with_reducible rfl)
  (try simp only [Act.put, List.setIfInBounds_toArray, List.set_cons_zero, List.set_cons_succ])
  refine wpAnyH_ready (rs := [4]) (by kernel_rfl) (by simp) ?_
  refine AllReadyH.cons (o := { dst := some 29, op := Op.call { callee := Callee.value (Operand.func 11), args := #[Operand.tmp 28], argTypes := #[24] }, type := 25, pos := "law1.go:381", after := #[{ on := 3, ground := Ground.data }, { on := 2, ground := Ground.chain }, { on := 2, ground := Ground.guard }], guard := some (2, false) }) rfl (fun K hK => ?_) AllReadyH.nil
  refine step_call_w (by kernel_rfl) 11 #[.agg #[.int .i64 p, .int .i64 h, .int .i64 k, .int .i64 n, .slice a m c]] (by kernel_rfl) ((unhide C5) _ (bel_on (unhide HB3) (unhide HR1))) ?_
  rintro e r2 ⟨rfl, hb⟩
  refine ⟨_, rfl, ?_⟩
  have HR2 := hide (bel_on (unhide HR1) hb)
  clear hb HR1
  refine hK.out _ _ ((unhide KS) _ (unhide HR2)) (fun hHeld2 => ?_)
  clear hK K hHeld
  have hHeld := hHeld2
  clear hHeld2
  (try simp only [Act.put, List.setIfInBounds_toArray, List.set_cons_zero, List.set_cons_succ])
  refine wpAnyH_take (i := 6) (oi := { dst := some 31, op := Op.binOp BinOp.neq 25 (Operand.tmp 29) (Operand.tmp 30) 25, type := 4, pos := "law1.go:381", after := #[{ on := 4, ground := Ground.data }, { on := 5, ground := Ground.data }, { on := 2, ground := Ground.guard }], guard := some (2, false) }) (v := ?_) rfl (by kernel_rfl) (by kernel_rfl) (by kernel_rfl) (fun _ _ _ h => h) (Or.inl ⟨by rfl, ?_⟩) hHeld ?_
  rotate_left
  · (intro W hSw; (try dsimp only at hSw); go_simp; first | done | with_reducible rfl)
  (try simp only [Act.put, List.setIfInBounds_toArray, List.set_cons_zero, List.set_cons_succ])
  refine wpAnyH_take (i := 7) (oi := { dst := some 32, op := Op.pick (Operand.tmp 27) (Operand.const (Value.bool true)) (Operand.tmp 31), type := 4, pos := "law1.go:381", after := #[{ on := 2, ground := Ground.data }, { on := 6, ground := Ground.data }], guard := none }) (v := ?_) rfl (by kernel_rfl) (by kernel_rfl) (by kernel_rfl) (fun _ _ _ h => h) (Or.inl ⟨by rfl, ?_⟩) hHeld ?_
  rotate_left
  · (intro W hSw; (try dsimp only at hSw); go_simp; first | done | with_reducible rfl)
  (try simp only [Act.put, List.setIfInBounds_toArray, List.set_cons_zero, List.set_cons_succ])
  refine wpAnyH_take (i := 8) (oi := { dst := some 33, op := Op.move (Operand.tmp 32), type := 4, pos := "law1.go:381", after := #[{ on := 7, ground := Ground.data }, { on := 4, ground := Ground.chain }], guard := none }) (v := ?_) rfl (by kernel_rfl) (by kernel_rfl) (by kernel_rfl) (fun _ _ _ h => h) (Or.inl ⟨by rfl, ?_⟩) hHeld ?_
  rotate_left
  · (intro W hSw; (try dsimp only at hSw); go_simp; first | done | with_reducible rfl)
  (try simp only [Act.put, List.setIfInBounds_toArray, List.set_cons_zero, List.set_cons_succ])
  refine wpAnyH_take (i := 9) (oi := { dst := some 34, op := Op.load 24 (Operand.tmp 3), type := 24, pos := "law1.go:381", after := #[{ on := 8, ground := Ground.guard }], guard := some (8, false) }) (v := ?_) rfl (by kernel_rfl) (by kernel_rfl) (by kernel_rfl) (fun _ _ _ h => h) (Or.inl ⟨by rfl, ?_⟩) hHeld ?_
  rotate_left
  · (intro W hSw; (try dsimp only at hSw); go_simp; first | done | with_reducible rfl)
  (try simp only [Act.put, List.setIfInBounds_toArray, List.set_cons_zero, List.set_cons_succ])
  refine wpAnyH_take (i := 10) (oi := { dst := some 35, op := Op.load 24 (Operand.tmp 4), type := 24, pos := "law1.go:381", after := #[{ on := 8, ground := Ground.guard }], guard := some (8, false) }) (v := ?_) rfl (by kernel_rfl) (by kernel_rfl) (by kernel_rfl) (fun _ _ _ h => h) (Or.inl ⟨by rfl, ?_⟩) hHeld ?_
  rotate_left
  · (intro W hSw; (try dsimp only at hSw); go_simp; first | done | with_reducible rfl)
  (try simp only [Act.put, List.setIfInBounds_toArray, List.set_cons_zero, List.set_cons_succ])
  refine wpAnyH_take (i := 12) (oi := { dst := some 37, op := Op.load 24 (Operand.tmp 3), type := 24, pos := "law1.go:381", after := #[{ on := 8, ground := Ground.guard }], guard := some (8, false) }) (v := ?_) rfl (by kernel_rfl) (by kernel_rfl) (by kernel_rfl) (fun _ _ _ h => h) (Or.inl ⟨by rfl, ?_⟩) hHeld ?_
  rotate_left
  · (intro W hSw; (try dsimp only at hSw); go_simp; first | done | with_reducible rfl)
  (try simp only [Act.put, List.setIfInBounds_toArray, List.set_cons_zero, List.set_cons_succ])
  refine wpAnyH_take (i := 13) (oi := { dst := some 38, op := Op.load 24 (Operand.tmp 4), type := 24, pos := "law1.go:381", after := #[{ on := 8, ground := Ground.guard }], guard := some (8, false) }) (v := ?_) rfl (by kernel_rfl) (by kernel_rfl) (by kernel_rfl) (fun _ _ _ h => h) (Or.inl ⟨by rfl, ?_⟩) hHeld ?_
  rotate_left
  · (intro W hSw; (try dsimp only at hSw); go_simp; first | done | with_reducible rfl)
  (try simp only [Act.put, List.setIfInBounds_toArray, List.set_cons_zero, List.set_cons_succ])
  refine wpAnyH_ready (rs := [11]) (by kernel_rfl) (by simp) ?_
  refine AllReadyH.cons (o := { dst := some 36, op := Op.call { callee := Callee.value (Operand.func 12), args := #[Operand.tmp 34, Operand.tmp 35], argTypes := #[24, 24] }, type := 4, pos := "law1.go:381", after := #[{ on := 9, ground := Ground.data }, { on := 10, ground := Ground.data }, { on := 8, ground := Ground.chain }, { on := 8, ground := Ground.guard }], guard := some (8, false) }) rfl (fun K hK => ?_) AllReadyH.nil
  refine step_call_w (by kernel_rfl) 12 #[.agg #[.int .i64 p, .int .i64 h, .int .i64 k, .int .i64 n, .slice a m c], .agg #[.int .i64 p2, .int .i64 h2, .int .i64 k2, .int .i64 n2, .slice a2 m2 c2]] (by kernel_rfl) ((unhide C6) _ (bel_on (unhide HB3) (unhide HR2))) ?_
  rintro e r3 ⟨rfl, hb⟩
  refine ⟨_, rfl, ?_⟩
  have HR3 := hide (bel_on (unhide HR2) hb)
  clear hb HR2
  refine hK.out _ _ ((unhide KS) _ (unhide HR3)) (fun hHeld2 => ?_)
  clear hK K hHeld
  have hHeld := hHeld2
  clear hHeld2
  (try simp only [Act.put, List.setIfInBounds_toArray, List.set_cons_zero, List.set_cons_succ])
  refine wpAnyH_ready (rs := [14]) (by kernel_rfl) (by simp) ?_
  refine AllReadyH.cons (o := { dst := some 39, op := Op.call { callee := Callee.value (Operand.func 13), args := #[Operand.tmp 37, Operand.tmp 38], argTypes := #[24, 24] }, type := 4, pos := "law1.go:381", after := #[{ on := 12, ground := Ground.data }, { on := 13, ground := Ground.data }, { on := 11, ground := Ground.chain }, { on := 8, ground := Ground.guard }], guard := some (8, false) }) rfl (fun K hK => ?_) AllReadyH.nil
  refine step_call_w (by kernel_rfl) 13 #[.agg #[.int .i64 p, .int .i64 h, .int .i64 k, .int .i64 n, .slice a m c], .agg #[.int .i64 p2, .int .i64 h2, .int .i64 k2, .int .i64 n2, .slice a2 m2 c2]] (by kernel_rfl) ((unhide C7) _ (bel_on (unhide HB3) (unhide HR3))) ?_
  rintro e r4 ⟨rfl, hb⟩
  refine ⟨_, rfl, ?_⟩
  have HR4 := hide (bel_on (unhide HR3) hb)
  clear hb HR3
  refine hK.out _ _ ((unhide KS) _ (unhide HR4)) (fun hHeld2 => ?_)
  clear hK K hHeld
  have hHeld := hHeld2
  clear hHeld2
  (try simp only [Act.put, List.setIfInBounds_toArray, List.set_cons_zero, List.set_cons_succ])
  refine wpAnyH_take (i := 15) (oi := { dst := some 40, op := Op.binOp BinOp.neq 4 (Operand.tmp 36) (Operand.tmp 39) 4, type := 4, pos := "law1.go:381", after := #[{ on := 11, ground := Ground.data }, { on := 14, ground := Ground.data }, { on := 8, ground := Ground.guard }], guard := some (8, false) }) (v := ?_) rfl (by kernel_rfl) (by kernel_rfl) (by kernel_rfl) (fun _ _ _ h => h) (Or.inl ⟨by rfl, ?_⟩) hHeld ?_
  rotate_left
  · (intro W hSw; (try dsimp only at hSw); go_simp; first | done | with_reducible rfl)
  (try simp only [Act.put, List.setIfInBounds_toArray, List.set_cons_zero, List.set_cons_succ])
  refine wpAnyH_take (i := 16) (oi := { dst := some 41, op := Op.pick (Operand.tmp 33) (Operand.const (Value.bool true)) (Operand.tmp 40), type := 4, pos := "law1.go:381", after := #[{ on := 8, ground := Ground.data }, { on := 15, ground := Ground.data }], guard := none }) (v := ?_) rfl (by kernel_rfl) (by kernel_rfl) (by kernel_rfl) (fun _ _ _ h => h) (Or.inl ⟨by rfl, ?_⟩) hHeld ?_
  rotate_left
  · (intro W hSw; (try dsimp only at hSw); go_simp; first | done | with_reducible rfl)
  (try simp only [Act.put, List.setIfInBounds_toArray, List.set_cons_zero, List.set_cons_succ])
  refine wpAnyH_take (i := 17) (oi := { dst := some 42, op := Op.move (Operand.tmp 41), type := 4, pos := "law1.go:381", after := #[{ on := 16, ground := Ground.data }, { on := 14, ground := Ground.chain }], guard := none }) (v := ?_) rfl (by kernel_rfl) (by kernel_rfl) (by kernel_rfl) (fun _ _ _ h => h) (Or.inl ⟨by rfl, ?_⟩) hHeld ?_
  rotate_left
  · (intro W hSw; (try dsimp only at hSw); go_simp; first | done | with_reducible rfl)
  (try simp only [Act.put, List.setIfInBounds_toArray, List.set_cons_zero, List.set_cons_succ])
  refine wpAnyH_take (i := 18) (oi := { dst := some 43, op := Op.move (Operand.tmp 8), type := 25, pos := "law1.go:381", after := #[{ on := 17, ground := Ground.guard }], guard := some (17, false) }) (v := ?_) rfl (by kernel_rfl) (by kernel_rfl) (by kernel_rfl) (fun _ _ _ h => h) (Or.inl ⟨by rfl, ?_⟩) hHeld ?_
  rotate_left
  · (intro W hSw; (try dsimp only at hSw); go_simp; first | done | with_reducible rfl)
  (try simp only [Act.put, List.setIfInBounds_toArray, List.set_cons_zero, List.set_cons_succ])
  refine wpAnyH_take (i := 19) (oi := { dst := some 44, op := Op.move (Operand.tmp 11), type := 25, pos := "law1.go:381", after := #[{ on := 17, ground := Ground.guard }], guard := some (17, false) }) (v := ?_) rfl (by kernel_rfl) (by kernel_rfl) (by kernel_rfl) (fun _ _ _ h => h) (Or.inl ⟨by rfl, ?_⟩) hHeld ?_
  rotate_left
  · (intro W hSw; (try dsimp only at hSw); go_simp; first | done | with_reducible rfl)
  (try simp only [Act.put, List.setIfInBounds_toArray, List.set_cons_zero, List.set_cons_succ])
  refine wpAnyH_take (i := 20) (oi := { dst := some 45, op := Op.binOp BinOp.neq 25 (Operand.tmp 43) (Operand.tmp 44) 25, type := 4, pos := "law1.go:381", after := #[{ on := 18, ground := Ground.data }, { on := 19, ground := Ground.data }, { on := 17, ground := Ground.guard }], guard := some (17, false) }) (v := ?_) rfl (by kernel_rfl) (by kernel_rfl) (by kernel_rfl) (fun _ _ _ h => h) (Or.inl ⟨by rfl, ?_⟩) hHeld ?_
  rotate_left
  · (intro W hSw; (try dsimp only at hSw); go_simp; first | done | with_reducible rfl)
  (try simp only [Act.put, List.setIfInBounds_toArray, List.set_cons_zero, List.set_cons_succ])
  refine wpAnyH_take (i := 21) (oi := { dst := some 46, op := Op.pick (Operand.tmp 42) (Operand.const (Value.bool true)) (Operand.tmp 45), type := 4, pos := "law1.go:381", after := #[{ on := 17, ground := Ground.data }, { on := 20, ground := Ground.data }], guard := none }) (v := ?_) rfl (by kernel_rfl) (by kernel_rfl) (by kernel_rfl) (fun _ _ _ h => h) (Or.inl ⟨by rfl, ?_⟩) hHeld ?_
  rotate_left
  · (intro W hSw; (try dsimp only at hSw); go_simp; first | done | with_reducible rfl)
  (try simp only [Act.put, List.setIfInBounds_toArray, List.set_cons_zero, List.set_cons_succ])
  refine wpAnyH_take (i := 22) (oi := { dst := some 47, op := Op.move (Operand.tmp 46), type := 4, pos := "law1.go:381", after := #[{ on := 21, ground := Ground.data }, { on := 17, ground := Ground.chain }], guard := none }) (v := ?_) rfl (by kernel_rfl) (by kernel_rfl) (by kernel_rfl) (fun _ _ _ h => h) (Or.inl ⟨by rfl, ?_⟩) hHeld ?_
  rotate_left
  · (intro W hSw; (try dsimp only at hSw); go_simp; first | done | with_reducible rfl)
  (try simp only [Act.put, List.setIfInBounds_toArray, List.set_cons_zero, List.set_cons_succ])
  refine wpAnyH_take (i := 23) (oi := { dst := some 48, op := Op.move (Operand.tmp 11), type := 25, pos := "law1.go:381", after := #[{ on := 22, ground := Ground.guard }], guard := some (22, false) }) (v := ?_) rfl (by kernel_rfl) (by kernel_rfl) (by kernel_rfl) (fun _ _ _ h => h) (Or.inl ⟨by rfl, ?_⟩) hHeld ?_
  rotate_left
  · (intro W hSw; (try dsimp only at hSw); go_simp; first | done | with_reducible rfl)
  (try simp only [Act.put, List.setIfInBounds_toArray, List.set_cons_zero, List.set_cons_succ])
  refine wpAnyH_take (i := 24) (oi := { dst := some 49, op := Op.binOp BinOp.eql 25 (Operand.tmp 48) (Operand.const (Value.int IntKind.i64 0)) 25, type := 4, pos := "law1.go:381", after := #[{ on := 23, ground := Ground.data }, { on := 22, ground := Ground.guard }], guard := some (22, false) }) (v := ?_) rfl (by kernel_rfl) (by kernel_rfl) (by kernel_rfl) (fun _ _ _ h => h) (Or.inl ⟨by rfl, ?_⟩) hHeld ?_
  rotate_left
  · (intro W hSw; (try dsimp only at hSw); go_simp; first | done | with_reducible rfl)
  (try simp only [Act.put, List.setIfInBounds_toArray, List.set_cons_zero, List.set_cons_succ])
  refine wpAnyH_take (i := 25) (oi := { dst := some 50, op := Op.move (Operand.tmp 49), type := 4, pos := "law1.go:381", after := #[{ on := 24, ground := Ground.data }, { on := 22, ground := Ground.chain }, { on := 22, ground := Ground.guard }], guard := some (22, false) }) (v := ?_) rfl (by kernel_rfl) (by kernel_rfl) (by kernel_rfl) (fun _ _ _ h => h) (Or.inl ⟨by rfl, ?_⟩) hHeld ?_
  rotate_left
  · (intro W hSw; (try dsimp only at hSw); go_simp; first | done | with_reducible rfl)
  (try simp only [Act.put, List.setIfInBounds_toArray, List.set_cons_zero, List.set_cons_succ])
  refine wpAnyH_take (i := 26) (oi := { dst := some 51, op := Op.move (Operand.tmp 7), type := 9, pos := "law1.go:381", after := #[{ on := 25, ground := Ground.guard }], guard := some (25, true) }) (v := undef) rfl (by kernel_rfl) (by kernel_rfl) (by kernel_rfl) (fun _ _ _ h => h) (Or.inr ⟨by rfl, rfl⟩) hHeld ?_
  (try simp only [Act.put, List.setIfInBounds_toArray, List.set_cons_zero, List.set_cons_succ])
  refine wpAnyH_take (i := 27) (oi := { dst := some 52, op := Op.load 24 (Operand.tmp 3), type := 24, pos := "law1.go:381", after := #[{ on := 25, ground := Ground.guard }], guard := some (25, true) }) (v := undef) rfl (by kernel_rfl) (by kernel_rfl) (by kernel_rfl) (fun _ _ _ h => h) (Or.inr ⟨by rfl, rfl⟩) hHeld ?_
  (try simp only [Act.put, List.setIfInBounds_toArray, List.set_cons_zero, List.set_cons_succ])
  refine wpAnyH_take (i := 28) (oi := { dst := some 53, op := Op.call { callee := Callee.value (Operand.func 14), args := #[Operand.tmp 52], argTypes := #[24] }, type := 9, pos := "law1.go:381", after := #[{ on := 27, ground := Ground.data }, { on := 25, ground := Ground.chain }, { on := 25, ground := Ground.guard }], guard := some (25, true) }) (v := undef) rfl (by kernel_rfl) (by kernel_rfl) (by kernel_rfl) (fun _ _ _ h => h) (Or.inr ⟨by rfl, rfl⟩) hHeld ?_
  (try simp only [Act.put, List.setIfInBounds_toArray, List.set_cons_zero, List.set_cons_succ])
  refine wpAnyH_take (i := 29) (oi := { dst := some 54, op := Op.binOp BinOp.neq 9 (Operand.tmp 51) (Operand.tmp 53) 9, type := 4, pos := "law1.go:381", after := #[{ on := 26, ground := Ground.data }, { on := 28, ground := Ground.data }, { on := 25, ground := Ground.guard }], guard := some (25, true) }) (v := undef) rfl (by kernel_rfl) (by kernel_rfl) (by kernel_rfl) (fun _ _ _ h => h) (Or.inr ⟨by rfl, rfl⟩) hHeld ?_
  (try simp only [Act.put, List.setIfInBounds_toArray, List.set_cons_zero, List.set_cons_succ])
  refine wpAnyH_take (i := 30) (oi := { dst := some 55, op := Op.pick (Operand.tmp 50) (Operand.tmp 54) (Operand.const (Value.bool false)), type := 4, pos := "law1.go:381", after := #[{ on := 25, ground := Ground.data }, { on := 29, ground := Ground.data }, { on := 22, ground := Ground.guard }], guard := some (22, false) }) (v := ?_) rfl (by kernel_rfl) (by kernel_rfl) (by kernel_rfl) (fun _ _ _ h => h) (Or.inl ⟨by rfl, ?_⟩) hHeld ?_
  rotate_left
  · (intro W hSw; (try dsimp only at hSw); go_simp; first | done | with_reducible rfl)
  (try simp only [Act.put, List.setIfInBounds_toArray, List.set_cons_zero, List.set_cons_succ])
  refine wpAnyH_take (i := 31) (oi := { dst := some 56, op := Op.pick (Operand.tmp 47) (Operand.const (Value.bool true)) (Operand.tmp 55), type := 4, pos := "law1.go:381", after := #[{ on := 22, ground := Ground.data }, { on := 30, ground := Ground.data }], guard := none }) (v := ?_) rfl (by kernel_rfl) (by kernel_rfl) (by kernel_rfl) (fun _ _ _ h => h) (Or.inl ⟨by rfl, ?_⟩) hHeld ?_
  rotate_left
  · (intro W hSw; (try dsimp only at hSw); go_simp; first | done | with_reducible rfl)
  (try simp only [Act.put, List.setIfInBounds_toArray, List.set_cons_zero, List.set_cons_succ])
  refine wpAnyH_take (i := 32) (oi := { dst := some 57, op := Op.move (Operand.tmp 56), type := 4, pos := "law1.go:381", after := #[{ on := 31, ground := Ground.data }, { on := 28, ground := Ground.chain }], guard := none }) (v := ?_) rfl (by kernel_rfl) (by kernel_rfl) (by kernel_rfl) (fun _ _ _ h => h) (Or.inl ⟨by rfl, ?_⟩) hHeld ?_
  rotate_left
  · (intro W hSw; (try dsimp only at hSw); go_simp; first | done | with_reducible rfl)
  (try simp only [Act.put, List.setIfInBounds_toArray, List.set_cons_zero, List.set_cons_succ])
  refine wpAnyH_take (i := 33) (oi := { dst := some 58, op := Op.move (Operand.tmp 11), type := 25, pos := "law1.go:381", after := #[{ on := 32, ground := Ground.guard }], guard := some (32, false) }) (v := ?_) rfl (by kernel_rfl) (by kernel_rfl) (by kernel_rfl) (fun _ _ _ h => h) (Or.inl ⟨by rfl, ?_⟩) hHeld ?_
  rotate_left
  · (intro W hSw; (try dsimp only at hSw); go_simp; first | done | with_reducible rfl)
  (try simp only [Act.put, List.setIfInBounds_toArray, List.set_cons_zero, List.set_cons_succ])
  refine wpAnyH_take (i := 34) (oi := { dst := some 59, op := Op.binOp BinOp.neq 25 (Operand.tmp 58) (Operand.const (Value.int IntKind.i64 0)) 25, type := 4, pos := "law1.go:381", after := #[{ on := 33, ground := Ground.data }, { on := 32, ground := Ground.guard }], guard := some (32, false) }) (v := ?_) rfl (by kernel_rfl) (by kernel_rfl) (by kernel_rfl) (fun _ _ _ h => h) (Or.inl ⟨by rfl, ?_⟩) hHeld ?_
  rotate_left
  · (intro W hSw; (try dsimp only at hSw); go_simp; first | done | with_reducible rfl)
  (try simp only [Act.put, List.setIfInBounds_toArray, List.set_cons_zero, List.set_cons_succ])
  refine wpAnyH_take (i := 35) (oi := { dst := some 60, op := Op.move (Operand.tmp 59), type := 4, pos := "law1.go:381", after := #[{ on := 34, ground := Ground.data }, { on := 32, ground := Ground.chain }, { on := 32, ground := Ground.guard }], guard := some (32, false) }) (v := ?_) rfl (by kernel_rfl) (by kernel_rfl) (by kernel_rfl) (fun _ _ _ h => h) (Or.inl ⟨by rfl, ?_⟩) hHeld ?_
  rotate_left
  · (intro W hSw; (try dsimp only at hSw); go_simp; first | done | with_reducible rfl)
  (try simp only [Act.put, List.setIfInBounds_toArray, List.set_cons_zero, List.set_cons_succ])
  refine wpAnyH_take (i := 36) (oi := { dst := some 61, op := Op.move (Operand.tmp 7), type := 9, pos := "law1.go:381", after := #[{ on := 35, ground := Ground.guard }], guard := some (35, true) }) (v := ?_) rfl (by kernel_rfl) (by kernel_rfl) (by kernel_rfl) (fun _ _ _ h => h) (Or.inl ⟨by rfl, ?_⟩) hHeld ?_
  rotate_left
  · (intro W hSw; (try dsimp only at hSw); go_simp; first | done | with_reducible rfl)
  (try simp only [Act.put, List.setIfInBounds_toArray, List.set_cons_zero, List.set_cons_succ])
  refine wpAnyH_take (i := 37) (oi := { dst := some 62, op := Op.binOp BinOp.neq 9 (Operand.tmp 61) (Operand.const (Value.string { data := #[] })) 9, type := 4, pos := "law1.go:381", after := #[{ on := 36, ground := Ground.data }, { on := 35, ground := Ground.guard }], guard := some (35, true) }) (v := ?_) rfl (by kernel_rfl) (by kernel_rfl) (by kernel_rfl) (fun _ _ _ h => h) (Or.inl ⟨by rfl, ?_⟩) hHeld ?_
  rotate_left
  · (intro W hSw; (try dsimp only at hSw); go_simp; first | done | with_reducible rfl)
  (try simp only [Act.put, List.setIfInBounds_toArray, List.set_cons_zero, List.set_cons_succ])
  refine wpAnyH_take (i := 38) (oi := { dst := some 63, op := Op.pick (Operand.tmp 60) (Operand.tmp 62) (Operand.const (Value.bool false)), type := 4, pos := "law1.go:381", after := #[{ on := 35, ground := Ground.data }, { on := 37, ground := Ground.data }, { on := 32, ground := Ground.guard }], guard := some (32, false) }) (v := ?_) rfl (by kernel_rfl) (by kernel_rfl) (by kernel_rfl) (fun _ _ _ h => h) (Or.inl ⟨by rfl, ?_⟩) hHeld ?_
  rotate_left
  · (intro W hSw; (try dsimp only at hSw); go_simp; first | done | with_reducible rfl)
  (try simp only [Act.put, List.setIfInBounds_toArray, List.set_cons_zero, List.set_cons_succ])
  refine wpAnyH_take (i := 39) (oi := { dst := some 64, op := Op.pick (Operand.tmp 57) (Operand.const (Value.bool true)) (Operand.tmp 63), type := 4, pos := "law1.go:381", after := #[{ on := 32, ground := Ground.data }, { on := 38, ground := Ground.data }], guard := none }) (v := ?_) rfl (by kernel_rfl) (by kernel_rfl) (by kernel_rfl) (fun _ _ _ h => h) (Or.inl ⟨by rfl, ?_⟩) hHeld ?_
  rotate_left
  · (intro W hSw; (try dsimp only at hSw); go_simp; first | done | with_reducible rfl)
  (try simp only [Act.put, List.setIfInBounds_toArray, List.set_cons_zero, List.set_cons_succ])
  refine wpAnyH_done (by kernel_rfl) ?_ _
  clear hHeld KS
  obtain ⟨w8, hw8⟩ : ∃ w8, w8 = r4 := ⟨_, rfl⟩
  rw [← hw8] at HR4 ⊢
  clear hw8
  have HB8 := hide (bel_on (unhide HB3) (unhide HR4))
  have BD8 := hide (((unhide HR4).block _ (lt_of_block (unhide BD3))).trans (unhide BD3))
  have HD8 := hide ((unhide HD3).later (unhide HR4))
  clear BB3 BC3 BD3 HD3 HR4
  by_cases hl : 4000 < s.size
  · have gl : (4000 : Int) < (s.size : Int) := by omega
    have HZ2 := (unhide HZ) hl
    clear HZ C9 hl
    obtain ⟨r1, r2⟩ := Prod.mk.inj HZ2
    subst r1
    obtain ⟨q1, r2⟩ := Prod.mk.inj r2
    obtain ⟨q2, r2⟩ := Prod.mk.inj r2
    obtain ⟨q3, r2⟩ := Prod.mk.inj r2
    obtain ⟨q4, q5⟩ := Prod.mk.inj r2
    subst q1 q2 q3 q4 q5
    have CC := hide (rsameBlk_zero 0 0 0 0 da dn dc [] true w8 (unhide SD).len (unhide HD8) (decide_eq_true rfl))
    have ddd0 := cell_of (unhide BD8) 0 _ rfl
    have ddd1 := cell_of (unhide BD8) 1 _ rfl
    have ddd2 := cell_of (unhide BD8) 2 _ rfl
    have ddd3 := cell_of (unhide BD8) 3 _ rfl
    have ddd4 := cell_of (unhide BD8) 4 _ rfl
    have dddl := lt_of_block (unhide BD8)
    go_wp2_with fail
    refine (unhide CC).mono ?_
    rintro e w9 ⟨rfl, hb⟩
    have HBF := hide (bel_on (unhide HB8) hb)
    clear hb CC
    go_wp2
    go_ret
    exact ⟨rfl, unhide HBF⟩
  · have gl : ¬ (4000 : Int) < (s.size : Int) := by omega
    have CC := hide ((unhide C9) (by omega) w8 (unhide HB8))
    clear HZ C9 hl
    go_wp2_with fail
    refine (unhide CC).mono ?_
    rintro e w9 ⟨ea, en, ec, rfl, hE9, sE9, hb9⟩
    simp only at hE9 ⊢
    obtain ⟨V9, hV9⟩ : ∃ V9, V9 = w9.alloc (.cells #[.int .i64 d1, .int .i64 d2, .int .i64 d3, .int .i64 d4, .slice ea en ec] 24) := ⟨_, rfl⟩
    have hbV : Below w9.heap.size w9 V9 := by rw [hV9]; exact bel_new _ _
    have hW0 : V9.heap[w9.heap.size]? = some (.cells [.int .i64 d1, .int .i64 d2, .int .i64 d3, .int .i64 d4, .slice ea en ec].toArray 24 (0, 0)) := by rw [hV9]; exact five_heap _ _ _ _ _ _ _
    have hb := bel_on hb9 hbV
    have HB9 := hide (bel_on (unhide HB8) hb)
    have BD9 := hide ((hb.block _ (lt_of_block (unhide BD8))).trans (unhide BD8))
    have BDw := hide ((hb9.block _ (lt_of_block (unhide BD8))).trans (unhide BD8))
    have BW9 := hide hW0
    have HD9 := hide ((unhide HD8).later hb)
    have HE9 := hide (hE9.later hbV)
    clear CC
    have CC := hide (rsameBlk_is d1 d2 d3 d4 d1 d2 d3 d4 da ea dn dc en ec DT DT true V9 (unhide SD).len (unhide HD9) (unhide HE9) (decide_eq_true rfl))
    clear hb hb9 hbV hW0 hE9 sE9 BD8 HD8
    have ddd0 := cell_of (unhide BDw) 0 _ rfl
    have ddd1 := cell_of (unhide BDw) 1 _ rfl
    have ddd2 := cell_of (unhide BDw) 2 _ rfl
    have ddd3 := cell_of (unhide BDw) 3 _ rfl
    have ddd4 := cell_of (unhide BDw) 4 _ rfl
    have dddl := lt_of_block (unhide BDw)
    have eee0 := cell_of (unhide BW9) 0 _ rfl
    have eee1 := cell_of (unhide BW9) 1 _ rfl
    have eee2 := cell_of (unhide BW9) 2 _ rfl
    have eee3 := cell_of (unhide BW9) 3 _ rfl
    have eee4 := cell_of (unhide BW9) 4 _ rfl
    have eeel := lt_of_block (unhide BW9)
    clear BDw
    have gyy : (y == y) = true := by simp
    go_wp2_with fail
    rw [← hV9]
    clear hV9
    refine (unhide CC).mono ?_
    rintro e w10 ⟨rfl, hb⟩
    have HBF := hide (bel_on (unhide HB9) hb)
    clear hb CC
    go_wp2
    go_ret
    exact ⟨rfl, unhide HBF⟩

set_option maxRecDepth 10000 in
set_option maxHeartbeats 6400000 in
theorem parse_ok (p h k n : Int) (a : Option Addr) (m c : Nat) (T : List TxD) (p2 h2 k2 n2 : Int) (a2 : Option Addr) (m2 c2 : Nat) (U : List TxD) (s : ByteArray) (x : Int) (w : World) (hE : EnvF w) (hT : TxsAt w a m T) (hm : m ≤ maxLen) (hU : TxsAt w a2 m2 U) (hx : chkB (p, h, k, n, T) = x) (h0 : x = 0) (RB : ReadsB) :
    Calls Tryz.prog 3 #[.agg #[.int .i64 p, .int .i64 h, .int .i64 k, .int .i64 n, .slice a m c], .agg #[.int .i64 p2, .int .i64 h2, .int .i64 k2, .int .i64 n2, .slice a2 m2 c2], .string s] w fun e w' => e = .returned (.bool true) ∧ Below w.heap.size w w' := by
  obtain ⟨V0, hV0⟩ : ∃ V0, V0 = (w.alloc (.cells #[.int .i64 p, .int .i64 h, .int .i64 k, .int .i64 n, .slice a m c] 24)).alloc (.cells #[.int .i64 p2, .int .i64 h2, .int .i64 k2, .int .i64 n2, .slice a2 m2 c2] 24) := ⟨_, rfl⟩
  have hb0 : Below w.heap.size w V0 := by rw [hV0]; exact bel_on (bel_new _ _) (bel_new _ _)
  have hB0 : V0.heap[w.heap.size]? = some (.cells [.int .i64 p, .int .i64 h, .int .i64 k, .int .i64 n, .slice a m c].toArray 24 (0, 0)) := by rw [hV0, Below.heap_alloc _ _ _ (by simp)]; exact five_heap _ _ _ _ _ _ _
  have hC0 : V0.heap[w.heap.size + 1]? = some (.cells [.int .i64 p2, .int .i64 h2, .int .i64 k2, .int .i64 n2, .slice a2 m2 c2].toArray 24 (0, 0)) := by
    rw [hV0]
    have := five_heap (w.alloc (.cells #[.int .i64 p, .int .i64 h, .int .i64 k, .int .i64 n, .slice a m c] 24)) (.int .i64 p2) (.int .i64 h2) (.int .i64 k2) (.int .i64 n2) (.slice a2 m2 c2) 24
    rw [show (w.alloc (.cells #[.int .i64 p, .int .i64 h, .int .i64 k, .int .i64 n, .slice a m c] 24)).heap.size = w.heap.size + 1 by simp] at this
    exact this
  obtain ⟨t, ht⟩ : ∃ t, blkT (p, h, k, n, T) = t := ⟨_, rfl⟩
  obtain ⟨o, ho⟩ : ∃ o, decide (((p, h, k, n, T) : BlkD) = (p2, h2, k2, n2, U)) = o := ⟨_, rfl⟩
  obtain ⟨y, D, hy⟩ : ∃ y D, prB s = (y, D) := ⟨_, _, rfl⟩
  obtain ⟨d1, d2, d3, d4, DT⟩ := D
  have C1 := hide (blkPrint_is p h k n a m c T t x V0 (hE.later hb0).envp.env (hT.later hb0) hx ht)
  have C2 := hide (fun W (hb : Below w.heap.size w W) => blkParse_any s W (hE.later hb).envp y (d1, d2, d3, d4, DT) hy)
  have C3 := hide (fun W (hb : Below w.heap.size w W) => rchkBlock_any p h k n a m c T x W (hT.later hb) hx)
  have C4 := hide (fun W (hb : Below w.heap.size w W) => laid_yes W (hE.later hb).envp.env)
  have C5 := hide (fun W (hb : Below w.heap.size w W) => blkCheck_any p h k n a m c T x W (hT.later hb) hx)
  have C6 := hide (fun W (hb : Below w.heap.size w W) => blkSame_is p h k n p2 h2 k2 n2 a a2 m c m2 c2 T U o W hm (hT.later hb) (hU.later hb) ((sameB_dec _ _).trans ho))
  have C7 := hide (fun W (hb : Below w.heap.size w W) => rsameBlk_is p h k n p2 h2 k2 n2 a a2 m c m2 c2 T U o W hm (hT.later hb) (hU.later hb) ho)
  subst h0
  have HTT : Hid (t = blkText (p, h, k, n, T)) := by show _ = _; rw [← ht]; unfold blkT; rw [hx, if_pos rfl]
  have C8 := hide (fun W (hb : Below w.heap.size w W) => rblkText_is p h k n a m c T W (hE.later hb) (hT.later hb) hx)
  have C9 := hide (fun (hl : s.size ≤ 4000) W (hb : Below w.heap.size w W) => RB s W hl (hE.later hb) y (d1, d2, d3, d4, DT) hy)
  have HZ : Hid (4000 < s.size → (y, (d1, d2, d3, d4, DT)) = ((2 : Int), zeroBk)) := fun hl => by rw [← hy]; unfold prB; rw [if_pos hl]
  have HB0 := hide hb0
  have BB0 := hide hB0
  have BC0 := hide hC0
  clear hE hT hU hx hy ht ho hb0 hB0 hC0 RB
  have bbb0 := cell_of (unhide BB0) 0 _ rfl
  have bbb1 := cell_of (unhide BB0) 1 _ rfl
  have bbb2 := cell_of (unhide BB0) 2 _ rfl
  have bbb3 := cell_of (unhide BB0) 3 _ rfl
  have bbb4 := cell_of (unhide BB0) 4 _ rfl
  have bbbl := lt_of_block (unhide BB0)
  go_enter Tryz.func3, Tryz.ntmps3
  go_wp2_with fail
  rw [← hV0]
  clear hV0
  refine (unhide C1).mono ?_
  rintro e w1 ⟨rfl, hb1⟩
  have HB1 := hide (bel_on (unhide HB0) hb1)
  have BB1 := hide ((hb1.block _ (lt_of_block (unhide BB0))).trans (unhide BB0))
  have BC1 := hide ((hb1.block _ (lt_of_block (unhide BC0))).trans (unhide BC0))
  clear hb1 C1 BB0 BC0 bbb0 bbb1 bbb2 bbb3 bbb4 bbbl
  have CC := hide ((unhide C2) w1 (unhide HB1))
  go_wp2_with fail
  refine (unhide CC).mono ?_
  rintro e w2 ⟨da, dn, dc, rfl, hD2, sD2, hb2⟩
  simp only at hD2 ⊢
  obtain ⟨V2, hV2⟩ : ∃ V2, V2 = w2.alloc (.cells #[.int .i64 d1, .int .i64 d2, .int .i64 d3, .int .i64 d4, .slice da dn dc] 24) := ⟨_, rfl⟩
  have hbV : Below w2.heap.size w2 V2 := by rw [hV2]; exact bel_new _ _
  have hD0 : V2.heap[w2.heap.size]? = some (.cells [.int .i64 d1, .int .i64 d2, .int .i64 d3, .int .i64 d4, .slice da dn dc].toArray 24 (0, 0)) := by rw [hV2]; exact five_heap _ _ _ _ _ _ _
  have hb2V := bel_on hb2 hbV
  have HB2 := hide (bel_on (unhide HB1) hb2V)
  have BB2 := hide ((hb2V.block _ (lt_of_block (unhide BB1))).trans (unhide BB1))
  have BC2 := hide ((hb2V.block _ (lt_of_block (unhide BC1))).trans (unhide BC1))
  have BBw := hide ((hb2.block _ (lt_of_block (unhide BB1))).trans (unhide BB1))
  have BD2 := hide hD0
  have HD2 := hide (hD2.later hbV)
  have SD := hide sD2
  have CC := hide ((unhide C3) V2 (unhide HB2))
  clear hb2 hbV hb2V hD0 hD2 sD2 C2 BB1 BC1
  have bbb0 := cell_of (unhide BBw) 0 _ rfl
  have bbb1 := cell_of (unhide BBw) 1 _ rfl
  have bbb2 := cell_of (unhide BBw) 2 _ rfl
  have bbb3 := cell_of (unhide BBw) 3 _ rfl
  have bbb4 := cell_of (unhide BBw) 4 _ rfl
  have bbbl := lt_of_block (unhide BBw)
  clear BBw
  go_wp2_with fail
  rw [← hV2]
  clear hV2
  refine (unhide CC).mono ?_
  rintro e w3 ⟨rfl, hb⟩
  have HB3 := hide (bel_on (unhide HB2) hb)
  have BB3 := hide ((hb.block _ (lt_of_block (unhide BB2))).trans (unhide BB2))
  have BC3 := hide ((hb.block _ (lt_of_block (unhide BC2))).trans (unhide BC2))
  have BD3 := hide ((hb.block _ (lt_of_block (unhide BD2))).trans (unhide BD2))
  have HD3 := hide ((unhide HD2).later hb)
  clear hb CC BB2 BC2 BD2 HD2 bbb0 bbb1 bbb2 bbb3 bbb4 bbbl
  obtain rfl := unhide HTT
  clear HTT
  have bbb0 := cell_of (unhide BB3) 0 _ rfl
  have bbb1 := cell_of (unhide BB3) 1 _ rfl
  have bbb2 := cell_of (unhide BB3) 2 _ rfl
  have bbb3 := cell_of (unhide BB3) 3 _ rfl
  have bbb4 := cell_of (unhide BB3) 4 _ rfl
  have bbbl := lt_of_block (unhide BB3)
  have ccc0 := cell_of (unhide BC3) 0 _ rfl
  have ccc1 := cell_of (unhide BC3) 1 _ rfl
  have ccc2 := cell_of (unhide BC3) 2 _ rfl
  have ccc3 := cell_of (unhide BC3) 3 _ rfl
  have ccc4 := cell_of (unhide BC3) 4 _ rfl
  have cccl := lt_of_block (unhide BC3)
  have KS : Hid (∀ W, Below w3.heap.size w3 W → Below w3.heap.size w3 W ∧ W.cell? ⟨w.heap.size, 0, none⟩ = some (.int .i64 p) ∧ W.cell? ⟨w.heap.size, 1, none⟩ = some (.int .i64 h) ∧ W.cell? ⟨w.heap.size, 2, none⟩ = some (.int .i64 k) ∧ W.cell? ⟨w.heap.size, 3, none⟩ = some (.int .i64 n) ∧ W.cell? ⟨w.heap.size, 4, none⟩ = some (.slice a m c) ∧ W.cell? ⟨w.heap.size + 1, 0, none⟩ = some (.int .i64 p2) ∧ W.cell? ⟨w.heap.size + 1, 1, none⟩ = some (.int .i64 h2) ∧ W.cell? ⟨w.heap.size + 1, 2, none⟩ = some (.int .i64 k2) ∧ W.cell? ⟨w.heap.size + 1, 3, none⟩ = some (.int .i64 n2) ∧ W.cell? ⟨w.heap.size + 1, 4, none⟩ = some (.slice a2 m2 c2)) := fun W hW => ⟨hW, cell_later hW bbb0, cell_later hW bbb1, cell_later hW bbb2, cell_later hW bbb3, cell_later hW bbb4, cell_later hW ccc0, cell_later hW ccc1, cell_later hW ccc2, cell_later hW ccc3, cell_later hW ccc4⟩
  go_wp2_with fail
  refine wp_region_held_drew (S := fun W => Below w3.heap.size w3 W ∧ W.cell? ⟨w.heap.size, 0, none⟩ = some (.int .i64 p) ∧ W.cell? ⟨w.heap.size, 1, none⟩ = some (.int .i64 h) ∧ W.cell? ⟨w.heap.size, 2, none⟩ = some (.int .i64 k) ∧ W.cell? ⟨w.heap.size, 3, none⟩ = some (.int .i64 n) ∧ W.cell? ⟨w.heap.size, 4, none⟩ = some (.slice a m c) ∧ W.cell? ⟨w.heap.size + 1, 0, none⟩ = some (.int .i64 p2) ∧ W.cell? ⟨w.heap.size + 1, 1, none⟩ = some (.int .i64 h2) ∧ W.cell? ⟨w.heap.size + 1, 2, none⟩ = some (.int .i64 k2) ∧ W.cell? ⟨w.heap.size + 1, 3, none⟩ = some (.int .i64 n2) ∧ W.cell? ⟨w.heap.size + 1, 4, none⟩ = some (.slice a2 m2 c2)) (by kernel_rfl) ((unhide KS) _ (bel_draw1 _)) (fun hHeld => ?_)
  have HR0 := hide (bel_draw1 w3)
  clear bbb0 bbb1 bbb2 bbb3 bbb4 bbbl ccc0 ccc1 ccc2 ccc3 ccc4 cccl
  refine wpAnyH_ready (rs := [0]) (by kernel_rfl) (by simp) ?_
  refine AllReadyH.cons (o := { dst := some 25, op := Op.call { callee := Callee.value (Operand.func 10), args := #[], argTypes := #[] }, type := 4, pos := "law1.go:381", after := #[], guard := none }) rfl (fun K hK => ?_) AllReadyH.nil
  refine step_call_w (by kernel_rfl) 10 #[] (by kernel_rfl) ((unhide C4) _ (bel_on (unhide HB3) (unhide HR0))) ?_
  rintro e r1 ⟨rfl, hb⟩
  refine ⟨_, rfl, ?_⟩
  have HR1 := hide (bel_on (unhide HR0) hb)
  clear hb HR0
  refine hK.out _ _ ((unhide KS) _ (unhide HR1)) (fun hHeld2 => ?_)
  clear hK K hHeld
  have hHeld := hHeld2
  clear hHeld2
  (try simp only [Act.put, List.setIfInBounds_toArray, List.set_cons_zero, List.set_cons_succ])
  refine wpAnyH_take (i := 1) (oi := { dst := some 26, op := Op.unOp UnOp.not 4 (Operand.tmp 25), type := 4, pos := "law1.go:381", after := #[{ on := 0, ground := Ground.data }], guard := none }) (v := ?_) rfl (by kernel_rfl) (by kernel_rfl) (by kernel_rfl) (fun _ _ _ h => h) (Or.inl ⟨by rfl, ?_⟩) hHeld ?_
  rotate_left
  · (intro W hSw; (try dsimp only at hSw); go_simp; first | done | with_reducible rfl)
  (try simp only [Act.put, List.setIfInBounds_toArray, List.set_cons_zero, List.set_cons_succ])
  refine wpAnyH_take (i := 2) (oi := { dst := some 27, op := Op.move (Operand.tmp 26), type := 4, pos := "law1.go:381", after := #[{ on := 1, ground := Ground.data }, { on := 0, ground := Ground.chain }], guard := none }) (v := ?_) rfl (by kernel_rfl) (by kernel_rfl) (by kernel_rfl) (fun _ _ _ h => h) (Or.inl ⟨by rfl, ?_⟩) hHeld ?_
  rotate_left
  · (intro W hSw; (try dsimp only at hSw); go_simp; first | done | with_reducible rfl)
  (try simp only [Act.put, List.setIfInBounds_toArray, List.set_cons_zero, List.set_cons_succ])
  refine wpAnyH_take (i := 3) (oi := { dst := some 28, op := Op.load 24 (Operand.tmp 3), type := 24, pos := "law1.go:381", after := #[{ on := 2, ground := Ground.guard }], guard := some (2, false) }) (v := ?_) rfl (by kernel_rfl) (by kernel_rfl) (by kernel_rfl) (fun _ _ _ h => h) (Or.inl ⟨by rfl, ?_⟩) hHeld ?_
  rotate_left
  · (intro W hSw; (try dsimp only at hSw); go_simp; first | done | with_reducible rfl)
  (try simp only [Act.put, List.setIfInBounds_toArray, List.set_cons_zero, List.set_cons_succ])
  refine wpAnyH_take (i := 5) (oi := { dst := some 30, op := Op.move (Operand.tmp 11), type := 25, pos := "law1.go:381", after := #[{ on := 2, ground := Ground.guard }], guard := some (2, false) }) (v := ?_) rfl (by kernel_rfl) (by kernel_rfl) (by kernel_rfl) (fun _ _ _ h => h) (Or.inl ⟨by rfl, ?_⟩) hHeld ?_
  rotate_left
  · (intro W hSw; (try dsimp only at hSw); go_simp; first | done | with_reducible rfl)
  (try simp only [Act.put, List.setIfInBounds_toArray, List.set_cons_zero, List.set_cons_succ])
  refine wpAnyH_ready (rs := [4]) (by kernel_rfl) (by simp) ?_
  refine AllReadyH.cons (o := { dst := some 29, op := Op.call { callee := Callee.value (Operand.func 11), args := #[Operand.tmp 28], argTypes := #[24] }, type := 25, pos := "law1.go:381", after := #[{ on := 3, ground := Ground.data }, { on := 2, ground := Ground.chain }, { on := 2, ground := Ground.guard }], guard := some (2, false) }) rfl (fun K hK => ?_) AllReadyH.nil
  refine step_call_w (by kernel_rfl) 11 #[.agg #[.int .i64 p, .int .i64 h, .int .i64 k, .int .i64 n, .slice a m c]] (by kernel_rfl) ((unhide C5) _ (bel_on (unhide HB3) (unhide HR1))) ?_
  rintro e r2 ⟨rfl, hb⟩
  refine ⟨_, rfl, ?_⟩
  have HR2 := hide (bel_on (unhide HR1) hb)
  clear hb HR1
  refine hK.out _ _ ((unhide KS) _ (unhide HR2)) (fun hHeld2 => ?_)
  clear hK K hHeld
  have hHeld := hHeld2
  clear hHeld2
  (try simp only [Act.put, List.setIfInBounds_toArray, List.set_cons_zero, List.set_cons_succ])
  refine wpAnyH_take (i := 6) (oi := { dst := some 31, op := Op.binOp BinOp.neq 25 (Operand.tmp 29) (Operand.tmp 30) 25, type := 4, pos := "law1.go:381", after := #[{ on := 4, ground := Ground.data }, { on := 5, ground := Ground.data }, { on := 2, ground := Ground.guard }], guard := some (2, false) }) (v := ?_) rfl (by kernel_rfl) (by kernel_rfl) (by kernel_rfl) (fun _ _ _ h => h) (Or.inl ⟨by rfl, ?_⟩) hHeld ?_
  rotate_left
  · (intro W hSw; (try dsimp only at hSw); go_simp; first | done | with_reducible rfl)
  (try simp only [Act.put, List.setIfInBounds_toArray, List.set_cons_zero, List.set_cons_succ])
  refine wpAnyH_take (i := 7) (oi := { dst := some 32, op := Op.pick (Operand.tmp 27) (Operand.const (Value.bool true)) (Operand.tmp 31), type := 4, pos := "law1.go:381", after := #[{ on := 2, ground := Ground.data }, { on := 6, ground := Ground.data }], guard := none }) (v := ?_) rfl (by kernel_rfl) (by kernel_rfl) (by kernel_rfl) (fun _ _ _ h => h) (Or.inl ⟨by rfl, ?_⟩) hHeld ?_
  rotate_left
  · (intro W hSw; (try dsimp only at hSw); go_simp; first | done | with_reducible rfl)
  (try simp only [Act.put, List.setIfInBounds_toArray, List.set_cons_zero, List.set_cons_succ])
  refine wpAnyH_take (i := 8) (oi := { dst := some 33, op := Op.move (Operand.tmp 32), type := 4, pos := "law1.go:381", after := #[{ on := 7, ground := Ground.data }, { on := 4, ground := Ground.chain }], guard := none }) (v := ?_) rfl (by kernel_rfl) (by kernel_rfl) (by kernel_rfl) (fun _ _ _ h => h) (Or.inl ⟨by rfl, ?_⟩) hHeld ?_
  rotate_left
  · (intro W hSw; (try dsimp only at hSw); go_simp; first | done | with_reducible rfl)
  (try simp only [Act.put, List.setIfInBounds_toArray, List.set_cons_zero, List.set_cons_succ])
  refine wpAnyH_take (i := 9) (oi := { dst := some 34, op := Op.load 24 (Operand.tmp 3), type := 24, pos := "law1.go:381", after := #[{ on := 8, ground := Ground.guard }], guard := some (8, false) }) (v := ?_) rfl (by kernel_rfl) (by kernel_rfl) (by kernel_rfl) (fun _ _ _ h => h) (Or.inl ⟨by rfl, ?_⟩) hHeld ?_
  rotate_left
  · (intro W hSw; (try dsimp only at hSw); go_simp; first | done | with_reducible rfl)
  (try simp only [Act.put, List.setIfInBounds_toArray, List.set_cons_zero, List.set_cons_succ])
  refine wpAnyH_take (i := 10) (oi := { dst := some 35, op := Op.load 24 (Operand.tmp 4), type := 24, pos := "law1.go:381", after := #[{ on := 8, ground := Ground.guard }], guard := some (8, false) }) (v := ?_) rfl (by kernel_rfl) (by kernel_rfl) (by kernel_rfl) (fun _ _ _ h => h) (Or.inl ⟨by rfl, ?_⟩) hHeld ?_
  rotate_left
  · (intro W hSw; (try dsimp only at hSw); go_simp; first | done | with_reducible rfl)
  (try simp only [Act.put, List.setIfInBounds_toArray, List.set_cons_zero, List.set_cons_succ])
  refine wpAnyH_take (i := 12) (oi := { dst := some 37, op := Op.load 24 (Operand.tmp 3), type := 24, pos := "law1.go:381", after := #[{ on := 8, ground := Ground.guard }], guard := some (8, false) }) (v := ?_) rfl (by kernel_rfl) (by kernel_rfl) (by kernel_rfl) (fun _ _ _ h => h) (Or.inl ⟨by rfl, ?_⟩) hHeld ?_
  rotate_left
  · (intro W hSw; (try dsimp only at hSw); go_simp; first | done | with_reducible rfl)
  (try simp only [Act.put, List.setIfInBounds_toArray, List.set_cons_zero, List.set_cons_succ])
  refine wpAnyH_take (i := 13) (oi := { dst := some 38, op := Op.load 24 (Operand.tmp 4), type := 24, pos := "law1.go:381", after := #[{ on := 8, ground := Ground.guard }], guard := some (8, false) }) (v := ?_) rfl (by kernel_rfl) (by kernel_rfl) (by kernel_rfl) (fun _ _ _ h => h) (Or.inl ⟨by rfl, ?_⟩) hHeld ?_
  rotate_left
  · (intro W hSw; (try dsimp only at hSw); go_simp; first | done | with_reducible rfl)
  (try simp only [Act.put, List.setIfInBounds_toArray, List.set_cons_zero, List.set_cons_succ])
  refine wpAnyH_ready (rs := [11]) (by kernel_rfl) (by simp) ?_
  refine AllReadyH.cons (o := { dst := some 36, op := Op.call { callee := Callee.value (Operand.func 12), args := #[Operand.tmp 34, Operand.tmp 35], argTypes := #[24, 24] }, type := 4, pos := "law1.go:381", after := #[{ on := 9, ground := Ground.data }, { on := 10, ground := Ground.data }, { on := 8, ground := Ground.chain }, { on := 8, ground := Ground.guard }], guard := some (8, false) }) rfl (fun K hK => ?_) AllReadyH.nil
  refine step_call_w (by kernel_rfl) 12 #[.agg #[.int .i64 p, .int .i64 h, .int .i64 k, .int .i64 n, .slice a m c], .agg #[.int .i64 p2, .int .i64 h2, .int .i64 k2, .int .i64 n2, .slice a2 m2 c2]] (by kernel_rfl) ((unhide C6) _ (bel_on (unhide HB3) (unhide HR2))) ?_
  rintro e r3 ⟨rfl, hb⟩
  refine ⟨_, rfl, ?_⟩
  have HR3 := hide (bel_on (unhide HR2) hb)
  clear hb HR2
  refine hK.out _ _ ((unhide KS) _ (unhide HR3)) (fun hHeld2 => ?_)
  clear hK K hHeld
  have hHeld := hHeld2
  clear hHeld2
  (try simp only [Act.put, List.setIfInBounds_toArray, List.set_cons_zero, List.set_cons_succ])
  refine wpAnyH_ready (rs := [14]) (by kernel_rfl) (by simp) ?_
  refine AllReadyH.cons (o := { dst := some 39, op := Op.call { callee := Callee.value (Operand.func 13), args := #[Operand.tmp 37, Operand.tmp 38], argTypes := #[24, 24] }, type := 4, pos := "law1.go:381", after := #[{ on := 12, ground := Ground.data }, { on := 13, ground := Ground.data }, { on := 11, ground := Ground.chain }, { on := 8, ground := Ground.guard }], guard := some (8, false) }) rfl (fun K hK => ?_) AllReadyH.nil
  refine step_call_w (by kernel_rfl) 13 #[.agg #[.int .i64 p, .int .i64 h, .int .i64 k, .int .i64 n, .slice a m c], .agg #[.int .i64 p2, .int .i64 h2, .int .i64 k2, .int .i64 n2, .slice a2 m2 c2]] (by kernel_rfl) ((unhide C7) _ (bel_on (unhide HB3) (unhide HR3))) ?_
  rintro e r4 ⟨rfl, hb⟩
  refine ⟨_, rfl, ?_⟩
  have HR4 := hide (bel_on (unhide HR3) hb)
  clear hb HR3
  refine hK.out _ _ ((unhide KS) _ (unhide HR4)) (fun hHeld2 => ?_)
  clear hK K hHeld
  have hHeld := hHeld2
  clear hHeld2
  (try simp only [Act.put, List.setIfInBounds_toArray, List.set_cons_zero, List.set_cons_succ])
  refine wpAnyH_take (i := 15) (oi := { dst := some 40, op := Op.binOp BinOp.neq 4 (Operand.tmp 36) (Operand.tmp 39) 4, type := 4, pos := "law1.go:381", after := #[{ on := 11, ground := Ground.data }, { on := 14, ground := Ground.data }, { on := 8, ground := Ground.guard }], guard := some (8, false) }) (v := ?_) rfl (by kernel_rfl) (by kernel_rfl) (by kernel_rfl) (fun _ _ _ h => h) (Or.inl ⟨by rfl, ?_⟩) hHeld ?_
  rotate_left
  · (intro W hSw; (try dsimp only at hSw); go_simp; first | done | with_reducible rfl)
  (try simp only [Act.put, List.setIfInBounds_toArray, List.set_cons_zero, List.set_cons_succ])
  refine wpAnyH_take (i := 16) (oi := { dst := some 41, op := Op.pick (Operand.tmp 33) (Operand.const (Value.bool true)) (Operand.tmp 40), type := 4, pos := "law1.go:381", after := #[{ on := 8, ground := Ground.data }, { on := 15, ground := Ground.data }], guard := none }) (v := ?_) rfl (by kernel_rfl) (by kernel_rfl) (by kernel_rfl) (fun _ _ _ h => h) (Or.inl ⟨by rfl, ?_⟩) hHeld ?_
  rotate_left
  · (intro W hSw; (try dsimp only at hSw); go_simp; first | done | with_reducible rfl)
  (try simp only [Act.put, List.setIfInBounds_toArray, List.set_cons_zero, List.set_cons_succ])
  refine wpAnyH_take (i := 17) (oi := { dst := some 42, op := Op.move (Operand.tmp 41), type := 4, pos := "law1.go:381", after := #[{ on := 16, ground := Ground.data }, { on := 14, ground := Ground.chain }], guard := none }) (v := ?_) rfl (by kernel_rfl) (by kernel_rfl) (by kernel_rfl) (fun _ _ _ h => h) (Or.inl ⟨by rfl, ?_⟩) hHeld ?_
  rotate_left
  · (intro W hSw; (try dsimp only at hSw); go_simp; first | done | with_reducible rfl)
  (try simp only [Act.put, List.setIfInBounds_toArray, List.set_cons_zero, List.set_cons_succ])
  refine wpAnyH_take (i := 18) (oi := { dst := some 43, op := Op.move (Operand.tmp 8), type := 25, pos := "law1.go:381", after := #[{ on := 17, ground := Ground.guard }], guard := some (17, false) }) (v := ?_) rfl (by kernel_rfl) (by kernel_rfl) (by kernel_rfl) (fun _ _ _ h => h) (Or.inl ⟨by rfl, ?_⟩) hHeld ?_
  rotate_left
  · (intro W hSw; (try dsimp only at hSw); go_simp; first | done | with_reducible rfl)
  (try simp only [Act.put, List.setIfInBounds_toArray, List.set_cons_zero, List.set_cons_succ])
  refine wpAnyH_take (i := 19) (oi := { dst := some 44, op := Op.move (Operand.tmp 11), type := 25, pos := "law1.go:381", after := #[{ on := 17, ground := Ground.guard }], guard := some (17, false) }) (v := ?_) rfl (by kernel_rfl) (by kernel_rfl) (by kernel_rfl) (fun _ _ _ h => h) (Or.inl ⟨by rfl, ?_⟩) hHeld ?_
  rotate_left
  · (intro W hSw; (try dsimp only at hSw); go_simp; first | done | with_reducible rfl)
  (try simp only [Act.put, List.setIfInBounds_toArray, List.set_cons_zero, List.set_cons_succ])
  refine wpAnyH_take (i := 20) (oi := { dst := some 45, op := Op.binOp BinOp.neq 25 (Operand.tmp 43) (Operand.tmp 44) 25, type := 4, pos := "law1.go:381", after := #[{ on := 18, ground := Ground.data }, { on := 19, ground := Ground.data }, { on := 17, ground := Ground.guard }], guard := some (17, false) }) (v := ?_) rfl (by kernel_rfl) (by kernel_rfl) (by kernel_rfl) (fun _ _ _ h => h) (Or.inl ⟨by rfl, ?_⟩) hHeld ?_
  rotate_left
  · (intro W hSw; (try dsimp only at hSw); go_simp; first | done | with_reducible rfl)
  (try simp only [Act.put, List.setIfInBounds_toArray, List.set_cons_zero, List.set_cons_succ])
  refine wpAnyH_take (i := 21) (oi := { dst := some 46, op := Op.pick (Operand.tmp 42) (Operand.const (Value.bool true)) (Operand.tmp 45), type := 4, pos := "law1.go:381", after := #[{ on := 17, ground := Ground.data }, { on := 20, ground := Ground.data }], guard := none }) (v := ?_) rfl (by kernel_rfl) (by kernel_rfl) (by kernel_rfl) (fun _ _ _ h => h) (Or.inl ⟨by rfl, ?_⟩) hHeld ?_
  rotate_left
  · (intro W hSw; (try dsimp only at hSw); go_simp; first | done | with_reducible rfl)
  (try simp only [Act.put, List.setIfInBounds_toArray, List.set_cons_zero, List.set_cons_succ])
  refine wpAnyH_take (i := 22) (oi := { dst := some 47, op := Op.move (Operand.tmp 46), type := 4, pos := "law1.go:381", after := #[{ on := 21, ground := Ground.data }, { on := 17, ground := Ground.chain }], guard := none }) (v := ?_) rfl (by kernel_rfl) (by kernel_rfl) (by kernel_rfl) (fun _ _ _ h => h) (Or.inl ⟨by rfl, ?_⟩) hHeld ?_
  rotate_left
  · (intro W hSw; (try dsimp only at hSw); go_simp; first | done | with_reducible rfl)
  (try simp only [Act.put, List.setIfInBounds_toArray, List.set_cons_zero, List.set_cons_succ])
  refine wpAnyH_take (i := 23) (oi := { dst := some 48, op := Op.move (Operand.tmp 11), type := 25, pos := "law1.go:381", after := #[{ on := 22, ground := Ground.guard }], guard := some (22, false) }) (v := ?_) rfl (by kernel_rfl) (by kernel_rfl) (by kernel_rfl) (fun _ _ _ h => h) (Or.inl ⟨by rfl, ?_⟩) hHeld ?_
  rotate_left
  · (intro W hSw; (try dsimp only at hSw); go_simp; first | done | with_reducible rfl)
  (try simp only [Act.put, List.setIfInBounds_toArray, List.set_cons_zero, List.set_cons_succ])
  refine wpAnyH_take (i := 24) (oi := { dst := some 49, op := Op.binOp BinOp.eql 25 (Operand.tmp 48) (Operand.const (Value.int IntKind.i64 0)) 25, type := 4, pos := "law1.go:381", after := #[{ on := 23, ground := Ground.data }, { on := 22, ground := Ground.guard }], guard := some (22, false) }) (v := ?_) rfl (by kernel_rfl) (by kernel_rfl) (by kernel_rfl) (fun _ _ _ h => h) (Or.inl ⟨by rfl, ?_⟩) hHeld ?_
  rotate_left
  · (intro W hSw; (try dsimp only at hSw); go_simp; first | done | with_reducible rfl)
  (try simp only [Act.put, List.setIfInBounds_toArray, List.set_cons_zero, List.set_cons_succ])
  refine wpAnyH_take (i := 25) (oi := { dst := some 50, op := Op.move (Operand.tmp 49), type := 4, pos := "law1.go:381", after := #[{ on := 24, ground := Ground.data }, { on := 22, ground := Ground.chain }, { on := 22, ground := Ground.guard }], guard := some (22, false) }) (v := ?_) rfl (by kernel_rfl) (by kernel_rfl) (by kernel_rfl) (fun _ _ _ h => h) (Or.inl ⟨by rfl, ?_⟩) hHeld ?_
  rotate_left
  · (intro W hSw; (try dsimp only at hSw); go_simp; first | done | with_reducible rfl)
  (try simp only [Act.put, List.setIfInBounds_toArray, List.set_cons_zero, List.set_cons_succ])
  refine wpAnyH_take (i := 26) (oi := { dst := some 51, op := Op.move (Operand.tmp 7), type := 9, pos := "law1.go:381", after := #[{ on := 25, ground := Ground.guard }], guard := some (25, true) }) (v := ?_) rfl (by kernel_rfl) (by kernel_rfl) (by kernel_rfl) (fun _ _ _ h => h) (Or.inl ⟨by rfl, ?_⟩) hHeld ?_
  rotate_left
  · (intro W hSw; (try dsimp only at hSw); go_simp; first | done | with_reducible rfl)
  (try simp only [Act.put, List.setIfInBounds_toArray, List.set_cons_zero, List.set_cons_succ])
  refine wpAnyH_take (i := 27) (oi := { dst := some 52, op := Op.load 24 (Operand.tmp 3), type := 24, pos := "law1.go:381", after := #[{ on := 25, ground := Ground.guard }], guard := some (25, true) }) (v := ?_) rfl (by kernel_rfl) (by kernel_rfl) (by kernel_rfl) (fun _ _ _ h => h) (Or.inl ⟨by rfl, ?_⟩) hHeld ?_
  rotate_left
  · (intro W hSw; (try dsimp only at hSw); go_simp; first | done | with_reducible rfl)
  (try simp only [Act.put, List.setIfInBounds_toArray, List.set_cons_zero, List.set_cons_succ])
  refine wpAnyH_ready (rs := [28]) (by kernel_rfl) (by simp) ?_
  refine AllReadyH.cons (o := { dst := some 53, op := Op.call { callee := Callee.value (Operand.func 14), args := #[Operand.tmp 52], argTypes := #[24] }, type := 9, pos := "law1.go:381", after := #[{ on := 27, ground := Ground.data }, { on := 25, ground := Ground.chain }, { on := 25, ground := Ground.guard }], guard := some (25, true) }) rfl (fun K hK => ?_) AllReadyH.nil
  refine step_call_w (by kernel_rfl) 14 #[.agg #[.int .i64 p, .int .i64 h, .int .i64 k, .int .i64 n, .slice a m c]] (by kernel_rfl) ((unhide C8) _ (bel_on (unhide HB3) (unhide HR4))) ?_
  rintro e r5 ⟨rfl, hb⟩
  refine ⟨_, rfl, ?_⟩
  have HR5 := hide (bel_on (unhide HR4) hb)
  clear hb HR4
  refine hK.out _ _ ((unhide KS) _ (unhide HR5)) (fun hHeld2 => ?_)
  clear hK K hHeld
  have hHeld := hHeld2
  clear hHeld2
  (try simp only [Act.put, List.setIfInBounds_toArray, List.set_cons_zero, List.set_cons_succ])
  refine wpAnyH_take (i := 29) (oi := { dst := some 54, op := Op.binOp BinOp.neq 9 (Operand.tmp 51) (Operand.tmp 53) 9, type := 4, pos := "law1.go:381", after := #[{ on := 26, ground := Ground.data }, { on := 28, ground := Ground.data }, { on := 25, ground := Ground.guard }], guard := some (25, true) }) (v := ?_) rfl (by kernel_rfl) (by kernel_rfl) (by kernel_rfl) (fun _ _ _ h => h) (Or.inl ⟨by rfl, ?_⟩) hHeld ?_
  rotate_left
  · (intro W hSw; (try dsimp only at hSw); go_simp; first | done | with_reducible rfl)
  (try simp only [Act.put, List.setIfInBounds_toArray, List.set_cons_zero, List.set_cons_succ])
  refine wpAnyH_take (i := 30) (oi := { dst := some 55, op := Op.pick (Operand.tmp 50) (Operand.tmp 54) (Operand.const (Value.bool false)), type := 4, pos := "law1.go:381", after := #[{ on := 25, ground := Ground.data }, { on := 29, ground := Ground.data }, { on := 22, ground := Ground.guard }], guard := some (22, false) }) (v := ?_) rfl (by kernel_rfl) (by kernel_rfl) (by kernel_rfl) (fun _ _ _ h => h) (Or.inl ⟨by rfl, ?_⟩) hHeld ?_
  rotate_left
  · (intro W hSw; (try dsimp only at hSw); go_simp; first | done | with_reducible rfl)
  (try simp only [Act.put, List.setIfInBounds_toArray, List.set_cons_zero, List.set_cons_succ])
  refine wpAnyH_take (i := 31) (oi := { dst := some 56, op := Op.pick (Operand.tmp 47) (Operand.const (Value.bool true)) (Operand.tmp 55), type := 4, pos := "law1.go:381", after := #[{ on := 22, ground := Ground.data }, { on := 30, ground := Ground.data }], guard := none }) (v := ?_) rfl (by kernel_rfl) (by kernel_rfl) (by kernel_rfl) (fun _ _ _ h => h) (Or.inl ⟨by rfl, ?_⟩) hHeld ?_
  rotate_left
  · (intro W hSw; (try dsimp only at hSw); go_simp; first | done | with_reducible rfl)
  (try simp only [Act.put, List.setIfInBounds_toArray, List.set_cons_zero, List.set_cons_succ])
  refine wpAnyH_take (i := 32) (oi := { dst := some 57, op := Op.move (Operand.tmp 56), type := 4, pos := "law1.go:381", after := #[{ on := 31, ground := Ground.data }, { on := 28, ground := Ground.chain }], guard := none }) (v := ?_) rfl (by kernel_rfl) (by kernel_rfl) (by kernel_rfl) (fun _ _ _ h => h) (Or.inl ⟨by rfl, ?_⟩) hHeld ?_
  rotate_left
  · (intro W hSw; (try dsimp only at hSw); go_simp; first | done | with_reducible rfl)
  (try simp only [Act.put, List.setIfInBounds_toArray, List.set_cons_zero, List.set_cons_succ])
  refine wpAnyH_take (i := 33) (oi := { dst := some 58, op := Op.move (Operand.tmp 11), type := 25, pos := "law1.go:381", after := #[{ on := 32, ground := Ground.guard }], guard := some (32, false) }) (v := ?_) rfl (by kernel_rfl) (by kernel_rfl) (by kernel_rfl) (fun _ _ _ h => h) (Or.inl ⟨by rfl, ?_⟩) hHeld ?_
  rotate_left
  · (intro W hSw; (try dsimp only at hSw); go_simp; first | done | with_reducible rfl)
  (try simp only [Act.put, List.setIfInBounds_toArray, List.set_cons_zero, List.set_cons_succ])
  refine wpAnyH_take (i := 34) (oi := { dst := some 59, op := Op.binOp BinOp.neq 25 (Operand.tmp 58) (Operand.const (Value.int IntKind.i64 0)) 25, type := 4, pos := "law1.go:381", after := #[{ on := 33, ground := Ground.data }, { on := 32, ground := Ground.guard }], guard := some (32, false) }) (v := ?_) rfl (by kernel_rfl) (by kernel_rfl) (by kernel_rfl) (fun _ _ _ h => h) (Or.inl ⟨by rfl, ?_⟩) hHeld ?_
  rotate_left
  · (intro W hSw; (try dsimp only at hSw); go_simp; first | done | with_reducible rfl)
  (try simp only [Act.put, List.setIfInBounds_toArray, List.set_cons_zero, List.set_cons_succ])
  refine wpAnyH_take (i := 35) (oi := { dst := some 60, op := Op.move (Operand.tmp 59), type := 4, pos := "law1.go:381", after := #[{ on := 34, ground := Ground.data }, { on := 32, ground := Ground.chain }, { on := 32, ground := Ground.guard }], guard := some (32, false) }) (v := ?_) rfl (by kernel_rfl) (by kernel_rfl) (by kernel_rfl) (fun _ _ _ h => h) (Or.inl ⟨by rfl, ?_⟩) hHeld ?_
  rotate_left
  · (intro W hSw; (try dsimp only at hSw); go_simp; first | done | with_reducible rfl)
  (try simp only [Act.put, List.setIfInBounds_toArray, List.set_cons_zero, List.set_cons_succ])
  refine wpAnyH_take (i := 36) (oi := { dst := some 61, op := Op.move (Operand.tmp 7), type := 9, pos := "law1.go:381", after := #[{ on := 35, ground := Ground.guard }], guard := some (35, true) }) (v := undef) rfl (by kernel_rfl) (by kernel_rfl) (by kernel_rfl) (fun _ _ _ h => h) (Or.inr ⟨by rfl, rfl⟩) hHeld ?_
  (try simp only [Act.put, List.setIfInBounds_toArray, List.set_cons_zero, List.set_cons_succ])
  refine wpAnyH_take (i := 37) (oi := { dst := some 62, op := Op.binOp BinOp.neq 9 (Operand.tmp 61) (Operand.const (Value.string { data := #[] })) 9, type := 4, pos := "law1.go:381", after := #[{ on := 36, ground := Ground.data }, { on := 35, ground := Ground.guard }], guard := some (35, true) }) (v := undef) rfl (by kernel_rfl) (by kernel_rfl) (by kernel_rfl) (fun _ _ _ h => h) (Or.inr ⟨by rfl, rfl⟩) hHeld ?_
  (try simp only [Act.put, List.setIfInBounds_toArray, List.set_cons_zero, List.set_cons_succ])
  refine wpAnyH_take (i := 38) (oi := { dst := some 63, op := Op.pick (Operand.tmp 60) (Operand.tmp 62) (Operand.const (Value.bool false)), type := 4, pos := "law1.go:381", after := #[{ on := 35, ground := Ground.data }, { on := 37, ground := Ground.data }, { on := 32, ground := Ground.guard }], guard := some (32, false) }) (v := ?_) rfl (by kernel_rfl) (by kernel_rfl) (by kernel_rfl) (fun _ _ _ h => h) (Or.inl ⟨by rfl, ?_⟩) hHeld ?_
  rotate_left
  · (intro W hSw; (try dsimp only at hSw); go_simp; first | done | with_reducible rfl)
  (try simp only [Act.put, List.setIfInBounds_toArray, List.set_cons_zero, List.set_cons_succ])
  refine wpAnyH_take (i := 39) (oi := { dst := some 64, op := Op.pick (Operand.tmp 57) (Operand.const (Value.bool true)) (Operand.tmp 63), type := 4, pos := "law1.go:381", after := #[{ on := 32, ground := Ground.data }, { on := 38, ground := Ground.data }], guard := none }) (v := ?_) rfl (by kernel_rfl) (by kernel_rfl) (by kernel_rfl) (fun _ _ _ h => h) (Or.inl ⟨by rfl, ?_⟩) hHeld ?_
  rotate_left
  · (intro W hSw; (try dsimp only at hSw); go_simp; first | done | with_reducible rfl)
  (try simp only [Act.put, List.setIfInBounds_toArray, List.set_cons_zero, List.set_cons_succ])
  refine wpAnyH_done (by kernel_rfl) ?_ _
  clear hHeld KS
  obtain ⟨w8, hw8⟩ : ∃ w8, w8 = r5 := ⟨_, rfl⟩
  rw [← hw8] at HR5 ⊢
  clear hw8
  have HB8 := hide (bel_on (unhide HB3) (unhide HR5))
  have BD8 := hide (((unhide HR5).block _ (lt_of_block (unhide BD3))).trans (unhide BD3))
  have HD8 := hide ((unhide HD3).later (unhide HR5))
  clear BB3 BC3 BD3 HD3 HR5
  by_cases hl : 4000 < s.size
  · have gl : (4000 : Int) < (s.size : Int) := by omega
    have HZ2 := (unhide HZ) hl
    clear HZ C9 hl
    obtain ⟨r1, r2⟩ := Prod.mk.inj HZ2
    subst r1
    obtain ⟨q1, r2⟩ := Prod.mk.inj r2
    obtain ⟨q2, r2⟩ := Prod.mk.inj r2
    obtain ⟨q3, r2⟩ := Prod.mk.inj r2
    obtain ⟨q4, q5⟩ := Prod.mk.inj r2
    subst q1 q2 q3 q4 q5
    have CC := hide (rsameBlk_zero 0 0 0 0 da dn dc [] true w8 (unhide SD).len (unhide HD8) (decide_eq_true rfl))
    have ddd0 := cell_of (unhide BD8) 0 _ rfl
    have ddd1 := cell_of (unhide BD8) 1 _ rfl
    have ddd2 := cell_of (unhide BD8) 2 _ rfl
    have ddd3 := cell_of (unhide BD8) 3 _ rfl
    have ddd4 := cell_of (unhide BD8) 4 _ rfl
    have dddl := lt_of_block (unhide BD8)
    go_wp2_with fail
    refine (unhide CC).mono ?_
    rintro e w9 ⟨rfl, hb⟩
    have HBF := hide (bel_on (unhide HB8) hb)
    clear hb CC
    go_wp2
    go_ret
    exact ⟨rfl, unhide HBF⟩
  · have gl : ¬ (4000 : Int) < (s.size : Int) := by omega
    have CC := hide ((unhide C9) (by omega) w8 (unhide HB8))
    clear HZ C9 hl
    go_wp2_with fail
    refine (unhide CC).mono ?_
    rintro e w9 ⟨ea, en, ec, rfl, hE9, sE9, hb9⟩
    simp only at hE9 ⊢
    obtain ⟨V9, hV9⟩ : ∃ V9, V9 = w9.alloc (.cells #[.int .i64 d1, .int .i64 d2, .int .i64 d3, .int .i64 d4, .slice ea en ec] 24) := ⟨_, rfl⟩
    have hbV : Below w9.heap.size w9 V9 := by rw [hV9]; exact bel_new _ _
    have hW0 : V9.heap[w9.heap.size]? = some (.cells [.int .i64 d1, .int .i64 d2, .int .i64 d3, .int .i64 d4, .slice ea en ec].toArray 24 (0, 0)) := by rw [hV9]; exact five_heap _ _ _ _ _ _ _
    have hb := bel_on hb9 hbV
    have HB9 := hide (bel_on (unhide HB8) hb)
    have BD9 := hide ((hb.block _ (lt_of_block (unhide BD8))).trans (unhide BD8))
    have BDw := hide ((hb9.block _ (lt_of_block (unhide BD8))).trans (unhide BD8))
    have BW9 := hide hW0
    have HD9 := hide ((unhide HD8).later hb)
    have HE9 := hide (hE9.later hbV)
    clear CC
    have CC := hide (rsameBlk_is d1 d2 d3 d4 d1 d2 d3 d4 da ea dn dc en ec DT DT true V9 (unhide SD).len (unhide HD9) (unhide HE9) (decide_eq_true rfl))
    clear hb hb9 hbV hW0 hE9 sE9 BD8 HD8
    have ddd0 := cell_of (unhide BDw) 0 _ rfl
    have ddd1 := cell_of (unhide BDw) 1 _ rfl
    have ddd2 := cell_of (unhide BDw) 2 _ rfl
    have ddd3 := cell_of (unhide BDw) 3 _ rfl
    have ddd4 := cell_of (unhide BDw) 4 _ rfl
    have dddl := lt_of_block (unhide BDw)
    have eee0 := cell_of (unhide BW9) 0 _ rfl
    have eee1 := cell_of (unhide BW9) 1 _ rfl
    have eee2 := cell_of (unhide BW9) 2 _ rfl
    have eee3 := cell_of (unhide BW9) 3 _ rfl
    have eee4 := cell_of (unhide BW9) 4 _ rfl
    have eeel := lt_of_block (unhide BW9)
    clear BDw
    have gyy : (y == y) = true := by simp
    go_wp2_with fail
    rw [← hV9]
    clear hV9
    refine (unhide CC).mono ?_
    rintro e w10 ⟨rfl, hb⟩
    have HBF := hide (bel_on (unhide HB9) hb)
    clear hb CC
    go_wp2
    go_ret
    exact ⟨rfl, unhide HBF⟩

end Go.Proofs.YthhlofipapfbnaaGreatDoor
