/- The walk of the law TreeGrows, the best one stays. -/
import Derived.Test.YtklekpbladmjhaaTrGrowsX
namespace Go.Proofs.Ytklekpbladmjhaa
open Go.RowKit

set_option maxRecDepth 10000 in
set_option maxHeartbeats 12800000 in
theorem grows_same (a b : Option Addr) (n c m d : Nat) (N : List Int) (T : List BlkD) (s p h k o : Int) (ta : Option Addr) (tn tc : Nat) (L : List TxD) (N' : List Int) (T' : List BlkD) (w : World) (hN : IntsAt w a n N) (hT : BlksAt w b m T) (sN : SlOk a n c) (sT : SlOk b m d) (hL : TxsAt w ta tn L) (sL : SlOk ta tn tc) (hx : addE N T s (p, h, k, o, L) = (N', T', 0)) (hbest : bstD N T = bstD N' T') :
    Calls Try.prog 6 #[.agg #[.slice a n c, .slice b m d], .int .i64 s, .agg #[.int .i64 p, .int .i64 h, .int .i64 k, .int .i64 o, .slice ta tn tc]] w fun e w' => e = .returned (.bool true) ∧ Below w.heap.size w w' := by
  obtain ⟨i0, hi, hz0, hz1, hz2⟩ := info_parts Try.infoInt
  obtain ⟨X, hX⟩ : ∃ X, X = (w.alloc (.cells #[.slice a n c, .slice b m d] 25)).alloc (.cells #[.int .i64 p, .int .i64 h, .int .i64 k, .int .i64 o, .slice ta tn tc] 28) := ⟨_, rfl⟩
  have hbX : Below w.heap.size w X := by rw [hX]; exact bel_on (bel_new _ _) (bel_new _ _)
  have hX0 : X.heap[w.heap.size]? = some (.cells [.slice a n c, .slice b m d].toArray 25 (0, 0)) := by
    rw [hX, Below.heap_alloc _ _ _ (by simp)]; exact two_heap _ _ _ _
  have hX1 : X.heap[w.heap.size + 1]? = some (.cells [.int .i64 p, .int .i64 h, .int .i64 k, .int .i64 o, .slice ta tn tc].toArray 28 (0, 0)) := by
    rw [hX]
    have := five_heap (w.alloc (.cells #[.slice a n c, .slice b m d] 25)) (.int .i64 p) (.int .i64 h) (.int .i64 k) (.int .i64 o) (.slice ta tn tc) 28
    rw [show (w.alloc (.cells #[.slice a n c, .slice b m d] 25)).heap.size = w.heap.size + 1 by simp] at this
    exact this
  obtain ⟨bm, bn, v, u, own, up, P, f1, f2, f3, f4, f5, f6, f7, f8, g1, g2, g3, g4, g5, g6, g7, g8, g9, g10, g11⟩ := grow_facts hx
  simp only at f5 f8 g3 g7 g8
  obtain rfl : bm = bn := by rw [f1, f2] at hbest; exact congrArg Prod.fst hbest
  clear hbest
  rw [hN.1] at g10 g11
  obtain ⟨pn, hpn⟩ : ∃ pn, P.length = pn := ⟨_, rfl⟩
  have hpl : pn ≤ 1000 := by rw [← hpn]; exact g9
  have hqn : (P ++ [s]).length = pn + 1 := by simp [hpn]
  have C := hide (add_is a b n c m d N T s p h k o ta tn tc L N' T' (n + 1) 0 X (hN.later hbX) (hT.later hbX) sN sT (hL.later hbX) sL hx g11)
  have GR := hide grown_yes
  have HB := hide hbX
  have HX0 := hide hX0
  have HX1 := hide hX1
  have hnm := sN.len
  unfold maxLen at hnm
  have hncm := sN.1
  have TREE := hide (fun W (hb : Below X.heap.size X W) => (⟨hN.later (bel_on hbX hb), hT.later (bel_on hbX hb)⟩ : IntsAt W a n N ∧ BlksAt W b m T))
  have SN := hide sN
  have ST := hide sT
  have F1 := hide f1
  have F2 := hide f2
  have F3 := hide f3
  have F4 := hide f4
  have F5 := hide f5
  have F6 := hide f6
  have F7 := hide f7
  have F8 := hide f8
  have G10 := hide g10
  have HPN := hide hpn
  have HQN := hide hqn
  have G4 := hide g4
  clear hbX hX0 hX1 hN hT sN sT hx hL sL f1 f2 f3 f4 f5 f6 f7 f8 g10 g11 hpn hqn g9 g4
  go_enter Try.func6, Try.ntmps6
  go_wp2_with fail
  rw [← hX]
  clear hX
  refine (unhide C).mono ?_
  rintro e w1 ⟨a1, c1, a2, c2, rfl, hF1, s1, s2, hb1⟩
  obtain ⟨Y, hY⟩ : ∃ Y, Y = w1.alloc (.cells #[.slice a1 (n + 1) c1, .slice a2 (n + 1) c2] 25) := ⟨_, rfl⟩
  have hbY : Below w1.heap.size w1 Y := by rw [hY]; exact bel_new _ _
  have hY0 : Y.heap[w1.heap.size]? = some (.cells [.slice a1 (n + 1) c1, .slice a2 (n + 1) c2].toArray 25 (0, 0)) := by rw [hY]; exact two_heap _ _ _ _
  have BX : Hid (∀ W, Below Y.heap.size Y W → W.cell? ⟨w.heap.size, 0, none⟩ = some (.slice a n c) ∧ W.cell? ⟨w.heap.size, 1, none⟩ = some (.slice b m d) ∧ w.heap.size < W.heap.size ∧ W.cell? ⟨w.heap.size + 1, 0, none⟩ = some (.int .i64 p) ∧ W.cell? ⟨w.heap.size + 1, 2, none⟩ = some (.int .i64 k) ∧ w.heap.size + 1 < W.heap.size ∧ W.cell? ⟨w1.heap.size, 0, none⟩ = some (.slice a1 (n + 1) c1) ∧ W.cell? ⟨w1.heap.size, 1, none⟩ = some (.slice a2 (n + 1) c2) ∧ w1.heap.size < W.heap.size) := fun W hb => by
    have h0 := ((bel_on (bel_on hb1 hbY) hb).block _ (lt_of_block (unhide HX0))).trans (unhide HX0)
    have h1 := ((bel_on (bel_on hb1 hbY) hb).block _ (lt_of_block (unhide HX1))).trans (unhide HX1)
    have h2 := (hb.block _ (lt_of_block hY0)).trans hY0
    exact ⟨cell_of h0 0 _ rfl, cell_of h0 1 _ rfl, lt_of_block h0, cell_of h1 0 _ rfl, cell_of h1 2 _ rfl, lt_of_block h1, cell_of h2 0 _ rfl, cell_of h2 1 _ rfl, lt_of_block h2⟩
  have T2 : Hid (∀ W, Below Y.heap.size Y W → IntsAt W a1 (n + 1) N' ∧ BlksAt W a2 (n + 1) T') := fun W hb => ⟨hF1.now.1.later (bel_on hbY hb), hF1.now.2.later (bel_on hbY hb)⟩
  have T1 : Hid (∀ W, Below Y.heap.size Y W → IntsAt W a n N ∧ BlksAt W b m T) := fun W hb => (unhide TREE) W (bel_on (bel_on hb1 hbY) hb)
  have BW : Hid (∀ W, Below Y.heap.size Y W → Below w.heap.size w W) := fun W hb => bel_on (unhide HB) (bel_on (bel_on hb1 hbY) hb)
  have HS1 := hide s1
  have HS2 := hide s2
  have hsm := s1.2.1
  unfold maxLen at hsm
  have hs1c := s1.1
  clear hF1 s1 s2 hb1 hbY hY0 C TREE HX0 HX1
  go_wp2_with fail
  rw [← hY]
  clear hY
  refine ((unhide GR) _).mono ?_
  rintro e w2 ⟨rfl, hb2⟩
  have HB2 := hide hb2
  obtain ⟨x0, x1, xl, x2, x3, xm, x4, x5, xn⟩ := (unhide BX) _ (unhide HB2)
  have C1 := hide (best_is a b n c m d N T bm 0 w2 ((unhide T1) _ hb2).1 ((unhide T1) _ hb2).2 (unhide SN) (unhide ST) (unhide F1))
  clear hb2
  go_wp2_with fail
  refine (unhide C1).mono ?_
  rintro e w3 ⟨rfl, hb3⟩
  have HB3 := hide (bel_on (unhide HB2) hb3)
  have hb3 := unhide HB3
  clear x0 x1 xl x2 x3 xm x4 x5 xn C1 HB2
  obtain ⟨x0, x1, xl, x2, x3, xm, x4, x5, xn⟩ := (unhide BX) _ (unhide HB3)
  have C1 := hide (best_is a1 a2 (n + 1) c1 (n + 1) c2 N' T' bm 0 w3 ((unhide T2) _ hb3).1 ((unhide T2) _ hb3).2 (unhide HS1) (unhide HS2) (unhide F2))
  clear hb3
  go_wp2_with fail
  refine (unhide C1).mono ?_
  rintro e w4 ⟨rfl, hb4⟩
  have HB4 := hide (bel_on (unhide HB3) hb4)
  have hb4 := unhide HB4
  clear x0 x1 xl x2 x3 xm x4 x5 xn C1 HB3
  obtain ⟨x0, x1, xl, x2, x3, xm, x4, x5, xn⟩ := (unhide BX) _ (unhide HB4)
  have C1 := hide (work_is a b n c m d N T bm v 0 w4 ((unhide T1) _ hb4).1 ((unhide T1) _ hb4).2 (unhide SN) (unhide ST) (unhide F3))
  clear hb4
  go_wp2_with fail
  refine (unhide C1).mono ?_
  rintro e w5 ⟨rfl, hb5⟩
  have HB5 := hide (bel_on (unhide HB4) hb5)
  have hb5 := unhide HB5
  clear x0 x1 xl x2 x3 xm x4 x5 xn C1 HB4
  obtain ⟨x0, x1, xl, x2, x3, xm, x4, x5, xn⟩ := (unhide BX) _ (unhide HB5)
  have C1 := hide (work_is a1 a2 (n + 1) c1 (n + 1) c2 N' T' bm u 0 w5 ((unhide T2) _ hb5).1 ((unhide T2) _ hb5).2 (unhide HS1) (unhide HS2) (unhide F4))
  clear hb5
  go_wp2_with fail
  refine (unhide C1).mono ?_
  rintro e w6 ⟨rfl, hb6⟩
  have HB6 := hide (bel_on (unhide HB5) hb6)
  have hb6 := unhide HB6
  clear x0 x1 xl x2 x3 xm x4 x5 xn C1 HB5
  obtain ⟨x0, x1, xl, x2, x3, xm, x4, x5, xn⟩ := (unhide BX) _ (unhide HB6)
  have C1 := hide (path_is a b n c m d N T p P pn 0 w6 ((unhide T1) _ hb6).1 ((unhide T1) _ hb6).2 (unhide SN) (unhide ST) (unhide F5) (unhide HPN))
  clear hb6
  go_wp2_with fail
  refine (unhide C1).mono ?_
  rintro e w7 ⟨vp, rfl, hop, hb7⟩
  obtain ⟨pa, pc, rfl, sp, hpa⟩ := ints_of_own hop
  have HB7 := hide (bel_on (unhide HB6) hb7)
  have HS67 : Hid (w6.heap.size ≤ w7.heap.size) := hb7.size
  have hb7 := unhide HB7
  have HOP := hide hop
  have HPL : Hid (∀ q, (Value.slice pa pn pc).ownBlock = some q → w6.heap.size ≤ q ∧ q < w7.heap.size) := fun q hq => hop.lt q hq
  have HYS : Hid (Y.heap.size ≤ w6.heap.size) := (unhide HB6).size
  clear x0 x1 xl x2 x3 xm x4 x5 xn C1 hop hpa HB6
  obtain ⟨x0, x1, xl, x2, x3, xm, x4, x5, xn⟩ := (unhide BX) _ (unhide HB7)
  have C1 := hide (path_is a1 a2 (n + 1) c1 (n + 1) c2 N' T' s (P ++ [s]) (pn + 1) 0 w7 ((unhide T2) _ hb7).1 ((unhide T2) _ hb7).2 (unhide HS1) (unhide HS2) (unhide F6) (unhide HQN))
  clear hb7 sp
  go_wp2_with fail
  refine (unhide C1).mono ?_
  rintro e w8 ⟨vq, rfl, hoq, hb8⟩
  obtain ⟨qa, qc, rfl, _, _⟩ := ints_of_own hoq
  have HOP8 := hide ((Gr.of (S := fun _ => False) hb8).own (unhide HOP) (fun _ _ q => q))
  have HB8 := hide (bel_on (unhide HB7) hb8)
  have HSZ8 : Hid (w7.heap.size ≤ w8.heap.size) := hb8.size
  have hb8 := unhide HB8
  have HQA := hide hoq
  clear x0 x1 xl x2 x3 xm x4 x5 xn C1 hoq HOP HB7
  obtain ⟨x0, x1, xl, x2, x3, xm, x4, x5, xn⟩ := (unhide BX) _ (unhide HB8)
  have C1 := hide (work_is a1 a2 (n + 1) c1 (n + 1) c2 N' T' s own 0 w8 ((unhide T2) _ hb8).1 ((unhide T2) _ hb8).2 (unhide HS1) (unhide HS2) (unhide F7))
  clear hb8
  go_wp2_with fail
  refine (unhide C1).mono ?_
  rintro e w9 ⟨rfl, hb9⟩
  have HOP9 := hide ((Gr.of (S := fun _ => False) hb9).own (unhide HOP8) (fun _ _ q => q))
  have HQA9 := hide ((Gr.of (S := fun _ => False) hb9).own (unhide HQA) (fun _ _ q => q))
  have HB9 := hide (bel_on (unhide HB8) hb9)
  have HSZ9 : Hid (w7.heap.size ≤ w9.heap.size) := Nat.le_trans (unhide HSZ8) hb9.size
  have hb9 := unhide HB9
  clear x0 x1 xl x2 x3 xm x4 x5 xn C1 HOP8 HQA HB8
  obtain ⟨x0, x1, xl, x2, x3, xm, x4, x5, xn⟩ := (unhide BX) _ (unhide HB9)
  have C1 := hide (work_is a b n c m d N T p up 0 w9 ((unhide T1) _ hb9).1 ((unhide T1) _ hb9).2 (unhide SN) (unhide ST) (unhide F8))
  clear hb9
  go_wp2_with fail
  refine (unhide C1).mono ?_
  rintro e w10 ⟨rfl, hb10⟩
  have HOP10 := hide ((Gr.of (S := fun _ => False) hb10).own (unhide HOP9) (fun _ _ q => q))
  have HQA10 := hide ((Gr.of (S := fun _ => False) hb10).own (unhide HQA9) (fun _ _ q => q))
  have HB10 := hide (bel_on (unhide HB9) hb10)
  have HSZ0 : Hid (w7.heap.size ≤ w10.heap.size ∧ w6.heap.size ≤ w10.heap.size) := by
    have h1 := hb10.size
    exact ⟨Nat.le_trans (unhide HSZ9) h1, Nat.le_trans (Nat.le_trans (unhide HS67) (unhide HSZ9)) h1⟩
  clear x0 x1 xl x2 x3 xm x4 x5 xn C1 HOP9 HQA9 HB9 hb10
  obtain ⟨x0, x1, xl, x2, x3, xm, x4, x5, xn⟩ := (unhide BX) _ (unhide HB10)
  have HSZ : Hid (w7.heap.size ≤ w10.heap.size ∧ w6.heap.size ≤ w10.heap.size) := unhide HSZ0
  clear HSZ0
  have hwk : IntKind.i64.wrap (up + k) = up + k := by rw [IntKind.wrap_i64]; omega
  obtain rfl : own = up + k := g3
  have hnc1 : (n : Int) ≤ (c1 : Int) := by omega
  have KS : Hid (∀ W, Below Y.heap.size Y W → Below Y.heap.size Y W ∧ W.cell? ⟨w.heap.size, 0, none⟩ = some (.slice a n c) ∧ W.cell? ⟨w.heap.size + 1, 2, none⟩ = some (.int .i64 k) ∧ W.cell? ⟨w1.heap.size, 0, none⟩ = some (.slice a1 (n + 1) c1)) := fun W hb => by
    obtain ⟨y0, y1, yl, y2, y3, ym, y4, y5, yn⟩ := (unhide BX) W hb
    exact ⟨hb, y0, y3, y4⟩
  have CE2 : Hid (∀ W, Below Y.heap.size Y W → Calls Try.prog 23 #[.slice a1 n c1, .slice a n c] W fun e w' => e = .returned (.bool true) ∧ Below W.heap.size W w') := fun W hb =>
    eqInt_is a1 a n n c1 c N N true W (by unfold maxLen; omega) (by have h3 := ((unhide T2) _ hb).1.take n (by omega); rw [unhide G10] at h3; exact h3) ((unhide T1) _ hb).1 (by simp)
  have AP : Hid (∀ g cap w11, w11.ownsRow w6.heap.size 3 1 (.slice (some ⟨g, 0, none⟩) (pn + 1) cap) (pn + 1) (P.map (Value.int .i64) ++ [.int .i64 s]) → (w10.drew.alloc (.cells #[.int .i64 s] 3)).grownBy w11 (Value.slice pa pn pc).ownBlock →
      Below Y.heap.size Y w11 ∧ Calls Try.prog 23 #[.slice qa (pn + 1) qc, .slice (some ⟨g, 0, none⟩) (pn + 1) cap] w11 fun e w' => e = .returned (.bool true) ∧ Below w11.heap.size w11 w') := by
    intro g cap w11 hown11 hgrow11
    have hb11 : Below Y.heap.size Y w11 := (bel_on (bel_on (unhide HB10) (bel_draw1 w10)) (bel_new w10.drew _)).grown hgrow11 (by have := unhide HSZ; have := unhide HYS; simp; omega) (fun q hq => by have := ((unhide HPL) q hq).1; have := unhide HYS; omega)
    have hg11 : Gr w10 w11 (fun q => (Value.slice pa pn pc).ownBlock = some q) := ((Gr.refl w10 _).draw.new _).grown hgrow11 (fun q hq => .inl hq)
    have hq11 := hg11.own (unhide HQA10) (fun q hq e => by have := ((unhide HQA10).lt q hq).1; have := ((unhide HPL) q e).2; omega)
    obtain ⟨qa', qc', eq, _, hqi⟩ := ints_of_own hq11
    cases eq
    have hpi : IntsAt w11 (some ⟨g, 0, none⟩) (pn + 1) (P ++ [s]) := by
      have hh : w11.ownsRow w6.heap.size 3 1 (.slice (some ⟨g, 0, none⟩) (pn + 1) cap) (pn + 1) ((P ++ [s]).map (Value.int .i64)) := by simpa using hown11
      obtain ⟨_, _, e3, _, h3⟩ := ints_of_own hh
      cases e3
      exact h3
    exact ⟨hb11, eqInt_is qa (some ⟨g, 0, none⟩) (pn + 1) (pn + 1) qc cap (P ++ [s]) (P ++ [s]) true w11 (by unfold maxLen; omega) hqi hpi (by simp)⟩
  have gb : (bm == bm) = true := by simp
  go_wp2_with fail
  refine wp_region_held_drew (S := (fun W => Below Y.heap.size Y W ∧ W.cell? ⟨w.heap.size, 0, none⟩ = some (.slice a n c) ∧ W.cell? ⟨w.heap.size + 1, 2, none⟩ = some (.int .i64 k) ∧ W.cell? ⟨w1.heap.size, 0, none⟩ = some (.slice a1 (n + 1) c1))) (by kernel_rfl) ((unhide KS) _ (bel_on (unhide HB10) (bel_draw1 _))) (fun hHeld => ?_)
  refine wpAnyH_take (i := 0) (oi := { dst := some 116, op := Op.move (Operand.tmp 14), type := 3, pos := "more.go:127", after := #[], guard := none }) (v := ?_) rfl (by kernel_rfl) (by kernel_rfl) (by kernel_rfl) (fun _ _ _ h => h) (Or.inl ⟨by rfl, ?_⟩) hHeld ?_
  rotate_left
  · (intro W hSw; (try dsimp only at hSw); go_simp; first | done | with_reducible rfl)
  (try simp only [Act.put, List.setIfInBounds_toArray, List.set_cons_zero, List.set_cons_succ])
  refine wpAnyH_take (i := 1) (oi := { dst := some 117, op := Op.move (Operand.tmp 12), type := 3, pos := "more.go:127", after := #[], guard := none }) (v := ?_) rfl (by kernel_rfl) (by kernel_rfl) (by kernel_rfl) (fun _ _ _ h => h) (Or.inl ⟨by rfl, ?_⟩) hHeld ?_
  rotate_left
  · (intro W hSw; (try dsimp only at hSw); go_simp; first | done | with_reducible rfl)
  (try simp only [Act.put, List.setIfInBounds_toArray, List.set_cons_zero, List.set_cons_succ])
  refine wpAnyH_take (i := 2) (oi := { dst := some 118, op := Op.binOp BinOp.geq 3 (Operand.tmp 116) (Operand.tmp 117) 3, type := 4, pos := "more.go:127", after := #[{ on := 0, ground := Ground.data }, { on := 1, ground := Ground.data }], guard := none }) (v := ?_) rfl (by kernel_rfl) (by kernel_rfl) (by kernel_rfl) (fun _ _ _ h => h) (Or.inl ⟨by rfl, ?_⟩) hHeld ?_
  rotate_left
  · (intro W hSw; (try dsimp only at hSw); go_simp; first | done | with_reducible rfl)
  (try simp only [Act.put, List.setIfInBounds_toArray, List.set_cons_zero, List.set_cons_succ])
  refine wpAnyH_take (i := 3) (oi := { dst := some 119, op := Op.move (Operand.tmp 118), type := 4, pos := "more.go:127", after := #[{ on := 2, ground := Ground.data }], guard := none }) (v := ?_) rfl (by kernel_rfl) (by kernel_rfl) (by kernel_rfl) (fun _ _ _ h => h) (Or.inl ⟨by rfl, ?_⟩) hHeld ?_
  rotate_left
  · (intro W hSw; (try dsimp only at hSw); go_simp; first | done | with_reducible rfl)
  (try simp only [Act.put, List.setIfInBounds_toArray, List.set_cons_zero, List.set_cons_succ])
  refine wpAnyH_take (i := 4) (oi := { dst := some 120, op := Op.move (Operand.tmp 14), type := 3, pos := "more.go:127", after := #[{ on := 3, ground := Ground.guard }], guard := some (3, true) }) (v := ?_) rfl (by kernel_rfl) (by kernel_rfl) (by kernel_rfl) (fun _ _ _ h => h) (Or.inl ⟨by rfl, ?_⟩) hHeld ?_
  rotate_left
  · (intro W hSw; (try dsimp only at hSw); go_simp; first | done | with_reducible rfl)
  (try simp only [Act.put, List.setIfInBounds_toArray, List.set_cons_zero, List.set_cons_succ])
  refine wpAnyH_take (i := 5) (oi := { dst := some 121, op := Op.move (Operand.tmp 20), type := 3, pos := "more.go:127", after := #[{ on := 3, ground := Ground.guard }], guard := some (3, true) }) (v := ?_) rfl (by kernel_rfl) (by kernel_rfl) (by kernel_rfl) (fun _ _ _ h => h) (Or.inl ⟨by rfl, ?_⟩) hHeld ?_
  rotate_left
  · (intro W hSw; (try dsimp only at hSw); go_simp; first | done | with_reducible rfl)
  (try simp only [Act.put, List.setIfInBounds_toArray, List.set_cons_zero, List.set_cons_succ])
  refine wpAnyH_take (i := 6) (oi := { dst := some 122, op := Op.binOp BinOp.geq 3 (Operand.tmp 120) (Operand.tmp 121) 3, type := 4, pos := "more.go:127", after := #[{ on := 4, ground := Ground.data }, { on := 5, ground := Ground.data }, { on := 3, ground := Ground.guard }], guard := some (3, true) }) (v := ?_) rfl (by kernel_rfl) (by kernel_rfl) (by kernel_rfl) (fun _ _ _ h => h) (Or.inl ⟨by rfl, ?_⟩) hHeld ?_
  rotate_left
  · (intro W hSw; (try dsimp only at hSw); go_simp; first | done | with_reducible rfl)
  (try simp only [Act.put, List.setIfInBounds_toArray, List.set_cons_zero, List.set_cons_succ])
  refine wpAnyH_take (i := 7) (oi := { dst := some 123, op := Op.pick (Operand.tmp 119) (Operand.tmp 122) (Operand.const (Value.bool false)), type := 4, pos := "more.go:127", after := #[{ on := 3, ground := Ground.data }, { on := 6, ground := Ground.data }], guard := none }) (v := ?_) rfl (by kernel_rfl) (by kernel_rfl) (by kernel_rfl) (fun _ _ _ h => h) (Or.inl ⟨by rfl, ?_⟩) hHeld ?_
  rotate_left
  · (intro W hSw; (try dsimp only at hSw); go_simp; first | done | with_reducible rfl)
  (try simp only [Act.put, List.setIfInBounds_toArray, List.set_cons_zero, List.set_cons_succ])
  refine wpAnyH_take (i := 8) (oi := { dst := some 124, op := Op.move (Operand.tmp 123), type := 4, pos := "more.go:127", after := #[{ on := 7, ground := Ground.data }, { on := 3, ground := Ground.chain }], guard := none }) (v := ?_) rfl (by kernel_rfl) (by kernel_rfl) (by kernel_rfl) (fun _ _ _ h => h) (Or.inl ⟨by rfl, ?_⟩) hHeld ?_
  rotate_left
  · (intro W hSw; (try dsimp only at hSw); go_simp; first | done | with_reducible rfl)
  (try simp only [Act.put, List.setIfInBounds_toArray, List.set_cons_zero, List.set_cons_succ])
  refine wpAnyH_take (i := 9) (oi := { dst := some 125, op := Op.move (Operand.tmp 20), type := 3, pos := "more.go:127", after := #[{ on := 8, ground := Ground.guard }], guard := some (8, true) }) (v := ?_) rfl (by kernel_rfl) (by kernel_rfl) (by kernel_rfl) (fun _ _ _ h => h) (Or.inl ⟨by rfl, ?_⟩) hHeld ?_
  rotate_left
  · (intro W hSw; (try dsimp only at hSw); go_simp; first | done | with_reducible rfl)
  (try simp only [Act.put, List.setIfInBounds_toArray, List.set_cons_zero, List.set_cons_succ])
  refine wpAnyH_take (i := 10) (oi := { dst := some 126, op := Op.move (Operand.tmp 22), type := 3, pos := "more.go:127", after := #[{ on := 8, ground := Ground.guard }], guard := some (8, true) }) (v := ?_) rfl (by kernel_rfl) (by kernel_rfl) (by kernel_rfl) (fun _ _ _ h => h) (Or.inl ⟨by rfl, ?_⟩) hHeld ?_
  rotate_left
  · (intro W hSw; (try dsimp only at hSw); go_simp; first | done | with_reducible rfl)
  (try simp only [Act.put, List.setIfInBounds_toArray, List.set_cons_zero, List.set_cons_succ])
  refine wpAnyH_take (i := 11) (oi := { dst := some 127, op := Op.fieldAddr 28 (Operand.tmp 5) 2, type := 0, pos := "more.go:127", after := #[{ on := 8, ground := Ground.guard }], guard := some (8, true) }) (v := ?_) rfl (by kernel_rfl) (by kernel_rfl) (by kernel_rfl) (fun _ _ _ h => h) (Or.inl ⟨by rfl, ?_⟩) hHeld ?_
  rotate_left
  · (intro W hSw; (try dsimp only at hSw); go_simp; first | done | with_reducible rfl)
  (try simp only [Act.put, List.setIfInBounds_toArray, List.set_cons_zero, List.set_cons_succ])
  refine wpAnyH_take (i := 12) (oi := { dst := some 128, op := Op.load 3 (Operand.tmp 127), type := 3, pos := "more.go:127", after := #[{ on := 11, ground := Ground.data }, { on := 8, ground := Ground.guard }], guard := some (8, true) }) (v := ?_) rfl (by kernel_rfl) (by kernel_rfl) (by kernel_rfl) (fun _ _ _ h => h) (Or.inl ⟨by rfl, ?_⟩) hHeld ?_
  rotate_left
  · (intro W hSw; (try dsimp only at hSw); go_simp; first | done | with_reducible rfl)
  (try simp only [Act.put, List.setIfInBounds_toArray, List.set_cons_zero, List.set_cons_succ])
  refine wpAnyH_take (i := 13) (oi := { dst := some 129, op := Op.binOp BinOp.add 3 (Operand.tmp 126) (Operand.tmp 128) 3, type := 3, pos := "more.go:127", after := #[{ on := 10, ground := Ground.data }, { on := 12, ground := Ground.data }, { on := 8, ground := Ground.guard }], guard := some (8, true) }) (v := ?_) rfl (by kernel_rfl) (by kernel_rfl) (by kernel_rfl) (fun _ _ _ h => h) (Or.inl ⟨by rfl, ?_⟩) hHeld ?_
  rotate_left
  · (intro W hSw; (try dsimp only at hSw); go_simp; first | done | with_reducible rfl)
  (try simp only [Act.put, List.setIfInBounds_toArray, List.set_cons_zero, List.set_cons_succ])
  refine wpAnyH_take (i := 14) (oi := { dst := some 130, op := Op.binOp BinOp.eql 3 (Operand.tmp 125) (Operand.tmp 129) 3, type := 4, pos := "more.go:127", after := #[{ on := 9, ground := Ground.data }, { on := 13, ground := Ground.data }, { on := 8, ground := Ground.guard }], guard := some (8, true) }) (v := ?_) rfl (by kernel_rfl) (by kernel_rfl) (by kernel_rfl) (fun _ _ _ h => h) (Or.inl ⟨by rfl, ?_⟩) hHeld ?_
  rotate_left
  · (intro W hSw; (try dsimp only at hSw); go_simp; first | done | with_reducible rfl)
  (try simp only [Act.put, List.setIfInBounds_toArray, List.set_cons_zero, List.set_cons_succ])
  refine wpAnyH_take (i := 15) (oi := { dst := some 131, op := Op.pick (Operand.tmp 124) (Operand.tmp 130) (Operand.const (Value.bool false)), type := 4, pos := "more.go:127", after := #[{ on := 8, ground := Ground.data }, { on := 14, ground := Ground.data }], guard := none }) (v := ?_) rfl (by kernel_rfl) (by kernel_rfl) (by kernel_rfl) (fun _ _ _ h => h) (Or.inl ⟨by rfl, ?_⟩) hHeld ?_
  rotate_left
  · (intro W hSw; (try dsimp only at hSw); go_simp; first | done | with_reducible rfl)
  (try simp only [Act.put, List.setIfInBounds_toArray, List.set_cons_zero, List.set_cons_succ])
  refine wpAnyH_take (i := 16) (oi := { dst := some 132, op := Op.move (Operand.tmp 131), type := 4, pos := "more.go:127", after := #[{ on := 15, ground := Ground.data }, { on := 8, ground := Ground.chain }], guard := none }) (v := ?_) rfl (by kernel_rfl) (by kernel_rfl) (by kernel_rfl) (fun _ _ _ h => h) (Or.inl ⟨by rfl, ?_⟩) hHeld ?_
  rotate_left
  · (intro W hSw; (try dsimp only at hSw); go_simp; first | done | with_reducible rfl)
  (try simp only [Act.put, List.setIfInBounds_toArray, List.set_cons_zero, List.set_cons_succ])
  refine wpAnyH_take (i := 17) (oi := { dst := some 133, op := Op.move (Operand.tmp 18), type := 22, pos := "more.go:127", after := #[{ on := 16, ground := Ground.guard }], guard := some (16, true) }) (v := ?_) rfl (by kernel_rfl) (by kernel_rfl) (by kernel_rfl) (fun _ _ _ h => h) (Or.inl ⟨by rfl, ?_⟩) hHeld ?_
  rotate_left
  · (intro W hSw; (try dsimp only at hSw); go_simp; first | done | with_reducible rfl)
  (try simp only [Act.put, List.setIfInBounds_toArray, List.set_cons_zero, List.set_cons_succ])
  refine wpAnyH_take (i := 18) (oi := { dst := some 134, op := Op.move (Operand.tmp 16), type := 22, pos := "more.go:127", after := #[{ on := 16, ground := Ground.guard }], guard := some (16, true) }) (v := ?_) rfl (by kernel_rfl) (by kernel_rfl) (by kernel_rfl) (fun _ _ _ h => h) (Or.inl ⟨by rfl, ?_⟩) hHeld ?_
  rotate_left
  · (intro W hSw; (try dsimp only at hSw); go_simp; first | done | with_reducible rfl)
  (try simp only [Act.put, List.setIfInBounds_toArray, List.set_cons_zero, List.set_cons_succ])
  refine wpAnyH_take (i := 19) (oi := { dst := some 135, op := Op.move (Operand.tmp 1), type := 3, pos := "more.go:127", after := #[{ on := 16, ground := Ground.guard }], guard := some (16, true) }) (v := ?_) rfl (by kernel_rfl) (by kernel_rfl) (by kernel_rfl) (fun _ _ _ h => h) (Or.inl ⟨by rfl, ?_⟩) hHeld ?_
  rotate_left
  · (intro W hSw; (try dsimp only at hSw); go_simp; first | done | with_reducible rfl)
  (try simp only [Act.put, List.setIfInBounds_toArray, List.set_cons_zero, List.set_cons_succ])
  refine wpAnyH_ready (rs := [20]) (by kernel_rfl) (by simp) ?_
  refine AllReadyH.cons (o := { dst := some 136, op := Op.buildSlice 22 1 #[(0, Operand.tmp 135)], type := 22, pos := "more.go:127", after := #[{ on := 19, ground := Ground.data }, { on := 16, ground := Ground.guard }], guard := some (16, true) }) rfl (fun K hK => ?_) AllReadyH.nil
  go_simp
  refine hK.out _ _ ((unhide KS) _ (bel_on (bel_on (unhide HB10) (bel_draw1 _)) (bel_new _ _))) (fun hHeld2 => ?_)
  clear hK K hHeld
  have hHeld := hHeld2
  clear hHeld2
  (try simp only [Act.put, List.setIfInBounds_toArray, List.set_cons_zero, List.set_cons_succ])
  refine wpAnyH_ready (rs := [21]) (by kernel_rfl) (by simp) ?_
  refine AllReadyH.cons (o := { dst := some 137, op := Op.call { callee := Callee.builtin Builtin.append, args := #[Operand.tmp 134, Operand.tmp 136], argTypes := #[22, 22] }, type := 22, pos := "more.go:127", after := #[{ on := 18, ground := Ground.data }, { on := 20, ground := Ground.data }, { on := 16, ground := Ground.chain }, { on := 16, ground := Ground.guard }], guard := some (16, true) }) rfl (fun K hK => ?_) AllReadyH.nil
  refine step_append_w (by kernel_rfl) _ _ _ (by rfl) w6.heap.size 3 i0 (.int .i64 0) 1 8 Try.underlying22 hi hz0 hz1 hz2 rfl (by decide) (.slice pa pn pc) pn (P.map (Value.int .i64)) (by rfl) ((unhide HOP10).drew.alloc _) ⟨w10.heap.size, 0, none⟩ 1 1 [.int .i64 s] (by rfl) (by rfl) (World.news_of_block (cs := #[.int .i64 s]) (t := 3) (fr := (0, 0)) (heap_alloc_new w10.drew _)) (by simp [Value.oneCell']) (by decide) (by unfold maxLen; omega) (by omega) (by have := unhide HSZ; simp; omega) (w10.heap.size + 1) (by simp) ?_
  intro g cap w11 hown11 hgrow11 hor11 hlt11
  have H11 := hide ((unhide AP) g cap w11 hown11 hgrow11)
  have HB11 := hide (unhide H11).1
  have CE1 := hide (unhide H11).2
  clear hown11 hgrow11 hor11 H11
  refine hK.out _ _ ((unhide KS) _ (unhide HB11)) (fun hHeld2 => ?_)
  clear hK K hHeld
  have hHeld := hHeld2
  clear hHeld2
  (try simp only [Act.put, List.setIfInBounds_toArray, List.set_cons_zero, List.set_cons_succ])
  refine wpAnyH_ready (rs := [22]) (by kernel_rfl) (by simp) ?_
  refine AllReadyH.cons (o := { dst := some 138, op := Op.call { callee := Callee.value (Operand.func 23), args := #[Operand.tmp 133, Operand.tmp 137], argTypes := #[22, 22] }, type := 4, pos := "more.go:127", after := #[{ on := 17, ground := Ground.data }, { on := 21, ground := Ground.data }, { on := 21, ground := Ground.chain }, { on := 16, ground := Ground.guard }], guard := some (16, true) }) rfl (fun K hK => ?_) AllReadyH.nil
  refine step_call_w (by kernel_rfl) 23 #[.slice qa (pn + 1) qc, .slice (some ⟨g, 0, none⟩) (pn + 1) cap] (by kernel_rfl) (unhide CE1) ?_
  rintro e w12 ⟨rfl, hb12⟩
  refine ⟨_, rfl, ?_⟩
  have HB12 := hide (bel_on (unhide HB11) hb12)
  clear hb12 CE1
  refine hK.out _ _ ((unhide KS) _ (unhide HB12)) (fun hHeld2 => ?_)
  clear hK K hHeld
  have hHeld := hHeld2
  clear hHeld2
  (try simp only [Act.put, List.setIfInBounds_toArray, List.set_cons_zero, List.set_cons_succ])
  refine wpAnyH_take (i := 23) (oi := { dst := some 139, op := Op.pick (Operand.tmp 132) (Operand.tmp 138) (Operand.const (Value.bool false)), type := 4, pos := "more.go:127", after := #[{ on := 16, ground := Ground.data }, { on := 22, ground := Ground.data }], guard := none }) (v := ?_) rfl (by kernel_rfl) (by kernel_rfl) (by kernel_rfl) (fun _ _ _ h => h) (Or.inl ⟨by rfl, ?_⟩) hHeld ?_
  rotate_left
  · (intro W hSw; (try dsimp only at hSw); go_simp; first | done | with_reducible rfl)
  (try simp only [Act.put, List.setIfInBounds_toArray, List.set_cons_zero, List.set_cons_succ])
  refine wpAnyH_take (i := 24) (oi := { dst := some 140, op := Op.move (Operand.tmp 139), type := 4, pos := "more.go:127", after := #[{ on := 23, ground := Ground.data }, { on := 22, ground := Ground.chain }], guard := none }) (v := ?_) rfl (by kernel_rfl) (by kernel_rfl) (by kernel_rfl) (fun _ _ _ h => h) (Or.inl ⟨by rfl, ?_⟩) hHeld ?_
  rotate_left
  · (intro W hSw; (try dsimp only at hSw); go_simp; first | done | with_reducible rfl)
  (try simp only [Act.put, List.setIfInBounds_toArray, List.set_cons_zero, List.set_cons_succ])
  refine wpAnyH_take (i := 25) (oi := { dst := some 141, op := Op.move (Operand.tmp 10), type := 3, pos := "more.go:127", after := #[{ on := 24, ground := Ground.guard }], guard := some (24, true) }) (v := ?_) rfl (by kernel_rfl) (by kernel_rfl) (by kernel_rfl) (fun _ _ _ h => h) (Or.inl ⟨by rfl, ?_⟩) hHeld ?_
  rotate_left
  · (intro W hSw; (try dsimp only at hSw); go_simp; first | done | with_reducible rfl)
  (try simp only [Act.put, List.setIfInBounds_toArray, List.set_cons_zero, List.set_cons_succ])
  refine wpAnyH_take (i := 26) (oi := { dst := some 142, op := Op.move (Operand.tmp 9), type := 3, pos := "more.go:127", after := #[{ on := 24, ground := Ground.guard }], guard := some (24, true) }) (v := ?_) rfl (by kernel_rfl) (by kernel_rfl) (by kernel_rfl) (fun _ _ _ h => h) (Or.inl ⟨by rfl, ?_⟩) hHeld ?_
  rotate_left
  · (intro W hSw; (try dsimp only at hSw); go_simp; first | done | with_reducible rfl)
  (try simp only [Act.put, List.setIfInBounds_toArray, List.set_cons_zero, List.set_cons_succ])
  refine wpAnyH_take (i := 27) (oi := { dst := some 143, op := Op.binOp BinOp.eql 3 (Operand.tmp 141) (Operand.tmp 142) 3, type := 4, pos := "more.go:127", after := #[{ on := 25, ground := Ground.data }, { on := 26, ground := Ground.data }, { on := 24, ground := Ground.guard }], guard := some (24, true) }) (v := ?_) rfl (by kernel_rfl) (by kernel_rfl) (by kernel_rfl) (fun _ _ _ h => h) (Or.inl ⟨by rfl, ?_⟩) hHeld ?_
  rotate_left
  · (intro W hSw; (try dsimp only at hSw); go_simp; first | done | with_reducible rfl)
  (try simp only [Act.put, List.setIfInBounds_toArray, List.set_cons_zero, List.set_cons_succ])
  refine wpAnyH_take (i := 28) (oi := { dst := some 144, op := Op.move (Operand.tmp 143), type := 4, pos := "more.go:127", after := #[{ on := 27, ground := Ground.data }, { on := 24, ground := Ground.chain }, { on := 24, ground := Ground.guard }], guard := some (24, true) }) (v := ?_) rfl (by kernel_rfl) (by kernel_rfl) (by kernel_rfl) (fun _ _ _ h => h) (Or.inl ⟨by rfl, ?_⟩) hHeld ?_
  rotate_left
  · (intro W hSw; (try dsimp only at hSw); go_simp; first | done | with_reducible rfl)
  (try simp only [Act.put, List.setIfInBounds_toArray, List.set_cons_zero, List.set_cons_succ])
  refine wpAnyH_take (i := 29) (oi := { dst := some 145, op := Op.move (Operand.tmp 10), type := 3, pos := "more.go:127", after := #[{ on := 28, ground := Ground.guard }], guard := some (28, false) }) (v := undef) rfl (by kernel_rfl) (by kernel_rfl) (by kernel_rfl) (fun _ _ _ h => h) (Or.inr ⟨by rfl, rfl⟩) hHeld ?_
  (try simp only [Act.put, List.setIfInBounds_toArray, List.set_cons_zero, List.set_cons_succ])
  refine wpAnyH_take (i := 30) (oi := { dst := some 146, op := Op.move (Operand.tmp 1), type := 3, pos := "more.go:127", after := #[{ on := 28, ground := Ground.guard }], guard := some (28, false) }) (v := undef) rfl (by kernel_rfl) (by kernel_rfl) (by kernel_rfl) (fun _ _ _ h => h) (Or.inr ⟨by rfl, rfl⟩) hHeld ?_
  (try simp only [Act.put, List.setIfInBounds_toArray, List.set_cons_zero, List.set_cons_succ])
  refine wpAnyH_take (i := 31) (oi := { dst := some 147, op := Op.binOp BinOp.eql 3 (Operand.tmp 145) (Operand.tmp 146) 3, type := 4, pos := "more.go:127", after := #[{ on := 29, ground := Ground.data }, { on := 30, ground := Ground.data }, { on := 28, ground := Ground.guard }], guard := some (28, false) }) (v := undef) rfl (by kernel_rfl) (by kernel_rfl) (by kernel_rfl) (fun _ _ _ h => h) (Or.inr ⟨by rfl, rfl⟩) hHeld ?_
  (try simp only [Act.put, List.setIfInBounds_toArray, List.set_cons_zero, List.set_cons_succ])
  refine wpAnyH_take (i := 32) (oi := { dst := some 148, op := Op.pick (Operand.tmp 144) (Operand.const (Value.bool true)) (Operand.tmp 147), type := 4, pos := "more.go:127", after := #[{ on := 28, ground := Ground.data }, { on := 31, ground := Ground.data }, { on := 24, ground := Ground.guard }], guard := some (24, true) }) (v := ?_) rfl (by kernel_rfl) (by kernel_rfl) (by kernel_rfl) (fun _ _ _ h => h) (Or.inl ⟨by rfl, ?_⟩) hHeld ?_
  rotate_left
  · (intro W hSw; (try dsimp only at hSw); go_simp; first | done | with_reducible rfl)
  (try simp only [Act.put, List.setIfInBounds_toArray, List.set_cons_zero, List.set_cons_succ])
  refine wpAnyH_take (i := 33) (oi := { dst := some 149, op := Op.pick (Operand.tmp 140) (Operand.tmp 148) (Operand.const (Value.bool false)), type := 4, pos := "more.go:127", after := #[{ on := 24, ground := Ground.data }, { on := 32, ground := Ground.data }], guard := none }) (v := ?_) rfl (by kernel_rfl) (by kernel_rfl) (by kernel_rfl) (fun _ _ _ h => h) (Or.inl ⟨by rfl, ?_⟩) hHeld ?_
  rotate_left
  · (intro W hSw; (try dsimp only at hSw); go_simp; first | done | with_reducible rfl)
  (try simp only [Act.put, List.setIfInBounds_toArray, List.set_cons_zero, List.set_cons_succ])
  refine wpAnyH_take (i := 34) (oi := { dst := some 150, op := Op.move (Operand.tmp 149), type := 4, pos := "more.go:127", after := #[{ on := 33, ground := Ground.data }, { on := 28, ground := Ground.chain }], guard := none }) (v := ?_) rfl (by kernel_rfl) (by kernel_rfl) (by kernel_rfl) (fun _ _ _ h => h) (Or.inl ⟨by rfl, ?_⟩) hHeld ?_
  rotate_left
  · (intro W hSw; (try dsimp only at hSw); go_simp; first | done | with_reducible rfl)
  (try simp only [Act.put, List.setIfInBounds_toArray, List.set_cons_zero, List.set_cons_succ])
  refine wpAnyH_take (i := 35) (oi := { dst := some 151, op := Op.fieldAddr 25 (Operand.tmp 7) 0, type := 0, pos := "more.go:127", after := #[{ on := 34, ground := Ground.guard }], guard := some (34, true) }) (v := ?_) rfl (by kernel_rfl) (by kernel_rfl) (by kernel_rfl) (fun _ _ _ h => h) (Or.inl ⟨by rfl, ?_⟩) hHeld ?_
  rotate_left
  · (intro W hSw; (try dsimp only at hSw); go_simp; first | done | with_reducible rfl)
  (try simp only [Act.put, List.setIfInBounds_toArray, List.set_cons_zero, List.set_cons_succ])
  refine wpAnyH_take (i := 36) (oi := { dst := some 152, op := Op.load 22 (Operand.tmp 151), type := 22, pos := "more.go:127", after := #[{ on := 35, ground := Ground.data }, { on := 34, ground := Ground.guard }], guard := some (34, true) }) (v := ?_) rfl (by kernel_rfl) (by kernel_rfl) (by kernel_rfl) (fun _ _ _ h => h) (Or.inl ⟨by rfl, ?_⟩) hHeld ?_
  rotate_left
  · (intro W hSw; (try dsimp only at hSw); go_simp; first | done | with_reducible rfl)
  (try simp only [Act.put, List.setIfInBounds_toArray, List.set_cons_zero, List.set_cons_succ])
  refine wpAnyH_take (i := 37) (oi := { dst := some 153, op := Op.fieldAddr 25 (Operand.tmp 3) 0, type := 0, pos := "more.go:127", after := #[{ on := 34, ground := Ground.guard }], guard := some (34, true) }) (v := ?_) rfl (by kernel_rfl) (by kernel_rfl) (by kernel_rfl) (fun _ _ _ h => h) (Or.inl ⟨by rfl, ?_⟩) hHeld ?_
  rotate_left
  · (intro W hSw; (try dsimp only at hSw); go_simp; first | done | with_reducible rfl)
  (try simp only [Act.put, List.setIfInBounds_toArray, List.set_cons_zero, List.set_cons_succ])
  refine wpAnyH_take (i := 38) (oi := { dst := some 154, op := Op.load 22 (Operand.tmp 153), type := 22, pos := "more.go:127", after := #[{ on := 37, ground := Ground.data }, { on := 34, ground := Ground.guard }], guard := some (34, true) }) (v := ?_) rfl (by kernel_rfl) (by kernel_rfl) (by kernel_rfl) (fun _ _ _ h => h) (Or.inl ⟨by rfl, ?_⟩) hHeld ?_
  rotate_left
  · (intro W hSw; (try dsimp only at hSw); go_simp; first | done | with_reducible rfl)
  (try simp only [Act.put, List.setIfInBounds_toArray, List.set_cons_zero, List.set_cons_succ])
  refine wpAnyH_take (i := 39) (oi := { dst := some 155, op := Op.call { callee := Callee.builtin Builtin.len, args := #[Operand.tmp 154], argTypes := #[22] }, type := 3, pos := "more.go:127", after := #[{ on := 38, ground := Ground.data }, { on := 34, ground := Ground.guard }], guard := some (34, true) }) (v := ?_) rfl (by kernel_rfl) (by kernel_rfl) (by kernel_rfl) (fun _ _ _ h => h) (Or.inl ⟨by rfl, ?_⟩) hHeld ?_
  rotate_left
  · (intro W hSw; (try dsimp only at hSw); go_simp; first | done | with_reducible rfl)
  (try simp only [Act.put, List.setIfInBounds_toArray, List.set_cons_zero, List.set_cons_succ])
  refine wpAnyH_take (i := 40) (oi := { dst := some 156, op := Op.slice 22 (Operand.tmp 152) none (some (Operand.tmp 155)) none, type := 22, pos := "more.go:127", after := #[{ on := 36, ground := Ground.data }, { on := 39, ground := Ground.data }, { on := 34, ground := Ground.guard }], guard := some (34, true) }) (v := ?_) rfl (by kernel_rfl) (by kernel_rfl) (by kernel_rfl) (fun _ _ _ h => h) (Or.inl ⟨by rfl, ?_⟩) hHeld ?_
  rotate_left
  · (intro W hSw; (try dsimp only at hSw); go_simp; first | done | with_reducible rfl)
  (try simp only [Act.put, List.setIfInBounds_toArray, List.set_cons_zero, List.set_cons_succ])
  refine wpAnyH_take (i := 41) (oi := { dst := some 157, op := Op.fieldAddr 25 (Operand.tmp 3) 0, type := 0, pos := "more.go:127", after := #[{ on := 34, ground := Ground.guard }], guard := some (34, true) }) (v := ?_) rfl (by kernel_rfl) (by kernel_rfl) (by kernel_rfl) (fun _ _ _ h => h) (Or.inl ⟨by rfl, ?_⟩) hHeld ?_
  rotate_left
  · (intro W hSw; (try dsimp only at hSw); go_simp; first | done | with_reducible rfl)
  (try simp only [Act.put, List.setIfInBounds_toArray, List.set_cons_zero, List.set_cons_succ])
  refine wpAnyH_take (i := 42) (oi := { dst := some 158, op := Op.load 22 (Operand.tmp 157), type := 22, pos := "more.go:127", after := #[{ on := 41, ground := Ground.data }, { on := 34, ground := Ground.guard }], guard := some (34, true) }) (v := ?_) rfl (by kernel_rfl) (by kernel_rfl) (by kernel_rfl) (fun _ _ _ h => h) (Or.inl ⟨by rfl, ?_⟩) hHeld ?_
  rotate_left
  · (intro W hSw; (try dsimp only at hSw); go_simp; first | done | with_reducible rfl)
  (try simp only [Act.put, List.setIfInBounds_toArray, List.set_cons_zero, List.set_cons_succ])
  refine wpAnyH_ready (rs := [43]) (by kernel_rfl) (by simp) ?_
  refine AllReadyH.cons (o := { dst := some 159, op := Op.call { callee := Callee.value (Operand.func 23), args := #[Operand.tmp 156, Operand.tmp 158], argTypes := #[22, 22] }, type := 4, pos := "more.go:127", after := #[{ on := 40, ground := Ground.data }, { on := 42, ground := Ground.data }, { on := 34, ground := Ground.chain }, { on := 34, ground := Ground.guard }], guard := some (34, true) }) rfl (fun K hK => ?_) AllReadyH.nil
  refine step_call_w (by kernel_rfl) 23 #[.slice a1 n c1, .slice a n c] (by kernel_rfl) ((unhide CE2) _ (unhide HB12)) ?_
  rintro e w13 ⟨rfl, hb13⟩
  refine ⟨_, rfl, ?_⟩
  have HB13 := hide (bel_on (unhide HB12) hb13)
  have HBF := hide ((unhide BW) _ (unhide HB13))
  clear hb13
  refine hK.out _ _ ((unhide KS) _ (unhide HB13)) (fun hHeld2 => ?_)
  clear hK K hHeld
  have hHeld := hHeld2
  clear hHeld2
  (try simp only [Act.put, List.setIfInBounds_toArray, List.set_cons_zero, List.set_cons_succ])
  refine wpAnyH_take (i := 44) (oi := { dst := some 160, op := Op.pick (Operand.tmp 150) (Operand.tmp 159) (Operand.const (Value.bool false)), type := 4, pos := "more.go:127", after := #[{ on := 34, ground := Ground.data }, { on := 43, ground := Ground.data }], guard := none }) (v := ?_) rfl (by kernel_rfl) (by kernel_rfl) (by kernel_rfl) (fun _ _ _ h => h) (Or.inl ⟨by rfl, ?_⟩) hHeld ?_
  rotate_left
  · (intro W hSw; (try dsimp only at hSw); go_simp; first | done | with_reducible rfl)
  (try simp only [Act.put, List.setIfInBounds_toArray, List.set_cons_zero, List.set_cons_succ])
  refine wpAnyH_take (i := 45) (oi := { dst := some 6, op := Op.assign (Operand.tmp 160), type := 4, pos := "more.go:127", after := #[{ on := 44, ground := Ground.data }, { on := 43, ground := Ground.chain }, { on := 0, ground := Ground.phase }, { on := 1, ground := Ground.phase }, { on := 2, ground := Ground.phase }, { on := 3, ground := Ground.phase }, { on := 4, ground := Ground.phase }, { on := 5, ground := Ground.phase }, { on := 6, ground := Ground.phase }, { on := 7, ground := Ground.phase }, { on := 8, ground := Ground.phase }, { on := 9, ground := Ground.phase }, { on := 10, ground := Ground.phase }, { on := 11, ground := Ground.phase }, { on := 12, ground := Ground.phase }, { on := 13, ground := Ground.phase }, { on := 14, ground := Ground.phase }, { on := 15, ground := Ground.phase }, { on := 16, ground := Ground.phase }, { on := 17, ground := Ground.phase }, { on := 18, ground := Ground.phase }, { on := 19, ground := Ground.phase }, { on := 20, ground := Ground.phase }, { on := 21, ground := Ground.phase }, { on := 22, ground := Ground.phase }, { on := 23, ground := Ground.phase }, { on := 24, ground := Ground.phase }, { on := 25, ground := Ground.phase }, { on := 26, ground := Ground.phase }, { on := 27, ground := Ground.phase }, { on := 28, ground := Ground.phase }, { on := 29, ground := Ground.phase }, { on := 30, ground := Ground.phase }, { on := 31, ground := Ground.phase }, { on := 32, ground := Ground.phase }, { on := 33, ground := Ground.phase }, { on := 34, ground := Ground.phase }, { on := 35, ground := Ground.phase }, { on := 36, ground := Ground.phase }, { on := 37, ground := Ground.phase }, { on := 38, ground := Ground.phase }, { on := 39, ground := Ground.phase }, { on := 40, ground := Ground.phase }, { on := 41, ground := Ground.phase }, { on := 42, ground := Ground.phase }, { on := 43, ground := Ground.phase }, { on := 44, ground := Ground.phase }], guard := none }) (v := ?_) rfl (by kernel_rfl) (by kernel_rfl) (by kernel_rfl) (fun _ _ _ h => h) (Or.inl ⟨by rfl, ?_⟩) hHeld ?_
  rotate_left
  · (intro W hSw; (try dsimp only at hSw); go_simp; first | done | with_reducible rfl)
  (try simp only [Act.put, List.setIfInBounds_toArray, List.set_cons_zero, List.set_cons_succ])
  refine wpAnyH_done (by kernel_rfl) ?_ _
  go_wp2
  go_ret
  exact ⟨rfl, unhide HBF⟩

end Go.Proofs.Ytklekpbladmjhaa
