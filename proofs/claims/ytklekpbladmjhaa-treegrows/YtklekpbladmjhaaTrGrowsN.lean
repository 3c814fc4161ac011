/- The walk of the law TreeGrows, the best one is new. -/
import Derived.Test.YtklekpbladmjhaaTrGrowsX
namespace Go.Proofs.Ytklekpbladmjhaa
open Go.RowKit

set_option maxRecDepth 10000 in
set_option maxHeartbeats 12800000 in
theorem grows_new (a b : Option Addr) (n c m d : Nat) (N : List Int) (T : List BlkD) (s p h k o : Int) (ta : Option Addr) (tn tc : Nat) (L : List TxD) (N' : List Int) (T' : List BlkD) (w : World) (hN : IntsAt w a n N) (hT : BlksAt w b m T) (sN : SlOk a n c) (sT : SlOk b m d) (hL : TxsAt w ta tn L) (sL : SlOk ta tn tc) (hx : addE N T s (p, h, k, o, L) = (N', T', 0)) (hbest : bstD N T ≠ bstD N' T') :
    Calls Try.prog 6 #[.agg #[.slice a n c, .slice b m d], .int .i64 s, .agg #[.int .i64 p, .int .i64 h, .int .i64 k, .int .i64 o, .slice ta tn tc]] w fun e w' => e = .returned (.bool true) ∧ Below w.heap.size w w' := by
  obtain ⟨i0, hi, hz0, hz1, hz2⟩ := info_parts Try.infoInt
  obtain ⟨X, hX⟩ : ∃ X, X = (w.alloc (.cells #[.slice a n c, .slice b m d] 25)).alloc (.cells #[.int .i64 p, .int .i64 h, .int .i64 k, .int .i64 o, .slice ta tn tc] 28) := ⟨_, rfl⟩
  have hbX : Below w.heap.size w X := by rw [hX]; exact bel_on (bel_new _ _) (bel_new _ _)
  have hX0 : X.heap[w.heap.size]? = some (.cells [.slice a n c, .slice b m d].toArray 25 (0, 0)) := by
    rw [hX, Below.heap_alloc _ _ _ (by simp)]; exact two_heap _ _ _ _
  have hX1 : X.heap[w.heap.size + 1]? = some (.cells [.int .i64 p, .int .i64 h, .int .i64 k, .int .i64 o, .slice ta tn tc].toArray 28 (0, 0)) := by
    rw [hX]
    have := five_heap (w.alloc (.cells #[.slice a n c, .slice b m d] 25)) (.int .i64 p) (.int .i64 h) (.int .i64 k) (.int .i64 o) (.slice ta tn tc) 28
    rw [show (w.alloc (.cells #[.slice a n c, .slice b m d] 25)).heap.size = w.heap.size + 1 by simp] at this
    exact this
  obtain ⟨bm, bn, v, u, own, up, P, f1, f2, f3, f4, f5, f6, f7, f8, g1, g2, g3, g4, g5, g6, g7, g8, g9, g10, g11⟩ := grow_facts hx
  simp only at f5 f8 g3 g7 g8
  have e5 : bn ≠ bm := fun e => hbest (by rw [f1, f2, e])
  clear hbest
  rw [hN.1] at g10 g11
  obtain ⟨pn, hpn⟩ : ∃ pn, P.length = pn := ⟨_, rfl⟩
  have hpl : pn ≤ 1000 := by rw [← hpn]; exact g9
  have hqn : (P ++ [s]).length = pn + 1 := by simp [hpn]
  have C := hide (add_is a b n c m d N T s p h k o ta tn tc L N' T' (n + 1) 0 X (hN.later hbX) (hT.later hbX) sN sT (hL.later hbX) sL hx g11)
  have GR := hide grown_yes
  have HB := hide hbX
  have HX0 := hide hX0
  have HX1 := hide hX1
  have hnm := sN.len
  unfold maxLen at hnm
  have hncm := sN.1
  have TREE := hide (fun W (hb : Below X.heap.size X W) => (⟨hN.later (bel_on hbX hb), hT.later (bel_on hbX hb)⟩ : IntsAt W a n N ∧ BlksAt W b m T))
  have SN := hide sN
  have ST := hide sT
  have F1 := hide f1
  have F2 := hide f2
  have F3 := hide f3
  have F4 := hide f4
  have F5 := hide f5
  have F6 := hide f6
  have F7 := hide f7
  have F8 := hide f8
  have G10 := hide g10
  have HPN := hide hpn
  have HQN := hide hqn
  have G4 := hide g4
  clear hbX hX0 hX1 hN hT sN sT hx hL sL f1 f2 f3 f4 f5 f6 f7 f8 g10 g11 hpn hqn g9 g4
  go_enter Try.func6, Try.ntmps6
  go_wp2_with fail
  rw [← hX]
  clear hX
  refine (unhide C).mono ?_
  rintro e w1 ⟨a1, c1, a2, c2, rfl, hF1, s1, s2, hb1⟩
  obtain ⟨Y, hY⟩ : ∃ Y, Y = w1.alloc (.cells #[.slice a1 (n + 1) c1, .slice a2 (n + 1) c2] 25) := ⟨_, rfl⟩
  have hbY : Below w1.heap.size w1 Y := by rw [hY]; exact bel_new _ _
  have hY0 : Y.heap[w1.heap.size]? = some (.cells [.slice a1 (n + 1) c1, .slice a2 (n + 1) c2].toArray 25 (0, 0)) := by rw [hY]; exact two_heap _ _ _ _
  have BX : Hid (∀ W, Below Y.heap.size Y W → W.cell? ⟨w.heap.size, 0, none⟩ = some (.slice a n c) ∧ W.cell? ⟨w.heap.size, 1, none⟩ = some (.slice b m d) ∧ w.heap.size < W.heap.size ∧ W.cell? ⟨w.heap.size + 1, 0, none⟩ = some (.int .i64 p) ∧ W.cell? ⟨w.heap.size + 1, 2, none⟩ = some (.int .i64 k) ∧ w.heap.size + 1 < W.heap.size ∧ W.cell? ⟨w1.heap.size, 0, none⟩ = some (.slice a1 (n + 1) c1) ∧ W.cell? ⟨w1.heap.size, 1, none⟩ = some (.slice a2 (n + 1) c2) ∧ w1.heap.size < W.heap.size) := fun W hb => by
    have h0 := ((bel_on (bel_on hb1 hbY) hb).block _ (lt_of_block (unhide HX0))).trans (unhide HX0)
    have h1 := ((bel_on (bel_on hb1 hbY) hb).block _ (lt_of_block (unhide HX1))).trans (unhide HX1)
    have h2 := (hb.block _ (lt_of_block hY0)).trans hY0
    exact ⟨cell_of h0 0 _ rfl, cell_of h0 1 _ rfl, lt_of_block h0, cell_of h1 0 _ rfl, cell_of h1 2 _ rfl, lt_of_block h1, cell_of h2 0 _ rfl, cell_of h2 1 _ rfl, lt_of_block h2⟩
  have T2 : Hid (∀ W, Below Y.heap.size Y W → IntsAt W a1 (n + 1) N' ∧ BlksAt W a2 (n + 1) T') := fun W hb => ⟨hF1.now.1.later (bel_on hbY hb), hF1.now.2.later (bel_on hbY hb)⟩
  have T1 : Hid (∀ W, Below Y.heap.size Y W → IntsAt W a n N ∧ BlksAt W b m T) := fun W hb => (unhide TREE) W (bel_on (bel_on hb1 hbY) hb)
  have BW : Hid (∀ W, Below Y.heap.size Y W → Below w.heap.size w W) := fun W hb => bel_on (unhide HB) (bel_on (bel_on hb1 hbY) hb)
  have HS1 := hide s1
  have HS2 := hide s2
  have hsm := s1.2.1
  unfold maxLen at hsm
  have hs1c := s1.1
  clear hF1 s1 s2 hb1 hbY hY0 C TREE HX0 HX1
  go_wp2_with fail
  rw [← hY]
  clear hY
  refine ((unhide GR) _).mono ?_
  rintro e w2 ⟨rfl, hb2⟩
  have HB2 := hide hb2
  obtain ⟨x0, x1, xl, x2, x3, xm, x4, x5, xn⟩ := (unhide BX) _ (unhide HB2)
  have C1 := hide (best_is a b n c m d N T bm 0 w2 ((unhide T1) _ hb2).1 ((unhide T1) _ hb2).2 (unhide SN) (unhide ST) (unhide F1))
  clear hb2
  go_wp2_with fail
  refine (unhide C1).mono ?_
  rintro e w3 ⟨rfl, hb3⟩
  have HB3 := hide (bel_on (unhide HB2) hb3)
  have hb3 := unhide HB3
  clear x0 x1 xl x2 x3 xm x4 x5 xn C1 HB2
  obtain ⟨x0, x1, xl, x2, x3, xm, x4, x5, xn⟩ := (unhide BX) _ (unhide HB3)
  have C1 := hide (best_is a1 a2 (n + 1) c1 (n + 1) c2 N' T' bn 0 w3 ((unhide T2) _ hb3).1 ((unhide T2) _ hb3).2 (unhide HS1) (unhide HS2) (unhide F2))
  clear hb3
  go_wp2_with fail
  refine (unhide C1).mono ?_
  rintro e w4 ⟨rfl, hb4⟩
  have HB4 := hide (bel_on (unhide HB3) hb4)
  have hb4 := unhide HB4
  clear x0 x1 xl x2 x3 xm x4 x5 xn C1 HB3
  obtain ⟨x0, x1, xl, x2, x3, xm, x4, x5, xn⟩ := (unhide BX) _ (unhide HB4)
  have C1 := hide (work_is a b n c m d N T bm v 0 w4 ((unhide T1) _ hb4).1 ((unhide T1) _ hb4).2 (unhide SN) (unhide ST) (unhide F3))
  clear hb4
  go_wp2_with fail
  refine (unhide C1).mono ?_
  rintro e w5 ⟨rfl, hb5⟩
  have HB5 := hide (bel_on (unhide HB4) hb5)
  have hb5 := unhide HB5
  clear x0 x1 xl x2 x3 xm x4 x5 xn C1 HB4
  obtain ⟨x0, x1, xl, x2, x3, xm, x4, x5, xn⟩ := (unhide BX) _ (unhide HB5)
  have C1 := hide (work_is a1 a2 (n + 1) c1 (n + 1) c2 N' T' bn u 0 w5 ((unhide T2) _ hb5).1 ((unhide T2) _ hb5).2 (unhide HS1) (unhide HS2) (unhide F4))
  clear hb5
  go_wp2_with fail
  refine (unhide C1).mono ?_
  rintro e w6 ⟨rfl, hb6⟩
  have HB6 := hide (bel_on (unhide HB5) hb6)
  have hb6 := unhide HB6
  clear x0 x1 xl x2 x3 xm x4 x5 xn C1 HB5
  obtain ⟨x0, x1, xl, x2, x3, xm, x4, x5, xn⟩ := (unhide BX) _ (unhide HB6)
  have C1 := hide (path_is a b n c m d N T p P pn 0 w6 ((unhide T1) _ hb6).1 ((unhide T1) _ hb6).2 (unhide SN) (unhide ST) (unhide F5) (unhide HPN))
  clear hb6
  go_wp2_with fail
  refine (unhide C1).mono ?_
  rintro e w7 ⟨vp, rfl, hop, hb7⟩
  obtain ⟨pa, pc, rfl, sp, hpa⟩ := ints_of_own hop
  have HB7 := hide (bel_on (unhide HB6) hb7)
  have HS67 : Hid (w6.heap.size ≤ w7.heap.size) := hb7.size
  have hb7 := unhide HB7
  have HOP := hide hop
  have HPL : Hid (∀ q, (Value.slice pa pn pc).ownBlock = some q → w6.heap.size ≤ q ∧ q < w7.heap.size) := fun q hq => hop.lt q hq
  have HYS : Hid (Y.heap.size ≤ w6.heap.size) := (unhide HB6).size
  clear x0 x1 xl x2 x3 xm x4 x5 xn C1 hop hpa HB6
  obtain ⟨x0, x1, xl, x2, x3, xm, x4, x5, xn⟩ := (unhide BX) _ (unhide HB7)
  have C1 := hide (path_is a1 a2 (n + 1) c1 (n + 1) c2 N' T' s (P ++ [s]) (pn + 1) 0 w7 ((unhide T2) _ hb7).1 ((unhide T2) _ hb7).2 (unhide HS1) (unhide HS2) (unhide F6) (unhide HQN))
  clear hb7 sp
  go_wp2_with fail
  refine (unhide C1).mono ?_
  rintro e w8 ⟨vq, rfl, hoq, hb8⟩
  obtain ⟨qa, qc, rfl, _, _⟩ := ints_of_own hoq
  have HOP8 := hide ((Gr.of (S := fun _ => False) hb8).own (unhide HOP) (fun _ _ q => q))
  have HB8 := hide (bel_on (unhide HB7) hb8)
  have HSZ8 : Hid (w7.heap.size ≤ w8.heap.size) := hb8.size
  have hb8 := unhide HB8
  have HQA := hide hoq
  clear x0 x1 xl x2 x3 xm x4 x5 xn C1 hoq HOP HB7
  obtain ⟨x0, x1, xl, x2, x3, xm, x4, x5, xn⟩ := (unhide BX) _ (unhide HB8)
  have C1 := hide (work_is a1 a2 (n + 1) c1 (n + 1) c2 N' T' s own 0 w8 ((unhide T2) _ hb8).1 ((unhide T2) _ hb8).2 (unhide HS1) (unhide HS2) (unhide F7))
  clear hb8
  go_wp2_with fail
  refine (unhide C1).mono ?_
  rintro e w9 ⟨rfl, hb9⟩
  have HOP9 := hide ((Gr.of (S := fun _ => False) hb9).own (unhide HOP8) (fun _ _ q => q))
  have HQA9 := hide ((Gr.of (S := fun _ => False) hb9).own (unhide HQA) (fun _ _ q => q))
  have HB9 := hide (bel_on (unhide HB8) hb9)
  have HSZ9 : Hid (w7.heap.size ≤ w9.heap.size) := Nat.le_trans (unhide HSZ8) hb9.size
  have hb9 := unhide HB9
  clear x0 x1 xl x2 x3 xm x4 x5 xn C1 HOP8 HQA HB8
  obtain ⟨x0, x1, xl, x2, x3, xm, x4, x5, xn⟩ := (unhide BX) _ (unhide HB9)
  have C1 := hide (work_is a b n c m d N T p up 0 w9 ((unhide T1) _ hb9).1 ((unhide T1) _ hb9).2 (unhide SN) (unhide ST) (unhide F8))
  clear hb9
  go_wp2_with fail
  refine (unhide C1).mono ?_
  rintro e w10 ⟨rfl, hb10⟩
  have HOP10 := hide ((Gr.of (S := fun _ => False) hb10).own (unhide HOP9) (fun _ _ q => q))
  have HQA10 := hide ((Gr.of (S := fun _ => False) hb10).own (unhide HQA9) (fun _ _ q => q))
  have HB10 := hide (bel_on (unhide HB9) hb10)
  have HSZ0 : Hid (w7.heap.size ≤ w10.heap.size ∧ w6.heap.size ≤ w10.heap.size) := by
    have h1 := hb10.size
    exact ⟨Nat.le_trans (unhide HSZ9) h1, Nat.le_trans (Nat.le_trans (unhide HS67) (unhide HSZ9)) h1⟩
  clear x0 x1 xl x2 x3 xm x4 x5 xn C1 HOP9 HQA9 HB9 hb10
  obtain ⟨x0, x1, xl, x2, x3, xm, x4, x5, xn⟩ := (unhide BX) _ (unhide HB10)
  have HSZ : Hid (w7.heap.size ≤ w10.heap.size ∧ w6.heap.size ≤ w10.heap.size) := unhide HSZ0
  clear HSZ0
  have hwk : IntKind.i64.wrap (up + k) = up + k := by rw [IntKind.wrap_i64]; omega
  obtain rfl : own = up + k := g3
  have hnc1 : (n : Int) ≤ (c1 : Int) := by omega
  have KS : Hid (∀ W, Below Y.heap.size Y W → Below Y.heap.size Y W ∧ W.cell? ⟨w.heap.size, 0, none⟩ = some (.slice a n c) ∧ W.cell? ⟨w.heap.size + 1, 2, none⟩ = some (.int .i64 k) ∧ W.cell? ⟨w1.heap.size, 0, none⟩ = some (.slice a1 (n + 1) c1)) := fun W hb => by
    obtain ⟨y0, y1, yl, y2, y3, ym, y4, y5, yn⟩ := (unhide BX) W hb
    exact ⟨hb, y0, y3, y4⟩
  have CE2 : Hid (∀ W, Below Y.heap.size Y W → Calls Try.prog 23 #[.slice a1 n c1, .slice a n c] W fun e w' => e = .returned (.bool true) ∧ Below W.heap.size W w') := fun W hb =>
    eqInt_is a1 a n n c1 c N N true W (by unfold maxLen; omega) (by have h3 := ((unhide T2) _ hb).1.take n (by omega); rw [unhide G10] at h3; exact h3) ((unhide T1) _ hb).1 (by simp)
  have AP : Hid (∀ g cap w11, w11.ownsRow w6.heap.size 3 1 (.slice (some ⟨g, 0, none⟩) (pn + 1) cap) (pn + 1) (P.map (Value.int .i64) ++ [.int .i64 s]) → (w10.drew.alloc (.cells #[.int .i64 s] 3)).grownBy w11 (Value.slice pa pn pc).ownBlock →
      Below Y.heap.size Y w11 ∧ Calls Try.prog 23 #[.slice qa (pn + 1) qc, .slice (some ⟨g, 0, none⟩) (pn + 1) cap] w11 fun e w' => e = .returned (.bool true) ∧ Below w11.heap.size w11 w') := by
    intro g cap w11 hown11 hgrow11
    have hb11 : Below Y.heap.size Y w11 := (bel_on (bel_on (unhide HB10) (bel_draw1 w10)) (bel_new w10.drew _)).grown hgrow11 (by have := unhide HSZ; have := unhide HYS; simp; omega) (fun q hq => by have := ((unhide HPL) q hq).1; have := unhide HYS; omega)
    have hg11 : Gr w10 w11 (fun q => (Value.slice pa pn pc).ownBlock = some q) := ((Gr.refl w10 _).draw.new _).grown hgrow11 (fun q hq => .inl hq)
    have hq11 := hg11.own (unhide HQA10) (fun q hq e => by have := ((unhide HQA10).lt q hq).1; have := ((unhide HPL) q e).2; omega)
    obtain ⟨qa', qc', eq, _, hqi⟩ := ints_of_own hq11
    cases eq
    have hpi : IntsAt w11 (some ⟨g, 0, none⟩) (pn + 1) (P ++ [s]) := by
      have hh : w11.ownsRow w6.heap.size 3 1 (.slice (some ⟨g, 0, none⟩) (pn + 1) cap) (pn + 1) ((P ++ [s]).map (Value.int .i64)) := by simpa using hown11
      obtain ⟨_, _, e3, _, h3⟩ := ints_of_own hh
      cases e3
      exact h3
    exact ⟨hb11, eqInt_is qa (some ⟨g, 0, none⟩) (pn + 1) (pn + 1) qc cap (P ++ [s]) (P ++ [s]) true w11 (by unfold maxLen; omega) hqi hpi (by simp)⟩
  obtain rfl : bn = s := by
    rcases unhide G4 with e | e
    · exact absurd e e5
    · exact e
  have gb : (bn == bm) = false := by simp [e5]
  have gc : (bn == bn) = true := by simp
  clear e5
  go_wp2_with fail
  go_region_held3 (fun W => Below Y.heap.size Y W ∧ W.cell? ⟨w.heap.size, 0, none⟩ = some (.slice a n c) ∧ W.cell? ⟨w.heap.size + 1, 2, none⟩ = some (.int .i64 k) ∧ W.cell? ⟨w1.heap.size, 0, none⟩ = some (.slice a1 (n + 1) c1))
    (first
    | exact (unhide KS) _ (bel_on (unhide HB10) (bel_draw1 _))
    | exact (unhide KS) _ (unhide HB11)
    | (go_split_ands; exact (unhide KS) _ (bel_on (by assumption) (bel_new _ _)))
    | (go_split_ands; exact (unhide KS) _ (bel_on (by assumption) hbc)))
    (first
    | (refine step_append_w (by kernel_rfl) _ _ _ (by rfl) w6.heap.size 3 i0 (.int .i64 0) 1 8 Try.underlying22 hi hz0 hz1 hz2 rfl (by decide) (.slice pa pn pc) pn (P.map (Value.int .i64)) (by rfl) ((unhide HOP10).drew.alloc _) ⟨w10.heap.size, 0, none⟩ 1 1 [.int .i64 bn] (by rfl) (by rfl) (World.news_of_block (cs := #[.int .i64 bn]) (t := 3) (fr := (0, 0)) (heap_alloc_new w10.drew _)) (by simp [Value.oneCell']) (by decide) (by unfold maxLen; omega) (by omega) (by have := unhide HSZ; simp; omega) (w10.heap.size + 1) (by simp) ?_
       intro g cap w11 hown11 hgrow11 hor11 hlt11
       have H11 := hide ((unhide AP) g cap w11 hown11 hgrow11)
       have HB11 := hide (unhide H11).1
       have CE1 := hide (unhide H11).2
       clear hown11 hgrow11 hor11 H11)
    | (go_at_call_of 23 (Value.slice a n c)
       refine ((unhide CE2) _ ?_).mono ?_
       · go_split_ands
         assumption
       rintro e w13 ⟨rfl, hbc⟩)
    | (go_at_call 23
       refine (unhide CE1).mono ?_
       rintro e w12 ⟨rfl, hbc⟩))
  all_goals
    rename_i hq
    have HBF := hide ((unhide BW) _ hq.1)
    clear hq
    go_wp2
    go_ret
    exact ⟨rfl, unhide HBF⟩

end Go.Proofs.Ytklekpbladmjhaa
