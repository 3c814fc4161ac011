/- Contracts of Copy of an output and of a coin. -/
import Derived.Test.YtepmnpapdknocaaGreatDoorCoinCopy
namespace Go.Proofs.YtepmnpapdknocaaGreatDoor
open Go.RowKit

theorem results_cell0 {fn : Func} {p : Tmp} {ty : TypeId} (h : fn.results = #[.cell p ty]) (tmps : Array Value) (P : Program) (w : World) :
    (results fn tmps).run P w = ((asAddr (tmps.getD p undef)).run P w).andThen fun a w₁ => (loadVar ty a).run P w₁ := by
  simp only [results, h]
  simp [Sem.run_bind, Result.andThen]

theorem OpsAt.gr {w w' : World} {S : Nat → Prop} {a : Option Addr} {n : Nat} {l : List (Int × Int)} (h : OpsAt w a n l) (g : Gr w w' S) (hn : ∀ ad, a = some ad → ¬ S ad.block) : OpsAt w' a n l := by
  refine ⟨h.1, fun h0 => ?_⟩
  obtain ⟨b, off, rfl, hc⟩ := h.2 h0
  refine ⟨b, off, rfl, fun i hi => ?_⟩
  obtain ⟨c0, c1⟩ := hc i hi
  have hb := g.block b (World.block_lt_of_cell? _ _ c0) (hn _ rfl)
  exact ⟨(World.cell?_of_block (a := ⟨b, off + i * 2, none⟩) hb).trans c0, (World.cell?_of_block (a := ⟨b, off + i * 2 + 1, none⟩) hb).trans c1⟩

set_option maxRecDepth 10000 in
set_option maxHeartbeats 1600000 in
theorem outCopy_is (x : Int) (a : Option Addr) (n c : Nat) (l : List (Int × Int)) (w : World) (hn : n ≤ 4096) (h : OpsAt w a n l) (hs : SlOk a n c) :
    Calls Tryz.prog 145 #[.agg #[.int .i64 x, .slice a n c]] w fun e w' => ∃ a' c', e = .returned (.agg #[.int .i64 x, .slice a' n c']) ∧ OpsAt w' a' n l ∧ SlOk a' n c' ∧ (∀ ad, a' = some ad → w.heap.size ≤ ad.block) ∧ Below w.heap.size w w' := by
  obtain ⟨X, hX⟩ : ∃ X, X = (w.alloc (.cells #[.int .i64 x, .slice a n c] 84)).alloc (.cells #[.int .i64 0, .slice none 0 0] 84) := ⟨_, rfl⟩
  have hbX : Below w.heap.size w X := by rw [hX]; exact bel_on (bel_new _ _) (bel_new _ _)
  have x0 : X.cell? ⟨w.heap.size, 0, none⟩ = some (.int .i64 x) := by rw [hX]; exact cell_later (bel_new _ _) (two_cells w _ _ _).1
  have x1 : X.cell? ⟨w.heap.size, 1, none⟩ = some (.slice a n c) := by rw [hX]; exact cell_later (bel_new _ _) (two_cells w _ _ _).2
  have hX1 : X.heap[w.heap.size + 1]? = some (.cells [.int .i64 0, .slice none 0 0].toArray 84 (0, 0)) := by
    rw [hX]
    have := heap_alloc_new (w.alloc (.cells #[.int .i64 x, .slice a n c] 84)) (.cells #[.int .i64 0, .slice none 0 0] 84)
    rw [show (w.alloc (.cells #[.int .i64 x, .slice a n c] 84)).heap.size = w.heap.size + 1 by simp] at this
    exact this
  have C := hide (cloneOp_any a n c l X.drew hn (h.later (bel_on hbX (bel_draw1 X))) hs)
  have HX1 := hide hX1
  have HBX := hide hbX
  clear h hs hbX hX1
  go_enter Tryz.func145, Tryz.ntmps145
  go_wp2_with fail
  rw [← hX]
  clear hX
  go_region_with (go_at_call 182; refine (unhide C).mono ?_; rintro e w3 ⟨a', c', rfl, ho3, hs3, hb3', hb3⟩; have o2 : w3.cell? ⟨w.heap.size, 0, none⟩ = some (.int .i64 x) := cell_later hb3 (cell_later (bel_draw1 _) x0); have hz3 := (hb3.block _ (lt_of_block (unhide HX1))).trans (unhide HX1); have c0 := cell_of hz3 0 _ rfl; have c1 := cell_of hz3 1 _ rfl; have f0 := frozen_of hz3 0; have f1 := frozen_of hz3 1; have H3 : Hid (OpsAt w3 a' n l ∧ SlOk a' n c' ∧ (∀ ad, a' = some ad → X.heap.size ≤ ad.block) ∧ Below X.drew.heap.size X.drew w3) := ⟨ho3, hs3, hb3', hb3⟩; clear ho3 hs3 hb3' hb3 hz3)
  all_goals
    go_wp2
    (try simp only [Exit.inBlock, Exit.then])
    obtain ⟨ho3, hs3, hb3', hb3⟩ := unhide H3
    have hG := ((Gr.refl w3 (fun q => q = w.heap.size + 1)).one (w.heap.size + 1) 0 (.inl rfl) (.int .i64 x)).one (w.heap.size + 1) 1 (.inl rfl) (.slice a' n c')
    have hlt := lt_of_block (unhide HX1)
    refine bodyPost_ret (v := .agg #[.int .i64 x, .slice a' n c']) ?_ rfl ⟨a', c', rfl, ho3.gr hG (fun ad e q => ?_), hs3, fun ad e => ?_, ?_⟩
    · rw [results_cell0 rfl]
      go_simp
    · have := hb3' ad e; omega
    · have := hb3' ad e; omega
    · have hsz : X.heap.size ≤ w3.heap.size := hb3.size
      exact hG.below (bel_on (bel_on (unhide HBX) (bel_draw1 _)) hb3) (by omega) (fun k hk => by omega)

set_option maxRecDepth 10000 in
set_option maxHeartbeats 3200000 in
theorem copyCoin_is (x : CoinD) (a : Option Addr) (n c : Nat) (w : World) (hn : n ≤ 4096) (h : OpsAt w a n (ck x)) (hs : SlOk a n c) :
    Calls Tryz.prog 115 #[cnV x a n c] w fun e w' => ∃ a' c', e = .returned (cnV x a' n c') ∧ OpsAt w' a' n (ck x) ∧ SlOk a' n c' ∧ (∀ ad, a' = some ad → w.heap.size ≤ ad.block) ∧ Below w.heap.size w w' := by
  unfold cnV
  obtain ⟨X, hX⟩ : ∃ X, X = (w.alloc (.cells #[.int .i64 x.1, .int .i64 x.2.1, .int .i64 (cv x), .slice a n c, .int .i64 (ch x), .bool (cr x)] 88)).alloc (.cells #[.int .i64 0, .int .i64 0, .int .i64 0, .slice none 0 0, .int .i64 0, .bool false] 88) := ⟨_, rfl⟩
  have hbX : Below w.heap.size w X := by rw [hX]; exact bel_on (bel_new _ _) (bel_new _ _)
  have hX0 : X.heap[w.heap.size]? = some (.cells [.int .i64 x.1, .int .i64 x.2.1, .int .i64 (cv x), .slice a n c, .int .i64 (ch x), .bool (cr x)].toArray 88 (0, 0)) := by
    rw [hX, Below.heap_alloc _ _ _ (by simp)]; exact six_heap _ _ _ _ _ _ _ _
  have hX1 : X.heap[w.heap.size + 1]? = some (.cells zeroCs.toArray 88 (0, 0)) := by
    rw [hX]
    have := heap_alloc_new (w.alloc (.cells #[.int .i64 x.1, .int .i64 x.2.1, .int .i64 (cv x), .slice a n c, .int .i64 (ch x), .bool (cr x)] 88)) (.cells zeroCs.toArray 88)
    rw [show (w.alloc (.cells #[.int .i64 x.1, .int .i64 x.2.1, .int .i64 (cv x), .slice a n c, .int .i64 (ch x), .bool (cr x)] 88)).heap.size = w.heap.size + 1 by simp] at this
    exact this
  have C := hide (outCopy_is (cv x) a n c (ck x) X hn (h.later hbX) hs)
  have HX0 := hide hX0
  have HX1 := hide hX1
  have HBX := hide hbX
  have x2 := cell_of hX0 2 _ rfl
  have x3 := cell_of hX0 3 _ rfl
  clear h hs hbX hX1 hX0
  go_enter Tryz.func115, Tryz.ntmps115
  go_wp2_with fail
  rw [← hX]
  clear hX x2 x3
  refine (unhide C).mono ?_
  rintro e w3 ⟨a', c', rfl, ho3, hs3, hb3', hb3⟩
  have h0 := (hb3.block _ (lt_of_block (unhide HX0))).trans (unhide HX0)
  have h1 := (hb3.block _ (lt_of_block (unhide HX1))).trans (unhide HX1)
  have c0 := cell_of h0 0 _ rfl
  have c1 := cell_of h0 1 _ rfl
  have c2 := cell_of h0 2 _ rfl
  have c3 := cell_of h0 3 _ rfl
  have c4 := cell_of h0 4 _ rfl
  have c5 := cell_of h0 5 _ rfl
  have f2 := frozen_of h0 2
  have f3 := frozen_of h0 3
  have z0 := cell_of h1 0 _ rfl
  have z1 := cell_of h1 1 _ rfl
  have z2 := cell_of h1 2 _ rfl
  have z3 := cell_of h1 3 _ rfl
  have z4 := cell_of h1 4 _ rfl
  have z5 := cell_of h1 5 _ rfl
  have y0 := frozen_of h1 0
  have y1 := frozen_of h1 1
  have y2 := frozen_of h1 2
  have y3 := frozen_of h1 3
  have y4 := frozen_of h1 4
  have y5 := frozen_of h1 5
  have HX2 : Hid (w.heap.size + 1 < X.heap.size) := lt_of_block (unhide HX1)
  have H3 : Hid (OpsAt w3 a' n (ck x) ∧ SlOk a' n c' ∧ (∀ ad, a' = some ad → X.heap.size ≤ ad.block) ∧ Below X.heap.size X w3) := ⟨ho3, hs3, hb3', hb3⟩
  clear ho3 hs3 hb3' hb3 h0 h1
  go_wp2
  (try simp only [Exit.inBlock, Exit.then])
  obtain ⟨ho3, hs3, hb3', hb3⟩ := unhide H3
  have hlt := unhide HX2
  have hG := (((Gr.refl w3 (fun q => q = w.heap.size ∨ q = w.heap.size + 1)).one w.heap.size 2 (.inl (.inl rfl)) (.int .i64 (cv x))).one w.heap.size 3 (.inl (.inl rfl)) (.slice a' n c')).six (w.heap.size + 1) (.inl (.inr rfl)) (.int .i64 x.1) (.int .i64 x.2.1) (.int .i64 (cv x)) (.slice a' n c') (.int .i64 (ch x)) (.bool (cr x))
  refine bodyPost_ret (v := .agg #[.int .i64 x.1, .int .i64 x.2.1, .int .i64 (cv x), .slice a' n c', .int .i64 (ch x), .bool (cr x)]) ?_ rfl ⟨a', c', rfl, ho3.gr hG (fun ad e q => ?_), hs3, fun ad e => ?_, ?_⟩
  · rw [results_cell0 rfl]
    go_simp
  · have := hb3' ad e; rcases q with q | q <;> omega
  · have := hb3' ad e; omega
  · exact hG.below (bel_on (unhide HBX) hb3) (Nat.le_of_lt (Nat.lt_of_lt_of_le (by omega) hb3.size)) (fun k hk => by rcases hk with q | q <;> omega)

end Go.Proofs.YtepmnpapdknocaaGreatDoor
