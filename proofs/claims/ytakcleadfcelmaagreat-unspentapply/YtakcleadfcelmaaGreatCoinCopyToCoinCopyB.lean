/- Contracts of what copies coins: a lock in memory of its own, a coin, a row of them. -/
import Derived.Test.YtakcleadfcelmaaGreatCoinSpendB
import Derived.Test.YtakcleadfcelmaaGreatLockFillToTxCheckC
namespace Go.Proofs.YtakcleadfcelmaaGreat
open Go.RowKit

def flatO : List (Int × Int) → List Value
  | [] => []
  | o :: r => .int .i64 o.1 :: .int .i64 o.2 :: flatO r
theorem flatO_len : ∀ l : List (Int × Int), (flatO l).length = l.length * 2
  | [] => rfl
  | _ :: r => by simp only [flatO, List.length_cons, flatO_len r]; omega
theorem flatO_at : ∀ (l : List (Int × Int)) (i : Nat), i < l.length → (flatO l)[i * 2]? = some (.int .i64 (l.getD i (0, 0)).1) ∧ (flatO l)[i * 2 + 1]? = some (.int .i64 (l.getD i (0, 0)).2)
  | [], _, h => absurd h (by simp)
  | o :: r, 0, _ => ⟨rfl, rfl⟩
  | o :: r, i + 1, h => by
    have := flatO_at r i (by simpa using h)
    rw [show (i + 1) * 2 = i * 2 + 2 by omega]
    simpa [flatO] using this
theorem flatO_one : ∀ (l : List (Int × Int)) (u : Value), u ∈ flatO l → u.oneCell' = true
  | [], u, h => by cases h
  | o :: r, u, h => by
    simp only [flatO, List.mem_cons] at h
    rcases h with rfl | rfl | h
    · rfl
    · rfl
    · exact flatO_one r u h
theorem flatO_cells {w : World} {b off n : Nat} {l : List (Int × Int)} (hz : l.length = n) (hc : ∀ i, i < n → w.cell? ⟨b, off + i * 2, none⟩ = some (.int .i64 (l.getD i (0, 0)).1) ∧ w.cell? ⟨b, off + i * 2 + 1, none⟩ = some (.int .i64 (l.getD i (0, 0)).2)) (j : Nat) (u : Value) (hj : (flatO l)[j]? = some u) : w.cell? ⟨b, off + j, none⟩ = some u := by
  have hjl : j < l.length * 2 := by rw [← flatO_len]; exact (List.getElem?_eq_some_iff.1 hj).1
  obtain ⟨f0, f1⟩ := flatO_at l (j / 2) (by omega)
  obtain ⟨c0, c1⟩ := hc (j / 2) (by omega)
  rcases (show j % 2 = 0 ∨ j % 2 = 1 by omega) with q | q
  · have e : j = j / 2 * 2 := by omega
    rw [← e] at f0 c0
    rw [f0] at hj
    rw [c0, ← hj]
  · have e : j = j / 2 * 2 + 1 := by omega
    rw [← e] at f1
    rw [show off + j / 2 * 2 + 1 = off + j by omega] at c1
    rw [f1] at hj
    rw [c1, ← hj]
theorem ops_own {w : World} {base : Nat} {v : Value} {n : Nat} {l : List (Int × Int)} (h : w.ownsRow base 59 2 v n (flatO l)) : ∃ a c, v = .slice a n c ∧ OpsAt w a n l ∧ SlOk a n c ∧ (∀ ad, a = some ad → base ≤ ad.block) := by
  have hl : l.length = n := by have := h.1; rw [flatO_len] at this; omega
  rcases h.2 with ⟨rfl, rfl⟩ | ⟨g, cap, cur, rfl, hg, hh, h1, h2, h3, h4⟩
  · exact ⟨none, 0, rfl, ⟨hl, fun h => absurd h (by omega)⟩, ⟨Nat.le_refl _, Nat.zero_le _, fun _ => ⟨rfl, rfl⟩⟩, fun ad e => by cases e⟩
  · refine ⟨_, cap, rfl, ⟨hl, fun _ => ⟨g, 0, rfl, fun i hi => ?_⟩⟩, ⟨h1, h2, fun e => by cases e⟩, fun ad e => by cases e; exact hg⟩
    obtain ⟨f0, f1⟩ := flatO_at l i (by omega)
    rw [Nat.zero_add, World.ownsRow.cellAt h _ (by omega), World.ownsRow.cellAt h _ (by omega)]
    exact ⟨f0, f1⟩

theorem Tryz.infoOpC : (Tryz.prog.info? 59).map (fun i => (i.zero, i.size, i.bytes)) = some (some (.agg #[.int .i64 0, .int .i64 0]), 2, 16) := by kernel_rfl

set_option maxRecDepth 10000 in
set_option maxHeartbeats 800000 in
theorem cloneOp_nil (w : World) : Calls Tryz.prog 89 #[.slice none 0 0] w fun e w' => e = .returned (.slice none 0 0) ∧ w = w' := by
  have he := fun w => Lib.run_eql_slice_nil (P := Tryz.prog) w 51 59 none 0 0 0 0 Tryz.underlying51
  go_enter Tryz.func89, Tryz.ntmps89
  go_wp2
  go_ret
  exact ⟨rfl, rfl⟩

set_option maxRecDepth 10000 in
set_option maxHeartbeats 1600000 in
theorem cloneOp_some (ad : Addr) (n c : Nat) (l : List (Int × Int)) (w : World) (hn : n ≤ 4096) (hz : l.length = n) (hc : ∀ j u, (flatO l)[j]? = some u → w.cell? (ad.add j) = some u) :
    Calls Tryz.prog 89 #[.slice (some ad) n c] w fun e w' => ∃ v, e = .returned v ∧ w'.ownsRow w.heap.size 59 2 v n (flatO l) ∧ Below w.heap.size w w' := by
  obtain ⟨i0, hi, hz0, hz1, hz2⟩ := info_parts Tryz.infoOpC
  have hb := bel_new w (.cells #[] 59)
  have HC : Hid (∀ j u, (flatO l)[j]? = some u → (w.alloc (.cells #[] 59)).cell? (ad.add j) = some u) := fun j u hj => cell_later hb (hc j u hj)
  have HB := hide hb
  have HZ := hide hz
  have HO := hide (own_nil w 59 2)
  have he := fun w => Lib.run_eql_slice_nil (P := Tryz.prog) w 51 59 (some ad) n c 0 0 Tryz.underlying51
  clear hc hb hz
  go_enter Tryz.func89, Tryz.ntmps89
  go_wp2_with (at_builtin; refine wpList_append_own _ rfl _ _ 51 rfl w.heap.size 59 i0 (.agg #[.int .i64 0, .int .i64 0]) 2 16 Tryz.underlying51 hi hz0 hz1 hz2 rfl (by decide) _ _ _ rfl (unhide HO) ad n c (flatO l) rfl (by rw [flatO_len, unhide HZ]) (unhide HC) (flatO_one l) (by unfold maxLen; omega) (by omega) (unhide HB).size ?_; intro v2 w3 hown3 hgrow3 _)
  have HW : Hid (w3.ownsRow w.heap.size 59 2 v2 n (flatO l)) := by show World.ownsRow _ _ _ _ _ _ _; simpa using hown3
  have HB3 := hide ((unhide HB).grown hgrow3 (unhide HB).size (own_lo (unhide HO)))
  clear hown3 hgrow3
  go_wp2
  go_ret
  exact ⟨v2, rfl, unhide HW, unhide HB3⟩

theorem cloneOp_any (a : Option Addr) (n c : Nat) (l : List (Int × Int)) (w : World) (hn : n ≤ 4096) (h : OpsAt w a n l) (hs : SlOk a n c) :
    Calls Tryz.prog 89 #[.slice a n c] w fun e w' => ∃ a' c', e = .returned (.slice a' n c') ∧ OpsAt w' a' n l ∧ SlOk a' n c' ∧ (∀ ad, a' = some ad → w.heap.size ≤ ad.block) ∧ Below w.heap.size w w' := by
  obtain ⟨hl, hc⟩ := h
  cases a with
  | none =>
    obtain ⟨rfl, rfl⟩ := hs.2.2 rfl
    exact (cloneOp_nil w).mono fun e w' ⟨x, y⟩ => ⟨none, 0, x, ⟨hl, fun h => absurd h (by omega)⟩, hs, fun ad e => (by cases e), y ▸ Below.refl _ _⟩
  | some ad =>
    have hc2 : ∀ j u, (flatO l)[j]? = some u → w.cell? (ad.add j) = some u := fun j u hj => by
      have hjl : j < l.length * 2 := by rw [← flatO_len]; exact (List.getElem?_eq_some_iff.1 hj).1
      obtain ⟨b, off, e, hcell⟩ := hc (by omega)
      cases e
      rw [Addr.add_lit]
      exact flatO_cells hl hcell j u hj
    refine (cloneOp_some ad n c l w hn hl hc2).mono ?_
    rintro e w' ⟨v, rfl, x, y⟩
    obtain ⟨a', c', rfl, h1, h2, h3⟩ := ops_own x
    exact ⟨a', c', rfl, h1, h2, h3, y⟩

end Go.Proofs.YtakcleadfcelmaaGreat

/- Contracts of Copy of an output and of a coin. -/
namespace Go.Proofs.YtakcleadfcelmaaGreat
open Go.RowKit

theorem results_cell0 {fn : Func} {p : Tmp} {ty : TypeId} (h : fn.results = #[.cell p ty]) (tmps : Array Value) (P : Program) (w : World) :
    (results fn tmps).run P w = ((asAddr (tmps.getD p undef)).run P w).andThen fun a w₁ => (loadVar ty a).run P w₁ := by
  simp only [results, h]
  simp [Sem.run_bind, Result.andThen]

theorem OpsAt.gr {w w' : World} {S : Nat → Prop} {a : Option Addr} {n : Nat} {l : List (Int × Int)} (h : OpsAt w a n l) (g : Gr w w' S) (hn : ∀ ad, a = some ad → ¬ S ad.block) : OpsAt w' a n l := by
  refine ⟨h.1, fun h0 => ?_⟩
  obtain ⟨b, off, rfl, hc⟩ := h.2 h0
  refine ⟨b, off, rfl, fun i hi => ?_⟩
  obtain ⟨c0, c1⟩ := hc i hi
  have hb := g.block b (World.block_lt_of_cell? _ _ c0) (hn _ rfl)
  exact ⟨(World.cell?_of_block (a := ⟨b, off + i * 2, none⟩) hb).trans c0, (World.cell?_of_block (a := ⟨b, off + i * 2 + 1, none⟩) hb).trans c1⟩

set_option maxRecDepth 10000 in
set_option maxHeartbeats 1600000 in
theorem outCopy_is (x : Int) (a : Option Addr) (n c : Nat) (l : List (Int × Int)) (w : World) (hn : n ≤ 4096) (h : OpsAt w a n l) (hs : SlOk a n c) :
    Calls Tryz.prog 69 #[.agg #[.int .i64 x, .slice a n c]] w fun e w' => ∃ a' c', e = .returned (.agg #[.int .i64 x, .slice a' n c']) ∧ OpsAt w' a' n l ∧ SlOk a' n c' ∧ (∀ ad, a' = some ad → w.heap.size ≤ ad.block) ∧ Below w.heap.size w w' := by
  obtain ⟨X, hX⟩ : ∃ X, X = (w.alloc (.cells #[.int .i64 x, .slice a n c] 53)).alloc (.cells #[.int .i64 0, .slice none 0 0] 53) := ⟨_, rfl⟩
  have hbX : Below w.heap.size w X := by rw [hX]; exact bel_on (bel_new _ _) (bel_new _ _)
  have x0 : X.cell? ⟨w.heap.size, 0, none⟩ = some (.int .i64 x) := by rw [hX]; exact cell_later (bel_new _ _) (two_cells w _ _ _).1
  have x1 : X.cell? ⟨w.heap.size, 1, none⟩ = some (.slice a n c) := by rw [hX]; exact cell_later (bel_new _ _) (two_cells w _ _ _).2
  have hX1 : X.heap[w.heap.size + 1]? = some (.cells [.int .i64 0, .slice none 0 0].toArray 53 (0, 0)) := by
    rw [hX]
    have := heap_alloc_new (w.alloc (.cells #[.int .i64 x, .slice a n c] 53)) (.cells #[.int .i64 0, .slice none 0 0] 53)
    rw [show (w.alloc (.cells #[.int .i64 x, .slice a n c] 53)).heap.size = w.heap.size + 1 by simp] at this
    exact this
  have C := hide (cloneOp_any a n c l X.drew hn (h.later (bel_on hbX (bel_draw1 X))) hs)
  have HX1 := hide hX1
  have HBX := hide hbX
  clear h hs hbX hX1
  go_enter Tryz.func69, Tryz.ntmps69
  go_wp2_with fail
  rw [← hX]
  clear hX
  go_region_with (go_at_call 89; refine (unhide C).mono ?_; rintro e w3 ⟨a', c', rfl, ho3, hs3, hb3', hb3⟩; have o2 : w3.cell? ⟨w.heap.size, 0, none⟩ = some (.int .i64 x) := cell_later hb3 (cell_later (bel_draw1 _) x0); have hz3 := (hb3.block _ (lt_of_block (unhide HX1))).trans (unhide HX1); have c0 := cell_of hz3 0 _ rfl; have c1 := cell_of hz3 1 _ rfl; have f0 := frozen_of hz3 0; have f1 := frozen_of hz3 1; have H3 : Hid (OpsAt w3 a' n l ∧ SlOk a' n c' ∧ (∀ ad, a' = some ad → X.heap.size ≤ ad.block) ∧ Below X.drew.heap.size X.drew w3) := ⟨ho3, hs3, hb3', hb3⟩; clear ho3 hs3 hb3' hb3 hz3)
  all_goals
    go_wp2
    (try simp only [Exit.inBlock, Exit.then])
    obtain ⟨ho3, hs3, hb3', hb3⟩ := unhide H3
    have hG := ((Gr.refl w3 (fun q => q = w.heap.size + 1)).one (w.heap.size + 1) 0 (.inl rfl) (.int .i64 x)).one (w.heap.size + 1) 1 (.inl rfl) (.slice a' n c')
    have hlt := lt_of_block (unhide HX1)
    refine bodyPost_ret (v := .agg #[.int .i64 x, .slice a' n c']) ?_ rfl ⟨a', c', rfl, ho3.gr hG (fun ad e q => ?_), hs3, fun ad e => ?_, ?_⟩
    · rw [results_cell0 rfl]
      go_simp
    · have := hb3' ad e; omega
    · have := hb3' ad e; omega
    · have hsz : X.heap.size ≤ w3.heap.size := hb3.size
      exact hG.below (bel_on (bel_on (unhide HBX) (bel_draw1 _)) hb3) (by omega) (fun k hk => by omega)

set_option maxRecDepth 10000 in
set_option maxHeartbeats 3200000 in
theorem copyCoin_is (x : CoinD) (a : Option Addr) (n c : Nat) (w : World) (hn : n ≤ 4096) (h : OpsAt w a n (ck x)) (hs : SlOk a n c) :
    Calls Tryz.prog 47 #[cnV x a n c] w fun e w' => ∃ a' c', e = .returned (cnV x a' n c') ∧ OpsAt w' a' n (ck x) ∧ SlOk a' n c' ∧ (∀ ad, a' = some ad → w.heap.size ≤ ad.block) ∧ Below w.heap.size w w' := by
  unfold cnV
  obtain ⟨X, hX⟩ : ∃ X, X = (w.alloc (.cells #[.int .i64 x.1, .int .i64 x.2.1, .int .i64 (cv x), .slice a n c, .int .i64 (ch x), .bool (cr x)] 55)).alloc (.cells #[.int .i64 0, .int .i64 0, .int .i64 0, .slice none 0 0, .int .i64 0, .bool false] 55) := ⟨_, rfl⟩
  have hbX : Below w.heap.size w X := by rw [hX]; exact bel_on (bel_new _ _) (bel_new _ _)
  have hX0 : X.heap[w.heap.size]? = some (.cells [.int .i64 x.1, .int .i64 x.2.1, .int .i64 (cv x), .slice a n c, .int .i64 (ch x), .bool (cr x)].toArray 55 (0, 0)) := by
    rw [hX, Below.heap_alloc _ _ _ (by simp)]; exact six_heap _ _ _ _ _ _ _ _
  have hX1 : X.heap[w.heap.size + 1]? = some (.cells zeroCs.toArray 55 (0, 0)) := by
    rw [hX]
    have := heap_alloc_new (w.alloc (.cells #[.int .i64 x.1, .int .i64 x.2.1, .int .i64 (cv x), .slice a n c, .int .i64 (ch x), .bool (cr x)] 55)) (.cells zeroCs.toArray 55)
    rw [show (w.alloc (.cells #[.int .i64 x.1, .int .i64 x.2.1, .int .i64 (cv x), .slice a n c, .int .i64 (ch x), .bool (cr x)] 55)).heap.size = w.heap.size + 1 by simp] at this
    exact this
  have C := hide (outCopy_is (cv x) a n c (ck x) X hn (h.later hbX) hs)
  have HX0 := hide hX0
  have HX1 := hide hX1
  have HBX := hide hbX
  have x2 := cell_of hX0 2 _ rfl
  have x3 := cell_of hX0 3 _ rfl
  clear h hs hbX hX1 hX0
  go_enter Tryz.func47, Tryz.ntmps47
  go_wp2_with fail
  rw [← hX]
  clear hX x2 x3
  refine (unhide C).mono ?_
  rintro e w3 ⟨a', c', rfl, ho3, hs3, hb3', hb3⟩
  have h0 := (hb3.block _ (lt_of_block (unhide HX0))).trans (unhide HX0)
  have h1 := (hb3.block _ (lt_of_block (unhide HX1))).trans (unhide HX1)
  have c0 := cell_of h0 0 _ rfl
  have c1 := cell_of h0 1 _ rfl
  have c2 := cell_of h0 2 _ rfl
  have c3 := cell_of h0 3 _ rfl
  have c4 := cell_of h0 4 _ rfl
  have c5 := cell_of h0 5 _ rfl
  have f2 := frozen_of h0 2
  have f3 := frozen_of h0 3
  have z0 := cell_of h1 0 _ rfl
  have z1 := cell_of h1 1 _ rfl
  have z2 := cell_of h1 2 _ rfl
  have z3 := cell_of h1 3 _ rfl
  have z4 := cell_of h1 4 _ rfl
  have z5 := cell_of h1 5 _ rfl
  have y0 := frozen_of h1 0
  have y1 := frozen_of h1 1
  have y2 := frozen_of h1 2
  have y3 := frozen_of h1 3
  have y4 := frozen_of h1 4
  have y5 := frozen_of h1 5
  have HX2 : Hid (w.heap.size + 1 < X.heap.size) := lt_of_block (unhide HX1)
  have H3 : Hid (OpsAt w3 a' n (ck x) ∧ SlOk a' n c' ∧ (∀ ad, a' = some ad → X.heap.size ≤ ad.block) ∧ Below X.heap.size X w3) := ⟨ho3, hs3, hb3', hb3⟩
  clear ho3 hs3 hb3' hb3 h0 h1
  go_wp2
  (try simp only [Exit.inBlock, Exit.then])
  obtain ⟨ho3, hs3, hb3', hb3⟩ := unhide H3
  have hlt := unhide HX2
  have hG := (((Gr.refl w3 (fun q => q = w.heap.size ∨ q = w.heap.size + 1)).one w.heap.size 2 (.inl (.inl rfl)) (.int .i64 (cv x))).one w.heap.size 3 (.inl (.inl rfl)) (.slice a' n c')).six (w.heap.size + 1) (.inl (.inr rfl)) (.int .i64 x.1) (.int .i64 x.2.1) (.int .i64 (cv x)) (.slice a' n c') (.int .i64 (ch x)) (.bool (cr x))
  refine bodyPost_ret (v := .agg #[.int .i64 x.1, .int .i64 x.2.1, .int .i64 (cv x), .slice a' n c', .int .i64 (ch x), .bool (cr x)]) ?_ rfl ⟨a', c', rfl, ho3.gr hG (fun ad e q => ?_), hs3, fun ad e => ?_, ?_⟩
  · rw [results_cell0 rfl]
    go_simp
  · have := hb3' ad e; rcases q with q | q <;> omega
  · have := hb3' ad e; omega
  · exact hG.below (bel_on (unhide HBX) hb3) (Nat.le_of_lt (Nat.lt_of_lt_of_le (by omega) hb3.size)) (fun k hk => by rcases hk with q | q <;> omega)

end Go.Proofs.YtakcleadfcelmaaGreat
