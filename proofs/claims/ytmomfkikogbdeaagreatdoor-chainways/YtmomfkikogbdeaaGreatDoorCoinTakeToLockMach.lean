/- The contract of take: the coin of a point, which isn't there any more. -/
import Derived.Test.YtmomfkikogbdeaaGreatDoorCoinInsertCToCoinPlace
import Derived.Test.YtmomfkikogbdeaaGreatDoorTxMemToTxSum
import Derived.Test.YtmomfkikogbdeaaGreatDoorLockMathToLockRow
namespace Go.Proofs.YtmomfkikogbdeaaGreatDoor
open Go.RowKit

theorem results_cell_tmp1 {fn : Func} {p u : Tmp} {ty : TypeId} (h : fn.results = #[.cell p ty, .tmp u]) (tmps : Array Value) (P : Program) (w : World) :
    (results fn tmps).run P w =
      ((asAddr (tmps.getD p undef)).run P w).andThen fun a w₁ => ((loadVar ty a).run P w₁).andThen fun x w₂ => .ok (.tuple #[x, tmps.getD u undef]) w₂ := by
  simp only [results, h]
  simp [Sem.run_bind, Result.andThen]

set_option maxRecDepth 10000 in
set_option maxHeartbeats 3200000 in
theorem ptake_none (w0 w : World) (p : Nat) (v : Value) (K : List CV) (q : PtD) (h : Pu w0 w p v K) (hs : Srt (K.map (·.1))) (hn : K.length ≤ 4096) (hf : hasP q (K.map (·.1)) = false) :
    Calls Tryz.prog 205 #[.pointer (some ⟨p, 0, none⟩), .agg #[.int .i64 q.1, .int .i64 q.2]] w fun e w' => e = .returned (.tuple #[zeroC, .bool false]) ∧ Below w.heap.size w w' := by
  obtain ⟨a, c, rfl, hC, hS⟩ := h.coins
  obtain ⟨n, hn'⟩ : ∃ n, K.length = n := ⟨_, rfl⟩
  obtain ⟨k, hk⟩ : ∃ k, pos q (K.map (·.1)) = k := ⟨_, rfl⟩
  have hbox := h.box
  rw [hn'] at hC hbox hn
  obtain ⟨X, hX⟩ : ∃ X, X = (w.alloc (.cells #[.int .i64 q.1, .int .i64 q.2] 117)).alloc (.cells #[.int .i64 0, .int .i64 0, .int .i64 0, .slice none 0 0, .int .i64 0, .bool false] 124) := ⟨_, rfl⟩
  have hbX : Below w.heap.size w X := by rw [hX]; exact bel_on (bel_new _ _) (bel_new _ _)
  have hX1 : X.heap[w.heap.size + 1]? = some (.cells zeroCs.toArray 124 (0, 0)) := by
    rw [hX]
    have := heap_alloc_new (w.alloc (.cells #[.int .i64 q.1, .int .i64 q.2] 117)) (.cells zeroCs.toArray 124)
    rw [show (w.alloc (.cells #[.int .i64 q.1, .int .i64 q.2] 117)).heap.size = w.heap.size + 1 by simp] at this
    exact this
  have x0 : X.cell? ⟨w.heap.size, 0, none⟩ = some (.int .i64 q.1) := by rw [hX]; exact cell_later (bel_new _ _) (two_cells w _ _ _).1
  have x1 : X.cell? ⟨w.heap.size, 1, none⟩ = some (.int .i64 q.2) := by rw [hX]; exact cell_later (bel_new _ _) (two_cells w _ _ _).2
  have xp : X.cell? ⟨p, 0, none⟩ = some (.slice a n c) := cell_later hbX (cell_of (X := [.slice a n c]) hbox 0 _ rfl)
  have PL := hide (fun w' (hb : Below X.heap.size X w') => place_any a n c (K.map (·.1)) q k false w' hs (by omega) ((hC.later hbX).later hb) hk hf)
  have HBX := hide hbX
  have HX1 := hide hX1
  clear hk hf hC hS hs hbox hbX hX1 h hn'
  go_enter Tryz.func205, Tryz.ntmps205
  go_wp2_with fail
  rw [← hX]
  clear hX
  go_region_held3 (fun w' => Below X.heap.size X w' ∧ w'.cell? ⟨w.heap.size, 0, none⟩ = some (.int .i64 q.1) ∧ w'.cell? ⟨w.heap.size, 1, none⟩ = some (.int .i64 q.2) ∧ w'.cell? ⟨p, 0, none⟩ = some (.slice a n c))
    (first
    | exact ⟨bel_draw1 _, x0, x1, xp⟩
    | (go_split_ands
       refine ⟨bel_on (by assumption) hbc, cell_later hbc (by assumption), cell_later hbc (by assumption), cell_later hbc (by assumption)⟩))
    (first | (go_at_call 250; go_split_ands; refine ((unhide PL) _ (by assumption)).mono ?_; rintro e w' ⟨rfl, hbc⟩))
  rename_i hH
  have hh := (hH.1.block _ (lt_of_block (unhide HX1))).trans (unhide HX1)
  have HB := hide (bel_on (unhide HBX) hH.1)
  have f0 := frozen_of hh 0
  have f1 := frozen_of hh 1
  have f2 := frozen_of hh 2
  have f3 := frozen_of hh 3
  have f4 := frozen_of hh 4
  have f5 := frozen_of hh 5
  have c0 := cell_of hh 0 _ rfl
  have c1 := cell_of hh 1 _ rfl
  have c2 := cell_of hh 2 _ rfl
  have c3 := cell_of hh 3 _ rfl
  have c4 := cell_of hh 4 _ rfl
  have c5 := cell_of hh 5 _ rfl
  clear hh hH
  go_wp2
  (try simp only [Exit.inBlock, Exit.then])
  refine bodyPost_ret (v := .tuple #[zeroC, .bool false]) ?_ rfl ⟨rfl, ?_⟩
  · rw [results_cell_tmp1 rfl]
    unfold zeroC
    go_simp
  · exact ((((((unhide HB).setCell (Nat.le_succ _) _).setCell (Nat.le_succ _) _).setCell (Nat.le_succ _) _).setCell (Nat.le_succ _) _).setCell (Nat.le_succ _) _).setCell (Nat.le_succ _) _

theorem box_set {w : World} {p : Nat} {v u : Value} {t : TypeId} (h : w.heap[p]? = some (.cells #[v] t (0, 0))) : (w.setCell ⟨p, 0, none⟩ u).heap[p]? = some (.cells #[u] t (0, 0)) := by
  rw [setCell_eq_setRow w p 0 #[v] t (0, 0) u h]
  exact setRow_heap w p _ _ t _ h
theorem list_at (K : List CV) (k : Nat) (h : k < K.length) : (K.map (·.1))[k]'(by simpa using h) = K[k].1 := by simp
theorem six_heap (w : World) (a b c d e f : Value) (t : TypeId) : (w.alloc (.cells #[a, b, c, d, e, f] t)).heap[w.heap.size]? = some (.cells [a, b, c, d, e, f].toArray t (0, 0)) := heap_alloc_new w _

set_option maxRecDepth 10000 in
set_option maxHeartbeats 6400000 in
theorem ptake_some (w0 w : World) (p : Nat) (v : Value) (K : List CV) (q : PtD) (h : Pu w0 w p v K) (hs : Srt (K.map (·.1))) (hn : K.length ≤ 4096) (hf : hasP q (K.map (·.1)) = true) :
    Calls Tryz.prog 205 #[.pointer (some ⟨p, 0, none⟩), .agg #[.int .i64 q.1, .int .i64 q.2]] w fun e w' => ∃ (x : CV) (v' : Value) (K' : List CV), e = .returned (.tuple #[cnV x.1 x.2.1 x.2.2.1 x.2.2.2, .bool true]) ∧ takeD q (K.map (·.1)) = some (x.1, K'.map (·.1)) ∧ x ∈ K ∧ (∀ y ∈ K', y ∈ K) ∧ K'.length + 1 = K.length ∧
      Pu w0 w' p v' K' ∧ Gr w w' (PuS p v) ∧ v'.ownBlock = v.ownBlock := by
  have hO := h.own
  obtain ⟨k, hk⟩ : ∃ k, pos q (K.map (·.1)) = k := ⟨_, rfl⟩
  have hp := hasP_pos (p := q) hs
  rw [hf, hk] at hp
  have hp2 := Eq.symm hp
  rw [Bool.and_eq_true, decide_eq_true_eq, decide_eq_true_eq, List.length_map] at hp2
  obtain ⟨hkl, hke⟩ := hp2
  have hke2 : pt ((K.map (·.1))[k]'(by simpa using hkl)) = q := by
    rw [List.getElem?_eq_getElem (by simpa using hkl), Option.map_some, Option.some.injEq] at hke; exact hke
  have hT := takeD_at (p := q) hs (by rw [hk]; simpa using hkl) (by simp only [hk]; exact hke2)
  simp only [hk] at hT
  rw [list_at K k hkl, ← List.map_take, ← List.map_drop, ← List.map_append] at hT
  obtain ⟨a, c, rfl, hC, hS⟩ := h.coins
  obtain ⟨g, rfl⟩ : ∃ g, a = some ⟨g, 0, none⟩ := by
    rcases hO.2 with ⟨_, e⟩ | ⟨g, _, _, e, _⟩
    · omega
    · simp only [Value.slice.injEq] at e; exact ⟨g, e.1⟩
  obtain ⟨n, hn'⟩ : ∃ n, K.length = n := ⟨_, rfl⟩
  have hbox := h.box
  have hgp : g ≠ p := fun e => h.ne (by rw [e]; rfl)
  have hbg : w0.heap.size ≤ g := own_lo hO g rfl
  obtain ⟨x, hx⟩ : ∃ x, K[k] = x := ⟨_, rfl⟩
  have hxm : x ∈ K := by rw [← hx]; exact List.getElem_mem hkl
  obtain ⟨f0, f1, f2, f3, f4, f5⟩ := flatC_at K k hkl
  rw [hx] at f0 f1 f2 f3 f4 f5 hT
  rw [hn'] at hC hbox hn hkl hO
  have cg : ∀ j u, j < n * 6 → (flatC K)[j]? = some u → w.cell? ⟨g, j, none⟩ = some u := fun j u hj hu => by rw [World.ownsRow.cellAt hO j hj]; exact hu
  obtain ⟨X, hX⟩ : ∃ X, X = (w.alloc (.cells #[.int .i64 q.1, .int .i64 q.2] 117)).alloc (.cells #[.int .i64 0, .int .i64 0, .int .i64 0, .slice none 0 0, .int .i64 0, .bool false] 124) := ⟨_, rfl⟩
  have hbX : Below w.heap.size w X := by rw [hX]; exact bel_on (bel_new _ _) (bel_new _ _)
  have hX1 : X.heap[w.heap.size + 1]? = some (.cells zeroCs.toArray 124 (0, 0)) := by
    rw [hX]
    have := heap_alloc_new (w.alloc (.cells #[.int .i64 q.1, .int .i64 q.2] 117)) (.cells zeroCs.toArray 124)
    rw [show (w.alloc (.cells #[.int .i64 q.1, .int .i64 q.2] 117)).heap.size = w.heap.size + 1 by simp] at this
    exact this
  have x0 : X.cell? ⟨w.heap.size, 0, none⟩ = some (.int .i64 q.1) := by rw [hX]; exact cell_later (bel_new _ _) (two_cells w _ _ _).1
  have x1 : X.cell? ⟨w.heap.size, 1, none⟩ = some (.int .i64 q.2) := by rw [hX]; exact cell_later (bel_new _ _) (two_cells w _ _ _).2
  have xp : X.cell? ⟨p, 0, none⟩ = some (.slice (some ⟨g, 0, none⟩) n c) := cell_later hbX (cell_of (X := [.slice (some ⟨g, 0, none⟩) n c]) hbox 0 _ rfl)
  have PL := hide (fun w' (hb : Below X.heap.size X w') => place_any (some ⟨g, 0, none⟩) n c (K.map (·.1)) q k true w' hs (by omega) ((hC.later hbX).later hb) hk hf)
  have D0 := hide (cg _ _ (by omega) f0)
  have D1 := hide (cg _ _ (by omega) f1)
  have D2 := hide (cg _ _ (by omega) f2)
  have D3 := hide (cg _ _ (by omega) f3)
  have D4 := hide (cg _ _ (by omega) f4)
  have D5 := hide (cg _ _ (by omega) f5)
  have HBX := hide hbX
  have HX1 := hide hX1
  have HO := hide hO
  have HT := hide hT
  have HP := hide h
  have HBOX := hide hbox
  have HXM := hide hxm
  have HN' := hide hn'
  have hpw : p < w.heap.size := h.lt
  have hgw : g < w.heap.size := (hO.lt g rfl).2
  clear hk hf hC hS hs hbox hbX hX1 h hO hT hke hke2 hp f0 f1 f2 f3 f4 f5 cg hx hxm hn'
  go_enter Tryz.func205, Tryz.ntmps205
  go_wp2_with fail
  rw [← hX]
  clear hX
  go_region_held3 (fun w' => Below X.heap.size X w' ∧ w'.cell? ⟨w.heap.size, 0, none⟩ = some (.int .i64 q.1) ∧ w'.cell? ⟨w.heap.size, 1, none⟩ = some (.int .i64 q.2) ∧ w'.cell? ⟨p, 0, none⟩ = some (.slice (some ⟨g, 0, none⟩) n c))
    (first
    | exact ⟨bel_draw1 _, x0, x1, xp⟩
    | (go_split_ands
       refine ⟨bel_on (by assumption) hbc, cell_later hbc (by assumption), cell_later hbc (by assumption), cell_later hbc (by assumption)⟩))
    (first | (go_at_call 250; go_split_ands; refine ((unhide PL) _ (by assumption)).mono ?_; rintro e w' ⟨rfl, hbc⟩))
  rename_i hH
  have hb2 := bel_on (unhide HBX) hH.1
  have hh2 := (hH.1.block _ (lt_of_block (unhide HX1))).trans (unhide HX1)
  have d0 := cell_later hb2 (unhide D0)
  have d1 := cell_later hb2 (unhide D1)
  have d2 := cell_later hb2 (unhide D2)
  have d3 := cell_later hb2 (unhide D3)
  have d4 := cell_later hb2 (unhide D4)
  have d5 := cell_later hb2 (unhide D5)
  have xp2 := hH.2.2.2
  have hpl := World.block_lt_of_cell? _ _ xp2
  have hkI : (k : Int) < (n : Int) := by omega
  have hw1 : IntKind.i64.wrap ((k : Int) + 1) = (k : Int) + 1 := by rw [IntKind.wrap_i64]; omega
  obtain ⟨Y, hY⟩ : ∃ Y, Y = w'.alloc (.cells #[.int .i64 x.1.1, .int .i64 x.1.2.1, .int .i64 (cv x.1), .slice x.2.1 x.2.2.1 x.2.2.2, .int .i64 (ch x.1), .bool (cr x.1)] 124) := ⟨_, rfl⟩
  have hbY : Below w'.heap.size w' Y := by rw [hY]; exact bel_new _ _
  have hy : Y.heap[w'.heap.size]? = some (.cells [.int .i64 x.1.1, .int .i64 x.1.2.1, .int .i64 (cv x.1), .slice x.2.1 x.2.2.1 x.2.2.2, .int .i64 (ch x.1), .bool (cr x.1)].toArray 124 (0, 0)) := by rw [hY]; exact six_heap _ _ _ _ _ _ _ _
  have hOY : Y.ownsRow w0.heap.size 124 6 (.slice (some ⟨g, 0, none⟩) n c) n (flatC K) := (Gr.of (S := fun _ => False) (bel_on hb2 hbY)).own (unhide HO) (fun _ _ q => q)
  have DEL := deleteCoin_is w0.heap.size g n c k (k + 1) K Y hkl rfl (unhide HN') hOY
  rw [show ((k + 1 : Nat) : Int) = (k : Int) + 1 by omega] at DEL
  have HDEL := hide DEL
  have yp := cell_later hbY xp2
  have hpl2 := World.block_lt_of_cell? _ _ yp
  have HBY := hide (bel_on hb2 hbY)
  have HHY := hide ((hbY.block _ (lt_of_block hh2)).trans hh2)
  have HY6 := hide hy
  have hsw : w.heap.size + 1 < w'.heap.size := lt_of_block hh2
  clear hH hbc hb2 hh2 xp x0 x1 hbY hy hOY DEL
  go_wp2_with fail
  rw [← hY]
  clear hY
  go_wp2_with fail
  refine (unhide HDEL).mono ?_
  rintro e w4 ⟨rfl, hown4, hgr4⟩
  have hp4 := (hgr4.block p (by omega) (by simp; exact fun e => hgp e.symm)).trans (((unhide HBY).block p hpw).trans (unhide HBOX))
  have hz4 := (hgr4.block (w.heap.size + 1) (lt_of_block (unhide HHY)) (by simp; omega)).trans (unhide HHY)
  have hy4 := (hgr4.block w'.heap.size (lt_of_block (unhide HY6)) (by simp; omega)).trans (unhide HY6)
  have p4 := cell_of (X := [.slice (some ⟨g, 0, none⟩) n c]) hp4 0 _ rfl
  have p4f := frozen_of hp4 0
  have e0 := cell_of hy4 0 _ rfl
  have e1 := cell_of hy4 1 _ rfl
  have e2 := cell_of hy4 2 _ rfl
  have e3 := cell_of hy4 3 _ rfl
  have e4 := cell_of hy4 4 _ rfl
  have e5 := cell_of hy4 5 _ rfl
  have z0 := cell_of hz4 0 _ rfl
  have z1 := cell_of hz4 1 _ rfl
  have z2 := cell_of hz4 2 _ rfl
  have z3 := cell_of hz4 3 _ rfl
  have z4 := cell_of hz4 4 _ rfl
  have z5 := cell_of hz4 5 _ rfl
  have y0 := frozen_of hz4 0
  have y1 := frozen_of hz4 1
  have y2 := frozen_of hz4 2
  have y3 := frozen_of hz4 3
  have y4 := frozen_of hz4 4
  have y5 := frozen_of hz4 5
  have n1 : ¬ (w'.heap.size = p) := by omega
  have n2 : ¬ (p = w'.heap.size) := by omega
  have n3 : ¬ (w.heap.size + 1 = p) := by omega
  have n4 : ¬ (p = w.heap.size + 1) := by omega
  have n5 : ¬ (w'.heap.size = w.heap.size + 1) := by omega
  have n6 : ¬ (w.heap.size + 1 = w'.heap.size) := by omega
  have GA : Hid (Gr w w4 (PuS p (.slice (some ⟨g, 0, none⟩) n c))) := (Gr.of (unhide HBY)).grown hgr4 (fun k hk => .inl (.inr hk))
  have GS : Hid (∀ k, PuS p (.slice (some ⟨g, 0, none⟩) n c) k → w0.heap.size ≤ k) := fun k hk => by
    rcases hk with rfl | hk
    · exact (unhide HP).ge
    · cases hk; exact hbg
  have GO : Hid (∀ k, (Value.slice (some ⟨g, 0, none⟩) (n - 1) c).ownBlock = some k → ¬ (k = p ∨ k = w.heap.size + 1)) := fun k hk => by
    cases hk
    rintro (e | e)
    · exact hgp e
    · have e2 : g = w.heap.size + 1 := e
      omega
  have HO4 := hide hown4
  have HP4 := hide hp4
  have hlt4 := lt_of_block hy4
  have hlt4p : p < w4.heap.size := lt_of_block hp4
  clear hgr4 hown4 hp4 hz4 hy4 d0 d1 d2 d3 d4 d5 yp xp2
  go_wp2
  (try simp only [Exit.inBlock, Exit.then])
  refine bodyPost_ret (v := .tuple #[cnV x.1 x.2.1 x.2.2.1 x.2.2.2, .bool true]) ?_ rfl ⟨x, .slice (some ⟨g, 0, none⟩) (n - 1) c, K.take k ++ K.drop (k + 1), rfl, unhide HT, unhide HXM, ?_, ?_, ?_, ?_, rfl⟩
  · rw [results_cell_tmp1 rfl]
    unfold cnV
    go_simp
  · exact fun y hy => (List.mem_append.1 hy).elim List.mem_of_mem_take List.mem_of_mem_drop
  · have := unhide HN'
    simp only [List.length_append, List.length_take, List.length_drop]
    omega
  · have hl : (K.take k ++ K.drop (k + 1)).length = n - 1 := by
      have := unhide HN'
      simp only [List.length_append, List.length_take, List.length_drop]
      omega
    have hp := unhide HP
    refine ⟨?_, hp.ge, ?_, ?_, fun e => hgp (by cases e; rfl), fun y hy => hp.lk y ((List.mem_append.1 hy).elim List.mem_of_mem_take List.mem_of_mem_drop)⟩
    · exact (((unhide GA).one p 0 (.inl (.inl rfl)) _).six (w.heap.size + 1) (.inr (Nat.le_succ _)) _ _ _ _ _ _).below hp.bel hp.bel.size (unhide GS)
    · exact ((Gr.refl _ (fun k => k = w.heap.size + 1)).six (w.heap.size + 1) (.inl rfl) _ _ _ _ _ _).heap (box_set (unhide HP4)) n4
    · rw [hl]
      exact (((Gr.refl w4 (fun k => k = p ∨ k = w.heap.size + 1)).one p 0 (.inl (.inl rfl)) _).six (w.heap.size + 1) (.inl (.inr rfl)) _ _ _ _ _ _).own (unhide HO4) (unhide GO)
  · exact ((unhide GA).one p 0 (.inl (.inl rfl)) _).six (w.heap.size + 1) (.inr (Nat.le_succ _)) _ _ _ _ _ _

end Go.Proofs.YtmomfkikogbdeaaGreatDoor

/- The contract of put: a coin is put at its place, if there is none of its point. -/
namespace Go.Proofs.YtmomfkikogbdeaaGreatDoor
open Go.RowKit

theorem own_slice {w : World} {base : Nat} {e : TypeId} {size : Nat} {v : Value} {n : Nat} {xs : List Value} (h : w.ownsRow base e size v n xs) : ∃ a c, v = .slice a n c := by
  rcases h.2 with ⟨rfl, rfl⟩ | ⟨g, cap, cur, rfl, _⟩
  · exact ⟨none, 0, rfl⟩
  · exact ⟨_, _, rfl⟩
def sixV (y : CV) : List Value := [.int .i64 y.1.1, .int .i64 y.1.2.1, .int .i64 (cv y.1), .slice y.2.1 y.2.2.1 y.2.2.2, .int .i64 (ch y.1), .bool (cr y.1)]
theorem flat_six (y : CV) : flatC [y] = sixV y := rfl

set_option maxRecDepth 10000 in
set_option maxHeartbeats 3200000 in
theorem pput_no (w0 w : World) (p : Nat) (v : Value) (K : List CV) (y : CV) (h : Pu w0 w p v K) (hs : Srt (K.map (·.1))) (hn : K.length ≤ 4096) (hf : hasP (pt y.1) (K.map (·.1)) = true) :
    Calls Tryz.prog 207 #[.pointer (some ⟨p, 0, none⟩), cnV y.1 y.2.1 y.2.2.1 y.2.2.2] w fun e w' => e = .returned (.bool false) ∧ Below w.heap.size w w' := by
  obtain ⟨a, c, rfl, hC, hS⟩ := h.coins
  obtain ⟨n, hn'⟩ : ∃ n, K.length = n := ⟨_, rfl⟩
  obtain ⟨k, hk⟩ : ∃ k, pos (pt y.1) (K.map (·.1)) = k := ⟨_, rfl⟩
  have hbox := h.box
  rw [hn'] at hC hbox hn
  unfold cnV
  obtain ⟨X, hX⟩ : ∃ X, X = w.alloc (.cells #[.int .i64 y.1.1, .int .i64 y.1.2.1, .int .i64 (cv y.1), .slice y.2.1 y.2.2.1 y.2.2.2, .int .i64 (ch y.1), .bool (cr y.1)] 124) := ⟨_, rfl⟩
  have hbX : Below w.heap.size w X := by rw [hX]; exact bel_new _ _
  have hX1 : X.heap[w.heap.size]? = some (.cells (sixV y).toArray 124 (0, 0)) := by rw [hX]; exact six_heap _ _ _ _ _ _ _ _
  have x0 := cell_of hX1 0 _ rfl
  have x1 := cell_of hX1 1 _ rfl
  have xp : X.cell? ⟨p, 0, none⟩ = some (.slice a n c) := cell_later hbX (cell_of (X := [.slice a n c]) hbox 0 _ rfl)
  have PL := hide (fun w' (hb : Below X.heap.size X w') => place_any a n c (K.map (·.1)) (pt y.1) k true w' hs (by omega) ((hC.later hbX).later hb) hk hf)
  unfold pt at PL
  have HBX := hide hbX
  clear hk hf hC hS hs hbox hbX hX1 h hn'
  go_enter Tryz.func207, Tryz.ntmps207
  go_wp2_with fail
  rw [← hX]
  clear hX
  go_region_held3 (fun w' => Below X.heap.size X w' ∧ w'.cell? ⟨w.heap.size, 0, none⟩ = some (.int .i64 y.1.1) ∧ w'.cell? ⟨w.heap.size, 1, none⟩ = some (.int .i64 y.1.2.1) ∧ w'.cell? ⟨p, 0, none⟩ = some (.slice a n c))
    (first
    | exact ⟨bel_draw1 _, x0, x1, xp⟩
    | (go_split_ands
       refine ⟨bel_on (by assumption) hbc, cell_later hbc (by assumption), cell_later hbc (by assumption), cell_later hbc (by assumption)⟩))
    (first | (go_at_call 250; go_split_ands; refine ((unhide PL) _ (by assumption)).mono ?_; rintro e w' ⟨rfl, hbc⟩))
  rename_i hH
  have HB := hide (bel_on (unhide HBX) hH.1)
  clear hH
  go_wp2
  go_ret
  exact ⟨rfl, unhide HB⟩

set_option maxRecDepth 10000 in
set_option maxHeartbeats 6400000 in
theorem pput_yes (w0 w : World) (p : Nat) (v : Value) (K : List CV) (y : CV) (h : Pu w0 w p v K) (hs : Srt (K.map (·.1))) (hn : K.length ≤ 4096) (hf : hasP (pt y.1) (K.map (·.1)) = false) (hy : LkAt w0 y) :
    Calls Tryz.prog 207 #[.pointer (some ⟨p, 0, none⟩), cnV y.1 y.2.1 y.2.2.1 y.2.2.2] w fun e w' => ∃ (v' : Value) (K' : List CV), e = .returned (.bool true) ∧ K'.map (·.1) = putC y.1 (K.map (·.1)) ∧ (∀ z ∈ K', z = y ∨ z ∈ K) ∧ K'.length = K.length + 1 ∧
      Pu w0 w' p v' K' ∧ Gr w w' (PuS p v) ∧ (v'.ownBlock = v.ownBlock ∨ ∀ k, v'.ownBlock = some k → w.heap.size ≤ k) := by
  obtain ⟨a, c, rfl, hC, hS⟩ := h.coins
  obtain ⟨n, hn'⟩ : ∃ n, K.length = n := ⟨_, rfl⟩
  obtain ⟨k, hk⟩ : ∃ k, pos (pt y.1) (K.map (·.1)) = k := ⟨_, rfl⟩
  have hbox := h.box
  have hO := h.own
  have hne := h.ne
  have hkn : k ≤ n := by rw [← hk, ← hn']; have := pos_le (pt y.1) (K.map (·.1)); simpa using this
  have hPD := putC_at hs hf
  rw [hk, ← List.map_take, ← List.map_drop, show y.1 :: (K.drop k).map (·.1) = (y :: K.drop k).map (·.1) from rfl, ← List.map_append] at hPD
  rw [hn'] at hC hbox hn hO hne
  unfold cnV
  obtain ⟨X, hX⟩ : ∃ X, X = w.alloc (.cells #[.int .i64 y.1.1, .int .i64 y.1.2.1, .int .i64 (cv y.1), .slice y.2.1 y.2.2.1 y.2.2.2, .int .i64 (ch y.1), .bool (cr y.1)] 124) := ⟨_, rfl⟩
  have hbX : Below w.heap.size w X := by rw [hX]; exact bel_new _ _
  have hX1 : X.heap[w.heap.size]? = some (.cells (sixV y).toArray 124 (0, 0)) := by rw [hX]; exact six_heap _ _ _ _ _ _ _ _
  have x0 := cell_of hX1 0 _ rfl
  have x1 := cell_of hX1 1 _ rfl
  have xp : X.cell? ⟨p, 0, none⟩ = some (.slice a n c) := cell_later hbX (cell_of (X := [.slice a n c]) hbox 0 _ rfl)
  have PL := hide (fun w' (hb : Below X.heap.size X w') => place_any a n c (K.map (·.1)) (pt y.1) k false w' hs (by omega) ((hC.later hbX).later hb) hk hf)
  unfold pt at PL
  have HBX := hide hbX
  have HX1 := hide hX1
  have HO := hide hO
  have HNE := hide hne
  have HPD := hide hPD
  have HP := hide h
  have HY := hide hy
  have HBOX := hide hbox
  have HN' := hide hn'
  have hpw : p < w.heap.size := h.lt
  clear hk hf hC hS hs hbox hbX hX1 h hn' hO hne hPD hy
  go_enter Tryz.func207, Tryz.ntmps207
  go_wp2_with fail
  rw [← hX]
  clear hX
  go_region_held3 (fun w' => Below X.heap.size X w' ∧ w'.cell? ⟨w.heap.size, 0, none⟩ = some (.int .i64 y.1.1) ∧ w'.cell? ⟨w.heap.size, 1, none⟩ = some (.int .i64 y.1.2.1) ∧ w'.cell? ⟨p, 0, none⟩ = some (.slice a n c))
    (first
    | exact ⟨bel_draw1 _, x0, x1, xp⟩
    | (go_split_ands
       refine ⟨bel_on (by assumption) hbc, cell_later hbc (by assumption), cell_later hbc (by assumption), cell_later hbc (by assumption)⟩))
    (first | (go_at_call 250; go_split_ands; refine ((unhide PL) _ (by assumption)).mono ?_; rintro e w' ⟨rfl, hbc⟩))
  rename_i hH
  have hb2 := bel_on (unhide HBX) hH.1
  have hh2 := (hH.1.block _ (lt_of_block (unhide HX1))).trans (unhide HX1)
  have c0 := cell_of hh2 0 _ rfl
  have c1 := cell_of hh2 1 _ rfl
  have c2 := cell_of hh2 2 _ rfl
  have c3 := cell_of hh2 3 _ rfl
  have c4 := cell_of hh2 4 _ rfl
  have c5 := cell_of hh2 5 _ rfl
  have xp2 := hH.2.2.2
  have hpl := World.block_lt_of_cell? _ _ xp2
  have hhp := (hb2.block p hpw).trans (unhide HBOX)
  have HB2 := hide hb2
  have INS : Hid (∀ W, W.heap = (w'.alloc (.cells #[.int .i64 y.1.1, .int .i64 y.1.2.1, .int .i64 (cv y.1), .slice y.2.1 y.2.2.1 y.2.2.2, .int .i64 (ch y.1), .bool (cr y.1)] 124)).heap → W.os = w'.os → W.tape = w'.tape → W.output = w'.output →
      Calls Tryz.prog 254 #[.slice a n c, .int .i64 k, .slice (some ⟨w'.heap.size, 0, none⟩) 1 1] W fun e w4 => ∃ a' c', e = .returned (.slice a' (n + 1) c') ∧ w4.cell? ⟨p, 0, none⟩ = some (.slice a n c) ∧ w4.frozen? ⟨p, 0, none⟩ = false ∧ p < w4.heap.size ∧ Hid (w4.ownsRow w0.heap.size 124 6 (.slice a' (n + 1) c') (n + 1) (flatC (K.take k ++ y :: K.drop k)) ∧ Gr w w4 (PuS p (.slice a n c)) ∧ ((Value.slice a' (n + 1) c').ownBlock = (Value.slice a n c).ownBlock ∨ ∀ k, (Value.slice a' (n + 1) c').ownBlock = some k → w.heap.size ≤ k) ∧ w4.heap[p]? = some (.cells #[.slice a n c] 235 (0, 0)))) := by
    intro W hW1 hW2 hW3 hW4
    have hbw : Below w'.heap.size w' W := ⟨hW2, hW3, hW4, by rw [hW1]; simp, fun i hi => by rw [hW1]; exact Below.heap_alloc w' _ i hi⟩
    have hbw2 := bel_on hb2 hbw
    have hOW : W.ownsRow w0.heap.size 124 6 (.slice a n c) n (flatC K) := (Gr.of (S := fun _ => False) hbw2).own (unhide HO) (fun _ _ q => q)
    have hvb : W.heap[w'.heap.size]? = some (.cells (flatC [y]).toArray 124 (0, 0)) := by rw [hW1]; exact six_heap _ _ _ _ _ _ _ _
    have hsz : w.heap.size < W.heap.size := Nat.lt_of_lt_of_le (lt_of_block hh2) hbw.size
    refine (insertCoin_any w0.heap.size a n c k w'.heap.size K y W hkn hn (unhide HN') (Nat.le_trans (unhide HP).bel.size (Nat.le_of_lt hsz)) hOW hvb ?_).mono ?_
    · intro e
      have := (unhide HO).lt _ e
      have h3 := hb2.size
      omega
    · rintro e w4 ⟨v', rfl, ho4, hg4, hn4⟩
      obtain ⟨a', c', rfl⟩ := own_slice ho4
      have hp4 : w4.heap[p]? = some (.cells #[.slice a n c] 235 (0, 0)) := by
        rw [hg4.block p (Nat.lt_trans hpw hsz) (fun e => (unhide HNE) e.symm), hbw2.block p hpw]
        exact unhide HBOX
      refine ⟨a', c', rfl, cell_of (X := [.slice a n c]) hp4 0 _ rfl, frozen_of hp4 0, lt_of_block hp4, ho4, (Gr.of hbw2).grown hg4 (fun k hk => .inl (.inr hk)), ?_, hp4⟩
      · rcases hn4 with q | q
        · exact .inl q
        · exact .inr fun k hk => Nat.le_trans (Nat.le_of_lt hsz) (q k hk)
  clear hH hbc hb2 hh2 xp x0 x1 hhp
  go_wp2_with fail
  go_region_with (go_at_call 254; refine ((unhide INS) _ ?_ ?_ ?_ ?_).mono ?_; rfl; rfl; rfl; rfl; rintro e w4 ⟨a', c', rfl, p4, p4f, p4l, H4⟩)
  all_goals
    go_wp2
    go_ret
    obtain ⟨ho4, hg4, hn4, hp4⟩ := unhide H4
    have hp := unhide HP
    have hl : (K.take k ++ y :: K.drop k).length = n + 1 := by
      have := unhide HN'
      simp only [List.length_append, List.length_take, List.length_cons, List.length_drop]
      omega
    have hnp : (Value.slice a' (n + 1) c').ownBlock ≠ some p := fun e => by
      rcases hn4 with q | q
      · rw [q] at e; exact (unhide HNE) e
      · have := q p e; omega
    have hsub : ∀ z ∈ K.take k ++ y :: K.drop k, z = y ∨ z ∈ K := fun z hz => by
      rcases List.mem_append.1 hz with q | q
      · exact .inr (List.mem_of_mem_take q)
      · rcases List.mem_cons.1 q with q | q
        · exact .inl q
        · exact .inr (List.mem_of_mem_drop q)
    have hgr := hg4.one p 0 (.inl (.inl rfl)) (.slice a' (n + 1) c')
    refine ⟨.slice a' (n + 1) c', K.take k ++ y :: K.drop k, rfl, (unhide HPD).symm, hsub, by rw [hl, unhide HN'], ⟨?_, hp.ge, box_set hp4, ?_, hnp, ?_⟩, ?_, ?_⟩
    · refine hgr.below hp.bel hp.bel.size (fun k hk => ?_)
      rcases hk with rfl | hk
      · exact hp.ge
      · exact own_lo (unhide HO) k hk
    · rw [hl]
      exact ((Gr.refl w4 (fun k => k = p)).one p 0 (.inl rfl) _).own ho4 (fun k hk e => hnp (by rw [hk, e]))
    · intro z hz
      rcases hsub z hz with rfl | q
      · exact unhide HY
      · exact hp.lk z q
    · rw [unhide HN']; exact hgr
    · rw [unhide HN']; exact hn4

end Go.Proofs.YtmomfkikogbdeaaGreatDoor

/- What doing and undoing a transaction makes of coins, in plain functions. Nothing of the program. -/
namespace Go.Proofs.YtmomfkikogbdeaaGreatDoor

/-- In by in: what is wrong, what was spent, what is left. -/
def spendGo (h : Int) : List InD → List CoinD → List CoinD → Int × List CoinD × List CoinD
  | [], S, L => (0, S, L)
  | x :: r, S, L => match takeD (x.1, x.2.1) L with
    | none => (7, [], [])
    | some (c, M) => if cr c = true ∧ h < ch c + 2 then (10, [], []) else if opensB (ck c) x.2.2 h = false then (8, [], []) else spendGo h r (S ++ [c]) M
def newC (name : Int) (i : Nat) (o : OutD) (h : Int) (r : Bool) : CoinD := (name, (i : Int), o.1, o.2, h, r)
def giveGo (name h : Int) (r : Bool) : Nat → List OutD → List CoinD → Int × List CoinD
  | _, [], L => (0, L)
  | i, o :: q, L => if hasP (name, (i : Int)) L = true then (6, []) else giveGo name h r (i + 1) q (putC (newC name i o h r) L)
def backGo (name : Int) : Nat → List OutD → List CoinD → Int × List CoinD
  | _, [], L => (0, L)
  | i, o :: q, L => match takeD (name, (i : Int)) L with
    | none => (7, [])
    | some (c, M) => if (cv c, ck c) = o then backGo name (i + 1) q M else (7, [])
def putbGo : List InD → List CoinD → List CoinD → Int × List CoinD
  | x :: r, c :: q, L => if pt c ≠ (x.1, x.2.1) ∨ hasP (pt c) L = true then (6, []) else putbGo r q (putC c L)
  | _, _, L => (0, L)

def okN (n : Int) : Bool := decide (1 ≤ n) && decide (n ≤ 120)
def isR (t : TxD) : Bool := decide (t.2.1.length = 0)
def ckBoth (L : List CoinD) (t : TxD) : Int := if ckCoins L ≠ 0 then ckCoins L else chkTx t
def ckApply (L : List CoinD) (t : TxD) (name h : Int) : Int :=
  if ckBoth L t ≠ 0 then ckBoth L t else if (okN name && okH h) = false then 3 else if isR t = true ∧ t.1 ≠ h then 4 else 0
def covD (S : List CoinD) (t : TxD) : Int := if sumC S - sumO t.2.2 < 0 ∧ isR t = false then 9 else 0
/-- What is wrong, what comes, what was spent. -/
def apD (L : List CoinD) (t : TxD) (name h : Int) : Int × List CoinD × List CoinD :=
  if ckApply L t name h ≠ 0 then (ckApply L t name h, [], [])
  else
    if (spendGo h t.2.1 [] L).1 ≠ 0 then ((spendGo h t.2.1 [] L).1, [], [])
    else if covD (spendGo h t.2.1 [] L).2.1 t ≠ 0 then (covD (spendGo h t.2.1 [] L).2.1 t, [], [])
    else if (giveGo name h (isR t) 0 t.2.2 (spendGo h t.2.1 [] L).2.2).1 ≠ 0 then ((giveGo name h (isR t) 0 t.2.2 (spendGo h t.2.1 [] L).2.2).1, [], [])
    else if ckCoins (giveGo name h (isR t) 0 t.2.2 (spendGo h t.2.1 [] L).2.2).2 ≠ 0 then (ckCoins (giveGo name h (isR t) 0 t.2.2 (spendGo h t.2.1 [] L).2.2).2, [], [])
    else (0, (giveGo name h (isR t) 0 t.2.2 (spendGo h t.2.1 [] L).2.2).2, (spendGo h t.2.1 [] L).2.1)
def rvD (L : List CoinD) (t : TxD) (name : Int) (S : List CoinD) : Int × List CoinD :=
  if ckBoth L t ≠ 0 then (ckBoth L t, [])
  else if S.length ≠ t.2.1.length then (4, [])
  else if (backGo name 0 t.2.2 L).1 ≠ 0 then ((backGo name 0 t.2.2 L).1, [])
  else if (putbGo t.2.1 S (backGo name 0 t.2.2 L).2).1 ≠ 0 then ((putbGo t.2.1 S (backGo name 0 t.2.2 L).2).1, [])
  else if ckCoins (putbGo t.2.1 S (backGo name 0 t.2.2 L).2).2 ≠ 0 then (ckCoins (putbGo t.2.1 S (backGo name 0 t.2.2 L).2).2, [])
  else (0, (putbGo t.2.1 S (backGo name 0 t.2.2 L).2).2)

end Go.Proofs.YtmomfkikogbdeaaGreatDoor

/- The machine of package lock in memory: what its nineteen cells hold, and what a store into one of them turns. -/
namespace Go.Proofs.YtmomfkikogbdeaaGreatDoor
open Go.RowKit

def MS.cells (s : MS) : Array Value := (s.cs.map (Value.int .i64) ++ ([Value.int .i64 s.n, Value.int .i64 s.h, Value.bool s.f] : List Value)).toArray

theorem MS.cells_stack {s : MS} (hs : s.ok) (i : Nat) (hi : i < 16) : s.cells[i]? = some (.int .i64 (s.cs.getD i 0)) := by
  have hl : i < s.cs.length := by rw [hs.1]; exact hi
  simp [MS.cells, List.getElem?_append_left, hl]
theorem MS.cells_n {s : MS} (hs : s.ok) : s.cells[16]? = some (.int .i64 s.n) := by
  have hl := hs.1
  simp [MS.cells, hl]
theorem MS.cells_h {s : MS} (hs : s.ok) : s.cells[17]? = some (.int .i64 s.h) := by
  have hl := hs.1
  simp [MS.cells, hl]
theorem MS.cells_f {s : MS} (hs : s.ok) : s.cells[18]? = some (.bool s.f) := by
  have hl := hs.1
  simp [MS.cells, hl]

theorem MS.set_stack {s : MS} (hs : s.ok) (i : Nat) (hi : i < 16) (x : Int) : s.cells.setIfInBounds i (.int .i64 x) = MS.cells { s with cs := s.cs.set i x } := by
  have hl : i < (s.cs.map (Value.int .i64)).length := by rw [List.length_map, hs.1]; exact hi
  simp only [MS.cells, List.setIfInBounds_toArray, List.set_append_left _ _ hl, List.map_set]
theorem MS.set_n {s : MS} (hs : s.ok) (n : Nat) : s.cells.setIfInBounds 16 (.int .i64 n) = MS.cells { s with n := n } := by
  have hl : (s.cs.map (Value.int .i64)).length = 16 := by rw [List.length_map, hs.1]
  simp only [MS.cells, List.setIfInBounds_toArray]
  rw [List.set_append_right _ _ (by omega), hl]; rfl
theorem MS.set_f {s : MS} (hs : s.ok) (b : Bool) : s.cells.setIfInBounds 18 (.bool b) = MS.cells { s with f := b } := by
  have hl : (s.cs.map (Value.int .i64)).length = 16 := by rw [List.length_map, hs.1]
  simp only [MS.cells, List.setIfInBounds_toArray]
  rw [List.set_append_right _ _ (by omega), hl]; rfl

/-- Block p is the machine s; all other blocks of W are as they are in W. -/
structure Mach (p : Nat) (s : MS) (W w : World) : Prop where
  good : s.ok
  block : w.heap[p]? = some (.cells s.cells 360 (0, 0))
  old : ∀ k, k ≠ p → k < W.heap.size → w.heap[k]? = W.heap[k]?
  size : W.heap.size ≤ w.heap.size
  os : w.os = W.os
  tape : w.tape = W.tape
  output : w.output = W.output

theorem Mach.lt {p : Nat} {s : MS} {W w : World} (h : Mach p s W w) : p < w.heap.size := lt_of_block h.block
theorem Mach.cell {p : Nat} {s : MS} {W w : World} (h : Mach p s W w) (i : Nat) : w.cell? ⟨p, i, none⟩ = s.cells[i]? := by simp [World.cell?, h.block]
theorem Mach.cell_n {p : Nat} {s : MS} {W w : World} (h : Mach p s W w) : w.cell? ⟨p, 16, none⟩ = some (.int .i64 s.n) := by rw [h.cell, MS.cells_n h.good]
theorem Mach.cell_h {p : Nat} {s : MS} {W w : World} (h : Mach p s W w) : w.cell? ⟨p, 17, none⟩ = some (.int .i64 s.h) := by rw [h.cell, MS.cells_h h.good]
theorem Mach.cell_f {p : Nat} {s : MS} {W w : World} (h : Mach p s W w) : w.cell? ⟨p, 18, none⟩ = some (.bool s.f) := by rw [h.cell, MS.cells_f h.good]
theorem Mach.cell_s {p : Nat} {s : MS} {W w : World} (h : Mach p s W w) (i : Nat) (hi : i < 16) : w.cell? ⟨p, i, none⟩ = some (.int .i64 (s.cs.getD i 0)) := by rw [h.cell, MS.cells_stack h.good i hi]
theorem Mach.free {p : Nat} {s : MS} {W w : World} (h : Mach p s W w) (i : Nat) : w.frozen? ⟨p, i, none⟩ = false := by simp [World.frozen?, h.block]

theorem Mach.store {p : Nat} {s s' : MS} {W w : World} (h : Mach p s W w) (i : Nat) (v : Value) (e : s.cells.setIfInBounds i v = s'.cells) (g : s'.ok) : Mach p s' W (w.setCell ⟨p, i, none⟩ v) where
  good := g
  block := by
    rw [heap_setCell_same w p i s.cells 360 v h.block, e]
  old := fun k hk hl => by rw [heap_setCell_other w ⟨p, i, none⟩ k v hk]; exact h.old k hk hl
  size := by rw [World.size_setCell]; exact h.size
  os := h.os
  tape := h.tape
  output := h.output

theorem Mach.drew {p : Nat} {s : MS} {W w : World} (h : Mach p s W w) : Mach p s W w.drew := ⟨h.good, h.block, h.old, h.size, h.os, h.tape, h.output⟩
theorem Mach.drewN {p : Nat} {s : MS} {W w : World} (h : Mach p s W w) (n : Nat) : Mach p s W (w.drewN n) := ⟨h.good, h.block, h.old, h.size, h.os, h.tape, h.output⟩
theorem Mach.alloc {p : Nat} {s : MS} {W w : World} (h : Mach p s W w) (o : Obj) : Mach p s W (w.alloc o) where
  good := h.good
  block := by rw [Below.heap_alloc w o p h.lt]; exact h.block
  old := fun k hk hl => by rw [Below.heap_alloc w o k (Nat.lt_of_lt_of_le hl h.size)]; exact h.old k hk hl
  size := by have := h.size; simp; omega
  os := h.os
  tape := h.tape
  output := h.output

/-- A cell of another block reads as it did. -/
theorem Mach.past {p : Nat} {s : MS} {W w : World} (h : Mach p s W w) (q : Addr) (hq : q.block ≠ p) (hl : q.block < W.heap.size) : w.cell? q = W.cell? q := World.cell?_of_block (w := W) (h.old q.block hq hl)

theorem Mach.below {p : Nat} {s : MS} {W w : World} (h : Mach p s W w) (hp : W.heap.size ≤ p) : Below W.heap.size W w :=
  ⟨h.os, h.tape, h.output, h.size, fun k hk => h.old k (by omega) hk⟩

/-- Over a later world, told over the first. -/
theorem Mach.trans {p : Nat} {s s' : MS} {W V w : World} (h : Mach p s W V) (k : Mach p s' V w) : Mach p s' W w where
  good := k.good
  block := k.block
  old := fun j hj hl => by rw [k.old j hj (Nat.lt_of_lt_of_le hl h.size)]; exact h.old j hj hl
  size := Nat.le_trans h.size k.size
  os := k.os.trans h.os
  tape := k.tape.trans h.tape
  output := k.output.trans h.output

/-- A machine in a world, told over that world. -/
theorem Mach.self {p : Nat} {s : MS} {W w : World} (h : Mach p s W w) : Mach p s w w := ⟨h.good, h.block, fun _ _ _ => rfl, Nat.le_refl _, rfl, rfl, rfl⟩

end Go.Proofs.YtmomfkikogbdeaaGreatDoor
