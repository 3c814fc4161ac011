/- The contract of take: the coin of a point, which isn't there any more. -/
import Derived.Test.YtepmnpapdknocaaGreatDoorCoinGr
import Derived.Test.YtepmnpapdknocaaGreatDoorCoinPlace
namespace Go.Proofs.YtepmnpapdknocaaGreatDoor
open Go.RowKit

theorem results_cell_tmp1 {fn : Func} {p u : Tmp} {ty : TypeId} (h : fn.results = #[.cell p ty, .tmp u]) (tmps : Array Value) (P : Program) (w : World) :
    (results fn tmps).run P w =
      ((asAddr (tmps.getD p undef)).run P w).andThen fun a w₁ => ((loadVar ty a).run P w₁).andThen fun x w₂ => .ok (.tuple #[x, tmps.getD u undef]) w₂ := by
  simp only [results, h]
  simp [Sem.run_bind, Result.andThen]

set_option maxRecDepth 10000 in
set_option maxHeartbeats 3200000 in
theorem ptake_none (w0 w : World) (p : Nat) (v : Value) (K : List CV) (q : PtD) (h : Pu w0 w p v K) (hs : Srt (K.map (·.1))) (hn : K.length ≤ 4096) (hf : hasP q (K.map (·.1)) = false) :
    Calls Tryz.prog 112 #[.pointer (some ⟨p, 0, none⟩), .agg #[.int .i64 q.1, .int .i64 q.2]] w fun e w' => e = .returned (.tuple #[zeroC, .bool false]) ∧ Below w.heap.size w w' := by
  obtain ⟨a, c, rfl, hC, hS⟩ := h.coins
  obtain ⟨n, hn'⟩ : ∃ n, K.length = n := ⟨_, rfl⟩
  obtain ⟨k, hk⟩ : ∃ k, pos q (K.map (·.1)) = k := ⟨_, rfl⟩
  have hbox := h.box
  rw [hn'] at hC hbox hn
  obtain ⟨X, hX⟩ : ∃ X, X = (w.alloc (.cells #[.int .i64 q.1, .int .i64 q.2] 86)).alloc (.cells #[.int .i64 0, .int .i64 0, .int .i64 0, .slice none 0 0, .int .i64 0, .bool false] 88) := ⟨_, rfl⟩
  have hbX : Below w.heap.size w X := by rw [hX]; exact bel_on (bel_new _ _) (bel_new _ _)
  have hX1 : X.heap[w.heap.size + 1]? = some (.cells zeroCs.toArray 88 (0, 0)) := by
    rw [hX]
    have := heap_alloc_new (w.alloc (.cells #[.int .i64 q.1, .int .i64 q.2] 86)) (.cells zeroCs.toArray 88)
    rw [show (w.alloc (.cells #[.int .i64 q.1, .int .i64 q.2] 86)).heap.size = w.heap.size + 1 by simp] at this
    exact this
  have x0 : X.cell? ⟨w.heap.size, 0, none⟩ = some (.int .i64 q.1) := by rw [hX]; exact cell_later (bel_new _ _) (two_cells w _ _ _).1
  have x1 : X.cell? ⟨w.heap.size, 1, none⟩ = some (.int .i64 q.2) := by rw [hX]; exact cell_later (bel_new _ _) (two_cells w _ _ _).2
  have xp : X.cell? ⟨p, 0, none⟩ = some (.slice a n c) := cell_later hbX (cell_of (X := [.slice a n c]) hbox 0 _ rfl)
  have PL := hide (fun w' (hb : Below X.heap.size X w') => place_any a n c (K.map (·.1)) q k false w' hs (by omega) ((hC.later hbX).later hb) hk hf)
  have HBX := hide hbX
  have HX1 := hide hX1
  clear hk hf hC hS hs hbox hbX hX1 h hn'
  go_enter Tryz.func112, Tryz.ntmps112
  go_wp2_with fail
  rw [← hX]
  clear hX
  go_region_held3 (fun w' => Below X.heap.size X w' ∧ w'.cell? ⟨w.heap.size, 0, none⟩ = some (.int .i64 q.1) ∧ w'.cell? ⟨w.heap.size, 1, none⟩ = some (.int .i64 q.2) ∧ w'.cell? ⟨p, 0, none⟩ = some (.slice a n c))
    (first
    | exact ⟨bel_draw1 _, x0, x1, xp⟩
    | (go_split_ands
       refine ⟨bel_on (by assumption) hbc, cell_later hbc (by assumption), cell_later hbc (by assumption), cell_later hbc (by assumption)⟩))
    (first | (go_at_call 141; go_split_ands; refine ((unhide PL) _ (by assumption)).mono ?_; rintro e w' ⟨rfl, hbc⟩))
  rename_i hH
  have hh := (hH.1.block _ (lt_of_block (unhide HX1))).trans (unhide HX1)
  have HB := hide (bel_on (unhide HBX) hH.1)
  have f0 := frozen_of hh 0
  have f1 := frozen_of hh 1
  have f2 := frozen_of hh 2
  have f3 := frozen_of hh 3
  have f4 := frozen_of hh 4
  have f5 := frozen_of hh 5
  have c0 := cell_of hh 0 _ rfl
  have c1 := cell_of hh 1 _ rfl
  have c2 := cell_of hh 2 _ rfl
  have c3 := cell_of hh 3 _ rfl
  have c4 := cell_of hh 4 _ rfl
  have c5 := cell_of hh 5 _ rfl
  clear hh hH
  go_wp2
  (try simp only [Exit.inBlock, Exit.then])
  refine bodyPost_ret (v := .tuple #[zeroC, .bool false]) ?_ rfl ⟨rfl, ?_⟩
  · rw [results_cell_tmp1 rfl]
    unfold zeroC
    go_simp
  · exact ((((((unhide HB).setCell (Nat.le_succ _) _).setCell (Nat.le_succ _) _).setCell (Nat.le_succ _) _).setCell (Nat.le_succ _) _).setCell (Nat.le_succ _) _).setCell (Nat.le_succ _) _

theorem box_set {w : World} {p : Nat} {v u : Value} {t : TypeId} (h : w.heap[p]? = some (.cells #[v] t (0, 0))) : (w.setCell ⟨p, 0, none⟩ u).heap[p]? = some (.cells #[u] t (0, 0)) := by
  rw [setCell_eq_setRow w p 0 #[v] t (0, 0) u h]
  exact setRow_heap w p _ _ t _ h
theorem list_at (K : List CV) (k : Nat) (h : k < K.length) : (K.map (·.1))[k]'(by simpa using h) = K[k].1 := by simp
theorem six_heap (w : World) (a b c d e f : Value) (t : TypeId) : (w.alloc (.cells #[a, b, c, d, e, f] t)).heap[w.heap.size]? = some (.cells [a, b, c, d, e, f].toArray t (0, 0)) := heap_alloc_new w _

set_option maxRecDepth 10000 in
set_option maxHeartbeats 6400000 in
theorem ptake_some (w0 w : World) (p : Nat) (v : Value) (K : List CV) (q : PtD) (h : Pu w0 w p v K) (hs : Srt (K.map (·.1))) (hn : K.length ≤ 4096) (hf : hasP q (K.map (·.1)) = true) :
    Calls Tryz.prog 112 #[.pointer (some ⟨p, 0, none⟩), .agg #[.int .i64 q.1, .int .i64 q.2]] w fun e w' => ∃ (x : CV) (v' : Value) (K' : List CV), e = .returned (.tuple #[cnV x.1 x.2.1 x.2.2.1 x.2.2.2, .bool true]) ∧ takeD q (K.map (·.1)) = some (x.1, K'.map (·.1)) ∧ x ∈ K ∧ (∀ y ∈ K', y ∈ K) ∧ K'.length + 1 = K.length ∧
      Pu w0 w' p v' K' ∧ Gr w w' (PuS p v) ∧ v'.ownBlock = v.ownBlock := by
  have hO := h.own
  obtain ⟨k, hk⟩ : ∃ k, pos q (K.map (·.1)) = k := ⟨_, rfl⟩
  have hp := hasP_pos (p := q) hs
  rw [hf, hk] at hp
  have hp2 := Eq.symm hp
  rw [Bool.and_eq_true, decide_eq_true_eq, decide_eq_true_eq, List.length_map] at hp2
  obtain ⟨hkl, hke⟩ := hp2
  have hke2 : pt ((K.map (·.1))[k]'(by simpa using hkl)) = q := by
    rw [List.getElem?_eq_getElem (by simpa using hkl), Option.map_some, Option.some.injEq] at hke; exact hke
  have hT := takeD_at (p := q) hs (by rw [hk]; simpa using hkl) (by simp only [hk]; exact hke2)
  simp only [hk] at hT
  rw [list_at K k hkl, ← List.map_take, ← List.map_drop, ← List.map_append] at hT
  obtain ⟨a, c, rfl, hC, hS⟩ := h.coins
  obtain ⟨g, rfl⟩ : ∃ g, a = some ⟨g, 0, none⟩ := by
    rcases hO.2 with ⟨_, e⟩ | ⟨g, _, _, e, _⟩
    · omega
    · simp only [Value.slice.injEq] at e; exact ⟨g, e.1⟩
  obtain ⟨n, hn'⟩ : ∃ n, K.length = n := ⟨_, rfl⟩
  have hbox := h.box
  have hgp : g ≠ p := fun e => h.ne (by rw [e]; rfl)
  have hbg : w0.heap.size ≤ g := own_lo hO g rfl
  obtain ⟨x, hx⟩ : ∃ x, K[k] = x := ⟨_, rfl⟩
  have hxm : x ∈ K := by rw [← hx]; exact List.getElem_mem hkl
  obtain ⟨f0, f1, f2, f3, f4, f5⟩ := flatC_at K k hkl
  rw [hx] at f0 f1 f2 f3 f4 f5 hT
  rw [hn'] at hC hbox hn hkl hO
  have cg : ∀ j u, j < n * 6 → (flatC K)[j]? = some u → w.cell? ⟨g, j, none⟩ = some u := fun j u hj hu => by rw [World.ownsRow.cellAt hO j hj]; exact hu
  obtain ⟨X, hX⟩ : ∃ X, X = (w.alloc (.cells #[.int .i64 q.1, .int .i64 q.2] 86)).alloc (.cells #[.int .i64 0, .int .i64 0, .int .i64 0, .slice none 0 0, .int .i64 0, .bool false] 88) := ⟨_, rfl⟩
  have hbX : Below w.heap.size w X := by rw [hX]; exact bel_on (bel_new _ _) (bel_new _ _)
  have hX1 : X.heap[w.heap.size + 1]? = some (.cells zeroCs.toArray 88 (0, 0)) := by
    rw [hX]
    have := heap_alloc_new (w.alloc (.cells #[.int .i64 q.1, .int .i64 q.2] 86)) (.cells zeroCs.toArray 88)
    rw [show (w.alloc (.cells #[.int .i64 q.1, .int .i64 q.2] 86)).heap.size = w.heap.size + 1 by simp] at this
    exact this
  have x0 : X.cell? ⟨w.heap.size, 0, none⟩ = some (.int .i64 q.1) := by rw [hX]; exact cell_later (bel_new _ _) (two_cells w _ _ _).1
  have x1 : X.cell? ⟨w.heap.size, 1, none⟩ = some (.int .i64 q.2) := by rw [hX]; exact cell_later (bel_new _ _) (two_cells w _ _ _).2
  have xp : X.cell? ⟨p, 0, none⟩ = some (.slice (some ⟨g, 0, none⟩) n c) := cell_later hbX (cell_of (X := [.slice (some ⟨g, 0, none⟩) n c]) hbox 0 _ rfl)
  have PL := hide (fun w' (hb : Below X.heap.size X w') => place_any (some ⟨g, 0, none⟩) n c (K.map (·.1)) q k true w' hs (by omega) ((hC.later hbX).later hb) hk hf)
  have D0 := hide (cg _ _ (by omega) f0)
  have D1 := hide (cg _ _ (by omega) f1)
  have D2 := hide (cg _ _ (by omega) f2)
  have D3 := hide (cg _ _ (by omega) f3)
  have D4 := hide (cg _ _ (by omega) f4)
  have D5 := hide (cg _ _ (by omega) f5)
  have HBX := hide hbX
  have HX1 := hide hX1
  have HO := hide hO
  have HT := hide hT
  have HP := hide h
  have HBOX := hide hbox
  have HXM := hide hxm
  have HN' := hide hn'
  have hpw : p < w.heap.size := h.lt
  have hgw : g < w.heap.size := (hO.lt g rfl).2
  clear hk hf hC hS hs hbox hbX hX1 h hO hT hke hke2 hp f0 f1 f2 f3 f4 f5 cg hx hxm hn'
  go_enter Tryz.func112, Tryz.ntmps112
  go_wp2_with fail
  rw [← hX]
  clear hX
  go_region_held3 (fun w' => Below X.heap.size X w' ∧ w'.cell? ⟨w.heap.size, 0, none⟩ = some (.int .i64 q.1) ∧ w'.cell? ⟨w.heap.size, 1, none⟩ = some (.int .i64 q.2) ∧ w'.cell? ⟨p, 0, none⟩ = some (.slice (some ⟨g, 0, none⟩) n c))
    (first
    | exact ⟨bel_draw1 _, x0, x1, xp⟩
    | (go_split_ands
       refine ⟨bel_on (by assumption) hbc, cell_later hbc (by assumption), cell_later hbc (by assumption), cell_later hbc (by assumption)⟩))
    (first | (go_at_call 141; go_split_ands; refine ((unhide PL) _ (by assumption)).mono ?_; rintro e w' ⟨rfl, hbc⟩))
  rename_i hH
  have hb2 := bel_on (unhide HBX) hH.1
  have hh2 := (hH.1.block _ (lt_of_block (unhide HX1))).trans (unhide HX1)
  have d0 := cell_later hb2 (unhide D0)
  have d1 := cell_later hb2 (unhide D1)
  have d2 := cell_later hb2 (unhide D2)
  have d3 := cell_later hb2 (unhide D3)
  have d4 := cell_later hb2 (unhide D4)
  have d5 := cell_later hb2 (unhide D5)
  have xp2 := hH.2.2.2
  have hpl := World.block_lt_of_cell? _ _ xp2
  have hkI : (k : Int) < (n : Int) := by omega
  have hw1 : IntKind.i64.wrap ((k : Int) + 1) = (k : Int) + 1 := by rw [IntKind.wrap_i64]; omega
  obtain ⟨Y, hY⟩ : ∃ Y, Y = w'.alloc (.cells #[.int .i64 x.1.1, .int .i64 x.1.2.1, .int .i64 (cv x.1), .slice x.2.1 x.2.2.1 x.2.2.2, .int .i64 (ch x.1), .bool (cr x.1)] 88) := ⟨_, rfl⟩
  have hbY : Below w'.heap.size w' Y := by rw [hY]; exact bel_new _ _
  have hy : Y.heap[w'.heap.size]? = some (.cells [.int .i64 x.1.1, .int .i64 x.1.2.1, .int .i64 (cv x.1), .slice x.2.1 x.2.2.1 x.2.2.2, .int .i64 (ch x.1), .bool (cr x.1)].toArray 88 (0, 0)) := by rw [hY]; exact six_heap _ _ _ _ _ _ _ _
  have hOY : Y.ownsRow w0.heap.size 88 6 (.slice (some ⟨g, 0, none⟩) n c) n (flatC K) := (Gr.of (S := fun _ => False) (bel_on hb2 hbY)).own (unhide HO) (fun _ _ q => q)
  have DEL := deleteCoin_is w0.heap.size g n c k (k + 1) K Y hkl rfl (unhide HN') hOY
  rw [show ((k + 1 : Nat) : Int) = (k : Int) + 1 by omega] at DEL
  have HDEL := hide DEL
  have yp := cell_later hbY xp2
  have hpl2 := World.block_lt_of_cell? _ _ yp
  have HBY := hide (bel_on hb2 hbY)
  have HHY := hide ((hbY.block _ (lt_of_block hh2)).trans hh2)
  have HY6 := hide hy
  have hsw : w.heap.size + 1 < w'.heap.size := lt_of_block hh2
  clear hH hbc hb2 hh2 xp x0 x1 hbY hy hOY DEL
  go_wp2_with fail
  rw [← hY]
  clear hY
  go_wp2_with fail
  refine (unhide HDEL).mono ?_
  rintro e w4 ⟨rfl, hown4, hgr4⟩
  have hp4 := (hgr4.block p (by omega) (by simp; exact fun e => hgp e.symm)).trans (((unhide HBY).block p hpw).trans (unhide HBOX))
  have hz4 := (hgr4.block (w.heap.size + 1) (lt_of_block (unhide HHY)) (by simp; omega)).trans (unhide HHY)
  have hy4 := (hgr4.block w'.heap.size (lt_of_block (unhide HY6)) (by simp; omega)).trans (unhide HY6)
  have p4 := cell_of (X := [.slice (some ⟨g, 0, none⟩) n c]) hp4 0 _ rfl
  have p4f := frozen_of hp4 0
  have e0 := cell_of hy4 0 _ rfl
  have e1 := cell_of hy4 1 _ rfl
  have e2 := cell_of hy4 2 _ rfl
  have e3 := cell_of hy4 3 _ rfl
  have e4 := cell_of hy4 4 _ rfl
  have e5 := cell_of hy4 5 _ rfl
  have z0 := cell_of hz4 0 _ rfl
  have z1 := cell_of hz4 1 _ rfl
  have z2 := cell_of hz4 2 _ rfl
  have z3 := cell_of hz4 3 _ rfl
  have z4 := cell_of hz4 4 _ rfl
  have z5 := cell_of hz4 5 _ rfl
  have y0 := frozen_of hz4 0
  have y1 := frozen_of hz4 1
  have y2 := frozen_of hz4 2
  have y3 := frozen_of hz4 3
  have y4 := frozen_of hz4 4
  have y5 := frozen_of hz4 5
  have n1 : ¬ (w'.heap.size = p) := by omega
  have n2 : ¬ (p = w'.heap.size) := by omega
  have n3 : ¬ (w.heap.size + 1 = p) := by omega
  have n4 : ¬ (p = w.heap.size + 1) := by omega
  have n5 : ¬ (w'.heap.size = w.heap.size + 1) := by omega
  have n6 : ¬ (w.heap.size + 1 = w'.heap.size) := by omega
  have GA : Hid (Gr w w4 (PuS p (.slice (some ⟨g, 0, none⟩) n c))) := (Gr.of (unhide HBY)).grown hgr4 (fun k hk => .inl (.inr hk))
  have GS : Hid (∀ k, PuS p (.slice (some ⟨g, 0, none⟩) n c) k → w0.heap.size ≤ k) := fun k hk => by
    rcases hk with rfl | hk
    · exact (unhide HP).ge
    · cases hk; exact hbg
  have GO : Hid (∀ k, (Value.slice (some ⟨g, 0, none⟩) (n - 1) c).ownBlock = some k → ¬ (k = p ∨ k = w.heap.size + 1)) := fun k hk => by
    cases hk
    rintro (e | e)
    · exact hgp e
    · have e2 : g = w.heap.size + 1 := e
      omega
  have HO4 := hide hown4
  have HP4 := hide hp4
  have hlt4 := lt_of_block hy4
  have hlt4p : p < w4.heap.size := lt_of_block hp4
  clear hgr4 hown4 hp4 hz4 hy4 d0 d1 d2 d3 d4 d5 yp xp2
  go_wp2
  (try simp only [Exit.inBlock, Exit.then])
  refine bodyPost_ret (v := .tuple #[cnV x.1 x.2.1 x.2.2.1 x.2.2.2, .bool true]) ?_ rfl ⟨x, .slice (some ⟨g, 0, none⟩) (n - 1) c, K.take k ++ K.drop (k + 1), rfl, unhide HT, unhide HXM, ?_, ?_, ?_, ?_, rfl⟩
  · rw [results_cell_tmp1 rfl]
    unfold cnV
    go_simp
  · exact fun y hy => (List.mem_append.1 hy).elim List.mem_of_mem_take List.mem_of_mem_drop
  · have := unhide HN'
    simp only [List.length_append, List.length_take, List.length_drop]
    omega
  · have hl : (K.take k ++ K.drop (k + 1)).length = n - 1 := by
      have := unhide HN'
      simp only [List.length_append, List.length_take, List.length_drop]
      omega
    have hp := unhide HP
    refine ⟨?_, hp.ge, ?_, ?_, fun e => hgp (by cases e; rfl), fun y hy => hp.lk y ((List.mem_append.1 hy).elim List.mem_of_mem_take List.mem_of_mem_drop)⟩
    · exact (((unhide GA).one p 0 (.inl (.inl rfl)) _).six (w.heap.size + 1) (.inr (Nat.le_succ _)) _ _ _ _ _ _).below hp.bel hp.bel.size (unhide GS)
    · exact ((Gr.refl _ (fun k => k = w.heap.size + 1)).six (w.heap.size + 1) (.inl rfl) _ _ _ _ _ _).heap (box_set (unhide HP4)) n4
    · rw [hl]
      exact (((Gr.refl w4 (fun k => k = p ∨ k = w.heap.size + 1)).one p 0 (.inl (.inl rfl)) _).six (w.heap.size + 1) (.inl (.inr rfl)) _ _ _ _ _ _).own (unhide HO4) (unhide GO)
  · exact ((unhide GA).one p 0 (.inl (.inl rfl)) _).six (w.heap.size + 1) (.inr (Nat.le_succ _)) _ _ _ _ _ _

end Go.Proofs.YtepmnpapdknocaaGreatDoor
