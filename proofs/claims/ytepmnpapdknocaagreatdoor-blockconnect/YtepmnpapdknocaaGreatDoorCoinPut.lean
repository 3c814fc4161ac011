/- The contract of put: a coin is put at its place, if there is none of its point. -/
import Derived.Test.YtepmnpapdknocaaGreatDoorCoinTake
namespace Go.Proofs.YtepmnpapdknocaaGreatDoor
open Go.RowKit

theorem own_slice {w : World} {base : Nat} {e : TypeId} {size : Nat} {v : Value} {n : Nat} {xs : List Value} (h : w.ownsRow base e size v n xs) : ∃ a c, v = .slice a n c := by
  rcases h.2 with ⟨rfl, rfl⟩ | ⟨g, cap, cur, rfl, _⟩
  · exact ⟨none, 0, rfl⟩
  · exact ⟨_, _, rfl⟩
def sixV (y : CV) : List Value := [.int .i64 y.1.1, .int .i64 y.1.2.1, .int .i64 (cv y.1), .slice y.2.1 y.2.2.1 y.2.2.2, .int .i64 (ch y.1), .bool (cr y.1)]
theorem flat_six (y : CV) : flatC [y] = sixV y := rfl

set_option maxRecDepth 10000 in
set_option maxHeartbeats 3200000 in
theorem pput_no (w0 w : World) (p : Nat) (v : Value) (K : List CV) (y : CV) (h : Pu w0 w p v K) (hs : Srt (K.map (·.1))) (hn : K.length ≤ 4096) (hf : hasP (pt y.1) (K.map (·.1)) = true) :
    Calls Tryz.prog 114 #[.pointer (some ⟨p, 0, none⟩), cnV y.1 y.2.1 y.2.2.1 y.2.2.2] w fun e w' => e = .returned (.bool false) ∧ Below w.heap.size w w' := by
  obtain ⟨a, c, rfl, hC, hS⟩ := h.coins
  obtain ⟨n, hn'⟩ : ∃ n, K.length = n := ⟨_, rfl⟩
  obtain ⟨k, hk⟩ : ∃ k, pos (pt y.1) (K.map (·.1)) = k := ⟨_, rfl⟩
  have hbox := h.box
  rw [hn'] at hC hbox hn
  unfold cnV
  obtain ⟨X, hX⟩ : ∃ X, X = w.alloc (.cells #[.int .i64 y.1.1, .int .i64 y.1.2.1, .int .i64 (cv y.1), .slice y.2.1 y.2.2.1 y.2.2.2, .int .i64 (ch y.1), .bool (cr y.1)] 88) := ⟨_, rfl⟩
  have hbX : Below w.heap.size w X := by rw [hX]; exact bel_new _ _
  have hX1 : X.heap[w.heap.size]? = some (.cells (sixV y).toArray 88 (0, 0)) := by rw [hX]; exact six_heap _ _ _ _ _ _ _ _
  have x0 := cell_of hX1 0 _ rfl
  have x1 := cell_of hX1 1 _ rfl
  have xp : X.cell? ⟨p, 0, none⟩ = some (.slice a n c) := cell_later hbX (cell_of (X := [.slice a n c]) hbox 0 _ rfl)
  have PL := hide (fun w' (hb : Below X.heap.size X w') => place_any a n c (K.map (·.1)) (pt y.1) k true w' hs (by omega) ((hC.later hbX).later hb) hk hf)
  unfold pt at PL
  have HBX := hide hbX
  clear hk hf hC hS hs hbox hbX hX1 h hn'
  go_enter Tryz.func114, Tryz.ntmps114
  go_wp2_with fail
  rw [← hX]
  clear hX
  go_region_held3 (fun w' => Below X.heap.size X w' ∧ w'.cell? ⟨w.heap.size, 0, none⟩ = some (.int .i64 y.1.1) ∧ w'.cell? ⟨w.heap.size, 1, none⟩ = some (.int .i64 y.1.2.1) ∧ w'.cell? ⟨p, 0, none⟩ = some (.slice a n c))
    (first
    | exact ⟨bel_draw1 _, x0, x1, xp⟩
    | (go_split_ands
       refine ⟨bel_on (by assumption) hbc, cell_later hbc (by assumption), cell_later hbc (by assumption), cell_later hbc (by assumption)⟩))
    (first | (go_at_call 141; go_split_ands; refine ((unhide PL) _ (by assumption)).mono ?_; rintro e w' ⟨rfl, hbc⟩))
  rename_i hH
  have HB := hide (bel_on (unhide HBX) hH.1)
  clear hH
  go_wp2
  go_ret
  exact ⟨rfl, unhide HB⟩

set_option maxRecDepth 10000 in
set_option maxHeartbeats 6400000 in
theorem pput_yes (w0 w : World) (p : Nat) (v : Value) (K : List CV) (y : CV) (h : Pu w0 w p v K) (hs : Srt (K.map (·.1))) (hn : K.length ≤ 4096) (hf : hasP (pt y.1) (K.map (·.1)) = false) (hy : LkAt w0 y) :
    Calls Tryz.prog 114 #[.pointer (some ⟨p, 0, none⟩), cnV y.1 y.2.1 y.2.2.1 y.2.2.2] w fun e w' => ∃ (v' : Value) (K' : List CV), e = .returned (.bool true) ∧ K'.map (·.1) = putC y.1 (K.map (·.1)) ∧ (∀ z ∈ K', z = y ∨ z ∈ K) ∧ K'.length = K.length + 1 ∧
      Pu w0 w' p v' K' ∧ Gr w w' (PuS p v) ∧ (v'.ownBlock = v.ownBlock ∨ ∀ k, v'.ownBlock = some k → w.heap.size ≤ k) := by
  obtain ⟨a, c, rfl, hC, hS⟩ := h.coins
  obtain ⟨n, hn'⟩ : ∃ n, K.length = n := ⟨_, rfl⟩
  obtain ⟨k, hk⟩ : ∃ k, pos (pt y.1) (K.map (·.1)) = k := ⟨_, rfl⟩
  have hbox := h.box
  have hO := h.own
  have hne := h.ne
  have hkn : k ≤ n := by rw [← hk, ← hn']; have := pos_le (pt y.1) (K.map (·.1)); simpa using this
  have hPD := putC_at hs hf
  rw [hk, ← List.map_take, ← List.map_drop, show y.1 :: (K.drop k).map (·.1) = (y :: K.drop k).map (·.1) from rfl, ← List.map_append] at hPD
  rw [hn'] at hC hbox hn hO hne
  unfold cnV
  obtain ⟨X, hX⟩ : ∃ X, X = w.alloc (.cells #[.int .i64 y.1.1, .int .i64 y.1.2.1, .int .i64 (cv y.1), .slice y.2.1 y.2.2.1 y.2.2.2, .int .i64 (ch y.1), .bool (cr y.1)] 88) := ⟨_, rfl⟩
  have hbX : Below w.heap.size w X := by rw [hX]; exact bel_new _ _
  have hX1 : X.heap[w.heap.size]? = some (.cells (sixV y).toArray 88 (0, 0)) := by rw [hX]; exact six_heap _ _ _ _ _ _ _ _
  have x0 := cell_of hX1 0 _ rfl
  have x1 := cell_of hX1 1 _ rfl
  have xp : X.cell? ⟨p, 0, none⟩ = some (.slice a n c) := cell_later hbX (cell_of (X := [.slice a n c]) hbox 0 _ rfl)
  have PL := hide (fun w' (hb : Below X.heap.size X w') => place_any a n c (K.map (·.1)) (pt y.1) k false w' hs (by omega) ((hC.later hbX).later hb) hk hf)
  unfold pt at PL
  have HBX := hide hbX
  have HX1 := hide hX1
  have HO := hide hO
  have HNE := hide hne
  have HPD := hide hPD
  have HP := hide h
  have HY := hide hy
  have HBOX := hide hbox
  have HN' := hide hn'
  have hpw : p < w.heap.size := h.lt
  clear hk hf hC hS hs hbox hbX hX1 h hn' hO hne hPD hy
  go_enter Tryz.func114, Tryz.ntmps114
  go_wp2_with fail
  rw [← hX]
  clear hX
  go_region_held3 (fun w' => Below X.heap.size X w' ∧ w'.cell? ⟨w.heap.size, 0, none⟩ = some (.int .i64 y.1.1) ∧ w'.cell? ⟨w.heap.size, 1, none⟩ = some (.int .i64 y.1.2.1) ∧ w'.cell? ⟨p, 0, none⟩ = some (.slice a n c))
    (first
    | exact ⟨bel_draw1 _, x0, x1, xp⟩
    | (go_split_ands
       refine ⟨bel_on (by assumption) hbc, cell_later hbc (by assumption), cell_later hbc (by assumption), cell_later hbc (by assumption)⟩))
    (first | (go_at_call 141; go_split_ands; refine ((unhide PL) _ (by assumption)).mono ?_; rintro e w' ⟨rfl, hbc⟩))
  rename_i hH
  have hb2 := bel_on (unhide HBX) hH.1
  have hh2 := (hH.1.block _ (lt_of_block (unhide HX1))).trans (unhide HX1)
  have c0 := cell_of hh2 0 _ rfl
  have c1 := cell_of hh2 1 _ rfl
  have c2 := cell_of hh2 2 _ rfl
  have c3 := cell_of hh2 3 _ rfl
  have c4 := cell_of hh2 4 _ rfl
  have c5 := cell_of hh2 5 _ rfl
  have xp2 := hH.2.2.2
  have hpl := World.block_lt_of_cell? _ _ xp2
  have hhp := (hb2.block p hpw).trans (unhide HBOX)
  have HB2 := hide hb2
  have INS : Hid (∀ W, W.heap = (w'.alloc (.cells #[.int .i64 y.1.1, .int .i64 y.1.2.1, .int .i64 (cv y.1), .slice y.2.1 y.2.2.1 y.2.2.2, .int .i64 (ch y.1), .bool (cr y.1)] 88)).heap → W.os = w'.os → W.tape = w'.tape → W.output = w'.output →
      Calls Tryz.prog 144 #[.slice a n c, .int .i64 k, .slice (some ⟨w'.heap.size, 0, none⟩) 1 1] W fun e w4 => ∃ a' c', e = .returned (.slice a' (n + 1) c') ∧ w4.cell? ⟨p, 0, none⟩ = some (.slice a n c) ∧ w4.frozen? ⟨p, 0, none⟩ = false ∧ p < w4.heap.size ∧ Hid (w4.ownsRow w0.heap.size 88 6 (.slice a' (n + 1) c') (n + 1) (flatC (K.take k ++ y :: K.drop k)) ∧ Gr w w4 (PuS p (.slice a n c)) ∧ ((Value.slice a' (n + 1) c').ownBlock = (Value.slice a n c).ownBlock ∨ ∀ k, (Value.slice a' (n + 1) c').ownBlock = some k → w.heap.size ≤ k) ∧ w4.heap[p]? = some (.cells #[.slice a n c] 133 (0, 0)))) := by
    intro W hW1 hW2 hW3 hW4
    have hbw : Below w'.heap.size w' W := ⟨hW2, hW3, hW4, by rw [hW1]; simp, fun i hi => by rw [hW1]; exact Below.heap_alloc w' _ i hi⟩
    have hbw2 := bel_on hb2 hbw
    have hOW : W.ownsRow w0.heap.size 88 6 (.slice a n c) n (flatC K) := (Gr.of (S := fun _ => False) hbw2).own (unhide HO) (fun _ _ q => q)
    have hvb : W.heap[w'.heap.size]? = some (.cells (flatC [y]).toArray 88 (0, 0)) := by rw [hW1]; exact six_heap _ _ _ _ _ _ _ _
    have hsz : w.heap.size < W.heap.size := Nat.lt_of_lt_of_le (lt_of_block hh2) hbw.size
    refine (insertCoin_any w0.heap.size a n c k w'.heap.size K y W hkn hn (unhide HN') (Nat.le_trans (unhide HP).bel.size (Nat.le_of_lt hsz)) hOW hvb ?_).mono ?_
    · intro e
      have := (unhide HO).lt _ e
      have h3 := hb2.size
      omega
    · rintro e w4 ⟨v', rfl, ho4, hg4, hn4⟩
      obtain ⟨a', c', rfl⟩ := own_slice ho4
      have hp4 : w4.heap[p]? = some (.cells #[.slice a n c] 133 (0, 0)) := by
        rw [hg4.block p (Nat.lt_trans hpw hsz) (fun e => (unhide HNE) e.symm), hbw2.block p hpw]
        exact unhide HBOX
      refine ⟨a', c', rfl, cell_of (X := [.slice a n c]) hp4 0 _ rfl, frozen_of hp4 0, lt_of_block hp4, ho4, (Gr.of hbw2).grown hg4 (fun k hk => .inl (.inr hk)), ?_, hp4⟩
      · rcases hn4 with q | q
        · exact .inl q
        · exact .inr fun k hk => Nat.le_trans (Nat.le_of_lt hsz) (q k hk)
  clear hH hbc hb2 hh2 xp x0 x1 hhp
  go_wp2_with fail
  go_region_with (go_at_call 144; refine ((unhide INS) _ ?_ ?_ ?_ ?_).mono ?_; rfl; rfl; rfl; rfl; rintro e w4 ⟨a', c', rfl, p4, p4f, p4l, H4⟩)
  all_goals
    go_wp2
    go_ret
    obtain ⟨ho4, hg4, hn4, hp4⟩ := unhide H4
    have hp := unhide HP
    have hl : (K.take k ++ y :: K.drop k).length = n + 1 := by
      have := unhide HN'
      simp only [List.length_append, List.length_take, List.length_cons, List.length_drop]
      omega
    have hnp : (Value.slice a' (n + 1) c').ownBlock ≠ some p := fun e => by
      rcases hn4 with q | q
      · rw [q] at e; exact (unhide HNE) e
      · have := q p e; omega
    have hsub : ∀ z ∈ K.take k ++ y :: K.drop k, z = y ∨ z ∈ K := fun z hz => by
      rcases List.mem_append.1 hz with q | q
      · exact .inr (List.mem_of_mem_take q)
      · rcases List.mem_cons.1 q with q | q
        · exact .inl q
        · exact .inr (List.mem_of_mem_drop q)
    have hgr := hg4.one p 0 (.inl (.inl rfl)) (.slice a' (n + 1) c')
    refine ⟨.slice a' (n + 1) c', K.take k ++ y :: K.drop k, rfl, (unhide HPD).symm, hsub, by rw [hl, unhide HN'], ⟨?_, hp.ge, box_set hp4, ?_, hnp, ?_⟩, ?_, ?_⟩
    · refine hgr.below hp.bel hp.bel.size (fun k hk => ?_)
      rcases hk with rfl | hk
      · exact hp.ge
      · exact own_lo (unhide HO) k hk
    · rw [hl]
      exact ((Gr.refl w4 (fun k => k = p)).one p 0 (.inl rfl) _).own ho4 (fun k hk e => hnp (by rw [hk, e]))
    · intro z hz
      rcases hsub z hz with rfl | q
      · exact unhide HY
      · exact hp.lk z q
    · rw [unhide HN']; exact hgr
    · rw [unhide HN']; exact hn4

end Go.Proofs.YtepmnpapdknocaaGreatDoor
