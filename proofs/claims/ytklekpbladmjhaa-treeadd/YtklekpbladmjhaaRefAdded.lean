/- The contract of the reference's Added, of a right tree. -/
import Derived.Test.YtklekpbladmjhaaRefAddR
import Derived.Test.YtklekpbladmjhaaRefTree
namespace Go.Proofs.Ytklekpbladmjhaa
open Go.RowKit

theorem chkGo_last : ∀ (M : List Int) (U : List BlkD) (N : List Int) (T : List BlkD) (x : Int) (b : BlkD), M.length = U.length → chkGo N T M U = 0 → chkGo N T (M ++ [x]) (U ++ [b]) = nextD (N ++ M) (T ++ U) x b
  | [], [], N, T, x, b, _, _ => by
    rw [List.nil_append, List.nil_append, List.append_nil, List.append_nil, chkGo]
    by_cases q : nextD N T x b = 0
    · rw [if_neg (by simp [q]), q]; unfold chkGo; rfl
    · rw [if_pos q]
  | [], _ :: _, _, _, _, _, h, _ => by cases h
  | _ :: _, [], _, _, _, _, h, _ => by cases h
  | y :: M, u :: U, N, T, x, b, h, hc => by
    rw [chkGo] at hc
    split at hc
    · next q => exact absurd hc q
    · next q =>
      rw [List.cons_append, List.cons_append, chkGo, if_neg q, chkGo_last M U _ _ x b (by simpa using h) hc]
      simp
theorem chkTr_last {N : List Int} {T : List BlkD} (x : Int) (b : BlkD) (h : chkTr N T = 0) : chkTr (N ++ [x]) (T ++ [b]) = if N.length = 24 then 2 else nextD N T x b := by
  obtain ⟨hl, h24, _, hgo⟩ := chkTr_ok h
  unfold chkTr
  rw [if_neg (by simp [hl])]
  by_cases q : N.length = 24
  · rw [if_pos q, if_pos (by simp; omega)]
  · rw [if_neg q, if_neg (by simp; omega), chkGo_last N T [] [] x b hl hgo]; rfl

theorem next_two {N : List Int} {T : List BlkD} {s z : Int} {b : BlkD} (h0 : ¬ s < 1) (h1 : ¬ 120 < s) (h : chkB b = 0) (hz : nextD N T s b = z) : z ≠ 2 := by
  unfold nextD at hz
  rw [if_neg (by simp; omega), if_neg (by simp [h])] at hz
  rw [← hz]
  split
  · decide
  · split
    · decide
    · split <;> decide
theorem hx_of {α : Prop} (h : α) : α := h

/-- What the reference's Added answers. -/
def AddS (w w' : World) (N : List Int) (T : List BlkD) (n : Nat) (x : Int) (e : Ending) : Prop :=
  ∃ a1 c1 a2 c2, e = .returned (.tuple #[.agg #[.slice a1 n c1, .slice a2 n c2], .int .i64 x]) ∧ IntsAt w' a1 n N ∧ BlksAt w' a2 n T ∧ SlOk a1 n c1 ∧ SlOk a2 n c2 ∧ Below w.heap.size w w'
theorem addS_nil {w w' : World} {x : Int} (hb : Below w.heap.size w w') : AddS w w' [] [] 0 x (.returned (.tuple #[.agg #[.slice none 0 0, .slice none 0 0], .int .i64 x])) :=
  ⟨none, 0, none, 0, rfl, IntsAt.nil _ _, RowsAt.nil _ _, ⟨Nat.le_refl _, Nat.zero_le _, fun _ => ⟨rfl, rfl⟩⟩, ⟨Nat.le_refl _, Nat.zero_le _, fun _ => ⟨rfl, rfl⟩⟩, hb⟩
theorem added_rows {w W : World} {B n g cap g2 cap2 : Nat} {N : List Int} {T : List BlkD} {K : List (List Value)} {s p h k o : Int} {ta : Option Addr} {tn tc : Nat} {L : List TxD} (hb : Below w.heap.size w W)
    (o5 : W.ownsRow B 3 1 (.slice (some ⟨g, 0, none⟩) (n + 1) cap) (n + 1) (N.map (Value.int .i64) ++ [.int .i64 s])) (o11 : W.ownsRow B 28 5 (.slice (some ⟨g2, 0, none⟩) (n + 1) cap2) (n + 1) (K.flatten ++ [.int .i64 p, .int .i64 h, .int .i64 k, .int .i64 o, .slice ta tn tc])) (hK : AllC blkR w K T) (hL : TxsAt w ta tn L) (sL : SlOk ta tn tc) (hTn : T.length = n) :
    IntsAt W (some ⟨g, 0, none⟩) (n + 1) (N ++ [s]) ∧ BlksAt W (some ⟨g2, 0, none⟩) (n + 1) (T ++ [(p, h, k, o, L)]) ∧ SlOk (some ⟨g, 0, none⟩) (n + 1) cap ∧ SlOk (some ⟨g2, 0, none⟩) (n + 1) cap2 := by
  have o5' : W.ownsRow B 3 1 (.slice (some ⟨g, 0, none⟩) (n + 1) cap) (n + 1) ((N ++ [s]).map (Value.int .i64)) := by simpa using o5
  obtain ⟨a1, c1, e1, s1, i1⟩ := ints_of_own o5'
  cases e1
  have hA := (hK.later hb).snoc (x := (p, h, k, o, L)) (k := [.int .i64 p, .int .i64 h, .int .i64 k, .int .i64 o, .slice ta tn tc]) ⟨ta, tn, tc, rfl, hL.later hb, sL⟩
  have hfl : K.flatten ++ ([.int .i64 p, .int .i64 h, .int .i64 k, .int .i64 o, .slice ta tn tc] : List Value) = (K ++ [([.int .i64 p, .int .i64 h, .int .i64 k, .int .i64 o, .slice ta tn tc] : List Value)]).flatten := by simp
  rw [hfl] at o11
  obtain ⟨a2, c2, e2, r2, s2⟩ := rows_of_own blkR o11 hA (by simp [hTn])
  cases e2
  exact ⟨i1, r2, s1, s2⟩

set_option maxRecDepth 10000 in
set_option maxHeartbeats 12800000 in
theorem radded_is (a b : Option Addr) (n c d : Nat) (N : List Int) (T : List BlkD) (s p h k o : Int) (ta : Option Addr) (tn tc : Nat) (L : List TxD) (N' : List Int) (T' : List BlkD) (n' : Nat) (x : Int) (w : World) (hN : IntsAt w a n N) (hT : BlksAt w b n T) (sN : SlOk a n c) (sT : SlOk b n d) (hL : TxsAt w ta tn L) (sL : SlOk ta tn tc) (hc : chkTr N T = 0) (hx : addE N T s (p, h, k, o, L) = (N', T', x)) (hn' : N'.length = n') :
    Calls Try.prog 15 #[.agg #[.slice a n c, .slice b n d], .int .i64 s, .agg #[.int .i64 p, .int .i64 h, .int .i64 k, .int .i64 o, .slice ta tn tc]] w fun e w' => AddS w w' N' T' n' x e := by
  obtain ⟨X, hX⟩ : ∃ X, X = ((w.alloc (.cells #[.slice a n c, .slice b n d] 25)).alloc (.cells #[.int .i64 p, .int .i64 h, .int .i64 k, .int .i64 o, .slice ta tn tc] 28)).alloc (.cells #[.slice none 0 0, .slice none 0 0] 25) := ⟨_, rfl⟩
  have hbX : Below w.heap.size w X := by rw [hX]; exact bel_on (bel_on (bel_new _ _) (bel_new _ _)) (bel_new _ _)
  have hXs : X.heap.size = w.heap.size + 3 := by rw [hX]; simp
  have hX0 : X.heap[w.heap.size]? = some (.cells [.slice a n c, .slice b n d].toArray 25 (0, 0)) := by
    rw [hX, Below.heap_alloc _ _ _ (by simp; omega), Below.heap_alloc _ _ _ (by simp)]; exact two_heap _ _ _ _
  have hX1 : X.heap[w.heap.size + 1]? = some (.cells [.int .i64 p, .int .i64 h, .int .i64 k, .int .i64 o, .slice ta tn tc].toArray 28 (0, 0)) := by
    rw [hX, Below.heap_alloc _ _ _ (by simp)]
    have := five_heap (w.alloc (.cells #[.slice a n c, .slice b n d] 25)) (.int .i64 p) (.int .i64 h) (.int .i64 k) (.int .i64 o) (.slice ta tn tc) 28
    rw [show (w.alloc (.cells #[.slice a n c, .slice b n d] 25)).heap.size = w.heap.size + 1 by simp] at this
    exact this
  have hX2 : X.heap[w.heap.size + 2]? = some (.cells [.slice none 0 0, .slice none 0 0].toArray 25 (0, 0)) := by
    rw [hX]
    have := two_heap ((w.alloc (.cells #[.slice a n c, .slice b n d] 25)).alloc (.cells #[.int .i64 p, .int .i64 h, .int .i64 k, .int .i64 o, .slice ta tn tc] 28)) (.slice none 0 0) (.slice none 0 0) 25
    rw [show ((w.alloc (.cells #[.slice a n c, .slice b n d] 25)).alloc (.cells #[.int .i64 p, .int .i64 h, .int .i64 k, .int .i64 o, .slice ta tn tc] 28)).heap.size = w.heap.size + 2 by simp] at this
    exact this
  have HB := hide hbX
  have HXS := hide hXs
  have HX0 := hide hX0
  have HX1 := hide hX1
  have HX2 := hide hX2
  obtain ⟨hl, h24, hH, hgo⟩ := chkTr_ok hc
  have hn24 : n ≤ 24 := by rw [← hN.1]; exact h24
  have LAST := hide (chkTr_last s (p, h, k, o, L) hc)
  have HZN := hide hN.1
  have HZT := hide hT.1
  unfold addE at hx
  rw [hc, if_neg (by simp), hN.1] at hx
  have HXX := hide hx
  have HNN := hide hn'
  have HL := hide hL
  have SL := hide sL
  have IN := hide hN
  have BT := hide hT
  have HGO := hide hgo
  have HHD := hide hH
  have HLN := hide hl
  have AD : Hid (AdH a b n c d N T p h k o ta tn tc w.heap.size (w.heap.size + 1) w X) := ⟨sN, sT, hn24, hN.later hbX, hT, hbX, fun W hW => by
    have q0 := (hW.block _ (lt_of_block hX0)).trans hX0
    have q1 := (hW.block _ (lt_of_block hX1)).trans hX1
    exact ⟨hW, cell_of q0 0 _ rfl, cell_of q0 1 _ rfl, cell_of q1 0 _ rfl, cell_of q1 1 _ rfl, cell_of q1 2 _ rfl, cell_of q1 3 _ rfl, cell_of q1 4 _ rfl⟩⟩
  have KS := hide (unhide AD).KS
  by_cases s1 : s < 1
  · have R : Hid (nextD N T s (p, h, k, o, L) = 3) := next_range (.inl s1)
    obtain ⟨rfl, rfl, rfl⟩ : ([] : List Int) = N' ∧ ([] : List BlkD) = T' ∧ 3 = x := by
      have q := unhide HXX
      rw [unhide R, if_pos (by decide)] at q
      exact ⟨congrArg (·.1) q, congrArg (·.2.1) q, congrArg (·.2.2) q⟩
    obtain rfl : 0 = n' := unhide HNN
    have z0 := cell_of hX2 0 _ rfl
    have z1 := cell_of hX2 1 _ rfl
    have f0 := frozen_of hX2 0
    have f1 := frozen_of hX2 1
    have zl := lt_of_block hX2
    clear hbX hX0 hX1 hX2 hXs hN hT sN sT hL sL hc hx hn' hl h24 hH hgo R LAST HXX HNN
    go_enter Try.func15, Try.ntmps15
    go_wp2_with fail
    rw [← hX]
    clear hX
    go_wp2
    (try simp only [Exit.inBlock, Exit.then])
    refine bodyPost_ret (v := .tuple #[.agg #[.slice none 0 0, .slice none 0 0], .int .i64 3]) ?_ rfl (addS_nil ?_)
    · rw [results_cell_tmp1 rfl]
      go_simp
    · exact unhide HB
  by_cases s2 : 120 < s
  · have R : Hid (nextD N T s (p, h, k, o, L) = 3) := next_range (.inr s2)
    obtain ⟨rfl, rfl, rfl⟩ : ([] : List Int) = N' ∧ ([] : List BlkD) = T' ∧ 3 = x := by
      have q := unhide HXX
      rw [unhide R, if_pos (by decide)] at q
      exact ⟨congrArg (·.1) q, congrArg (·.2.1) q, congrArg (·.2.2) q⟩
    obtain rfl : 0 = n' := unhide HNN
    have z0 := cell_of hX2 0 _ rfl
    have z1 := cell_of hX2 1 _ rfl
    have f0 := frozen_of hX2 0
    have f1 := frozen_of hX2 1
    have zl := lt_of_block hX2
    clear hbX hX0 hX1 hX2 hXs hN hT sN sT hL sL hc hx hn' hl h24 hH hgo R LAST HXX HNN
    go_enter Try.func15, Try.ntmps15
    go_wp2_with fail
    rw [← hX]
    clear hX
    go_wp2
    (try simp only [Exit.inBlock, Exit.then])
    refine bodyPost_ret (v := .tuple #[.agg #[.slice none 0 0, .slice none 0 0], .int .i64 3]) ?_ rfl (addS_nil ?_)
    · rw [results_cell_tmp1 rfl]
      go_simp
    · exact unhide HB
  have S1 := hide s1
  have S2 := hide s2
  have SLN := hide sN.len
  clear hbX hX0 hX1 hX2 hXs hN hT sN sT hL sL hc hx hn' hl h24 hH hgo
  go_enter Try.func15, Try.ntmps15
  go_wp2_with fail
  rw [← hX]
  clear hX
  refine wp_region_held_drew (S := SAd X w.heap.size (w.heap.size + 1) a n c b d p h k o ta tn tc) (by kernel_rfl) ((unhide KS) _ (bel_draw1 _)) (fun hHeld => ?_)
  refine wpAnyH_take (i := 0) (oi := { dst := some 19, op := Go.Op.fieldAddr 25 (Go.Operand.tmp 3) 0, type := 0, pos := "second.go:349", after := #[], guard := none }) (v := ?_) rfl (by kernel_rfl) (by kernel_rfl) (by kernel_rfl) (fun _ _ _ h => h) (Or.inl ⟨by rfl, ?_⟩) hHeld ?_
  rotate_left
  · (intro W hSw; unfold SAd at hSw; go_simp; first | done | with_reducible rfl)
  (try simp only [Act.put, List.setIfInBounds_toArray, List.set_cons_zero, List.set_cons_succ])
  refine wpAnyH_take (i := 1) (oi := { dst := some 20, op := Go.Op.load 22 (Go.Operand.tmp 19), type := 22, pos := "second.go:349", after := #[{ on := 0, ground := Go.Ground.data }], guard := none }) (v := ?_) rfl (by kernel_rfl) (by kernel_rfl) (by kernel_rfl) (fun _ _ _ h => h) (Or.inl ⟨by rfl, ?_⟩) hHeld ?_
  rotate_left
  · (intro W hSw; unfold SAd at hSw; go_simp; first | done | with_reducible rfl)
  (try simp only [Act.put, List.setIfInBounds_toArray, List.set_cons_zero, List.set_cons_succ])
  refine wpAnyH_take (i := 3) (oi := { dst := some 22, op := Go.Op.move (Go.Operand.tmp 1), type := 3, pos := "second.go:349", after := #[], guard := none }) (v := ?_) rfl (by kernel_rfl) (by kernel_rfl) (by kernel_rfl) (fun _ _ _ h => h) (Or.inl ⟨by rfl, ?_⟩) hHeld ?_
  rotate_left
  · (intro W hSw; unfold SAd at hSw; go_simp; first | done | with_reducible rfl)
  (try simp only [Act.put, List.setIfInBounds_toArray, List.set_cons_zero, List.set_cons_succ])
  refine wpAnyH_take (i := 6) (oi := { dst := some 25, op := Go.Op.fieldAddr 25 (Go.Operand.tmp 3) 1, type := 0, pos := "second.go:349", after := #[], guard := none }) (v := ?_) rfl (by kernel_rfl) (by kernel_rfl) (by kernel_rfl) (fun _ _ _ h => h) (Or.inl ⟨by rfl, ?_⟩) hHeld ?_
  rotate_left
  · (intro W hSw; unfold SAd at hSw; go_simp; first | done | with_reducible rfl)
  (try simp only [Act.put, List.setIfInBounds_toArray, List.set_cons_zero, List.set_cons_succ])
  refine wpAnyH_take (i := 7) (oi := { dst := some 26, op := Go.Op.load 23 (Go.Operand.tmp 25), type := 23, pos := "second.go:349", after := #[{ on := 6, ground := Go.Ground.data }], guard := none }) (v := ?_) rfl (by kernel_rfl) (by kernel_rfl) (by kernel_rfl) (fun _ _ _ h => h) (Or.inl ⟨by rfl, ?_⟩) hHeld ?_
  rotate_left
  · (intro W hSw; unfold SAd at hSw; go_simp; first | done | with_reducible rfl)
  (try simp only [Act.put, List.setIfInBounds_toArray, List.set_cons_zero, List.set_cons_succ])
  refine wpAnyH_take (i := 9) (oi := { dst := some 28, op := Go.Op.load 28 (Go.Operand.tmp 5), type := 28, pos := "second.go:349", after := #[], guard := none }) (v := ?_) rfl (by kernel_rfl) (by kernel_rfl) (by kernel_rfl) (fun _ _ _ h => h) (Or.inl ⟨by rfl, ?_⟩) hHeld ?_
  rotate_left
  · (intro W hSw; unfold SAd at hSw; go_simp; first | done | with_reducible rfl)
  (try simp only [Act.put, List.setIfInBounds_toArray, List.set_cons_zero, List.set_cons_succ])
  refine added_0000 a b n c d N T s p h k o ta tn tc w.heap.size (w.heap.size + 1) w X (unhide AD) _ _ _ _ _ _ _ _ _ _ _ _ _ _ _ _ _ _ _ _ _ _ _ _ _ _ _ _ _ _ _ _ _ _ _ _ _ _ _ _ _ _ _ _ _ _ _ _ _ _ _ _ _ _ _ _ _ _ _ _ _ _ _ _ _ _ _ _ ?_ _ _ _ _ _ _ _ _ X.drew hHeld
  intro v1 g4 g cap v2 K g10 g2 cap2 g13 W hS o5 o11 hK h13 l13
  dsimp only
  obtain ⟨V, hV⟩ : ∃ V, V = (W.setCell ⟨g13, 0, none⟩ (.slice (some ⟨g, 0, none⟩) (n + 1) cap)).setCell ⟨g13, 1, none⟩ (.slice (some ⟨g2, 0, none⟩) (n + 1) cap2) := ⟨_, rfl⟩
  have hG : Gr W V (fun q => q = g13) := by rw [hV]; exact ((Gr.refl W (fun q => q = g13)).one g13 0 (.inl rfl) _).one g13 1 (.inl rfl) _
  have hbV : Below X.heap.size X V := hG.below hS.1 hS.1.size (fun q e => by omega)
  have bx : V.heap[g13]? = some (.cells [(.slice (some ⟨g, 0, none⟩) (n + 1) cap), (.slice (some ⟨g2, 0, none⟩) (n + 1) cap2)].toArray 25 (0, 0)) := by rw [hV]; exact set_cells (X := [(.slice (some ⟨g, 0, none⟩) (n + 1) cap), .slice none 0 0]) (set_cells (X := [.slice none 0 0, .slice none 0 0]) h13 0 (.slice (some ⟨g, 0, none⟩) (n + 1) cap)) 1 (.slice (some ⟨g2, 0, none⟩) (n + 1) cap2)
  have o5V := hG.own o5 (fun q hq e => own_type_ne (t := 25) (cs := #[.slice none 0 0, .slice none 0 0]) o5 hq (by rw [show q = g13 from e]; exact h13) (by decide))
  have o11V := hG.own o11 (fun q hq e => own_type_ne (t := 25) (cs := #[.slice none 0 0, .slice none 0 0]) o11 hq (by rw [show q = g13 from e]; exact h13) (by decide))
  rw [← hV]
  have HKK := hide hK
  have L13 := hide l13
  have h1 := (hbV.block _ (lt_of_block (unhide HX1))).trans (unhide HX1)
  have b0 := cell_of h1 0 _ rfl
  have b1 := cell_of h1 1 _ rfl
  have b2 := cell_of h1 2 _ rfl
  have b3 := cell_of h1 3 _ rfl
  have b4 := cell_of h1 4 _ rfl
  have bl := lt_of_block h1
  obtain ⟨y, hy⟩ : ∃ y, chkB (p, h, k, o, L) = y := ⟨_, rfl⟩
  have CT := hide (rchkBlock_any p h k o ta tn tc L y V ((unhide HL).later (bel_on (unhide HB) hbV)) hy)
  have HY := hide hy
  have HBV := hide hbV
  have BX := hide bx
  have O5 := hide o5V
  have O11 := hide o11V
  clear hV hG hS o5 o11 hK h13 l13 o5V o11V h1 hy bx hbV
  go_wp2_with fail
  refine (unhide CT).mono ?_
  rintro e w2 ⟨rfl, hb2⟩
  have HB2 := hide (bel_on (unhide HBV) hb2)
  have O52 := hide ((Gr.of (S := fun _ => False) hb2).own (unhide O5) (fun _ _ q => q))
  have O112 := hide ((Gr.of (S := fun _ => False) hb2).own (unhide O11) (fun _ _ q => q))
  have bx2 := (hb2.block _ (lt_of_block (unhide BX))).trans (unhide BX)
  have BX2 := hide bx2
  have e0 := cell_of bx2 0 _ rfl
  have e1 := cell_of bx2 1 _ rfl
  have el := lt_of_block bx2
  clear hb2 bx2 b0 b1 b2 b3 b4 bl CT O5 O11 BX HBV
  by_cases hy0 : y = 0
  · subst hy0
    obtain ⟨z, hz⟩ : ∃ z, chkTr (N ++ [s]) (T ++ [(p, h, k, o, L)]) = z := ⟨_, rfl⟩
    obtain ⟨Y, hY⟩ : ∃ Y, Y = w2.alloc (.cells #[(.slice (some ⟨g, 0, none⟩) (n + 1) cap), (.slice (some ⟨g2, 0, none⟩) (n + 1) cap2)] 25) := ⟨_, rfl⟩
    have hbY : Below w2.heap.size w2 Y := by rw [hY]; exact bel_new _ _
    have hY0 : Y.heap[w2.heap.size]? = some (.cells [(.slice (some ⟨g, 0, none⟩) (n + 1) cap), (.slice (some ⟨g2, 0, none⟩) (n + 1) cap2)].toArray 25 (0, 0)) := by rw [hY]; exact two_heap _ _ _ _
    have y0 := cell_of hY0 0 _ rfl
    have y1 := cell_of hY0 1 _ rfl
    have yl := lt_of_block hY0
    have rows := added_rows (bel_on (unhide HB) (bel_on (unhide HB2) hbY)) ((Gr.of (S := fun _ => False) hbY).own (unhide O52) (fun _ _ q => q)) ((Gr.of (S := fun _ => False) hbY).own (unhide O112) (fun _ _ q => q)) (unhide HKK) (unhide HL) (unhide SL) (unhide HZT)
    have CK := hide (rchkTree_any (some ⟨g, 0, none⟩) (some ⟨g2, 0, none⟩) (n + 1) cap (n + 1) cap2 (N ++ [s]) (T ++ [(p, h, k, o, L)]) z Y rows.1 rows.2.1 rows.2.2.1 rows.2.2.2 hz)
    have HZ : Hid (z = if n = 24 then 2 else nextD N T s (p, h, k, o, L)) := by show _ = _; rw [← hz, unhide LAST, unhide HZN]
    have HBY := hide hbY
    clear rows hz hbY hY0
    go_wp2_with fail
    rw [← hY]
    clear hY
    go_wp2_with fail
    refine (unhide CK).mono ?_
    rintro e w3 ⟨rfl, hb3⟩
    have hb23 := bel_on (unhide HBY) hb3
    have HB3 := hide (bel_on (unhide HB2) hb23)
    have O53 := hide ((Gr.of (S := fun _ => False) hb23).own (unhide O52) (fun _ _ q => q))
    have O113 := hide ((Gr.of (S := fun _ => False) hb23).own (unhide O112) (fun _ _ q => q))
    have bx3 := (hb23.block _ (lt_of_block (unhide BX2))).trans (unhide BX2)
    have HBW := hide (bel_on (unhide HB) (unhide HB3))
    clear hb3 hb23 e0 e1 el y0 y1 yl CK O52 O112 BX2 HBY HB2
    have h2 := ((unhide HB3).block _ (lt_of_block (unhide HX2))).trans (unhide HX2)
    have H2 := hide h2
    have z0 := cell_of h2 0 _ rfl
    have z1 := cell_of h2 1 _ rfl
    have f0 := frozen_of h2 0
    have f1 := frozen_of h2 1
    have zl := lt_of_block h2
    clear h2
    by_cases n4 : n = 24
    · obtain rfl : z = 2 := by rw [unhide HZ, if_pos n4]
      have N4 := hide n4
      clear n4
      have hl0 := ((unhide HB3).block _ (lt_of_block (unhide HX0))).trans (unhide HX0)
      have hl1 := ((unhide HB3).block _ (lt_of_block (unhide HX1))).trans (unhide HX1)
      have t0 := cell_of hl0 0 _ rfl
      have t1 := cell_of hl0 1 _ rfl
      have tl := lt_of_block hl0
      have v0 := cell_of hl1 0 _ rfl
      have v1' := cell_of hl1 1 _ rfl
      have vl := lt_of_block hl1
      clear hl0 hl1 bx3 O53 O113
      have hi3 := (unhide IN).later (unhide HBW)
      by_cases i3 : s ∈ N
      · have C6 := hide (containsInt_is a n c N s true w3 (unhide SLN) hi3 (by simp [i3]))
        have R : Hid (nextD N T s (p, h, k, o, L) = 6) := next_twice (by have := unhide S1; omega) (by have := unhide S2; omega) (unhide HY) i3
        obtain ⟨rfl, rfl, rfl⟩ : ([] : List Int) = N' ∧ ([] : List BlkD) = T' ∧ 6 = x := by
          have q := unhide HXX
          rw [unhide R, if_pos (by decide)] at q
          exact ⟨congrArg (·.1) q, congrArg (·.2.1) q, congrArg (·.2.2) q⟩
        obtain rfl : 0 = n' := unhide HNN
        clear i3 hi3 R
        go_wp2_with fail
        refine (unhide C6).mono ?_
        rintro e w4 ⟨rfl, rfl⟩
        go_wp2
        (try simp only [Exit.inBlock, Exit.then])
        refine bodyPost_ret (v := .tuple #[.agg #[.slice none 0 0, .slice none 0 0], .int .i64 6]) ?_ rfl (addS_nil ?_)
        · rw [results_cell_tmp1 rfl]
          go_simp
        · first | exact box2_below (unhide HBW) (by omega) (unhide HBW).size _ _ | exact box2_below (bel_on (unhide HBW) (bel_draw1 _)) (by omega) (bel_on (unhide HBW) (bel_draw1 _)).size _ _ | exact box2_below (bel_on (unhide HBW) (below_dw _ _)) (by omega) (bel_on (unhide HBW) (below_dw _ _)).size _ _
      have C6 := hide (containsInt_is a n c N s false w3 (unhide SLN) hi3 (by simp [i3]))
      obtain ⟨kk, hkk⟩ : ∃ kk, idxI p N 0 = kk := ⟨_, rfl⟩
      have C7 := hide (indexInt_is a n c N p kk w3 (unhide SLN) hi3 hkk)
      rcases idxI_fnd p N T 0 (unhide HLN) with ⟨k1, k2, k3⟩ | ⟨i, hi, k1, k2, k3⟩
      · obtain rfl : kk = -1 := by rw [← hkk, k1]
        by_cases p0 : p = 0
        · subst p0
          have NF := hide (next_form (T := T) (b := (0, h, k, o, L)) (by have := unhide S1; omega) (by have := unhide S2; omega) (unhide HY) i3 (.inl rfl))
          simp only at NF
          rw [k3] at NF
          by_cases e5 : h = 1
          · subst e5
            have R : Hid (nextD N T s (0, 1, k, o, L) = 0) := by show _ = _; rw [unhide NF]; simp [zeroB]
            obtain ⟨rfl, rfl, rfl⟩ : ([] : List Int) = N' ∧ ([] : List BlkD) = T' ∧ 12 = x := by
              have q := unhide HXX
              rw [unhide R, if_neg (by simp), if_pos (unhide N4)] at q
              exact ⟨congrArg (·.1) q, congrArg (·.2.1) q, congrArg (·.2.2) q⟩
            obtain rfl : 0 = n' := unhide HNN
            clear i3 hi3 R hkk k1 k2 k3 NF
            go_wp2_with fail
            refine (unhide C6).mono ?_
            rintro e w4 ⟨rfl, rfl⟩
            go_wp2_with fail
            refine (unhide C7).mono ?_
            rintro e w4 ⟨rfl, rfl⟩
            go_wp2_with fail
            go_quiet (fail)
            go_wp2
            (try simp only [Exit.inBlock, Exit.then])
            refine bodyPost_ret (v := .tuple #[.agg #[.slice none 0 0, .slice none 0 0], .int .i64 12]) ?_ rfl (addS_nil ?_)
            · rw [results_cell_tmp1 rfl]
              go_simp
            · first | exact box2_below (unhide HBW) (by omega) (unhide HBW).size _ _ | exact box2_below (bel_on (unhide HBW) (bel_draw1 _)) (by omega) (bel_on (unhide HBW) (bel_draw1 _)).size _ _ | exact box2_below (bel_on (unhide HBW) (below_dw _ _)) (by omega) (bel_on (unhide HBW) (below_dw _ _)).size _ _
          · have R : Hid (nextD N T s (0, h, k, o, L) = 4) := by show _ = _; rw [unhide NF]; simp [zeroB, e5]
            have g5 : (h != 1) = true := by simp [e5]
            obtain ⟨rfl, rfl, rfl⟩ : ([] : List Int) = N' ∧ ([] : List BlkD) = T' ∧ 4 = x := by
              have q := unhide HXX
              rw [unhide R, if_pos (by decide)] at q
              exact ⟨congrArg (·.1) q, congrArg (·.2.1) q, congrArg (·.2.2) q⟩
            obtain rfl : 0 = n' := unhide HNN
            clear i3 hi3 R hkk k1 k2 k3 NF e5
            go_wp2_with fail
            refine (unhide C6).mono ?_
            rintro e w4 ⟨rfl, rfl⟩
            go_wp2_with fail
            refine (unhide C7).mono ?_
            rintro e w4 ⟨rfl, rfl⟩
            go_wp2_with fail
            go_quiet (fail)
            go_wp2
            (try simp only [Exit.inBlock, Exit.then])
            refine bodyPost_ret (v := .tuple #[.agg #[.slice none 0 0, .slice none 0 0], .int .i64 4]) ?_ rfl (addS_nil ?_)
            · rw [results_cell_tmp1 rfl]
              go_simp
            · first | exact box2_below (unhide HBW) (by omega) (unhide HBW).size _ _ | exact box2_below (bel_on (unhide HBW) (bel_draw1 _)) (by omega) (bel_on (unhide HBW) (bel_draw1 _)).size _ _ | exact box2_below (bel_on (unhide HBW) (below_dw _ _)) (by omega) (bel_on (unhide HBW) (below_dw _ _)).size _ _
        · have gp : (p != 0) = true := by simp [p0]
          have R : Hid (nextD N T s (p, h, k, o, L) = 5) := next_who (by have := unhide S1; omega) (by have := unhide S2; omega) (unhide HY) i3 (by simp [p0, k2])
          obtain ⟨rfl, rfl, rfl⟩ : ([] : List Int) = N' ∧ ([] : List BlkD) = T' ∧ 5 = x := by
            have q := unhide HXX
            rw [unhide R, if_pos (by decide)] at q
            exact ⟨congrArg (·.1) q, congrArg (·.2.1) q, congrArg (·.2.2) q⟩
          obtain rfl : 0 = n' := unhide HNN
          clear i3 hi3 R hkk k1 k2 k3 p0
          go_wp2_with fail
          refine (unhide C6).mono ?_
          rintro e w4 ⟨rfl, rfl⟩
          go_wp2_with fail
          refine (unhide C7).mono ?_
          rintro e w4 ⟨rfl, rfl⟩
          go_wp2_with fail
          go_wp2
          (try simp only [Exit.inBlock, Exit.then])
          refine bodyPost_ret (v := .tuple #[.agg #[.slice none 0 0, .slice none 0 0], .int .i64 5]) ?_ rfl (addS_nil ?_)
          · rw [results_cell_tmp1 rfl]
            go_simp
          · first | exact box2_below (unhide HBW) (by omega) (unhide HBW).size _ _ | exact box2_below (bel_on (unhide HBW) (bel_draw1 _)) (by omega) (bel_on (unhide HBW) (bel_draw1 _)).size _ _ | exact box2_below (bel_on (unhide HBW) (below_dw _ _)) (by omega) (bel_on (unhide HBW) (below_dw _ _)).size _ _
      · rw [Nat.zero_add] at k1
        obtain rfl : kk = (i : Nat) := by rw [← hkk, k1]
        have p0 : p ≠ 0 := fun e => by have := (chkGo_names N T [] [] (unhide HLN) (unhide HGO) p k2).1; omega
        have gp : (p != 0) = true := by simp [p0]
        have NF := hide (next_form (T := T) (b := (p, h, k, o, L)) (by have := unhide S1; omega) (by have := unhide S2; omega) (unhide HY) i3 (.inr k2))
        simp only at NF
        rw [k3] at NF
        have hin24 : i < n := by rw [← unhide HZT]; exact hi
        have hb3' := (unhide BT).later (unhide HBW)
        obtain ⟨bq, oq, rfl, hbq, hcq⟩ := hb3'.2 (by omega)
        have cq := (hcq i hi).2.1
        have bnd := (unhide HHD) _ (List.getElem_mem hi)
        obtain ⟨tt, htt⟩ : ∃ tt, T[i] = tt := ⟨_, rfl⟩
        rw [htt] at cq NF bnd
        obtain ⟨hh, hhh⟩ : ∃ hh, tt.2.1 = hh := ⟨_, rfl⟩
        rw [hhh] at cq NF bnd
        have bn1 := bnd.1
        have bn2 := bnd.2.1
        have hw1 : IntKind.i64.wrap (hh + 1) = hh + 1 := by rw [IntKind.wrap_i64]; omega
        have gk : (0 : Int) ≤ (i : Int) := by omega
        have gk2 : ¬ (i : Int) < 0 := by omega
        by_cases e5 : h = hh + 1
        · have R : Hid (nextD N T s (p, h, k, o, L) = 0) := by show _ = _; rw [unhide NF, if_neg (by simp [e5])]
          obtain ⟨rfl, rfl, rfl⟩ : ([] : List Int) = N' ∧ ([] : List BlkD) = T' ∧ 12 = x := by
            have q := unhide HXX
            rw [unhide R, if_neg (by simp), if_pos (unhide N4)] at q
            exact ⟨congrArg (·.1) q, congrArg (·.2.1) q, congrArg (·.2.2) q⟩
          obtain rfl : 0 = n' := unhide HNN
          subst e5
          have g5 : (hh + 1 != hh + 1) = false := by simp
          clear i3 hi3 R hkk k1 k2 k3 NF hb3' hcq bnd htt hhh p0
          go_wp2_with fail
          refine (unhide C6).mono ?_
          rintro e w4 ⟨rfl, rfl⟩
          go_wp2_with fail
          refine (unhide C7).mono ?_
          rintro e w4 ⟨rfl, rfl⟩
          go_wp2_with fail
          go_quiet (fail)
          go_wp2
          (try simp only [Exit.inBlock, Exit.then])
          refine bodyPost_ret (v := .tuple #[.agg #[.slice none 0 0, .slice none 0 0], .int .i64 12]) ?_ rfl (addS_nil ?_)
          · rw [results_cell_tmp1 rfl]
            go_simp
          · first | exact box2_below (unhide HBW) (by omega) (unhide HBW).size _ _ | exact box2_below (bel_on (unhide HBW) (bel_draw1 _)) (by omega) (bel_on (unhide HBW) (bel_draw1 _)).size _ _ | exact box2_below (bel_on (unhide HBW) (below_dw _ _)) (by omega) (bel_on (unhide HBW) (below_dw _ _)).size _ _
        · have R : Hid (nextD N T s (p, h, k, o, L) = 4) := by show _ = _; rw [unhide NF, if_pos e5]
          have g5 : (hh + 1 != h) = true := by simp; omega
          obtain ⟨rfl, rfl, rfl⟩ : ([] : List Int) = N' ∧ ([] : List BlkD) = T' ∧ 4 = x := by
            have q := unhide HXX
            rw [unhide R, if_pos (by decide)] at q
            exact ⟨congrArg (·.1) q, congrArg (·.2.1) q, congrArg (·.2.2) q⟩
          obtain rfl : 0 = n' := unhide HNN
          clear i3 hi3 R hkk k1 k2 k3 NF hb3' hcq bnd htt hhh e5 p0
          go_wp2_with fail
          refine (unhide C6).mono ?_
          rintro e w4 ⟨rfl, rfl⟩
          go_wp2_with fail
          refine (unhide C7).mono ?_
          rintro e w4 ⟨rfl, rfl⟩
          go_wp2_with fail
          go_quiet (fail)
          go_wp2
          (try simp only [Exit.inBlock, Exit.then])
          refine bodyPost_ret (v := .tuple #[.agg #[.slice none 0 0, .slice none 0 0], .int .i64 4]) ?_ rfl (addS_nil ?_)
          · rw [results_cell_tmp1 rfl]
            go_simp
          · first | exact box2_below (unhide HBW) (by omega) (unhide HBW).size _ _ | exact box2_below (bel_on (unhide HBW) (bel_draw1 _)) (by omega) (bel_on (unhide HBW) (bel_draw1 _)).size _ _ | exact box2_below (bel_on (unhide HBW) (below_dw _ _)) (by omega) (bel_on (unhide HBW) (below_dw _ _)).size _ _
    · obtain rfl : z = nextD N T s (p, h, k, o, L) := by rw [unhide HZ, if_neg n4]
      obtain ⟨z, hz⟩ : ∃ z, nextD N T s (p, h, k, o, L) = z := ⟨_, rfl⟩
      have HXZ := hx_of (unhide HXX)
      rw [hz] at HXZ
      rw [hz]
      by_cases z0' : z = 0
      · subst z0'
        obtain ⟨rfl, rfl, rfl⟩ : N ++ [s] = N' ∧ T ++ [(p, h, k, o, L)] = T' ∧ 0 = x := by
          have q := HXZ
          rw [if_neg (by simp), if_neg n4] at q
          exact ⟨congrArg (·.1) q, congrArg (·.2.1) q, congrArg (·.2.2) q⟩
        obtain rfl : n + 1 = n' := by rw [← unhide HNN, List.length_append, unhide HZN]; rfl
        have e0 := cell_of bx3 0 _ rfl
        have e1 := cell_of bx3 1 _ rfl
        have el := lt_of_block bx3
        have hxs := unhide HXS
        have hGF : Gr w3 ((w3.setCell ⟨w.heap.size + 2, 0, none⟩ (.slice (some ⟨g, 0, none⟩) (n + 1) cap)).setCell ⟨w.heap.size + 2, 1, none⟩ (.slice (some ⟨g2, 0, none⟩) (n + 1) cap2)) (fun q => q = w.heap.size + 2) := ((Gr.refl w3 (fun q => q = w.heap.size + 2)).one _ 0 (.inl rfl) _).one _ 1 (.inl rfl) _
        have hbF := hGF.below (unhide HBW) (unhide HBW).size (fun q e => by omega)
        have rows := added_rows hbF (hGF.own (unhide O53) (fun q hq e => by have := ((unhide O53).lt q hq).1; omega)) (hGF.own (unhide O113) (fun q hq e => by have := ((unhide O113).lt q hq).1; omega)) (unhide HKK) (unhide HL) (unhide SL) (unhide HZT)
        have RW := hide (And.intro rows hbF)
        clear rows hbF hGF bx3 HXZ hz n4
        go_wp2
        (try simp only [Exit.inBlock, Exit.then])
        refine bodyPost_ret (v := .tuple #[.agg #[(.slice (some ⟨g, 0, none⟩) (n + 1) cap), (.slice (some ⟨g2, 0, none⟩) (n + 1) cap2)], .int .i64 0]) ?_ rfl ?_
        · rw [results_cell_tmp1 rfl]
          go_simp
        · obtain ⟨⟨r1, r2, r3, r4⟩, r5⟩ := unhide RW
          exact ⟨_, _, _, _, rfl, r1, r2, r3, r4, r5⟩
      · obtain ⟨rfl, rfl, rfl⟩ : ([] : List Int) = N' ∧ ([] : List BlkD) = T' ∧ z = x := by
          have q := HXZ
          rw [if_pos z0'] at q
          exact ⟨congrArg (·.1) q, congrArg (·.2.1) q, congrArg (·.2.2) q⟩
        obtain rfl : 0 = n' := unhide HNN
        have gz : (z != 0) = true := by simp [z0']
        have gz2 : (z == 2) = false := by simp; exact next_two (by have := unhide S1; omega) (by have := unhide S2; omega) (unhide HY) hz
        clear HXZ hz n4 z0' bx3
        go_wp2
        (try simp only [Exit.inBlock, Exit.then])
        refine bodyPost_ret (v := .tuple #[.agg #[.slice none 0 0, .slice none 0 0], .int .i64 z]) ?_ rfl (addS_nil ?_)
        · rw [results_cell_tmp1 rfl]
          go_simp
        · first | exact box2_below (unhide HBW) (by omega) (unhide HBW).size _ _ | exact box2_below (bel_on (unhide HBW) (bel_draw1 _)) (by omega) (bel_on (unhide HBW) (bel_draw1 _)).size _ _ | exact box2_below (bel_on (unhide HBW) (below_dw _ _)) (by omega) (bel_on (unhide HBW) (below_dw _ _)).size _ _
  · have R : Hid (nextD N T s (p, h, k, o, L) = y) := (next_bad (by have := unhide S1; omega) (by have := unhide S2; omega) (by rw [unhide HY]; exact hy0)).trans (unhide HY)
    have gy : (y == 0) = false := by simp [hy0]
    have gy2 : (y != 0) = true := by simp [hy0]
    obtain ⟨rfl, rfl, rfl⟩ : ([] : List Int) = N' ∧ ([] : List BlkD) = T' ∧ y = x := by
      have q := unhide HXX
      rw [unhide R, if_pos hy0] at q
      exact ⟨congrArg (·.1) q, congrArg (·.2.1) q, congrArg (·.2.2) q⟩
    obtain rfl : 0 = n' := unhide HNN
    have HBW := hide (bel_on (unhide HB) (unhide HB2))
    have h2 := ((unhide HB2).block _ (lt_of_block (unhide HX2))).trans (unhide HX2)
    have z0 := cell_of h2 0 _ rfl
    have z1 := cell_of h2 1 _ rfl
    have f0 := frozen_of h2 0
    have f1 := frozen_of h2 1
    have zl := lt_of_block h2
    clear h2 R hy0 e0 e1 el
    go_wp2
    (try simp only [Exit.inBlock, Exit.then])
    refine bodyPost_ret (v := .tuple #[.agg #[.slice none 0 0, .slice none 0 0], .int .i64 y]) ?_ rfl (addS_nil ?_)
    · rw [results_cell_tmp1 rfl]
      go_simp
    · first | exact box2_below (unhide HBW) (by omega) (unhide HBW).size _ _ | exact box2_below (bel_on (unhide HBW) (bel_draw1 _)) (by omega) (bel_on (unhide HBW) (bel_draw1 _)).size _ _ | exact box2_below (bel_on (unhide HBW) (below_dw _ _)) (by omega) (bel_on (unhide HBW) (below_dw _ _)).size _ _

end Go.Proofs.Ytklekpbladmjhaa
