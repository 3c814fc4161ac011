/- Contracts of Index, Contains and Equal at ints, of has, find, heightOf, first. -/
import Derived.Test.YtklekpbladmjhaaTrMem
namespace Go.Proofs.Ytklekpbladmjhaa
open Go.RowKit

set_option maxRecDepth 10000 in
set_option maxHeartbeats 1600000 in
theorem indexInt_is (a : Option Addr) (n c : Nat) (L : List Int) (s x : Int) (w : World) (hn : n ≤ maxLen) (h : IntsAt w a n L) (hx : idxI s L 0 = x) :
    Calls Try.prog 16 #[.slice a n c, .int .i64 s] w fun e w' => e = .returned (.int .i64 x) ∧ w = w' := by
  have HL := hide h
  have HZ := hide h.1
  have HX : Hid (idxI s (L.drop 0) 0 = x) := hx
  unfold maxLen at hn
  clear h hx
  go_enter Try.func16, Try.ntmps16
  go_wp2
  go_loopw [8] (fun i wr => ∃ j : Nat, j ≤ n ∧ i = .int .i64 j ∧ w = wr ∧ Hid (idxI s (L.drop j) j = x)) (fun i _ => n - (intOf i).toNat)
  case atStart => exact ⟨0, Nat.zero_le _, rfl, rfl, HX⟩
  case round =>
    obtain ⟨j, hk, rfl, rfl, A⟩ := hrel
    clear HX
    by_cases hlt : j < n
    · have h1 : j < L.length := by rw [unhide HZ]; exact hlt
      obtain ⟨b, off, rfl, hbl, hc⟩ := (unhide HL).2 (by omega)
      have f1 := hc j h1
      have ST := hide (idxI_at s L j h1)
      obtain ⟨t, ht⟩ : ∃ t, L[j] = t := ⟨_, rfl⟩
      rw [ht] at f1 ST
      clear ht hc
      by_cases e : s = t
      · subst e
        have R : Hid ((j : Int) = x) := by show _ = _; rw [← unhide A, unhide ST, if_pos rfl]
        clear A ST
        go_wp2
        go_ret
        exact ⟨by rw [unhide R]; rfl, rfl⟩
      · have R : Hid (idxI s (L.drop (j + 1)) (j + 1) = x) := by show _ = _; rw [← unhide A, unhide ST, if_neg e]
        have g : (s == t) = false := by simp [e]
        clear A ST e
        go_wp2
        go_roundw
        case rel => exact ⟨j + 1, by omega, by go_num, (by trivial), R⟩
        case measure => simp [intOf]; omega
    · have R : Hid (x = -1) := by show _ = _; rw [← unhide A, idxI_end s L j (by rw [unhide HZ]; omega)]
      clear A
      go_wp2
      go_ret
      exact ⟨by rw [unhide R]; rfl, rfl⟩

set_option maxHeartbeats 400000 in
theorem containsInt_is (a : Option Addr) (n c : Nat) (L : List Int) (s : Int) (o : Bool) (w : World) (hn : n ≤ maxLen) (h : IntsAt w a n L) (ho : decide (s ∈ L) = o) :
    Calls Try.prog 25 #[.slice a n c, .int .i64 s] w fun e w' => e = .returned (.bool o) ∧ w = w' := by
  obtain ⟨x, hx⟩ : ∃ x, idxI s L 0 = x := ⟨_, rfl⟩
  have C := hide (indexInt_is a n c L s x w hn h hx)
  have HO : Hid (decide (0 ≤ x) = o) := by show _ = _; rw [← hx, idxI_has, ho]
  clear hn h ho hx
  go_enter Try.func25, Try.ntmps25
  go_wp2_with fail
  refine (unhide C).mono ?_
  rintro e w1 ⟨rfl, rfl⟩
  go_wp2
  go_ret
  exact ⟨by rw [← unhide HO]; rfl, rfl⟩

set_option maxHeartbeats 400000 in
theorem has_is (a b : Option Addr) (n c m d : Nat) (L : List Int) (s : Int) (o : Bool) (w : World) (hn : n ≤ maxLen) (h : IntsAt w a n L) (ho : decide (s ∈ L) = o) :
    Calls Try.prog 30 #[.agg #[.slice a n c, .slice b m d], .int .i64 s] w fun e w' => e = .returned (.bool o) ∧ Below w.heap.size w w' := by
  have hb := bel_new w (.cells #[.slice a n c, .slice b m d] 25)
  have C := hide (containsInt_is a n c L s o _ hn (h.later hb) ho)
  have HB := hide hb
  clear h ho hb
  go_enter Try.func30, Try.ntmps30
  go_wp2_with fail
  refine (unhide C).mono ?_
  rintro e w1 ⟨rfl, rfl⟩
  go_wp2
  go_ret
  exact ⟨rfl, unhide HB⟩

/-- A block's value, its transactions in memory. -/
def blkV (x : BlkD) (a : Option Addr) (n c : Nat) : Value := .agg #[.int .i64 x.1, .int .i64 x.2.1, .int .i64 x.2.2.1, .int .i64 x.2.2.2.1, .slice a n c]

set_option maxRecDepth 10000 in
set_option maxHeartbeats 1600000 in
theorem find_is (a b : Option Addr) (n c d : Nat) (N : List Int) (T : List BlkD) (s : Int) (x : BlkD) (w : World) (hn : n ≤ maxLen) (h : IntsAt w a n N) (hT : BlksAt w b n T) (hx : fnd s N T = x) :
    Calls Try.prog 31 #[.agg #[.slice a n c, .slice b n d], .int .i64 s] w fun e w' => ∃ ta tn tc, e = .returned (blkV x ta tn tc) ∧ TxsAt w ta tn x.2.2.2.2 ∧ SlOk ta tn tc ∧ Below w.heap.size w w' := by
  unfold blkV
  obtain ⟨X, hX⟩ : ∃ X, X = (w.alloc (.cells #[.slice a n c, .slice b n d] 25)).alloc (.cells #[.int .i64 0, .int .i64 0, .int .i64 0, .int .i64 0, .slice none 0 0] 28) := ⟨_, rfl⟩
  have hbX : Below w.heap.size w X := by rw [hX]; exact bel_on (bel_new _ _) (bel_new _ _)
  have x0 : X.cell? ⟨w.heap.size, 0, none⟩ = some (.slice a n c) := by rw [hX]; exact cell_later (bel_new _ _) (two_cells w _ _ _).1
  have x1 : X.cell? ⟨w.heap.size, 1, none⟩ = some (.slice b n d) := by rw [hX]; exact cell_later (bel_new _ _) (two_cells w _ _ _).2
  have hX1 : X.heap[w.heap.size + 1]? = some (.cells [.int .i64 0, .int .i64 0, .int .i64 0, .int .i64 0, .slice none 0 0].toArray 28 (0, 0)) := by
    rw [hX]
    have := five_heap (w.alloc (.cells #[.slice a n c, .slice b n d] 25)) (.int .i64 0) (.int .i64 0) (.int .i64 0) (.int .i64 0) (.slice none 0 0) 28
    rw [show (w.alloc (.cells #[.slice a n c, .slice b n d] 25)).heap.size = w.heap.size + 1 by simp] at this
    exact this
  have z0 := cell_of hX1 0 _ rfl
  have z1 := cell_of hX1 1 _ rfl
  have z2 := cell_of hX1 2 _ rfl
  have z3 := cell_of hX1 3 _ rfl
  have z4 := cell_of hX1 4 _ rfl
  have y0 := frozen_of hX1 0
  have y1 := frozen_of hX1 1
  have y2 := frozen_of hX1 2
  have y3 := frozen_of hX1 3
  have y4 := frozen_of hX1 4
  have xl := lt_of_block hX1
  obtain ⟨k, hk⟩ : ∃ k, idxI s N 0 = k := ⟨_, rfl⟩
  have C := hide (indexInt_is a n c N s k X hn (h.later hbX) hk)
  have HBX := hide hbX
  have HT := hide hT
  rcases idxI_fnd s N T 0 (by rw [h.1, hT.1]) with ⟨h1, _, h3⟩ | ⟨i, hi, h1, _, h3⟩
  · rw [hx] at h3
    obtain rfl : k = -1 := by rw [← hk, h1]
    subst h3
    clear h hT hx hX1 hbX hk h1
    unfold zeroB
    simp only
    go_enter Try.func31, Try.ntmps31
    go_wp2_with fail
    rw [← hX]
    clear hX
    refine (unhide C).mono ?_
    rintro e w1 ⟨rfl, rfl⟩
    go_wp2
    (try simp only [Exit.inBlock, Exit.then])
    refine bodyPost_ret (v := .agg #[.int .i64 0, .int .i64 0, .int .i64 0, .int .i64 0, .slice none 0 0]) ?_ rfl ⟨none, 0, 0, rfl, RowsAt.nil _ _, ⟨Nat.le_refl _, Nat.zero_le _, fun _ => ⟨rfl, rfl⟩⟩, ?_⟩
    · rw [results_cell1 rfl]
      go_simp
    · exact (((((Gr.refl X (fun q => q = w.heap.size + 1)).one (w.heap.size + 1) 0 (.inl rfl) _).one (w.heap.size + 1) 1 (.inl rfl) _).one (w.heap.size + 1) 2 (.inl rfl) _).one (w.heap.size + 1) 3 (.inl rfl) _).one (w.heap.size + 1) 4 (.inl rfl) _ |>.below (unhide HBX) (by omega) (fun k hk => by omega)
  · rw [hx] at h3
    obtain rfl : k = (i : Int) := by rw [← hk, h1]; simp
    have hin : i < n := by rw [← hT.1]; exact hi
    obtain ⟨bb, off, rfl, hbl, hcell⟩ := hT.2 (by omega)
    have hat := hcell i hi
    rw [← h3] at hat
    obtain ⟨g0, g1, g2, g3, ta, tn, tc, g4, ht, hs⟩ := hat
    have HTX := hide ht
    have HSX := hide hs
    have k0 := cell_later hbX g0
    have k1 := cell_later hbX g1
    have k2 := cell_later hbX g2
    have k3 := cell_later hbX g3
    have k4 := cell_later hbX g4
    have bl := Nat.lt_of_lt_of_le hbl hbX.size
    clear h hT hx hX1 hbX hk h1 hcell ht hs g0 g1 g2 g3 g4 h3
    go_enter Try.func31, Try.ntmps31
    go_wp2_with fail
    rw [← hX]
    clear hX
    refine (unhide C).mono ?_
    rintro e w1 ⟨rfl, rfl⟩
    go_wp2
    (try simp only [Exit.inBlock, Exit.then])
    refine bodyPost_ret (v := .agg #[.int .i64 x.1, .int .i64 x.2.1, .int .i64 x.2.2.1, .int .i64 x.2.2.2.1, .slice ta tn tc]) ?_ rfl ⟨ta, tn, tc, rfl, unhide HTX, unhide HSX, ?_⟩
    · rw [results_cell1 rfl]
      go_simp
    · exact (((((Gr.refl X (fun q => q = w.heap.size + 1)).one (w.heap.size + 1) 0 (.inl rfl) _).one (w.heap.size + 1) 1 (.inl rfl) _).one (w.heap.size + 1) 2 (.inl rfl) _).one (w.heap.size + 1) 3 (.inl rfl) _).one (w.heap.size + 1) 4 (.inl rfl) _ |>.below (unhide HBX) (by omega) (fun k hk => by omega)

theorem field_blk (p h k n v : Value) (w : World) :
    (Instr.field 28 (.agg #[p, h, k, n, v]) 0).run Try.prog w = .ok p w ∧ (Instr.field 28 (.agg #[p, h, k, n, v]) 1).run Try.prog w = .ok h w ∧ (Instr.field 28 (.agg #[p, h, k, n, v]) 2).run Try.prog w = .ok k w := by
  refine ⟨?_, ?_, ?_⟩ <;> kernel_rfl

set_option maxRecDepth 10000 in
set_option maxHeartbeats 400000 in
theorem heightOf_is (a b : Option Addr) (n c d : Nat) (N : List Int) (T : List BlkD) (s z : Int) (w : World) (hn : n ≤ maxLen) (h : IntsAt w a n N) (hT : BlksAt w b n T) (hz : (fnd s N T).2.1 = z) :
    Calls Try.prog 45 #[.agg #[.slice a n c, .slice b n d], .int .i64 s] w fun e w' => e = .returned (.int .i64 z) ∧ Below w.heap.size w w' := by
  have hb := bel_new w (.cells #[.slice a n c, .slice b n d] 25)
  have C := find_is a b n c d N T s _ _ hn (h.later hb) (hT.later hb) rfl
  unfold blkV at C
  rw [hz] at C
  have C := hide C
  have HB := hide hb
  clear h hT hz hb
  go_enter Try.func45, Try.ntmps45
  go_wp2_with fail
  refine (unhide C).mono ?_
  rintro e w1 ⟨ta, tn, tc, rfl, _, _, hb1⟩
  have HB1 := hide (bel_on (unhide HB) hb1)
  have hf := (field_blk (.int .i64 (fnd s N T).1) (.int .i64 z) (.int .i64 (fnd s N T).2.2.1) (.int .i64 (fnd s N T).2.2.2.1) (.slice ta tn tc) w1).2.1
  clear hb1
  go_wp2
  go_ret
  exact ⟨rfl, unhide HB1⟩

end Go.Proofs.Ytklekpbladmjhaa
