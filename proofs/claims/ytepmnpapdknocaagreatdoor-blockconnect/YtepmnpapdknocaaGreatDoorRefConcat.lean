/- The contract of slices.Concat at two slices of coins. -/
import Derived.Test.YtepmnpapdknocaaGreatDoorCoinGr
import Derived.Test.YtepmnpapdknocaaGreatDoorShelf
namespace Go.Proofs.YtepmnpapdknocaaGreatDoor
open Go.RowKit

theorem zeroC_size (z : Array Value) (n : Nat) : (Builtin.zeroCells z n).size = n * z.size := by simp [Builtin.zeroCells]

/-- Grow of nothing: it is owned, and nothing lies in it. -/
theorem growC_nil (n : Nat) (w : World) (hn : n ≤ 4096) :
    Calls Tryz.prog 123 #[.slice none 0 0, .int .i64 n] w fun e w' => ∃ v, e = .returned v ∧ w'.ownsRow w.heap.size 88 6 v 0 [] ∧ Below w.heap.size w w' := by
  obtain ⟨i0, hi, hz0, hz1, hz2⟩ := info_parts Tryz.infoCoin
  by_cases h : n = 0
  · subst h
    exact (Any8.slices_Grow_room Tryz.growC none 0 0 0 w (Nat.le_refl _) (by omega) (by omega) (by omega)).mono fun e w' ⟨h1, h2⟩ => ⟨_, h1, ⟨rfl, Or.inl ⟨rfl, rfl⟩⟩, h2 ▸ Below.refl _ _⟩
  · refine (Any8.slices_Grow_grow Tryz.growC i0 zeroC hi hz0 (by rw [hz1]; decide) none 0 0 n [] w (Nat.le_refl _) (by omega) (by rw [hz2]; omega) (by omega) (by simp) (fun _ => rfl) (fun a h => by cases h)).mono fun e w' ⟨h1, h2⟩ => ⟨_, h1, ?_, ?_⟩
    · rw [h2]
      have hge := grownCap_ge w (0 + n) 0 (Tryz.growC_ren.t 25)
      have hle := grownCap_le_maxLen w (0 + n) 0 (Tryz.growC_ren.t 25) (by unfold maxLen; omega)
      refine ⟨rfl, Or.inr ⟨w.heap.size, _, _, rfl, Nat.le_refl _, heap_alloc_new _ _, Nat.zero_le _, hle, ?_, rfl⟩⟩
      simp only [Array.size_append, zeroC_size, List.size_toArray, List.length_nil]
      show 0 + (0 + n - 0) * 6 + _ * 6 = _ * 6
      omega
    · rw [h2]
      exact ⟨rfl, rfl, rfl, by simp, fun k hk => Below.heap_alloc w.drew _ k hk⟩

theorem flat_cat (K : List CV) (M : List CV) : flatC K ++ flatC M = flatC (K ++ M) := (flatC_append K M).symm

set_option maxRecDepth 100000 in
set_option maxHeartbeats 3200000 in
theorem concatC_two (B : Nat) (x y : Addr) (lenk capk len cap : Nat) (k l : List CV) (w : World) (hsum : lenk + len ≤ 4096) (hzk : k.length = lenk) (hzl : l.length = len)
    (hK : ∀ j u, (flatC k)[j]? = some u → w.cell? (x.add j) = some u) (hL : ∀ j u, (flatC l)[j]? = some u → w.cell? (y.add j) = some u)
    (c0 : w.cell? ⟨B, 0, none⟩ = some (.slice (some x) lenk capk)) (c1 : w.cell? ⟨B, 1, none⟩ = some (.slice (some y) len cap)) :
    Calls Tryz.prog 87 #[.slice (some ⟨B, 0, none⟩) 2 2] w fun e w' => ∃ v, e = .returned v ∧ w'.ownsRow w.heap.size 88 6 v (lenk + len) (flatC (k ++ l)) ∧ Below w.heap.size w w' := by
  obtain ⟨i0, hi, hz0, hz1, hz2⟩ := info_parts Tryz.infoCoin
  have hBl : B < w.heap.size := World.block_lt_of_cell? _ _ c0
  have HK := hide hK
  have HL := hide hL
  have HZK := hide hzk
  have HZL := hide hzl
  clear hK hL hzk hzl
  go_enter Tryz.func87, Tryz.ntmps87
  go_wp2
  refine wp_loop_rounds 3 ?_
  rw [rounds_succ]
  go_wp2
  rw [rounds_succ]
  go_wp2
  rw [rounds_succ]
  have GR := hide (growC_nil (lenk + len) w hsum)
  rw [Int.natCast_add] at GR
  go_wp2_with fail
  refine (unhide GR).mono ?_
  rintro e w1 ⟨v, rfl, hw1, hb1⟩
  have HW1 := hide hw1
  have HB1 := hide hb1
  have c01 := (hb1.cell (p := ⟨B, 0, none⟩) hBl).trans c0
  have c11 := (hb1.cell (p := ⟨B, 1, none⟩) hBl).trans c1
  clear hw1 hb1
  go_wp2
  refine wp_loop_rounds 3 ?_
  rw [rounds_succ]
  go_wp2_with (at_builtin; refine wpList_append_own _ rfl _ _ 25 rfl w.heap.size 88 i0 zeroC 6 64 Tryz.underlying25 hi hz0 hz1 hz2 rfl (by decide) _ _ _ rfl (unhide HW1) x lenk capk (flatC k) rfl (by rw [flatC_len, unhide HZK]) (fun j u hj => cell_later (unhide HB1) ((unhide HK) j u hj)) (flatC_one k) (by unfold maxLen; omega) (by omega) (unhide HB1).size ?_; intro v1 w2 hown2 hgrow2 _)
  have HW2 : Hid (w2.ownsRow w.heap.size 88 6 v1 (0 + lenk) (flatC k)) := hide (by simpa using hown2)
  have HB2 := hide ((unhide HB1).grown hgrow2 (unhide HB1).size (own_lo (unhide HW1)))
  have c02 := ((unhide HB2).cell (p := ⟨B, 0, none⟩) hBl).trans c0
  have c12 := ((unhide HB2).cell (p := ⟨B, 1, none⟩) hBl).trans c1
  clear hown2 hgrow2
  clear c01 c11
  go_wp2
  rw [rounds_succ]
  go_wp2_with (at_builtin; refine wpList_append_own _ rfl _ _ 25 rfl w.heap.size 88 i0 zeroC 6 64 Tryz.underlying25 hi hz0 hz1 hz2 rfl (by decide) _ _ _ rfl (unhide HW2) y len cap (flatC l) rfl (by rw [flatC_len, unhide HZL]) (fun j u hj => cell_later (unhide HB2) ((unhide HL) j u hj)) (flatC_one l) (by unfold maxLen; omega) (by omega) (unhide HB2).size ?_; intro v2 w3 hown3 hgrow3 _)
  have HW3 : Hid (w3.ownsRow w.heap.size 88 6 v2 (lenk + len) (flatC (k ++ l))) := by
    have q := hown3
    rw [flat_cat, Nat.zero_add] at q
    exact q
  have HB3 := hide ((unhide HB2).grown hgrow3 (unhide HB2).size (own_lo (unhide HW2)))
  clear hown3 hgrow3 c02 c12
  go_wp2
  rw [rounds_succ]
  go_wp2
  go_ret
  exact ⟨v2, rfl, unhide HW3, unhide HB3⟩

end Go.Proofs.YtepmnpapdknocaaGreatDoor
