/- The contract of slices.Concat at two slices of texts, few together. -/
import Derived.Test.YtepmnpapdknocaaGreatDoorBookEq
import Derived.Test.YtepmnpapdknocaaGreatDoorShelf
namespace Go.Proofs.YtepmnpapdknocaaGreatDoor.Bk
open Go.RowKit Go.Maps

theorem zero_size (z : Array Value) (n : Nat) : (Builtin.zeroCells z n).size = n * z.size := by simp [Builtin.zeroCells]

/-- Grow of nothing: it is owned, and nothing lies in it. -/
theorem grow_nil (n : Nat) (w : World) (hn : n ≤ 240) :
    Calls Tryz.prog 149 #[.slice none 0 0, .int .i64 n] w fun e w' => ∃ v, e = .returned v ∧ w'.ownsRow w.heap.size 9 1 v 0 [] ∧ Below w.heap.size w w' := by
  obtain ⟨i0, hi, hz0, hz1, hz2⟩ := info_parts Tryz.info9
  by_cases h : n = 0
  · subst h
    exact (Any8.slices_Grow_room Tryz.growS none 0 0 0 w (Nat.le_refl _) (by omega) (by omega) (by omega)).mono fun e w' ⟨h1, h2⟩ => ⟨_, h1, ⟨rfl, Or.inl ⟨rfl, rfl⟩⟩, h2 ▸ Below.refl _ _⟩
  · refine (Any8.slices_Grow_grow Tryz.growS i0 (.string ⟨#[]⟩) hi hz0 (by rw [hz1]; decide) none 0 0 n [] w (Nat.le_refl _) (by omega) (by rw [hz2]; omega) (by omega) (by simp) (fun _ => rfl) (fun a h => by cases h)).mono fun e w' ⟨h1, h2⟩ => ⟨_, h1, ?_, ?_⟩
    · rw [h2]
      have hge := grownCap_ge w (0 + n) 0 (Tryz.growS_ren.t 25)
      have hle := grownCap_le_maxLen w (0 + n) 0 (Tryz.growS_ren.t 25) (by unfold maxLen; omega)
      refine ⟨rfl, Or.inr ⟨w.heap.size, _, _, rfl, Nat.le_refl _, heap_alloc_new _ _, Nat.zero_le _, hle, ?_, rfl⟩⟩
      simp only [Array.size_append, zero_size, List.size_toArray, List.length_nil]
      show 0 + (0 + n - 0) * 1 + _ * 1 = _ * 1
      omega
    · rw [h2]
      exact ⟨rfl, rfl, rfl, by simp, fun k hk => Below.heap_alloc w.drew _ k hk⟩

theorem TextsAt.news {w : World} {x : Addr} {len : Nat} {L : List ByteArray} (h : TextsAt w (some x) len L) (j : Nat) (u : Value) (hj : (L.map Value.string)[j]? = some u) : w.cell? (x.add j) = some u := by
  have hjl : j < L.length := by
    rcases Nat.lt_or_ge j L.length with h | h
    · exact h
    · rw [List.getElem?_eq_none (by simpa using h)] at hj; cases hj
  have hz := h.1
  obtain ⟨b, off, hx, hc⟩ := h.2 (by omega)
  cases hx
  have hadd : (⟨b, off, none⟩ : Addr).add j = ⟨b, off + j, none⟩ := by unfold Addr.add; split <;> simp_all
  rw [hadd, hc j hjl]
  simpa [hjl] using hj

set_option maxRecDepth 100000 in
set_option maxHeartbeats 3200000 in
theorem concat_two (B : Nat) (ak : Option Addr) (y : Addr) (lenk capk len cap : Nat) (k l : List ByteArray) (w : World) (hsum : lenk + len ≤ 240) (hK : TextsAt w ak lenk k) (hL : TextsAt w (some y) len l)
    (hkn : ak = none → lenk = 0 ∧ capk = 0)
    (c0 : w.cell? ⟨B, 0, none⟩ = some (.slice ak lenk capk)) (c1 : w.cell? ⟨B, 1, none⟩ = some (.slice (some y) len cap)) :
    Calls Tryz.prog 119 #[.slice (some ⟨B, 0, none⟩) 2 2] w fun e w' => ∃ a' cap', e = .returned (.slice a' (lenk + len) cap') ∧ TextsAt w' a' (lenk + len) (k ++ l) ∧ SlOk a' (lenk + len) cap' ∧ (∀ y, a' = some y → w.heap.size ≤ y.block) ∧ Below w.heap.size w w' := by
  obtain ⟨i0, hi, hz0, hz1, hz2⟩ := info_parts Tryz.info9
  have hBl : B < w.heap.size := World.block_lt_of_cell? _ _ c0
  have hzk := hK.1
  have hzl := hL.1
  have HK := hide hK
  have HL := hide hL
  have HKN := hide hkn
  have HZK := hide hzk
  have HZL := hide hzl
  clear hK hL hkn hzk hzl
  go_enter Tryz.func119, Tryz.ntmps119
  go_wp2
  refine wp_loop_rounds 3 ?_
  rw [rounds_succ]
  go_wp2
  rw [rounds_succ]
  go_wp2
  rw [rounds_succ]
  have GR := hide (grow_nil (lenk + len) w hsum)
  rw [Int.natCast_add] at GR
  go_wp2_with fail
  refine (unhide GR).mono ?_
  rintro e w1 ⟨v, rfl, hw1, hb1⟩
  have HW1 := hide hw1
  have HB1 := hide hb1
  have c01 := (hb1.cell (p := ⟨B, 0, none⟩) hBl).trans c0
  have c11 := (hb1.cell (p := ⟨B, 1, none⟩) hBl).trans c1
  clear hw1 hb1
  rcases ak with _ | x
  · go_wp2
    refine wp_loop_rounds 3 ?_
    rw [rounds_succ]
    obtain ⟨rfl, rfl⟩ := (unhide HKN) (by trivial)
    have ek : k = [] := List.length_eq_zero_iff.1 (unhide HZK)
    subst ek
    go_wp2_with (at_builtin; refine wpList_append_own_none rfl _ _ 22 rfl w.heap.size 9 i0 1 Tryz.underlying22 hi _ _ _ rfl (unhide HW1) rfl ?_)
    have HW2 : Hid (w1.ownsRow w.heap.size 9 1 v (0 + 0) (([] : List ByteArray).map Value.string)) := unhide HW1
    have HB2 := HB1
    have c02 := c01
    have c12 := c11
    clear c01 c11
    go_wp2
    rw [rounds_succ]
    go_wp2_with (at_builtin; refine wpList_append_own _ rfl _ _ 22 rfl w.heap.size 9 i0 (.string ⟨#[]⟩) 1 16 Tryz.underlying22 hi hz0 hz1 hz2 rfl (by decide) _ _ _ rfl (unhide HW2) y len cap (l.map Value.string) rfl (by rw [List.length_map, unhide HZL]; omega) (fun j u hj => ((unhide HL).later (unhide HB2)).news j u hj) (fun u hu => by obtain ⟨x, _, rfl⟩ := List.mem_map.1 hu; rfl) (by unfold maxLen; omega) (by omega) (unhide HB2).size ?_; intro v2 w3 hown3 hgrow3 _)
    have HW3 : Hid (w3.ownsRow w.heap.size 9 1 v2 ((0 + 0) + len) ((([] : List ByteArray) ++ l).map Value.string)) := by rw [List.map_append]; exact hown3
    have HB3 := hide ((unhide HB2).grown hgrow3 (unhide HB2).size (own_ge (unhide HW2)))
    clear hown3 hgrow3
    obtain ⟨a', cap', hv, s1, s2, s3, hO⟩ := texts_of_own (unhide HW3)
    have HGE : Hid (∀ y, a' = some y → w.heap.size ≤ y.block) := fun y e => own_ge (unhide HW3) y.block (by rw [hv, e]; rfl)
    have HV := hide hv
    have HO2 := hide hO
    have HOK : Hid (SlOk a' ((0 + 0) + len) cap') := ⟨s1, s2, s3⟩
    clear hv hO c02 c12 s1 s2 s3
    go_wp2
    rw [rounds_succ]
    go_wp2
    go_ret
    refine ⟨a', cap', ?_, ?_, ?_, unhide HGE, unhide HB3⟩
    · rw [unhide HV]; simp
    · simpa using unhide HO2
    · simpa using unhide HOK
  · go_wp2
    refine wp_loop_rounds 3 ?_
    rw [rounds_succ]
    go_wp2_with (at_builtin; refine wpList_append_own _ rfl _ _ 22 rfl w.heap.size 9 i0 (.string ⟨#[]⟩) 1 16 Tryz.underlying22 hi hz0 hz1 hz2 rfl (by decide) _ _ _ rfl (unhide HW1) x lenk capk (k.map Value.string) rfl (by rw [List.length_map, unhide HZK]; omega) (fun j u hj => ((unhide HK).later (unhide HB1)).news j u hj) (fun u hu => by obtain ⟨x, _, rfl⟩ := List.mem_map.1 hu; rfl) (by unfold maxLen; omega) (by omega) (unhide HB1).size ?_; intro v1 w2 hown2 hgrow2 _)
    have HW2 : Hid (w2.ownsRow w.heap.size 9 1 v1 (0 + lenk) (k.map Value.string)) := hide (by simpa using hown2)
    have HB2 := hide ((unhide HB1).grown hgrow2 (unhide HB1).size (own_ge (unhide HW1)))
    have c02 := ((unhide HB2).cell (p := ⟨B, 0, none⟩) hBl).trans c0
    have c12 := ((unhide HB2).cell (p := ⟨B, 1, none⟩) hBl).trans c1
    clear hown2 hgrow2
    clear c01 c11
    go_wp2
    rw [rounds_succ]
    go_wp2_with (at_builtin; refine wpList_append_own _ rfl _ _ 22 rfl w.heap.size 9 i0 (.string ⟨#[]⟩) 1 16 Tryz.underlying22 hi hz0 hz1 hz2 rfl (by decide) _ _ _ rfl (unhide HW2) y len cap (l.map Value.string) rfl (by rw [List.length_map, unhide HZL]; omega) (fun j u hj => ((unhide HL).later (unhide HB2)).news j u hj) (fun u hu => by obtain ⟨x, _, rfl⟩ := List.mem_map.1 hu; rfl) (by unfold maxLen; omega) (by omega) (unhide HB2).size ?_; intro v2 w3 hown3 hgrow3 _)
    have HW3 : Hid (w3.ownsRow w.heap.size 9 1 v2 ((0 + lenk) + len) ((k ++ l).map Value.string)) := by rw [List.map_append]; exact hown3
    have HB3 := hide ((unhide HB2).grown hgrow3 (unhide HB2).size (own_ge (unhide HW2)))
    clear hown3 hgrow3
    obtain ⟨a', cap', hv, s1, s2, s3, hO⟩ := texts_of_own (unhide HW3)
    have HGE : Hid (∀ y, a' = some y → w.heap.size ≤ y.block) := fun y e => own_ge (unhide HW3) y.block (by rw [hv, e]; rfl)
    have HV := hide hv
    have HO2 := hide hO
    have HOK : Hid (SlOk a' ((0 + lenk) + len) cap') := ⟨s1, s2, s3⟩
    clear hv hO c02 c12 s1 s2 s3
    go_wp2
    rw [rounds_succ]
    go_wp2
    go_ret
    refine ⟨a', cap', ?_, ?_, ?_, unhide HGE, unhide HB3⟩
    · rw [unhide HV]; simp
    · simpa using unhide HO2
    · simpa using unhide HOK

end Go.Proofs.YtepmnpapdknocaaGreatDoor.Bk
