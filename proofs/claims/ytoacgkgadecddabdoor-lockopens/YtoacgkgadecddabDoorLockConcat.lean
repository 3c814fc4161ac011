/- The contract of slices.Concat at two slices of orders, few together. -/
import Derived.Test.YtoacgkgadecddabDoorLockLocked
import Derived.Laws.AppendOwnNone
namespace Go.Proofs.YtoacgkgadecddabDoor
open Go.RowKit

/-- The cells of orders. -/
def flat : List (Int × Int) → List Value
  | [] => []
  | o :: r => .int .i64 o.1 :: .int .i64 o.2 :: flat r

theorem flat_len : ∀ l : List (Int × Int), (flat l).length = l.length * 2
  | [] => rfl
  | _ :: r => by simp only [flat, List.length_cons, flat_len r]; omega
theorem flat_append : ∀ l m : List (Int × Int), flat (l ++ m) = flat l ++ flat m
  | [], _ => rfl
  | _ :: r, m => by simp only [List.cons_append, flat, flat_append r m]
theorem flat_at : ∀ (l : List (Int × Int)) (i : Nat), i < l.length → (flat l)[i * 2]? = some (.int .i64 (l.getD i (0, 0)).1) ∧ (flat l)[i * 2 + 1]? = some (.int .i64 (l.getD i (0, 0)).2)
  | [], i, h => absurd h (by simp)
  | o :: r, 0, _ => ⟨rfl, rfl⟩
  | o :: r, i + 1, h => by
    have := flat_at r i (by simpa using h)
    have e : (i + 1) * 2 = i * 2 + 2 := by omega
    rw [e]
    exact this
theorem flat_one : ∀ (l : List (Int × Int)) (u : Value), u ∈ flat l → u.oneCell' = true
  | [], _, h => by cases h
  | o :: r, u, h => by
    simp only [flat, List.mem_cons] at h
    rcases h with rfl | rfl | h
    · rfl
    · rfl
    · exact flat_one r u h

/-- The cells of orders in memory, one by one. -/
theorem OpsAt.flat {w : World} {x : Addr} {len : Nat} {l : List (Int × Int)} (h : OpsAt w (some x) len l) (j : Nat) (u : Value) (hj : (flat l)[j]? = some u) : w.cell? (x.add j) = some u := by
  have hjl : j < (YtoacgkgadecddabDoor.flat l).length := by
    rcases Nat.lt_or_ge j (YtoacgkgadecddabDoor.flat l).length with h | h
    · exact h
    · rw [List.getElem?_eq_none h] at hj; cases hj
  rw [flat_len] at hjl
  have hz := h.1
  obtain ⟨b, off, hx, hc⟩ := h.2 (by omega)
  cases hx
  have hadd : (⟨b, off, none⟩ : Addr).add j = ⟨b, off + j, none⟩ := by unfold Addr.add; split <;> simp_all
  rw [hadd]
  obtain ⟨i, hi | hi⟩ : ∃ i, j = i * 2 ∨ j = i * 2 + 1 := ⟨j / 2, by omega⟩
  · subst hi
    have f := (flat_at l i (by omega)).1
    rw [f] at hj
    rw [(hc i (by omega)).1]; exact hj
  · subst hi
    have f := (flat_at l i (by omega)).2
    rw [f] at hj
    rw [← Nat.add_assoc, (hc i (by omega)).2]; exact hj

theorem ops_of_own {w : World} {base : Nat} {e : TypeId} {v : Value} {n : Nat} {l : List (Int × Int)} (h : w.ownsRow base e 2 v n (flat l)) : ∃ a cap, v = .slice a n cap ∧ OpsAt w a n l := by
  have hl : l.length = n := by have := h.1; rw [flat_len] at this; omega
  rcases h.2 with ⟨rfl, rfl⟩ | ⟨g, cap, cur, rfl, _, _, _, _, _, _⟩
  · have e : l = [] := List.length_eq_zero_iff.1 hl
    subst e
    exact ⟨none, 0, rfl, OpsAt.nil _ _⟩
  · refine ⟨_, cap, rfl, hl, fun _ => ⟨g, 0, rfl, fun i hi => ?_⟩⟩
    have f := flat_at l i (by omega)
    rw [Nat.zero_add, World.ownsRow.cellAt h (i * 2) (by omega), World.ownsRow.cellAt h (i * 2 + 1) (by omega)]
    exact f

theorem Tryd.infoOp : (Tryd.prog.info? 36).map (fun i => (i.zero, i.size, i.bytes)) = some (some (.agg #[.int .i64 0, .int .i64 0]), 2, 16) := by kernel_rfl

theorem zero_size (z : Array Value) (n : Nat) : (Builtin.zeroCells z n).size = n * z.size := by simp [Builtin.zeroCells]

/-- Grow of nothing: it is owned, and nothing lies in it. -/
theorem grow_nil (n : Nat) (w : World) (hn : n ≤ 16) :
    Calls Tryd.prog 23 #[.slice none 0 0, .int .i64 n] w fun e w' => ∃ v, e = .returned v ∧ w'.ownsRow w.heap.size 36 2 v 0 [] ∧ Below w.heap.size w w' := by
  obtain ⟨i0, hi, hz0, hz1, hz2⟩ := info_parts Tryd.infoOp
  by_cases h : n = 0
  · subst h
    exact (Any8.slices_Grow_room Tryd.growE none 0 0 0 w (Nat.le_refl _) (by omega) (by omega) (by omega)).mono fun e w' ⟨h1, h2⟩ => ⟨_, h1, ⟨rfl, Or.inl ⟨rfl, rfl⟩⟩, h2 ▸ Below.refl _ _⟩
  · refine (Any8.slices_Grow_grow Tryd.growE i0 (.agg #[.int .i64 0, .int .i64 0]) hi hz0 (by rw [hz1]; decide) none 0 0 n [] w (Nat.le_refl _) (by omega) (by rw [hz2]; omega) (by omega) (by simp) (fun _ => rfl) (fun a h => by cases h)).mono fun e w' ⟨h1, h2⟩ => ⟨_, h1, ?_, ?_⟩
    · rw [h2]
      have hge := grownCap_ge w (0 + n) 0 (Tryd.growE_ren.t 25)
      have hle := grownCap_le_maxLen w (0 + n) 0 (Tryd.growE_ren.t 25) (by unfold maxLen; omega)
      refine ⟨rfl, Or.inr ⟨w.heap.size, _, _, rfl, Nat.le_refl _, heap_alloc_new _ _, Nat.zero_le _, hle, ?_, rfl⟩⟩
      simp only [Array.size_append, zero_size, List.size_toArray, List.length_nil]
      show 0 + (0 + n - 0) * 2 + _ * 2 = _ * 2
      omega
    · rw [h2]
      exact ⟨rfl, rfl, rfl, by simp, fun k hk => Below.heap_alloc w.drew _ k hk⟩

theorem own_ge {w : World} {base : Nat} {e : TypeId} {size : Nat} {v : Value} {n : Nat} {xs : List Value} (h : w.ownsRow base e size v n xs) (k : Nat) (hk : v.ownBlock = some k) : base ≤ k := by
  rcases h.2 with ⟨rfl, _⟩ | ⟨g, cap, cur, rfl, hg, _⟩
  · cases hk
  · cases hk; exact hg

set_option maxRecDepth 100000 in
set_option maxHeartbeats 3200000 in
theorem concat_two (B : Nat) (ak a : Option Addr) (lenk capk len cap : Nat) (k l : List (Int × Int)) (w : World) (hsum : lenk + len ≤ 16) (hK : OpsAt w ak lenk k) (hL : OpsAt w a len l)
    (hkn : ak = none → lenk = 0 ∧ capk = 0) (hln : a = none → len = 0 ∧ cap = 0)
    (c0 : w.cell? ⟨B, 0, none⟩ = some (.slice ak lenk capk)) (c1 : w.cell? ⟨B, 1, none⟩ = some (.slice a len cap)) :
    Calls Tryd.prog 13 #[.slice (some ⟨B, 0, none⟩) 2 2] w fun e w' => ∃ a' cap', e = .returned (.slice a' (lenk + len) cap') ∧ OpsAt w' a' (lenk + len) (k ++ l) ∧ Below w.heap.size w w' := by
  obtain ⟨i0, hi, hz0, hz1, hz2⟩ := info_parts Tryd.infoOp
  have hBl : B < w.heap.size := World.block_lt_of_cell? _ _ c0
  have hzk := hK.1
  have hzl := hL.1
  have HK := hide hK
  have HL := hide hL
  have HKN := hide hkn
  have HLN := hide hln
  have HZK := hide hzk
  have HZL := hide hzl
  clear hK hL hkn hln hzk hzl
  go_enter Tryd.func13, Tryd.ntmps13
  go_wp2
  refine wp_loop_rounds 3 ?_
  rw [rounds_succ]
  go_wp2
  rw [rounds_succ]
  go_wp2
  rw [rounds_succ]
  have GR := hide (grow_nil (lenk + len) w hsum)
  rw [Int.natCast_add] at GR
  go_wp2_with fail
  refine (unhide GR).mono ?_
  rintro e w1 ⟨v, rfl, hw1, hb1⟩
  have HW1 := hide hw1
  have HB1 := hide hb1
  have c01 := (hb1.cell (p := ⟨B, 0, none⟩) hBl).trans c0
  have c11 := (hb1.cell (p := ⟨B, 1, none⟩) hBl).trans c1
  clear hw1 hb1
  rcases ak with _ | x
  · rcases a with _ | y
    · go_wp2
      refine wp_loop_rounds 3 ?_
      rw [rounds_succ]
      obtain ⟨rfl, rfl⟩ := (unhide HKN) (by trivial)
      have ek : k = [] := List.length_eq_zero_iff.1 (unhide HZK)
      subst ek
      go_wp2_with (at_builtin; refine wpList_append_own_none rfl _ _ 22 rfl w.heap.size 36 i0 2 Tryd.underlying22 hi _ _ _ rfl (unhide HW1) rfl ?_)
      have HW2 : Hid (w1.ownsRow w.heap.size 36 2 v (0 + 0) (flat [])) := unhide HW1
      have HB2 := HB1
      have c02 := c01
      have c12 := c11
      clear c01 c11
      go_wp2
      rw [rounds_succ]
      obtain ⟨rfl, rfl⟩ := (unhide HLN) (by trivial)
      have el : l = [] := List.length_eq_zero_iff.1 (unhide HZL)
      subst el
      go_wp2_with (at_builtin; refine wpList_append_own_none rfl _ _ 22 rfl w.heap.size 36 i0 2 Tryd.underlying22 hi _ _ _ rfl (unhide HW2) rfl ?_)
      have HW3 := HW2
      have HB3 := HB2
      have HO := hide (ops_of_own (l := [] ++ []) (by simpa using unhide HW3))
      obtain ⟨a', cap', hv, hO⟩ := unhide HO
      have HV := hide hv
      have HO2 := hide hO
      clear hv hO c02 c12
      go_wp2
      rw [rounds_succ]
      go_wp2
      go_ret
      refine ⟨a', cap', ?_, ?_, unhide HB3⟩
      · rw [unhide HV]; simp
      · simpa using unhide HO2
    · go_wp2
      refine wp_loop_rounds 3 ?_
      rw [rounds_succ]
      obtain ⟨rfl, rfl⟩ := (unhide HKN) (by trivial)
      have ek : k = [] := List.length_eq_zero_iff.1 (unhide HZK)
      subst ek
      go_wp2_with (at_builtin; refine wpList_append_own_none rfl _ _ 22 rfl w.heap.size 36 i0 2 Tryd.underlying22 hi _ _ _ rfl (unhide HW1) rfl ?_)
      have HW2 : Hid (w1.ownsRow w.heap.size 36 2 v (0 + 0) (flat [])) := unhide HW1
      have HB2 := HB1
      have c02 := c01
      have c12 := c11
      clear c01 c11
      go_wp2
      rw [rounds_succ]
      go_wp2_with (at_builtin; refine wpList_append_own _ rfl _ _ 22 rfl w.heap.size 36 i0 (.agg #[.int .i64 0, .int .i64 0]) 2 16 Tryd.underlying22 hi hz0 hz1 hz2 rfl (by decide) _ _ _ rfl (unhide HW2) y len cap (flat l) rfl (by rw [flat_len, unhide HZL]) (fun j u hj => ((unhide HL).later (unhide HB2)).flat j u hj) (fun u hu => flat_one l u hu) (by unfold maxLen; omega) (by omega) (unhide HB2).size ?_; intro v2 w3 hown3 hgrow3 _)
      have HW3 : Hid (w3.ownsRow w.heap.size 36 2 v2 ((0 + 0) + len) (flat ([] ++ l))) := by rw [flat_append]; exact hown3
      have HB3 := hide ((unhide HB2).grown hgrow3 (unhide HB2).size (own_ge (unhide HW2)))
      clear hown3 hgrow3
      have HO := hide (ops_of_own (by simpa using unhide HW3))
      obtain ⟨a', cap', hv, hO⟩ := unhide HO
      have HV := hide hv
      have HO2 := hide hO
      clear hv hO c02 c12
      go_wp2
      rw [rounds_succ]
      go_wp2
      go_ret
      refine ⟨a', cap', ?_, ?_, unhide HB3⟩
      · rw [unhide HV]; simp
      · simpa using unhide HO2
  · rcases a with _ | y
    · go_wp2
      refine wp_loop_rounds 3 ?_
      rw [rounds_succ]
      go_wp2_with (at_builtin; refine wpList_append_own _ rfl _ _ 22 rfl w.heap.size 36 i0 (.agg #[.int .i64 0, .int .i64 0]) 2 16 Tryd.underlying22 hi hz0 hz1 hz2 rfl (by decide) _ _ _ rfl (unhide HW1) x lenk capk (flat k) rfl (by rw [flat_len, unhide HZK]) (fun j u hj => ((unhide HK).later (unhide HB1)).flat j u hj) (fun u hu => flat_one k u hu) (by unfold maxLen; omega) (by omega) (unhide HB1).size ?_; intro v1 w2 hown2 hgrow2 _)
      have HW2 : Hid (w2.ownsRow w.heap.size 36 2 v1 (0 + lenk) (flat k)) := hide (by simpa using hown2)
      have HB2 := hide ((unhide HB1).grown hgrow2 (unhide HB1).size (own_ge (unhide HW1)))
      have c02 := ((unhide HB2).cell (p := ⟨B, 0, none⟩) hBl).trans c0
      have c12 := ((unhide HB2).cell (p := ⟨B, 1, none⟩) hBl).trans c1
      clear hown2 hgrow2
      clear c01 c11
      go_wp2
      rw [rounds_succ]
      obtain ⟨rfl, rfl⟩ := (unhide HLN) (by trivial)
      have el : l = [] := List.length_eq_zero_iff.1 (unhide HZL)
      subst el
      go_wp2_with (at_builtin; refine wpList_append_own_none rfl _ _ 22 rfl w.heap.size 36 i0 2 Tryd.underlying22 hi _ _ _ rfl (unhide HW2) rfl ?_)
      have HW3 := HW2
      have HB3 := HB2
      have HO := hide (ops_of_own (l := k ++ []) (by simpa using unhide HW3))
      obtain ⟨a', cap', hv, hO⟩ := unhide HO
      have HV := hide hv
      have HO2 := hide hO
      clear hv hO c02 c12
      go_wp2
      rw [rounds_succ]
      go_wp2
      go_ret
      refine ⟨a', cap', ?_, ?_, unhide HB3⟩
      · rw [unhide HV]; simp
      · simpa using unhide HO2
    · go_wp2
      refine wp_loop_rounds 3 ?_
      rw [rounds_succ]
      go_wp2_with (at_builtin; refine wpList_append_own _ rfl _ _ 22 rfl w.heap.size 36 i0 (.agg #[.int .i64 0, .int .i64 0]) 2 16 Tryd.underlying22 hi hz0 hz1 hz2 rfl (by decide) _ _ _ rfl (unhide HW1) x lenk capk (flat k) rfl (by rw [flat_len, unhide HZK]) (fun j u hj => ((unhide HK).later (unhide HB1)).flat j u hj) (fun u hu => flat_one k u hu) (by unfold maxLen; omega) (by omega) (unhide HB1).size ?_; intro v1 w2 hown2 hgrow2 _)
      have HW2 : Hid (w2.ownsRow w.heap.size 36 2 v1 (0 + lenk) (flat k)) := hide (by simpa using hown2)
      have HB2 := hide ((unhide HB1).grown hgrow2 (unhide HB1).size (own_ge (unhide HW1)))
      have c02 := ((unhide HB2).cell (p := ⟨B, 0, none⟩) hBl).trans c0
      have c12 := ((unhide HB2).cell (p := ⟨B, 1, none⟩) hBl).trans c1
      clear hown2 hgrow2
      clear c01 c11
      go_wp2
      rw [rounds_succ]
      go_wp2_with (at_builtin; refine wpList_append_own _ rfl _ _ 22 rfl w.heap.size 36 i0 (.agg #[.int .i64 0, .int .i64 0]) 2 16 Tryd.underlying22 hi hz0 hz1 hz2 rfl (by decide) _ _ _ rfl (unhide HW2) y len cap (flat l) rfl (by rw [flat_len, unhide HZL]) (fun j u hj => ((unhide HL).later (unhide HB2)).flat j u hj) (fun u hu => flat_one l u hu) (by unfold maxLen; omega) (by omega) (unhide HB2).size ?_; intro v2 w3 hown3 hgrow3 _)
      have HW3 : Hid (w3.ownsRow w.heap.size 36 2 v2 ((0 + lenk) + len) (flat (k ++ l))) := by rw [flat_append]; exact hown3
      have HB3 := hide ((unhide HB2).grown hgrow3 (unhide HB2).size (own_ge (unhide HW2)))
      clear hown3 hgrow3
      have HO := hide (ops_of_own (by simpa using unhide HW3))
      obtain ⟨a', cap', hv, hO⟩ := unhide HO
      have HV := hide hv
      have HO2 := hide hO
      clear hv hO c02 c12
      go_wp2
      rw [rounds_succ]
      go_wp2
      go_ret
      refine ⟨a', cap', ?_, ?_, unhide HB3⟩
      · rw [unhide HV]; simp
      · simpa using unhide HO2

end Go.Proofs.YtoacgkgadecddabDoor
