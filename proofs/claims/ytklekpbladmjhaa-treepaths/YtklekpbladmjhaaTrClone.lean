/- Contracts of slices.Clone at ints, at orders and at records whose slices lead on. -/
import Derived.Test.YtklekpbladmjhaaTrMem
namespace Go.Proofs.Ytklekpbladmjhaa
open Go.RowKit

theorem Try.infoIntC : (Try.prog.info? 3).map (fun i => (i.zero, i.size, i.bytes)) = some (some (.int .i64 0), 1, 8) := by kernel_rfl

set_option maxRecDepth 10000 in
set_option maxHeartbeats 800000 in
theorem cloneInt_nil (w : World) : Calls Try.prog 38 #[.slice none 0 0] w fun e w' => e = .returned (.slice none 0 0) ∧ w = w' := by
  have he := fun w => Lib.run_eql_slice_nil (P := Try.prog) w 22 3 none 0 0 0 0 Try.underlying22
  go_enter Try.func38, Try.ntmps38
  go_wp2
  go_ret
  exact ⟨rfl, rfl⟩

set_option maxRecDepth 10000 in
set_option maxHeartbeats 1600000 in
theorem cloneInt_some (ad : Addr) (n c : Nat) (F : List Value) (w : World) (hn : n ≤ 4096) (hz : F.length = n * 1) (h1 : ∀ u ∈ F, u.oneCell' = true) (hc : ∀ j u, F[j]? = some u → w.cell? (ad.add j) = some u) :
    Calls Try.prog 38 #[.slice (some ad) n c] w fun e w' => ∃ v, e = .returned v ∧ w'.ownsRow w.heap.size 3 1 v n F ∧ Below w.heap.size w w' := by
  obtain ⟨i0, hi, hz0, hz1, hz2⟩ := info_parts Try.infoIntC
  have hb := bel_new w (.cells #[] 3)
  have HC : Hid (∀ j u, F[j]? = some u → (w.alloc (.cells #[] 3)).cell? (ad.add j) = some u) := fun j u hj => cell_later hb (hc j u hj)
  have HB := hide hb
  have HZ := hide hz
  have H1 := hide h1
  have HO := hide (own_nil w 3 1)
  have he := fun w => Lib.run_eql_slice_nil (P := Try.prog) w 22 3 (some ad) n c 0 0 Try.underlying22
  clear hc hb hz h1
  go_enter Try.func38, Try.ntmps38
  go_wp2_with (at_builtin; refine wpList_append_own _ rfl _ _ 22 rfl w.heap.size 3 i0 (.int .i64 0) 1 8 Try.underlying22 hi hz0 hz1 hz2 rfl (by decide) _ _ _ rfl (unhide HO) ad n c F rfl (unhide HZ) (unhide HC) (unhide H1) (by unfold maxLen; omega) (by omega) (unhide HB).size ?_; intro v2 w3 hown3 hgrow3 _)
  have HW : Hid (w3.ownsRow w.heap.size 3 1 v2 n F) := by show World.ownsRow _ _ _ _ _ _ _; simpa using hown3
  have HB3 := hide ((unhide HB).grown hgrow3 (unhide HB).size (own_lo (unhide HO)))
  clear hown3 hgrow3
  go_wp2
  go_ret
  exact ⟨v2, rfl, unhide HW, unhide HB3⟩

theorem cloneInt_any (a : Option Addr) (n c : Nat) (L : List Int) (w : World) (hn : n ≤ 4096) (h : IntsAt w a n L) (hs : SlOk a n c) :
    Calls Try.prog 38 #[.slice a n c] w fun e w' => ∃ v, e = .returned v ∧ w'.ownsRow w.heap.size 3 1 v n (L.map (Value.int .i64)) ∧ Below w.heap.size w w' := by
  obtain ⟨hl, hc⟩ := h
  cases a with
  | none =>
    obtain ⟨rfl, rfl⟩ := hs.2.2 rfl
    have e : L = [] := List.length_eq_zero_iff.1 hl
    subst e
    exact (cloneInt_nil w).mono fun e w' ⟨x, y⟩ => ⟨_, x, y ▸ World.ownsRow_nil _ _ _ _, y ▸ Below.refl _ _⟩
  | some ad =>
    refine (cloneInt_some ad n c (L.map (Value.int .i64)) w hn (by simp [hl]) (ints_oneCell _ _) (fun j u hj => ?_))
    have hjl : j < L.length := by have := (List.getElem?_eq_some_iff.1 hj).1; simpa using this
    obtain ⟨b, off, e, _, hcell⟩ := hc (by omega)
    cases e
    rw [Addr.add_lit, hcell j hjl]
    simpa [hjl] using hj

theorem Try.infoOpC : (Try.prog.info? 91).map (fun i => (i.zero, i.size, i.bytes)) = some (some (.agg #[.int .i64 0, .int .i64 0]), 2, 16) := by kernel_rfl

set_option maxRecDepth 10000 in
set_option maxHeartbeats 800000 in
theorem cloneOp_nil (w : World) : Calls Try.prog 69 #[.slice none 0 0] w fun e w' => e = .returned (.slice none 0 0) ∧ w = w' := by
  have he := fun w => Lib.run_eql_slice_nil (P := Try.prog) w 82 91 none 0 0 0 0 Try.underlying82
  go_enter Try.func69, Try.ntmps69
  go_wp2
  go_ret
  exact ⟨rfl, rfl⟩

set_option maxRecDepth 10000 in
set_option maxHeartbeats 1600000 in
theorem cloneOp_some (ad : Addr) (n c : Nat) (F : List Value) (w : World) (hn : n ≤ 4096) (hz : F.length = n * 2) (h1 : ∀ u ∈ F, u.oneCell' = true) (hc : ∀ j u, F[j]? = some u → w.cell? (ad.add j) = some u) :
    Calls Try.prog 69 #[.slice (some ad) n c] w fun e w' => ∃ v, e = .returned v ∧ w'.ownsRow w.heap.size 91 2 v n F ∧ Below w.heap.size w w' := by
  obtain ⟨i0, hi, hz0, hz1, hz2⟩ := info_parts Try.infoOpC
  have hb := bel_new w (.cells #[] 91)
  have HC : Hid (∀ j u, F[j]? = some u → (w.alloc (.cells #[] 91)).cell? (ad.add j) = some u) := fun j u hj => cell_later hb (hc j u hj)
  have HB := hide hb
  have HZ := hide hz
  have H1 := hide h1
  have HO := hide (own_nil w 91 2)
  have he := fun w => Lib.run_eql_slice_nil (P := Try.prog) w 82 91 (some ad) n c 0 0 Try.underlying82
  clear hc hb hz h1
  go_enter Try.func69, Try.ntmps69
  go_wp2_with (at_builtin; refine wpList_append_own _ rfl _ _ 82 rfl w.heap.size 91 i0 (.agg #[.int .i64 0, .int .i64 0]) 2 16 Try.underlying82 hi hz0 hz1 hz2 rfl (by decide) _ _ _ rfl (unhide HO) ad n c F rfl (unhide HZ) (unhide HC) (unhide H1) (by unfold maxLen; omega) (by omega) (unhide HB).size ?_; intro v2 w3 hown3 hgrow3 _)
  have HW : Hid (w3.ownsRow w.heap.size 91 2 v2 n F) := by show World.ownsRow _ _ _ _ _ _ _; simpa using hown3
  have HB3 := hide ((unhide HB).grown hgrow3 (unhide HB).size (own_lo (unhide HO)))
  clear hown3 hgrow3
  go_wp2
  go_ret
  exact ⟨v2, rfl, unhide HW, unhide HB3⟩

def flatO : List (Int × Int) → List Value
  | [] => []
  | o :: r => .int .i64 o.1 :: .int .i64 o.2 :: flatO r
theorem flatO_len : ∀ l : List (Int × Int), (flatO l).length = l.length * 2
  | [] => rfl
  | _ :: r => by simp only [flatO, List.length_cons, flatO_len r]; omega
theorem flatO_at : ∀ (l : List (Int × Int)) (i : Nat), i < l.length → (flatO l)[i * 2]? = some (.int .i64 (l.getD i (0, 0)).1) ∧ (flatO l)[i * 2 + 1]? = some (.int .i64 (l.getD i (0, 0)).2)
  | [], _, h => absurd h (by simp)
  | o :: r, 0, _ => ⟨rfl, rfl⟩
  | o :: r, i + 1, h => by
    have := flatO_at r i (by simpa using h)
    rw [show (i + 1) * 2 = i * 2 + 2 by omega]
    simpa [flatO] using this
theorem flatO_one : ∀ (l : List (Int × Int)) (u : Value), u ∈ flatO l → u.oneCell' = true
  | [], u, h => by cases h
  | o :: r, u, h => by
    simp only [flatO, List.mem_cons] at h
    rcases h with rfl | rfl | h
    · rfl
    · rfl
    · exact flatO_one r u h
theorem flatO_cells {w : World} {b off n : Nat} {l : List (Int × Int)} (hz : l.length = n) (hc : ∀ i, i < n → w.cell? ⟨b, off + i * 2, none⟩ = some (.int .i64 (l.getD i (0, 0)).1) ∧ w.cell? ⟨b, off + i * 2 + 1, none⟩ = some (.int .i64 (l.getD i (0, 0)).2)) (j : Nat) (u : Value) (hj : (flatO l)[j]? = some u) : w.cell? ⟨b, off + j, none⟩ = some u := by
  have hjl : j < l.length * 2 := by rw [← flatO_len]; exact (List.getElem?_eq_some_iff.1 hj).1
  obtain ⟨f0, f1⟩ := flatO_at l (j / 2) (by omega)
  obtain ⟨c0, c1⟩ := hc (j / 2) (by omega)
  rcases (show j % 2 = 0 ∨ j % 2 = 1 by omega) with q | q
  · have e : j = j / 2 * 2 := by omega
    rw [← e] at f0 c0
    rw [f0] at hj
    rw [c0, ← hj]
  · have e : j = j / 2 * 2 + 1 := by omega
    rw [← e] at f1
    rw [show off + j / 2 * 2 + 1 = off + j by omega] at c1
    rw [f1] at hj
    rw [c1, ← hj]
theorem ops_own {w : World} {base : Nat} {v : Value} {n : Nat} {l : List (Int × Int)} (h : w.ownsRow base 91 2 v n (flatO l)) : ∃ a c, v = .slice a n c ∧ OpsAt w a n l ∧ SlOk a n c := by
  have hl : l.length = n := by have := h.1; rw [flatO_len] at this; omega
  rcases h.2 with ⟨rfl, rfl⟩ | ⟨g, cap, cur, rfl, hg, hh, h1, h2, h3, h4⟩
  · exact ⟨none, 0, rfl, ⟨hl, fun h => absurd h (by omega)⟩, ⟨Nat.le_refl _, Nat.zero_le _, fun _ => ⟨rfl, rfl⟩⟩⟩
  · refine ⟨_, cap, rfl, ⟨hl, fun _ => ⟨g, 0, rfl, fun i hi => ?_⟩⟩, ⟨h1, h2, fun e => by cases e⟩⟩
    obtain ⟨f0, f1⟩ := flatO_at l i (by omega)
    rw [Nat.zero_add, World.ownsRow.cellAt h _ (by omega), World.ownsRow.cellAt h _ (by omega)]
    exact ⟨f0, f1⟩
/-- A copy of orders: it lies in blocks of its own. -/
theorem cloneOp_any (a : Option Addr) (n c : Nat) (l : List (Int × Int)) (w : World) (hn : n ≤ 4096) (h : OpsAt w a n l) (hs : SlOk a n c) :
    Calls Try.prog 69 #[.slice a n c] w fun e w' => ∃ a' c', e = .returned (.slice a' n c') ∧ Fresh w.heap.size w' (fun w2 => OpsAt w2 a' n l ∧ SlOk a' n c') ∧ Below w.heap.size w w' := by
  obtain ⟨hl, hc⟩ := h
  cases a with
  | none =>
    obtain ⟨rfl, rfl⟩ := hs.2.2 rfl
    exact (cloneOp_nil w).mono fun e w' ⟨x, y⟩ => ⟨none, 0, x, fun _ _ => ⟨⟨hl, fun h => absurd h (by omega)⟩, hs⟩, y ▸ Below.refl _ _⟩
  | some ad =>
    have hc2 : ∀ j u, (flatO l)[j]? = some u → w.cell? (ad.add j) = some u := fun j u hj => by
      have hjl : j < l.length * 2 := by rw [← flatO_len]; exact (List.getElem?_eq_some_iff.1 hj).1
      obtain ⟨b, off, e, hcell⟩ := hc (by omega)
      cases e
      rw [Addr.add_lit]
      exact flatO_cells hl hcell j u hj
    refine (cloneOp_some ad n c (flatO l) w hn (by rw [flatO_len, hl]) (flatO_one l) hc2).mono ?_
    rintro e w' ⟨v, rfl, x, y⟩
    obtain ⟨a', c', rfl, h1, h2⟩ := ops_own x
    refine ⟨a', c', rfl, fun w2 g2 => ?_, y⟩
    have x2 := g2.own x (fun k hk => by have := (x.lt k hk).1; omega)
    obtain ⟨a2, c2, e, h3, h4⟩ := ops_own x2
    cases e
    exact ⟨h3, h4⟩

theorem Try.infoInC : (Try.prog.info? 88).map (fun i => (i.zero, i.size, i.bytes)) = some (some (.agg #[.int .i64 0, .int .i64 0, .slice none 0 0]), 3, 40) := by kernel_rfl

set_option maxRecDepth 10000 in
set_option maxHeartbeats 800000 in
theorem cloneIn_nil (w : World) : Calls Try.prog 67 #[.slice none 0 0] w fun e w' => e = .returned (.slice none 0 0) ∧ w = w' := by
  have he := fun w => Lib.run_eql_slice_nil (P := Try.prog) w 68 88 none 0 0 0 0 Try.underlying68
  go_enter Try.func67, Try.ntmps67
  go_wp2
  go_ret
  exact ⟨rfl, rfl⟩

set_option maxRecDepth 10000 in
set_option maxHeartbeats 1600000 in
theorem cloneIn_some (ad : Addr) (n c : Nat) (F : List Value) (w : World) (hn : n ≤ 4096) (hz : F.length = n * 3) (h1 : ∀ u ∈ F, u.oneCell' = true) (hc : ∀ j u, F[j]? = some u → w.cell? (ad.add j) = some u) :
    Calls Try.prog 67 #[.slice (some ad) n c] w fun e w' => ∃ v, e = .returned v ∧ w'.ownsRow w.heap.size 88 3 v n F ∧ Below w.heap.size w w' := by
  obtain ⟨i0, hi, hz0, hz1, hz2⟩ := info_parts Try.infoInC
  have hb := bel_new w (.cells #[] 88)
  have HC : Hid (∀ j u, F[j]? = some u → (w.alloc (.cells #[] 88)).cell? (ad.add j) = some u) := fun j u hj => cell_later hb (hc j u hj)
  have HB := hide hb
  have HZ := hide hz
  have H1 := hide h1
  have HO := hide (own_nil w 88 3)
  have he := fun w => Lib.run_eql_slice_nil (P := Try.prog) w 68 88 (some ad) n c 0 0 Try.underlying68
  clear hc hb hz h1
  go_enter Try.func67, Try.ntmps67
  go_wp2_with (at_builtin; refine wpList_append_own _ rfl _ _ 68 rfl w.heap.size 88 i0 (.agg #[.int .i64 0, .int .i64 0, .slice none 0 0]) 3 40 Try.underlying68 hi hz0 hz1 hz2 rfl (by decide) _ _ _ rfl (unhide HO) ad n c F rfl (unhide HZ) (unhide HC) (unhide H1) (by unfold maxLen; omega) (by omega) (unhide HB).size ?_; intro v2 w3 hown3 hgrow3 _)
  have HW : Hid (w3.ownsRow w.heap.size 88 3 v2 n F) := by show World.ownsRow _ _ _ _ _ _ _; simpa using hown3
  have HB3 := hide ((unhide HB).grown hgrow3 (unhide HB).size (own_lo (unhide HO)))
  clear hown3 hgrow3
  go_wp2
  go_ret
  exact ⟨v2, rfl, unhide HW, unhide HB3⟩

theorem cloneIn_any (a : Option Addr) (n c : Nat) (L : List InD) (w0 w : World) (hn : n ≤ 4096) (h : RowsAt inR.R 3 w0 a n L) (hb : Below w0.heap.size w0 w) (hs : SlOk a n c) :
    Calls Try.prog 67 #[.slice a n c] w fun e w' => ∃ v, ∃ K : List (List Value), e = .returned v ∧ AllC inR w0 K L ∧ w'.ownsRow w.heap.size 88 3 v n K.flatten ∧ Below w.heap.size w w' := by
  obtain ⟨hl, hc⟩ := h
  cases a with
  | none =>
    obtain ⟨rfl, rfl⟩ := hs.2.2 rfl
    have e : L = [] := List.length_eq_zero_iff.1 hl
    subst e
    exact (cloneIn_nil w).mono fun e w' ⟨x, y⟩ => ⟨_, [], x, ⟨rfl, fun i h => absurd h (by simp)⟩, y ▸ World.ownsRow_nil _ _ _ _, y ▸ Below.refl _ _⟩
  | some ad =>
    by_cases h0 : n = 0
    · subst h0
      have e : L = [] := List.length_eq_zero_iff.1 hl
      subst e
      exact (cloneIn_some ad 0 c [] w hn rfl (fun u hu => by cases hu) (fun j u hj => by simp at hj)).mono fun e w' ⟨v, x, y, z⟩ => ⟨v, [], x, ⟨rfl, fun i h => absurd h (by simp)⟩, y, z⟩
    · obtain ⟨b, off, e, _, hcell⟩ := hc (by omega)
      obtain ⟨rfl⟩ := e
      obtain ⟨K, h1, h3⟩ := heads_of inR hcell
      have hk : K.flatten.length = n * 3 := by rw [flat_len h1, hl]; rfl
      exact (cloneIn_some ⟨b, off, none⟩ n c K.flatten w hn hk (flat_one h1) (fun j u hj => by rw [Addr.add_lit]; exact cell_later hb (h3 j u hj))).mono fun e w' ⟨v, x, y, z⟩ => ⟨v, K, x, h1, y, z⟩

theorem Try.infoOutC : (Try.prog.info? 84).map (fun i => (i.zero, i.size, i.bytes)) = some (some (.agg #[.int .i64 0, .slice none 0 0]), 2, 32) := by kernel_rfl

set_option maxRecDepth 10000 in
set_option maxHeartbeats 800000 in
theorem cloneOut_nil (w : World) : Calls Try.prog 68 #[.slice none 0 0] w fun e w' => e = .returned (.slice none 0 0) ∧ w = w' := by
  have he := fun w => Lib.run_eql_slice_nil (P := Try.prog) w 69 84 none 0 0 0 0 Try.underlying69
  go_enter Try.func68, Try.ntmps68
  go_wp2
  go_ret
  exact ⟨rfl, rfl⟩

set_option maxRecDepth 10000 in
set_option maxHeartbeats 1600000 in
theorem cloneOut_some (ad : Addr) (n c : Nat) (F : List Value) (w : World) (hn : n ≤ 4096) (hz : F.length = n * 2) (h1 : ∀ u ∈ F, u.oneCell' = true) (hc : ∀ j u, F[j]? = some u → w.cell? (ad.add j) = some u) :
    Calls Try.prog 68 #[.slice (some ad) n c] w fun e w' => ∃ v, e = .returned v ∧ w'.ownsRow w.heap.size 84 2 v n F ∧ Below w.heap.size w w' := by
  obtain ⟨i0, hi, hz0, hz1, hz2⟩ := info_parts Try.infoOutC
  have hb := bel_new w (.cells #[] 84)
  have HC : Hid (∀ j u, F[j]? = some u → (w.alloc (.cells #[] 84)).cell? (ad.add j) = some u) := fun j u hj => cell_later hb (hc j u hj)
  have HB := hide hb
  have HZ := hide hz
  have H1 := hide h1
  have HO := hide (own_nil w 84 2)
  have he := fun w => Lib.run_eql_slice_nil (P := Try.prog) w 69 84 (some ad) n c 0 0 Try.underlying69
  clear hc hb hz h1
  go_enter Try.func68, Try.ntmps68
  go_wp2_with (at_builtin; refine wpList_append_own _ rfl _ _ 69 rfl w.heap.size 84 i0 (.agg #[.int .i64 0, .slice none 0 0]) 2 32 Try.underlying69 hi hz0 hz1 hz2 rfl (by decide) _ _ _ rfl (unhide HO) ad n c F rfl (unhide HZ) (unhide HC) (unhide H1) (by unfold maxLen; omega) (by omega) (unhide HB).size ?_; intro v2 w3 hown3 hgrow3 _)
  have HW : Hid (w3.ownsRow w.heap.size 84 2 v2 n F) := by show World.ownsRow _ _ _ _ _ _ _; simpa using hown3
  have HB3 := hide ((unhide HB).grown hgrow3 (unhide HB).size (own_lo (unhide HO)))
  clear hown3 hgrow3
  go_wp2
  go_ret
  exact ⟨v2, rfl, unhide HW, unhide HB3⟩

theorem cloneOut_any (a : Option Addr) (n c : Nat) (L : List OutD) (w0 w : World) (hn : n ≤ 4096) (h : RowsAt outR.R 2 w0 a n L) (hb : Below w0.heap.size w0 w) (hs : SlOk a n c) :
    Calls Try.prog 68 #[.slice a n c] w fun e w' => ∃ v, ∃ K : List (List Value), e = .returned v ∧ AllC outR w0 K L ∧ w'.ownsRow w.heap.size 84 2 v n K.flatten ∧ Below w.heap.size w w' := by
  obtain ⟨hl, hc⟩ := h
  cases a with
  | none =>
    obtain ⟨rfl, rfl⟩ := hs.2.2 rfl
    have e : L = [] := List.length_eq_zero_iff.1 hl
    subst e
    exact (cloneOut_nil w).mono fun e w' ⟨x, y⟩ => ⟨_, [], x, ⟨rfl, fun i h => absurd h (by simp)⟩, y ▸ World.ownsRow_nil _ _ _ _, y ▸ Below.refl _ _⟩
  | some ad =>
    by_cases h0 : n = 0
    · subst h0
      have e : L = [] := List.length_eq_zero_iff.1 hl
      subst e
      exact (cloneOut_some ad 0 c [] w hn rfl (fun u hu => by cases hu) (fun j u hj => by simp at hj)).mono fun e w' ⟨v, x, y, z⟩ => ⟨v, [], x, ⟨rfl, fun i h => absurd h (by simp)⟩, y, z⟩
    · obtain ⟨b, off, e, _, hcell⟩ := hc (by omega)
      obtain ⟨rfl⟩ := e
      obtain ⟨K, h1, h3⟩ := heads_of outR hcell
      have hk : K.flatten.length = n * 2 := by rw [flat_len h1, hl]; rfl
      exact (cloneOut_some ⟨b, off, none⟩ n c K.flatten w hn hk (flat_one h1) (fun j u hj => by rw [Addr.add_lit]; exact cell_later hb (h3 j u hj))).mono fun e w' ⟨v, x, y, z⟩ => ⟨v, K, x, h1, y, z⟩

theorem Try.infoTxC : (Try.prog.info? 71).map (fun i => (i.zero, i.size, i.bytes)) = some (some (.agg #[.int .i64 0, .slice none 0 0, .slice none 0 0]), 3, 56) := by kernel_rfl

set_option maxRecDepth 10000 in
set_option maxHeartbeats 800000 in
theorem cloneTx_nil (w : World) : Calls Try.prog 56 #[.slice none 0 0] w fun e w' => e = .returned (.slice none 0 0) ∧ w = w' := by
  have he := fun w => Lib.run_eql_slice_nil (P := Try.prog) w 26 71 none 0 0 0 0 Try.underlying26
  go_enter Try.func56, Try.ntmps56
  go_wp2
  go_ret
  exact ⟨rfl, rfl⟩

set_option maxRecDepth 10000 in
set_option maxHeartbeats 1600000 in
theorem cloneTx_some (ad : Addr) (n c : Nat) (F : List Value) (w : World) (hn : n ≤ 4096) (hz : F.length = n * 3) (h1 : ∀ u ∈ F, u.oneCell' = true) (hc : ∀ j u, F[j]? = some u → w.cell? (ad.add j) = some u) :
    Calls Try.prog 56 #[.slice (some ad) n c] w fun e w' => ∃ v, e = .returned v ∧ w'.ownsRow w.heap.size 71 3 v n F ∧ Below w.heap.size w w' := by
  obtain ⟨i0, hi, hz0, hz1, hz2⟩ := info_parts Try.infoTxC
  have hb := bel_new w (.cells #[] 71)
  have HC : Hid (∀ j u, F[j]? = some u → (w.alloc (.cells #[] 71)).cell? (ad.add j) = some u) := fun j u hj => cell_later hb (hc j u hj)
  have HB := hide hb
  have HZ := hide hz
  have H1 := hide h1
  have HO := hide (own_nil w 71 3)
  have he := fun w => Lib.run_eql_slice_nil (P := Try.prog) w 26 71 (some ad) n c 0 0 Try.underlying26
  clear hc hb hz h1
  go_enter Try.func56, Try.ntmps56
  go_wp2_with (at_builtin; refine wpList_append_own _ rfl _ _ 26 rfl w.heap.size 71 i0 (.agg #[.int .i64 0, .slice none 0 0, .slice none 0 0]) 3 56 Try.underlying26 hi hz0 hz1 hz2 rfl (by decide) _ _ _ rfl (unhide HO) ad n c F rfl (unhide HZ) (unhide HC) (unhide H1) (by unfold maxLen; omega) (by omega) (unhide HB).size ?_; intro v2 w3 hown3 hgrow3 _)
  have HW : Hid (w3.ownsRow w.heap.size 71 3 v2 n F) := by show World.ownsRow _ _ _ _ _ _ _; simpa using hown3
  have HB3 := hide ((unhide HB).grown hgrow3 (unhide HB).size (own_lo (unhide HO)))
  clear hown3 hgrow3
  go_wp2
  go_ret
  exact ⟨v2, rfl, unhide HW, unhide HB3⟩

theorem cloneTx_any (a : Option Addr) (n c : Nat) (L : List TxD) (w0 w : World) (hn : n ≤ 4096) (h : RowsAt txR.R 3 w0 a n L) (hb : Below w0.heap.size w0 w) (hs : SlOk a n c) :
    Calls Try.prog 56 #[.slice a n c] w fun e w' => ∃ v, ∃ K : List (List Value), e = .returned v ∧ AllC txR w0 K L ∧ w'.ownsRow w.heap.size 71 3 v n K.flatten ∧ Below w.heap.size w w' := by
  obtain ⟨hl, hc⟩ := h
  cases a with
  | none =>
    obtain ⟨rfl, rfl⟩ := hs.2.2 rfl
    have e : L = [] := List.length_eq_zero_iff.1 hl
    subst e
    exact (cloneTx_nil w).mono fun e w' ⟨x, y⟩ => ⟨_, [], x, ⟨rfl, fun i h => absurd h (by simp)⟩, y ▸ World.ownsRow_nil _ _ _ _, y ▸ Below.refl _ _⟩
  | some ad =>
    by_cases h0 : n = 0
    · subst h0
      have e : L = [] := List.length_eq_zero_iff.1 hl
      subst e
      exact (cloneTx_some ad 0 c [] w hn rfl (fun u hu => by cases hu) (fun j u hj => by simp at hj)).mono fun e w' ⟨v, x, y, z⟩ => ⟨v, [], x, ⟨rfl, fun i h => absurd h (by simp)⟩, y, z⟩
    · obtain ⟨b, off, e, _, hcell⟩ := hc (by omega)
      obtain ⟨rfl⟩ := e
      obtain ⟨K, h1, h3⟩ := heads_of txR hcell
      have hk : K.flatten.length = n * 3 := by rw [flat_len h1, hl]; rfl
      exact (cloneTx_some ⟨b, off, none⟩ n c K.flatten w hn hk (flat_one h1) (fun j u hj => by rw [Addr.add_lit]; exact cell_later hb (h3 j u hj))).mono fun e w' ⟨v, x, y, z⟩ => ⟨v, K, x, h1, y, z⟩

theorem Try.infoBlkC : (Try.prog.info? 28).map (fun i => (i.zero, i.size, i.bytes)) = some (some (.agg #[.int .i64 0, .int .i64 0, .int .i64 0, .int .i64 0, .slice none 0 0]), 5, 56) := by kernel_rfl

set_option maxRecDepth 10000 in
set_option maxHeartbeats 800000 in
theorem cloneBlk_nil (w : World) : Calls Try.prog 39 #[.slice none 0 0] w fun e w' => e = .returned (.slice none 0 0) ∧ w = w' := by
  have he := fun w => Lib.run_eql_slice_nil (P := Try.prog) w 23 28 none 0 0 0 0 Try.underlying23
  go_enter Try.func39, Try.ntmps39
  go_wp2
  go_ret
  exact ⟨rfl, rfl⟩

set_option maxRecDepth 10000 in
set_option maxHeartbeats 1600000 in
theorem cloneBlk_some (ad : Addr) (n c : Nat) (F : List Value) (w : World) (hn : n ≤ 4096) (hz : F.length = n * 5) (h1 : ∀ u ∈ F, u.oneCell' = true) (hc : ∀ j u, F[j]? = some u → w.cell? (ad.add j) = some u) :
    Calls Try.prog 39 #[.slice (some ad) n c] w fun e w' => ∃ v, e = .returned v ∧ w'.ownsRow w.heap.size 28 5 v n F ∧ Below w.heap.size w w' := by
  obtain ⟨i0, hi, hz0, hz1, hz2⟩ := info_parts Try.infoBlkC
  have hb := bel_new w (.cells #[] 28)
  have HC : Hid (∀ j u, F[j]? = some u → (w.alloc (.cells #[] 28)).cell? (ad.add j) = some u) := fun j u hj => cell_later hb (hc j u hj)
  have HB := hide hb
  have HZ := hide hz
  have H1 := hide h1
  have HO := hide (own_nil w 28 5)
  have he := fun w => Lib.run_eql_slice_nil (P := Try.prog) w 23 28 (some ad) n c 0 0 Try.underlying23
  clear hc hb hz h1
  go_enter Try.func39, Try.ntmps39
  go_wp2_with (at_builtin; refine wpList_append_own _ rfl _ _ 23 rfl w.heap.size 28 i0 (.agg #[.int .i64 0, .int .i64 0, .int .i64 0, .int .i64 0, .slice none 0 0]) 5 56 Try.underlying23 hi hz0 hz1 hz2 rfl (by decide) _ _ _ rfl (unhide HO) ad n c F rfl (unhide HZ) (unhide HC) (unhide H1) (by unfold maxLen; omega) (by omega) (unhide HB).size ?_; intro v2 w3 hown3 hgrow3 _)
  have HW : Hid (w3.ownsRow w.heap.size 28 5 v2 n F) := by show World.ownsRow _ _ _ _ _ _ _; simpa using hown3
  have HB3 := hide ((unhide HB).grown hgrow3 (unhide HB).size (own_lo (unhide HO)))
  clear hown3 hgrow3
  go_wp2
  go_ret
  exact ⟨v2, rfl, unhide HW, unhide HB3⟩

theorem cloneBlk_any (a : Option Addr) (n c : Nat) (L : List BlkD) (w0 w : World) (hn : n ≤ 4096) (h : RowsAt blkR.R 5 w0 a n L) (hb : Below w0.heap.size w0 w) (hs : SlOk a n c) :
    Calls Try.prog 39 #[.slice a n c] w fun e w' => ∃ v, ∃ K : List (List Value), e = .returned v ∧ AllC blkR w0 K L ∧ w'.ownsRow w.heap.size 28 5 v n K.flatten ∧ Below w.heap.size w w' := by
  obtain ⟨hl, hc⟩ := h
  cases a with
  | none =>
    obtain ⟨rfl, rfl⟩ := hs.2.2 rfl
    have e : L = [] := List.length_eq_zero_iff.1 hl
    subst e
    exact (cloneBlk_nil w).mono fun e w' ⟨x, y⟩ => ⟨_, [], x, ⟨rfl, fun i h => absurd h (by simp)⟩, y ▸ World.ownsRow_nil _ _ _ _, y ▸ Below.refl _ _⟩
  | some ad =>
    by_cases h0 : n = 0
    · subst h0
      have e : L = [] := List.length_eq_zero_iff.1 hl
      subst e
      exact (cloneBlk_some ad 0 c [] w hn rfl (fun u hu => by cases hu) (fun j u hj => by simp at hj)).mono fun e w' ⟨v, x, y, z⟩ => ⟨v, [], x, ⟨rfl, fun i h => absurd h (by simp)⟩, y, z⟩
    · obtain ⟨b, off, e, _, hcell⟩ := hc (by omega)
      obtain ⟨rfl⟩ := e
      obtain ⟨K, h1, h3⟩ := heads_of blkR hcell
      have hk : K.flatten.length = n * 5 := by rw [flat_len h1, hl]; rfl
      exact (cloneBlk_some ⟨b, off, none⟩ n c K.flatten w hn hk (flat_one h1) (fun j u hj => by rw [Addr.add_lit]; exact cell_later hb (h3 j u hj))).mono fun e w' ⟨v, x, y, z⟩ => ⟨v, K, x, h1, y, z⟩

end Go.Proofs.Ytklekpbladmjhaa
