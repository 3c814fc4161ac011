/- Contracts of slices.Clone at ints, at orders and at records whose slices lead on. -/
import Derived.Test.YtmomfkikogbdeaaGreatDoorPolNToTrMem
namespace Go.Proofs.YtmomfkikogbdeaaGreatDoor.Tr
open Go.RowKit

theorem Tryz.infoIntC : (Tryz.prog.info? 3).map (fun i => (i.zero, i.size, i.bytes)) = some (some (.int .i64 0), 1, 8) := by kernel_rfl

set_option maxRecDepth 10000 in
set_option maxHeartbeats 800000 in
theorem cloneInt_nil (w : World) : Calls Tryz.prog 47 #[.slice none 0 0] w fun e w' => e = .returned (.slice none 0 0) ∧ w = w' := by
  have he := fun w => Lib.run_eql_slice_nil (P := Tryz.prog) w 25 3 none 0 0 0 0 Tryz.underlying25
  go_enter Tryz.func47, Tryz.ntmps47
  go_wp2
  go_ret
  exact ⟨rfl, rfl⟩

set_option maxRecDepth 10000 in
set_option maxHeartbeats 1600000 in
theorem cloneInt_some (ad : Addr) (n c : Nat) (F : List Value) (w : World) (hn : n ≤ 4096) (hz : F.length = n * 1) (h1 : ∀ u ∈ F, u.oneCell' = true) (hc : ∀ j u, F[j]? = some u → w.cell? (ad.add j) = some u) :
    Calls Tryz.prog 47 #[.slice (some ad) n c] w fun e w' => ∃ v, e = .returned v ∧ w'.ownsRow w.heap.size 3 1 v n F ∧ Below w.heap.size w w' := by
  obtain ⟨i0, hi, hz0, hz1, hz2⟩ := info_parts Tryz.infoIntC
  have hb := bel_new w (.cells #[] 3)
  have HC : Hid (∀ j u, F[j]? = some u → (w.alloc (.cells #[] 3)).cell? (ad.add j) = some u) := fun j u hj => cell_later hb (hc j u hj)
  have HB := hide hb
  have HZ := hide hz
  have H1 := hide h1
  have HO := hide (own_nil w 3 1)
  have he := fun w => Lib.run_eql_slice_nil (P := Tryz.prog) w 25 3 (some ad) n c 0 0 Tryz.underlying25
  clear hc hb hz h1
  go_enter Tryz.func47, Tryz.ntmps47
  go_wp2_with (at_builtin; refine wpList_append_own _ rfl _ _ 25 rfl w.heap.size 3 i0 (.int .i64 0) 1 8 Tryz.underlying25 hi hz0 hz1 hz2 rfl (by decide) _ _ _ rfl (unhide HO) ad n c F rfl (unhide HZ) (unhide HC) (unhide H1) (by unfold maxLen; omega) (by omega) (unhide HB).size ?_; intro v2 w3 hown3 hgrow3 _)
  have HW : Hid (w3.ownsRow w.heap.size 3 1 v2 n F) := by show World.ownsRow _ _ _ _ _ _ _; simpa using hown3
  have HB3 := hide ((unhide HB).grown hgrow3 (unhide HB).size (own_lo (unhide HO)))
  clear hown3 hgrow3
  go_wp2
  go_ret
  exact ⟨v2, rfl, unhide HW, unhide HB3⟩

theorem cloneInt_any (a : Option Addr) (n c : Nat) (L : List Int) (w : World) (hn : n ≤ 4096) (h : IntsAt w a n L) (hs : SlOk a n c) :
    Calls Tryz.prog 47 #[.slice a n c] w fun e w' => ∃ v, e = .returned v ∧ w'.ownsRow w.heap.size 3 1 v n (L.map (Value.int .i64)) ∧ Below w.heap.size w w' := by
  obtain ⟨hl, hc⟩ := h
  cases a with
  | none =>
    obtain ⟨rfl, rfl⟩ := hs.2.2 rfl
    have e : L = [] := List.length_eq_zero_iff.1 hl
    subst e
    exact (cloneInt_nil w).mono fun e w' ⟨x, y⟩ => ⟨_, x, y ▸ World.ownsRow_nil _ _ _ _, y ▸ Below.refl _ _⟩
  | some ad =>
    refine (cloneInt_some ad n c (L.map (Value.int .i64)) w hn (by simp [hl]) (ints_oneCell _ _) (fun j u hj => ?_))
    have hjl : j < L.length := by have := (List.getElem?_eq_some_iff.1 hj).1; simpa using this
    obtain ⟨b, off, e, _, hcell⟩ := hc (by omega)
    cases e
    rw [Addr.add_lit, hcell j hjl]
    simpa [hjl] using hj

set_option maxRecDepth 10000 in
set_option maxHeartbeats 1600000 in
theorem cloneOp_some (ad : Addr) (n c : Nat) (F : List Value) (w : World) (hn : n ≤ 4096) (hz : F.length = n * 2) (h1 : ∀ u ∈ F, u.oneCell' = true) (hc : ∀ j u, F[j]? = some u → w.cell? (ad.add j) = some u) :
    Calls Tryz.prog 150 #[.slice (some ad) n c] w fun e w' => ∃ v, e = .returned v ∧ w'.ownsRow w.heap.size 164 2 v n F ∧ Below w.heap.size w w' := by
  obtain ⟨i0, hi, hz0, hz1, hz2⟩ := info_parts Tryz.infoOpC
  have hb := bel_new w (.cells #[] 164)
  have HC : Hid (∀ j u, F[j]? = some u → (w.alloc (.cells #[] 164)).cell? (ad.add j) = some u) := fun j u hj => cell_later hb (hc j u hj)
  have HB := hide hb
  have HZ := hide hz
  have H1 := hide h1
  have HO := hide (own_nil w 164 2)
  have he := fun w => Lib.run_eql_slice_nil (P := Tryz.prog) w 48 164 (some ad) n c 0 0 Tryz.underlying48
  clear hc hb hz h1
  go_enter Tryz.func150, Tryz.ntmps150
  go_wp2_with (at_builtin; refine wpList_append_own _ rfl _ _ 48 rfl w.heap.size 164 i0 (.agg #[.int .i64 0, .int .i64 0]) 2 16 Tryz.underlying48 hi hz0 hz1 hz2 rfl (by decide) _ _ _ rfl (unhide HO) ad n c F rfl (unhide HZ) (unhide HC) (unhide H1) (by unfold maxLen; omega) (by omega) (unhide HB).size ?_; intro v2 w3 hown3 hgrow3 _)
  have HW : Hid (w3.ownsRow w.heap.size 164 2 v2 n F) := by show World.ownsRow _ _ _ _ _ _ _; simpa using hown3
  have HB3 := hide ((unhide HB).grown hgrow3 (unhide HB).size (own_lo (unhide HO)))
  clear hown3 hgrow3
  go_wp2
  go_ret
  exact ⟨v2, rfl, unhide HW, unhide HB3⟩

theorem ops_own {w : World} {base : Nat} {v : Value} {n : Nat} {l : List (Int × Int)} (h : w.ownsRow base 164 2 v n (flatO l)) : ∃ a c, v = .slice a n c ∧ OpsAt w a n l ∧ SlOk a n c := by
  have hl : l.length = n := by have := h.1; rw [flatO_len] at this; omega
  rcases h.2 with ⟨rfl, rfl⟩ | ⟨g, cap, cur, rfl, hg, hh, h1, h2, h3, h4⟩
  · exact ⟨none, 0, rfl, ⟨hl, fun h => absurd h (by omega)⟩, ⟨Nat.le_refl _, Nat.zero_le _, fun _ => ⟨rfl, rfl⟩⟩⟩
  · refine ⟨_, cap, rfl, ⟨hl, fun _ => ⟨g, 0, rfl, fun i hi => ?_⟩⟩, ⟨h1, h2, fun e => by cases e⟩⟩
    obtain ⟨f0, f1⟩ := flatO_at l i (by omega)
    rw [Nat.zero_add, World.ownsRow.cellAt h _ (by omega), World.ownsRow.cellAt h _ (by omega)]
    exact ⟨f0, f1⟩
/-- A copy of orders: it lies in blocks of its own. -/
theorem cloneOp_any (a : Option Addr) (n c : Nat) (l : List (Int × Int)) (w : World) (hn : n ≤ 4096) (h : OpsAt w a n l) (hs : SlOk a n c) :
    Calls Tryz.prog 150 #[.slice a n c] w fun e w' => ∃ a' c', e = .returned (.slice a' n c') ∧ Fresh w.heap.size w' (fun w2 => OpsAt w2 a' n l ∧ SlOk a' n c') ∧ Below w.heap.size w w' := by
  obtain ⟨hl, hc⟩ := h
  cases a with
  | none =>
    obtain ⟨rfl, rfl⟩ := hs.2.2 rfl
    exact (cloneOp_nil w).mono fun e w' ⟨x, y⟩ => ⟨none, 0, x, fun _ _ => ⟨⟨hl, fun h => absurd h (by omega)⟩, hs⟩, y ▸ Below.refl _ _⟩
  | some ad =>
    have hc2 : ∀ j u, (flatO l)[j]? = some u → w.cell? (ad.add j) = some u := fun j u hj => by
      have hjl : j < l.length * 2 := by rw [← flatO_len]; exact (List.getElem?_eq_some_iff.1 hj).1
      obtain ⟨b, off, e, hcell⟩ := hc (by omega)
      cases e
      rw [Addr.add_lit]
      exact flatO_cells hl hcell j u hj
    refine (cloneOp_some ad n c (flatO l) w hn (by rw [flatO_len, hl]) (flatO_one l) hc2).mono ?_
    rintro e w' ⟨v, rfl, x, y⟩
    obtain ⟨a', c', rfl, h1, h2⟩ := ops_own x
    refine ⟨a', c', rfl, fun w2 g2 => ?_, y⟩
    have x2 := g2.own x (fun k hk => by have := (x.lt k hk).1; omega)
    obtain ⟨a2, c2, e, h3, h4⟩ := ops_own x2
    cases e
    exact ⟨h3, h4⟩

theorem Tryz.infoInC : (Tryz.prog.info? 119).map (fun i => (i.zero, i.size, i.bytes)) = some (some (.agg #[.int .i64 0, .int .i64 0, .slice none 0 0]), 3, 40) := by kernel_rfl

set_option maxRecDepth 10000 in
set_option maxHeartbeats 800000 in
theorem cloneIn_nil (w : World) : Calls Tryz.prog 159 #[.slice none 0 0] w fun e w' => e = .returned (.slice none 0 0) ∧ w = w' := by
  have he := fun w => Lib.run_eql_slice_nil (P := Tryz.prog) w 56 119 none 0 0 0 0 Tryz.underlying56
  go_enter Tryz.func159, Tryz.ntmps159
  go_wp2
  go_ret
  exact ⟨rfl, rfl⟩

set_option maxRecDepth 10000 in
set_option maxHeartbeats 1600000 in
theorem cloneIn_some (ad : Addr) (n c : Nat) (F : List Value) (w : World) (hn : n ≤ 4096) (hz : F.length = n * 3) (h1 : ∀ u ∈ F, u.oneCell' = true) (hc : ∀ j u, F[j]? = some u → w.cell? (ad.add j) = some u) :
    Calls Tryz.prog 159 #[.slice (some ad) n c] w fun e w' => ∃ v, e = .returned v ∧ w'.ownsRow w.heap.size 119 3 v n F ∧ Below w.heap.size w w' := by
  obtain ⟨i0, hi, hz0, hz1, hz2⟩ := info_parts Tryz.infoInC
  have hb := bel_new w (.cells #[] 119)
  have HC : Hid (∀ j u, F[j]? = some u → (w.alloc (.cells #[] 119)).cell? (ad.add j) = some u) := fun j u hj => cell_later hb (hc j u hj)
  have HB := hide hb
  have HZ := hide hz
  have H1 := hide h1
  have HO := hide (own_nil w 119 3)
  have he := fun w => Lib.run_eql_slice_nil (P := Tryz.prog) w 56 119 (some ad) n c 0 0 Tryz.underlying56
  clear hc hb hz h1
  go_enter Tryz.func159, Tryz.ntmps159
  go_wp2_with (at_builtin; refine wpList_append_own _ rfl _ _ 56 rfl w.heap.size 119 i0 (.agg #[.int .i64 0, .int .i64 0, .slice none 0 0]) 3 40 Tryz.underlying56 hi hz0 hz1 hz2 rfl (by decide) _ _ _ rfl (unhide HO) ad n c F rfl (unhide HZ) (unhide HC) (unhide H1) (by unfold maxLen; omega) (by omega) (unhide HB).size ?_; intro v2 w3 hown3 hgrow3 _)
  have HW : Hid (w3.ownsRow w.heap.size 119 3 v2 n F) := by show World.ownsRow _ _ _ _ _ _ _; simpa using hown3
  have HB3 := hide ((unhide HB).grown hgrow3 (unhide HB).size (own_lo (unhide HO)))
  clear hown3 hgrow3
  go_wp2
  go_ret
  exact ⟨v2, rfl, unhide HW, unhide HB3⟩

theorem cloneIn_any (a : Option Addr) (n c : Nat) (L : List InD) (w0 w : World) (hn : n ≤ 4096) (h : RowsAt inR.R 3 w0 a n L) (hb : Below w0.heap.size w0 w) (hs : SlOk a n c) :
    Calls Tryz.prog 159 #[.slice a n c] w fun e w' => ∃ v, ∃ K : List (List Value), e = .returned v ∧ AllC inR w0 K L ∧ w'.ownsRow w.heap.size 119 3 v n K.flatten ∧ Below w.heap.size w w' := by
  obtain ⟨hl, hc⟩ := h
  cases a with
  | none =>
    obtain ⟨rfl, rfl⟩ := hs.2.2 rfl
    have e : L = [] := List.length_eq_zero_iff.1 hl
    subst e
    exact (cloneIn_nil w).mono fun e w' ⟨x, y⟩ => ⟨_, [], x, ⟨rfl, fun i h => absurd h (by simp)⟩, y ▸ World.ownsRow_nil _ _ _ _, y ▸ Below.refl _ _⟩
  | some ad =>
    by_cases h0 : n = 0
    · subst h0
      have e : L = [] := List.length_eq_zero_iff.1 hl
      subst e
      exact (cloneIn_some ad 0 c [] w hn rfl (fun u hu => by cases hu) (fun j u hj => by simp at hj)).mono fun e w' ⟨v, x, y, z⟩ => ⟨v, [], x, ⟨rfl, fun i h => absurd h (by simp)⟩, y, z⟩
    · obtain ⟨b, off, e, _, hcell⟩ := hc (by omega)
      obtain ⟨rfl⟩ := e
      obtain ⟨K, h1, h3⟩ := heads_of inR hcell
      have hk : K.flatten.length = n * 3 := by rw [flat_len h1, hl]; rfl
      exact (cloneIn_some ⟨b, off, none⟩ n c K.flatten w hn hk (flat_one h1) (fun j u hj => by rw [Addr.add_lit]; exact cell_later hb (h3 j u hj))).mono fun e w' ⟨v, x, y, z⟩ => ⟨v, K, x, h1, y, z⟩

theorem Tryz.infoOutC : (Tryz.prog.info? 122).map (fun i => (i.zero, i.size, i.bytes)) = some (some (.agg #[.int .i64 0, .slice none 0 0]), 2, 32) := by kernel_rfl

set_option maxRecDepth 10000 in
set_option maxHeartbeats 800000 in
theorem cloneOut_nil (w : World) : Calls Tryz.prog 160 #[.slice none 0 0] w fun e w' => e = .returned (.slice none 0 0) ∧ w = w' := by
  have he := fun w => Lib.run_eql_slice_nil (P := Tryz.prog) w 57 122 none 0 0 0 0 Tryz.underlying57
  go_enter Tryz.func160, Tryz.ntmps160
  go_wp2
  go_ret
  exact ⟨rfl, rfl⟩

set_option maxRecDepth 10000 in
set_option maxHeartbeats 1600000 in
theorem cloneOut_some (ad : Addr) (n c : Nat) (F : List Value) (w : World) (hn : n ≤ 4096) (hz : F.length = n * 2) (h1 : ∀ u ∈ F, u.oneCell' = true) (hc : ∀ j u, F[j]? = some u → w.cell? (ad.add j) = some u) :
    Calls Tryz.prog 160 #[.slice (some ad) n c] w fun e w' => ∃ v, e = .returned v ∧ w'.ownsRow w.heap.size 122 2 v n F ∧ Below w.heap.size w w' := by
  obtain ⟨i0, hi, hz0, hz1, hz2⟩ := info_parts Tryz.infoOutC
  have hb := bel_new w (.cells #[] 122)
  have HC : Hid (∀ j u, F[j]? = some u → (w.alloc (.cells #[] 122)).cell? (ad.add j) = some u) := fun j u hj => cell_later hb (hc j u hj)
  have HB := hide hb
  have HZ := hide hz
  have H1 := hide h1
  have HO := hide (own_nil w 122 2)
  have he := fun w => Lib.run_eql_slice_nil (P := Tryz.prog) w 57 122 (some ad) n c 0 0 Tryz.underlying57
  clear hc hb hz h1
  go_enter Tryz.func160, Tryz.ntmps160
  go_wp2_with (at_builtin; refine wpList_append_own _ rfl _ _ 57 rfl w.heap.size 122 i0 (.agg #[.int .i64 0, .slice none 0 0]) 2 32 Tryz.underlying57 hi hz0 hz1 hz2 rfl (by decide) _ _ _ rfl (unhide HO) ad n c F rfl (unhide HZ) (unhide HC) (unhide H1) (by unfold maxLen; omega) (by omega) (unhide HB).size ?_; intro v2 w3 hown3 hgrow3 _)
  have HW : Hid (w3.ownsRow w.heap.size 122 2 v2 n F) := by show World.ownsRow _ _ _ _ _ _ _; simpa using hown3
  have HB3 := hide ((unhide HB).grown hgrow3 (unhide HB).size (own_lo (unhide HO)))
  clear hown3 hgrow3
  go_wp2
  go_ret
  exact ⟨v2, rfl, unhide HW, unhide HB3⟩

theorem cloneOut_any (a : Option Addr) (n c : Nat) (L : List OutD) (w0 w : World) (hn : n ≤ 4096) (h : RowsAt outR.R 2 w0 a n L) (hb : Below w0.heap.size w0 w) (hs : SlOk a n c) :
    Calls Tryz.prog 160 #[.slice a n c] w fun e w' => ∃ v, ∃ K : List (List Value), e = .returned v ∧ AllC outR w0 K L ∧ w'.ownsRow w.heap.size 122 2 v n K.flatten ∧ Below w.heap.size w w' := by
  obtain ⟨hl, hc⟩ := h
  cases a with
  | none =>
    obtain ⟨rfl, rfl⟩ := hs.2.2 rfl
    have e : L = [] := List.length_eq_zero_iff.1 hl
    subst e
    exact (cloneOut_nil w).mono fun e w' ⟨x, y⟩ => ⟨_, [], x, ⟨rfl, fun i h => absurd h (by simp)⟩, y ▸ World.ownsRow_nil _ _ _ _, y ▸ Below.refl _ _⟩
  | some ad =>
    by_cases h0 : n = 0
    · subst h0
      have e : L = [] := List.length_eq_zero_iff.1 hl
      subst e
      exact (cloneOut_some ad 0 c [] w hn rfl (fun u hu => by cases hu) (fun j u hj => by simp at hj)).mono fun e w' ⟨v, x, y, z⟩ => ⟨v, [], x, ⟨rfl, fun i h => absurd h (by simp)⟩, y, z⟩
    · obtain ⟨b, off, e, _, hcell⟩ := hc (by omega)
      obtain ⟨rfl⟩ := e
      obtain ⟨K, h1, h3⟩ := heads_of outR hcell
      have hk : K.flatten.length = n * 2 := by rw [flat_len h1, hl]; rfl
      exact (cloneOut_some ⟨b, off, none⟩ n c K.flatten w hn hk (flat_one h1) (fun j u hj => by rw [Addr.add_lit]; exact cell_later hb (h3 j u hj))).mono fun e w' ⟨v, x, y, z⟩ => ⟨v, K, x, h1, y, z⟩

theorem Tryz.infoTxC : (Tryz.prog.info? 59).map (fun i => (i.zero, i.size, i.bytes)) = some (some (.agg #[.int .i64 0, .slice none 0 0, .slice none 0 0]), 3, 56) := by kernel_rfl

set_option maxRecDepth 10000 in
set_option maxHeartbeats 800000 in
theorem cloneTx_nil (w : World) : Calls Tryz.prog 199 #[.slice none 0 0] w fun e w' => e = .returned (.slice none 0 0) ∧ w = w' := by
  have he := fun w => Lib.run_eql_slice_nil (P := Tryz.prog) w 37 59 none 0 0 0 0 Tryz.underlying37
  go_enter Tryz.func199, Tryz.ntmps199
  go_wp2
  go_ret
  exact ⟨rfl, rfl⟩

set_option maxRecDepth 10000 in
set_option maxHeartbeats 1600000 in
theorem cloneTx_some (ad : Addr) (n c : Nat) (F : List Value) (w : World) (hn : n ≤ 4096) (hz : F.length = n * 3) (h1 : ∀ u ∈ F, u.oneCell' = true) (hc : ∀ j u, F[j]? = some u → w.cell? (ad.add j) = some u) :
    Calls Tryz.prog 199 #[.slice (some ad) n c] w fun e w' => ∃ v, e = .returned v ∧ w'.ownsRow w.heap.size 59 3 v n F ∧ Below w.heap.size w w' := by
  obtain ⟨i0, hi, hz0, hz1, hz2⟩ := info_parts Tryz.infoTxC
  have hb := bel_new w (.cells #[] 59)
  have HC : Hid (∀ j u, F[j]? = some u → (w.alloc (.cells #[] 59)).cell? (ad.add j) = some u) := fun j u hj => cell_later hb (hc j u hj)
  have HB := hide hb
  have HZ := hide hz
  have H1 := hide h1
  have HO := hide (own_nil w 59 3)
  have he := fun w => Lib.run_eql_slice_nil (P := Tryz.prog) w 37 59 (some ad) n c 0 0 Tryz.underlying37
  clear hc hb hz h1
  go_enter Tryz.func199, Tryz.ntmps199
  go_wp2_with (at_builtin; refine wpList_append_own _ rfl _ _ 37 rfl w.heap.size 59 i0 (.agg #[.int .i64 0, .slice none 0 0, .slice none 0 0]) 3 56 Tryz.underlying37 hi hz0 hz1 hz2 rfl (by decide) _ _ _ rfl (unhide HO) ad n c F rfl (unhide HZ) (unhide HC) (unhide H1) (by unfold maxLen; omega) (by omega) (unhide HB).size ?_; intro v2 w3 hown3 hgrow3 _)
  have HW : Hid (w3.ownsRow w.heap.size 59 3 v2 n F) := by show World.ownsRow _ _ _ _ _ _ _; simpa using hown3
  have HB3 := hide ((unhide HB).grown hgrow3 (unhide HB).size (own_lo (unhide HO)))
  clear hown3 hgrow3
  go_wp2
  go_ret
  exact ⟨v2, rfl, unhide HW, unhide HB3⟩

theorem cloneTx_any (a : Option Addr) (n c : Nat) (L : List TxD) (w0 w : World) (hn : n ≤ 4096) (h : RowsAt txR.R 3 w0 a n L) (hb : Below w0.heap.size w0 w) (hs : SlOk a n c) :
    Calls Tryz.prog 199 #[.slice a n c] w fun e w' => ∃ v, ∃ K : List (List Value), e = .returned v ∧ AllC txR w0 K L ∧ w'.ownsRow w.heap.size 59 3 v n K.flatten ∧ Below w.heap.size w w' := by
  obtain ⟨hl, hc⟩ := h
  cases a with
  | none =>
    obtain ⟨rfl, rfl⟩ := hs.2.2 rfl
    have e : L = [] := List.length_eq_zero_iff.1 hl
    subst e
    exact (cloneTx_nil w).mono fun e w' ⟨x, y⟩ => ⟨_, [], x, ⟨rfl, fun i h => absurd h (by simp)⟩, y ▸ World.ownsRow_nil _ _ _ _, y ▸ Below.refl _ _⟩
  | some ad =>
    by_cases h0 : n = 0
    · subst h0
      have e : L = [] := List.length_eq_zero_iff.1 hl
      subst e
      exact (cloneTx_some ad 0 c [] w hn rfl (fun u hu => by cases hu) (fun j u hj => by simp at hj)).mono fun e w' ⟨v, x, y, z⟩ => ⟨v, [], x, ⟨rfl, fun i h => absurd h (by simp)⟩, y, z⟩
    · obtain ⟨b, off, e, _, hcell⟩ := hc (by omega)
      obtain ⟨rfl⟩ := e
      obtain ⟨K, h1, h3⟩ := heads_of txR hcell
      have hk : K.flatten.length = n * 3 := by rw [flat_len h1, hl]; rfl
      exact (cloneTx_some ⟨b, off, none⟩ n c K.flatten w hn hk (flat_one h1) (fun j u hj => by rw [Addr.add_lit]; exact cell_later hb (h3 j u hj))).mono fun e w' ⟨v, x, y, z⟩ => ⟨v, K, x, h1, y, z⟩

theorem Tryz.infoBlkC : (Tryz.prog.info? 39).map (fun i => (i.zero, i.size, i.bytes)) = some (some (.agg #[.int .i64 0, .int .i64 0, .int .i64 0, .int .i64 0, .slice none 0 0]), 5, 56) := by kernel_rfl

set_option maxRecDepth 10000 in
set_option maxHeartbeats 800000 in
theorem cloneBlk_nil (w : World) : Calls Tryz.prog 196 #[.slice none 0 0] w fun e w' => e = .returned (.slice none 0 0) ∧ w = w' := by
  have he := fun w => Lib.run_eql_slice_nil (P := Tryz.prog) w 26 39 none 0 0 0 0 Tryz.underlying26
  go_enter Tryz.func196, Tryz.ntmps196
  go_wp2
  go_ret
  exact ⟨rfl, rfl⟩

set_option maxRecDepth 10000 in
set_option maxHeartbeats 1600000 in
theorem cloneBlk_some (ad : Addr) (n c : Nat) (F : List Value) (w : World) (hn : n ≤ 4096) (hz : F.length = n * 5) (h1 : ∀ u ∈ F, u.oneCell' = true) (hc : ∀ j u, F[j]? = some u → w.cell? (ad.add j) = some u) :
    Calls Tryz.prog 196 #[.slice (some ad) n c] w fun e w' => ∃ v, e = .returned v ∧ w'.ownsRow w.heap.size 39 5 v n F ∧ Below w.heap.size w w' := by
  obtain ⟨i0, hi, hz0, hz1, hz2⟩ := info_parts Tryz.infoBlkC
  have hb := bel_new w (.cells #[] 39)
  have HC : Hid (∀ j u, F[j]? = some u → (w.alloc (.cells #[] 39)).cell? (ad.add j) = some u) := fun j u hj => cell_later hb (hc j u hj)
  have HB := hide hb
  have HZ := hide hz
  have H1 := hide h1
  have HO := hide (own_nil w 39 5)
  have he := fun w => Lib.run_eql_slice_nil (P := Tryz.prog) w 26 39 (some ad) n c 0 0 Tryz.underlying26
  clear hc hb hz h1
  go_enter Tryz.func196, Tryz.ntmps196
  go_wp2_with (at_builtin; refine wpList_append_own _ rfl _ _ 26 rfl w.heap.size 39 i0 (.agg #[.int .i64 0, .int .i64 0, .int .i64 0, .int .i64 0, .slice none 0 0]) 5 56 Tryz.underlying26 hi hz0 hz1 hz2 rfl (by decide) _ _ _ rfl (unhide HO) ad n c F rfl (unhide HZ) (unhide HC) (unhide H1) (by unfold maxLen; omega) (by omega) (unhide HB).size ?_; intro v2 w3 hown3 hgrow3 _)
  have HW : Hid (w3.ownsRow w.heap.size 39 5 v2 n F) := by show World.ownsRow _ _ _ _ _ _ _; simpa using hown3
  have HB3 := hide ((unhide HB).grown hgrow3 (unhide HB).size (own_lo (unhide HO)))
  clear hown3 hgrow3
  go_wp2
  go_ret
  exact ⟨v2, rfl, unhide HW, unhide HB3⟩

theorem cloneBlk_any (a : Option Addr) (n c : Nat) (L : List BlkD) (w0 w : World) (hn : n ≤ 4096) (h : RowsAt blkR.R 5 w0 a n L) (hb : Below w0.heap.size w0 w) (hs : SlOk a n c) :
    Calls Tryz.prog 196 #[.slice a n c] w fun e w' => ∃ v, ∃ K : List (List Value), e = .returned v ∧ AllC blkR w0 K L ∧ w'.ownsRow w.heap.size 39 5 v n K.flatten ∧ Below w.heap.size w w' := by
  obtain ⟨hl, hc⟩ := h
  cases a with
  | none =>
    obtain ⟨rfl, rfl⟩ := hs.2.2 rfl
    have e : L = [] := List.length_eq_zero_iff.1 hl
    subst e
    exact (cloneBlk_nil w).mono fun e w' ⟨x, y⟩ => ⟨_, [], x, ⟨rfl, fun i h => absurd h (by simp)⟩, y ▸ World.ownsRow_nil _ _ _ _, y ▸ Below.refl _ _⟩
  | some ad =>
    by_cases h0 : n = 0
    · subst h0
      have e : L = [] := List.length_eq_zero_iff.1 hl
      subst e
      exact (cloneBlk_some ad 0 c [] w hn rfl (fun u hu => by cases hu) (fun j u hj => by simp at hj)).mono fun e w' ⟨v, x, y, z⟩ => ⟨v, [], x, ⟨rfl, fun i h => absurd h (by simp)⟩, y, z⟩
    · obtain ⟨b, off, e, _, hcell⟩ := hc (by omega)
      obtain ⟨rfl⟩ := e
      obtain ⟨K, h1, h3⟩ := heads_of blkR hcell
      have hk : K.flatten.length = n * 5 := by rw [flat_len h1, hl]; rfl
      exact (cloneBlk_some ⟨b, off, none⟩ n c K.flatten w hn hk (flat_one h1) (fun j u hj => by rw [Addr.add_lit]; exact cell_later hb (h3 j u hj))).mono fun e w' ⟨v, x, y, z⟩ => ⟨v, K, x, h1, y, z⟩

end Go.Proofs.YtmomfkikogbdeaaGreatDoor.Tr

/- Contracts of Index, Contains and Equal at ints, of has, find, heightOf, first. -/
namespace Go.Proofs.YtmomfkikogbdeaaGreatDoor.Tr
open Go.RowKit

set_option maxRecDepth 10000 in
set_option maxHeartbeats 1600000 in
theorem indexInt_is (a : Option Addr) (n c : Nat) (L : List Int) (s x : Int) (w : World) (hn : n ≤ maxLen) (h : IntsAt w a n L) (hx : idxI s L 0 = x) :
    Calls Tryz.prog 77 #[.slice a n c, .int .i64 s] w fun e w' => e = .returned (.int .i64 x) ∧ w = w' := by
  have HL := hide h
  have HZ := hide h.1
  have HX : Hid (idxI s (L.drop 0) 0 = x) := hx
  unfold maxLen at hn
  clear h hx
  go_enter Tryz.func77, Tryz.ntmps77
  go_wp2
  go_loopw [8] (fun i wr => ∃ j : Nat, j ≤ n ∧ i = .int .i64 j ∧ w = wr ∧ Hid (idxI s (L.drop j) j = x)) (fun i _ => n - (intOf i).toNat)
  case atStart => exact ⟨0, Nat.zero_le _, rfl, rfl, HX⟩
  case round =>
    obtain ⟨j, hk, rfl, rfl, A⟩ := hrel
    clear HX
    by_cases hlt : j < n
    · have h1 : j < L.length := by rw [unhide HZ]; exact hlt
      obtain ⟨b, off, rfl, hbl, hc⟩ := (unhide HL).2 (by omega)
      have f1 := hc j h1
      have ST := hide (idxI_at s L j h1)
      obtain ⟨t, ht⟩ : ∃ t, L[j] = t := ⟨_, rfl⟩
      rw [ht] at f1 ST
      clear ht hc
      by_cases e : s = t
      · subst e
        have R : Hid ((j : Int) = x) := by show _ = _; rw [← unhide A, unhide ST, if_pos rfl]
        clear A ST
        go_wp2
        go_ret
        exact ⟨by rw [unhide R]; rfl, rfl⟩
      · have R : Hid (idxI s (L.drop (j + 1)) (j + 1) = x) := by show _ = _; rw [← unhide A, unhide ST, if_neg e]
        have g : (s == t) = false := by simp [e]
        clear A ST e
        go_wp2
        go_roundw
        case rel => exact ⟨j + 1, by omega, by go_num, (by trivial), R⟩
        case measure => simp [intOf]; omega
    · have R : Hid (x = -1) := by show _ = _; rw [← unhide A, idxI_end s L j (by rw [unhide HZ]; omega)]
      clear A
      go_wp2
      go_ret
      exact ⟨by rw [unhide R]; rfl, rfl⟩

set_option maxHeartbeats 400000 in
theorem containsInt_is (a : Option Addr) (n c : Nat) (L : List Int) (s : Int) (o : Bool) (w : World) (hn : n ≤ maxLen) (h : IntsAt w a n L) (ho : decide (s ∈ L) = o) :
    Calls Tryz.prog 141 #[.slice a n c, .int .i64 s] w fun e w' => e = .returned (.bool o) ∧ w = w' := by
  obtain ⟨x, hx⟩ : ∃ x, idxI s L 0 = x := ⟨_, rfl⟩
  have C := hide (indexInt_is a n c L s x w hn h hx)
  have HO : Hid (decide (0 ≤ x) = o) := by show _ = _; rw [← hx, idxI_has, ho]
  clear hn h ho hx
  go_enter Tryz.func141, Tryz.ntmps141
  go_wp2_with fail
  refine (unhide C).mono ?_
  rintro e w1 ⟨rfl, rfl⟩
  go_wp2
  go_ret
  exact ⟨by rw [← unhide HO]; rfl, rfl⟩

set_option maxHeartbeats 400000 in
theorem has_is (a b : Option Addr) (n c m d : Nat) (L : List Int) (s : Int) (o : Bool) (w : World) (hn : n ≤ maxLen) (h : IntsAt w a n L) (ho : decide (s ∈ L) = o) :
    Calls Tryz.prog 70 #[.agg #[.slice a n c, .slice b m d], .int .i64 s] w fun e w' => e = .returned (.bool o) ∧ Below w.heap.size w w' := by
  have hb := bel_new w (.cells #[.slice a n c, .slice b m d] 28)
  have C := hide (containsInt_is a n c L s o _ hn (h.later hb) ho)
  have HB := hide hb
  clear h ho hb
  go_enter Tryz.func70, Tryz.ntmps70
  go_wp2_with fail
  refine (unhide C).mono ?_
  rintro e w1 ⟨rfl, rfl⟩
  go_wp2
  go_ret
  exact ⟨rfl, unhide HB⟩

/-- A block's value, its transactions in memory. -/
def blkV (x : BlkD) (a : Option Addr) (n c : Nat) : Value := .agg #[.int .i64 x.1, .int .i64 x.2.1, .int .i64 x.2.2.1, .int .i64 x.2.2.2.1, .slice a n c]

set_option maxRecDepth 10000 in
set_option maxHeartbeats 1600000 in
theorem find_is (a b : Option Addr) (n c d : Nat) (N : List Int) (T : List BlkD) (s : Int) (x : BlkD) (w : World) (hn : n ≤ maxLen) (h : IntsAt w a n N) (hT : BlksAt w b n T) (hx : fnd s N T = x) :
    Calls Tryz.prog 72 #[.agg #[.slice a n c, .slice b n d], .int .i64 s] w fun e w' => ∃ ta tn tc, e = .returned (blkV x ta tn tc) ∧ TxsAt w ta tn x.2.2.2.2 ∧ SlOk ta tn tc ∧ Below w.heap.size w w' := by
  unfold blkV
  obtain ⟨X, hX⟩ : ∃ X, X = (w.alloc (.cells #[.slice a n c, .slice b n d] 28)).alloc (.cells #[.int .i64 0, .int .i64 0, .int .i64 0, .int .i64 0, .slice none 0 0] 39) := ⟨_, rfl⟩
  have hbX : Below w.heap.size w X := by rw [hX]; exact bel_on (bel_new _ _) (bel_new _ _)
  have x0 : X.cell? ⟨w.heap.size, 0, none⟩ = some (.slice a n c) := by rw [hX]; exact cell_later (bel_new _ _) (two_cells w _ _ _).1
  have x1 : X.cell? ⟨w.heap.size, 1, none⟩ = some (.slice b n d) := by rw [hX]; exact cell_later (bel_new _ _) (two_cells w _ _ _).2
  have hX1 : X.heap[w.heap.size + 1]? = some (.cells [.int .i64 0, .int .i64 0, .int .i64 0, .int .i64 0, .slice none 0 0].toArray 39 (0, 0)) := by
    rw [hX]
    have := five_heap (w.alloc (.cells #[.slice a n c, .slice b n d] 28)) (.int .i64 0) (.int .i64 0) (.int .i64 0) (.int .i64 0) (.slice none 0 0) 39
    rw [show (w.alloc (.cells #[.slice a n c, .slice b n d] 28)).heap.size = w.heap.size + 1 by simp] at this
    exact this
  have z0 := cell_of hX1 0 _ rfl
  have z1 := cell_of hX1 1 _ rfl
  have z2 := cell_of hX1 2 _ rfl
  have z3 := cell_of hX1 3 _ rfl
  have z4 := cell_of hX1 4 _ rfl
  have y0 := frozen_of hX1 0
  have y1 := frozen_of hX1 1
  have y2 := frozen_of hX1 2
  have y3 := frozen_of hX1 3
  have y4 := frozen_of hX1 4
  have xl := lt_of_block hX1
  obtain ⟨k, hk⟩ : ∃ k, idxI s N 0 = k := ⟨_, rfl⟩
  have C := hide (indexInt_is a n c N s k X hn (h.later hbX) hk)
  have HBX := hide hbX
  have HT := hide hT
  rcases idxI_fnd s N T 0 (by rw [h.1, hT.1]) with ⟨h1, _, h3⟩ | ⟨i, hi, h1, _, h3⟩
  · rw [hx] at h3
    obtain rfl : k = -1 := by rw [← hk, h1]
    subst h3
    clear h hT hx hX1 hbX hk h1
    unfold zeroB
    simp only
    go_enter Tryz.func72, Tryz.ntmps72
    go_wp2_with fail
    rw [← hX]
    clear hX
    refine (unhide C).mono ?_
    rintro e w1 ⟨rfl, rfl⟩
    go_wp2
    (try simp only [Exit.inBlock, Exit.then])
    refine bodyPost_ret (v := .agg #[.int .i64 0, .int .i64 0, .int .i64 0, .int .i64 0, .slice none 0 0]) ?_ rfl ⟨none, 0, 0, rfl, RowsAt.nil _ _, ⟨Nat.le_refl _, Nat.zero_le _, fun _ => ⟨rfl, rfl⟩⟩, ?_⟩
    · rw [results_cell1 rfl]
      go_simp
    · exact (((((Gr.refl X (fun q => q = w.heap.size + 1)).one (w.heap.size + 1) 0 (.inl rfl) _).one (w.heap.size + 1) 1 (.inl rfl) _).one (w.heap.size + 1) 2 (.inl rfl) _).one (w.heap.size + 1) 3 (.inl rfl) _).one (w.heap.size + 1) 4 (.inl rfl) _ |>.below (unhide HBX) (by omega) (fun k hk => by omega)
  · rw [hx] at h3
    obtain rfl : k = (i : Int) := by rw [← hk, h1]; simp
    have hin : i < n := by rw [← hT.1]; exact hi
    obtain ⟨bb, off, rfl, hbl, hcell⟩ := hT.2 (by omega)
    have hat := hcell i hi
    rw [← h3] at hat
    obtain ⟨g0, g1, g2, g3, ta, tn, tc, g4, ht, hs⟩ := hat
    have HTX := hide ht
    have HSX := hide hs
    have k0 := cell_later hbX g0
    have k1 := cell_later hbX g1
    have k2 := cell_later hbX g2
    have k3 := cell_later hbX g3
    have k4 := cell_later hbX g4
    have bl := Nat.lt_of_lt_of_le hbl hbX.size
    clear h hT hx hX1 hbX hk h1 hcell ht hs g0 g1 g2 g3 g4 h3
    go_enter Tryz.func72, Tryz.ntmps72
    go_wp2_with fail
    rw [← hX]
    clear hX
    refine (unhide C).mono ?_
    rintro e w1 ⟨rfl, rfl⟩
    go_wp2
    (try simp only [Exit.inBlock, Exit.then])
    refine bodyPost_ret (v := .agg #[.int .i64 x.1, .int .i64 x.2.1, .int .i64 x.2.2.1, .int .i64 x.2.2.2.1, .slice ta tn tc]) ?_ rfl ⟨ta, tn, tc, rfl, unhide HTX, unhide HSX, ?_⟩
    · rw [results_cell1 rfl]
      go_simp
    · exact (((((Gr.refl X (fun q => q = w.heap.size + 1)).one (w.heap.size + 1) 0 (.inl rfl) _).one (w.heap.size + 1) 1 (.inl rfl) _).one (w.heap.size + 1) 2 (.inl rfl) _).one (w.heap.size + 1) 3 (.inl rfl) _).one (w.heap.size + 1) 4 (.inl rfl) _ |>.below (unhide HBX) (by omega) (fun k hk => by omega)

theorem field_blk (p h k n v : Value) (w : World) :
    (Instr.field 39 (.agg #[p, h, k, n, v]) 0).run Tryz.prog w = .ok p w ∧ (Instr.field 39 (.agg #[p, h, k, n, v]) 1).run Tryz.prog w = .ok h w ∧ (Instr.field 39 (.agg #[p, h, k, n, v]) 2).run Tryz.prog w = .ok k w := by
  refine ⟨?_, ?_, ?_⟩ <;> kernel_rfl

set_option maxRecDepth 10000 in
set_option maxHeartbeats 400000 in
theorem heightOf_is (a b : Option Addr) (n c d : Nat) (N : List Int) (T : List BlkD) (s z : Int) (w : World) (hn : n ≤ maxLen) (h : IntsAt w a n N) (hT : BlksAt w b n T) (hz : (fnd s N T).2.1 = z) :
    Calls Tryz.prog 194 #[.agg #[.slice a n c, .slice b n d], .int .i64 s] w fun e w' => e = .returned (.int .i64 z) ∧ Below w.heap.size w w' := by
  have hb := bel_new w (.cells #[.slice a n c, .slice b n d] 28)
  have C := find_is a b n c d N T s _ _ hn (h.later hb) (hT.later hb) rfl
  unfold blkV at C
  rw [hz] at C
  have C := hide C
  have HB := hide hb
  clear h hT hz hb
  go_enter Tryz.func194, Tryz.ntmps194
  go_wp2_with fail
  refine (unhide C).mono ?_
  rintro e w1 ⟨ta, tn, tc, rfl, _, _, hb1⟩
  have HB1 := hide (bel_on (unhide HB) hb1)
  have hf := (field_blk (.int .i64 (fnd s N T).1) (.int .i64 z) (.int .i64 (fnd s N T).2.2.1) (.int .i64 (fnd s N T).2.2.2.1) (.slice ta tn tc) w1).2.1
  clear hb1
  go_wp2
  go_ret
  exact ⟨rfl, unhide HB1⟩

end Go.Proofs.YtmomfkikogbdeaaGreatDoor.Tr
