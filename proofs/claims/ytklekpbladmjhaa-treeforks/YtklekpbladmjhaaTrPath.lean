/- Contracts of pathTo and workOf. -/
import Derived.Test.YtklekpbladmjhaaTrIdx
namespace Go.Proofs.Ytklekpbladmjhaa
open Go.RowKit

/-- The row of a path, filled from its end. -/
structure Up (B g H : Nat) (N : List Int) (T : List BlkD) (s : Int) (wr : World) (k : Nat) (y : Int) : Prop where
  ex : ∃ xs : List Value, wr.ownsRow B 3 1 (.slice (some ⟨g, 0, none⟩) H H) H xs ∧ (upD N T H s).map (Value.int .i64) = (upD N T (H - k) y).map (Value.int .i64) ++ xs.drop (H - k)
theorem Up.old {B g H : Nat} {N : List Int} {T : List BlkD} {s : Int} {wr : World} {k : Nat} {y : Int} (h : Up B g H N T s wr k y) {r : Nat} (hr : r < H) : (∃ v, wr.cell? ⟨g, r, none⟩ = some v) ∧ wr.frozen? ⟨g, r, none⟩ = false ∧ B ≤ g ∧ g < wr.heap.size := by
  obtain ⟨xs, ho, _⟩ := h.ex
  have hl : xs.length = H := by simpa using ho.1
  exact ⟨⟨xs[r]'(by omega), by rw [ho.cellAt r (by omega)]; simp [hl, hr]⟩, ho.frozenAt r, (ho.lt g rfl).1, (ho.lt g rfl).2⟩
theorem Up.step {B g H : Nat} {N : List Int} {T : List BlkD} {s : Int} {wr : World} {k : Nat} {y : Int} (h : Up B g H N T s wr k y) (hk : k < H) {r : Nat} (hr : r = H - 1 - k) : Up B g H N T s (wr.setCell ⟨g, r, none⟩ (.int .i64 y)) (k + 1) (fnd y N T).1 := by
  obtain ⟨xs, ho, hx⟩ := h.ex
  have hl : xs.length = H := by simpa using ho.1
  refine ⟨xs.set r (.int .i64 y), (ho.stored r _).1, ?_⟩
  rw [hx, show H - k = (H - (k + 1)) + 1 by omega, upD, List.map_append, List.append_assoc]
  congr 1
  have e : r = H - (k + 1) := by omega
  rw [← e]
  rw [List.drop_eq_getElem_cons (l := xs.set r (.int .i64 y)) (i := r) (by rw [List.length_set]; omega), List.drop_set_of_lt (by omega)]
  simp
theorem Up.keep {B g H : Nat} {N : List Int} {T : List BlkD} {s : Int} {wr w' : World} {k : Nat} {y : Int} (h : Up B g H N T s wr k y) (hb : Below wr.heap.size wr w') : Up B g H N T s w' k y := by
  obtain ⟨xs, ho, hx⟩ := h.ex
  exact ⟨xs, (Gr.of (S := fun _ => False) hb).own ho (fun _ _ q => q), hx⟩

set_option maxRecDepth 10000 in
set_option maxHeartbeats 3200000 in
theorem pathTo_is (a b : Option Addr) (n c d : Nat) (N : List Int) (T : List BlkD) (s : Int) (w : World) (hn : n ≤ maxLen) (hN : IntsAt w a n N) (hT : BlksAt w b n T) (hH : HeadsOk T) :
    Calls Try.prog 40 #[.agg #[.slice a n c, .slice b n d], .int .i64 s] w fun e w' => ∃ v, e = .returned v ∧ w'.ownsRow w.heap.size 3 1 v (pthD N T s).length ((pthD N T s).map (Value.int .i64)) ∧ Below w.heap.size w w' := by
  obtain ⟨i0, hi, hz0, hz1, hz2⟩ := info_parts Try.infoInt
  obtain ⟨X, hX⟩ : ∃ X, X = w.alloc (.cells #[.slice a n c, .slice b n d] 25) := ⟨_, rfl⟩
  have hbX : Below w.heap.size w X := by rw [hX]; exact bel_new _ _
  have hX0 : X.heap[w.heap.size]? = some (.cells [.slice a n c, .slice b n d].toArray 25 (0, 0)) := by rw [hX]; exact two_heap _ _ _ _
  obtain ⟨H, hh⟩ : ∃ H : Nat, (fnd s N T).2.1 = (H : Int) := ⟨_, (Int.toNat_of_nonneg (fnd_ok hH s N).1).symm⟩
  have hH1 : H ≤ 1000 := by have := (fnd_ok hH s N).2.1; omega
  have HP : Hid (pthD N T s = upD N T H s) := by show _ = _; unfold pthD; rw [hh]; rfl
  have C := hide (heightOf_is a b n c d N T s H X hn (hN.later hbX) (hT.later hbX) hh)
  have HB := hide hbX
  have HX0 := hide hX0
  have HN := hide hN
  have HT := hide hT
  have CF := hide (fun y W (hb : Below w.heap.size w W) => find_is a b n c d N T y _ W hn (hN.later hb) (hT.later hb) rfl)
  have hXs : w.heap.size + 1 ≤ X.heap.size := lt_of_block hX0
  clear hbX hX0 hN hT hH hh
  go_enter Try.func40, Try.ntmps40
  go_wp2_with fail
  rw [← hX]
  clear hX
  refine (unhide C).mono ?_
  rintro e w1 ⟨rfl, hb1⟩
  have hw1s : w.heap.size + 1 ≤ w1.heap.size := Nat.le_trans hXs hb1.size
  have HBW := hide (bel_on (unhide HB) hb1)
  have C1 := hide ((hb1.block _ (lt_of_block (unhide HX0))).trans (unhide HX0))
  clear hb1
  go_wp2_with (at_make; refine wpList_make_full _ rfl _ _ 22 rfl (w.heap.size + 1) 3 i0 (.int .i64 0) 1 Try.underlying22 hi hz0 hz1 .i64 .i64 _ _ H rfl rfl rfl rfl (by rw [hz2]; omega) (by unfold maxLen; omega) hw1s ?_; intro w3 hown3 hgrow3)
  have hb3 : Below w1.heap.size w1 w3 := (Below.refl _ _).grown hgrow3 (Nat.le_refl _) (fun k h => by cases h)
  have HU : Hid (Up (w.heap.size + 1) w1.heap.size H N T s w3 0 s) := ⟨_, hown3, by
    rw [Nat.sub_zero, List.drop_of_length_le (by rw [hown3.1]; omega), List.append_nil]⟩
  have C3 := hide ((hb3.block _ (lt_of_block (unhide C1))).trans (unhide C1))
  have HB3 := hide (bel_on (unhide HBW) hb3)
  obtain ⟨g, hg⟩ : ∃ g, w1.heap.size = g := ⟨_, rfl⟩
  rw [hg] at HU ⊢
  clear hb3 hown3 hgrow3 C1 HBW hg hw1s
  go_loopw [1, 14] (fun nm i wr => ∃ (k : Nat) (y : Int), k ≤ H ∧ nm = .int .i64 y ∧ i = .int .i64 k ∧ Hid (Up (w.heap.size + 1) g H N T s wr k y) ∧ Hid (Below w.heap.size w wr) ∧ Hid (wr.heap[w.heap.size]? = some (.cells [.slice a n c, .slice b n d].toArray 25 (0, 0)))) (fun _ i _ => H - (intOf i).toNat)
  case atStart => exact ⟨0, s, Nat.zero_le _, rfl, rfl, HU, HB3, C3⟩
  case round =>
    obtain ⟨k, y, hk, rfl, rfl, HUr, HBr, HCr⟩ := hrel
    clear HU HB3 C3
    by_cases hlt : k < H
    · obtain ⟨r, hr⟩ : ∃ r, r = H - 1 - k := ⟨_, rfl⟩
      have hrl : r < H := by omega
      obtain ⟨⟨v0, hv0⟩, hfz, hgB, hgl⟩ := (unhide HUr).old hrl
      have hwA : IntKind.i64.wrap ((H : Int) - 1) = (H : Int) - 1 := by rw [IntKind.wrap_i64]; omega
      have hwB : IntKind.i64.wrap ((H : Int) - 1 - (k : Int)) = (r : Int) := by rw [IntKind.wrap_i64]; omega
      have hrI : (r : Int) < (H : Int) := by omega
      have ST := hide ((unhide HUr).step hlt hr)
      have hG : Gr wr (wr.setCell ⟨g, r, none⟩ (.int .i64 y)) (fun q => q = g) := (Gr.refl wr (fun q => q = g)).one g r (.inl rfl) _
      have HB4 := hide (hG.below (unhide HBr) (by omega) (fun q hq => by omega))
      have hc4 := hG.heap (unhide HCr) (by omega)
      have HC4 := hide hc4
      have CC := hide ((unhide CF) y _ (unhide HB4))
      have t0 := cell_of hc4 0 _ rfl
      have t1 := cell_of hc4 1 _ rfl
      have tl := lt_of_block hc4
      have hkI : (k : Int) < (H : Int) := by omega
      clear hG hr hc4
      go_wp2_with fail
      refine (unhide CC).mono ?_
      rintro e w5 ⟨ta, tn, tc, rfl, _, _, hb5⟩
      unfold blkV
      have hf := (field_blk (.int .i64 (fnd y N T).1) (.int .i64 (fnd y N T).2.1) (.int .i64 (fnd y N T).2.2.1) (.int .i64 (fnd y N T).2.2.2.1) (.slice ta tn tc) w5).1
      have R1 := hide ((unhide ST).keep hb5)
      have R2 := hide (bel_on (unhide HB4) hb5)
      have R3 := hide ((hb5.block _ (lt_of_block (unhide HC4))).trans (unhide HC4))
      clear hb5 CC ST
      go_wp2
      go_roundw
      case rel => exact ⟨k + 1, _, by omega, rfl, by go_num, R1, R2, R3⟩
      case measure => simp [intOf]; omega
    · have e : k = H := by omega
      subst e
      have R : Hid (wr.ownsRow w.heap.size 3 1 (.slice (some ⟨g, 0, none⟩) k k) (pthD N T s).length ((pthD N T s).map (Value.int .i64))) := by
        show World.ownsRow _ _ _ _ _ _ _
        rw [unhide HP]
        obtain ⟨xs, ho, hx⟩ := (unhide HUr).ex
        rw [Nat.sub_self, List.drop_zero, upD, List.map_nil, List.nil_append] at hx
        rw [hx, upD_len]
        exact own_weak ho (by omega)
      clear HUr
      go_wp2
      go_ret
      exact ⟨_, rfl, unhide R, unhide HBr⟩

theorem wk_bound {N : List Int} {T : List BlkD} (hH : HeadsOk T) : ∀ (P : List Int) (s : Int), s ≤ wkGo N T s P ∧ wkGo N T s P ≤ s + 1000 * P.length
  | [], s => by simp [wkGo]
  | x :: P, s => by
    have h1 := (fnd_ok hH x N).2.2
    have h2 := wk_bound hH P (s + (fnd x N T).2.2.1) (N := N)
    simp only [wkGo, List.length_cons]
    omega

set_option maxRecDepth 10000 in
set_option maxHeartbeats 1600000 in
theorem workOf_is (a b pa : Option Addr) (n c d pn pc : Nat) (N : List Int) (T : List BlkD) (P : List Int) (x : Int) (w : World) (hn : n ≤ maxLen) (hN : IntsAt w a n N) (hT : BlksAt w b n T) (hP : IntsAt w pa pn P) (hp : pn ≤ 1000) (hH : HeadsOk T) (hx : wkGo N T 0 P = x) :
    Calls Try.prog 41 #[.agg #[.slice a n c, .slice b n d], .slice pa pn pc] w fun e w' => e = .returned (.int .i64 x) ∧ Below w.heap.size w w' := by
  obtain ⟨X, hX⟩ : ∃ X, X = w.alloc (.cells #[.slice a n c, .slice b n d] 25) := ⟨_, rfl⟩
  have hbX : Below w.heap.size w X := by rw [hX]; exact bel_new _ _
  have hX0 : X.heap[w.heap.size]? = some (.cells [.slice a n c, .slice b n d].toArray 25 (0, 0)) := by rw [hX]; exact two_heap _ _ _ _
  have HB := hide hbX
  have HX0 := hide hX0
  have HPA := hide (hP.later hbX)
  have HZ := hide hP.1
  have HO := hide hH
  have CF := hide (fun y W (hb : Below X.heap.size X W) => find_is a b n c d N T y _ W hn (hN.later (bel_on hbX hb)) (hT.later (bel_on hbX hb)) rfl)
  have HX : Hid (wkGo N T 0 (P.drop 0) = x) := hx
  clear hbX hX0 hN hT hP hH hx
  go_enter Try.func41, Try.ntmps41
  go_wp2_with fail
  rw [← hX]
  clear hX
  go_wp2
  go_loopw [5, 10] (fun sv i wr => ∃ (k : Nat) (s : Int), k ≤ pn ∧ sv = .int .i64 s ∧ i = .int .i64 k ∧ Hid (wkGo N T s (P.drop k) = x) ∧ Hid (0 ≤ s ∧ s ≤ 1000 * k) ∧ Hid (Below X.heap.size X wr)) (fun _ i _ => pn - (intOf i).toNat)
  case atStart => exact ⟨0, 0, Nat.zero_le _, rfl, rfl, HX, (⟨by omega, by omega⟩ : (0 : Int) ≤ 0 ∧ (0 : Int) ≤ 1000 * (0 : Nat)), (Below.refl _ _ : Below X.heap.size X X)⟩
  case round =>
    obtain ⟨k, s, hk, rfl, rfl, A, BD, HBr⟩ := hrel
    clear HX
    by_cases hlt : k < pn
    · have h1 : k < P.length := by rw [unhide HZ]; exact hlt
      obtain ⟨b1, off1, rfl, hl1, hc1⟩ := (unhide HPA).2 (by omega)
      have f1 := cell_later (unhide HBr) (hc1 k h1)
      have AT := hide (wkGo_at N T s P k h1)
      obtain ⟨y, hy⟩ : ∃ y, P[k] = y := ⟨_, rfl⟩
      rw [hy] at f1 AT
      have ll := Nat.lt_of_lt_of_le hl1 (unhide HBr).size
      have hcx := ((unhide HBr).block _ (lt_of_block (unhide HX0))).trans (unhide HX0)
      have t0 := cell_of hcx 0 _ rfl
      have t1 := cell_of hcx 1 _ rfl
      have tl := lt_of_block hcx
      have CC := hide ((unhide CF) y _ (unhide HBr))
      have hq := (fnd_ok (unhide HO) y N).2.2
      have hbd := unhide BD
      obtain ⟨v, hv⟩ : ∃ v, (fnd y N T).2.2.1 = v := ⟨_, rfl⟩
      rw [hv] at hq AT
      have HV := hide hv
      have hw1 : IntKind.i64.wrap (s + v) = s + v := by rw [IntKind.wrap_i64]; omega
      have R : Hid (wkGo N T (s + v) (P.drop (k + 1)) = x) := by show _ = _; rw [← unhide A, unhide AT]
      have BD2 : Hid (0 ≤ s + v ∧ s + v ≤ 1000 * ((k + 1 : Nat) : Int)) := by
        show _ ∧ _
        omega
      have hkI : (k : Int) < (pn : Int) := by omega
      clear hc1 hy A AT hcx hq hbd BD hv hl1
      go_wp2_with fail
      refine (unhide CC).mono ?_
      rintro e w5 ⟨ta, tn, tc, rfl, _, _, hb5⟩
      unfold blkV
      rw [unhide HV]
      have hf := (field_blk (.int .i64 (fnd y N T).1) (.int .i64 (fnd y N T).2.1) (.int .i64 v) (.int .i64 (fnd y N T).2.2.2.1) (.slice ta tn tc) w5).2.2
      have R2 := hide (bel_on (unhide HBr) hb5)
      clear hb5 CC
      go_wp2
      go_roundw
      case rel => exact ⟨k + 1, s + v, by omega, rfl, by go_num, R, BD2, R2⟩
      case measure => simp [intOf]; omega
    · have R : Hid (s = x) := by show _ = _; rw [← unhide A, wkGo_end N T s P k (by rw [unhide HZ]; omega)]
      have HBF := hide (bel_on (unhide HB) (unhide HBr))
      clear A BD
      go_wp2
      go_ret
      exact ⟨by rw [← unhide R]; rfl, unhide HBF⟩

end Go.Proofs.Ytklekpbladmjhaa
