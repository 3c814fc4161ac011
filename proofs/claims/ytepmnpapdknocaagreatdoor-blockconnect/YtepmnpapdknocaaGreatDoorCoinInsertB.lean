/- The contract of Insert of one coin ahead of others. -/
import Derived.Test.YtepmnpapdknocaaGreatDoorCoinInsert
namespace Go.Proofs.YtepmnpapdknocaaGreatDoor
open Go.RowKit

theorem ins_mid (X Y : List Value) (i n c : Nat) (hi : i < n) (h : n + 1 ≤ c) (hX : X.length = c * 6) (hY : Y.length = 6) :
    (laid (laid X ((i + 1) * 6) ((X.take (n * 6)).drop (i * 6))) (i * 6) Y).take ((n + 1) * 6) = (X.take (n * 6)).take (i * 6) ++ (Y ++ (X.take (n * 6)).drop (i * 6)) := by
  have e1 : ((X.take (n * 6)).drop (i * 6)).length = n * 6 - i * 6 := by simp; omega
  obtain ⟨Z, hZ⟩ : ∃ Z, Z = (X.take (n * 6)).drop (i * 6) := ⟨_, rfl⟩
  rw [← hZ] at e1 ⊢
  have e2 : (laid X ((i + 1) * 6) Z).take (i * 6) = X.take (i * 6) := by
    unfold laid
    rw [List.append_assoc, List.take_append_of_le_length (by simp; omega), List.take_take, Nat.min_eq_left (by omega)]
  have e3 : (laid X ((i + 1) * 6) Z).drop (i * 6 + 6) = Z ++ X.drop ((i + 1) * 6 + Z.length) := by
    unfold laid
    rw [List.append_assoc, show i * 6 + 6 = (i + 1) * 6 by omega, List.drop_append_of_le_length (by simp; omega), List.drop_of_length_le (by rw [List.length_take]; omega), List.nil_append]
  rw [show laid (laid X ((i + 1) * 6) Z) (i * 6) Y = X.take (i * 6) ++ Y ++ (Z ++ X.drop ((i + 1) * 6 + Z.length)) by unfold laid at e2 e3 ⊢; rw [hY, e2, e3]]
  rw [← List.append_assoc, List.take_append_of_le_length (by simp [e1, hY]; omega), List.take_of_length_le (by simp [e1, hY]; omega), List.take_take, Nat.min_eq_left (by omega), List.append_assoc]

theorem flatC_mid (K : List CV) (y : CV) (i : Nat) : flatC (K.take i ++ y :: K.drop i) = (flatC K).take (i * 6) ++ (flatC [y] ++ (flatC K).drop (i * 6)) := by
  rw [flatC_take, flatC_drop, flatC_append, show y :: K.drop i = [y] ++ K.drop i from rfl, flatC_append]

set_option maxRecDepth 10000 in
set_option maxHeartbeats 3200000 in
theorem insertCoin_shift (base g n c i vb : Nat) (K : List CV) (y : CV) (w : World) (hi : i < n) (hroom : n + 1 ≤ c) (hz : K.length = n) (h : w.ownsRow base 88 6 (.slice (some ⟨g, 0, none⟩) n c) n (flatC K)) (hv : w.heap[vb]? = some (.cells (flatC [y]).toArray 88 (0, 0))) (hne : vb ≠ g) :
    Calls Tryz.prog 144 #[.slice (some ⟨g, 0, none⟩) n c, .int .i64 i, .slice (some ⟨vb, 0, none⟩) 1 1] w fun e w' => e = .returned (.slice (some ⟨g, 0, none⟩) (n + 1) c) ∧ w'.ownsRow base 88 6 (.slice (some ⟨g, 0, none⟩) (n + 1) c) (n + 1) (flatC (K.take i ++ y :: K.drop i)) ∧ w.grownBy w' (some g) := by
  obtain ⟨i0, hi0, hz0, hz1, hz2⟩ := info_parts Tryz.infoCoin
  obtain ⟨hlen, h | ⟨g', c', cur, hv', hbg, hh, h1, h2, h3, h4⟩⟩ := h
  · cases h.1
  simp only [Value.slice.injEq, Option.some.injEq, Addr.mk.injEq, and_true, true_and] at hv'
  obtain ⟨rfl, rfl⟩ := hv'
  unfold maxLen at h2
  have hcur : cur.toList.length = c * 6 := by simpa using h3
  have hsz : (Tryz.prog.info? 88).map (·.size) = some 6 := by rw [hi0]; simp [hz1]
  have hov : ∀ lb cb, (callFunc 180 #[.slice (some ⟨vb, 0, none⟩) 1 1, .slice (some ⟨g, (i + 1) * 6, none⟩) lb cb]).run Tryz.prog w = .ok (.value (.bool false)) w := fun lb cb => by
    rw [run_callFunc_extern Tryz.func180 (by kernel_rfl) (by kernel_rfl) (by kernel_rfl) (e := Extern.SlicesOverlaps.overlaps #[25, 25] #[4]) (by kernel_rfl),
      Lib.run_overlaps_apart w 25 4 88 Tryz.underlying25 6 Tryz.sizeOf88 ⟨vb, 0, none⟩ ⟨g, (i + 1) * 6, none⟩ 1 1 lb cb hne 88 88 6 (c * 6) (by simp [World.shape?, hv, flatC_single]) (by simp [World.shape?, hh, h3]) (by omega) (by simp [World.frozen?, hv]) (by simp [World.frozen?, hv])]
    rfl
  obtain ⟨Z, hZ⟩ : ∃ Z, Z = (cur.toList.take (n * 6)).drop (i * 6) := ⟨_, rfl⟩
  have hZl : Z.length = (n - i) * 6 := by rw [hZ]; simp; omega
  have hZ1 : ∀ u ∈ Z, u.oneCell' = true := fun u hu => by
    rw [hZ, h4] at hu
    exact flatC_one K u (List.mem_of_mem_drop hu)
  obtain ⟨W1, hW1⟩ : ∃ W1, W1 = w.drew.setRow g (laid cur.toList ((i + 1) * 6) Z).toArray := ⟨_, rfl⟩
  have hh1 : W1.heap[g]? = some (.cells (laid cur.toList ((i + 1) * 6) Z).toArray 88 (0, 0)) := by rw [hW1]; exact setRow_heap w.drew g cur _ 88 (0, 0) hh
  have hll : (laid cur.toList ((i + 1) * 6) Z).length = c * 6 := by rw [laid_len _ _ _ (by rw [hcur, hZl]; omega), hcur]
  have hcp1 : ∀ ty dc sc, (Builtin.copy_ #[25, 25] ty #[.slice (some ⟨g, (i + 1) * 6, none⟩) (n - i) dc, .slice (some ⟨g, i * 6, none⟩) (n + 1 - i) sc]).run Tryz.prog w.drew = .ok (goInt (n - i)) W1 := fun ty dc sc => by
    have := run_copy_wide (P := Tryz.prog) w.drew 25 25 ty 88 g ((i + 1) * 6) (n - i) dc ⟨g, i * 6, none⟩ (n + 1 - i) sc 6 cur 88 Z Tryz.underlying25 hsz hh (by rw [hZl]; simp only [Nat.min_def]; split <;> omega)
      (fun j u hj => by
        have ht : j < (n - i) * 6 := by rw [← hZl]; exact (List.getElem?_eq_some_iff.1 hj).1
        rw [hZ, List.getElem?_drop, List.getElem?_take_of_lt (by omega)] at hj
        rw [Addr.add_lit]
        show w.cell? _ = _
        simp only [World.cell?, hh]
        rw [← hj]
        simp) (by rw [hZl, h3]; omega) hZ1
    rw [this, hW1]
    congr 1
    simp only [Nat.min_def]; split <;> (congr 1; omega)
  have hm : Nat.min 1 (n + 1 - i) = 1 := by simp only [Nat.min_def]; split <;> omega
  have hcp2 : ∀ ty dc, (Builtin.copy_ #[25, 25] ty #[.slice (some ⟨g, i * 6, none⟩) (n + 1 - i) dc, .slice (some ⟨vb, 0, none⟩) 1 1]).run Tryz.prog W1 = .ok (goInt 1) (W1.setRow g (laid (laid cur.toList ((i + 1) * 6) Z) (i * 6) (flatC [y])).toArray) := fun ty dc => by
    have hv1 : W1.heap[vb]? = some (.cells (flatC [y]).toArray 88 (0, 0)) := by rw [hW1, setRow_other _ _ _ _ hne]; exact hv
    have := run_copy_wide (P := Tryz.prog) W1 25 25 ty 88 g (i * 6) (n + 1 - i) dc ⟨vb, 0, none⟩ 1 1 6 (laid cur.toList ((i + 1) * 6) Z).toArray 88 (flatC [y]) Tryz.underlying25 hsz hh1 (by rw [flatC_single, hm])
      (fun j u hj => by rw [Addr.add_lit, Nat.zero_add]; exact insert_cell hv1 j u hj) (by rw [flatC_single, List.size_toArray, hll]; omega) (flatC_one [y])
    rw [this, hm]
    rfl
  have R : Hid ((W1.setRow g (laid (laid cur.toList ((i + 1) * 6) Z) (i * 6) (flatC [y])).toArray).ownsRow base 88 6 (.slice (some ⟨g, 0, none⟩) (n + 1) c) (n + 1) (flatC (K.take i ++ y :: K.drop i))) := by
    refine ⟨by rw [flatC_len]; simp; omega, .inr ⟨g, c, (laid (laid cur.toList ((i + 1) * 6) Z) (i * 6) (flatC [y])).toArray, rfl, hbg, setRow_heap _ g _ _ 88 (0, 0) hh1, hroom, by unfold maxLen; omega, ?_, ?_⟩⟩
    · rw [List.size_toArray, laid_len _ _ _ (by rw [hll, flatC_single]; omega), hll]
    · show List.take _ (laid _ _ _) = _
      rw [hZ, ins_mid _ _ i n c hi hroom hcur (flatC_single y), h4, flatC_mid]
  have G : Hid (w.grownBy (W1.setRow g (laid (laid cur.toList ((i + 1) * 6) Z) (i * 6) (flatC [y])).toArray) (some g)) := by
    have e : W1.setRow g (laid (laid cur.toList ((i + 1) * 6) Z) (i * 6) (flatC [y])).toArray = w.drew.setRow g (laid (laid cur.toList ((i + 1) * 6) Z) (i * 6) (flatC [y])).toArray := by rw [hW1, setRow_setRow]
    rw [e]
    exact ⟨rfl, rfl, rfl, by simp [World.setRow], fun k hk hne => setRow_other w.drew g k _ (fun e => hne (by rw [e]))⟩
  have hin : i ≤ n := by omega
  have hb0 : (0 : Int) ≤ (i : Int) + 1 := by omega
  have hic : i ≤ c := by omega
  have h9 : ¬ ((i : Int) = (n : Int)) := by omega
  have hb2 : ¬ (c = i + 1) := by omega
  have hb4 : ¬ (c = i) := by omega
  have hw1 : IntKind.i64.wrap ((i : Int) + 1) = (i : Int) + 1 := by rw [IntKind.wrap_i64]; omega
  have hw2 : IntKind.i64.wrap ((n : Int) + 1) = (n : Int) + 1 := by rw [IntKind.wrap_i64]; omega
  have htn : ((i : Int) + 1).toNat = i + 1 := by omega
  have htn2 : ((n : Int) + 1).toNat = n + 1 := by omega
  have hb3 : (i : Int) ≤ (n : Int) + 1 := by omega
  have hb5 : (i : Int) + 1 ≤ (n : Int) + 1 := by omega
  have hb6 : (n : Int) + 1 ≤ (c : Int) := by omega
  have hb7 : ¬ ((c : Int) < (n : Int) + 1) := by omega
  clear hW1 hh1 hll hh h3 h4 hlen hcur hz hv hZ hZl hZ1
  go_enter Tryz.func144, Tryz.ntmps144
  go_wp2_with (simp only [hov])
  go_region
  go_wp2
  go_ret
  exact ⟨rfl, unhide R, unhide G⟩

end Go.Proofs.YtepmnpapdknocaaGreatDoor
