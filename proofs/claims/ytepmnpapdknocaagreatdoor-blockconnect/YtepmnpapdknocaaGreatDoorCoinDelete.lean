/- The contract of Delete of one coin of a row that the call has made. -/
import Derived.Test.YtepmnpapdknocaaGreatDoorCoinClone
namespace Go.Proofs.YtepmnpapdknocaaGreatDoor
open Go.RowKit

theorem Tryz.zeroCoin (w : World) : (zeroValue 88).run Tryz.prog w = .ok zeroC w := by
  obtain ⟨i0, hi, hz0, _, _⟩ := info_parts Tryz.infoCoin
  simp [zeroValue, typeInfo, hi, hz0]
def zeroCs : List Value := [.int .i64 0, .int .i64 0, .int .i64 0, .slice none 0 0, .int .i64 0, .bool false]
theorem zero_one : (Builtin.zeroCells zeroC.cells 1).toList = zeroCs := by kernel_rfl
theorem zeroCs_one : ∀ v ∈ zeroCs, v.oneCell' = true := by
  intro v hv
  simp only [zeroCs, List.mem_cons, List.not_mem_nil, or_false] at hv
  rcases hv with rfl | rfl | rfl | rfl | rfl | rfl <;> rfl

theorem del_list (X Z : List Value) (i n : Nat) (hi : i < n) (hX : n * 6 ≤ X.length) :
    (laid (laid X (i * 6) ((X.take (n * 6)).drop ((i + 1) * 6))) ((n - 1) * 6) Z).take ((n - 1) * 6) = (X.take (n * 6)).take (i * 6) ++ (X.take (n * 6)).drop ((i + 1) * 6) := by
  have e1 : ((X.take (n * 6)).drop ((i + 1) * 6)).length = (n - 1) * 6 - i * 6 := by simp; omega
  unfold laid
  rw [List.append_assoc, List.take_append_of_le_length (by simp; omega), List.take_of_length_le (by simp; omega)]
  rw [e1, show i * 6 + ((n - 1) * 6 - i * 6) = (n - 1) * 6 by omega, List.take_append_of_le_length (by rw [List.length_append, e1]; simp; omega), List.take_of_length_le (by rw [List.length_append, e1]; simp; omega), List.take_take, Nat.min_eq_left (by omega)]

set_option maxRecDepth 10000 in
set_option maxHeartbeats 3200000 in
theorem deleteCoin_is (base g n c i j : Nat) (K : List CV) (w : World) (hi : i < n) (hj : j = i + 1) (hz : K.length = n) (h : w.ownsRow base 88 6 (.slice (some ⟨g, 0, none⟩) n c) n (flatC K)) :
    Calls Tryz.prog 89 #[.slice (some ⟨g, 0, none⟩) n c, .int .i64 i, .int .i64 j] w fun e w' => e = .returned (.slice (some ⟨g, 0, none⟩) (n - 1) c) ∧ w'.ownsRow base 88 6 (.slice (some ⟨g, 0, none⟩) (n - 1) c) (n - 1) (flatC (K.take i ++ K.drop (i + 1))) ∧ w.grownBy w' (some g) := by
  obtain ⟨i0, hi0, hz0, hz1, hz2⟩ := info_parts Tryz.infoCoin
  obtain ⟨hlen, h | ⟨g', c', cur, hv, hbg, hh, h1, h2, h3, h4⟩⟩ := h
  · cases h.1
  simp only [Value.slice.injEq, Option.some.injEq, Addr.mk.injEq, and_true, true_and] at hv
  obtain ⟨rfl, rfl⟩ := hv
  unfold maxLen at h2
  have hcur : cur.toList.length = c * 6 := by simpa using h3
  obtain ⟨news, hnews⟩ : ∃ news, news = (cur.toList.take (n * 6)).drop ((i + 1) * 6) := ⟨_, rfl⟩
  have hnl : news.length = (n - j) * 6 := by rw [hnews]; simp; omega
  have hone : ∀ u ∈ news, u.oneCell' = true := fun u hu => by
    rw [hnews, h4] at hu
    exact flatC_one K u (List.mem_of_mem_drop hu)
  obtain ⟨A, hA, hsrc⟩ : ∃ A : Addr, (if c = j then some (⟨g, 0, none⟩ : Addr) else some ⟨g, j * 6, none⟩) = some A ∧ Hid (∀ t u, news[t]? = some u → w.drew.cell? (A.add t) = some u) := by
    by_cases hc : c = j
    · refine ⟨⟨g, 0, none⟩, by simp [hc], fun t u hu => ?_⟩
      have h0 : news.length = 0 := by rw [hnl]; omega
      rw [List.length_eq_zero_iff.1 h0] at hu
      simp at hu
    · refine ⟨⟨g, j * 6, none⟩, by simp [hc], fun t u hu => ?_⟩
      have ht : t < (n - j) * 6 := by rw [← hnl]; exact (List.getElem?_eq_some_iff.1 hu).1
      rw [hnews, List.getElem?_drop, List.getElem?_take_of_lt (by omega)] at hu
      rw [Addr.add_lit]
      show w.cell? _ = _
      simp only [World.cell?, hh]
      rw [← hu, ← hj]
      simp
  have h5 : i * 6 + news.length ≤ cur.size := by rw [hnl, h3]; omega
  obtain ⟨W1, hW1⟩ : ∃ W1, W1 = w.drew.setRow g (laid cur.toList (i * 6) news).toArray := ⟨_, rfl⟩
  have hh1 : W1.heap[g]? = some (.cells (laid cur.toList (i * 6) news).toArray 88 (0, 0)) := by rw [hW1]; exact setRow_heap w.drew g cur _ 88 (0, 0) hh
  have hll : (laid cur.toList (i * 6) news).length = c * 6 := by rw [laid_len _ _ _ (by simpa using h5), hcur]
  have hcl : ∀ ty d, (Builtin.clear_ #[25] ty #[.slice (some ⟨g, (n - 1) * 6, none⟩) 1 d]).run Tryz.prog W1 = .ok (.tuple #[]) (W1.setRow g (laid (laid cur.toList (i * 6) news) ((n - 1) * 6) zeroCs).toArray) := fun ty d => by
    have := run_clear_wide (P := Tryz.prog) W1 25 88 ty zeroC Tryz.underlying25 Tryz.zeroCoin g ((n - 1) * 6) 1 d 6 (laid cur.toList (i * 6) news).toArray 88 zeroCs (by decide) zero_one hh1 rfl (by simp [hll]; omega) zeroCs_one
    simpa using this
  have hsn : i + (n - j) = n - 1 := by omega
  have R : Hid (W1.setRow g (laid (laid cur.toList (i * 6) news) ((n - 1) * 6) zeroCs).toArray |>.ownsRow base 88 6 (.slice (some ⟨g, 0, none⟩) (n - 1) c) (n - 1) (flatC (K.take i ++ K.drop (i + 1)))) := by
    refine ⟨by rw [flatC_len]; simp; omega, .inr ⟨g, c, (laid (laid cur.toList (i * 6) news) ((n - 1) * 6) zeroCs).toArray, rfl, hbg, setRow_heap _ g _ _ 88 (0, 0) hh1, by omega, by unfold maxLen; omega, ?_, ?_⟩⟩
    · rw [List.size_toArray, laid_len _ _ _ (by rw [hll]; simp [zeroCs]; omega), hll]
    · rw [hnews]
      show List.take _ (laid _ _ _) = _
      rw [del_list cur.toList zeroCs i n hi (by rw [hcur]; omega), h4, flatC_append, flatC_take, flatC_drop]
  have G : Hid (w.grownBy (W1.setRow g (laid (laid cur.toList (i * 6) news) ((n - 1) * 6) zeroCs).toArray) (some g)) := by
    have e : W1.setRow g (laid (laid cur.toList (i * 6) news) ((n - 1) * 6) zeroCs).toArray = w.drew.setRow g (laid (laid cur.toList (i * 6) news) ((n - 1) * 6) zeroCs).toArray := by rw [hW1, setRow_setRow]
    rw [e]
    refine ⟨rfl, rfl, rfl, by simp [World.setRow], fun k hk hne => ?_⟩
    exact setRow_other w.drew g k _ (fun e => hne (by rw [e]))
  have HCL := hide hcl
  have HW := hide hW1
  have hH1 := hide hone
  have hH2 := hide hnl
  have hH3 := hide hh
  have hH5 := hide h5
  have hic : i ≤ c := by omega
  have hjc : j ≤ c := by omega
  have hjn : j ≤ n := by omega
  have hij : ¬ (i = j) := by omega
  have hne : ¬ (c = i + (n - j)) := by omega
  have hle : i + (n - j) ≤ n := by omega
  have hle2 : (i : Int) + ((n - j : Nat) : Int) ≤ (n : Int) := by omega
  have hij2 : ((i : Int) == (j : Int)) = false := by simp; omega
  clear hcl hW1 hone hnl hh h5 hh1 hll hnews h3 h4 hlen hcur hj hz
  go_enter Tryz.func89, Tryz.ntmps89
  go_wp2_with fail
  go_region_law (refine step_append_within rfl (.tmp 22) (.tmp 25) 25 rfl 88 i0 6 Tryz.underlying25 hi0 hz1 g i c (by simp [Act.eval, Act.put]) A (n - j) (c - j) news (by simp [Act.eval, Act.put]) (unhide hH2) (unhide hsrc) (unhide hH1) (by omega) cur 88 (unhide hH3) (unhide hH5) ?_; rw [← unhide HW])
  have hcl2 : ∀ ty d, (Builtin.clear_ #[25] ty #[.slice (some ⟨g, (n - 1) * 6, none⟩) (n - (n - 1)) d]).run Tryz.prog W1 = .ok (.tuple #[]) (W1.setRow g (laid (laid cur.toList (i * 6) news) ((n - 1) * 6) zeroCs).toArray) := fun ty d => by
    rw [show n - (n - 1) = 1 by omega]; exact (unhide HCL) ty d
  go_wp2
  go_ret
  exact ⟨rfl, unhide R, unhide G⟩

end Go.Proofs.YtepmnpapdknocaaGreatDoor
