/- The contract of Clone of coins. -/
import Derived.Test.YtklpajhgfdpboaaCoinFlat
import Derived.Lib.SliceRun
namespace Go.Proofs.Ytklpajhgfdpboaa
open Go.RowKit

def zeroC : Value := .agg #[.int .i64 0, .int .i64 0, .int .i64 0, .slice none 0 0, .int .i64 0, .bool false]
theorem Try.infoCoin : (Try.prog.info? 29).map (fun i => (i.zero, i.size, i.bytes)) = some (some zeroC, 6, 64) := by kernel_rfl
theorem own_lo {w : World} {base : Nat} {e : TypeId} {size : Nat} {v : Value} {n : Nat} {xs : List Value} (h : w.ownsRow base e size v n xs) (k : Nat) (hk : v.ownBlock = some k) : base ≤ k := by
  rcases h.2 with ⟨rfl, _⟩ | ⟨g, cap, cur, rfl, hg, _⟩
  · cases hk
  · cases hk; exact hg
theorem own_nil (w : World) (e : TypeId) (size : Nat) : (w.alloc (.cells #[] e)).ownsRow w.heap.size e size (.slice (some ⟨w.heap.size, 0, none⟩) 0 0) 0 [] :=
  ⟨by simp, .inr ⟨w.heap.size, 0, #[], rfl, Nat.le_refl _, heap_alloc_new w _, Nat.le_refl _, Nat.zero_le _, by simp, by simp⟩⟩

set_option maxRecDepth 10000 in
set_option maxHeartbeats 800000 in
theorem cloneCoin_nil (w : World) : Calls Try.prog 54 #[.slice none 0 0] w fun e w' => e = .returned (.slice none 0 0) ∧ w = w' := by
  have he := fun w => Lib.run_eql_slice_nil (P := Try.prog) w 22 29 none 0 0 0 0 Try.underlying22
  go_enter Try.func54, Try.ntmps54
  go_wp2
  go_ret
  exact ⟨rfl, rfl⟩

set_option maxRecDepth 10000 in
set_option maxHeartbeats 1600000 in
theorem cloneCoin_some (ad : Addr) (n c : Nat) (K : List CV) (w : World) (hn : n ≤ 4096) (hz : K.length = n) (hc : ∀ j u, (flatC K)[j]? = some u → w.cell? (ad.add j) = some u) :
    Calls Try.prog 54 #[.slice (some ad) n c] w fun e w' => ∃ v, e = .returned v ∧ w'.ownsRow w.heap.size 29 6 v n (flatC K) ∧ Below w.heap.size w w' := by
  obtain ⟨i0, hi, hz0, hz1, hz2⟩ := info_parts Try.infoCoin
  have hb := bel_new w (.cells #[] 29)
  have HC : Hid (∀ j u, (flatC K)[j]? = some u → (w.alloc (.cells #[] 29)).cell? (ad.add j) = some u) := fun j u hj => cell_later hb (hc j u hj)
  have HB := hide hb
  have HZ := hide hz
  have HO := hide (own_nil w 29 6)
  have he := fun w => Lib.run_eql_slice_nil (P := Try.prog) w 22 29 (some ad) n c 0 0 Try.underlying22
  clear hc hb hz
  go_enter Try.func54, Try.ntmps54
  go_wp2_with (at_builtin; refine wpList_append_own _ rfl _ _ 22 rfl w.heap.size 29 i0 zeroC 6 64 Try.underlying22 hi hz0 hz1 hz2 rfl (by decide) _ _ _ rfl (unhide HO) ad n c (flatC K) rfl (by rw [flatC_len, unhide HZ]) (unhide HC) (flatC_one K) (by unfold maxLen; omega) (by omega) (unhide HB).size ?_; intro v2 w3 hown3 hgrow3 _)
  have HW : Hid (w3.ownsRow w.heap.size 29 6 v2 n (flatC K)) := by show World.ownsRow _ _ _ _ _ _ _; simpa using hown3
  have HB3 := hide ((unhide HB).grown hgrow3 (unhide HB).size (own_lo (unhide HO)))
  clear hown3 hgrow3
  go_wp2
  go_ret
  exact ⟨v2, rfl, unhide HW, unhide HB3⟩

theorem cloneCoin_any (a : Option Addr) (n c : Nat) (L : List CoinD) (w : World) (hn : n ≤ 4096) (h : CoinsAt w a n L) (hs : SlOk a n c) :
    Calls Try.prog 54 #[.slice a n c] w fun e w' => ∃ v, ∃ K : List CV, e = .returned v ∧ K.map (·.1) = L ∧ (∀ x ∈ K, LkAt w x) ∧ w'.ownsRow w.heap.size 29 6 v K.length (flatC K) ∧ Below w.heap.size w w' := by
  obtain ⟨hl, hc⟩ := h
  cases a with
  | none =>
    obtain ⟨rfl, rfl⟩ := hs.2.2 rfl
    have e : L = [] := List.length_eq_zero_iff.1 hl
    subst e
    exact (cloneCoin_nil w).mono fun e w' ⟨x, y⟩ => ⟨_, [], x, rfl, fun _ hx => (by cases hx), y ▸ ⟨rfl, .inl ⟨rfl, rfl⟩⟩, y ▸ Below.refl _ _⟩
  | some ad =>
    by_cases h0 : n = 0
    · subst h0
      have e : L = [] := List.length_eq_zero_iff.1 hl
      subst e
      exact (cloneCoin_some ad 0 c [] w hn rfl (fun j u hj => by simp [flatC] at hj)).mono fun e w' ⟨v, x, y, z⟩ => ⟨v, [], x, rfl, fun _ hx => (by cases hx), y, z⟩
    · obtain ⟨b, off, e, _, hcell⟩ := hc (by omega)
      obtain ⟨rfl⟩ := e
      obtain ⟨K, h1, h2, h3⟩ := heads_of hcell
      have hk : K.length = n := by rw [← hl, ← h1, List.length_map]
      exact (cloneCoin_some ⟨b, off, none⟩ n c K w hn hk (fun j u hj => by rw [Addr.add_lit]; exact h3 j u hj)).mono fun e w' ⟨v, x, y, z⟩ => ⟨v, K, x, h1, h2, by rw [hk]; exact y, z⟩

end Go.Proofs.Ytklpajhgfdpboaa

/- The contract of Delete of one coin of a row that the call has made. -/
namespace Go.Proofs.Ytklpajhgfdpboaa
open Go.RowKit

theorem Try.zeroCoin (w : World) : (zeroValue 29).run Try.prog w = .ok zeroC w := by
  obtain ⟨i0, hi, hz0, _, _⟩ := info_parts Try.infoCoin
  simp [zeroValue, typeInfo, hi, hz0]
def zeroCs : List Value := [.int .i64 0, .int .i64 0, .int .i64 0, .slice none 0 0, .int .i64 0, .bool false]
theorem zero_one : (Builtin.zeroCells zeroC.cells 1).toList = zeroCs := by kernel_rfl
theorem zeroCs_one : ∀ v ∈ zeroCs, v.oneCell' = true := by
  intro v hv
  simp only [zeroCs, List.mem_cons, List.not_mem_nil, or_false] at hv
  rcases hv with rfl | rfl | rfl | rfl | rfl | rfl <;> rfl

theorem del_list (X Z : List Value) (i n : Nat) (hi : i < n) (hX : n * 6 ≤ X.length) :
    (laid (laid X (i * 6) ((X.take (n * 6)).drop ((i + 1) * 6))) ((n - 1) * 6) Z).take ((n - 1) * 6) = (X.take (n * 6)).take (i * 6) ++ (X.take (n * 6)).drop ((i + 1) * 6) := by
  have e1 : ((X.take (n * 6)).drop ((i + 1) * 6)).length = (n - 1) * 6 - i * 6 := by simp; omega
  unfold laid
  rw [List.append_assoc, List.take_append_of_le_length (by simp; omega), List.take_of_length_le (by simp; omega)]
  rw [e1, show i * 6 + ((n - 1) * 6 - i * 6) = (n - 1) * 6 by omega, List.take_append_of_le_length (by rw [List.length_append, e1]; simp; omega), List.take_of_length_le (by rw [List.length_append, e1]; simp; omega), List.take_take, Nat.min_eq_left (by omega)]

set_option maxRecDepth 10000 in
set_option maxHeartbeats 3200000 in
theorem deleteCoin_is (base g n c i j : Nat) (K : List CV) (w : World) (hi : i < n) (hj : j = i + 1) (hz : K.length = n) (h : w.ownsRow base 29 6 (.slice (some ⟨g, 0, none⟩) n c) n (flatC K)) :
    Calls Try.prog 64 #[.slice (some ⟨g, 0, none⟩) n c, .int .i64 i, .int .i64 j] w fun e w' => e = .returned (.slice (some ⟨g, 0, none⟩) (n - 1) c) ∧ w'.ownsRow base 29 6 (.slice (some ⟨g, 0, none⟩) (n - 1) c) (n - 1) (flatC (K.take i ++ K.drop (i + 1))) ∧ w.grownBy w' (some g) := by
  obtain ⟨i0, hi0, hz0, hz1, hz2⟩ := info_parts Try.infoCoin
  obtain ⟨hlen, h | ⟨g', c', cur, hv, hbg, hh, h1, h2, h3, h4⟩⟩ := h
  · cases h.1
  simp only [Value.slice.injEq, Option.some.injEq, Addr.mk.injEq, and_true, true_and] at hv
  obtain ⟨rfl, rfl⟩ := hv
  unfold maxLen at h2
  have hcur : cur.toList.length = c * 6 := by simpa using h3
  obtain ⟨news, hnews⟩ : ∃ news, news = (cur.toList.take (n * 6)).drop ((i + 1) * 6) := ⟨_, rfl⟩
  have hnl : news.length = (n - j) * 6 := by rw [hnews]; simp; omega
  have hone : ∀ u ∈ news, u.oneCell' = true := fun u hu => by
    rw [hnews, h4] at hu
    exact flatC_one K u (List.mem_of_mem_drop hu)
  obtain ⟨A, hA, hsrc⟩ : ∃ A : Addr, (if c = j then some (⟨g, 0, none⟩ : Addr) else some ⟨g, j * 6, none⟩) = some A ∧ Hid (∀ t u, news[t]? = some u → w.drew.cell? (A.add t) = some u) := by
    by_cases hc : c = j
    · refine ⟨⟨g, 0, none⟩, by simp [hc], fun t u hu => ?_⟩
      have h0 : news.length = 0 := by rw [hnl]; omega
      rw [List.length_eq_zero_iff.1 h0] at hu
      simp at hu
    · refine ⟨⟨g, j * 6, none⟩, by simp [hc], fun t u hu => ?_⟩
      have ht : t < (n - j) * 6 := by rw [← hnl]; exact (List.getElem?_eq_some_iff.1 hu).1
      rw [hnews, List.getElem?_drop, List.getElem?_take_of_lt (by omega)] at hu
      rw [Addr.add_lit]
      show w.cell? _ = _
      simp only [World.cell?, hh]
      rw [← hu, ← hj]
      simp
  have h5 : i * 6 + news.length ≤ cur.size := by rw [hnl, h3]; omega
  obtain ⟨W1, hW1⟩ : ∃ W1, W1 = w.drew.setRow g (laid cur.toList (i * 6) news).toArray := ⟨_, rfl⟩
  have hh1 : W1.heap[g]? = some (.cells (laid cur.toList (i * 6) news).toArray 29 (0, 0)) := by rw [hW1]; exact setRow_heap w.drew g cur _ 29 (0, 0) hh
  have hll : (laid cur.toList (i * 6) news).length = c * 6 := by rw [laid_len _ _ _ (by simpa using h5), hcur]
  have hcl : ∀ ty d, (Builtin.clear_ #[22] ty #[.slice (some ⟨g, (n - 1) * 6, none⟩) 1 d]).run Try.prog W1 = .ok (.tuple #[]) (W1.setRow g (laid (laid cur.toList (i * 6) news) ((n - 1) * 6) zeroCs).toArray) := fun ty d => by
    have := run_clear_wide (P := Try.prog) W1 22 29 ty zeroC Try.underlying22 Try.zeroCoin g ((n - 1) * 6) 1 d 6 (laid cur.toList (i * 6) news).toArray 29 zeroCs (by decide) zero_one hh1 rfl (by simp [hll]; omega) zeroCs_one
    simpa using this
  have hsn : i + (n - j) = n - 1 := by omega
  have R : Hid (W1.setRow g (laid (laid cur.toList (i * 6) news) ((n - 1) * 6) zeroCs).toArray |>.ownsRow base 29 6 (.slice (some ⟨g, 0, none⟩) (n - 1) c) (n - 1) (flatC (K.take i ++ K.drop (i + 1)))) := by
    refine ⟨by rw [flatC_len]; simp; omega, .inr ⟨g, c, (laid (laid cur.toList (i * 6) news) ((n - 1) * 6) zeroCs).toArray, rfl, hbg, setRow_heap _ g _ _ 29 (0, 0) hh1, by omega, by unfold maxLen; omega, ?_, ?_⟩⟩
    · rw [List.size_toArray, laid_len _ _ _ (by rw [hll]; simp [zeroCs]; omega), hll]
    · rw [hnews]
      show List.take _ (laid _ _ _) = _
      rw [del_list cur.toList zeroCs i n hi (by rw [hcur]; omega), h4, flatC_append, flatC_take, flatC_drop]
  have G : Hid (w.grownBy (W1.setRow g (laid (laid cur.toList (i * 6) news) ((n - 1) * 6) zeroCs).toArray) (some g)) := by
    have e : W1.setRow g (laid (laid cur.toList (i * 6) news) ((n - 1) * 6) zeroCs).toArray = w.drew.setRow g (laid (laid cur.toList (i * 6) news) ((n - 1) * 6) zeroCs).toArray := by rw [hW1, setRow_setRow]
    rw [e]
    refine ⟨rfl, rfl, rfl, by simp [World.setRow], fun k hk hne => ?_⟩
    exact setRow_other w.drew g k _ (fun e => hne (by rw [e]))
  have HCL := hide hcl
  have HW := hide hW1
  have hH1 := hide hone
  have hH2 := hide hnl
  have hH3 := hide hh
  have hH5 := hide h5
  have hic : i ≤ c := by omega
  have hjc : j ≤ c := by omega
  have hjn : j ≤ n := by omega
  have hij : ¬ (i = j) := by omega
  have hne : ¬ (c = i + (n - j)) := by omega
  have hle : i + (n - j) ≤ n := by omega
  have hle2 : (i : Int) + ((n - j : Nat) : Int) ≤ (n : Int) := by omega
  have hij2 : ((i : Int) == (j : Int)) = false := by simp; omega
  clear hcl hW1 hone hnl hh h5 hh1 hll hnews h3 h4 hlen hcur hj hz
  go_enter Try.func64, Try.ntmps64
  go_wp2_with fail
  go_region_law (refine step_append_within rfl (.tmp 22) (.tmp 25) 22 rfl 29 i0 6 Try.underlying22 hi0 hz1 g i c (by simp [Act.eval, Act.put]) A (n - j) (c - j) news (by simp [Act.eval, Act.put]) (unhide hH2) (unhide hsrc) (unhide hH1) (by omega) cur 29 (unhide hH3) (unhide hH5) ?_; rw [← unhide HW])
  have hcl2 : ∀ ty d, (Builtin.clear_ #[22] ty #[.slice (some ⟨g, (n - 1) * 6, none⟩) (n - (n - 1)) d]).run Try.prog W1 = .ok (.tuple #[]) (W1.setRow g (laid (laid cur.toList (i * 6) news) ((n - 1) * 6) zeroCs).toArray) := fun ty d => by
    rw [show n - (n - 1) = 1 by omega]; exact (unhide HCL) ty d
  go_wp2
  go_ret
  exact ⟨rfl, unhide R, unhide G⟩

end Go.Proofs.Ytklpajhgfdpboaa
