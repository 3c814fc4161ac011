/- The contract of Clone of coins. -/
import Derived.Test.YtepmnpapdknocaaGreatDoorCoinFlat
import Derived.Lib.SliceRun
namespace Go.Proofs.YtepmnpapdknocaaGreatDoor
open Go.RowKit

def zeroC : Value := .agg #[.int .i64 0, .int .i64 0, .int .i64 0, .slice none 0 0, .int .i64 0, .bool false]
theorem Tryz.infoCoin : (Tryz.prog.info? 88).map (fun i => (i.zero, i.size, i.bytes)) = some (some zeroC, 6, 64) := by kernel_rfl
theorem own_lo {w : World} {base : Nat} {e : TypeId} {size : Nat} {v : Value} {n : Nat} {xs : List Value} (h : w.ownsRow base e size v n xs) (k : Nat) (hk : v.ownBlock = some k) : base ≤ k := by
  rcases h.2 with ⟨rfl, _⟩ | ⟨g, cap, cur, rfl, hg, _⟩
  · cases hk
  · cases hk; exact hg
theorem own_nil (w : World) (e : TypeId) (size : Nat) : (w.alloc (.cells #[] e)).ownsRow w.heap.size e size (.slice (some ⟨w.heap.size, 0, none⟩) 0 0) 0 [] :=
  ⟨by simp, .inr ⟨w.heap.size, 0, #[], rfl, Nat.le_refl _, heap_alloc_new w _, Nat.le_refl _, Nat.zero_le _, by simp, by simp⟩⟩

set_option maxRecDepth 10000 in
set_option maxHeartbeats 800000 in
theorem cloneCoin_nil (w : World) : Calls Tryz.prog 84 #[.slice none 0 0] w fun e w' => e = .returned (.slice none 0 0) ∧ w = w' := by
  have he := fun w => Lib.run_eql_slice_nil (P := Tryz.prog) w 25 88 none 0 0 0 0 Tryz.underlying25
  go_enter Tryz.func84, Tryz.ntmps84
  go_wp2
  go_ret
  exact ⟨rfl, rfl⟩

set_option maxRecDepth 10000 in
set_option maxHeartbeats 1600000 in
theorem cloneCoin_some (ad : Addr) (n c : Nat) (K : List CV) (w : World) (hn : n ≤ 4096) (hz : K.length = n) (hc : ∀ j u, (flatC K)[j]? = some u → w.cell? (ad.add j) = some u) :
    Calls Tryz.prog 84 #[.slice (some ad) n c] w fun e w' => ∃ v, e = .returned v ∧ w'.ownsRow w.heap.size 88 6 v n (flatC K) ∧ Below w.heap.size w w' := by
  obtain ⟨i0, hi, hz0, hz1, hz2⟩ := info_parts Tryz.infoCoin
  have hb := bel_new w (.cells #[] 88)
  have HC : Hid (∀ j u, (flatC K)[j]? = some u → (w.alloc (.cells #[] 88)).cell? (ad.add j) = some u) := fun j u hj => cell_later hb (hc j u hj)
  have HB := hide hb
  have HZ := hide hz
  have HO := hide (own_nil w 88 6)
  have he := fun w => Lib.run_eql_slice_nil (P := Tryz.prog) w 25 88 (some ad) n c 0 0 Tryz.underlying25
  clear hc hb hz
  go_enter Tryz.func84, Tryz.ntmps84
  go_wp2_with (at_builtin; refine wpList_append_own _ rfl _ _ 25 rfl w.heap.size 88 i0 zeroC 6 64 Tryz.underlying25 hi hz0 hz1 hz2 rfl (by decide) _ _ _ rfl (unhide HO) ad n c (flatC K) rfl (by rw [flatC_len, unhide HZ]) (unhide HC) (flatC_one K) (by unfold maxLen; omega) (by omega) (unhide HB).size ?_; intro v2 w3 hown3 hgrow3 _)
  have HW : Hid (w3.ownsRow w.heap.size 88 6 v2 n (flatC K)) := by show World.ownsRow _ _ _ _ _ _ _; simpa using hown3
  have HB3 := hide ((unhide HB).grown hgrow3 (unhide HB).size (own_lo (unhide HO)))
  clear hown3 hgrow3
  go_wp2
  go_ret
  exact ⟨v2, rfl, unhide HW, unhide HB3⟩

theorem cloneCoin_any (a : Option Addr) (n c : Nat) (L : List CoinD) (w : World) (hn : n ≤ 4096) (h : CoinsAt w a n L) (hs : SlOk a n c) :
    Calls Tryz.prog 84 #[.slice a n c] w fun e w' => ∃ v, ∃ K : List CV, e = .returned v ∧ K.map (·.1) = L ∧ (∀ x ∈ K, LkAt w x) ∧ w'.ownsRow w.heap.size 88 6 v K.length (flatC K) ∧ Below w.heap.size w w' := by
  obtain ⟨hl, hc⟩ := h
  cases a with
  | none =>
    obtain ⟨rfl, rfl⟩ := hs.2.2 rfl
    have e : L = [] := List.length_eq_zero_iff.1 hl
    subst e
    exact (cloneCoin_nil w).mono fun e w' ⟨x, y⟩ => ⟨_, [], x, rfl, fun _ hx => (by cases hx), y ▸ ⟨rfl, .inl ⟨rfl, rfl⟩⟩, y ▸ Below.refl _ _⟩
  | some ad =>
    by_cases h0 : n = 0
    · subst h0
      have e : L = [] := List.length_eq_zero_iff.1 hl
      subst e
      exact (cloneCoin_some ad 0 c [] w hn rfl (fun j u hj => by simp [flatC] at hj)).mono fun e w' ⟨v, x, y, z⟩ => ⟨v, [], x, rfl, fun _ hx => (by cases hx), y, z⟩
    · obtain ⟨b, off, e, _, hcell⟩ := hc (by omega)
      obtain ⟨rfl⟩ := e
      obtain ⟨K, h1, h2, h3⟩ := heads_of hcell
      have hk : K.length = n := by rw [← hl, ← h1, List.length_map]
      exact (cloneCoin_some ⟨b, off, none⟩ n c K w hn hk (fun j u hj => by rw [Addr.add_lit]; exact h3 j u hj)).mono fun e w' ⟨v, x, y, z⟩ => ⟨v, K, x, h1, h2, by rw [hk]; exact y, z⟩

end Go.Proofs.YtepmnpapdknocaaGreatDoor
