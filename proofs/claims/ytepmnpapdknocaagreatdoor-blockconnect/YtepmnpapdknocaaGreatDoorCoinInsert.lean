/- The contract of Insert of one coin into a row that the call has made. -/
import Derived.Test.YtepmnpapdknocaaGreatDoorCoinDelete
namespace Go.Proofs.YtepmnpapdknocaaGreatDoor
open Go.RowKit

theorem flatC_single (y : CV) : (flatC [y]).length = 6 := flatC_len [y]

/-- At the end, no room. -/
theorem insert_cell {w : World} {b : Nat} {X : List Value} {t : TypeId} (h : w.heap[b]? = some (.cells X.toArray t (0, 0))) (j : Nat) (u : Value) (hj : X[j]? = some u) : w.cell? ⟨b, j, none⟩ = some u := by
  simp only [World.cell?, h]
  simpa using hj

set_option maxRecDepth 10000 in
set_option maxHeartbeats 1600000 in
theorem insertCoin_endgrow (ao : Option Addr) (n c vb : Nat) (K : List CV) (y : CV) (w : World) (hn : n ≤ 4096) (hnc : n ≤ c) (hroom : c < n + 1) (hz : K.length = n) (hnone : ao = none → n = 0 ∧ c = 0)
    (hc : ∀ b, ao = some b → ∀ j u, (flatC K)[j]? = some u → w.cell? (b.add j) = some u) (hv : w.heap[vb]? = some (.cells (flatC [y]).toArray 88 (0, 0))) :
    Calls Tryz.prog 144 #[.slice ao n c, .int .i64 n, .slice (some ⟨vb, 0, none⟩) 1 1] w fun e w' => ∃ v', e = .returned v' ∧ w'.ownsRow w.heap.size 88 6 v' (n + 1) (flatC (K ++ [y])) ∧ w.grownBy w' none := by
  obtain ⟨i0, hi0, hz0, hz1, hz2⟩ := info_parts Tryz.infoCoin
  have HC := hide hc
  have HZ : Hid ((flatC K).length = n * 6) := by show _ = _; rw [flatC_len, hz]
  have HN := hide hnone
  have HV : Hid (∀ j u, (flatC [y])[j]? = some u → w.cell? ((⟨vb, 0, none⟩ : Addr).add j) = some u) := fun j u hj => by
    rw [Addr.add_lit, Nat.zero_add]; exact insert_cell hv j u hj
  have H1 : Hid ((flatC [y]).length = 1 * 6) := flatC_single y
  clear hc hz hnone hv
  go_enter Tryz.func144, Tryz.ntmps144
  go_wp2_with (at_builtin; refine wpList_append_grows _ rfl _ _ 25 rfl 88 i0 zeroC 6 64 Tryz.underlying25 hi0 hz0 hz1 hz2 rfl (by decide) ao n c (flatC K) rfl (unhide HN) (unhide HZ) (unhide HC) ⟨vb, 0, none⟩ 1 1 (flatC [y]) rfl (unhide H1) (unhide HV) (flatC_one [y]) hroom (by unfold maxLen; omega) (by omega) ?_; intro v2 w3 hown3 hgrow3)
  have HW : Hid (w3.ownsRow w.heap.size 88 6 v2 (n + 1) (flatC (K ++ [y]))) := by rw [flatC_append]; exact hown3
  have HG := hide hgrow3
  clear hown3 hgrow3
  go_wp2
  go_ret
  exact ⟨v2, rfl, unhide HW, unhide HG⟩

theorem run_append_within {P : Program} (w : World) (t ty e : TypeId) (i : TypeInfo) (size : Nat) (h1 : P.underlying t = some (.slice e)) (h2 : P.info? e = some i) (h4 : i.size = size)
    (b n cap : Nat) (ad : Addr) (m c : Nat) (news : List Value) (hn : news.length = m * size) (hc : ∀ j u, news[j]? = some u → w.cell? (ad.add j) = some u) (h1c : ∀ u ∈ news, u.oneCell' = true)
    (hroom : n + m ≤ cap) (cur : Array Value) (te : TypeId) (hrow : w.heap[b]? = some (.cells cur te (0, 0))) (hfit : n * size + news.length ≤ cur.size) :
    (Builtin.append_ #[t, t] ty #[.slice (some ⟨b, 0, none⟩) n cap, .slice (some ad) m c]).run P w = .ok (.slice (some ⟨b, 0, none⟩) (n + m) cap) (w.setRow b (laid cur.toList (n * size) news).toArray) := by
  subst h4
  have hfc := run_firstCells_some (P := P) w i.size m ad m c news hn hc
  have hst := run_storeCells_at P b (n * i.size) te news 0 cur w hrow (by simpa using hfit) h1c
  simp only [Nat.add_zero] at hst
  simp [Builtin.append_, run_underlying h1, sizeOf, typeInfo, h2, Builtin.lenOf, hroom, hfc, Addr.add_lit, hst, laid]

theorem ins_end (X Y : List Value) (n c : Nat) (h : n + 1 ≤ c) (hX : X.length = c * 6) (hY : Y.length = 6) : (laid X (n * 6) Y).take ((n + 1) * 6) = X.take (n * 6) ++ Y := by
  unfold laid
  rw [List.take_append_of_le_length (by simp; omega), List.take_of_length_le (by simp; omega)]

set_option maxRecDepth 10000 in
set_option maxHeartbeats 1600000 in
theorem insertCoin_end (base g n c vb : Nat) (K : List CV) (y : CV) (w : World) (hroom : n + 1 ≤ c) (hz : K.length = n) (h : w.ownsRow base 88 6 (.slice (some ⟨g, 0, none⟩) n c) n (flatC K)) (hv : w.heap[vb]? = some (.cells (flatC [y]).toArray 88 (0, 0))) :
    Calls Tryz.prog 144 #[.slice (some ⟨g, 0, none⟩) n c, .int .i64 n, .slice (some ⟨vb, 0, none⟩) 1 1] w fun e w' => e = .returned (.slice (some ⟨g, 0, none⟩) (n + 1) c) ∧ w'.ownsRow base 88 6 (.slice (some ⟨g, 0, none⟩) (n + 1) c) (n + 1) (flatC (K ++ [y])) ∧ w.grownBy w' (some g) := by
  obtain ⟨i0, hi0, hz0, hz1, hz2⟩ := info_parts Tryz.infoCoin
  obtain ⟨hlen, h | ⟨g', c', cur, hv', hbg, hh, h1, h2, h3, h4⟩⟩ := h
  · cases h.1
  simp only [Value.slice.injEq, Option.some.injEq, Addr.mk.injEq, and_true, true_and] at hv'
  obtain ⟨rfl, rfl⟩ := hv'
  unfold maxLen at h2
  have hcur : cur.toList.length = c * 6 := by simpa using h3
  have HR : Hid (∀ ty, (Builtin.append_ #[25, 25] ty #[.slice (some ⟨g, 0, none⟩) n c, .slice (some ⟨vb, 0, none⟩) 1 1]).run Tryz.prog w = .ok (.slice (some ⟨g, 0, none⟩) (n + 1) c) (w.setRow g (laid cur.toList (n * 6) (flatC [y])).toArray)) := fun ty =>
    run_append_within w 25 ty 88 i0 6 Tryz.underlying25 hi0 hz1 g n c ⟨vb, 0, none⟩ 1 1 (flatC [y]) (flatC_single y) (fun j u hj => by rw [Addr.add_lit, Nat.zero_add]; exact insert_cell hv j u hj) (flatC_one [y]) hroom cur 88 hh (by rw [flatC_single, h3]; omega)
  have R : Hid ((w.setRow g (laid cur.toList (n * 6) (flatC [y])).toArray).ownsRow base 88 6 (.slice (some ⟨g, 0, none⟩) (n + 1) c) (n + 1) (flatC (K ++ [y]))) := by
    refine ⟨by rw [flatC_len]; simp; omega, .inr ⟨g, c, (laid cur.toList (n * 6) (flatC [y])).toArray, rfl, hbg, setRow_heap _ g _ _ 88 (0, 0) hh, hroom, by unfold maxLen; omega, ?_, ?_⟩⟩
    · rw [List.size_toArray, laid_len _ _ _ (by rw [hcur, flatC_single]; omega), hcur]
    · show List.take _ (laid _ _ _) = _
      rw [ins_end _ _ n c hroom hcur (flatC_single y), h4, flatC_append]
  have G : Hid (w.grownBy (w.setRow g (laid cur.toList (n * 6) (flatC [y])).toArray) (some g)) :=
    ⟨rfl, rfl, rfl, by simp [World.setRow], fun k hk hne => setRow_other w g k _ (fun e => hne (by rw [e]))⟩
  clear hh h3 h4 hlen hcur hz hv
  go_enter Tryz.func144, Tryz.ntmps144
  go_wp2_with (at_builtin; refine wpList_append_known _ rfl _ _ 25 25 rfl _ _ rfl rfl ((unhide HR) _) ?_)
  go_wp2
  go_ret
  exact ⟨rfl, unhide R, unhide G⟩

end Go.Proofs.YtepmnpapdknocaaGreatDoor
