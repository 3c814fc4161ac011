/- The closed fact: a reward is spent. -/
import Derived.Test.YtklpajhgfdpboaaCoinTotal
namespace Go.Proofs.Ytklpajhgfdpboaa
open Go.RowKit

def kL : List (Int × Int) := [(1, 1)]
def m1L : List CoinD := [(4, 0, 9, kL, 3, true)]
def m2L : List CoinD := [(7, 0, 5, kL, 5, false), (7, 1, 3, kL, 5, false)]
theorem ap1 : apD [] (3, [], [(9, kL)]) 4 3 = (0, m1L, []) := by kernel_rfl
theorem ap2 : apD m1L (0, [(4, 0, [])], [(5, kL), (3, kL)]) 7 4 = (10, [], []) := by kernel_rfl
theorem ap3 : apD m1L (0, [(4, 0, [])], [(5, kL), (3, kL)]) 7 5 = (0, m2L, m1L) := by kernel_rfl
theorem tot2 : ckCoins m2L = 0 := by kernel_rfl
theorem tot3 : sumC m2L = 8 := by kernel_rfl


theorem ops_k {w : World} {b : Nat} {t : TypeId} (h : w.heap[b]? = some (.cells [.int .i64 1, .int .i64 1].toArray t (0, 0))) : OpsAt w (some ⟨b, 0, none⟩) 1 kL :=
  ⟨rfl, fun _ => ⟨b, 0, rfl, fun i hi => by
    obtain rfl : i = 0 := by omega
    exact ⟨cell_of h 0 _ rfl, cell_of h 1 _ rfl⟩⟩⟩
theorem slok_one (b n : Nat) (hn : n ≤ maxLen) : SlOk (some ⟨b, 0, none⟩) n n := ⟨Nat.le_refl _, hn, fun e => by cases e⟩

set_option maxRecDepth 10000 in
set_option maxHeartbeats 6400000 in
theorem there_yes (w : World) : Calls Try.prog 11 #[] w fun e w' => e = .returned (.bool true) ∧ Below w.heap.size w w' := by
  obtain ⟨X, hX⟩ : ∃ X, X = (w.alloc (.cells #[.int .i64 1, .int .i64 1] 41)).alloc (.cells #[.int .i64 9, .slice (some ⟨w.heap.size, 0, none⟩) 1 1] 27) := ⟨_, rfl⟩
  have hbX : Below w.heap.size w X := by rw [hX]; exact bel_on (bel_new _ _) (bel_new _ _)
  have hk : X.heap[w.heap.size]? = some (.cells [.int .i64 1, .int .i64 1].toArray 41 (0, 0)) := by
    rw [hX, Below.heap_alloc _ _ _ (by simp)]; exact heap_alloc_new w _
  have ho : X.heap[w.heap.size + 1]? = some (.cells [.int .i64 9, .slice (some ⟨w.heap.size, 0, none⟩) 1 1].toArray 27 (0, 0)) := by
    rw [hX]
    have := heap_alloc_new (w.alloc (.cells #[.int .i64 1, .int .i64 1] 41)) (.cells #[.int .i64 9, .slice (some ⟨w.heap.size, 0, none⟩) 1 1] 27)
    rw [show (w.alloc (.cells #[.int .i64 1, .int .i64 1] 41)).heap.size = w.heap.size + 1 by simp] at this
    exact this
  have hsk := slok_one w.heap.size 1 (by unfold maxLen; omega)
  have hOuts : OutsAt X (some ⟨w.heap.size + 1, 0, none⟩) 1 [(9, kL)] := ⟨rfl, fun _ => ⟨w.heap.size + 1, 0, rfl, lt_of_block ho, fun i hi => by
    obtain rfl : i = 0 := by simp at hi; exact hi
    exact ⟨cell_of ho 0 _ rfl, _, _, _, cell_of ho 1 _ rfl, ops_k hk, hsk⟩⟩⟩
  have A1 := hide (apply_is none 0 0 [] 3 none (some ⟨w.heap.size + 1, 0, none⟩) 0 0 1 1 [] [(9, kL)] 4 3 0 m1L [] X (RowsAt.nil _ _) slok_nil (RowsAt.nil _ _) hOuts slok_nil ap1)
  have HK := hide hk
  have HBX := hide hbX
  clear hk ho hsk hOuts hbX
  go_enter Try.func11, Try.ntmps11
  go_wp2_with fail
  rw [← hX]
  clear hX
  refine (unhide A1).mono ?_
  rintro e w1 ⟨a1, n1, c1, s1, z1, d1, rfl, hC1, hS1, hU1, hV1, hb1⟩
  have hk1 := (hb1.block _ (lt_of_block (unhide HK))).trans (unhide HK)
  have hn1 : 1 = n1 := hC1.1
  subst hn1
  have hz1 : 0 = z1 := hU1.1
  subst hz1
  obtain ⟨Y, hY⟩ : ∃ Y, Y = (((w1.alloc (.cells #[.slice s1 0 d1] 48)).alloc (.cells #[.int .i64 4, .int .i64 0, .slice none 0 0] 54)).alloc (.cells #[.int .i64 5, .slice (some ⟨w.heap.size, 0, none⟩) 1 1, .int .i64 3, .slice (some ⟨w.heap.size, 0, none⟩) 1 1] 27)).alloc (.cells #[.int .i64 0, .slice (some ⟨w1.heap.size + 1, 0, none⟩) 1 1, .slice (some ⟨w1.heap.size + 2, 0, none⟩) 2 2] 46) := ⟨_, rfl⟩
  have hbY : Below w1.heap.size w1 Y := by rw [hY]; exact bel_on (bel_on (bel_on (bel_new _ _) (bel_new _ _)) (bel_new _ _)) (bel_new _ _)
  have hYi : Y.heap[w1.heap.size + 1]? = some (.cells [.int .i64 4, .int .i64 0, .slice none 0 0].toArray 54 (0, 0)) := by
    rw [hY, Below.heap_alloc _ _ _ (by simp), Below.heap_alloc _ _ _ (by simp)]
    have := heap_alloc_new (w1.alloc (.cells #[.slice s1 0 d1] 48)) (.cells #[.int .i64 4, .int .i64 0, .slice none 0 0] 54)
    rw [show (w1.alloc (.cells #[.slice s1 0 d1] 48)).heap.size = w1.heap.size + 1 by simp] at this
    exact this
  have hYo : Y.heap[w1.heap.size + 2]? = some (.cells [.int .i64 5, .slice (some ⟨w.heap.size, 0, none⟩) 1 1, .int .i64 3, .slice (some ⟨w.heap.size, 0, none⟩) 1 1].toArray 27 (0, 0)) := by
    rw [hY, Below.heap_alloc _ _ _ (by simp)]
    have := heap_alloc_new ((w1.alloc (.cells #[.slice s1 0 d1] 48)).alloc (.cells #[.int .i64 4, .int .i64 0, .slice none 0 0] 54)) (.cells #[.int .i64 5, .slice (some ⟨w.heap.size, 0, none⟩) 1 1, .int .i64 3, .slice (some ⟨w.heap.size, 0, none⟩) 1 1] 27)
    rw [show ((w1.alloc (.cells #[.slice s1 0 d1] 48)).alloc (.cells #[.int .i64 4, .int .i64 0, .slice none 0 0] 54)).heap.size = w1.heap.size + 2 by simp] at this
    exact this
  have hYt : Y.heap[w1.heap.size + 3]? = some (.cells [.int .i64 0, .slice (some ⟨w1.heap.size + 1, 0, none⟩) 1 1, .slice (some ⟨w1.heap.size + 2, 0, none⟩) 2 2].toArray 46 (0, 0)) := by
    rw [hY]
    have := heap_alloc_new (((w1.alloc (.cells #[.slice s1 0 d1] 48)).alloc (.cells #[.int .i64 4, .int .i64 0, .slice none 0 0] 54)).alloc (.cells #[.int .i64 5, .slice (some ⟨w.heap.size, 0, none⟩) 1 1, .int .i64 3, .slice (some ⟨w.heap.size, 0, none⟩) 1 1] 27)) (.cells #[.int .i64 0, .slice (some ⟨w1.heap.size + 1, 0, none⟩) 1 1, .slice (some ⟨w1.heap.size + 2, 0, none⟩) 2 2] 46)
    rw [show (((w1.alloc (.cells #[.slice s1 0 d1] 48)).alloc (.cells #[.int .i64 4, .int .i64 0, .slice none 0 0] 54)).alloc (.cells #[.int .i64 5, .slice (some ⟨w.heap.size, 0, none⟩) 1 1, .int .i64 3, .slice (some ⟨w.heap.size, 0, none⟩) 1 1] 27)).heap.size = w1.heap.size + 3 by simp] at this
    exact this
  have hkY := (hbY.block _ (lt_of_block hk1)).trans hk1
  have hsk := slok_one w.heap.size 1 (by unfold maxLen; omega)
  have hIns : InsAt Y (some ⟨w1.heap.size + 1, 0, none⟩) 1 [(4, 0, [])] := ⟨rfl, fun _ => ⟨w1.heap.size + 1, 0, rfl, lt_of_block hYi, fun i hi => by
    obtain rfl : i = 0 := by simp at hi; exact hi
    exact ⟨cell_of hYi 0 _ rfl, cell_of hYi 1 _ rfl, none, 0, 0, cell_of hYi 2 _ rfl, ⟨rfl, fun h => absurd h (by omega)⟩, slok_nil⟩⟩⟩
  have hOuts : OutsAt Y (some ⟨w1.heap.size + 2, 0, none⟩) 2 [(5, kL), (3, kL)] := ⟨rfl, fun _ => ⟨w1.heap.size + 2, 0, rfl, lt_of_block hYo, fun i hi => by
    have h2 : i = 0 ∨ i = 1 := by simp at hi; omega
    rcases h2 with rfl | rfl
    · exact ⟨cell_of hYo 0 _ rfl, _, _, _, cell_of hYo 1 _ rfl, ops_k hkY, hsk⟩
    · exact ⟨cell_of hYo 2 _ rfl, _, _, _, cell_of hYo 3 _ rfl, ops_k hkY, hsk⟩⟩⟩
  have hsi := slok_one (w1.heap.size + 1) 1 (by unfold maxLen; omega)
  have A2 := hide (apply_is a1 1 c1 m1L 0 (some ⟨w1.heap.size + 1, 0, none⟩) (some ⟨w1.heap.size + 2, 0, none⟩) 1 1 2 2 [(4, 0, [])] [(5, kL), (3, kL)] 7 4 10 [] [] Y (hC1.later hbY) hS1 hIns hOuts hsi ap2)
  have A3 := hide (fun W (hb : Below Y.heap.size Y W) => apply_is a1 1 c1 m1L 0 (some ⟨w1.heap.size + 1, 0, none⟩) (some ⟨w1.heap.size + 2, 0, none⟩) 1 1 2 2 [(4, 0, [])] [(5, kL), (3, kL)] 7 5 0 m2L m1L W ((hC1.later hbY).later hb) hS1 (hIns.later hb) (hOuts.later hb) hsi ap3)
  have t0 := cell_of hYt 0 _ rfl
  have t1 := cell_of hYt 1 _ rfl
  have t2 := cell_of hYt 2 _ rfl
  have tl := lt_of_block hYt
  have HYT := hide hYt
  have HBY := hide (bel_on (bel_on (unhide HBX) hb1) hbY)
  clear hk1 hkY hsk hIns hOuts hsi hYi hYo hYt hbY hC1 hS1 hU1 hV1 hb1 A1
  go_wp2_with fail
  rw [← hY]
  clear hY
  refine (unhide A2).mono ?_
  rintro e w2 ⟨a2, n2, c2, s2, z2, d2, rfl, _, _, _, _, hb2⟩
  have hYt2 := (hb2.block _ (lt_of_block (unhide HYT))).trans (unhide HYT)
  obtain ⟨Z, hZ⟩ : ∃ Z, Z = w2.alloc (.cells #[.slice s2 z2 d2] 48) := ⟨_, rfl⟩
  have hbZ : Below w2.heap.size w2 Z := by rw [hZ]; exact bel_new _ _
  have A3' := hide ((unhide A3) Z (bel_on hb2 hbZ))
  have v0 := cell_of hYt2 0 _ rfl
  have v1 := cell_of hYt2 1 _ rfl
  have v2 := cell_of hYt2 2 _ rfl
  have vl := lt_of_block hYt2
  have HBZ := hide (bel_on (bel_on (unhide HBY) hb2) hbZ)
  clear hYt2 hb2 hbZ t0 t1 t2 tl A2 A3
  go_wp2_with fail
  rw [← hZ]
  clear hZ
  refine (unhide A3').mono ?_
  rintro e w3 ⟨a3, n3, c3, s3, z3, d3, rfl, hC3, hS3, hU3, hV3, hb3⟩
  have hn3 : 2 = n3 := hC3.1
  subst hn3
  have hz3 : 1 = z3 := hU3.1
  subst hz3
  obtain ⟨V, hV⟩ : ∃ V, V = w3.alloc (.cells #[.slice s3 1 d3] 48) := ⟨_, rfl⟩
  have hbV : Below w3.heap.size w3 V := by rw [hV]; exact bel_new _ _
  have hVu : V.heap[w3.heap.size]? = some (.cells [.slice s3 1 d3].toArray 48 (0, 0)) := by rw [hV]; exact heap_alloc_new w3 _
  have hCV := hC3.later hbV
  have TT := hide (total_is a3 2 c3 m2L 0 8 V hCV tot2 (by rw [if_pos rfl]; exact tot3))
  obtain ⟨b3, o3, rfl, hl3, hcell3⟩ := hCV.2 (by omega)
  have hc31 := hcell3 1 (by decide)
  have HC31 := hide hc31
  have HVU := hide hVu
  have HBV := hide (bel_on (bel_on (unhide HBZ) hb3) hbV)
  clear hC3 hS3 hU3 hV3 hb3 hbV hVu hCV hcell3 hc31 v0 v1 v2 vl A3'
  go_wp2_with fail
  rw [← hV]
  clear hV
  refine (unhide TT).mono ?_
  rintro e w4 ⟨rfl, hb4⟩
  have hu4 := (hb4.block _ (lt_of_block (unhide HVU))).trans (unhide HVU)
  have u4 := cell_of hu4 0 _ rfl
  have ul := lt_of_block hu4
  have hc41 := CoinAt.kept _ _ _ _ _ hb4 (unhide HC31)
  have k0 : w4.cell? ⟨b3, o3 + 6, none⟩ = some (.int .i64 7) := hc41.1
  have k1 : w4.cell? ⟨b3, o3 + 6 + 1, none⟩ = some (.int .i64 1) := hc41.2.1
  have HB4 := hide (bel_on (unhide HBV) hb4)
  clear hu4 hc41 hb4 TT
  go_wp2
  go_ret
  exact ⟨rfl, unhide HB4⟩

end Go.Proofs.Ytklpajhgfdpboaa
