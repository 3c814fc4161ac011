/- The closed fact: a reward is spent. -/
import Derived.Test.YtakcleadfcelmaaGreatCoinTotalToSortBase
import Derived.Test.YtakcleadfcelmaaGreatRefReverted
import Derived.Test.YtakcleadfcelmaaGreatRefEq
import Derived.Test.YtakcleadfcelmaaGreatRefCheckB
namespace Go.Proofs.YtakcleadfcelmaaGreat
open Go.RowKit

def kL : List (Int × Int) := [(1, 1)]
def m1L : List CoinD := [(4, 0, 9, kL, 3, true)]
def m2L : List CoinD := [(7, 0, 5, kL, 5, false), (7, 1, 3, kL, 5, false)]
theorem ap1 : apD [] (3, [], [(9, kL)]) 4 3 = (0, m1L, []) := by kernel_rfl
theorem ap2 : apD m1L (0, [(4, 0, [])], [(5, kL), (3, kL)]) 7 4 = (10, [], []) := by kernel_rfl
theorem ap3 : apD m1L (0, [(4, 0, [])], [(5, kL), (3, kL)]) 7 5 = (0, m2L, m1L) := by kernel_rfl
theorem tot2 : ckCoins m2L = 0 := by kernel_rfl
theorem tot3 : sumC m2L = 8 := by kernel_rfl


theorem ops_k {w : World} {b : Nat} {t : TypeId} (h : w.heap[b]? = some (.cells [.int .i64 1, .int .i64 1].toArray t (0, 0))) : OpsAt w (some ⟨b, 0, none⟩) 1 kL :=
  ⟨rfl, fun _ => ⟨b, 0, rfl, fun i hi => by
    obtain rfl : i = 0 := by omega
    exact ⟨cell_of h 0 _ rfl, cell_of h 1 _ rfl⟩⟩⟩
theorem slok_one (b n : Nat) (hn : n ≤ maxLen) : SlOk (some ⟨b, 0, none⟩) n n := ⟨Nat.le_refl _, hn, fun e => by cases e⟩

set_option maxRecDepth 10000 in
set_option maxHeartbeats 6400000 in
theorem there_yes (w : World) : Calls Tryz.prog 7 #[] w fun e w' => e = .returned (.bool true) ∧ Below w.heap.size w w' := by
  obtain ⟨X, hX⟩ : ∃ X, X = (w.alloc (.cells #[.int .i64 1, .int .i64 1] 59)).alloc (.cells #[.int .i64 9, .slice (some ⟨w.heap.size, 0, none⟩) 1 1] 53) := ⟨_, rfl⟩
  have hbX : Below w.heap.size w X := by rw [hX]; exact bel_on (bel_new _ _) (bel_new _ _)
  have hk : X.heap[w.heap.size]? = some (.cells [.int .i64 1, .int .i64 1].toArray 59 (0, 0)) := by
    rw [hX, Below.heap_alloc _ _ _ (by simp)]; exact heap_alloc_new w _
  have ho : X.heap[w.heap.size + 1]? = some (.cells [.int .i64 9, .slice (some ⟨w.heap.size, 0, none⟩) 1 1].toArray 53 (0, 0)) := by
    rw [hX]
    have := heap_alloc_new (w.alloc (.cells #[.int .i64 1, .int .i64 1] 59)) (.cells #[.int .i64 9, .slice (some ⟨w.heap.size, 0, none⟩) 1 1] 53)
    rw [show (w.alloc (.cells #[.int .i64 1, .int .i64 1] 59)).heap.size = w.heap.size + 1 by simp] at this
    exact this
  have hsk := slok_one w.heap.size 1 (by unfold maxLen; omega)
  have hOuts : OutsAt X (some ⟨w.heap.size + 1, 0, none⟩) 1 [(9, kL)] := ⟨rfl, fun _ => ⟨w.heap.size + 1, 0, rfl, lt_of_block ho, fun i hi => by
    obtain rfl : i = 0 := by simp at hi; exact hi
    exact ⟨cell_of ho 0 _ rfl, _, _, _, cell_of ho 1 _ rfl, ops_k hk, hsk⟩⟩⟩
  have A1 := hide (apply_is none 0 0 [] 3 none (some ⟨w.heap.size + 1, 0, none⟩) 0 0 1 1 [] [(9, kL)] 4 3 0 m1L [] X (RowsAt.nil _ _) slok_nil (RowsAt.nil _ _) hOuts slok_nil ap1)
  have HK := hide hk
  have HBX := hide hbX
  clear hk ho hsk hOuts hbX
  go_enter Tryz.func7, Tryz.ntmps7
  go_wp2_with fail
  rw [← hX]
  clear hX
  refine (unhide A1).mono ?_
  rintro e w1 ⟨a1, n1, c1, s1, z1, d1, rfl, hC1, hS1, hU1, hV1, hb1⟩
  have hk1 := (hb1.block _ (lt_of_block (unhide HK))).trans (unhide HK)
  have hn1 : 1 = n1 := hC1.1
  subst hn1
  have hz1 : 0 = z1 := hU1.1
  subst hz1
  obtain ⟨Y, hY⟩ : ∃ Y, Y = (((w1.alloc (.cells #[.slice s1 0 d1] 28)).alloc (.cells #[.int .i64 4, .int .i64 0, .slice none 0 0] 61)).alloc (.cells #[.int .i64 5, .slice (some ⟨w.heap.size, 0, none⟩) 1 1, .int .i64 3, .slice (some ⟨w.heap.size, 0, none⟩) 1 1] 53)).alloc (.cells #[.int .i64 0, .slice (some ⟨w1.heap.size + 1, 0, none⟩) 1 1, .slice (some ⟨w1.heap.size + 2, 0, none⟩) 2 2] 26) := ⟨_, rfl⟩
  have hbY : Below w1.heap.size w1 Y := by rw [hY]; exact bel_on (bel_on (bel_on (bel_new _ _) (bel_new _ _)) (bel_new _ _)) (bel_new _ _)
  have hYi : Y.heap[w1.heap.size + 1]? = some (.cells [.int .i64 4, .int .i64 0, .slice none 0 0].toArray 61 (0, 0)) := by
    rw [hY, Below.heap_alloc _ _ _ (by simp), Below.heap_alloc _ _ _ (by simp)]
    have := heap_alloc_new (w1.alloc (.cells #[.slice s1 0 d1] 28)) (.cells #[.int .i64 4, .int .i64 0, .slice none 0 0] 61)
    rw [show (w1.alloc (.cells #[.slice s1 0 d1] 28)).heap.size = w1.heap.size + 1 by simp] at this
    exact this
  have hYo : Y.heap[w1.heap.size + 2]? = some (.cells [.int .i64 5, .slice (some ⟨w.heap.size, 0, none⟩) 1 1, .int .i64 3, .slice (some ⟨w.heap.size, 0, none⟩) 1 1].toArray 53 (0, 0)) := by
    rw [hY, Below.heap_alloc _ _ _ (by simp)]
    have := heap_alloc_new ((w1.alloc (.cells #[.slice s1 0 d1] 28)).alloc (.cells #[.int .i64 4, .int .i64 0, .slice none 0 0] 61)) (.cells #[.int .i64 5, .slice (some ⟨w.heap.size, 0, none⟩) 1 1, .int .i64 3, .slice (some ⟨w.heap.size, 0, none⟩) 1 1] 53)
    rw [show ((w1.alloc (.cells #[.slice s1 0 d1] 28)).alloc (.cells #[.int .i64 4, .int .i64 0, .slice none 0 0] 61)).heap.size = w1.heap.size + 2 by simp] at this
    exact this
  have hYt : Y.heap[w1.heap.size + 3]? = some (.cells [.int .i64 0, .slice (some ⟨w1.heap.size + 1, 0, none⟩) 1 1, .slice (some ⟨w1.heap.size + 2, 0, none⟩) 2 2].toArray 26 (0, 0)) := by
    rw [hY]
    have := heap_alloc_new (((w1.alloc (.cells #[.slice s1 0 d1] 28)).alloc (.cells #[.int .i64 4, .int .i64 0, .slice none 0 0] 61)).alloc (.cells #[.int .i64 5, .slice (some ⟨w.heap.size, 0, none⟩) 1 1, .int .i64 3, .slice (some ⟨w.heap.size, 0, none⟩) 1 1] 53)) (.cells #[.int .i64 0, .slice (some ⟨w1.heap.size + 1, 0, none⟩) 1 1, .slice (some ⟨w1.heap.size + 2, 0, none⟩) 2 2] 26)
    rw [show (((w1.alloc (.cells #[.slice s1 0 d1] 28)).alloc (.cells #[.int .i64 4, .int .i64 0, .slice none 0 0] 61)).alloc (.cells #[.int .i64 5, .slice (some ⟨w.heap.size, 0, none⟩) 1 1, .int .i64 3, .slice (some ⟨w.heap.size, 0, none⟩) 1 1] 53)).heap.size = w1.heap.size + 3 by simp] at this
    exact this
  have hkY := (hbY.block _ (lt_of_block hk1)).trans hk1
  have hsk := slok_one w.heap.size 1 (by unfold maxLen; omega)
  have hIns : InsAt Y (some ⟨w1.heap.size + 1, 0, none⟩) 1 [(4, 0, [])] := ⟨rfl, fun _ => ⟨w1.heap.size + 1, 0, rfl, lt_of_block hYi, fun i hi => by
    obtain rfl : i = 0 := by simp at hi; exact hi
    exact ⟨cell_of hYi 0 _ rfl, cell_of hYi 1 _ rfl, none, 0, 0, cell_of hYi 2 _ rfl, ⟨rfl, fun h => absurd h (by omega)⟩, slok_nil⟩⟩⟩
  have hOuts : OutsAt Y (some ⟨w1.heap.size + 2, 0, none⟩) 2 [(5, kL), (3, kL)] := ⟨rfl, fun _ => ⟨w1.heap.size + 2, 0, rfl, lt_of_block hYo, fun i hi => by
    have h2 : i = 0 ∨ i = 1 := by simp at hi; omega
    rcases h2 with rfl | rfl
    · exact ⟨cell_of hYo 0 _ rfl, _, _, _, cell_of hYo 1 _ rfl, ops_k hkY, hsk⟩
    · exact ⟨cell_of hYo 2 _ rfl, _, _, _, cell_of hYo 3 _ rfl, ops_k hkY, hsk⟩⟩⟩
  have hsi := slok_one (w1.heap.size + 1) 1 (by unfold maxLen; omega)
  have A2 := hide (apply_is a1 1 c1 m1L 0 (some ⟨w1.heap.size + 1, 0, none⟩) (some ⟨w1.heap.size + 2, 0, none⟩) 1 1 2 2 [(4, 0, [])] [(5, kL), (3, kL)] 7 4 10 [] [] Y (hC1.later hbY) hS1 hIns hOuts hsi ap2)
  have A3 := hide (fun W (hb : Below Y.heap.size Y W) => apply_is a1 1 c1 m1L 0 (some ⟨w1.heap.size + 1, 0, none⟩) (some ⟨w1.heap.size + 2, 0, none⟩) 1 1 2 2 [(4, 0, [])] [(5, kL), (3, kL)] 7 5 0 m2L m1L W ((hC1.later hbY).later hb) hS1 (hIns.later hb) (hOuts.later hb) hsi ap3)
  have t0 := cell_of hYt 0 _ rfl
  have t1 := cell_of hYt 1 _ rfl
  have t2 := cell_of hYt 2 _ rfl
  have tl := lt_of_block hYt
  have HYT := hide hYt
  have HBY := hide (bel_on (bel_on (unhide HBX) hb1) hbY)
  clear hk1 hkY hsk hIns hOuts hsi hYi hYo hYt hbY hC1 hS1 hU1 hV1 hb1 A1
  go_wp2_with fail
  rw [← hY]
  clear hY
  refine (unhide A2).mono ?_
  rintro e w2 ⟨a2, n2, c2, s2, z2, d2, rfl, _, _, _, _, hb2⟩
  have hYt2 := (hb2.block _ (lt_of_block (unhide HYT))).trans (unhide HYT)
  obtain ⟨Z, hZ⟩ : ∃ Z, Z = w2.alloc (.cells #[.slice s2 z2 d2] 28) := ⟨_, rfl⟩
  have hbZ : Below w2.heap.size w2 Z := by rw [hZ]; exact bel_new _ _
  have A3' := hide ((unhide A3) Z (bel_on hb2 hbZ))
  have v0 := cell_of hYt2 0 _ rfl
  have v1 := cell_of hYt2 1 _ rfl
  have v2 := cell_of hYt2 2 _ rfl
  have vl := lt_of_block hYt2
  have HBZ := hide (bel_on (bel_on (unhide HBY) hb2) hbZ)
  clear hYt2 hb2 hbZ t0 t1 t2 tl A2 A3
  go_wp2_with fail
  rw [← hZ]
  clear hZ
  refine (unhide A3').mono ?_
  rintro e w3 ⟨a3, n3, c3, s3, z3, d3, rfl, hC3, hS3, hU3, hV3, hb3⟩
  have hn3 : 2 = n3 := hC3.1
  subst hn3
  have hz3 : 1 = z3 := hU3.1
  subst hz3
  obtain ⟨V, hV⟩ : ∃ V, V = w3.alloc (.cells #[.slice s3 1 d3] 28) := ⟨_, rfl⟩
  have hbV : Below w3.heap.size w3 V := by rw [hV]; exact bel_new _ _
  have hVu : V.heap[w3.heap.size]? = some (.cells [.slice s3 1 d3].toArray 28 (0, 0)) := by rw [hV]; exact heap_alloc_new w3 _
  have hCV := hC3.later hbV
  have TT := hide (total_is a3 2 c3 m2L 0 8 V hCV tot2 (by rw [if_pos rfl]; exact tot3))
  obtain ⟨b3, o3, rfl, hl3, hcell3⟩ := hCV.2 (by omega)
  have hc31 := hcell3 1 (by decide)
  have HC31 := hide hc31
  have HVU := hide hVu
  have HBV := hide (bel_on (bel_on (unhide HBZ) hb3) hbV)
  clear hC3 hS3 hU3 hV3 hb3 hbV hVu hCV hcell3 hc31 v0 v1 v2 vl A3'
  go_wp2_with fail
  rw [← hV]
  clear hV
  refine (unhide TT).mono ?_
  rintro e w4 ⟨rfl, hb4⟩
  have hu4 := (hb4.block _ (lt_of_block (unhide HVU))).trans (unhide HVU)
  have u4 := cell_of hu4 0 _ rfl
  have ul := lt_of_block hu4
  have hc41 := CoinAt.kept _ _ _ _ _ hb4 (unhide HC31)
  have k0 : w4.cell? ⟨b3, o3 + 6, none⟩ = some (.int .i64 7) := hc41.1
  have k1 : w4.cell? ⟨b3, o3 + 6 + 1, none⟩ = some (.int .i64 1) := hc41.2.1
  have HB4 := hide (bel_on (unhide HBV) hb4)
  clear hu4 hc41 hb4 TT
  go_wp2
  go_ret
  exact ⟨rfl, unhide HB4⟩

end Go.Proofs.YtakcleadfcelmaaGreat

/- The law UnspentRevert answers true. -/
namespace Go.Proofs.YtakcleadfcelmaaGreat
open Go.RowKit

theorem rvD_bad {L S : List CoinD} {t : TxD} {name x b z : Int} {M : List CoinD} (hx : rvD L t name S = (x, M)) (hb : ckCoins L = b) (hz : chkTx t = z) : (b ≠ 0 → x = b ∧ M = []) ∧ (b = 0 → z ≠ 0 → x = z ∧ M = []) := by
  constructor
  · intro h0
    have e : ckBoth L t = b := by unfold ckBoth; rw [hb, if_pos h0]
    unfold rvD at hx
    rw [e, if_pos h0] at hx
    injection hx with e1 e2
    exact ⟨e1.symm, e2.symm⟩
  · intro h0 hz0
    have e : ckBoth L t = z := by unfold ckBoth; rw [hb, if_neg (by rw [h0]; decide), hz]
    unfold rvD at hx
    rw [e, if_pos hz0] at hx
    injection hx with e1 e2
    exact ⟨e1.symm, e2.symm⟩

set_option maxRecDepth 10000 in
set_option maxHeartbeats 12800000 in
theorem lawRevert_any (a : Option Addr) (n c : Nat) (L : List CoinD) (h : Int) (ai ao : Option Addr) (ni ci no co : Nat) (I : List InD) (O : List OutD) (name : Int) (sa : Option Addr) (ns cs : Nat) (S : List CoinD) (w : World) (hL : CoinsAt w a n L) (sL : SlOk a n c) (hI : InsAt w ai ni I) (hO : OutsAt w ao no O) (sI : SlOk ai ni ci) (hS : CoinsAt w sa ns S) :
    Calls Tryz.prog 4 #[.slice a n c, .agg #[.int .i64 h, .slice ai ni ci, .slice ao no co], .int .i64 name, .agg #[.slice sa ns cs]] w fun e w' => e = .returned (.bool true) ∧ Below w.heap.size w w' := by
  obtain ⟨X, hX⟩ : ∃ X, X = (w.alloc (.cells #[.int .i64 h, .slice ai ni ci, .slice ao no co] 26)).alloc (.cells #[.slice sa ns cs] 28) := ⟨_, rfl⟩
  have hbX : Below w.heap.size w X := by rw [hX]; exact bel_on (bel_new _ _) (bel_new _ _)
  have hXt : X.heap[w.heap.size]? = some (.cells [.int .i64 h, .slice ai ni ci, .slice ao no co].toArray 26 (0, 0)) := by
    rw [hX, Below.heap_alloc _ _ _ (by simp)]; exact three_heap _ _ _ _ _
  have hXu : X.heap[w.heap.size + 1]? = some (.cells [.slice sa ns cs].toArray 28 (0, 0)) := by
    rw [hX]
    have := heap_alloc_new (w.alloc (.cells #[.int .i64 h, .slice ai ni ci, .slice ao no co] 26)) (.cells #[.slice sa ns cs] 28)
    rw [show (w.alloc (.cells #[.int .i64 h, .slice ai ni ci, .slice ao no co] 26)).heap.size = w.heap.size + 1 by simp] at this
    exact this
  obtain ⟨⟨x, M⟩, hx⟩ : ∃ r, rvD L (h, I, O) name S = r := ⟨_, rfl⟩
  obtain ⟨b, hb⟩ : ∃ b, ckCoins L = b := ⟨_, rfl⟩
  obtain ⟨z, hz⟩ : ∃ z, chkTx (h, I, O) = z := ⟨_, rfl⟩
  obtain ⟨bad1, bad2⟩ := rvD_bad hx hb hz
  have hLX := hL.later hbX
  have hIX := hI.later hbX
  have hOX := hO.later hbX
  have hSX := hS.later hbX
  have AP := hide (revert_is a n c L h ai ao ni ci no co I O name sa ns cs S x M X hLX sL hIX hOX sI hSX hx)
  have RC := hide (fun W (hw : Below X.heap.size X W) => rCoins_any a n c L b W (hLX.later hw) hb)
  have RT : Hid (∀ W, Below X.heap.size X W → Calls Tryz.prog 9 #[.agg #[.int .i64 h, .slice ai ni ci, .slice ao no co]] W fun e w' => e = .returned (.int .i64 z) ∧ Below W.heap.size W w') := fun W hw => by
    have q := rcheckTx_any h ai ao ni ci no co I O W (hIX.later hw) (hOX.later hw)
    rw [hz] at q
    exact q
  have RA : Hid (b = 0 → z = 0 → ∀ W, Below X.heap.size X W → Calls Tryz.prog 13 #[.slice a n c, .agg #[.int .i64 h, .slice ai ni ci, .slice ao no co], .int .i64 name, .agg #[.slice sa ns cs]] W fun e w' => RvR W w' x M e) := fun b0 z0 W hw =>
    reverted_any a n c L h ai ao ni ci no co I O name sa ns cs S x M W (hLX.later hw) sL (hIX.later hw) (hOX.later hw) (hSX.later hw) ((ckCoins_zero L).1 (hb.trans b0)) (hz.trans z0) hx
  have TH := hide there_yes
  have HXT := hide hXt
  have HXU := hide hXu
  have HBX := hide hbX
  have B1 := hide bad1
  have B2 := hide bad2
  have x00 := cell_of hXt 0 _ rfl
  have x01 := cell_of hXt 1 _ rfl
  have x02 := cell_of hXt 2 _ rfl
  have xl := lt_of_block hXt
  have x10 := cell_of hXu 0 _ rfl
  have xl2 := lt_of_block hXu
  clear hL sL hI hO sI hS hLX hIX hOX hSX hx hb hz hXt hXu hbX bad1 bad2
  go_enter Tryz.func4, Tryz.ntmps4
  go_wp2_with fail
  rw [← hX]
  clear hX
  go_wp2_with fail
  refine (unhide AP).mono ?_
  rintro e w1 ⟨am, nm, cm, rfl, hM, sM, hb1⟩
  have HX1 := hide hb1
  have HM := hide hM
  have HSM := hide sM.len
  have ML := hide hM.1
  have C2 := hide ((unhide RC) w1 hb1)
  clear hM sM hb1 x00 x01 x02 xl x10 xl2 AP RC
  go_wp2_with fail
  refine (unhide C2).mono ?_
  rintro e w2 ⟨rfl, hb2⟩
  have H12 := hide hb2
  have HX2 := hide (bel_on (unhide HX1) hb2)
  have t2 := ((unhide HX2).block _ (lt_of_block (unhide HXT))).trans (unhide HXT)
  have t20 := cell_of t2 0 _ rfl
  have t21 := cell_of t2 1 _ rfl
  have t22 := cell_of t2 2 _ rfl
  have t2l := lt_of_block t2
  clear hb2 C2 t2
  by_cases hb0 : b = 0
  · subst hb0
    have C3 := hide ((unhide RT) w2 (unhide HX2))
    clear B1 RT
    go_wp2_with fail
    refine (unhide C3).mono ?_
    rintro e w3 ⟨rfl, hb3⟩
    have H13 := hide (bel_on (unhide H12) hb3)
    have HX3 := hide (bel_on (unhide HX2) hb3)
    have C4 := hide ((unhide TH) w3)
    clear hb3 C3 t20 t21 t22 t2l
    go_wp2_with fail
    refine (unhide C4).mono ?_
    rintro e w4 ⟨rfl, hb4⟩
    have H14 := hide (bel_on (unhide H13) hb4)
    have HX4 := hide (bel_on (unhide HX3) hb4)
    have t4 := ((unhide HX4).block _ (lt_of_block (unhide HXT))).trans (unhide HXT)
    have t40 := cell_of t4 0 _ rfl
    have t41 := cell_of t4 1 _ rfl
    have t42 := cell_of t4 2 _ rfl
    have t4l := lt_of_block t4
    have u4 := ((unhide HX4).block _ (lt_of_block (unhide HXU))).trans (unhide HXU)
    have u40 := cell_of u4 0 _ rfl
    have u4l := lt_of_block u4
    clear hb4 C4 t4 u4
    by_cases hz0 : z = 0
    · subst hz0
      have C6 := hide ((unhide RA) (by first | rfl | trivial) (by first | rfl | trivial) w4 (unhide HX4))
      clear RA B2
      go_wp2_with fail
      refine (unhide C6).mono ?_
      rintro e w6 ⟨am2, nm2, cm2, rfl, hM2, sM2, hb6⟩
      have H16 := bel_on (unhide H14) hb6
      have C7 := hide (rsameCoins_is am am2 nm nm2 cm cm2 M M true w6 (unhide HSM) ((unhide HM).later H16) hM2 (sameL_yes rfl))
      have HW6 := hide (bel_on (bel_on (unhide HBX) (unhide HX4)) hb6)
      have hxx : (x == x) = true := by simp
      clear hM2 sM2 hb6 H16 C6
      go_wp2_with fail
      refine (unhide C7).mono ?_
      rintro e w7 ⟨rfl, hb7⟩
      have HW7 := hide (bel_on (unhide HW6) hb7)
      clear hb7 C7
      go_wp2
      go_ret
      exact ⟨rfl, unhide HW7⟩
    · obtain ⟨rfl, rfl⟩ := (unhide B2) (by first | rfl | trivial) hz0
      obtain rfl : 0 = nm := unhide ML
      have g1 : (x != 0) = true := by simp [hz0]
      have hxx : (x == x) = true := by simp
      have C5 := hide ((unhide TH) w4)
      clear B2 RA
      go_wp2_with fail
      refine (unhide C5).mono ?_
      rintro e w5 ⟨rfl, hb5⟩
      have HW5 := hide (bel_on (bel_on (unhide HBX) (unhide HX4)) hb5)
      clear hb5 C5
      go_wp2
      go_ret
      exact ⟨rfl, unhide HW5⟩
  · obtain ⟨rfl, rfl⟩ := (unhide B1) hb0
    obtain rfl : 0 = nm := unhide ML
    have g1 : (x != 0) = true := by simp [hb0]
    have g2 : (x == 0) = false := by simp [hb0]
    have hxx : (x == x) = true := by simp
    have C3 := hide ((unhide TH) w2)
    clear B1 RA B2
    go_wp2_with fail
    refine (unhide C3).mono ?_
    rintro e w3 ⟨rfl, hb3⟩
    have HX3 := hide (bel_on (unhide HX2) hb3)
    have C4 := hide ((unhide TH) w3)
    clear hb3 C3
    go_wp2_with fail
    refine (unhide C4).mono ?_
    rintro e w4 ⟨rfl, hb4⟩
    have HW4 := hide (bel_on (bel_on (unhide HBX) (unhide HX3)) hb4)
    clear hb4 C4
    go_wp2
    go_ret
    exact ⟨rfl, unhide HW4⟩

end Go.Proofs.YtakcleadfcelmaaGreat
