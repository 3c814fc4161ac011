/- The contract of laid: the closed fact that each law of block asks first. -/
import Derived.Test.YtepmnpapdknocaaGreatDoorBlkConW
import Derived.Test.YtepmnpapdknocaaGreatDoorBookEq
namespace Go.Proofs.YtepmnpapdknocaaGreatDoor
open Go.RowKit

def laidB : BlkD := (0, 1, 2, 0, [(1, [], [(64, [])])])
def laidT : ByteArray := ⟨#[116, 120, 32, 49, 10, 111, 117, 116, 32, 54, 52, 58, 10]⟩
def laidS : ByteArray := ⟨#[98, 108, 111, 99, 107, 32, 48, 32, 49, 32, 50, 32, 48, 10, 116, 120, 32, 49, 10, 111, 117, 116, 32, 54, 52, 58, 10]⟩
theorem laid_text : blkText laidB = laidS := by kernel_rfl
theorem laid_right : chkB laidB = 0 := by kernel_rfl
theorem laid_names : nmsB [] laidB = ([laidT, laidS], 2, [1], 0) := by kernel_rfl
theorem laid_con : conD [] [] laidB = (0, [(1, 0, 64, [], 1, true)], [[]]) := by kernel_rfl
theorem one_int (w : World) (x : Int) : Bk.IntsAt (w.alloc (.cells #[.int .i64 x] 3)) (some ⟨w.heap.size, 0, none⟩) 1 [x] :=
  ⟨rfl, fun _ => ⟨w.heap.size, 0, rfl, fun i hi => by
    have e : i = 0 := by simp at hi; exact hi
    subst e
    exact one_new _ _ _⟩⟩

set_option maxRecDepth 10000 in
set_option maxHeartbeats 6400000 in
theorem laid_yes (w : World) (hE : Env w) : Calls Tryz.prog 10 #[] w fun e w' => e = .returned (.bool true) ∧ Below w.heap.size w w' := by
  obtain ⟨W0, hW0⟩ : ∃ W0, W0 = w.alloc (.cells #[.int .i64 64, .slice none 0 0] 84) := ⟨_, rfl⟩
  obtain ⟨W1, hW1⟩ : ∃ W1, W1 = W0.alloc (.cells #[.int .i64 1, .slice none 0 0, .slice (some ⟨w.heap.size, 0, none⟩) 1 1] 74) := ⟨_, rfl⟩
  obtain ⟨X, hX⟩ : ∃ X, X = W1.alloc (.cells #[.int .i64 0, .int .i64 1, .int .i64 2, .int .i64 0, .slice (some ⟨w.heap.size + 1, 0, none⟩) 1 1] 28) := ⟨_, rfl⟩
  have s0 : W0.heap.size = w.heap.size + 1 := by rw [hW0]; simp
  have s1 : W1.heap.size = w.heap.size + 2 := by rw [hW1]; simp [s0]
  have b0 : Below w.heap.size w W0 := by rw [hW0]; exact bel_new _ _
  have b1 : Below W0.heap.size W0 W1 := by rw [hW1]; exact bel_new _ _
  have b2 : Below W1.heap.size W1 X := by rw [hX]; exact bel_new _ _
  have h0 : W0.heap[w.heap.size]? = some (.cells [.int .i64 64, .slice none 0 0].toArray 84 (0, 0)) := by rw [hW0]; exact heap_alloc_new _ _
  have h1 : W1.heap[w.heap.size + 1]? = some (.cells [.int .i64 1, .slice none 0 0, .slice (some ⟨w.heap.size, 0, none⟩) 1 1].toArray 74 (0, 0)) := by
    rw [hW1, ← s0]; exact heap_alloc_new _ _
  have h2 : X.heap[w.heap.size + 2]? = some (.cells [.int .i64 0, .int .i64 1, .int .i64 2, .int .i64 0, .slice (some ⟨w.heap.size + 1, 0, none⟩) 1 1].toArray 28 (0, 0)) := by
    rw [hX, ← s1]; exact heap_alloc_new _ _
  have g0 := (b2.block _ (by rw [s1]; omega)).trans ((b1.block _ (lt_of_block h0)).trans h0)
  have g1 := (b2.block _ (lt_of_block h1)).trans h1
  have hbX : Below w.heap.size w X := bel_on (bel_on b0 b1) b2
  have hT : TxsAt X (some ⟨w.heap.size + 1, 0, none⟩) 1 [(1, [], [(64, [])])] := by
    refine ⟨rfl, fun _ => ⟨w.heap.size + 1, 0, rfl, lt_of_block g1, fun i hi => ?_⟩⟩
    have e : i = 0 := by simp at hi; exact hi
    subst e
    refine ⟨cell_of g1 0 _ rfl, ⟨none, 0, 0, cell_of g1 1 _ rfl, ⟨rfl, fun h => absurd h (by omega)⟩, slok_nil⟩, some ⟨w.heap.size, 0, none⟩, 1, 1, cell_of g1 2 _ rfl, ?_, ⟨Nat.le_refl _, by unfold maxLen; omega, fun e => by cases e⟩⟩
    refine ⟨rfl, fun _ => ⟨w.heap.size, 0, rfl, lt_of_block g0, fun i hi => ?_⟩⟩
    have e : i = 0 := by simp at hi; exact hi
    subst e
    exact ⟨cell_of g0 0 _ rfl, none, 0, 0, cell_of g0 1 _ rfl, ⟨rfl, fun h => absurd h (by omega)⟩, slok_nil⟩
  have C1 := blkPrint_some 0 1 2 0 (some ⟨w.heap.size + 1, 0, none⟩) 1 1 [(1, [], [(64, [])])] X (hE.later hbX) hT laid_right
  rw [show blkText (0, 1, 2, 0, [(1, [], [(64, [])])]) = laidS from laid_text] at C1
  unfold laidS at C1
  have HC1 := hide C1
  have C2 := hide (fun W (hb : Below X.heap.size X W) => names_any none 0 0 [] 0 1 2 0 (some ⟨w.heap.size + 1, 0, none⟩) 1 1 [(1, [], [(64, [])])] [laidT, laidS] 2 [1] 0 W (hE.later (bel_on hbX hb)) ⟨rfl, fun h => absurd h (by omega)⟩ (hT.later hb) laid_names)
  have C3 := hide (fun W (hb : Below X.heap.size X W) => connect_is none 0 0 [] none 0 0 [] 0 1 2 0 (some ⟨w.heap.size + 1, 0, none⟩) 1 1 [(1, [], [(64, [])])] 0 [(1, 0, 64, [], 1, true)] [[]] W (hE.later (bel_on hbX hb)) ⟨rfl, fun h => absurd h (by omega)⟩ ⟨rfl, fun h => absurd h (by omega)⟩ slok_nil (hT.later hb) laid_con)
  have HB0 := hide hbX
  have HX2 := hide h2
  have x0 := cell_of h2 0 _ rfl
  have x1 := cell_of h2 1 _ rfl
  have x2 := cell_of h2 2 _ rfl
  have x3 := cell_of h2 3 _ rfl
  have x4 := cell_of h2 4 _ rfl
  have xl := lt_of_block h2
  clear C1 hT h0 h1 h2 g0 g1 b0 b1 b2 s0 s1 hE hbX
  rw [hW1, hW0] at hX
  clear hW1 hW0 W0 W1
  go_enter Tryz.func10, Tryz.ntmps10
  go_wp2_with fail
  rw [← hX]
  clear hX
  refine (unhide HC1).mono ?_
  rintro e w1 ⟨rfl, hb1⟩
  have h21 := (hb1.block _ (lt_of_block (unhide HX2))).trans (unhide HX2)
  have HX21 := hide h21
  have y0 := cell_of h21 0 _ rfl
  have y1 := cell_of h21 1 _ rfl
  have y2 := cell_of h21 2 _ rfl
  have y3 := cell_of h21 3 _ rfl
  have y4 := cell_of h21 4 _ rfl
  have yl := lt_of_block h21
  have HB1 := hide hb1
  have CC2 := hide ((unhide C2) w1 hb1)
  clear hb1 h21 HC1 C2 x0 x1 x2 x3 x4 xl
  go_wp2_with fail
  refine (unhide CC2).mono ?_
  rintro e w2 ⟨ka, kn, kc, na, nn, nc, rfl, hK, sK, hN, hnc, hb2⟩
  obtain rfl : 2 = kn := hK.1
  obtain rfl : 1 = nn := hN.1
  obtain ⟨Y, hY⟩ : ∃ Y, Y = w2.alloc (.cells #[.slice ka 2 kc] 24) := ⟨_, rfl⟩
  have hbY : Below w2.heap.size w2 Y := by rw [hY]; exact bel_new _ _
  have hY1 : Y.heap[w2.heap.size]? = some (.cells [.slice ka 2 kc].toArray 24 (0, 0)) := by rw [hY]; exact one_heap _ _ _
  have h22 := (hb2.block _ (lt_of_block (unhide HX21))).trans (unhide HX21)
  have z0 := cell_of h22 0 _ rfl
  have z1 := cell_of h22 1 _ rfl
  have z2 := cell_of h22 2 _ rfl
  have z3 := cell_of h22 3 _ rfl
  have z4 := cell_of h22 4 _ rfl
  have zl := lt_of_block h22
  have HBY := hide (bel_on (bel_on (unhide HB1) hb2) hbY)
  have CC3 := hide ((unhide C3) Y (unhide HBY))
  have HN := hide (hN.later hbY)
  have HY1 := hide hY1
  clear hK sK hN hnc hb2 h22 hbY hY1 CC2 C3 y0 y1 y2 y3 y4 yl
  go_wp2_with fail
  rw [← hY]
  clear hY
  refine (unhide CC3).mono ?_
  rintro e w3 ⟨ca, cn, cc, ua, un, uc, rfl, hC, sC, hU, sU, hb3⟩
  obtain rfl : 1 = cn := hC.1
  obtain rfl : 1 = un := hU.1
  obtain ⟨cb, co, rfl, hcl, hcc⟩ := hC.2 (by omega)
  have hc0 := hcc 0 (by simp)
  obtain ⟨_, _, _, _, _, c5⟩ := hc0
  have c5 : w3.cell? ⟨cb, co + 5, none⟩ = some (.bool true) := by simpa [cr] using c5
  obtain ⟨Z, hZ⟩ : ∃ Z, Z = w3.alloc (.cells #[.int .i64 1] 3) := ⟨_, rfl⟩
  have hbZ : Below w3.heap.size w3 Z := by rw [hZ]; exact bel_new _ _
  have hI : Bk.IntsAt Z (some ⟨w3.heap.size, 0, none⟩) 1 [1] := by rw [hZ]; exact one_int _ _
  have CE := hide (Bk.eqInt_is na (some ⟨w3.heap.size, 0, none⟩) 1 1 nc 1 [1] [1] true Z (by unfold maxLen; omega) ((unhide HN).later (bel_on hb3 hbZ)) hI (by simp))
  have HY3 := hide ((hbZ.block _ (Nat.lt_of_lt_of_le (lt_of_block (unhide HY1)) hb3.size)).trans ((hb3.block _ (lt_of_block (unhide HY1))).trans (unhide HY1)))
  have C5 := hide (cell_later hbZ c5)
  have HBZ := hide (bel_on (unhide HB0) (bel_on (unhide HBY) (bel_on hb3 hbZ)))
  clear hC sC hU sU hb3 hcc c5 hbZ hI CC3 z0 z1 z2 z3 z4 zl hcl
  go_wp2_with fail
  rw [← hZ]
  clear hZ
  refine (unhide CE).mono ?_
  rintro e w4 ⟨rfl, hb4⟩
  have h44 := (hb4.block _ (lt_of_block (unhide HY3))).trans (unhide HY3)
  have u0 := cell_of h44 0 _ rfl
  have ul := lt_of_block h44
  have u5 := cell_later hb4 (unhide C5)
  have uc5 := World.block_lt_of_cell? _ _ u5
  have HBF := hide (bel_on (unhide HBZ) hb4)
  clear hb4 h44 CE
  go_wp2
  go_ret
  exact ⟨rfl, unhide HBF⟩

end Go.Proofs.YtepmnpapdknocaaGreatDoor
