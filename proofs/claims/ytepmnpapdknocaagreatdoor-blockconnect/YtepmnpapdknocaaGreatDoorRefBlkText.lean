/- The contract of the reference's BlockText. -/
import Derived.Test.YtepmnpapdknocaaGreatDoorRefTxText
import Derived.Test.YtepmnpapdknocaaGreatDoorBlkNames
import Derived.Test.YtepmnpapdknocaaGreatDoorBlkTextM
namespace Go.Proofs.YtepmnpapdknocaaGreatDoor
open Go.RowKit

theorem txsText_snoc (t : TxD) : ∀ T : List TxD, txsText (T ++ [t]) = txsText T ++ txText t
  | [] => by
    apply ba_ext
    simp [txsText, ByteArray.data_append]
  | u :: T => by
    show txText u ++ txsText (T ++ [t]) = txText u ++ txsText T ++ txText t
    rw [txsText_snoc t T]
    apply ba_ext
    simp [ByteArray.data_append]

set_option maxRecDepth 10000 in
set_option maxHeartbeats 6400000 in
theorem rblkText_is (p h k n : Int) (a : Option Addr) (m c : Nat) (T : List TxD) (w : World) (hE : EnvF w) (hT : TxsAt w a m T) (hx : chkB (p, h, k, n, T) = 0) :
    Calls Tryz.prog 37 #[.agg #[.int .i64 p, .int .i64 h, .int .i64 k, .int .i64 n, .slice a m c]] w fun e w' => e = .returned (.string (blkText (p, h, k, n, T))) ∧ Below w.heap.size w w' := by
  obtain ⟨f1, f2, f3, _, f5⟩ := chkB_zero hx
  have hz : T.length = m := hT.1
  obtain ⟨X, hX⟩ : ∃ X, X = (w.alloc (.cells #[.int .i64 p, .int .i64 h, .int .i64 k, .int .i64 n, .slice a m c] 28)).alloc (.cells #[.int .i64 p, .int .i64 h, .int .i64 k, .int .i64 n] 3) := ⟨_, rfl⟩
  have hbX : Below w.heap.size w X := by rw [hX]; exact bel_on (bel_new _ _) (bel_new _ _)
  have hX0 : X.heap[w.heap.size]? = some (.cells [.int .i64 p, .int .i64 h, .int .i64 k, .int .i64 n, .slice a m c].toArray 28 (0, 0)) := by
    rw [hX, Below.heap_alloc _ _ _ (by simp)]; exact five_heap _ _ _ _ _ _ _
  have hX1 : X.heap[w.heap.size + 1]? = some (.cells [.int .i64 p, .int .i64 h, .int .i64 k, .int .i64 n].toArray 3 (0, 0)) := by
    rw [hX]
    have := four_heap (w.alloc (.cells #[.int .i64 p, .int .i64 h, .int .i64 k, .int .i64 n, .slice a m c] 28)) (.int .i64 p) (.int .i64 h) (.int .i64 k) (.int .i64 n) 3
    rw [show (w.alloc (.cells #[.int .i64 p, .int .i64 h, .int .i64 k, .int .i64 n, .slice a m c] 28)).heap.size = w.heap.size + 1 by simp] at this
    exact this
  have HE := hide (fun W (hb : Below X.heap.size X W) => hE.later (bel_on hbX hb))
  have HT := hide (fun W (hb : Below X.heap.size X W) => hT.later (bel_on hbX hb))
  have HB := hide hbX
  have HX0 := hide hX0
  have HX1 := hide hX1
  have HZ := hide hz
  have HF := hide (head_fits f1)
  have HC := hide f5
  obtain ⟨Z, hZ⟩ : ∃ Z, [p, h, k, n] = Z := ⟨_, rfl⟩
  have hZl : Z.length = 4 := by rw [← hZ]; rfl
  have hcell : ∀ j (hj : j < Z.length), X.cell? ⟨w.heap.size + 1, j, none⟩ = some (.int .i64 Z[j]) := by
    subst hZ
    intro j hj
    refine cell_of hX1 j _ ?_
    match j, hj with
    | 0, _ => rfl
    | 1, _ => rfl
    | 2, _ => rfl
    | 3, _ => rfl
  rw [hZ] at HF
  have HCL := hide hcell
  have HZL := hide hZl
  have HZE := hide hZ
  have hm4 : m ≤ 4 := by omega
  clear hE hT hbX hX0 hX1 hz hcell hZl hZ f1 f2 f3 f5 hx
  go_enter Tryz.func37, Tryz.ntmps37
  go_wp2_with fail
  rw [← hX]
  clear hX
  go_loopw [3, 18] (fun sv i wr => ∃ j : Nat, j ≤ 4 ∧ i = .int .i64 j ∧ sv = .string (rowB blockB (Z.take j)) ∧ Hid (Below X.heap.size X wr)) (fun _ i _ => 4 - (intOf i).toNat)
  case atStart => exact ⟨0, Nat.zero_le _, rfl, rfl, (Below.refl _ _ : Below X.heap.size X X)⟩
  case round =>
    obtain ⟨j, hj, rfl, rfl, HBr⟩ := hrel
    by_cases hlt : j < 4
    · have hlk : j < Z.length := by rw [unhide HZL]; exact hlt
      have ccc := cell_later (unhide HBr) ((unhide HCL) j hlk)
      have ccl := World.block_lt_of_cell? _ _ ccc
      have hzr := (unhide HF) Z[j] (List.getElem_mem hlk)
      have hS := rowB_snoc blockB (Z.take j) Z[j]
      rw [← List.take_succ_eq_append_getElem hlk] at hS
      have hTs : (rowB blockB (Z.take j)).size ≤ 200 := by
        have := rowB_size blockB (Z.take j) (fun z hz => (unhide HF) z (List.mem_of_mem_take hz))
        rw [List.length_take] at this
        have e5 : blockB.size = 5 := rfl
        omega
      obtain ⟨z, hz⟩ : ∃ z, Z[j] = z := ⟨_, rfl⟩
      rw [hz] at ccc hzr hS
      obtain ⟨T1, hT1⟩ : ∃ T1, rowB blockB (Z.take j) = T1 := ⟨_, rfl⟩
      rw [hT1] at hS hTs ⊢
      have HS := hide hS
      have hXs := textB_size z hzr
      have hXs1 : ((⟨#[32]⟩ : ByteArray) ++ textB z).size ≤ 22 := by rw [one_size]; omega
      have IT : Hid (∀ w, Env w → Calls Tryz.prog 80 #[.int .i64 z] w fun e w' => e = .returned (.string (textB z)) ∧ Below w.heap.size w w') := fun w hw =>
        (Tryz.strconv_Itoa z (by omega) (by omega) w hw.tab).mono fun e w' ⟨h1, k, os, h2⟩ => ⟨h1, by rw [h2]; exact Lib.below_grow _ _ (Nat.le_refl _) k os⟩
      have EE := hide ((unhide HE) wr (unhide HBr)).envp.env
      have hjI : (j : Int) < 4 := by omega
      clear hz hT1 hS hzr
      go_wp2_with fail
      refine ((unhide IT) _ (unhide EE)).mono ?_
      rintro e w3 ⟨rfl, hb3⟩
      have HB3 := hide (bel_on (unhide HBr) hb3)
      clear hb3
      go_wp2
      go_roundw
      case rel => exact ⟨j + 1, by omega, by go_num, by rw [unhide HS], HB3⟩
      case measure => simp [intOf]; omega
    · obtain rfl : j = 4 := by omega
      have HR : Hid (rowB blockB (Z.take 4) = rowB blockB Z) := by show _ = _; rw [List.take_of_length_le (by rw [unhide HZL]; exact Nat.le_refl _)]
      rw [unhide HR]
      have hRs : (rowB blockB Z).size ≤ 200 := by
        have := rowB_size blockB Z (unhide HF)
        rw [unhide HZL] at this
        have e5 : blockB.size = 5 := rfl
        omega
      obtain ⟨R, hR⟩ : ∃ R, rowB blockB Z = R := ⟨_, rfl⟩
      rw [hR] at hRs ⊢
      have h1 := ((unhide HBr).block _ (lt_of_block (unhide HX0))).trans (unhide HX0)
      have b4 := cell_of h1 4 _ rfl
      have bl := lt_of_block h1
      have HRR := hide hR
      clear h1 hR HR
      go_wp2
      go_loopw [3, 33] (fun sv i wr2 => ∃ j : Nat, j ≤ m ∧ i = .int .i64 j ∧ sv = .string ((R ++ ⟨#[10]⟩) ++ txsText (T.take j)) ∧ Hid (Below X.heap.size X wr2)) (fun _ i _ => m - (intOf i).toNat)
      case atStart => exact ⟨0, Nat.zero_le _, rfl, by congr 1; apply ba_ext; simp [txsText, ByteArray.data_append], HBr⟩
      case round =>
        obtain ⟨j, hj2, rfl, rfl, HBs⟩ := hrel
        clear b4 bl
        by_cases hlt : j < m
        · have hlk : j < T.length := by rw [unhide HZ]; exact hlt
          obtain ⟨tb, tof, rfl, _, hct⟩ := ((unhide HT) _ (unhide HBs)).2 (by omega)
          have hin := hct j hlk
          have hck := (unhide HC) T[j] (List.getElem_mem hlk)
          have hS := txsText_snoc T[j] (T.take j)
          rw [← List.take_succ_eq_append_getElem hlk] at hS
          have hsz := txsText_size (T.take j) (fun t ht => (unhide HC) t (List.mem_of_mem_take ht))
          rw [List.length_take] at hsz
          have hsj : (txText T[j]).size ≤ 6000 := by
            have := txsText_size [T[j]] (fun t ht => by rw [List.mem_singleton.1 ht]; exact hck)
            have e : txsText [T[j]] = txText T[j] ++ txsText [] := rfl
            rw [e, ByteArray.size_append] at this
            simp at this
            omega
          obtain ⟨t1, I, O, ht⟩ : ∃ t1 I O, T[j] = (t1, I, O) := ⟨_, _, _, rfl⟩
          rw [ht] at hin hck hS hsj
          obtain ⟨g0, ⟨ai, ni, ci, g1, hI, _⟩, ao, no, co, g2, hO, _⟩ := hin
          simp only at g0 g1 g2 hI hO
          obtain ⟨A1, hA1⟩ : ∃ A1, (R ++ ⟨#[10]⟩) ++ txsText (T.take j) = A1 := ⟨_, rfl⟩
          have hAs : A1.size ≤ 30000 := by
            rw [← hA1, ByteArray.size_append, size_one]
            have : min j T.length ≤ 4 := by omega
            omega
          have HAE : Hid (A1 ++ txText (t1, I, O) = (R ++ ⟨#[10]⟩) ++ txsText (T.take (j + 1))) := by
            show _ = _
            rw [← hA1, hS]
            apply ba_ext
            simp [ByteArray.data_append]
          rw [hA1]
          obtain ⟨Y, hY⟩ : ∃ Y, Y = wr.alloc (.cells #[.int .i64 t1, .slice ai ni ci, .slice ao no co] 74) := ⟨_, rfl⟩
          have hbY : Below wr.heap.size wr Y := by rw [hY]; exact bel_new _ _
          have CC := hide (txText_is t1 ai ao ni ci no co I O Y ((unhide HE) Y (bel_on (unhide HBs) hbY)) (hI.later hbY) (hO.later hbY) hck)
          obtain ⟨B1, hB1⟩ : ∃ B1, txText (t1, I, O) = B1 := ⟨_, rfl⟩
          rw [hB1] at CC hsj HAE
          have HBY := hide (bel_on (unhide HBs) hbY)
          have hjI : (j : Int) < (m : Int) := by omega
          have gl := World.block_lt_of_cell? _ _ g0
          clear hct hS hsz ht hI hO hA1 hB1 hck hbY
          go_wp2_with fail
          rw [← hY]
          clear hY
          refine (unhide CC).mono ?_
          rintro e w3 ⟨rfl, hb3⟩
          have HB3 := hide (bel_on (unhide HBY) hb3)
          clear hb3 CC
          go_wp2
          go_roundw
          case rel =>
            refine ⟨_, _, _, _, _, _, _, _, _, _, _, ?_, rfl⟩
            exact ⟨j + 1, by omega, by go_num, by rw [unhide HAE], HB3⟩
          case measure => simp [intOf]; omega
        · have HEND : Hid ((R ++ ⟨#[10]⟩) ++ txsText (T.take j) = blkText (p, h, k, n, T)) := by
            show _ = _
            rw [List.take_of_length_le (by rw [unhide HZ]; omega), ← unhide HRR, ← unhide HZE]
            rfl
          have HBF := hide (bel_on (unhide HB) (unhide HBs))
          go_wp2
          go_ret
          exact ⟨ret_str (unhide HEND), unhide HBF⟩

end Go.Proofs.YtepmnpapdknocaaGreatDoor
