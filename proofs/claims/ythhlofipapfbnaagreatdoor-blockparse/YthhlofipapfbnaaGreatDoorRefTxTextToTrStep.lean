/- The contract of the reference's TxText, at a right transaction. -/
import Derived.Test.YthhlofipapfbnaaGreatDoorRefWholeToRefSameT
import Derived.Test.YthhlofipapfbnaaGreatDoorTxPrintBToBlkPrint
import Derived.Test.YthhlofipapfbnaaGreatDoorBlkNamesToCoinCopyB
import Derived.Test.YthhlofipapfbnaaGreatDoorTxLineToBlkTextM
import Derived.Test.YthhlofipapfbnaaGreatDoorBlkParseM
import Derived.Test.YthhlofipapfbnaaGreatDoorBlkSameB
import Derived.WalkKit
import Derived.Deep.RegionLaw
import Derived.Deep.AppendLies
namespace Go.Proofs.YthhlofipapfbnaaGreatDoor
open Go.RowKit

theorem itoa_is (z : Int) (hz : -10000000000 ≤ z ∧ z ≤ 10000000000) (w : World) (hw : Env w) : Calls Tryz.prog 48 #[.int .i64 z] w fun e w' => e = .returned (.string (textB z)) ∧ Below w.heap.size w w' :=
  (Tryz.strconv_Itoa z (by omega) (by omega) w hw.tab).mono fun e w' ⟨h1, k, os, h2⟩ => ⟨h1, by rw [h2]; exact Lib.below_grow _ _ (Nat.le_refl _) k os⟩

theorem head_ref (h : Int) : headText h = ((⟨#[116, 120, 32]⟩ : ByteArray) ++ textB h) ++ ⟨#[10]⟩ := by
  apply ba_ext
  simp [headText, rowB, txB]
theorem in_ref (x1 x2 : Int) (key : List (Int × Int)) : inText (x1, x2, key) = (((((((⟨#[105, 110, 32]⟩ : ByteArray) ++ textB x1) ++ ⟨#[32]⟩) ++ textB x2) ++ ⟨#[58]⟩) ++ opsText key) ++ ⟨#[10]⟩) := by
  apply ba_ext
  simp [inText, lineB, rowB, inB]
theorem out_ref (x1 : Int) (key : List (Int × Int)) : outText (x1, key) = (((((⟨#[111, 117, 116, 32]⟩ : ByteArray) ++ textB x1) ++ ⟨#[58]⟩) ++ opsText key) ++ ⟨#[10]⟩) := by
  apply ba_ext
  simp [outText, lineB, rowB, outB]

set_option maxRecDepth 10000 in
set_option maxHeartbeats 6400000 in
theorem txText_is (h : Int) (ai ao : Option Addr) (ni ci no co : Nat) (I : List InD) (O : List OutD) (w : World) (hE : EnvF w) (hI : InsAt w ai ni I) (hO : OutsAt w ao no O) (hx : chkTx (h, I, O) = 0) :
    Calls Tryz.prog 49 #[.agg #[.int .i64 h, .slice ai ni ci, .slice ao no co]] w fun e w' => e = .returned (.string (txText (h, I, O))) ∧ Below w.heap.size w w' := by
  have ok := TxOk.of hx
  have hb := bel_new w (.cells #[.int .i64 h, .slice ai ni ci, .slice ao no co] 78)
  obtain ⟨n0, n1, n2⟩ := three_new w (.int .i64 h) (.slice ai ni ci) (.slice ao no co) 78
  have hi6 : ni ≤ 6 := by have := ok.ins6; have := hI.1; simp only at *; omega
  have ho6 : no ≤ 6 := by have := ok.outs6; have := hO.1; simp only at *; omega
  have HG := hide ok.hgt
  have HII := hide ok.ins
  have HOO := hide ok.outs
  have hh : -10000000000 ≤ h ∧ h ≤ 10000000000 := by have := ok.hgt; simp only at this; omega
  have IT := hide (itoa_is h hh _ (hE.later hb).envp.env)
  have HE := hide hE
  have HI := hide hI
  have HO := hide hO
  have HB := hide hb
  have N1 := hide n1
  have N2 := hide n2
  have HS0 := hide (head_ref h)
  have s0 := textB_size h hh
  obtain ⟨A0, hA0⟩ : ∃ A0, textB h = A0 := ⟨_, rfl⟩
  rw [hA0] at IT HS0 s0
  have s1 : ((⟨#[116, 120, 32]⟩ : ByteArray) ++ A0).size ≤ 24 := by rw [ByteArray.size_append]; have : (⟨#[116, 120, 32]⟩ : ByteArray).size = 3 := rfl; omega
  clear hb n1 n2 hE hI hO hx ok hA0 hh
  go_enter Tryz.func49, Tryz.ntmps49
  go_wp2_with fail
  refine (unhide IT).mono ?_
  rintro e w3 ⟨rfl, hb3⟩
  have m1 := cell_later hb3 (unhide N1)
  have M2 := hide (cell_later hb3 (unhide N2))
  have l3 : w.heap.size < w3.heap.size := World.block_lt_of_cell? _ _ m1
  have HBW3 := hide (bel_on (unhide HB) hb3)
  clear hb3
  go_wp2
  go_loopw [3, 16] (fun s i wr => ∃ k : Nat, k ≤ ni ∧ i = .int .i64 k ∧ s = .string (insText h (I.take k)) ∧ Below w3.heap.size w3 wr) (fun _ i _ => ni - (intOf i).toNat)
  case atStart => exact ⟨0, Nat.zero_le _, rfl, by rw [← unhide HS0]; rfl, Below.refl _ _⟩
  case round =>
    obtain ⟨k, hk, rfl, rfl, hbr⟩ := hrel
    have HBR := hide hbr
    have hbw := bel_on (unhide HBW3) hbr
    have HBW := hide hbw
    by_cases hlt : k < ni
    · have hlk : k < I.length := by rw [(unhide HI).1]; exact hlt
      obtain ⟨b, off, rfl, hbl, hcell⟩ := ((unhide HI).later hbw).2 (by omega)
      obtain ⟨g1, g2, ka, kn, kc, g3, g4, _⟩ := hcell k hlk
      have hok := (unhide HII) I[k] (List.getElem_mem hlk)
      have hS := insText_snoc h (I.take k) I[k]
      rw [← List.take_succ_eq_append_getElem hlk] at hS
      have hTs : (insText h (I.take k)).size ≤ 3000 := by
        have := insText_size h (I.take k) (unhide HG) (fun x hx => (unhide HII) x (List.mem_of_mem_take hx))
        rw [List.length_take] at this
        omega
      obtain ⟨x, hx⟩ : ∃ x, I[k] = x := ⟨_, rfl⟩
      rw [hx] at g1 g2 g4 hok hS
      obtain ⟨x1, x2, key⟩ := x
      simp only at g1 g2 g3 g4
      have hp := (ptOk_iff _).1 hok.1
      simp only at hp
      obtain ⟨T, hT⟩ : ∃ T, insText h (I.take k) = T := ⟨_, rfl⟩
      rw [hT, in_ref] at hS
      rw [hT] at hTs ⊢
      obtain ⟨X, hX⟩ : ∃ X, X = wr.alloc (.cells #[.int .i64 x1, .int .i64 x2, .slice ka kn kc] 152) := ⟨_, rfl⟩
      have b1 : Below wr.heap.size wr X := by rw [hX]; exact bel_new _ _
      have cx := three_new wr (.int .i64 x1) (.int .i64 x2) (.slice ka kn kc) 152
      rw [← hX] at cx
      obtain ⟨x0c, x1c, x2c⟩ := cx
      have EX := ((unhide HE).later hbw).later b1
      have I1 : Hid (∀ w', Below X.heap.size X w' → Calls Tryz.prog 48 #[.int .i64 x1] w' fun e w2 => e = .returned (.string (textB x1)) ∧ Below w'.heap.size w' w2) := fun w' hw' => itoa_is x1 (by omega) w' (EX.later hw').envp.env
      have I2 : Hid (∀ w', Below X.heap.size X w' → Calls Tryz.prog 48 #[.int .i64 x2] w' fun e w2 => e = .returned (.string (textB x2)) ∧ Below w'.heap.size w' w2) := fun w' hw' => itoa_is x2 (by omega) w' (EX.later hw').envp.env
      have OT : Hid (∀ w', Below X.heap.size X w' → Calls Tryz.prog 101 #[.slice ka kn kc] w' fun e w2 => e = .returned (.string (opsText key)) ∧ Below w'.heap.size w' w2) := fun w' hw' => opstext_any ka kn kc key w' (EX.later hw') ((g4.later b1).later hw') hok.2
      have z1 := textB_size x1 (by omega)
      have z2 := textB_size x2 (by omega)
      have z3 := opsText_size' key hok.2
      obtain ⟨A, hA⟩ : ∃ A, textB x1 = A := ⟨_, rfl⟩
      obtain ⟨B, hB⟩ : ∃ B, textB x2 = B := ⟨_, rfl⟩
      obtain ⟨C, hC⟩ : ∃ C, opsText key = C := ⟨_, rfl⟩
      rw [hA] at I1 z1 hS
      rw [hB] at I2 z2 hS
      rw [hC] at OT z3 hS
      have y1 : ¬ 9223372036854775807 < 3 + A.size := by omega
      have y2 : ¬ 9223372036854775807 < 3 + A.size + 1 := by omega
      have y3 : ¬ 9223372036854775807 < 3 + A.size + 1 + B.size := by omega
      have y4 : ¬ 9223372036854775807 < 3 + A.size + 1 + B.size + 1 := by omega
      have y5 : ¬ 9223372036854775807 < 3 + A.size + 1 + B.size + 1 + C.size := by omega
      have y6 : ¬ 9223372036854775807 < 3 + A.size + 1 + B.size + 1 + C.size + 1 := by omega
      have y7 : ¬ 9223372036854775807 < T.size + (3 + A.size + 1 + B.size + 1 + C.size + 1) := by omega
      have HS := hide hS
      have HB1' := hide b1
      clear hbr hbw hcell g4 hok hx hT hS b1 hp hA hB hC EX
      go_wp2_with fail
      rw [← hX]
      clear hX
      go_region_held3 (fun w' => Below X.heap.size X w' ∧ w'.cell? ⟨wr.heap.size, 0, none⟩ = some (.int .i64 x1) ∧ w'.cell? ⟨wr.heap.size, 1, none⟩ = some (.int .i64 x2) ∧ w'.cell? ⟨wr.heap.size, 2, none⟩ = some (.slice ka kn kc))
        (first
        | exact ⟨bel_draws _, x0c, x1c, x2c⟩
        | (go_split_ands
           refine ⟨bel_on (by assumption) hbc, cell_later hbc (by assumption), cell_later hbc (by assumption), cell_later hbc (by assumption)⟩))
        (first
        | (go_at_call 48; go_split_ands; refine ((unhide I1) _ (by assumption)).mono ?_; rintro e w' ⟨rfl, hbc⟩)
        | (go_at_call 48; go_split_ands; refine ((unhide I2) _ (by assumption)).mono ?_; rintro e w' ⟨rfl, hbc⟩)
        | (go_at_call 101; go_split_ands; refine ((unhide OT) _ (by assumption)).mono ?_; rintro e w' ⟨rfl, hbc⟩))
      rename_i hH
      have HH := hide ((unhide HBR).trans ((bel_on (unhide HB1') hH.1).mono (unhide HBR).size))
      clear hH
      go_wp2
      go_roundw
      case rel => exact ⟨k + 1, by omega, by go_num, by rw [unhide HS], unhide HH⟩
      case measure => simp [intOf]; omega
    · have e : k = ni := by omega
      subst e
      have HT : Hid (insText h (I.take k) = insText h I) := by show _ = _; rw [List.take_of_length_le (by rw [(unhide HI).1]; exact Nat.le_refl _)]
      have hTs := insText_size h I (unhide HG) (unhide HII)
      have hil : I.length ≤ 6 := by rw [(unhide HI).1]; exact hi6
      obtain ⟨T1, hT1⟩ : ∃ T1, insText h I = T1 := ⟨_, rfl⟩
      rw [hT1] at HT hTs
      have HT1 := hide hT1
      have m2 := cell_later hbr (unhide M2)
      have s4 : w.heap.size < wr.heap.size := World.block_lt_of_cell? _ _ m2
      rw [unhide HT]
      clear hbr hT1 hk hlt
      go_wp2
      go_loopw [3, 43] (fun s i wz => ∃ j : Nat, j ≤ no ∧ i = .int .i64 j ∧ s = .string (outsText T1 (O.take j)) ∧ Below wr.heap.size wr wz) (fun _ i _ => no - (intOf i).toNat)
      case atStart => exact ⟨0, Nat.zero_le _, rfl, rfl, Below.refl _ _⟩
      case round =>
        obtain ⟨j, hj, rfl, rfl, hbz⟩ := hrel
        have HBZ := hide hbz
        have hbv := bel_on (unhide HBW) hbz
        have HBV := hide hbv
        by_cases hlt : j < no
        · have hlk : j < O.length := by rw [(unhide HO).1]; exact hlt
          obtain ⟨b, off, rfl, hbl, hcell⟩ := ((unhide HO).later hbv).2 (by omega)
          obtain ⟨g1, ka, kn, kc, g3, g4, _⟩ := hcell j hlk
          have hok := (unhide HOO) O[j] (List.getElem_mem hlk)
          have hS := outsText_snoc T1 (O.take j) O[j]
          rw [← List.take_succ_eq_append_getElem hlk] at hS
          have hTs2 : (outsText T1 (O.take j)).size ≤ 6000 := by
            have := outsText_size T1 (O.take j) (fun x hx => (unhide HOO) x (List.mem_of_mem_take hx))
            rw [List.length_take] at this
            omega
          obtain ⟨x, hx⟩ : ∃ x, O[j] = x := ⟨_, rfl⟩
          rw [hx] at g1 g4 hok hS
          obtain ⟨x1, key⟩ := x
          simp only at g1 g3 g4
          have hp := hok.1
          simp only at hp
          obtain ⟨T, hT⟩ : ∃ T, outsText T1 (O.take j) = T := ⟨_, rfl⟩
          rw [hT, out_ref] at hS
          rw [hT] at hTs2 ⊢
          obtain ⟨X, hX⟩ : ∃ X, X = wr.alloc (.cells #[.int .i64 x1, .slice ka kn kc] 85) := ⟨_, rfl⟩
          have b1 : Below wr.heap.size wr X := by rw [hX]; exact bel_new _ _
          have cx := two_fresh wr (.int .i64 x1) (.slice ka kn kc) 85
          rw [← hX] at cx
          obtain ⟨x0c, x1c⟩ := cx
          have EX := ((unhide HE).later hbv).later b1
          have I1 : Hid (∀ w', Below X.heap.size X w' → Calls Tryz.prog 48 #[.int .i64 x1] w' fun e w2 => e = .returned (.string (textB x1)) ∧ Below w'.heap.size w' w2) := fun w' hw' => itoa_is x1 (by omega) w' (EX.later hw').envp.env
          have OT : Hid (∀ w', Below X.heap.size X w' → Calls Tryz.prog 101 #[.slice ka kn kc] w' fun e w2 => e = .returned (.string (opsText key)) ∧ Below w'.heap.size w' w2) := fun w' hw' => opstext_any ka kn kc key w' (EX.later hw') ((g4.later b1).later hw') hok.2
          have z1 := textB_size x1 (by omega)
          have z3 := opsText_size' key hok.2
          obtain ⟨A, hA⟩ : ∃ A, textB x1 = A := ⟨_, rfl⟩
          obtain ⟨C, hC⟩ : ∃ C, opsText key = C := ⟨_, rfl⟩
          rw [hA] at I1 z1 hS
          rw [hC] at OT z3 hS
          have y1 : ¬ 9223372036854775807 < 4 + A.size := by omega
          have y2 : ¬ 9223372036854775807 < 4 + A.size + 1 := by omega
          have y3 : ¬ 9223372036854775807 < 4 + A.size + 1 + C.size := by omega
          have y4 : ¬ 9223372036854775807 < 4 + A.size + 1 + C.size + 1 := by omega
          have y5 : ¬ 9223372036854775807 < T.size + (4 + A.size + 1 + C.size + 1) := by omega
          have HS := hide hS
          have HB1' := hide b1
          clear hbz hbv hcell g4 hok hx hT hS b1 hp hA hC EX
          go_wp2_with fail
          rw [← hX]
          clear hX
          go_region_held3 (fun w' => Below X.heap.size X w' ∧ w'.cell? ⟨wr.heap.size, 0, none⟩ = some (.int .i64 x1) ∧ w'.cell? ⟨wr.heap.size, 1, none⟩ = some (.slice ka kn kc))
            (first
            | exact ⟨bel_draws _, x0c, x1c⟩
            | (go_split_ands
               refine ⟨bel_on (by assumption) hbc, cell_later hbc (by assumption), cell_later hbc (by assumption)⟩))
            (first
            | (go_at_call 48; go_split_ands; refine ((unhide I1) _ (by assumption)).mono ?_; rintro e w' ⟨rfl, hbc⟩)
            | (go_at_call 101; go_split_ands; refine ((unhide OT) _ (by assumption)).mono ?_; rintro e w' ⟨rfl, hbc⟩))
          rename_i hH
          have HH := hide ((unhide HBZ).trans ((bel_on (unhide HB1') hH.1).mono (unhide HBZ).size))
          clear hH
          go_wp2
          go_roundw
          case rel => exact ⟨j + 1, by omega, by go_num, by rw [unhide HS], unhide HH⟩
          case measure => simp [intOf]; omega
        · have HF : Hid (outsText T1 (O.take j) = txText (h, I, O)) := by
            show _ = _
            rw [List.take_of_length_le (by rw [(unhide HO).1]; omega), ← unhide HT1]; rfl
          clear hbz hbv
          go_wp2
          go_ret
          exact ⟨by rw [← unhide HF]; rfl, unhide HBV⟩

end Go.Proofs.YthhlofipapfbnaaGreatDoor

/- The contract of the reference's BlockText. -/
namespace Go.Proofs.YthhlofipapfbnaaGreatDoor
open Go.RowKit

theorem txsText_snoc (t : TxD) : ∀ T : List TxD, txsText (T ++ [t]) = txsText T ++ txText t
  | [] => by
    apply ba_ext
    simp [txsText, ByteArray.data_append]
  | u :: T => by
    show txText u ++ txsText (T ++ [t]) = txText u ++ txsText T ++ txText t
    rw [txsText_snoc t T]
    apply ba_ext
    simp [ByteArray.data_append]

set_option maxRecDepth 10000 in
set_option maxHeartbeats 6400000 in
theorem rblkText_is (p h k n : Int) (a : Option Addr) (m c : Nat) (T : List TxD) (w : World) (hE : EnvF w) (hT : TxsAt w a m T) (hx : chkB (p, h, k, n, T) = 0) :
    Calls Tryz.prog 14 #[.agg #[.int .i64 p, .int .i64 h, .int .i64 k, .int .i64 n, .slice a m c]] w fun e w' => e = .returned (.string (blkText (p, h, k, n, T))) ∧ Below w.heap.size w w' := by
  obtain ⟨f1, f2, f3, _, f5⟩ := chkB_zero hx
  have hz : T.length = m := hT.1
  obtain ⟨X, hX⟩ : ∃ X, X = (w.alloc (.cells #[.int .i64 p, .int .i64 h, .int .i64 k, .int .i64 n, .slice a m c] 24)).alloc (.cells #[.int .i64 p, .int .i64 h, .int .i64 k, .int .i64 n] 3) := ⟨_, rfl⟩
  have hbX : Below w.heap.size w X := by rw [hX]; exact bel_on (bel_new _ _) (bel_new _ _)
  have hX0 : X.heap[w.heap.size]? = some (.cells [.int .i64 p, .int .i64 h, .int .i64 k, .int .i64 n, .slice a m c].toArray 24 (0, 0)) := by
    rw [hX, Below.heap_alloc _ _ _ (by simp)]; exact five_heap _ _ _ _ _ _ _
  have hX1 : X.heap[w.heap.size + 1]? = some (.cells [.int .i64 p, .int .i64 h, .int .i64 k, .int .i64 n].toArray 3 (0, 0)) := by
    rw [hX]
    have := four_heap (w.alloc (.cells #[.int .i64 p, .int .i64 h, .int .i64 k, .int .i64 n, .slice a m c] 24)) (.int .i64 p) (.int .i64 h) (.int .i64 k) (.int .i64 n) 3
    rw [show (w.alloc (.cells #[.int .i64 p, .int .i64 h, .int .i64 k, .int .i64 n, .slice a m c] 24)).heap.size = w.heap.size + 1 by simp] at this
    exact this
  have HE := hide (fun W (hb : Below X.heap.size X W) => hE.later (bel_on hbX hb))
  have HT := hide (fun W (hb : Below X.heap.size X W) => hT.later (bel_on hbX hb))
  have HB := hide hbX
  have HX0 := hide hX0
  have HX1 := hide hX1
  have HZ := hide hz
  have HF := hide (head_fits f1)
  have HC := hide f5
  obtain ⟨Z, hZ⟩ : ∃ Z, [p, h, k, n] = Z := ⟨_, rfl⟩
  have hZl : Z.length = 4 := by rw [← hZ]; rfl
  have hcell : ∀ j (hj : j < Z.length), X.cell? ⟨w.heap.size + 1, j, none⟩ = some (.int .i64 Z[j]) := by
    subst hZ
    intro j hj
    refine cell_of hX1 j _ ?_
    match j, hj with
    | 0, _ => rfl
    | 1, _ => rfl
    | 2, _ => rfl
    | 3, _ => rfl
  rw [hZ] at HF
  have HCL := hide hcell
  have HZL := hide hZl
  have HZE := hide hZ
  have hm4 : m ≤ 4 := by omega
  clear hE hT hbX hX0 hX1 hz hcell hZl hZ f1 f2 f3 f5 hx
  go_enter Tryz.func14, Tryz.ntmps14
  go_wp2_with fail
  rw [← hX]
  clear hX
  go_loopw [3, 18] (fun sv i wr => ∃ j : Nat, j ≤ 4 ∧ i = .int .i64 j ∧ sv = .string (rowB blockB (Z.take j)) ∧ Hid (Below X.heap.size X wr)) (fun _ i _ => 4 - (intOf i).toNat)
  case atStart => exact ⟨0, Nat.zero_le _, rfl, rfl, (Below.refl _ _ : Below X.heap.size X X)⟩
  case round =>
    obtain ⟨j, hj, rfl, rfl, HBr⟩ := hrel
    by_cases hlt : j < 4
    · have hlk : j < Z.length := by rw [unhide HZL]; exact hlt
      have ccc := cell_later (unhide HBr) ((unhide HCL) j hlk)
      have ccl := World.block_lt_of_cell? _ _ ccc
      have hzr := (unhide HF) Z[j] (List.getElem_mem hlk)
      have hS := rowB_snoc blockB (Z.take j) Z[j]
      rw [← List.take_succ_eq_append_getElem hlk] at hS
      have hTs : (rowB blockB (Z.take j)).size ≤ 200 := by
        have := rowB_size blockB (Z.take j) (fun z hz => (unhide HF) z (List.mem_of_mem_take hz))
        rw [List.length_take] at this
        have e5 : blockB.size = 5 := rfl
        omega
      obtain ⟨z, hz⟩ : ∃ z, Z[j] = z := ⟨_, rfl⟩
      rw [hz] at ccc hzr hS
      obtain ⟨T1, hT1⟩ : ∃ T1, rowB blockB (Z.take j) = T1 := ⟨_, rfl⟩
      rw [hT1] at hS hTs ⊢
      have HS := hide hS
      have hXs := textB_size z hzr
      have hXs1 : ((⟨#[32]⟩ : ByteArray) ++ textB z).size ≤ 22 := by rw [one_size]; omega
      have IT : Hid (∀ w, Env w → Calls Tryz.prog 48 #[.int .i64 z] w fun e w' => e = .returned (.string (textB z)) ∧ Below w.heap.size w w') := fun w hw =>
        (Tryz.strconv_Itoa z (by omega) (by omega) w hw.tab).mono fun e w' ⟨h1, k, os, h2⟩ => ⟨h1, by rw [h2]; exact Lib.below_grow _ _ (Nat.le_refl _) k os⟩
      have EE := hide ((unhide HE) wr (unhide HBr)).envp.env
      have hjI : (j : Int) < 4 := by omega
      clear hz hT1 hS hzr
      go_wp2_with fail
      refine ((unhide IT) _ (unhide EE)).mono ?_
      rintro e w3 ⟨rfl, hb3⟩
      have HB3 := hide (bel_on (unhide HBr) hb3)
      clear hb3
      go_wp2
      go_roundw
      case rel => exact ⟨j + 1, by omega, by go_num, by rw [unhide HS], HB3⟩
      case measure => simp [intOf]; omega
    · obtain rfl : j = 4 := by omega
      have HR : Hid (rowB blockB (Z.take 4) = rowB blockB Z) := by show _ = _; rw [List.take_of_length_le (by rw [unhide HZL]; exact Nat.le_refl _)]
      rw [unhide HR]
      have hRs : (rowB blockB Z).size ≤ 200 := by
        have := rowB_size blockB Z (unhide HF)
        rw [unhide HZL] at this
        have e5 : blockB.size = 5 := rfl
        omega
      obtain ⟨R, hR⟩ : ∃ R, rowB blockB Z = R := ⟨_, rfl⟩
      rw [hR] at hRs ⊢
      have h1 := ((unhide HBr).block _ (lt_of_block (unhide HX0))).trans (unhide HX0)
      have b4 := cell_of h1 4 _ rfl
      have bl := lt_of_block h1
      have HRR := hide hR
      clear h1 hR HR
      go_wp2
      go_loopw [3, 33] (fun sv i wr2 => ∃ j : Nat, j ≤ m ∧ i = .int .i64 j ∧ sv = .string ((R ++ ⟨#[10]⟩) ++ txsText (T.take j)) ∧ Hid (Below X.heap.size X wr2)) (fun _ i _ => m - (intOf i).toNat)
      case atStart => exact ⟨0, Nat.zero_le _, rfl, by congr 1; apply ba_ext; simp [txsText, ByteArray.data_append], HBr⟩
      case round =>
        obtain ⟨j, hj2, rfl, rfl, HBs⟩ := hrel
        clear b4 bl
        by_cases hlt : j < m
        · have hlk : j < T.length := by rw [unhide HZ]; exact hlt
          obtain ⟨tb, tof, rfl, _, hct⟩ := ((unhide HT) _ (unhide HBs)).2 (by omega)
          have hin := hct j hlk
          have hck := (unhide HC) T[j] (List.getElem_mem hlk)
          have hS := txsText_snoc T[j] (T.take j)
          rw [← List.take_succ_eq_append_getElem hlk] at hS
          have hsz := txsText_size (T.take j) (fun t ht => (unhide HC) t (List.mem_of_mem_take ht))
          rw [List.length_take] at hsz
          have hsj : (txText T[j]).size ≤ 6000 := by
            have := txsText_size [T[j]] (fun t ht => by rw [List.mem_singleton.1 ht]; exact hck)
            have e : txsText [T[j]] = txText T[j] ++ txsText [] := rfl
            rw [e, ByteArray.size_append] at this
            simp at this
            omega
          obtain ⟨t1, I, O, ht⟩ : ∃ t1 I O, T[j] = (t1, I, O) := ⟨_, _, _, rfl⟩
          rw [ht] at hin hck hS hsj
          obtain ⟨g0, ⟨ai, ni, ci, g1, hI, _⟩, ao, no, co, g2, hO, _⟩ := hin
          simp only at g0 g1 g2 hI hO
          obtain ⟨A1, hA1⟩ : ∃ A1, (R ++ ⟨#[10]⟩) ++ txsText (T.take j) = A1 := ⟨_, rfl⟩
          have hAs : A1.size ≤ 30000 := by
            rw [← hA1, ByteArray.size_append, size_one]
            have : min j T.length ≤ 4 := by omega
            omega
          have HAE : Hid (A1 ++ txText (t1, I, O) = (R ++ ⟨#[10]⟩) ++ txsText (T.take (j + 1))) := by
            show _ = _
            rw [← hA1, hS]
            apply ba_ext
            simp [ByteArray.data_append]
          rw [hA1]
          obtain ⟨Y, hY⟩ : ∃ Y, Y = wr.alloc (.cells #[.int .i64 t1, .slice ai ni ci, .slice ao no co] 78) := ⟨_, rfl⟩
          have hbY : Below wr.heap.size wr Y := by rw [hY]; exact bel_new _ _
          have CC := hide (txText_is t1 ai ao ni ci no co I O Y ((unhide HE) Y (bel_on (unhide HBs) hbY)) (hI.later hbY) (hO.later hbY) hck)
          obtain ⟨B1, hB1⟩ : ∃ B1, txText (t1, I, O) = B1 := ⟨_, rfl⟩
          rw [hB1] at CC hsj HAE
          have HBY := hide (bel_on (unhide HBs) hbY)
          have hjI : (j : Int) < (m : Int) := by omega
          have gl := World.block_lt_of_cell? _ _ g0
          clear hct hS hsz ht hI hO hA1 hB1 hck hbY
          go_wp2_with fail
          rw [← hY]
          clear hY
          refine (unhide CC).mono ?_
          rintro e w3 ⟨rfl, hb3⟩
          have HB3 := hide (bel_on (unhide HBY) hb3)
          clear hb3 CC
          go_wp2
          go_roundw
          case rel =>
            refine ⟨_, _, _, _, _, _, _, _, _, _, _, ?_, rfl⟩
            exact ⟨j + 1, by omega, by go_num, by rw [unhide HAE], HB3⟩
          case measure => simp [intOf]; omega
        · have HEND : Hid ((R ++ ⟨#[10]⟩) ++ txsText (T.take j) = blkText (p, h, k, n, T)) := by
            show _ = _
            rw [List.take_of_length_le (by rw [unhide HZ]; omega), ← unhide HRR, ← unhide HZE]
            rfl
          have HBF := hide (bel_on (unhide HB) (unhide HBs))
          go_wp2
          go_ret
          exact ⟨ret_str (unhide HEND), unhide HBF⟩

end Go.Proofs.YthhlofipapfbnaaGreatDoor

/- The contract of the reference's SameTx, whatever the two transactions. -/
namespace Go.Proofs.YthhlofipapfbnaaGreatDoor
open Go.RowKit

set_option maxRecDepth 10000 in
set_option maxHeartbeats 3200000 in
theorem rsameTx_is (h h' : Int) (ai ao bi bo : Option Addr) (ni ci no co mi di mo eo : Nat) (I I' : List InD) (O O' : List OutD) (o : Bool) (w : World) (li : ni ≤ maxLen) (lo : no ≤ maxLen)
    (hI : InsAt w ai ni I) (hO : OutsAt w ao no O) (hI' : InsAt w bi mi I') (hO' : OutsAt w bo mo O') (ho : sameT (h, I, O) (h', I', O') = o) :
    Calls Tryz.prog 47 #[.agg #[.int .i64 h, .slice ai ni ci, .slice ao no co], .agg #[.int .i64 h', .slice bi mi di, .slice bo mo eo]] w fun e w' => e = .returned (.bool o) ∧ Below w.heap.size w w' := by
  have hb1 := bel_new w (.cells #[.int .i64 h, .slice ai ni ci, .slice ao no co] 78)
  have hb2 := bel_new (w.alloc (.cells #[.int .i64 h, .slice ai ni ci, .slice ao no co] 78)) (.cells #[.int .i64 h', .slice bi mi di, .slice bo mo eo] 78)
  have hb := bel_on hb1 hb2
  have HB := hide hb
  by_cases h1 : h = h'
  · subst h1
    have ho2 : (decide (I = I') && decide (O = O')) = o := by rw [← ho]; unfold sameT; simp
    by_cases h2 : ni = mi
    · subst h2
      by_cases h0 : ni = 0
      · subst h0
        have e1 : I = [] := List.length_eq_zero_iff.1 hI.1
        have e2 : I' = [] := List.length_eq_zero_iff.1 hI'.1
        have hoo : decide (O = O') = o := by rw [← ho2, e1, e2]; simp
        have EO := hide (reqOuts_is ao bo no mo co eo O O' o _ lo (hO.later hb) (hO'.later hb) hoo)
        clear ho ho2 hI hI' hO hO' hb hb1 hb2 e1 e2 hoo
        go_enter Tryz.func47, Tryz.ntmps47
        go_wp2
        refine wp_loop_rounds 1 ?_
        rw [rounds_succ]
        go_wp2_with fail
        refine (unhide EO).mono ?_
        rintro e w9 ⟨rfl, hb9⟩
        have HB9 := hide (bel_on (unhide HB) hb9)
        clear hb9
        go_wp2
        go_ret
        exact ⟨rfl, unhide HB9⟩
      · obtain ⟨b1, o1, rfl, l1, c1⟩ := hI.2 (by omega)
        obtain ⟨b2, o2, rfl, l2, c2⟩ := hI'.2 (by omega)
        exact rsame_loop h b1 o1 b2 o2 ni ci di ao bo no co mo eo I I' O O' o w li lo hI.1 hI'.1 l1 l2 c1 c2 hO hO' ho2
    · have e : o = false := by
        rw [← ho2, decide_eq_false (fun e => h2 (by rw [← hI.1, ← hI'.1, e]))]; rfl
      subst e
      have g : ((ni : Int) != (mi : Int)) = true := by simp; omega
      clear ho ho2 hI hI' hO hO' hb hb1 hb2 h2
      go_enter Tryz.func47, Tryz.ntmps47
      go_wp2
      go_ret
      exact ⟨rfl, unhide HB⟩
  · have e : o = false := by rw [← ho]; unfold sameT; simp [h1]
    subst e
    have g : (h != h') = true := by simp [h1]
    clear ho hI hI' hO hO' hb hb1 hb2
    go_enter Tryz.func47, Tryz.ntmps47
    go_wp2
    go_ret
    exact ⟨rfl, unhide HB⟩

end Go.Proofs.YthhlofipapfbnaaGreatDoor

/- Contracts of the reference's SameBlock and SameTree, and of rows held against each other by them. -/
namespace Go.Proofs.YthhlofipapfbnaaGreatDoor
open Go.RowKit

instance decTx : DecidableEq TxD := fun a b => decidable_of_iff (sameT a b = true) (sameT_iff a b)
theorem sameT_dec (t u : TxD) : sameT t u = decide (t = u) := by
  by_cases h : t = u
  · rw [decide_eq_true h]; exact (sameT_iff t u).2 h
  · rw [decide_eq_false h]
    cases q : sameT t u with
    | false => rfl
    | true => exact absurd ((sameT_iff t u).1 q) h

set_option maxRecDepth 10000 in
set_option maxHeartbeats 6400000 in
theorem reqTxs_some (b1 o1 b2 o2 n c d : Nat) (l k : List TxD) (o : Bool) (w : World) (hn : n ≤ maxLen) (z1 : l.length = n) (z2 : k.length = n)
    (h1 : ∀ i (h : i < l.length), TxAt w b1 (o1 + i * 3) l[i]) (h2 : ∀ i (h : i < k.length), TxAt w b2 (o2 + i * 3) k[i]) (ho : decide (l = k) = o) :
    Calls Tryz.prog 45 #[.slice (some ⟨b1, o1, none⟩) n c, .slice (some ⟨b2, o2, none⟩) n d, .func (.func 47) #[] #[]] w fun e w' => e = .returned (.bool o) ∧ Below w.heap.size w w' := by
  subst ho
  unfold maxLen at hn
  have H1 := hide h1
  have H2 := hide h2
  have Z1 := hide z1
  have Z2 := hide z2
  clear h1 h2 z1 z2
  go_enter Tryz.func45, Tryz.ntmps45
  go_wp2
  go_loopw [17] (fun i wr => ∃ j : Nat, j ≤ n ∧ i = .int .i64 j ∧ Below w.heap.size w wr ∧ Hid (l.take j = k.take j)) (fun i _ => n - (intOf i).toNat)
  case atStart => exact ⟨0, Nat.zero_le _, rfl, Below.refl _ _, rfl⟩
  case round =>
    obtain ⟨j, hk, rfl, hb, A⟩ := hrel
    have HB := hide hb
    by_cases hlt : j < n
    · have hl1 : j < l.length := by rw [unhide Z1]; exact hlt
      have hl2 : j < k.length := by rw [unhide Z2]; exact hlt
      have g := TxAt.kept _ _ _ _ _ hb ((unhide H1) j hl1)
      have f := TxAt.kept _ _ _ _ _ hb ((unhide H2) j hl2)
      have TS := hide (take_same hl1 hl2 (unhide A))
      have TU := hide (take_unlike hl1 hl2)
      obtain ⟨q, hq⟩ : ∃ q, l[j] = q := ⟨_, rfl⟩
      obtain ⟨r, hr⟩ : ∃ r, k[j] = r := ⟨_, rfl⟩
      rw [hq] at g
      rw [hr] at f
      rw [hq, hr] at TS TU
      obtain ⟨q1, qI, qO⟩ := q
      obtain ⟨r1, rI, rO⟩ := r
      obtain ⟨g1, ⟨qa, qn, qc, g2, gh4, gh5⟩, qb, qm, qd, g3, gh6, gh7⟩ := g
      obtain ⟨f1, ⟨ra, rn, rc, f2, fh4, fh5⟩, rb, rm, rd, f3, fh6, fh7⟩ := f
      simp only at g1 g2 g3 gh4 gh6 gh5 gh7 f1 f2 f3 fh4 fh6 fh5 fh7
      have lt2 : b2 < wr.heap.size := World.block_lt_of_cell? _ _ f1
      have hb2 := bel_on (bel_new wr (.cells #[.int .i64 q1, .slice qa qn qc, .slice qb qm qd] 78)) (bel_new _ (.cells #[.int .i64 r1, .slice ra rn rc, .slice rb rm rd] 78))
      have HB2 := hide hb2
      have C : Hid (∀ o, decide (((q1, qI, qO) : TxD) = (r1, rI, rO)) = o → Calls Tryz.prog 47 #[.agg #[.int .i64 q1, .slice qa qn qc, .slice qb qm qd], .agg #[.int .i64 r1, .slice ra rn rc, .slice rb rm rd]] ((wr.alloc (.cells #[.int .i64 q1, .slice qa qn qc, .slice qb qm qd] 78)).alloc (.cells #[.int .i64 r1, .slice ra rn rc, .slice rb rm rd] 78)) fun e w' => e = .returned (.bool o) ∧ Below _ _ w') :=
        fun o ho => rsameTx_is q1 r1 qa qb ra rb qn qc qm qd rn rc rm rd qI rI qO rO o _ gh5.len gh7.len (gh4.later hb2) (gh6.later hb2) (fh4.later hb2) (fh6.later hb2) ((sameT_dec _ _).trans ho)
      clear hq hr A hb hb2 gh4 gh6 gh5 gh7 fh4 fh6 fh5 fh7
      by_cases he : ((q1, qI, qO) : TxD) = (r1, rI, rO)
      · have T := hide ((unhide TS) he)
        have C2 := hide ((unhide C) true (decide_eq_true he))
        clear TS TU C he
        go_wp2_with fail
        refine (unhide C2).mono ?_
        rintro e w3 ⟨rfl, hb3⟩
        have HB3 := hide (bel_on (bel_on (unhide HB) (unhide HB2)) hb3)
        clear hb3
        go_wp2
        go_roundw
        case rel => exact ⟨j + 1, by omega, by go_num, unhide HB3, T⟩
        case measure => simp [intOf]; omega
      · have U : Hid (decide (l = k) = false) := decide_eq_false ((unhide TU) he)
        have C2 := hide ((unhide C) false (decide_eq_false he))
        clear TS TU C he
        go_wp2_with fail
        refine (unhide C2).mono ?_
        rintro e w3 ⟨rfl, hb3⟩
        have HB3 := hide (bel_on (bel_on (unhide HB) (unhide HB2)) hb3)
        clear hb3
        go_wp2
        go_ret
        exact ⟨by rw [unhide U]; rfl, unhide HB3⟩
    · have U : Hid (decide (l = k) = true) := by
        have h := unhide A
        rw [List.take_of_length_le (by rw [unhide Z1]; omega), List.take_of_length_le (by rw [unhide Z2]; omega)] at h
        exact decide_eq_true h
      clear A hb
      go_wp2
      go_ret
      exact ⟨by rw [unhide U]; rfl, unhide HB⟩

set_option maxHeartbeats 400000 in
theorem reqTxs_lens (a b : Option Addr) (n m c d : Nat) (v : Value) (w : World) (h : n ≠ m) :
    Calls Tryz.prog 45 #[.slice a n c, .slice b m d, v] w fun e w' => e = .returned (.bool false) ∧ w = w' := by
  have g : ((n : Int) != (m : Int)) = true := by simp; omega
  clear h
  go_enter Tryz.func45, Tryz.ntmps45
  go_wp2
  go_ret
  exact ⟨rfl, rfl⟩
set_option maxHeartbeats 400000 in
theorem reqTxs_none (a b : Option Addr) (c d : Nat) (v : Value) (w : World) :
    Calls Tryz.prog 45 #[.slice a 0 c, .slice b 0 d, v] w fun e w' => e = .returned (.bool true) ∧ w = w' := by
  go_enter Tryz.func45, Tryz.ntmps45
  go_wp2
  refine wp_loop_rounds 1 ?_
  rw [rounds_succ]
  go_wp2
  go_ret
  exact ⟨rfl, rfl⟩
theorem reqTxs_is (a b : Option Addr) (n m c d : Nat) (l k : List TxD) (o : Bool) (w : World) (hn : n ≤ maxLen) (hA : RowsAt TxAt 3 w a n l) (hB : RowsAt TxAt 3 w b m k) (ho : decide (l = k) = o) :
    Calls Tryz.prog 45 #[.slice a n c, .slice b m d, .func (.func 47) #[] #[]] w fun e w' => e = .returned (.bool o) ∧ Below w.heap.size w w' := by
  by_cases h : n = m
  · subst h
    by_cases h0 : n = 0
    · subst h0
      have e1 : l = [] := List.length_eq_zero_iff.1 hA.1
      have e2 : k = [] := List.length_eq_zero_iff.1 hB.1
      subst e1 e2
      rw [decide_eq_true rfl] at ho
      subst ho
      exact (reqTxs_none a b c d _ w).mono fun e w' ⟨h1, h2⟩ => ⟨h1, h2 ▸ Below.refl _ _⟩
    · obtain ⟨b1, o1, rfl, _, h1⟩ := hA.2 (by omega)
      obtain ⟨b2, o2, rfl, _, h2⟩ := hB.2 (by omega)
      exact reqTxs_some b1 o1 b2 o2 n c d l k o w hn hA.1 hB.1 h1 h2 ho
  · have e : l ≠ k := fun e => h (by rw [← hA.1, ← hB.1, e])
    rw [decide_eq_false e] at ho
    subst ho
    exact (reqTxs_lens a b n m c d _ w h).mono fun e w' ⟨h1, h2⟩ => ⟨h1, h2 ▸ Below.refl _ _⟩

set_option maxRecDepth 10000 in
set_option maxHeartbeats 6400000 in
theorem rsameBlk_is (p h k n p' h' k' n' : Int) (a b : Option Addr) (m c m' c' : Nat) (T U : List TxD) (o : Bool) (w : World) (hm : m ≤ maxLen) (hT : TxsAt w a m T) (hU : TxsAt w b m' U) (ho : decide (((p, h, k, n, T) : BlkD) = (p', h', k', n', U)) = o) :
    Calls Tryz.prog 13 #[.agg #[.int .i64 p, .int .i64 h, .int .i64 k, .int .i64 n, .slice a m c], .agg #[.int .i64 p', .int .i64 h', .int .i64 k', .int .i64 n', .slice b m' c']] w fun e w' => e = .returned (.bool o) ∧ Below w.heap.size w w' := by
  have hb1 := bel_new w (.cells #[.int .i64 p, .int .i64 h, .int .i64 k, .int .i64 n, .slice a m c] 24)
  have hb2 := bel_new (w.alloc (.cells #[.int .i64 p, .int .i64 h, .int .i64 k, .int .i64 n, .slice a m c] 24)) (.cells #[.int .i64 p', .int .i64 h', .int .i64 k', .int .i64 n', .slice b m' c'] 24)
  have hb := bel_on hb1 hb2
  have HB := hide hb
  by_cases e0 : p = p'
  rotate_left
  · have e : o = false := by rw [← ho]; exact decide_eq_false (fun e => e0 (congrArg (fun z : BlkD => z.1) e))
    subst e
    have g0 : (p == p') = false := by simp [e0]
    clear hT hU ho hb hb1 hb2 e0
    go_enter Tryz.func13, Tryz.ntmps13
    go_wp2
    go_ret
    exact ⟨rfl, unhide HB⟩
  subst e0
  by_cases e1 : h = h'
  rotate_left
  · have e : o = false := by rw [← ho]; exact decide_eq_false (fun e => e1 (congrArg (fun z : BlkD => z.2.1) e))
    subst e
    have g1 : (h == h') = false := by simp [e1]
    clear hT hU ho hb hb1 hb2 e1
    go_enter Tryz.func13, Tryz.ntmps13
    go_wp2
    go_ret
    exact ⟨rfl, unhide HB⟩
  subst e1
  by_cases e2 : k = k'
  rotate_left
  · have e : o = false := by rw [← ho]; exact decide_eq_false (fun e => e2 (congrArg (fun z : BlkD => z.2.2.1) e))
    subst e
    have g2 : (k == k') = false := by simp [e2]
    clear hT hU ho hb hb1 hb2 e2
    go_enter Tryz.func13, Tryz.ntmps13
    go_wp2
    go_ret
    exact ⟨rfl, unhide HB⟩
  subst e2
  by_cases e3 : n = n'
  rotate_left
  · have e : o = false := by rw [← ho]; exact decide_eq_false (fun e => e3 (congrArg (fun z : BlkD => z.2.2.2.1) e))
    subst e
    have g3 : (n == n') = false := by simp [e3]
    clear hT hU ho hb hb1 hb2 e3
    go_enter Tryz.func13, Tryz.ntmps13
    go_wp2
    go_ret
    exact ⟨rfl, unhide HB⟩
  subst e3
  have C := hide (reqTxs_is a b m m' c c' T U o _ hm (hT.later hb) (hU.later hb) (by rw [← ho]; simp))
  clear hT hU ho hb hb1 hb2
  go_enter Tryz.func13, Tryz.ntmps13
  go_wp2_with fail
  refine (unhide C).mono ?_
  rintro e w2 ⟨rfl, hb2⟩
  have HB2 := hide (bel_on (unhide HB) hb2)
  clear hb2
  go_wp2
  go_ret
  exact ⟨rfl, unhide HB2⟩
theorem rsameBlk_zero (p h k n : Int) (a : Option Addr) (m c : Nat) (T : List TxD) (o : Bool) (w : World) (hm : m ≤ maxLen) (hT : TxsAt w a m T) (ho : decide (((p, h, k, n, T) : BlkD) = zeroBk) = o) :
    Calls Tryz.prog 13 #[.agg #[.int .i64 p, .int .i64 h, .int .i64 k, .int .i64 n, .slice a m c], .agg #[.int .i64 0, .int .i64 0, .int .i64 0, .int .i64 0, .slice none 0 0]] w fun e w' => e = .returned (.bool o) ∧ Below w.heap.size w w' :=
  rsameBlk_is p h k n 0 0 0 0 a none m c 0 0 T [] o w hm hT (RowsAt.nil _ _) ho

end Go.Proofs.YthhlofipapfbnaaGreatDoor

/- Calls and appends as steps of a region that draws, guarded or not. Nothing of the program. -/
namespace Go.Proofs.YthhlofipapfbnaaGreatDoor
open Go.RowKit

theorem step_call_w {P : Program} {ops : Array Oper} {o : Oper} {a : Act} {w : World} {K : Act → World → Prop} {Q : Exit → Act → World → Prop} {E : Prop}
    (hw : Region.wanted o (yielded ops a.tmps) = true) (f : FuncId) (vs : Array Value) (he : (execOp a.eval o).run P w = .ok (.enter f vs) w) {R : Ending → World → Prop} (hc : Calls P f vs w R) (h : ∀ e w', R e w' → ∃ v, e = .returned v ∧ K (a.put o.dst v) w') :
    if Region.wanted o (yielded ops a.tmps) = true then Oper.wp P o a w K Q else E := by
  rw [if_pos hw]
  unfold Oper.wp
  rw [he, Oper.upon_enter]
  refine hc.mono ?_
  intro e w' hr
  obtain ⟨v, rfl, hk⟩ := h e w' hr
  exact hk
end Go.Proofs.YthhlofipapfbnaaGreatDoor
