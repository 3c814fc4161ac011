/- The contract of the reference's TxText, at a right transaction. -/
import Derived.Test.YtepmnpapdknocaaGreatDoorRefText
import Derived.Test.YtepmnpapdknocaaGreatDoorRefSameT
import Derived.Test.YtepmnpapdknocaaGreatDoorTxPrintB
namespace Go.Proofs.YtepmnpapdknocaaGreatDoor
open Go.RowKit

theorem itoa_is (z : Int) (hz : -10000000000 ≤ z ∧ z ≤ 10000000000) (w : World) (hw : Env w) : Calls Tryz.prog 80 #[.int .i64 z] w fun e w' => e = .returned (.string (textB z)) ∧ Below w.heap.size w w' :=
  (Tryz.strconv_Itoa z (by omega) (by omega) w hw.tab).mono fun e w' ⟨h1, k, os, h2⟩ => ⟨h1, by rw [h2]; exact Lib.below_grow _ _ (Nat.le_refl _) k os⟩

theorem head_ref (h : Int) : headText h = ((⟨#[116, 120, 32]⟩ : ByteArray) ++ textB h) ++ ⟨#[10]⟩ := by
  apply ba_ext
  simp [headText, rowB, txB]
theorem in_ref (x1 x2 : Int) (key : List (Int × Int)) : inText (x1, x2, key) = (((((((⟨#[105, 110, 32]⟩ : ByteArray) ++ textB x1) ++ ⟨#[32]⟩) ++ textB x2) ++ ⟨#[58]⟩) ++ opsText key) ++ ⟨#[10]⟩) := by
  apply ba_ext
  simp [inText, lineB, rowB, inB]
theorem out_ref (x1 : Int) (key : List (Int × Int)) : outText (x1, key) = (((((⟨#[111, 117, 116, 32]⟩ : ByteArray) ++ textB x1) ++ ⟨#[58]⟩) ++ opsText key) ++ ⟨#[10]⟩) := by
  apply ba_ext
  simp [outText, lineB, rowB, outB]

set_option maxRecDepth 10000 in
set_option maxHeartbeats 6400000 in
theorem txText_is (h : Int) (ai ao : Option Addr) (ni ci no co : Nat) (I : List InD) (O : List OutD) (w : World) (hE : EnvF w) (hI : InsAt w ai ni I) (hO : OutsAt w ao no O) (hx : chkTx (h, I, O) = 0) :
    Calls Tryz.prog 36 #[.agg #[.int .i64 h, .slice ai ni ci, .slice ao no co]] w fun e w' => e = .returned (.string (txText (h, I, O))) ∧ Below w.heap.size w w' := by
  have ok := TxOk.of hx
  have hb := bel_new w (.cells #[.int .i64 h, .slice ai ni ci, .slice ao no co] 74)
  obtain ⟨n0, n1, n2⟩ := three_new w (.int .i64 h) (.slice ai ni ci) (.slice ao no co) 74
  have hi6 : ni ≤ 6 := by have := ok.ins6; have := hI.1; simp only at *; omega
  have ho6 : no ≤ 6 := by have := ok.outs6; have := hO.1; simp only at *; omega
  have HG := hide ok.hgt
  have HII := hide ok.ins
  have HOO := hide ok.outs
  have hh : -10000000000 ≤ h ∧ h ≤ 10000000000 := by have := ok.hgt; simp only at this; omega
  have IT := hide (itoa_is h hh _ (hE.later hb).envp.env)
  have HE := hide hE
  have HI := hide hI
  have HO := hide hO
  have HB := hide hb
  have N1 := hide n1
  have N2 := hide n2
  have HS0 := hide (head_ref h)
  have s0 := textB_size h hh
  obtain ⟨A0, hA0⟩ : ∃ A0, textB h = A0 := ⟨_, rfl⟩
  rw [hA0] at IT HS0 s0
  have s1 : ((⟨#[116, 120, 32]⟩ : ByteArray) ++ A0).size ≤ 24 := by rw [ByteArray.size_append]; have : (⟨#[116, 120, 32]⟩ : ByteArray).size = 3 := rfl; omega
  clear hb n1 n2 hE hI hO hx ok hA0 hh
  go_enter Tryz.func36, Tryz.ntmps36
  go_wp2_with fail
  refine (unhide IT).mono ?_
  rintro e w3 ⟨rfl, hb3⟩
  have m1 := cell_later hb3 (unhide N1)
  have M2 := hide (cell_later hb3 (unhide N2))
  have l3 : w.heap.size < w3.heap.size := World.block_lt_of_cell? _ _ m1
  have HBW3 := hide (bel_on (unhide HB) hb3)
  clear hb3
  go_wp2
  go_loopw [3, 16] (fun s i wr => ∃ k : Nat, k ≤ ni ∧ i = .int .i64 k ∧ s = .string (insText h (I.take k)) ∧ Below w3.heap.size w3 wr) (fun _ i _ => ni - (intOf i).toNat)
  case atStart => exact ⟨0, Nat.zero_le _, rfl, by rw [← unhide HS0]; rfl, Below.refl _ _⟩
  case round =>
    obtain ⟨k, hk, rfl, rfl, hbr⟩ := hrel
    have HBR := hide hbr
    have hbw := bel_on (unhide HBW3) hbr
    have HBW := hide hbw
    by_cases hlt : k < ni
    · have hlk : k < I.length := by rw [(unhide HI).1]; exact hlt
      obtain ⟨b, off, rfl, hbl, hcell⟩ := ((unhide HI).later hbw).2 (by omega)
      obtain ⟨g1, g2, ka, kn, kc, g3, g4, _⟩ := hcell k hlk
      have hok := (unhide HII) I[k] (List.getElem_mem hlk)
      have hS := insText_snoc h (I.take k) I[k]
      rw [← List.take_succ_eq_append_getElem hlk] at hS
      have hTs : (insText h (I.take k)).size ≤ 3000 := by
        have := insText_size h (I.take k) (unhide HG) (fun x hx => (unhide HII) x (List.mem_of_mem_take hx))
        rw [List.length_take] at this
        omega
      obtain ⟨x, hx⟩ : ∃ x, I[k] = x := ⟨_, rfl⟩
      rw [hx] at g1 g2 g4 hok hS
      obtain ⟨x1, x2, key⟩ := x
      simp only at g1 g2 g3 g4
      have hp := (ptOk_iff _).1 hok.1
      simp only at hp
      obtain ⟨T, hT⟩ : ∃ T, insText h (I.take k) = T := ⟨_, rfl⟩
      rw [hT, in_ref] at hS
      rw [hT] at hTs ⊢
      obtain ⟨X, hX⟩ : ∃ X, X = wr.alloc (.cells #[.int .i64 x1, .int .i64 x2, .slice ka kn kc] 140) := ⟨_, rfl⟩
      have b1 : Below wr.heap.size wr X := by rw [hX]; exact bel_new _ _
      have cx := three_new wr (.int .i64 x1) (.int .i64 x2) (.slice ka kn kc) 140
      rw [← hX] at cx
      obtain ⟨x0c, x1c, x2c⟩ := cx
      have EX := ((unhide HE).later hbw).later b1
      have I1 : Hid (∀ w', Below X.heap.size X w' → Calls Tryz.prog 80 #[.int .i64 x1] w' fun e w2 => e = .returned (.string (textB x1)) ∧ Below w'.heap.size w' w2) := fun w' hw' => itoa_is x1 (by omega) w' (EX.later hw').envp.env
      have I2 : Hid (∀ w', Below X.heap.size X w' → Calls Tryz.prog 80 #[.int .i64 x2] w' fun e w2 => e = .returned (.string (textB x2)) ∧ Below w'.heap.size w' w2) := fun w' hw' => itoa_is x2 (by omega) w' (EX.later hw').envp.env
      have OT : Hid (∀ w', Below X.heap.size X w' → Calls Tryz.prog 81 #[.slice ka kn kc] w' fun e w2 => e = .returned (.string (opsText key)) ∧ Below w'.heap.size w' w2) := fun w' hw' => opstext_any ka kn kc key w' (EX.later hw') ((g4.later b1).later hw') hok.2
      have z1 := textB_size x1 (by omega)
      have z2 := textB_size x2 (by omega)
      have z3 := opsText_size' key hok.2
      obtain ⟨A, hA⟩ : ∃ A, textB x1 = A := ⟨_, rfl⟩
      obtain ⟨B, hB⟩ : ∃ B, textB x2 = B := ⟨_, rfl⟩
      obtain ⟨C, hC⟩ : ∃ C, opsText key = C := ⟨_, rfl⟩
      rw [hA] at I1 z1 hS
      rw [hB] at I2 z2 hS
      rw [hC] at OT z3 hS
      have y1 : ¬ 9223372036854775807 < 3 + A.size := by omega
      have y2 : ¬ 9223372036854775807 < 3 + A.size + 1 := by omega
      have y3 : ¬ 9223372036854775807 < 3 + A.size + 1 + B.size := by omega
      have y4 : ¬ 9223372036854775807 < 3 + A.size + 1 + B.size + 1 := by omega
      have y5 : ¬ 9223372036854775807 < 3 + A.size + 1 + B.size + 1 + C.size := by omega
      have y6 : ¬ 9223372036854775807 < 3 + A.size + 1 + B.size + 1 + C.size + 1 := by omega
      have y7 : ¬ 9223372036854775807 < T.size + (3 + A.size + 1 + B.size + 1 + C.size + 1) := by omega
      have HS := hide hS
      have HB1' := hide b1
      clear hbr hbw hcell g4 hok hx hT hS b1 hp hA hB hC EX
      go_wp2_with fail
      rw [← hX]
      clear hX
      go_region_held3 (fun w' => Below X.heap.size X w' ∧ w'.cell? ⟨wr.heap.size, 0, none⟩ = some (.int .i64 x1) ∧ w'.cell? ⟨wr.heap.size, 1, none⟩ = some (.int .i64 x2) ∧ w'.cell? ⟨wr.heap.size, 2, none⟩ = some (.slice ka kn kc))
        (first
        | exact ⟨bel_draws _, x0c, x1c, x2c⟩
        | (go_split_ands
           refine ⟨bel_on (by assumption) hbc, cell_later hbc (by assumption), cell_later hbc (by assumption), cell_later hbc (by assumption)⟩))
        (first
        | (go_at_call 80; go_split_ands; refine ((unhide I1) _ (by assumption)).mono ?_; rintro e w' ⟨rfl, hbc⟩)
        | (go_at_call 80; go_split_ands; refine ((unhide I2) _ (by assumption)).mono ?_; rintro e w' ⟨rfl, hbc⟩)
        | (go_at_call 81; go_split_ands; refine ((unhide OT) _ (by assumption)).mono ?_; rintro e w' ⟨rfl, hbc⟩))
      rename_i hH
      have HH := hide ((unhide HBR).trans ((bel_on (unhide HB1') hH.1).mono (unhide HBR).size))
      clear hH
      go_wp2
      go_roundw
      case rel => exact ⟨k + 1, by omega, by go_num, by rw [unhide HS], unhide HH⟩
      case measure => simp [intOf]; omega
    · have e : k = ni := by omega
      subst e
      have HT : Hid (insText h (I.take k) = insText h I) := by show _ = _; rw [List.take_of_length_le (by rw [(unhide HI).1]; exact Nat.le_refl _)]
      have hTs := insText_size h I (unhide HG) (unhide HII)
      have hil : I.length ≤ 6 := by rw [(unhide HI).1]; exact hi6
      obtain ⟨T1, hT1⟩ : ∃ T1, insText h I = T1 := ⟨_, rfl⟩
      rw [hT1] at HT hTs
      have HT1 := hide hT1
      have m2 := cell_later hbr (unhide M2)
      have s4 : w.heap.size < wr.heap.size := World.block_lt_of_cell? _ _ m2
      rw [unhide HT]
      clear hbr hT1 hk hlt
      go_wp2
      go_loopw [3, 43] (fun s i wz => ∃ j : Nat, j ≤ no ∧ i = .int .i64 j ∧ s = .string (outsText T1 (O.take j)) ∧ Below wr.heap.size wr wz) (fun _ i _ => no - (intOf i).toNat)
      case atStart => exact ⟨0, Nat.zero_le _, rfl, rfl, Below.refl _ _⟩
      case round =>
        obtain ⟨j, hj, rfl, rfl, hbz⟩ := hrel
        have HBZ := hide hbz
        have hbv := bel_on (unhide HBW) hbz
        have HBV := hide hbv
        by_cases hlt : j < no
        · have hlk : j < O.length := by rw [(unhide HO).1]; exact hlt
          obtain ⟨b, off, rfl, hbl, hcell⟩ := ((unhide HO).later hbv).2 (by omega)
          obtain ⟨g1, ka, kn, kc, g3, g4, _⟩ := hcell j hlk
          have hok := (unhide HOO) O[j] (List.getElem_mem hlk)
          have hS := outsText_snoc T1 (O.take j) O[j]
          rw [← List.take_succ_eq_append_getElem hlk] at hS
          have hTs2 : (outsText T1 (O.take j)).size ≤ 6000 := by
            have := outsText_size T1 (O.take j) (fun x hx => (unhide HOO) x (List.mem_of_mem_take hx))
            rw [List.length_take] at this
            omega
          obtain ⟨x, hx⟩ : ∃ x, O[j] = x := ⟨_, rfl⟩
          rw [hx] at g1 g4 hok hS
          obtain ⟨x1, key⟩ := x
          simp only at g1 g3 g4
          have hp := hok.1
          simp only at hp
          obtain ⟨T, hT⟩ : ∃ T, outsText T1 (O.take j) = T := ⟨_, rfl⟩
          rw [hT, out_ref] at hS
          rw [hT] at hTs2 ⊢
          obtain ⟨X, hX⟩ : ∃ X, X = wr.alloc (.cells #[.int .i64 x1, .slice ka kn kc] 84) := ⟨_, rfl⟩
          have b1 : Below wr.heap.size wr X := by rw [hX]; exact bel_new _ _
          have cx := two_fresh wr (.int .i64 x1) (.slice ka kn kc) 84
          rw [← hX] at cx
          obtain ⟨x0c, x1c⟩ := cx
          have EX := ((unhide HE).later hbv).later b1
          have I1 : Hid (∀ w', Below X.heap.size X w' → Calls Tryz.prog 80 #[.int .i64 x1] w' fun e w2 => e = .returned (.string (textB x1)) ∧ Below w'.heap.size w' w2) := fun w' hw' => itoa_is x1 (by omega) w' (EX.later hw').envp.env
          have OT : Hid (∀ w', Below X.heap.size X w' → Calls Tryz.prog 81 #[.slice ka kn kc] w' fun e w2 => e = .returned (.string (opsText key)) ∧ Below w'.heap.size w' w2) := fun w' hw' => opstext_any ka kn kc key w' (EX.later hw') ((g4.later b1).later hw') hok.2
          have z1 := textB_size x1 (by omega)
          have z3 := opsText_size' key hok.2
          obtain ⟨A, hA⟩ : ∃ A, textB x1 = A := ⟨_, rfl⟩
          obtain ⟨C, hC⟩ : ∃ C, opsText key = C := ⟨_, rfl⟩
          rw [hA] at I1 z1 hS
          rw [hC] at OT z3 hS
          have y1 : ¬ 9223372036854775807 < 4 + A.size := by omega
          have y2 : ¬ 9223372036854775807 < 4 + A.size + 1 := by omega
          have y3 : ¬ 9223372036854775807 < 4 + A.size + 1 + C.size := by omega
          have y4 : ¬ 9223372036854775807 < 4 + A.size + 1 + C.size + 1 := by omega
          have y5 : ¬ 9223372036854775807 < T.size + (4 + A.size + 1 + C.size + 1) := by omega
          have HS := hide hS
          have HB1' := hide b1
          clear hbz hbv hcell g4 hok hx hT hS b1 hp hA hC EX
          go_wp2_with fail
          rw [← hX]
          clear hX
          go_region_held3 (fun w' => Below X.heap.size X w' ∧ w'.cell? ⟨wr.heap.size, 0, none⟩ = some (.int .i64 x1) ∧ w'.cell? ⟨wr.heap.size, 1, none⟩ = some (.slice ka kn kc))
            (first
            | exact ⟨bel_draws _, x0c, x1c⟩
            | (go_split_ands
               refine ⟨bel_on (by assumption) hbc, cell_later hbc (by assumption), cell_later hbc (by assumption)⟩))
            (first
            | (go_at_call 80; go_split_ands; refine ((unhide I1) _ (by assumption)).mono ?_; rintro e w' ⟨rfl, hbc⟩)
            | (go_at_call 81; go_split_ands; refine ((unhide OT) _ (by assumption)).mono ?_; rintro e w' ⟨rfl, hbc⟩))
          rename_i hH
          have HH := hide ((unhide HBZ).trans ((bel_on (unhide HB1') hH.1).mono (unhide HBZ).size))
          clear hH
          go_wp2
          go_roundw
          case rel => exact ⟨j + 1, by omega, by go_num, by rw [unhide HS], unhide HH⟩
          case measure => simp [intOf]; omega
        · have HF : Hid (outsText T1 (O.take j) = txText (h, I, O)) := by
            show _ = _
            rw [List.take_of_length_le (by rw [(unhide HO).1]; omega), ← unhide HT1]; rfl
          clear hbz hbv
          go_wp2
          go_ret
          exact ⟨by rw [← unhide HF]; rfl, unhide HBV⟩

end Go.Proofs.YtepmnpapdknocaaGreatDoor
