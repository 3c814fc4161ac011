/- The contract of partitionEqual_func. -/
import Derived.Test.YtepmnpapdknocaaGreatDoorSortPtM
namespace Go.Proofs.YtepmnpapdknocaaGreatDoor
open Go.RowKit

set_option maxRecDepth 10000 in
set_option maxHeartbeats 6400000 in
theorem partEq_is {α : Type} [Inhabited α] {g : Nat} {lb : Array Value} {sf : Nat} {sb : Array Value} {lt : α → α → Bool} {n B : Nat} {St : World → Array α → Prop} (H : Sr Tryz.prog g lb sf sb lt n B St)
    (a b pivot : Nat) (d : Array α) (w : World) (h : St w d) (hpa : a ≤ pivot) (hpb : pivot < b) (hb : b ≤ n) :
    Calls Tryz.prog 205 #[lsV g lb sf sb, .int .i64 a, .int .i64 b, .int .i64 pivot] w fun e w' => ∃ (m : Nat) (d' : Array α), e = .returned (.int .i64 m) ∧ EqOk lt d a b pivot m d' ∧ St w' d' ∧ Kp B w w' := by
  unfold lsV
  have hn := H.small
  have eg := H.enters
  have hlow := H.low _ _ h
  have HD := hide (H.size _ _ h)
  have HSW := hide H.order
  obtain ⟨N0, N1⟩ := box_two w (.func (.func g) #[] lb) (.func (.func sf) #[] sb) 230
  have SX := hide (H.alloc w d (.cells #[.func (.func g) #[] lb, .func (.func sf) #[] sb] 230) h)
  have KX := hide (Kp.alloc B w (.cells #[.func (.func g) #[] lb, .func (.func sf) #[] sb] 230))
  have HH := hide H
  clear H h
  obtain ⟨w1, hs, hS1, hK1⟩ := (unhide HH).swap _ d a pivot (unhide SX) (by omega) (by omega)
  have M0 := hide (hK1.cell hlow N0)
  have M1 := hide (hK1.cell hlow N1)
  have HS1 := hide hS1
  have KX1 := hide (Kp.trans (unhide KX) hK1)
  clear hS1 hK1
  obtain ⟨jb, hjb⟩ : ∃ jb : Nat, jb + 1 = b := ⟨b - 1, by omega⟩
  have hjI : (b : Int) - 1 = (jb : Int) := by omega
  have PST := hide (Pt.start (fun x => !lt d[pivot]! x) a b (Sort.swp d a pivot) jb (by omega))
  go_enter Tryz.func205, Tryz.ntmps205
  go_wp2
  clear N0 N1 hs
  go_loopw [9, 10] (fun s9 s10 wr => ∃ (i j : Nat) (dk : Array α), s9 = .int .i64 i ∧ s10 = .int .i64 j ∧ a < i ∧ i ≤ j + 1 ∧ j < b ∧ Hid (Pt (fun x => !lt d[pivot]! x) a b (Sort.swp d a pivot) i j dk) ∧ Hid (St wr dk) ∧ Hid (Kp B w1 wr)) (fun s9 s10 _ => (intOf s10).toNat + 1 - (intOf s9).toNat)
  case atStart => exact ⟨a + 1, jb, _, by go_num, rfl, by omega, by omega, by omega, PST, HS1, Kp.refl _ _⟩
  case round =>
    obtain ⟨i0, j0, dk, rfl, rfl, hai0, hij0, hjb0, HP0, HS0, HK0⟩ := hrel
    go_wp2_with fail
    go_loopw [9] (fun sa wr => ∃ i : Nat, sa = .int .i64 i ∧ a < i ∧ i0 ≤ i ∧ i ≤ j0 + 1 ∧ Hid (Pt (fun x => !lt d[pivot]! x) a b (Sort.swp d a pivot) i j0 dk) ∧ Hid (St wr dk) ∧ Hid (Kp B w1 wr)) (fun sa _ => j0 + 1 - (intOf sa).toNat)
    case atStart => exact ⟨i0, by first | rfl | go_num | (have := unhide HI0; congr 1; omega), hai0, Nat.le_refl _, hij0, HP0, HS0, HK0⟩
    case round =>
      obtain ⟨i, rfl, hai, hi0i, hij, HP, HS, HK⟩ := hrel
      have c0 := (unhide HK).cell hlow (unhide M0)
      have c1 := (unhide HK).cell hlow (unhide M1)
      have hsz := World.block_lt_of_cell? _ _ c0
      have PV := hide (unhide HP).piv
      by_cases hle : i ≤ j0
      · have hl := (unhide HH).less wr dk a i (unhide HS) (by omega) (by omega)
        have hpv : dk[a]! = d[pivot]! := (unhide PV).trans (swp_head d a pivot (by rw [unhide HD]; omega) (by rw [unhide HD]; omega))
        cases hlv : lt dk[a]! dk[i]! with
        | false =>
          rw [hlv] at hl
          have HQ := hide ((unhide HP).up (by rw [hpv] at hlv; simp [hlv]))
          clear hlv hpv
          go_wp2_with (go_at_fn g; refine hl.mono ?_; rintro e w' ⟨rfl, hS2, hK2⟩; have HK2 := hide (Kp.trans (unhide HK) hK2); have HS2 := hide hS2; have d0 := (unhide HK2).cell hlow (unhide M0); have d1 := (unhide HK2).cell hlow (unhide M1); have dz := World.block_lt_of_cell? _ _ d0; clear hS2 hK2)
          go_roundw
          case rel => first | exact ⟨i + 1, by go_num, by omega, by omega, by omega, HQ, HS2, HK2⟩ | ((repeat apply Exists.intro); refine ⟨?_, rfl⟩; exact ⟨i + 1, by go_num, by omega, by omega, by omega, HQ, HS2, HK2⟩)
          case measure => simp [intOf]; omega
        | true =>
          rw [hlv] at hl
          have HQ : Hid ((fun x => !lt d[pivot]! x) dk[i]! = false) := by
            show _ = _
            rw [hpv] at hlv
            simp [hlv]
          clear hlv hpv
          go_wp2_with (go_at_fn g; refine hl.mono ?_; rintro e w' ⟨rfl, hS2, hK2⟩; have HK2 := hide (Kp.trans (unhide HK) hK2); have HS2 := hide hS2; have d0 := (unhide HK2).cell hlow (unhide M0); have d1 := (unhide HK2).cell hlow (unhide M1); have dz := World.block_lt_of_cell? _ _ d0; clear hS2 hK2)
          go_loopw [10] (fun sa wr => ∃ j : Nat, sa = .int .i64 j ∧ i ≤ j + 1 ∧ j ≤ j0 ∧ Hid (Pt (fun x => !lt d[pivot]! x) a b (Sort.swp d a pivot) i j dk) ∧ Hid (St wr dk) ∧ Hid (Kp B w1 wr)) (fun sa _ => (intOf sa).toNat)
          case atStart => exact ⟨j0, by first | rfl | go_num, hij, Nat.le_refl _, HP, HS2, HK2⟩
          case round =>
            clear HP HS HK HS2 HK2 d0 d1 dz hl hij c0 c1 hsz
            obtain ⟨j, rfl, hij, hjj, HP, HS, HK⟩ := hrel
            have c0 := (unhide HK).cell hlow (unhide M0)
            have c1 := (unhide HK).cell hlow (unhide M1)
            have hsz := World.block_lt_of_cell? _ _ c0
            by_cases hle2 : i ≤ j
            · have hl := (unhide HH).less wr dk a j (unhide HS) (by omega) (by omega)
              have hpv : dk[a]! = d[pivot]! := (unhide PV).trans (swp_head d a pivot (by rw [unhide HD]; omega) (by rw [unhide HD]; omega))
              cases hlv : lt dk[a]! dk[j]! with
              | true =>
                rw [hlv] at hl
                have HQ2 := hide ((unhide HP).down (by rw [hpv] at hlv; simp [hlv]))
                clear hlv hpv
                go_wp2_with (go_at_fn g; refine hl.mono ?_; rintro e w' ⟨rfl, hS2, hK2⟩; have HK2 := hide (Kp.trans (unhide HK) hK2); have HS2 := hide hS2; have d0 := (unhide HK2).cell hlow (unhide M0); have d1 := (unhide HK2).cell hlow (unhide M1); have dz := World.block_lt_of_cell? _ _ d0; clear hS2 hK2)
                go_roundw
                case rel => first | exact ⟨j - 1, by congr 1 <;> omega, by omega, by omega, HQ2, HS2, HK2⟩ | ((repeat apply Exists.intro); refine ⟨?_, rfl⟩; exact ⟨j - 1, by congr 1 <;> omega, by omega, by omega, HQ2, HS2, HK2⟩)
                case measure => simp [intOf]; omega
              | false =>
                rw [hlv] at hl
                have HQ2 : Hid ((fun x => !lt d[pivot]! x) dk[j]! = true) := by
                  show _ = _
                  rw [hpv] at hlv
                  simp [hlv]
                have hne : i < j := by
                  rcases Nat.lt_or_eq_of_le hle2 with q | q
                  · exact q
                  · subst q
                    exact Bool.noConfusion ((unhide HQ).symm.trans (unhide HQ2))
                have hgtB : decide ((j : Int) < (i : Int)) = false := decide_eq_false (by omega)
                have hgtN : decide (j < i) = false := decide_eq_false (by omega)
                have HP3 := hide ((unhide HP).swap hai hne (by omega) (by rw [Sort.size_swp, unhide HD]; exact hb) (unhide HQ) (unhide HQ2))
                clear hlv hpv
                go_wp2_with (go_at_fn g; refine hl.mono ?_; rintro e w' ⟨rfl, hS2, hK2⟩; have HK2 := hide (Kp.trans (unhide HK) hK2); have d0 := (unhide HK2).cell hlow (unhide M0); have d1 := (unhide HK2).cell hlow (unhide M1); have dz := World.block_lt_of_cell? _ _ d0; obtain ⟨w3, hs, hS3, hK3⟩ := (unhide HH).swap w' dk i j hS2 (by omega) (by omega); have HS3 := hide hS3; have HK3 := hide (Kp.trans (unhide HK2) hK3); have e0 := (unhide HK3).cell hlow (unhide M0); have e1 := (unhide HK3).cell hlow (unhide M1); have ez := World.block_lt_of_cell? _ _ e0; clear hS2 hK2 hS3 hK3)
                go_wp2
                go_roundw
                case rel => first | exact ⟨i + 1, j - 1, _, by go_num, by congr 1 <;> omega, by omega, by omega, by omega, HP3, HS3, HK3⟩ | ((repeat apply Exists.intro); refine ⟨?_, rfl⟩; exact ⟨i + 1, j - 1, _, by go_num, by congr 1 <;> omega, by omega, by omega, by omega, HP3, HS3, HK3⟩)
                case measure => simp [intOf]; omega
            · have HEQ : Hid (i = j + 1) := by show _ = _; omega
              have hgt : j < i := by omega
              clear HQ hle2
              go_wp2
              go_ret
              have RES := Pt.eqok (unhide HSW) hpa hpb (by rw [unhide HD]; exact hb) (unhide HP) hai (unhide HEQ) (by omega)
              first | exact ⟨i, dk, rfl, RES, unhide HS, Kp.trans (unhide KX1) (unhide HK)⟩ | exact ⟨i, rfl, dk, RES, unhide HS, Kp.trans (unhide KX1) (unhide HK)⟩
      · have HEQ : Hid (i = j0 + 1) := by show _ = _; omega
        have hgt : j0 < i := by omega
        clear hle
        go_wp2_with fail
        refine wp_loop_rounds 1 ?_
        rw [rounds_succ]
        go_wp2
        go_ret
        have RES := Pt.eqok (unhide HSW) hpa hpb (by rw [unhide HD]; exact hb) (unhide HP) hai (unhide HEQ) (by omega)
        first | exact ⟨i, dk, rfl, RES, unhide HS, Kp.trans (unhide KX1) (unhide HK)⟩ | exact ⟨i, rfl, dk, RES, unhide HS, Kp.trans (unhide KX1) (unhide HK)⟩

end Go.Proofs.YtepmnpapdknocaaGreatDoor
