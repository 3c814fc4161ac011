/- The contract of siftDown_func. -/
import Derived.Test.YtepmnpapdknocaaGreatDoorSortBase
namespace Go.Proofs.YtepmnpapdknocaaGreatDoor
open Go.RowKit

theorem sift_end {α : Type} [Inhabited α] (lt : α → α → Bool) (hi first root : Nat) (d : Array α) (h : hi ≤ 2 * root + 1) : Sort.siftDown lt hi first root d = d := by
  rw [Sort.siftDown, dif_pos h]
theorem sift_two {α : Type} [Inhabited α] (lt : α → α → Bool) (hi first root : Nat) (d : Array α) (h : 2 * root + 2 < hi) (hl : lt d[first + (2 * root + 1)]! d[first + (2 * root + 1) + 1]! = true) :
    Sort.siftDown lt hi first root d = if lt d[first + root]! d[first + (2 * root + 2)]! then Sort.siftDown lt hi first (2 * root + 2) (Sort.swp d (first + root) (first + (2 * root + 2))) else d := by
  rw [Sort.siftDown, dif_neg (by omega), if_pos (by simp [hl]; omega), dif_pos h]
  cases lt d[first + root]! d[first + (2 * root + 2)]! <;> rfl
theorem sift_one {α : Type} [Inhabited α] (lt : α → α → Bool) (hi first root : Nat) (d : Array α) (h : 2 * root + 1 < hi) (hl : hi ≤ 2 * root + 2 ∨ lt d[first + (2 * root + 1)]! d[first + (2 * root + 1) + 1]! = false) :
    Sort.siftDown lt hi first root d = if lt d[first + root]! d[first + (2 * root + 1)]! then Sort.siftDown lt hi first (2 * root + 1) (Sort.swp d (first + root) (first + (2 * root + 1))) else d := by
  rw [Sort.siftDown, dif_neg (by omega), if_neg]
  · cases lt d[first + root]! d[first + (2 * root + 1)]! <;> rfl
  · rcases hl with q | q
    · simp; omega
    · simp [q]

set_option maxRecDepth 10000 in
set_option maxHeartbeats 3200000 in
theorem sift_is {α : Type} [Inhabited α] {g : Nat} {lb : Array Value} {sf : Nat} {sb : Array Value} {lt : α → α → Bool} {n B : Nat} {St : World → Array α → Prop} (H : Sr Tryz.prog g lb sf sb lt n B St)
    (lo hi first : Nat) (d : Array α) (w : World) (h : St w d) (hb : first + hi ≤ n) (hlo : lo ≤ n) :
    Calls Tryz.prog 233 #[lsV g lb sf sb, .int .i64 lo, .int .i64 hi, .int .i64 first] w fun e w' => e = .returned (.tuple #[]) ∧ St w' (Sort.siftDown lt hi first lo d) ∧ Kp B w w' := by
  unfold lsV
  have hn := H.small
  have eg := H.enters
  have hlow := H.low _ _ h
  obtain ⟨N0, N1⟩ := box_two w (.func (.func g) #[] lb) (.func (.func sf) #[] sb) 230
  have SX := hide (H.alloc w d (.cells #[.func (.func g) #[] lb, .func (.func sf) #[] sb] 230) h)
  have KX := hide (Kp.alloc B w (.cells #[.func (.func g) #[] lb, .func (.func sf) #[] sb] 230))
  have HH := hide H
  clear H h
  go_enter Tryz.func233, Tryz.ntmps233
  go_wp2
  generalize w.alloc (.cells #[.func (.func g) #[] lb, .func (.func sf) #[] sb] 230) = X at *
  have M0 := hide N0
  have M1 := hide N1
  clear N0 N1
  go_loopw [8] (fun s8 wr => ∃ (root : Nat) (dk : Array α), s8 = .int .i64 root ∧ root ≤ n ∧ Hid (Sort.siftDown lt hi first root dk = Sort.siftDown lt hi first lo d) ∧ Hid (St wr dk) ∧ Hid (Kp B X wr)) (fun s8 _ => n + 1 - (intOf s8).toNat)
  case atStart => exact ⟨lo, d, rfl, hlo, rfl, SX, Kp.refl _ _⟩
  case round =>
    obtain ⟨root, dk, rfl, hrn, HO, HS, HK⟩ := hrel
    have c0 := (unhide HK).cell hlow (unhide M0)
    have hsz := World.block_lt_of_cell? _ _ c0
    obtain ⟨c, hc⟩ : ∃ c : Nat, c = 2 * root + 1 := ⟨_, rfl⟩
    have hcI : 2 * (root : Int) + 1 = (c : Int) := by omega
    have hrc : root < c := by omega
    have HC := hide hc
    clear hc
    by_cases hend : hi ≤ c
    · go_wp2_with fail
      go_end0
      exact ⟨rfl, by rw [← unhide HO, sift_end _ _ _ _ _ (by have := unhide HC; omega)]; exact unhide HS, Kp.trans (unhide KX) (unhide HK)⟩
    · -- the greater child k, in the world wk
      by_cases hmore : c + 1 < hi
      · have hl := (unhide HH).less wr dk (first + c) (first + c + 1) (unhide HS) (by omega) (by omega)
        rw [show (((first + c + 1 : Nat) : Int)) = (first : Int) + c + 1 by omega, show (((first + c : Nat) : Int)) = (first : Int) + c by omega] at hl
        cases hlv : lt dk[first + c]! dk[first + c + 1]! with
        | true =>
          rw [hlv] at hl
          have HL := hide hlv
          clear hlv
          go_wp2_with fail
          refine hl.mono ?_
          rintro e w2 ⟨rfl, hS2, hK2⟩
          have HK2 := hide (Kp.trans (unhide HK) hK2)
          have HS2 := hide hS2
          have c02 := (unhide HK2).cell hlow (unhide M0)
          have hl2 := (unhide HH).less w2 dk (first + root) (first + (c + 1)) hS2 (by omega) (by omega)
          rw [show (((first + (c + 1) : Nat) : Int)) = (first : Int) + (c + 1) by omega, show (((first + root : Nat) : Int)) = (first : Int) + root by omega] at hl2
          have hsz2 := World.block_lt_of_cell? _ _ c02
          clear hS2 hK2 hl c0
          cases hlv : lt dk[first + root]! dk[first + (c + 1)]! with
          | true =>
            rw [hlv] at hl2
            have HL2 := hide hlv
            clear hlv
            go_wp2_with fail
            refine hl2.mono ?_
            rintro e w3 ⟨rfl, hS3, hK3⟩
            have HK3 := hide (Kp.trans (unhide HK2) hK3)
            have c13 := (unhide HK3).cell hlow (unhide M1)
            have hsz3 := World.block_lt_of_cell? _ _ c13
            obtain ⟨w4, hs, hS4, hK4⟩ := (unhide HH).swap w3 dk (first + root) (first + (c + 1)) hS3 (by omega) (by omega)
            rw [show (((first + (c + 1) : Nat) : Int)) = (first : Int) + (c + 1) by omega, show (((first + root : Nat) : Int)) = (first : Int) + root by omega] at hs
            have HS4 := hide hS4
            have HK4 := hide (Kp.trans (unhide HK3) hK4)
            clear hS3 hK3 hS4 hK4 hl2
            go_wp2
            go_roundw
            case rel => exact ⟨c + 1, _, by go_num, by omega, by show _ = _; rw [← unhide HO, sift_two lt hi first root dk (by have := unhide HC; omega) (by rw [← unhide HC]; exact unhide HL), show 2 * root + 2 = c + 1 by have := unhide HC; omega, if_pos (unhide HL2)], HS4, HK4⟩
            case measure => simp [intOf]; omega
          | false =>
            rw [hlv] at hl2
            have HL2 := hide hlv
            clear hlv
            go_wp2_with fail
            refine hl2.mono ?_
            rintro e w3 ⟨rfl, hS3, hK3⟩
            have HK3 := hide (Kp.trans (unhide HK2) hK3)
            have HS3 := hide hS3
            clear hS3 hK3 hl2
            go_wp2
            (try simp only [Exit.inBlock, Exit.then]); refine bodyPost_ret (results_none rfl _ _ _) rfl ?_
            exact ⟨rfl, by rw [← unhide HO, sift_two lt hi first root dk (by have := unhide HC; omega) (by rw [← unhide HC]; exact unhide HL), show 2 * root + 2 = c + 1 by have := unhide HC; omega, if_neg (by rw [unhide HL2]; decide)]; exact unhide HS3, Kp.trans (unhide KX) (unhide HK3)⟩
        | false =>
          rw [hlv] at hl
          have HL := hide hlv
          clear hlv
          go_wp2_with fail
          refine hl.mono ?_
          rintro e w2 ⟨rfl, hS2, hK2⟩
          have HK2 := hide (Kp.trans (unhide HK) hK2)
          have HS2 := hide hS2
          have c02 := (unhide HK2).cell hlow (unhide M0)
          have hl2 := (unhide HH).less w2 dk (first + root) (first + c) hS2 (by omega) (by omega)
          rw [show (((first + c : Nat) : Int)) = (first : Int) + c by omega, show (((first + root : Nat) : Int)) = (first : Int) + root by omega] at hl2
          have hsz2 := World.block_lt_of_cell? _ _ c02
          clear hS2 hK2 hl c0
          cases hlv : lt dk[first + root]! dk[first + c]! with
          | true =>
            rw [hlv] at hl2
            have HL2 := hide hlv
            clear hlv
            go_wp2_with fail
            refine hl2.mono ?_
            rintro e w3 ⟨rfl, hS3, hK3⟩
            have HK3 := hide (Kp.trans (unhide HK2) hK3)
            have c13 := (unhide HK3).cell hlow (unhide M1)
            have hsz3 := World.block_lt_of_cell? _ _ c13
            obtain ⟨w4, hs, hS4, hK4⟩ := (unhide HH).swap w3 dk (first + root) (first + c) hS3 (by omega) (by omega)
            rw [show (((first + c : Nat) : Int)) = (first : Int) + c by omega, show (((first + root : Nat) : Int)) = (first : Int) + root by omega] at hs
            have HS4 := hide hS4
            have HK4 := hide (Kp.trans (unhide HK3) hK4)
            clear hS3 hK3 hS4 hK4 hl2
            go_wp2
            go_roundw
            case rel => exact ⟨c, _, by go_num, by omega, by show _ = _; rw [← unhide HO, sift_one lt hi first root dk (by have := unhide HC; omega) (Or.inr (by rw [← unhide HC]; exact unhide HL)), ← unhide HC, if_pos (unhide HL2)], HS4, HK4⟩
            case measure => simp [intOf]; omega
          | false =>
            rw [hlv] at hl2
            have HL2 := hide hlv
            clear hlv
            go_wp2_with fail
            refine hl2.mono ?_
            rintro e w3 ⟨rfl, hS3, hK3⟩
            have HK3 := hide (Kp.trans (unhide HK2) hK3)
            have HS3 := hide hS3
            clear hS3 hK3 hl2
            go_wp2
            (try simp only [Exit.inBlock, Exit.then]); refine bodyPost_ret (results_none rfl _ _ _) rfl ?_
            exact ⟨rfl, by rw [← unhide HO, sift_one lt hi first root dk (by have := unhide HC; omega) (Or.inr (by rw [← unhide HC]; exact unhide HL)), ← unhide HC, if_neg (by rw [unhide HL2]; decide)]; exact unhide HS3, Kp.trans (unhide KX) (unhide HK3)⟩
      · have hl2 := (unhide HH).less wr dk (first + root) (first + c) (unhide HS) (by omega) (by omega)
        rw [show (((first + c : Nat) : Int)) = (first : Int) + c by omega, show (((first + root : Nat) : Int)) = (first : Int) + root by omega] at hl2
        cases hlv : lt dk[first + root]! dk[first + c]! with
        | true =>
          rw [hlv] at hl2
          have HL2 := hide hlv
          clear hlv
          go_wp2_with fail
          refine hl2.mono ?_
          rintro e w3 ⟨rfl, hS3, hK3⟩
          have HK3 := hide (Kp.trans (unhide HK) hK3)
          have c13 := (unhide HK3).cell hlow (unhide M1)
          have hsz3 := World.block_lt_of_cell? _ _ c13
          obtain ⟨w4, hs, hS4, hK4⟩ := (unhide HH).swap w3 dk (first + root) (first + c) hS3 (by omega) (by omega)
          rw [show (((first + c : Nat) : Int)) = (first : Int) + c by omega, show (((first + root : Nat) : Int)) = (first : Int) + root by omega] at hs
          have HS4 := hide hS4
          have HK4 := hide (Kp.trans (unhide HK3) hK4)
          clear hS3 hK3 hS4 hK4 hl2
          go_wp2
          go_roundw
          case rel => exact ⟨c, _, by go_num, by omega, by show _ = _; rw [← unhide HO, sift_one lt hi first root dk (by have := unhide HC; omega) (Or.inl (by have := unhide HC; omega)), ← unhide HC, if_pos (unhide HL2)], HS4, HK4⟩
          case measure => simp [intOf]; omega
        | false =>
          rw [hlv] at hl2
          have HL2 := hide hlv
          clear hlv
          go_wp2_with fail
          refine hl2.mono ?_
          rintro e w3 ⟨rfl, hS3, hK3⟩
          have HK3 := hide (Kp.trans (unhide HK) hK3)
          have HS3 := hide hS3
          clear hS3 hK3 hl2
          go_wp2
          (try simp only [Exit.inBlock, Exit.then]); refine bodyPost_ret (results_none rfl _ _ _) rfl ?_
          exact ⟨rfl, by rw [← unhide HO, sift_one lt hi first root dk (by have := unhide HC; omega) (Or.inl (by have := unhide HC; omega)), ← unhide HC, if_neg (by rw [unhide HL2]; decide)]; exact unhide HS3, Kp.trans (unhide KX) (unhide HK3)⟩

end Go.Proofs.YtepmnpapdknocaaGreatDoor
