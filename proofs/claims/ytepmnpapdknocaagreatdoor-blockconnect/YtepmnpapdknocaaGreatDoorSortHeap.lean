/- The contract of heapSort_func. -/
import Derived.Test.YtepmnpapdknocaaGreatDoorSortSift
namespace Go.Proofs.YtepmnpapdknocaaGreatDoor
open Go.RowKit

set_option maxRecDepth 10000 in
set_option maxHeartbeats 3200000 in
theorem heap_is {α : Type} [Inhabited α] {g : Nat} {lb : Array Value} {sf : Nat} {sb : Array Value} {lt : α → α → Bool} {n B : Nat} {St : World → Array α → Prop} (H : Sr Tryz.prog g lb sf sb lt n B St)
    (a b : Nat) (d : Array α) (w : World) (h : St w d) (hab : a + 2 ≤ b) (hb : b ≤ n) :
    Calls Tryz.prog 200 #[lsV g lb sf sb, .int .i64 a, .int .i64 b] w fun e w' => e = .returned (.tuple #[]) ∧ St w' (Sort.heapSort lt d a b) ∧ Kp B w w' := by
  unfold lsV Sort.heapSort
  have hn := H.small
  have hlow := H.low _ _ h
  obtain ⟨N0, N1⟩ := box_two w (.func (.func g) #[] lb) (.func (.func sf) #[] sb) 230
  have SX := hide (H.alloc w d (.cells #[.func (.func g) #[] lb, .func (.func sf) #[] sb] 230) h)
  have KX := hide (Kp.alloc B w (.cells #[.func (.func g) #[] lb, .func (.func sf) #[] sb] 230))
  have HH := hide H
  clear H h
  obtain ⟨hi, hhi⟩ : ∃ hi : Nat, hi = b - a := ⟨_, rfl⟩
  have hhI : (b : Int) - (a : Int) = (hi : Int) := by omega
  obtain ⟨m, hm⟩ : ∃ m : Nat, m = (hi - 1) / 2 := ⟨_, rfl⟩
  have hmI : ((hi : Int) - 1) / 2 = (m : Int) := by omega
  have hmT : ((hi : Int) - 1).tdiv 2 = (m : Int) := by rw [Int.tdiv_eq_ediv_of_nonneg (by omega)]; exact hmI
  rw [← hhi, ← hm]
  have hi2 : 2 ≤ hi := by omega
  have hib : a + hi ≤ n := by omega
  have hmh : m < hi := by omega
  clear hm hhi
  go_enter Tryz.func200, Tryz.ntmps200
  go_wp2
  generalize w.alloc (.cells #[.func (.func g) #[] lb, .func (.func sf) #[] sb] 230) = X at *
  have M0 := hide N0
  have M1 := hide N1
  clear N0 N1
  go_loopw [9] (fun s9 wr => ∃ (k : Nat) (dk : Array α), s9 = .int .i64 ((k : Int) - 1) ∧ k ≤ hi ∧ Hid (Sort.heapBuild lt hi a k dk = Sort.heapBuild lt hi a (m + 1) d) ∧ Hid (St wr dk) ∧ Hid (Kp B X wr)) (fun s9 _ => (intOf s9 + 1).toNat)
  case atStart => exact ⟨m + 1, d, by congr 1; omega, by omega, rfl, SX, Kp.refl _ _⟩
  case round =>
    obtain ⟨k, dk, rfl, hkh, HO, HS, HK⟩ := hrel
    have c0 := (unhide HK).cell hlow (unhide M0)
    have c1 := (unhide HK).cell hlow (unhide M1)
    have hsz := World.block_lt_of_cell? _ _ c0
    cases k with
    | zero =>
      have HD : Hid (dk = Sort.heapBuild lt hi a (m + 1) d) := unhide HO
      clear HO
      have hneg : ¬ (0 : Int) ≤ ((0 : Nat) : Int) - 1 := by omega
      go_wp2_with fail
      go_loopw [10] (fun s10 wr => ∃ (k : Nat) (dj : Array α), s10 = .int .i64 ((k : Int) - 1) ∧ k ≤ hi ∧ Hid (Sort.heapPop lt a k dj = Sort.heapPop lt a hi dk) ∧ Hid (St wr dj) ∧ Hid (Kp B X wr)) (fun s10 _ => (intOf s10 + 1).toNat)
      case atStart => exact ⟨hi, dk, rfl, Nat.le_refl _, rfl, HS, HK⟩
      case round =>
        clear HS HK c0 c1 hsz
        obtain ⟨k, dj, rfl, hkh, HO, HS, HK⟩ := hrel
        have c0 := (unhide HK).cell hlow (unhide M0)
        have c1 := (unhide HK).cell hlow (unhide M1)
        have hsz := World.block_lt_of_cell? _ _ c0
        cases k with
        | zero =>
          have hneg : ¬ (0 : Int) ≤ ((0 : Nat) : Int) - 1 := by omega
          go_wp2_with fail
          go_end0
          exact ⟨rfl, by rw [← unhide HD, ← unhide HO]; exact unhide HS, Kp.trans (unhide KX) (unhide HK)⟩
        | succ k =>
          have hkI : ((k + 1 : Nat) : Int) - 1 = (k : Int) := by omega
          rw [hkI]
          obtain ⟨w2, hs, hS2, hK2⟩ := (unhide HH).swap wr dj a (a + k) (unhide HS) (by omega) (by omega)
          rw [show (((a + k : Nat) : Int)) = (a : Int) + k by omega] at hs
          have HK2 := hide (Kp.trans (unhide HK) hK2)
          have c02 := (unhide HK2).cell hlow (unhide M0)
          have c12 := (unhide HK2).cell hlow (unhide M1)
          have hsz2 := World.block_lt_of_cell? _ _ c02
          have C := hide (sift_is (unhide HH) 0 k a (Sort.swp dj a (a + k)) w2 hS2 (by omega) (by omega))
          unfold lsV at C
          clear hS2 hK2 c0
          go_wp2_with fail
          refine (unhide C).mono ?_
          rintro e w3 ⟨rfl, hS3, hK3⟩
          have HS3 := hide hS3
          have HK3 := hide (Kp.trans (unhide HK2) hK3)
          clear hS3 hK3
          go_wp2
          go_roundw
          case rel => exact ⟨k, _, rfl, by omega, by show _ = _; rw [← unhide HO]; rfl, HS3, HK3⟩
          case measure => simp [intOf]
    | succ k =>
      have hkI : ((k + 1 : Nat) : Int) - 1 = (k : Int) := by omega
      rw [hkI]
      have C := hide (sift_is (unhide HH) k hi a dk wr (unhide HS) (by omega) (by omega))
      unfold lsV at C
      go_wp2_with fail
      refine (unhide C).mono ?_
      rintro e w3 ⟨rfl, hS3, hK3⟩
      have HS3 := hide hS3
      have HK3 := hide (Kp.trans (unhide HK) hK3)
      clear hS3 hK3
      go_wp2
      go_roundw
      case rel => exact ⟨k, _, rfl, by omega, by show _ = _; rw [← unhide HO]; rfl, HS3, HK3⟩
      case measure => simp [intOf]

end Go.Proofs.YtepmnpapdknocaaGreatDoor
