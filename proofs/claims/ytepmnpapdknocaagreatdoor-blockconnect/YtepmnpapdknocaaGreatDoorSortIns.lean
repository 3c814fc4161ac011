/- The contract of insertionSort_func. -/
import Derived.Test.YtepmnpapdknocaaGreatDoorSortBase
namespace Go.Proofs.YtepmnpapdknocaaGreatDoor
open Go.RowKit

set_option maxRecDepth 10000 in
set_option maxHeartbeats 1600000 in
theorem ins_is {α : Type} [Inhabited α] {g : Nat} {lb : Array Value} {sf : Nat} {sb : Array Value} {lt : α → α → Bool} {n B : Nat} {St : World → Array α → Prop} (H : Sr Tryz.prog g lb sf sb lt n B St)
    (a b : Nat) (d : Array α) (w : World) (h : St w d) (hab : a ≤ b) (hb : b ≤ n) :
    Calls Tryz.prog 199 #[lsV g lb sf sb, .int .i64 a, .int .i64 b] w fun e w' => e = .returned (.tuple #[]) ∧ St w' (Sort.insertionSort lt d a b) ∧ Kp B w w' := by
  unfold lsV Sort.insertionSort
  have hn := H.small
  have eg := H.enters
  have hlow := H.low _ _ h
  obtain ⟨N0, N1⟩ := box_two w (.func (.func g) #[] lb) (.func (.func sf) #[] sb) 230
  have SX := hide (H.alloc w d (.cells #[.func (.func g) #[] lb, .func (.func sf) #[] sb] 230) h)
  have KX := hide (Kp.alloc B w (.cells #[.func (.func g) #[] lb, .func (.func sf) #[] sb] 230))
  have HH := hide H
  clear H h
  go_enter Tryz.func199, Tryz.ntmps199
  go_wp2
  generalize w.alloc (.cells #[.func (.func g) #[] lb, .func (.func sf) #[] sb] 230) = X at *
  have M0 := hide N0
  have M1 := hide N1
  clear N0 N1
  go_loopw [6] (fun s6 wr => ∃ (i : Nat) (dk : Array α), s6 = .int .i64 i ∧ a < i ∧ i ≤ b + 1 ∧ Hid (Sort.insOuter lt a b i dk = Sort.insOuter lt a b (a + 1) d) ∧ Hid (St wr dk) ∧ Hid (Kp B X wr)) (fun s6 _ => b + 1 - (intOf s6).toNat)
  case atStart => exact ⟨a + 1, d, by go_num, by omega, by omega, rfl, SX, Kp.refl _ _⟩
  case round =>
    obtain ⟨i, dk, rfl, hai, hib, HO, HS, HK⟩ := hrel
    by_cases hlt : i < b
    · go_wp2_with fail
      go_loopw [7] (fun s7 wr2 => ∃ (j : Nat) (dj : Array α), s7 = .int .i64 j ∧ a ≤ j ∧ j ≤ i ∧ Hid (Sort.insInner lt a j dj = Sort.insInner lt a i dk) ∧ Hid (St wr2 dj) ∧ Hid (Kp B X wr2)) (fun s7 _ => (intOf s7).toNat)
      case atStart => exact ⟨i, dk, rfl, by omega, Nat.le_refl _, rfl, HS, HK⟩
      case round =>
        clear HS HK
        obtain ⟨j, dj, rfl, haj, hji, HI, HS, HK⟩ := hrel
        have c0 := (unhide HK).cell hlow (unhide M0)
        have hsz := World.block_lt_of_cell? _ _ c0
        by_cases hja : a < j
        · have hl := (unhide HH).less wr dj j (j - 1) (unhide HS) (by omega) (by omega)
          rw [show (((j - 1 : Nat) : Int)) = (j : Int) - 1 by omega] at hl
          cases hlv : lt dj[j]! dj[j - 1]! with
          | true =>
            rw [hlv] at hl
            have HL := hide hlv
            clear hlv
            go_wp2_with (go_at_fn g; refine hl.mono ?_; rintro e w' ⟨rfl, hS2, hK2⟩; have HK2 := hide (Kp.trans (unhide HK) hK2); have c1 := (unhide HK2).cell hlow (unhide M1); obtain ⟨w3, hs, hS3, hK3⟩ := (unhide HH).swap w' dj j (j - 1) hS2 (by omega) (by omega); have HS3 := hide hS3; have HK3 := hide (Kp.trans (unhide HK2) hK3); clear hS2 hK2 hS3 hK3; rw [show (((j - 1 : Nat) : Int)) = (j : Int) - 1 by omega] at hs)
            go_roundw
            case rel => exact ⟨j - 1, Sort.swp dj j (j - 1), by congr 1 <;> omega, by omega, by omega, by show _ = _; rw [← unhide HI, insInner_on lt a j dj hja (unhide HL)], HS3, HK3⟩
            case measure => simp [intOf]; omega
          | false =>
            rw [hlv] at hl
            have HL := hide hlv
            clear hlv
            go_wp2_with (go_at_fn g; refine hl.mono ?_; rintro e w' ⟨rfl, hS2, hK2⟩; have HK2 := hide (Kp.trans (unhide HK) hK2); have HS2 := hide hS2; clear hS2 hK2)
            go_roundw
            case rel => exact ⟨i + 1, dj, by go_num, by omega, by omega, by show _ = _; rw [← unhide HO, insOuter_on _ _ _ _ _ hlt, ← unhide HI, insInner_end _ _ _ _ (Or.inr (unhide HL))], HS2, HK2⟩
            case measure => simp [intOf]; omega
        · go_wp2
          go_roundw
          case rel => exact ⟨i + 1, dj, by go_num, by omega, by omega, by show _ = _; rw [← unhide HO, insOuter_on _ _ _ _ _ hlt, ← unhide HI, insInner_end _ _ _ _ (Or.inl (by omega))], HS, HK⟩
          case measure => simp [intOf]; omega
    · go_wp2_with fail
      go_end0
      exact ⟨rfl, by rw [← unhide HO, insOuter_end _ _ _ _ _ hlt]; exact unhide HS, Kp.trans (unhide KX) (unhide HK)⟩

end Go.Proofs.YtepmnpapdknocaaGreatDoor
