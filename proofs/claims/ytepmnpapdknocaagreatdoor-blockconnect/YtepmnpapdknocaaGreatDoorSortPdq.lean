/- The contract of pdqsort_func: in order, and the same elements. -/
import Derived.Test.YtepmnpapdknocaaGreatDoorSortIns
import Derived.Test.YtepmnpapdknocaaGreatDoorSortHeap
import Derived.Test.YtepmnpapdknocaaGreatDoorSortChoose
import Derived.Test.YtepmnpapdknocaaGreatDoorSortPartEq
import Derived.Test.YtepmnpapdknocaaGreatDoorSortPart
import Derived.Test.YtepmnpapdknocaaGreatDoorSortPartial
import Derived.Test.YtepmnpapdknocaaGreatDoorSortPdqM
import Derived.Deep.LoopGhost
namespace Go.Proofs.YtepmnpapdknocaaGreatDoor
open Go.RowKit

/-- What a callee that only exchanges gives. -/
def Shuffles {α : Type} [Inhabited α] (P : Program) (f : Nat) (g : Nat) (lb : Array Value) (sf : Nat) (sb : Array Value) (n B : Nat) (St : World → Array α → Prop) : Prop :=
  ∀ (a b : Nat) (d : Array α) (w : World), St w d → a ≤ b → b ≤ n → Calls P f #[lsV g lb sf sb, .int .i64 a, .int .i64 b] w fun e w' => e = .returned (.tuple #[]) ∧ ∃ d', Sort.PermIn a b d d' ∧ St w' d' ∧ Kp B w w'

set_option maxRecDepth 10000 in
set_option maxHeartbeats 25600000 in
theorem pdq_is {α : Type} [Inhabited α] {g : Nat} {lb : Array Value} {sf : Nat} {sb : Array Value} {lt : α → α → Bool} {n B : Nat} {St : World → Array α → Prop} (H : Sr Tryz.prog g lb sf sb lt n B St)
    (HB : Shuffles Tryz.prog 201 g lb sf sb n B St) (HV : Shuffles Tryz.prog 203 g lb sf sb n B St) (K : Nat) :
    ∀ (a b limit : Nat) (d : Array α) (w : World), St w d → a ≤ b → b ≤ n → b - a ≤ K → limit ≤ 64 → Sort.Below lt a b d →
    Calls Tryz.prog 156 #[lsV g lb sf sb, .int .i64 a, .int .i64 b, .int .i64 limit] w fun e w' => e = .returned (.tuple #[]) ∧ ∃ d', (Sort.PermIn a b d d' ∧ Sort.SortedIn lt a b d') ∧ St w' d' ∧ Kp B w w' := by
  induction K using Nat.strongRecOn with
  | ind K ih =>
  intro a b limit d w h hab hb hK hlim hbel
  unfold lsV
  have IH := hide ih
  have hn := H.small
  have eg := H.enters
  have hlow := H.low _ _ h
  have HO := hide H.order
  have HZ : Hid (∀ w d, St w d → d.size = n) := H.size
  obtain ⟨N0, N1⟩ := box_two w (.func (.func g) #[] lb) (.func (.func sf) #[] sb) 230
  have SX := hide (H.alloc w d (.cells #[.func (.func g) #[] lb, .func (.func sf) #[] sb] 230) h)
  have KX := hide (Kp.alloc B w (.cells #[.func (.func g) #[] lb, .func (.func sf) #[] sb] 230))
  have HH := hide H
  have HBR := hide HB
  have HVR := hide HV
  have HBL := hide hbel
  clear H h ih HB HV hbel
  go_enter Tryz.func156, Tryz.ntmps156
  go_wp2
  generalize w.alloc (.cells #[.func (.func g) #[] lb, .func (.func sf) #[] sb] 230) = X at *
  have M0 := hide N0
  have M1 := hide N1
  clear N0 N1
  go_loopg [1, 2, 3, 8, 9] (b - a) (fun kx s1 s2 s3 s8 s9 wr => ∃ (a' b' lim : Nat) (wb wp : Bool) (dk : Array α), s1 = .int .i64 a' ∧ s2 = .int .i64 b' ∧ s3 = .int .i64 lim ∧ s8 = .bool wb ∧ s9 = .bool wp ∧ a' ≤ b' ∧ b' ≤ n ∧ b' - a' ≤ kx ∧ kx ≤ b - a ∧ lim ≤ 64 ∧ Hid (Sort.Below lt a' b' dk) ∧ Hid (Ends lt a b d a' b' dk) ∧ Hid (St wr dk) ∧ Hid (Kp B X wr))
  case atStart => exact ⟨a, b, limit, true, true, d, rfl, rfl, rfl, rfl, rfl, hab, hb, Nat.le_refl _, Nat.le_refl _, hlim, HBL, Ends.start lt a b d, SX, Kp.refl _ _⟩
  case round =>
    obtain ⟨a', b', lim, wb, wp, dk, rfl, rfl, rfl, rfl, rfl, hab', hb', hkx, hkN, hlm, HBE, HE, HS, HK⟩ := hrel
    have c0 := (unhide HK).cell hlow (unhide M0)
    have c1 := (unhide HK).cell hlow (unhide M1)
    have cz := World.block_lt_of_cell? _ _ c0
    have HDS := hide ((unhide HZ) _ _ (unhide HS))
    by_cases h12 : b' ≤ a' + 12
    · have h12z : (b' : Int) - (a' : Int) ≤ 12 := by omega
      have C := hide (ins_is (unhide HH) a' b' dk wr (unhide HS) hab' hb')
      unfold lsV at C
      go_wp2_with fail
      refine (unhide C).mono ?_
      rintro e w1 ⟨rfl, hS1, hK1⟩
      have HS1 := hide hS1
      have HK1 := hide (Kp.trans (unhide HK) hK1)
      clear hS1 hK1
      go_wp2
      (try simp only [Exit.inBlock, Exit.then]); refine bodyPost_ret (results_none rfl _ _ _) ?_ ?_; focus rfl
      have q := Sort.insertionSort_holds (unhide HO) dk a' b' hab' (by rw [unhide HDS]; exact hb')
      exact ⟨rfl, _, (unhide HE) _ q.1 q.2, unhide HS1, Kp.trans (unhide KX) (unhide HK1)⟩
    · have h12z : ¬ (b' : Int) - (a' : Int) ≤ 12 := by omega
      by_cases hl0 : lim = 0
      · subst hl0
        have C := hide (heap_is (unhide HH) a' b' dk wr (unhide HS) (by omega) hb')
        unfold lsV at C
        go_wp2_with fail
        refine (unhide C).mono ?_
        rintro e w1 ⟨rfl, hS1, hK1⟩
        have HS1 := hide hS1
        have HK1 := hide (Kp.trans (unhide HK) hK1)
        clear hS1 hK1
        go_wp2
        (try simp only [Exit.inBlock, Exit.then]); refine bodyPost_ret (results_none rfl _ _ _) ?_ ?_; focus rfl
        have q := Sort.heapSort_holds (unhide HO) dk a' b' hab' (by rw [unhide HDS]; exact hb')
        exact ⟨rfl, _, (unhide HE) _ q.1 q.2, unhide HS1, Kp.trans (unhide KX) (unhide HK1)⟩
      · have hl0z : ¬ (lim : Int) = 0 := by omega
        have hl0B : ((lim : Int) == 0) = false := by simp; omega
        go_upto_if 35 with fail
        go_cut [3] from 19 (fun s3 wc => ∃ l2 : Nat, s3 = .int .i64 l2 ∧ l2 ≤ 64 ∧ ∃ d2 : Array α, Hid (Sort.PermIn a' b' dk d2) ∧ Hid (St wc d2) ∧ Hid (Kp B X wc))
        case first =>
          cases wb
          · have C := hide ((unhide HBR) a' b' dk wr (unhide HS) hab' hb')
            unfold lsV at C
            go_wp2_with fail
            refine (unhide C).mono ?_
            rintro e w1 ⟨rfl, d2, hP1, hS1, hK1⟩
            have HP1 := hide hP1
            have HS1 := hide hS1
            have HK1 := hide (Kp.trans (unhide HK) hK1)
            clear hP1 hS1 hK1
            go_wp2
            go_meet
            case rel => exact ⟨lim - 1, by congr 1 <;> omega, by omega, d2, HP1, HS1, HK1⟩
          · go_wp2_with fail
            go_meet
            case rel => exact ⟨lim, rfl, hlm, dk, Sort.permIn_refl _ _ _, HS, HK⟩
        case rest =>
          clear hl0 hl0z hl0B c0 c1 cz HS HK
          obtain ⟨l2, rfl, hl2, d2, HP2, HS2, HK2⟩ := hcut
          have c0 := (unhide HK2).cell hlow (unhide M0)
          have c1 := (unhide HK2).cell hlow (unhide M1)
          have cz := World.block_lt_of_cell? _ _ c0
          have C := hide (choose_is (unhide HH) a' b' d2 _ (unhide HS2) (by omega) hb')
          unfold lsV at C
          go_upto_if 50 with (go_at_call 202; refine (unhide C).mono ?_; rintro e w2 ⟨x, t, rfl, hx1, hx2, ht, hS3, hK3⟩; have HS3 := hide hS3; have HK3 := hide (Kp.trans (unhide HK2) hK3); clear hS3 hK3)
          clear c0 c1 cz C
          have c0 := (unhide HK3).cell hlow (unhide M0)
          have c1 := (unhide HK3).cell hlow (unhide M1)
          have cz := World.block_lt_of_cell? _ _ c0
          go_cut [11, 12] from 19 (fun s11 s12 wc => ∃ x t : Nat, s11 = .int .i64 x ∧ s12 = .int .i64 t ∧ a' ≤ x ∧ x < b' ∧ ∃ d2 : Array α, Hid (Sort.PermIn a' b' dk d2) ∧ Hid (St wc d2) ∧ Hid (Kp B X wc))
          case first =>
            by_cases e2 : t = 2
            · subst e2
              have C := hide ((unhide HVR) a' b' d2 _ (unhide HS3) hab' hb')
              unfold lsV at C
              go_wp2_with fail
              refine (unhide C).mono ?_
              rintro e w1 ⟨rfl, d3, hP1, hS1, hK1⟩
              have HP1 := hide (Sort.permIn_trans _ _ _ _ _ (unhide HP2) hP1)
              have HS1 := hide hS1
              have HK1 := hide (Kp.trans (unhide HK3) hK1)
              clear hP1 hS1 hK1
              go_wp2
              go_meet
              case rel => exact ⟨b' - 1 - (x - a'), 1, by congr 1 <;> omega, rfl, by omega, by omega, d3, HP1, HS1, HK1⟩
            · have e2z : ¬ (t : Int) = 2 := by omega
              have e2B : ((t : Int) == 2) = false := by simp; omega
              go_wp2_with fail
              go_meet
              case rel => exact ⟨x, t, rfl, rfl, hx1, hx2, d2, HP2, HS3, HK3⟩
          case rest =>
            clear c0 c1 cz HS3 HK3 HS2 HK2 HP2 ht hx1 hx2
            obtain ⟨x, t, rfl, rfl, hx1, hx2, d2, HP2, HS2, HK2⟩ := hcut
            have c0 := (unhide HK2).cell hlow (unhide M0)
            have c1 := (unhide HK2).cell hlow (unhide M1)
            have cz := World.block_lt_of_cell? _ _ c0
            go_upto_region 16 with fail
            go_cut [68] from 19 (fun s68 wx => ∃ y : Bool, s68 = .bool y ∧ wx = wc)
            case first =>
              by_cases e1 : t = 1
              · subst e1
                cases wb <;> cases wp <;> (go_wp2_with fail; go_meet; exact ⟨_, rfl, rfl⟩)
              · have e1z : ¬ (t : Int) = 1 := by omega
                have e1B : ((t : Int) == 1) = false := by simp; omega
                cases wb <;> cases wp <;> (go_wp2_with fail; go_meet; exact ⟨_, rfl, rfl⟩)
            case rest =>
              obtain ⟨y, rfl, rfl⟩ := hcut
              go_upto_if 68 with fail
              go_cut [] from 19 (fun wc => ∃ d2 : Array α, Hid (Sort.PermIn a' b' dk d2) ∧ Hid (St wc d2) ∧ Hid (Kp B X wc))
              case first =>
                cases y
                · go_wp2_with fail
                  go_meet
                  case rel => exact ⟨d2, HP2, HS2, HK2⟩
                · obtain ⟨r, hr⟩ : ∃ r, Sort.partialInsertionSort lt d2 a' b' = r := ⟨_, rfl⟩
                  have C := hide (partial_is (unhide HH) a' b' d2 _ (unhide HS2) (by omega) hb' r hr)
                  unfold lsV at C
                  have hq := Sort.partialInsertionSort_holds (unhide HO) d2 a' b' (by omega) (by rw [(unhide HZ) _ _ (unhide HS2)]; exact hb') (below_perm (unhide HBE) (unhide HP2) (by rw [unhide HDS]; exact hb'))
                  rw [hr] at hq
                  have HQ := hide hq
                  clear hq hr
                  obtain ⟨r1, r2⟩ := r
                  cases r2
                  · go_wp2_with fail
                    refine (unhide C).mono ?_
                    rintro e w1 ⟨rfl, hS1, hK1⟩
                    have HS1 := hide hS1
                    have HK1 := hide (Kp.trans (unhide HK2) hK1)
                    clear hS1 hK1
                    go_wp2
                    go_meet
                    case rel => exact ⟨r1, Sort.permIn_trans _ _ _ _ _ (unhide HP2) (unhide HQ).1, HS1, HK1⟩
                  · go_wp2_with fail
                    refine (unhide C).mono ?_
                    rintro e w1 ⟨rfl, hS1, hK1⟩
                    have HS1 := hide hS1
                    have HK1 := hide (Kp.trans (unhide HK2) hK1)
                    clear hS1 hK1
                    go_wp2
                    (try simp only [Exit.inBlock, Exit.then]); refine bodyPost_ret (results_none rfl _ _ _) ?_ ?_; focus rfl
                    exact ⟨rfl, r1, (unhide HE).perm (unhide HP2) _ (unhide HQ).1 ((unhide HQ).2 (by first | rfl | trivial)), unhide HS1, Kp.trans (unhide KX) (unhide HK1)⟩
              case rest =>
                clear c0 c1 cz HS2 HK2 HP2
                obtain ⟨d2, HP2, HS2, HK2⟩ := hcut
                have c0 := (unhide HK2).cell hlow (unhide M0)
                have c1 := (unhide HK2).cell hlow (unhide M1)
                have cz := World.block_lt_of_cell? _ _ c0
                have HE2 := hide ((unhide HE).perm (unhide HP2))
                have HBE2 := hide (below_perm (unhide HBE) (unhide HP2) (by rw [unhide HDS]; exact hb'))
                have HD2 := hide ((unhide HZ) _ _ (unhide HS2))
                clear HE HBE HDS HP2
                go_upto_region 18 with fail
                go_cut [83] from 19 (fun s83 wc => Hid (St wc d2) ∧ Hid (Kp B X wc) ∧ ((s83 = .bool true ∧ 0 < a' ∧ Hid (lt d2[a' - 1]! d2[x]! = false)) ∨ s83 = .bool false))
                case first =>
                  by_cases ha0 : 0 < a'
                  · have ha0z : decide ((0 : Int) < (a' : Int)) = true := decide_eq_true (by omega)
                    have hl := (unhide HH).less _ d2 (a' - 1) x (unhide HS2) (by omega) (by omega)
                    rw [show (((a' - 1 : Nat) : Int)) = (a' : Int) - 1 by omega] at hl
                    cases hlv : lt d2[a' - 1]! d2[x]! with
                    | true =>
                      rw [hlv] at hl
                      clear hlv
                      go_wp2_with (go_at_fn g; refine hl.mono ?_; rintro e w' ⟨rfl, hS3, hK3⟩; have HS3 := hide hS3; have HK3 := hide (Kp.trans (unhide HK2) hK3); clear hS3 hK3)
                      go_meet
                      exact ⟨HS3, HK3, Or.inr rfl⟩
                    | false =>
                      rw [hlv] at hl
                      have HL := hide hlv
                      clear hlv
                      go_wp2_with (go_at_fn g; refine hl.mono ?_; rintro e w' ⟨rfl, hS3, hK3⟩; have HS3 := hide hS3; have HK3 := hide (Kp.trans (unhide HK2) hK3); clear hS3 hK3)
                      go_meet
                      exact ⟨HS3, HK3, Or.inl ⟨rfl, ha0, HL⟩⟩
                  · have ha0z : decide ((0 : Int) < (a' : Int)) = false := decide_eq_false (by omega)
                    go_wp2_with fail
                    go_meet
                    exact ⟨HS2, HK2, Or.inr rfl⟩
                case rest =>
                  clear c0 c1 cz HS2 HK2
                  obtain ⟨HS2, HK2, hor⟩ := hcut
                  have c0 := (unhide HK2).cell hlow (unhide M0)
                  have c1 := (unhide HK2).cell hlow (unhide M1)
                  have cz := World.block_lt_of_cell? _ _ c0
                  rcases hor with ⟨rfl, ha0, HL⟩ | rfl
                  · have C := hide (partEq_is (unhide HH) a' b' x d2 _ (unhide HS2) hx1 hx2 hb')
                    unfold lsV at C
                    go_wp2_with fail
                    refine (unhide C).mono ?_
                    rintro e w3 ⟨mid, d4, rfl, hq, hS3, hK3⟩
                    have q2 := eq_step (unhide HO) (unhide HBE2) ha0 (unhide HL) hq (by rw [unhide HD2]; exact hb')
                    have hm1 := hq.lo
                    have hm2 := hq.hi
                    have HQ := hide q2
                    have HS3 := hide hS3
                    have HK3 := hide (Kp.trans (unhide HK2) hK3)
                    clear q2 hq hS3 hK3
                    go_wp2
                    go_roundg (b' - mid)
                    case measure => omega
                    case rel => exact ⟨mid, b', l2, wb, wp, d4, rfl, rfl, rfl, rfl, rfl, hm2, hb', Nat.le_refl _, by omega, hl2, (unhide HQ).1, (unhide HE2).on (unhide HQ).2, HS3, HK3⟩
                  · have C := hide (part_is (unhide HH) a' b' x d2 _ (unhide HS2) hx1 hx2 hb')
                    unfold lsV at C
                    go_upto_if 109 with (go_at_call 206; refine (unhide C).mono ?_; rintro e w3 ⟨mid, ap, d4, rfl, hq, hS3, hK3⟩; have hm1 := hq.lo; have hm2 := hq.hi; have HS3 := hide hS3; have HK3 := hide (Kp.trans (unhide HK2) hK3); clear hS3 hK3)
                    have hbl := pa_below (unhide HBE2) hq (by rw [unhide HD2]; exact hb')
                    have HQ := hide hq
                    have HBB := hide hbl
                    clear hq hbl c0 c1 cz C
                    have c0 := (unhide HK3).cell hlow (unhide M0)
                    have c1 := (unhide HK3).cell hlow (unhide M1)
                    have cz := World.block_lt_of_cell? _ _ c0
                    by_cases h4 : mid - a' < b' - mid
                    · have h4z : (mid : Int) - (a' : Int) < (b' : Int) - (mid : Int) := by omega
                      have C := hide ((unhide IH) (mid - a') (by omega) a' mid l2 d4 w3 (unhide HS3) hm1 (by omega) (Nat.le_refl _) hl2 (unhide HBB).1)
                      unfold lsV at C
                      go_wp2_with fail
                      refine (unhide C).mono ?_
                      rintro e w4 ⟨rfl, d5, hq5, hS4, hK4⟩
                      have HQ5 := hide (pa_left (unhide HO) (unhide HQ) (by rw [unhide HD2]; exact hb') hq5.1 hq5.2)
                      have HS4 := hide hS4
                      have HK4 := hide (Kp.trans (unhide HK3) hK4)
                      clear hq5 hS4 hK4
                      go_wp2
                      go_roundg (b' - (mid + 1))
                      case measure => omega
                      case rel => exact ⟨mid + 1, b', l2, _, ap, d5, by go_num, rfl, rfl, rfl, rfl, by omega, hb', Nat.le_refl _, by omega, hl2, (unhide HQ5).1, (unhide HE2).on (unhide HQ5).2, HS4, HK4⟩
                    · have h4z : ¬ (mid : Int) - (a' : Int) < (b' : Int) - (mid : Int) := by omega
                      have C0 := (unhide IH) (b' - (mid + 1)) (by omega) (mid + 1) b' l2 d4 w3 (unhide HS3) (by omega) hb' (Nat.le_refl _) hl2 (unhide HBB).2
                      rw [show ((mid + 1 : Nat) : Int) = (mid : Int) + 1 by omega] at C0
                      unfold lsV at C0
                      have C := hide C0
                      clear C0
                      go_wp2_with fail
                      refine (unhide C).mono ?_
                      rintro e w4 ⟨rfl, d5, hq5, hS4, hK4⟩
                      have HQ5 := hide (pa_right (unhide HO) (unhide HBE2) (unhide HQ) (by rw [unhide HD2]; exact hb') hq5.1 hq5.2)
                      have HS4 := hide hS4
                      have HK4 := hide (Kp.trans (unhide HK3) hK4)
                      clear hq5 hS4 hK4
                      go_wp2
                      go_roundg (mid - a')
                      case measure => omega
                      case rel => exact ⟨a', mid, l2, _, ap, d5, rfl, rfl, rfl, rfl, rfl, by omega, by omega, Nat.le_refl _, by omega, hl2, (unhide HQ5).1, (unhide HE2).on (unhide HQ5).2, HS4, HK4⟩

end Go.Proofs.YtepmnpapdknocaaGreatDoor
