/- The contract of choosePivot_func: a place within the range, one of three hints. -/
import Derived.Test.YtepmnpapdknocaaGreatDoorSortPivot
namespace Go.Proofs.YtepmnpapdknocaaGreatDoor
open Go.RowKit

set_option maxRecDepth 10000 in
set_option maxHeartbeats 3200000 in
theorem choose_is {α : Type} [Inhabited α] {g : Nat} {lb : Array Value} {sf : Nat} {sb : Array Value} {lt : α → α → Bool} {n B : Nat} {St : World → Array α → Prop} (H : Sr Tryz.prog g lb sf sb lt n B St)
    (a b : Nat) (d : Array α) (w : World) (h : St w d) (hab : a + 13 ≤ b) (hb : b ≤ n) :
    Calls Tryz.prog 202 #[lsV g lb sf sb, .int .i64 a, .int .i64 b] w fun e w' => ∃ x t : Nat, e = .returned (.tuple #[.int .i64 x, .int .i64 t]) ∧ a ≤ x ∧ x < b ∧ t ≤ 2 ∧ St w' d ∧ Kp B w w' := by
  unfold lsV
  have hn := H.small
  have hlow := H.low _ _ h
  obtain ⟨l, hl⟩ : ∃ l : Nat, l = b - a := ⟨_, rfl⟩
  have hlI : (b : Int) - (a : Int) = (l : Int) := by omega
  obtain ⟨q, hq⟩ : ∃ q : Nat, q = l / 4 := ⟨_, rfl⟩
  have hqI : (l : Int) / 4 = (q : Int) := by omega
  have hqT : (l : Int).tdiv 4 = (q : Int) := by rw [Int.tdiv_eq_ediv_of_nonneg (by omega)]; exact hqI
  have hq4 : 4 * q ≤ l := by omega
  have hq4' : l < 4 * q + 4 := by omega
  have hlb : a + l = b := by omega
  have hl13 : 13 ≤ l := by omega
  clear hq hl
  obtain ⟨N0, N1⟩ := box_two w (.func (.func g) #[] lb) (.func (.func sf) #[] sb) 230
  have SX := H.alloc _ d (.cells #[.int .i64 0] 3) (H.alloc w d (.cells #[.func (.func g) #[] lb, .func (.func sf) #[] sb] 230) h)
  have KX := Kp.trans (Kp.alloc B w (.cells #[.func (.func g) #[] lb, .func (.func sf) #[] sb] 230)) (Kp.alloc B _ (.cells #[.int .i64 0] 3))
  have KY := Kp.alloc B (w.alloc (.cells #[.func (.func g) #[] lb, .func (.func sf) #[] sb] 230)) (.cells #[.int .i64 0] 3)
  have m0 := KY.cell hlow N0
  have m1 := KY.cell hlow N1
  have hqs : (w.alloc (.cells #[.func (.func g) #[] lb, .func (.func sf) #[] sb] 230)).heap.size = w.heap.size + 1 := by simp
  have hct : Ctr ((w.alloc (.cells #[.func (.func g) #[] lb, .func (.func sf) #[] sb] 230)).alloc (.cells #[.int .i64 0] 3)) (w.heap.size + 1) 0 := by
    rw [← hqs]
    exact ⟨by rw [World.cell?_alloc_at _ _ _ _ rfl]; rfl, World.frozen?_alloc_at _ _ _ _ rfl⟩
  have hz0 := World.block_lt_of_cell? _ _ hct.1
  have hi : (a : Int) + (q : Int) = ((a + q : Nat) : Int) := by omega
  have hj : (a : Int) + (q : Int) * 2 = ((a + q * 2 : Nat) : Int) := by omega
  have hk : (a : Int) + (q : Int) * 3 = ((a + q * 3 : Nat) : Int) := by omega
  obtain ⟨i, hi'⟩ : ∃ i : Nat, i = a + q := ⟨_, rfl⟩
  obtain ⟨j, hj'⟩ : ∃ j : Nat, j = a + q * 2 := ⟨_, rfl⟩
  obtain ⟨k, hk'⟩ : ∃ k : Nat, k = a + q * 3 := ⟨_, rfl⟩
  rw [← hi'] at hi
  rw [← hj'] at hj
  rw [← hk'] at hk
  have hib : a + 3 ≤ i ∧ i < j ∧ j < k ∧ k < b := by omega
  have HH := hide H
  have KH := hide KX
  have M0 := hide m0
  have M1 := hide m1
  have HS := hide SX
  have HC := hide hct
  clear H h SX KX KY N0 N1 hct hi' hj' hk' hqs
  have A0 := M0
  have B0 := M1
  have HK0 := hide (Kq.refl B (w.heap.size + 1) ((w.alloc (.cells #[.func (.func g) #[] lb, .func (.func sf) #[] sb] 230)).alloc (.cells #[.int .i64 0] 3)))
  have h8I : (8 : Int) ≤ (l : Int) := by omega
  by_cases h50 : 50 ≤ l
  · have h50I : (50 : Int) ≤ (l : Int) := by omega
    have C1 := hide (medAdj_is (unhide HH) i (w.heap.size + 1) 0 d _ (unhide HS) (by omega) (by omega) (by omega) (by omega) (unhide HC))
    unfold lsV at C1
    go_enter Tryz.func202, Tryz.ntmps202
    go_wp2_with fail
    refine (unhide C1).mono ?_
    rintro e w1 ⟨x1, s1, rfl, hx1, hs1, hc1, hS1, hK1⟩
    have ca1 := hK1.cell (p := ⟨w.heap.size, 0, none⟩) hlow (by show w.heap.size ≠ w.heap.size + 1; omega) (unhide A0)
    have cb1 := hK1.cell (p := ⟨w.heap.size, 1, none⟩) hlow (by show w.heap.size ≠ w.heap.size + 1; omega) (unhide B0)
    have cz1 := World.block_lt_of_cell? _ _ ca1
    have A1 := hide ca1
    have B1 := hide cb1
    have HK1 := hide (Kq.trans (unhide HK0) hK1)
    have HS1 := hide hS1
    have HC1 := hide hc1
    clear hK1 hS1 hc1 C1
    have C2 := hide (medAdj_is (unhide HH) j (w.heap.size + 1) s1 d _ (unhide HS1) (by omega) (by omega) (by omega) (by omega) (unhide HC1))
    unfold lsV at C2
    go_wp2_with fail
    refine (unhide C2).mono ?_
    rintro e w2 ⟨x2, s2, rfl, hx2, hs2, hc2, hS2, hK2⟩
    have ca2 := hK2.cell (p := ⟨w.heap.size, 0, none⟩) hlow (by show w.heap.size ≠ w.heap.size + 1; omega) (unhide A1)
    have cb2 := hK2.cell (p := ⟨w.heap.size, 1, none⟩) hlow (by show w.heap.size ≠ w.heap.size + 1; omega) (unhide B1)
    have cz2 := World.block_lt_of_cell? _ _ ca2
    have A2 := hide ca2
    have B2 := hide cb2
    have HK2 := hide (Kq.trans (unhide HK1) hK2)
    have HS2 := hide hS2
    have HC2 := hide hc2
    clear hK2 hS2 hc2 C2
    have C3 := hide (medAdj_is (unhide HH) k (w.heap.size + 1) s2 d _ (unhide HS2) (by omega) (by omega) (by omega) (by omega) (unhide HC2))
    unfold lsV at C3
    go_wp2_with fail
    refine (unhide C3).mono ?_
    rintro e w3 ⟨x3, s3, rfl, hx3, hs3, hc3, hS3, hK3⟩
    have ca3 := hK3.cell (p := ⟨w.heap.size, 0, none⟩) hlow (by show w.heap.size ≠ w.heap.size + 1; omega) (unhide A2)
    have cb3 := hK3.cell (p := ⟨w.heap.size, 1, none⟩) hlow (by show w.heap.size ≠ w.heap.size + 1; omega) (unhide B2)
    have cz3 := World.block_lt_of_cell? _ _ ca3
    have A3 := hide ca3
    have B3 := hide cb3
    have HK3 := hide (Kq.trans (unhide HK2) hK3)
    have HS3 := hide hS3
    have HC3 := hide hc3
    clear hK3 hS3 hc3 C3
    have C4 := hide (median_is (unhide HH) x1 x2 x3 (w.heap.size + 1) s3 d _ (unhide HS3) (by omega) (by omega) (by omega) (by omega) (by omega) (unhide HC3))
    unfold lsV at C4
    go_wp2_with fail
    refine (unhide C4).mono ?_
    rintro e w4 ⟨x4, s4, rfl, hx4, hs4, hc4, hS4, hK4⟩
    have ca4 := hK4.cell (p := ⟨w.heap.size, 0, none⟩) hlow (by show w.heap.size ≠ w.heap.size + 1; omega) (unhide A3)
    have cb4 := hK4.cell (p := ⟨w.heap.size, 1, none⟩) hlow (by show w.heap.size ≠ w.heap.size + 1; omega) (unhide B3)
    have cz4 := World.block_lt_of_cell? _ _ ca4
    have A4 := hide ca4
    have B4 := hide cb4
    have HK4 := hide (Kq.trans (unhide HK3) hK4)
    have HS4 := hide hS4
    have HC4 := hide hc4
    clear hK4 hS4 hc4 C4
    obtain ⟨ct, cf⟩ := unhide HC4
    have ctz := World.block_lt_of_cell? _ _ ct
    have END := hide (Kq.all (unhide KH) (unhide HK4) (by omega))
    by_cases e0 : s4 = 0
    · subst e0
      go_wp2
      go_ret2
      exact ⟨x4, 1, rfl, by omega, by omega, by omega, unhide HS4, unhide END⟩
    · have e0I : ¬ ((s4 : Nat) : Int) = 0 := by omega
      have e0B : (((s4 : Nat) : Int) == 0) = false := by simp [e0]
      by_cases e12 : s4 = 12
      · subst e12
        go_wp2
        go_ret2
        exact ⟨x4, 2, rfl, by omega, by omega, by omega, unhide HS4, unhide END⟩
      · have e12I : ¬ ((s4 : Nat) : Int) = 12 := by omega
        have e12B : (((s4 : Nat) : Int) == 12) = false := by simp; omega
        go_wp2
        go_ret2
        exact ⟨x4, 0, rfl, by omega, by omega, by omega, unhide HS4, unhide END⟩
  · have h50I : ¬ (50 : Int) ≤ (l : Int) := by omega
    have C1 := hide (median_is (unhide HH) i j k (w.heap.size + 1) 0 d _ (unhide HS) (by omega) (by omega) (by omega) (by omega) (by omega) (unhide HC))
    unfold lsV at C1
    go_enter Tryz.func202, Tryz.ntmps202
    go_wp2_with fail
    refine (unhide C1).mono ?_
    rintro e w1 ⟨x1, s1, rfl, hx1, hs1, hc1, hS1, hK1⟩
    have ca1 := hK1.cell (p := ⟨w.heap.size, 0, none⟩) hlow (by show w.heap.size ≠ w.heap.size + 1; omega) (unhide A0)
    have cb1 := hK1.cell (p := ⟨w.heap.size, 1, none⟩) hlow (by show w.heap.size ≠ w.heap.size + 1; omega) (unhide B0)
    have cz1 := World.block_lt_of_cell? _ _ ca1
    have A1 := hide ca1
    have B1 := hide cb1
    have HK1 := hide (Kq.trans (unhide HK0) hK1)
    have HS1 := hide hS1
    have HC1 := hide hc1
    clear hK1 hS1 hc1 C1
    obtain ⟨ct, cf⟩ := unhide HC1
    have ctz := World.block_lt_of_cell? _ _ ct
    have END := hide (Kq.all (unhide KH) (unhide HK1) (by omega))
    by_cases e0 : s1 = 0
    · subst e0
      go_wp2
      go_ret2
      exact ⟨x1, 1, rfl, by omega, by omega, by omega, unhide HS1, unhide END⟩
    · have e0I : ¬ ((s1 : Nat) : Int) = 0 := by omega
      have e0B : (((s1 : Nat) : Int) == 0) = false := by simp [e0]
      by_cases e12 : s1 = 12
      · subst e12
        go_wp2
        go_ret2
        exact ⟨x1, 2, rfl, by omega, by omega, by omega, unhide HS1, unhide END⟩
      · have e12I : ¬ ((s1 : Nat) : Int) = 12 := by omega
        have e12B : (((s1 : Nat) : Int) == 12) = false := by simp; omega
        go_wp2
        go_ret2
        exact ⟨x1, 0, rfl, by omega, by omega, by omega, unhide HS1, unhide END⟩

end Go.Proofs.YtepmnpapdknocaaGreatDoor
