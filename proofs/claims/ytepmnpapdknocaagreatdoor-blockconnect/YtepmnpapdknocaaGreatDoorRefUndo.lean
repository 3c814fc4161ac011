/- The contract of the reference's SameUndos. -/
import Derived.Test.YtepmnpapdknocaaGreatDoorRefEq
import Derived.Test.YtepmnpapdknocaaGreatDoorBlkConM
namespace Go.Proofs.YtepmnpapdknocaaGreatDoor
open Go.RowKit

/-- Are two rows of undoings alike? -/
def sameU : List (List CoinD) → List (List CoinD) → Bool
  | [], [] => true
  | x :: r, y :: q => sameL x y && sameU r q
  | _, _ => false
theorem sameU_self : ∀ l : List (List CoinD), sameU l l = true
  | [] => rfl
  | x :: r => by rw [sameU, sameL_yes rfl, sameU_self r]; rfl
theorem sameU_drop (l k : List (List CoinD)) (i : Nat) (h1 : i < l.length) (h2 : i < k.length) : sameU (l.drop i) (k.drop i) = (sameL l[i] k[i] && sameU (l.drop (i + 1)) (k.drop (i + 1))) := by
  rw [List.drop_eq_getElem_cons h1, List.drop_eq_getElem_cons h2, sameU]
theorem sameU_len : ∀ {l k : List (List CoinD)}, l.length ≠ k.length → sameU l k = false
  | [], [], h => absurd rfl h
  | [], _ :: _, _ => rfl
  | _ :: _, [], _ => rfl
  | x :: r, y :: q, h => by rw [sameU, sameU_len (l := r) (k := q) (by simpa using h)]; simp

set_option maxRecDepth 10000 in
set_option maxHeartbeats 1600000 in
theorem sameUndo1_is (a b : Option Addr) (n m c d : Nat) (l k : List CoinD) (o : Bool) (w : World) (hn : n ≤ maxLen) (hA : CoinsAt w a n l) (hB : CoinsAt w b m k) (ho : sameL l k = o) :
    Calls Tryz.prog 49 #[.agg #[.slice a n c], .agg #[.slice b m d]] w fun e w' => e = .returned (.bool o) ∧ Below w.heap.size w w' := by
  obtain ⟨X, hX⟩ : ∃ X, X = (w.alloc (.cells #[.slice a n c] 68)).alloc (.cells #[.slice b m d] 68) := ⟨_, rfl⟩
  have hb : Below w.heap.size w X := by rw [hX]; exact bel_on (bel_new _ _) (bel_new _ _)
  have C := hide (rsameCoins_is a b n m c d l k o X hn (hA.later hb) (hB.later hb) ho)
  have HB := hide hb
  clear hA hB ho hb
  go_enter Tryz.func49, Tryz.ntmps49
  go_wp2_with fail
  rw [← hX]
  refine (unhide C).mono ?_
  rintro e w2 ⟨rfl, hb2⟩
  have HB2 := hide (bel_on (unhide HB) hb2)
  clear hb2
  go_wp2
  go_ret
  exact ⟨rfl, unhide HB2⟩

set_option maxRecDepth 10000 in
set_option maxHeartbeats 3200000 in
theorem eqUndo_is (a b : Option Addr) (n m c d : Nat) (l k : List (List CoinD)) (o : Bool) (w : World) (hn : n ≤ 4096) (hA : UndosAt w a n l) (hB : UndosAt w b m k) (ho : sameU l k = o) :
    Calls Tryz.prog 48 #[.slice a n c, .slice b m d, .func (.func 49) #[] #[]] w fun e w' => e = .returned (.bool o) ∧ Below w.heap.size w w' := by
  have z1 := hA.1
  have z2 := hB.1
  by_cases hnm : n = m
  · subst hnm
    have HA := hide hA
    have HB := hide hB
    have Z1 := hide z1
    have Z2 := hide z2
    have HO := hide ho
    have g : ((n : Int) != (n : Int)) = false := by simp
    clear hA hB z1 z2 ho
    go_enter Tryz.func48, Tryz.ntmps48
    go_wp2
    go_loopw [17] (fun i wr => ∃ j : Nat, j ≤ n ∧ i = .int .i64 j ∧ Hid (Below w.heap.size w wr) ∧ Hid (sameU (l.drop j) (k.drop j) = o)) (fun i _ => n - (intOf i).toNat)
    case atStart => exact ⟨0, Nat.zero_le _, rfl, Below.refl _ _, HO⟩
    case round =>
      obtain ⟨j, hj, rfl, HW, HE⟩ := hrel
      by_cases hlt : j < n
      · have h1 : j < l.length := by rw [unhide Z1]; exact hlt
        have h2 : j < k.length := by rw [unhide Z2]; exact hlt
        obtain ⟨b1, o1, rfl, _, c1⟩ := (unhide HA).2 (by omega)
        obtain ⟨b2, o2, rfl, _, c2⟩ := (unhide HB).2 (by omega)
        have hd := sameU_drop l k j h1 h2
        obtain ⟨a1, n1, e1, u1, k1, s1⟩ := c1 j h1
        obtain ⟨a2, n2, e2, u2, k2, s2⟩ := c2 j h2
        obtain ⟨q, hq⟩ : ∃ q, sameL l[j] k[j] = q := ⟨_, rfl⟩
        rw [hq] at hd
        have p1 := cell_later (unhide HW) u1
        have p2 := cell_later (unhide HW) u2
        have pl1 := World.block_lt_of_cell? _ _ p1
        have pl2 := World.block_lt_of_cell? _ _ p2
        obtain ⟨X, hX⟩ : ∃ X, X = (wr.alloc (.cells #[.slice a1 n1 e1] 68)).alloc (.cells #[.slice a2 n2 e2] 68) := ⟨_, rfl⟩
        have hbX : Below wr.heap.size wr X := by rw [hX]; exact bel_on (bel_new _ _) (bel_new _ _)
        have C := hide (sameUndo1_is a1 a2 n1 n2 e1 e2 l[j] k[j] q X s1.len ((k1.later (unhide HW)).later hbX) ((k2.later (unhide HW)).later hbX) hq)
        have HX := hide (bel_on (unhide HW) hbX)
        have hj0 : (0 : Int) ≤ (j : Int) := by omega
        have hj1 : (j : Int) < (n : Int) := by omega
        have HD := hide hd
        clear hd u1 u2 k1 k2 s1 s2 c1 c2 hq hbX
        cases q with
        | true =>
          have HE2 : Hid (sameU (l.drop (j + 1)) (k.drop (j + 1)) = o) := by
            show _ = _
            rw [← unhide HE, unhide HD]
            rfl
          clear HD HE
          go_wp2_with fail
          rw [← hX]
          clear hX
          refine (unhide C).mono ?_
          rintro e w2 ⟨rfl, hb2⟩
          have HB2 := hide (bel_on (unhide HX) hb2)
          clear hb2 C
          go_wp2
          go_roundw
          case rel => exact ⟨j + 1, by omega, by go_num, HB2, HE2⟩
          case measure => simp [intOf]; omega
        | false =>
          have R : Hid (o = false) := by
            show _ = _
            rw [← unhide HE, unhide HD]
            rfl
          clear HD HE
          go_wp2_with fail
          rw [← hX]
          clear hX
          refine (unhide C).mono ?_
          rintro e w2 ⟨rfl, hb2⟩
          have HB2 := hide (bel_on (unhide HX) hb2)
          clear hb2 C
          go_wp2
          go_ret
          exact ⟨by rw [unhide R]; rfl, unhide HB2⟩
      · have R : Hid (o = true) := by
          show _ = _
          rw [← unhide HE, List.drop_of_length_le (by rw [unhide Z1]; omega), List.drop_of_length_le (by rw [unhide Z2]; omega)]
          rfl
        clear HE
        go_wp2
        go_ret
        exact ⟨by rw [unhide R]; rfl, unhide HW⟩
  · have R : Hid (o = false) := by show _ = _; rw [← ho]; exact sameU_len (by rw [z1, z2]; exact hnm)
    have g : ((n : Int) != (m : Int)) = true := by simp; omega
    clear hA hB ho z1 z2
    go_enter Tryz.func48, Tryz.ntmps48
    go_wp2
    go_ret
    exact ⟨by rw [unhide R]; rfl, Below.refl _ _⟩

set_option maxHeartbeats 800000 in
theorem rsameUndos_is (a b : Option Addr) (n m c d : Nat) (l k : List (List CoinD)) (o : Bool) (w : World) (hn : n ≤ 4096) (hA : UndosAt w a n l) (hB : UndosAt w b m k) (ho : sameU l k = o) :
    Calls Tryz.prog 18 #[.slice a n c, .slice b m d] w fun e w' => e = .returned (.bool o) ∧ Below w.heap.size w w' := by
  have C := hide (eqUndo_is a b n m c d l k o w hn hA hB ho)
  clear hA hB ho
  go_enter Tryz.func18, Tryz.ntmps18
  go_wp2_with fail
  refine (unhide C).mono ?_
  rintro e w2 ⟨rfl, hb2⟩
  have HB2 := hide hb2
  clear hb2
  go_wp2
  go_ret
  exact ⟨rfl, unhide HB2⟩

end Go.Proofs.YtepmnpapdknocaaGreatDoor
