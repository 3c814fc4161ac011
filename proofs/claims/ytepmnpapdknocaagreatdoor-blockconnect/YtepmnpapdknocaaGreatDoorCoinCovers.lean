/- Contracts of covers, and of what is checked ahead of doing a transaction. -/
import Derived.Test.YtepmnpapdknocaaGreatDoorCoinGive
import Derived.Test.YtepmnpapdknocaaGreatDoorCoinCopyC
namespace Go.Proofs.YtepmnpapdknocaaGreatDoor
open Go.RowKit

theorem sumC_bd : ∀ (L : List CoinD) (k : Nat), (∀ c ∈ L, 0 ≤ cv c ∧ cv c ≤ 1000000000) → 0 ≤ sumC (L.take k) ∧ sumC (L.take k) ≤ 1000000000 * (k : Int)
  | [], k, _ => by simp [sumC]; omega
  | c :: r, 0, _ => by simp [sumC]
  | c :: r, k + 1, h => by
    have h1 := h c (List.mem_cons_self ..)
    have h2 := sumC_bd r k (fun x hx => h x (List.mem_cons_of_mem _ hx))
    rw [List.take_succ_cons, sumC_cons]
    omega
theorem sumO_bd : ∀ (L : List OutD) (k : Nat), (∀ c ∈ L, 0 ≤ c.1 ∧ c.1 ≤ 1000000000) → 0 ≤ sumO (L.take k) ∧ sumO (L.take k) ≤ 1000000000 * (k : Int)
  | [], k, _ => by simp [sumO]; omega
  | c :: r, 0, _ => by simp [sumO]
  | c :: r, k + 1, h => by
    have h1 := h c (List.mem_cons_self ..)
    have h2 := sumO_bd r k (fun x hx => h x (List.mem_cons_of_mem _ hx))
    rw [List.take_succ_cons]
    have e : sumO (c :: r.take k) = c.1 + sumO (r.take k) := by simp [sumO]
    rw [e]
    omega

set_option maxRecDepth 10000 in
set_option maxHeartbeats 6400000 in
theorem covers_is (sa : Option Addr) (ns cs : Nat) (S : List CoinD) (ht : Int) (ai ao : Option Addr) (ni ci no co : Nat) (O : List OutD) (x : Int) (w : World) (hns : ns ≤ 6) (hno : no ≤ 6) (hS : CoinsAt w sa ns S) (hO : OutsAt w ao no O)
    (hs : ∀ c ∈ S, 0 ≤ cv c ∧ cv c ≤ 1000000000) (ho : ∀ c ∈ O, 0 ≤ c.1 ∧ c.1 ≤ 1000000000) (hx : (if sumC S - sumO O < 0 ∧ decide (ni = 0) = false then 9 else 0) = x) :
    Calls Tryz.prog 71 #[.slice sa ns cs, .agg #[.int .i64 ht, .slice ai ni ci, .slice ao no co]] w fun e w' => e = .returned (.int .i64 x) ∧ Below w.heap.size w w' := by
  obtain ⟨X0, hX0⟩ : ∃ X0, X0 = w.alloc (.cells #[.int .i64 ht, .slice ai ni ci, .slice ao no co] 74) := ⟨_, rfl⟩
  have hb0 : Below w.heap.size w X0 := by rw [hX0]; exact bel_new _ _
  have hX1 : X0.heap[w.heap.size]? = some (.cells [.int .i64 ht, .slice ai ni ci, .slice ao no co].toArray 74 (0, 0)) := by rw [hX0]; exact three_heap _ _ _ _ _
  have HSB := hide (fun k => sumC_bd S k hs)
  have HOB := hide (fun k => sumO_bd O k ho)
  have HS := hide (hS.later hb0)
  have HO := hide (hO.later hb0)
  have HZS := hide hS.1
  have HZO := hide hO.1
  have HX := hide hx
  have HX1 := hide hX1
  have HB0 := hide hb0
  clear hS hO hs ho hx hX1 hb0
  go_enter Tryz.func71, Tryz.ntmps71
  go_wp2
  rw [← hX0]
  clear hX0
  go_loopw [5, 12] (fun sv i wr => ∃ (k : Nat) (s : Int), k ≤ ns ∧ sv = .int .i64 s ∧ i = .int .i64 k ∧ Hid (s = sumC (S.take k)) ∧ Hid (Below X0.heap.size X0 wr)) (fun _ i _ => ns - (intOf i).toNat)
  case atStart => exact ⟨0, 0, Nat.zero_le _, rfl, rfl, rfl, Below.refl _ _⟩
  case round =>
    obtain ⟨k, s, hk, rfl, rfl, A, HB⟩ := hrel
    by_cases hlt : k < ns
    · have hlk : k < S.length := by rw [unhide HZS]; exact hlt
      obtain ⟨b, off, rfl, hbl, hcell⟩ := (unhide HS).2 (by omega)
      have hin := CoinAt.kept _ _ _ _ _ (unhide HB) (hcell k hlk)
      have b1 := (unhide HSB) k
      have b2 := (unhide HSB) (k + 1)
      have hst := sumC_take S k hlk
      obtain ⟨c, hc⟩ : ∃ c, S[k] = c := ⟨_, rfl⟩
      rw [hc] at hin hst
      obtain ⟨la, ln, lc, g0, g1, g2, g3, g4, g5, _, _⟩ := hin.val
      obtain ⟨v, hv⟩ : ∃ v, cv c = v := ⟨_, rfl⟩
      rw [hv] at g2 hst
      rw [← unhide A] at b1 hst
      rw [hst] at b2
      have A2 : Hid (s + v = sumC (S.take (k + 1))) := hst.symm
      have HB2 := hide (bel_on (unhide HB) (bel_new wr (.cells #[.int .i64 c.1, .int .i64 c.2.1, .int .i64 v, .slice la ln lc, .int .i64 (ch c), .bool (cr c)] 88)))
      have hw1 : IntKind.i64.wrap (s + v) = s + v := by rw [IntKind.wrap_i64]; omega
      clear hin hc hst A HB
      go_wp2
      go_roundw
      case rel => exact ⟨k + 1, s + v, by omega, rfl, by go_num, A2, HB2⟩
      case measure => simp [intOf]; omega
    · have e : k = ns := by omega
      subst e
      have A2 : Hid (s = sumC S) := by
        show _ = _
        rw [unhide A, List.take_of_length_le (by rw [unhide HZS]; exact Nat.le_refl _)]
      have b1 := (unhide HSB) k
      rw [← unhide A] at b1
      have hh := ((unhide HB).block _ (lt_of_block (unhide HX1))).trans (unhide HX1)
      have c2 := cell_of hh 2 _ rfl
      have hl := lt_of_block hh
      clear A hh
      go_wp2
      go_loopw [5, 25] (fun sv i wr2 => ∃ (j : Nat) (d : Int), j ≤ no ∧ sv = .int .i64 d ∧ i = .int .i64 j ∧ Hid (d = s - sumO (O.take j)) ∧ Hid (Below X0.heap.size X0 wr2)) (fun _ i _ => no - (intOf i).toNat)
      case atStart => exact ⟨0, s, Nat.zero_le _, rfl, rfl, (by simp [sumO] : s = s - sumO (O.take 0)), HB⟩
      case round =>
        obtain ⟨j, d, hj, rfl, rfl, D, HD⟩ := hrel
        clear HB
        have hbd := unhide HD
        by_cases hlt : j < no
        · have hlk : j < O.length := by rw [unhide HZO]; exact hlt
          obtain ⟨b, off, rfl, hbl, hcell⟩ := (unhide HO).2 (by omega)
          have hin := OutAt.kept _ _ _ _ _ hbd (hcell j hlk)
          have d1 := (unhide HOB) j
          have d2 := (unhide HOB) (j + 1)
          have hst := sumO_take O j hlk
          obtain ⟨o, hc⟩ : ∃ o, O[j] = o := ⟨_, rfl⟩
          rw [hc] at hin hst
          obtain ⟨q1, q2⟩ := o
          obtain ⟨g0, la, ln, lc, g1, _, _⟩ := hin
          simp only at g0 g1 hst
          have hd : d = s - sumO (O.take j) := unhide D
          have A3 : Hid (d - q1 = s - sumO (O.take (j + 1))) := by show _ = _; rw [hst]; omega
          have HB2 := hide (bel_on (unhide HD) (bel_new wr (.cells #[.int .i64 q1, .slice la ln lc] 84)))
          have hw1 : IntKind.i64.wrap (d - q1) = d - q1 := by rw [IntKind.wrap_i64]; omega
          clear hc hst D HD hd d1 d2 hbd
          go_wp2
          go_roundw
          case rel => exact ⟨j + 1, d - q1, by omega, rfl, by go_num, A3, HB2⟩
          case measure => simp [intOf]; omega
        · have e : j = no := by omega
          subst e
          have hd : d = sumC S - sumO O := by
            have := unhide D
            rw [List.take_of_length_le (by rw [unhide HZO]; exact Nat.le_refl _), unhide A2] at this
            exact this
          have hx := unhide HX
          rw [← hd] at hx
          have hh := (hbd.block _ (lt_of_block (unhide HX1))).trans (unhide HX1)
          have e0 := cell_of hh 0 _ rfl
          have e1 := cell_of hh 1 _ rfl
          have e2 := cell_of hh 2 _ rfl
          have hl2 := lt_of_block hh
          have HBD := hide (bel_on (unhide HB0) hbd)
          have IR := hide (fun w => isReward_is ht ai ao ni ci j co (decide (ni = 0)) w rfl)
          clear hh hbd D hd
          by_cases hneg : d < 0
          · cases hr : decide (ni = 0) with
            | true =>
              have R : Hid (x = 0) := by show _ = _; rw [← hx, if_neg (by rw [hr]; simp)]
              rw [hr] at IR
              clear hx hr
              go_wp2_with fail
              refine ((unhide IR) _).mono ?_
              rintro e w3 ⟨rfl, hb3⟩
              have HB3 := hide (bel_on (unhide HBD) hb3)
              clear hb3
              go_wp2
              go_ret
              exact ⟨by rw [unhide R]; rfl, unhide HB3⟩
            | false =>
              have R : Hid (x = 9) := by show _ = _; rw [← hx, if_pos ⟨hneg, hr⟩]
              rw [hr] at IR
              clear hx hr
              go_wp2_with fail
              refine ((unhide IR) _).mono ?_
              rintro e w3 ⟨rfl, hb3⟩
              have HB3 := hide (bel_on (unhide HBD) hb3)
              clear hb3
              go_wp2
              go_ret
              exact ⟨by rw [unhide R]; rfl, unhide HB3⟩
          · have R : Hid (x = 0) := by show _ = _; rw [← hx, if_neg (fun q => hneg q.1)]
            clear hx
            go_wp2
            go_ret
            exact ⟨by rw [unhide R]; rfl, unhide HBD⟩

end Go.Proofs.YtepmnpapdknocaaGreatDoor
