/- Contracts of covers, and of what is checked ahead of doing a transaction. -/
import Derived.Test.YtmomfkikogbdeaaGreatDoorCoinGive
import Derived.Test.YtmomfkikogbdeaaGreatDoorCoinCopyToCoinCopyC
import Derived.Test.YtmomfkikogbdeaaGreatDoorBookAllWToBlkReward
import Derived.Test.YtmomfkikogbdeaaGreatDoorTxPrintBToBookBase
import Derived.Test.YtmomfkikogbdeaaGreatDoorCoinPutToLockRunA
namespace Go.Proofs.YtmomfkikogbdeaaGreatDoor
open Go.RowKit

theorem sumC_bd : ∀ (L : List CoinD) (k : Nat), (∀ c ∈ L, 0 ≤ cv c ∧ cv c ≤ 1000000000) → 0 ≤ sumC (L.take k) ∧ sumC (L.take k) ≤ 1000000000 * (k : Int)
  | [], k, _ => by simp [sumC]; omega
  | c :: r, 0, _ => by simp [sumC]
  | c :: r, k + 1, h => by
    have h1 := h c (List.mem_cons_self ..)
    have h2 := sumC_bd r k (fun x hx => h x (List.mem_cons_of_mem _ hx))
    rw [List.take_succ_cons, sumC_cons]
    omega
theorem sumO_bd : ∀ (L : List OutD) (k : Nat), (∀ c ∈ L, 0 ≤ c.1 ∧ c.1 ≤ 1000000000) → 0 ≤ sumO (L.take k) ∧ sumO (L.take k) ≤ 1000000000 * (k : Int)
  | [], k, _ => by simp [sumO]; omega
  | c :: r, 0, _ => by simp [sumO]
  | c :: r, k + 1, h => by
    have h1 := h c (List.mem_cons_self ..)
    have h2 := sumO_bd r k (fun x hx => h x (List.mem_cons_of_mem _ hx))
    rw [List.take_succ_cons]
    have e : sumO (c :: r.take k) = c.1 + sumO (r.take k) := by simp [sumO]
    rw [e]
    omega

set_option maxRecDepth 10000 in
set_option maxHeartbeats 6400000 in
theorem covers_is (sa : Option Addr) (ns cs : Nat) (S : List CoinD) (ht : Int) (ai ao : Option Addr) (ni ci no co : Nat) (O : List OutD) (x : Int) (w : World) (hns : ns ≤ 6) (hno : no ≤ 6) (hS : CoinsAt w sa ns S) (hO : OutsAt w ao no O)
    (hs : ∀ c ∈ S, 0 ≤ cv c ∧ cv c ≤ 1000000000) (ho : ∀ c ∈ O, 0 ≤ c.1 ∧ c.1 ≤ 1000000000) (hx : (if sumC S - sumO O < 0 ∧ decide (ni = 0) = false then 9 else 0) = x) :
    Calls Tryz.prog 147 #[.slice sa ns cs, .agg #[.int .i64 ht, .slice ai ni ci, .slice ao no co]] w fun e w' => e = .returned (.int .i64 x) ∧ Below w.heap.size w w' := by
  obtain ⟨X0, hX0⟩ : ∃ X0, X0 = w.alloc (.cells #[.int .i64 ht, .slice ai ni ci, .slice ao no co] 59) := ⟨_, rfl⟩
  have hb0 : Below w.heap.size w X0 := by rw [hX0]; exact bel_new _ _
  have hX1 : X0.heap[w.heap.size]? = some (.cells [.int .i64 ht, .slice ai ni ci, .slice ao no co].toArray 59 (0, 0)) := by rw [hX0]; exact three_heap _ _ _ _ _
  have HSB := hide (fun k => sumC_bd S k hs)
  have HOB := hide (fun k => sumO_bd O k ho)
  have HS := hide (hS.later hb0)
  have HO := hide (hO.later hb0)
  have HZS := hide hS.1
  have HZO := hide hO.1
  have HX := hide hx
  have HX1 := hide hX1
  have HB0 := hide hb0
  clear hS hO hs ho hx hX1 hb0
  go_enter Tryz.func147, Tryz.ntmps147
  go_wp2
  rw [← hX0]
  clear hX0
  go_loopw [5, 12] (fun sv i wr => ∃ (k : Nat) (s : Int), k ≤ ns ∧ sv = .int .i64 s ∧ i = .int .i64 k ∧ Hid (s = sumC (S.take k)) ∧ Hid (Below X0.heap.size X0 wr)) (fun _ i _ => ns - (intOf i).toNat)
  case atStart => exact ⟨0, 0, Nat.zero_le _, rfl, rfl, rfl, Below.refl _ _⟩
  case round =>
    obtain ⟨k, s, hk, rfl, rfl, A, HB⟩ := hrel
    by_cases hlt : k < ns
    · have hlk : k < S.length := by rw [unhide HZS]; exact hlt
      obtain ⟨b, off, rfl, hbl, hcell⟩ := (unhide HS).2 (by omega)
      have hin := CoinAt.kept _ _ _ _ _ (unhide HB) (hcell k hlk)
      have b1 := (unhide HSB) k
      have b2 := (unhide HSB) (k + 1)
      have hst := sumC_take S k hlk
      obtain ⟨c, hc⟩ : ∃ c, S[k] = c := ⟨_, rfl⟩
      rw [hc] at hin hst
      obtain ⟨la, ln, lc, g0, g1, g2, g3, g4, g5, _, _⟩ := hin.val
      obtain ⟨v, hv⟩ : ∃ v, cv c = v := ⟨_, rfl⟩
      rw [hv] at g2 hst
      rw [← unhide A] at b1 hst
      rw [hst] at b2
      have A2 : Hid (s + v = sumC (S.take (k + 1))) := hst.symm
      have HB2 := hide (bel_on (unhide HB) (bel_new wr (.cells #[.int .i64 c.1, .int .i64 c.2.1, .int .i64 v, .slice la ln lc, .int .i64 (ch c), .bool (cr c)] 124)))
      have hw1 : IntKind.i64.wrap (s + v) = s + v := by rw [IntKind.wrap_i64]; omega
      clear hin hc hst A HB
      go_wp2
      go_roundw
      case rel => exact ⟨k + 1, s + v, by omega, rfl, by go_num, A2, HB2⟩
      case measure => simp [intOf]; omega
    · have e : k = ns := by omega
      subst e
      have A2 : Hid (s = sumC S) := by
        show _ = _
        rw [unhide A, List.take_of_length_le (by rw [unhide HZS]; exact Nat.le_refl _)]
      have b1 := (unhide HSB) k
      rw [← unhide A] at b1
      have hh := ((unhide HB).block _ (lt_of_block (unhide HX1))).trans (unhide HX1)
      have c2 := cell_of hh 2 _ rfl
      have hl := lt_of_block hh
      clear A hh
      go_wp2
      go_loopw [5, 25] (fun sv i wr2 => ∃ (j : Nat) (d : Int), j ≤ no ∧ sv = .int .i64 d ∧ i = .int .i64 j ∧ Hid (d = s - sumO (O.take j)) ∧ Hid (Below X0.heap.size X0 wr2)) (fun _ i _ => no - (intOf i).toNat)
      case atStart => exact ⟨0, s, Nat.zero_le _, rfl, rfl, (by simp [sumO] : s = s - sumO (O.take 0)), HB⟩
      case round =>
        obtain ⟨j, d, hj, rfl, rfl, D, HD⟩ := hrel
        clear HB
        have hbd := unhide HD
        by_cases hlt : j < no
        · have hlk : j < O.length := by rw [unhide HZO]; exact hlt
          obtain ⟨b, off, rfl, hbl, hcell⟩ := (unhide HO).2 (by omega)
          have hin := OutAt.kept _ _ _ _ _ hbd (hcell j hlk)
          have d1 := (unhide HOB) j
          have d2 := (unhide HOB) (j + 1)
          have hst := sumO_take O j hlk
          obtain ⟨o, hc⟩ : ∃ o, O[j] = o := ⟨_, rfl⟩
          rw [hc] at hin hst
          obtain ⟨q1, q2⟩ := o
          obtain ⟨g0, la, ln, lc, g1, _, _⟩ := hin
          simp only at g0 g1 hst
          have hd : d = s - sumO (O.take j) := unhide D
          have A3 : Hid (d - q1 = s - sumO (O.take (j + 1))) := by show _ = _; rw [hst]; omega
          have HB2 := hide (bel_on (unhide HD) (bel_new wr (.cells #[.int .i64 q1, .slice la ln lc] 122)))
          have hw1 : IntKind.i64.wrap (d - q1) = d - q1 := by rw [IntKind.wrap_i64]; omega
          clear hc hst D HD hd d1 d2 hbd
          go_wp2
          go_roundw
          case rel => exact ⟨j + 1, d - q1, by omega, rfl, by go_num, A3, HB2⟩
          case measure => simp [intOf]; omega
        · have e : j = no := by omega
          subst e
          have hd : d = sumC S - sumO O := by
            have := unhide D
            rw [List.take_of_length_le (by rw [unhide HZO]; exact Nat.le_refl _), unhide A2] at this
            exact this
          have hx := unhide HX
          rw [← hd] at hx
          have hh := (hbd.block _ (lt_of_block (unhide HX1))).trans (unhide HX1)
          have e0 := cell_of hh 0 _ rfl
          have e1 := cell_of hh 1 _ rfl
          have e2 := cell_of hh 2 _ rfl
          have hl2 := lt_of_block hh
          have HBD := hide (bel_on (unhide HB0) hbd)
          have IR := hide (fun w => isReward_is ht ai ao ni ci j co (decide (ni = 0)) w rfl)
          clear hh hbd D hd
          by_cases hneg : d < 0
          · cases hr : decide (ni = 0) with
            | true =>
              have R : Hid (x = 0) := by show _ = _; rw [← hx, if_neg (by rw [hr]; simp)]
              rw [hr] at IR
              clear hx hr
              go_wp2_with fail
              refine ((unhide IR) _).mono ?_
              rintro e w3 ⟨rfl, hb3⟩
              have HB3 := hide (bel_on (unhide HBD) hb3)
              clear hb3
              go_wp2
              go_ret
              exact ⟨by rw [unhide R]; rfl, unhide HB3⟩
            | false =>
              have R : Hid (x = 9) := by show _ = _; rw [← hx, if_pos ⟨hneg, hr⟩]
              rw [hr] at IR
              clear hx hr
              go_wp2_with fail
              refine ((unhide IR) _).mono ?_
              rintro e w3 ⟨rfl, hb3⟩
              have HB3 := hide (bel_on (unhide HBD) hb3)
              clear hb3
              go_wp2
              go_ret
              exact ⟨by rw [unhide R]; rfl, unhide HB3⟩
          · have R : Hid (x = 0) := by show _ = _; rw [← hx, if_neg (fun q => hneg q.1)]
            clear hx
            go_wp2
            go_ret
            exact ⟨by rw [unhide R]; rfl, unhide HBD⟩

end Go.Proofs.YtmomfkikogbdeaaGreatDoor

/- The contract of coversReward. -/
namespace Go.Proofs.YtmomfkikogbdeaaGreatDoor
open Go.RowKit

/-- Rows of undoings in memory. -/
def UndoAt (w : World) (b o : Nat) (s : List CoinD) : Prop := ∃ a n c, w.cell? ⟨b, o, none⟩ = some (.slice a n c) ∧ CoinsAt w a n s ∧ SlOk a n c
theorem UndoAt.kept {w w' : World} {b o : Nat} {s : List CoinD} (hb : Below w.heap.size w w') (h : UndoAt w b o s) : UndoAt w' b o s := by
  obtain ⟨a, n, c, h1, h2, h3⟩ := h
  exact ⟨a, n, c, cell_later hb h1, h2.later hb, h3⟩

end Go.Proofs.YtmomfkikogbdeaaGreatDoor

/- Contracts of what is checked ahead of doing a transaction. -/
namespace Go.Proofs.YtmomfkikogbdeaaGreatDoor
open Go.RowKit

set_option maxRecDepth 10000 in
set_option maxHeartbeats 1600000 in
theorem checkBoth_is (a : Option Addr) (n c : Nat) (L : List CoinD) (h : Int) (ai ao : Option Addr) (ni ci no co : Nat) (I : List InD) (O : List OutD) (x : Int) (w : World) (hL : CoinsAt w a n L) (hI : InsAt w ai ni I) (hO : OutsAt w ao no O) (sI : SlOk ai ni ci) (hx : ckBoth L (h, I, O) = x) :
    Calls Tryz.prog 202 #[.slice a n c, .agg #[.int .i64 h, .slice ai ni ci, .slice ao no co]] w fun e w' => e = .returned (.int .i64 x) ∧ Below w.heap.size w w' := by
  obtain ⟨X0, hX0⟩ : ∃ X0, X0 = w.alloc (.cells #[.int .i64 h, .slice ai ni ci, .slice ao no co] 59) := ⟨_, rfl⟩
  have hb0 : Below w.heap.size w X0 := by rw [hX0]; exact bel_new _ _
  have hX1 : X0.heap[w.heap.size]? = some (.cells [.int .i64 h, .slice ai ni ci, .slice ao no co].toArray 59 (0, 0)) := by rw [hX0]; exact three_heap _ _ _ _ _
  obtain ⟨y, hy⟩ : ∃ y, ckCoins L = y := ⟨_, rfl⟩
  have C1 := hide (uCheck_any a n c L y X0 (hL.later hb0) hy)
  have TX := hide (fun w' (hb : Below X0.heap.size X0 w') => txCheck_any h ai ao ni ci no co I O w' ((hI.later hb0).later hb) ((hO.later hb0).later hb) sI)
  have HX1 := hide hX1
  have HB0 := hide hb0
  unfold ckBoth at hx
  rw [hy] at hx
  clear hL hI hO sI hX1 hb0 hy
  by_cases h0 : y = 0
  · subst h0
    rw [if_neg (by decide)] at hx
    rw [hx] at TX
    clear hx
    go_enter Tryz.func202, Tryz.ntmps202
    go_wp2_with fail
    rw [← hX0]
    clear hX0
    refine (unhide C1).mono ?_
    rintro e w2 ⟨rfl, hb2⟩
    have hh := (hb2.block _ (lt_of_block (unhide HX1))).trans (unhide HX1)
    have c0 := cell_of hh 0 _ rfl
    have c1 := cell_of hh 1 _ rfl
    have c2 := cell_of hh 2 _ rfl
    have hl := lt_of_block hh
    have C2 := hide ((unhide TX) w2 hb2)
    have HB2 := hide (bel_on (unhide HB0) hb2)
    clear hh hb2
    go_wp2_with fail
    refine (unhide C2).mono ?_
    rintro e w3 ⟨rfl, hb3⟩
    have HB3 := hide (bel_on (unhide HB2) hb3)
    clear hb3
    go_wp2
    go_ret
    exact ⟨rfl, unhide HB3⟩
  · rw [if_pos h0] at hx
    subst hx
    have g : (y != 0) = true := by simp [h0]
    clear h0
    go_enter Tryz.func202, Tryz.ntmps202
    go_wp2_with fail
    rw [← hX0]
    clear hX0
    refine (unhide C1).mono ?_
    rintro e w2 ⟨rfl, hb2⟩
    have HB2 := hide (bel_on (unhide HB0) hb2)
    clear hb2
    go_wp2
    go_ret
    exact ⟨rfl, unhide HB2⟩

set_option maxRecDepth 10000 in
set_option maxHeartbeats 3200000 in
theorem checkApply_is (a : Option Addr) (n c : Nat) (L : List CoinD) (h : Int) (ai ao : Option Addr) (ni ci no co : Nat) (I : List InD) (O : List OutD) (name ht : Int) (x : Int) (w : World) (hL : CoinsAt w a n L) (hI : InsAt w ai ni I) (hO : OutsAt w ao no O) (sI : SlOk ai ni ci) (hx : ckApply L (h, I, O) name ht = x) :
    Calls Tryz.prog 144 #[.slice a n c, .agg #[.int .i64 h, .slice ai ni ci, .slice ao no co], .int .i64 name, .int .i64 ht] w fun e w' => e = .returned (.int .i64 x) ∧ Below w.heap.size w w' := by
  obtain ⟨X0, hX0⟩ : ∃ X0, X0 = w.alloc (.cells #[.int .i64 h, .slice ai ni ci, .slice ao no co] 59) := ⟨_, rfl⟩
  have hb0 : Below w.heap.size w X0 := by rw [hX0]; exact bel_new _ _
  have hX1 : X0.heap[w.heap.size]? = some (.cells [.int .i64 h, .slice ai ni ci, .slice ao no co].toArray 59 (0, 0)) := by rw [hX0]; exact three_heap _ _ _ _ _
  obtain ⟨y, hy⟩ : ∃ y, ckBoth L (h, I, O) = y := ⟨_, rfl⟩
  have C1 := hide (checkBoth_is a n c L h ai ao ni ci no co I O y X0 (hL.later hb0) (hI.later hb0) (hO.later hb0) sI hy)
  have hIl := hI.1
  have x0 := cell_of hX1 0 _ rfl
  have x1 := cell_of hX1 1 _ rfl
  have x2 := cell_of hX1 2 _ rfl
  have HX1 := hide hX1
  have HB0 := hide hb0
  unfold ckApply at hx
  rw [hy] at hx
  have hR : isR (h, I, O) = decide (ni = 0) := by unfold isR; rw [← hIl]
  rw [hR] at hx
  clear hL hI hO sI hX1 hb0 hy hR hIl
  by_cases h0 : y = 0
  · subst h0
    rw [if_neg (by decide)] at hx
    cases hN : okN name with
    | false =>
      rw [hN, Bool.false_and, if_pos rfl] at hx
      subst hx
      have W1 := hide (fun w => within_is name 1 120 false w (by rw [← hN]; rfl))
      clear hN
      go_enter Tryz.func144, Tryz.ntmps144
      go_wp2_with fail
      rw [← hX0]
      clear hX0
      refine (unhide C1).mono ?_
      rintro e w2 ⟨rfl, hb2⟩
      have HB2 := hide (bel_on (unhide HB0) hb2)
      clear hb2
      go_wp2_with fail
      refine ((unhide W1) _).mono ?_
      rintro e w3 ⟨rfl, rfl⟩
      go_wp2
      go_ret
      exact ⟨rfl, unhide HB2⟩
    | true =>
      rw [hN, Bool.true_and] at hx
      have W1 := hide (fun w => within_is name 1 120 true w (by rw [← hN]; rfl))
      cases hH : okH ht with
      | false =>
        rw [hH, if_pos rfl] at hx
        subst hx
        have W2 := hide (fun w => uisHeight_is ht false w hH)
        clear hN hH
        go_enter Tryz.func144, Tryz.ntmps144
        go_wp2_with fail
        rw [← hX0]
        clear hX0
        refine (unhide C1).mono ?_
        rintro e w2 ⟨rfl, hb2⟩
        have HB2 := hide (bel_on (unhide HB0) hb2)
        clear hb2
        go_wp2_with fail
        refine ((unhide W1) _).mono ?_
        rintro e w3 ⟨rfl, rfl⟩
        go_wp2_with fail
        refine ((unhide W2) _).mono ?_
        rintro e w3 ⟨rfl, rfl⟩
        go_wp2
        go_ret
        exact ⟨rfl, unhide HB2⟩
      | true =>
        rw [hH, if_neg (by decide)] at hx
        have W2 := hide (fun w => uisHeight_is ht true w hH)
        clear hN hH
        have body : ∀ (r : Bool) (q : Bool) (hr : decide (ni = 0) = r) (hq : (h != ht) = q) (hz : (if r = true ∧ q = true then (4 : Int) else 0) = x), Calls Tryz.prog 144 #[.slice a n c, .agg #[.int .i64 h, .slice ai ni ci, .slice ao no co], .int .i64 name, .int .i64 ht] w fun e w' => e = .returned (.int .i64 x) ∧ Below w.heap.size w w' := by
          intro r q hr hq hz
          have IR := hide (fun w => isReward_is h ai ao ni ci no co r w hr)
          cases r with
          | false =>
            rw [if_neg (by simp)] at hz
            subst hz
            clear hx hr
            go_enter Tryz.func144, Tryz.ntmps144
            go_wp2_with fail
            rw [← hX0]
            clear hX0
            refine (unhide C1).mono ?_
            rintro e w2 ⟨rfl, hb2⟩
            have hh := (hb2.block _ (lt_of_block (unhide HX1))).trans (unhide HX1)
            have c0 := cell_of hh 0 _ rfl
            have c1 := cell_of hh 1 _ rfl
            have c2 := cell_of hh 2 _ rfl
            have hl := lt_of_block hh
            have HB2 := hide (bel_on (unhide HB0) hb2)
            clear hb2 hh
            go_wp2_with fail
            refine ((unhide W1) _).mono ?_
            rintro e w3 ⟨rfl, rfl⟩
            go_wp2_with fail
            refine ((unhide W2) _).mono ?_
            rintro e w3 ⟨rfl, rfl⟩
            go_wp2_with fail
            refine ((unhide IR) _).mono ?_
            rintro e w3 ⟨rfl, hb3⟩
            have HB3 := hide (bel_on (unhide HB2) hb3)
            clear hb3
            go_wp2
            go_ret
            exact ⟨rfl, unhide HB3⟩
          | true =>
            cases q with
            | false =>
              rw [if_neg (by simp)] at hz
              subst hz
              clear hx hr
              go_enter Tryz.func144, Tryz.ntmps144
              go_wp2_with fail
              rw [← hX0]
              clear hX0
              refine (unhide C1).mono ?_
              rintro e w2 ⟨rfl, hb2⟩
              have hh := (hb2.block _ (lt_of_block (unhide HX1))).trans (unhide HX1)
              have c0 := cell_of hh 0 _ rfl
              have c1 := cell_of hh 1 _ rfl
              have c2 := cell_of hh 2 _ rfl
              have hl := lt_of_block hh
              have HH := hide hh
              have HB2 := hide (bel_on (unhide HB0) hb2)
              clear hb2 hh
              go_wp2_with fail
              refine ((unhide W1) _).mono ?_
              rintro e w3 ⟨rfl, rfl⟩
              go_wp2_with fail
              refine ((unhide W2) _).mono ?_
              rintro e w3 ⟨rfl, rfl⟩
              go_wp2_with fail
              refine ((unhide IR) _).mono ?_
              rintro e w4 ⟨rfl, hb4⟩
              have d0 := cell_later hb4 c0
              have hl4 := World.block_lt_of_cell? _ _ d0
              have HB4 := hide (bel_on (unhide HB2) hb4)
              clear hb4 c0 c1 c2
              go_wp2
              go_ret
              exact ⟨rfl, unhide HB4⟩
            | true =>
              rw [if_pos ⟨rfl, rfl⟩] at hz
              subst hz
              clear hx hr
              go_enter Tryz.func144, Tryz.ntmps144
              go_wp2_with fail
              rw [← hX0]
              clear hX0
              refine (unhide C1).mono ?_
              rintro e w2 ⟨rfl, hb2⟩
              have hh := (hb2.block _ (lt_of_block (unhide HX1))).trans (unhide HX1)
              have c0 := cell_of hh 0 _ rfl
              have c1 := cell_of hh 1 _ rfl
              have c2 := cell_of hh 2 _ rfl
              have hl := lt_of_block hh
              have HH := hide hh
              have HB2 := hide (bel_on (unhide HB0) hb2)
              clear hb2 hh
              go_wp2_with fail
              refine ((unhide W1) _).mono ?_
              rintro e w3 ⟨rfl, rfl⟩
              go_wp2_with fail
              refine ((unhide W2) _).mono ?_
              rintro e w3 ⟨rfl, rfl⟩
              go_wp2_with fail
              refine ((unhide IR) _).mono ?_
              rintro e w4 ⟨rfl, hb4⟩
              have d0 := cell_later hb4 c0
              have hl4 := World.block_lt_of_cell? _ _ d0
              have HB4 := hide (bel_on (unhide HB2) hb4)
              clear hb4 c0 c1 c2
              go_wp2
              go_ret
              exact ⟨rfl, unhide HB4⟩
        refine body (decide (ni = 0)) (h != ht) rfl rfl ?_
        rw [← hx]
        by_cases e1 : ni = 0 <;> by_cases e2 : h = ht <;> simp [e1, e2]
  · rw [if_pos h0] at hx
    subst hx
    have g : (y != 0) = true := by simp [h0]
    clear h0
    go_enter Tryz.func144, Tryz.ntmps144
    go_wp2_with fail
    rw [← hX0]
    clear hX0
    refine (unhide C1).mono ?_
    rintro e w2 ⟨rfl, hb2⟩
    have HB2 := hide (bel_on (unhide HB0) hb2)
    clear hb2
    go_wp2
    go_ret
    exact ⟨rfl, unhide HB2⟩

end Go.Proofs.YtmomfkikogbdeaaGreatDoor

/- What right transactions and coins have. Nothing of the program. -/
namespace Go.Proofs.YtmomfkikogbdeaaGreatDoor

theorem sm_zero : ∀ (l : List Int) (s : Int), (sm s l).2 = 0 → ∀ x ∈ l, 0 ≤ x ∧ x ≤ 1000000000
  | [], _, _ => by simp
  | y :: r, s, h => by
    intro x hx
    unfold sm at h
    split at h
    · rename_i hy
      split at h
      · rcases List.mem_cons.1 hx with rfl | hx
        · exact hy
        · exact sm_zero r _ h x hx
      · cases h
    · cases h
theorem chkTx_zero {t : TxD} (h : chkTx t = 0) : t.2.1.length ≤ 6 ∧ t.2.2.length ≤ 6 ∧ 0 < t.2.2.length ∧ hFit t = true ∧ chkIns [] t.2.1 = 0 ∧ chkOuts t.2.2 = 0 ∧ (sm 0 (t.2.2.map (·.1))).2 = 0 := by
  unfold chkTx at h
  split at h
  · cases h
  rename_i h1
  split at h
  · cases h
  rename_i h2
  split at h
  · cases h
  rename_i h3
  split at h
  · rename_i h4; exact absurd h h4
  rename_i h4
  unfold chkOutsAll at h
  split at h
  · rename_i h5
    exact ⟨by omega, by omega, by omega, by simpa using h3, by simpa using h4, h5, h⟩
  · rename_i h5; exact absurd h h5
theorem outs_bd {t : TxD} (h : chkTx t = 0) : ∀ o ∈ t.2.2, 0 ≤ o.1 ∧ o.1 ≤ 1000000000 := fun o ho =>
  sm_zero _ 0 (chkTx_zero h).2.2.2.2.2.2 o.1 (List.mem_map_of_mem ho)
theorem ckBoth_zero {L : List CoinD} {t : TxD} (h : ckBoth L t = 0) : RightC L ∧ chkTx t = 0 := by
  unfold ckBoth at h
  split at h
  · rename_i h1; exact absurd h h1
  · rename_i h1; exact ⟨(ckCoins_zero L).1 (by simpa using h1), h⟩
theorem ckApply_zero {L : List CoinD} {t : TxD} {name h : Int} (q : ckApply L t name h = 0) : RightC L ∧ chkTx t = 0 ∧ okN name = true ∧ okH h = true ∧ (t.2.1.length = 0 → t.1 = h) := by
  unfold ckApply at q
  split at q
  · rename_i h1; exact absurd q h1
  rename_i h1
  split at q
  · cases q
  rename_i h2
  split at q
  · cases q
  rename_i h3
  obtain ⟨r1, r2⟩ := ckBoth_zero (by simpa using h1)
  rw [Bool.not_eq_false, Bool.and_eq_true] at h2
  refine ⟨r1, r2, h2.1, h2.2, fun e => ?_⟩
  refine Decidable.byContradiction fun n => h3 ⟨by unfold isR; exact decide_eq_true e, n⟩
theorem apD_eq {L : List CoinD} {t : TxD} {name h x1 x2 x3 x4 x5 : Int} {S2 M2 M4 : List CoinD} (h1 : ckApply L t name h = x1) (h2 : spendGo h t.2.1 [] L = (x2, S2, M2)) (h3 : covD S2 t = x3) (h4 : giveGo name h (isR t) 0 t.2.2 M2 = (x4, M4)) (h5 : ckCoins M4 = x5) :
    apD L t name h = if x1 ≠ 0 then (x1, [], []) else if x2 ≠ 0 then (x2, [], []) else if x3 ≠ 0 then (x3, [], []) else if x4 ≠ 0 then (x4, [], []) else if x5 ≠ 0 then (x5, [], []) else (0, M4, S2) := by
  unfold apD
  simp only [h1, h2, h3, h4, h5]
theorem chk_len {l : List (Int × Int)} (h : chk l = 0) : l.length ≤ 16 := by
  unfold chk at h
  split at h
  · cases h
  · omega

end Go.Proofs.YtmomfkikogbdeaaGreatDoor
