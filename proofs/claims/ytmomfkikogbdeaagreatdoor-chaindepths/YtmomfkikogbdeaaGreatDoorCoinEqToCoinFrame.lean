/- Contracts of what holds orders, outputs and coins against each other, whatever they are. -/
import Derived.Test.YtmomfkikogbdeaaGreatDoorTxCheckToCoinCheckB
import Derived.Test.YtmomfkikogbdeaaGreatDoorTxSameToBlkSameB
import Derived.Test.YtmomfkikogbdeaaGreatDoorChnCoinsToChnChained
import Derived.Test.YtmomfkikogbdeaaGreatDoorCoinMathToTxSum
import Derived.WalkKit
import Derived.ProofKit
import Derived.OpenShut
import Derived.ShutString
import Derived.ChangeOld
import Derived.Below
import Derived.Carry
import Derived.SizedLaws
import Derived.Deep.Strs
import Derived.Deep.SlicePairs
import Derived.Lib.SmallJoins
namespace Go.Proofs.YtmomfkikogbdeaaGreatDoor
open Go.RowKit

set_option maxHeartbeats 1600000 in
set_option maxHeartbeats 400000 in
set_option maxHeartbeats 400000 in
set_option maxRecDepth 10000 in
set_option maxHeartbeats 1600000 in
/-- Are two rows of coins alike? -/
def sameL : List CoinD → List CoinD → Bool
  | [], [] => true
  | x :: r, y :: q => decide (x = y) && sameL r q
  | _, _ => false
theorem sameL_iff : ∀ (l k : List CoinD), sameL l k = true ↔ l = k
  | [], [] => by simp [sameL]
  | [], y :: q => by simp [sameL]
  | x :: r, [] => by simp [sameL]
  | x :: r, y :: q => by rw [sameL, Bool.and_eq_true, decide_eq_true_eq, sameL_iff r q, List.cons.injEq]
theorem sameL_no {l k : List CoinD} (h : l ≠ k) : sameL l k = false := by
  rw [← Bool.not_eq_true, sameL_iff]; exact h
theorem sameL_yes {l k : List CoinD} (h : l = k) : sameL l k = true := (sameL_iff l k).2 h

set_option maxHeartbeats 400000 in
theorem eqCoin_lens (a b : Option Addr) (n m c d : Nat) (v : Value) (w : World) (h : n ≠ m) :
    Calls Tryz.prog 67 #[.slice a n c, .slice b m d, v] w fun e w' => e = .returned (.bool false) ∧ w = w' := by
  have g : ((n : Int) != (m : Int)) = true := by simp; omega
  clear h
  go_enter Tryz.func67, Tryz.ntmps67
  go_wp2
  go_ret
  exact ⟨rfl, rfl⟩

set_option maxHeartbeats 400000 in
theorem eqCoin_none (a b : Option Addr) (c d : Nat) (v : Value) (w : World) :
    Calls Tryz.prog 67 #[.slice a 0 c, .slice b 0 d, v] w fun e w' => e = .returned (.bool true) ∧ w = w' := by
  go_enter Tryz.func67, Tryz.ntmps67
  go_wp2
  refine wp_loop_rounds 1 ?_
  rw [rounds_succ]
  go_wp2
  go_ret
  exact ⟨rfl, rfl⟩

set_option maxRecDepth 10000 in
set_option maxHeartbeats 3200000 in
theorem sameCoin_is (x y : CoinD) (a b : Option Addr) (n c m d : Nat) (o : Bool) (w : World) (hn : n ≤ maxLen) (hA : OpsAt w a n (ck x)) (hB : OpsAt w b m (ck y)) (ho : decide (x = y) = o) :
    Calls Tryz.prog 68 #[cnV x a n c, cnV y b m d] w fun e w' => e = .returned (.bool o) ∧ Below w.heap.size w w' := by
  obtain ⟨x1, x2, x3, k, x4, x5⟩ := x
  obtain ⟨y1, y2, y3, l, y4, y5⟩ := y
  unfold cnV
  simp only [cv, ck, ch, cr] at hA hB ⊢
  obtain ⟨X, hX⟩ : ∃ X, X = (w.alloc (.cells #[.int .i64 x1, .int .i64 x2, .int .i64 x3, .slice a n c, .int .i64 x4, .bool x5] 124)).alloc (.cells #[.int .i64 y1, .int .i64 y2, .int .i64 y3, .slice b m d, .int .i64 y4, .bool y5] 124) := ⟨_, rfl⟩
  have hb : Below w.heap.size w X := by rw [hX]; exact bel_on (bel_new _ _) (bel_new _ _)
  obtain ⟨n0, n1, n2, n3, n4, n5⟩ := six_new w (.int .i64 x1) (.int .i64 x2) (.int .i64 x3) (.slice a n c) (.int .i64 x4) (.bool x5) 124
  obtain ⟨m0, m1, m2, m3, m4, m5⟩ := six_new (w.alloc (.cells #[.int .i64 x1, .int .i64 x2, .int .i64 x3, .slice a n c, .int .i64 x4, .bool x5] 124)) (.int .i64 y1) (.int .i64 y2) (.int .i64 y3) (.slice b m d) (.int .i64 y4) (.bool y5) 124
  rw [show (w.alloc (.cells #[.int .i64 x1, .int .i64 x2, .int .i64 x3, .slice a n c, .int .i64 x4, .bool x5] 124)).heap.size = w.heap.size + 1 by simp, ← hX] at m0 m1 m2 m3 m4 m5
  have p4 : X.cell? ⟨w.heap.size, 4, none⟩ = some (.int .i64 x4) := by rw [hX]; exact cell_later (bel_new _ _) n4
  have p5 : X.cell? ⟨w.heap.size, 5, none⟩ = some (.bool x5) := by rw [hX]; exact cell_later (bel_new _ _) n5
  have HB := hide hb
  obtain ⟨q, hq⟩ : ∃ q, decide ((x3, k) = (y3, l)) = q := ⟨_, rfl⟩
  have C := hide (sameOut_is (x3, k) (y3, l) a b n c m d q X hn (hA.later hb) (hB.later hb) hq)
  simp only at C
  have HO : Hid (o = (decide (x1 = y1 ∧ x2 = y2) && (q && (decide (x4 = y4) && decide (x5 = y5))))) := by
    show _ = _
    rw [← ho, ← hq, Bool.eq_iff_iff]
    simp only [Prod.mk.injEq, Bool.and_eq_true, decide_eq_true_eq]
    constructor
    · rintro ⟨h1, h2, h3, h4, h5, h6⟩; exact ⟨⟨h1, h2⟩, ⟨h3, h4⟩, h5, h6⟩
    · rintro ⟨⟨h1, h2⟩, ⟨h3, h4⟩, h5, h6⟩; exact ⟨h1, h2, h3, h4, h5, h6⟩
  clear hA hB hb ho hq m0 m1 m2 m3 n0 n1 n2 n3 n4 n5
  by_cases e1 : x1 = y1 ∧ x2 = y2
  · obtain ⟨rfl, rfl⟩ := e1
    cases q with
    | false =>
      have R : Hid (o = false) := by show _ = _; rw [unhide HO]; simp
      clear HO
      go_enter Tryz.func68, Tryz.ntmps68
      go_wp2_with fail
      rw [← hX]
      clear hX
      refine (unhide C).mono ?_
      rintro e w2 ⟨rfl, hb2⟩
      have HB2 := hide (bel_on (unhide HB) hb2)
      clear hb2
      go_wp2
      go_ret
      exact ⟨by rw [unhide R]; rfl, unhide HB2⟩
    | true =>
      by_cases e4 : x4 = y4
      · subst e4
        by_cases e5 : x5 = y5
        · subst e5
          have R : Hid (o = true) := by show _ = _; rw [unhide HO]; simp
          clear HO
          go_enter Tryz.func68, Tryz.ntmps68
          go_wp2_with fail
          rw [← hX]
          clear hX
          refine (unhide C).mono ?_
          rintro e w2 ⟨rfl, hb2⟩
          have r4 := cell_later hb2 p4
          have r5 := cell_later hb2 p5
          have s4 := cell_later hb2 m4
          have s5 := cell_later hb2 m5
          have HB2 := hide (bel_on (unhide HB) hb2)
          clear hb2
          go_wp2
          go_ret
          exact ⟨by rw [unhide R]; first | rfl | (cases x5 <;> rfl) | (simp; rfl), unhide HB2⟩
        · have R : Hid (o = false) := by show _ = _; rw [unhide HO]; simp [e5]
          have g5 : (x5 == y5) = false := by simp [e5]
          clear HO
          go_enter Tryz.func68, Tryz.ntmps68
          go_wp2_with fail
          rw [← hX]
          clear hX
          refine (unhide C).mono ?_
          rintro e w2 ⟨rfl, hb2⟩
          have r4 := cell_later hb2 p4
          have r5 := cell_later hb2 p5
          have s4 := cell_later hb2 m4
          have s5 := cell_later hb2 m5
          have HB2 := hide (bel_on (unhide HB) hb2)
          clear hb2
          go_wp2
          go_ret
          exact ⟨by rw [unhide R]; rfl, unhide HB2⟩
      · have R : Hid (o = false) := by show _ = _; rw [unhide HO]; simp [e4]
        have g4 : (x4 == y4) = false := by simp [e4]
        clear HO
        go_enter Tryz.func68, Tryz.ntmps68
        go_wp2_with fail
        rw [← hX]
        clear hX
        refine (unhide C).mono ?_
        rintro e w2 ⟨rfl, hb2⟩
        have r4 := cell_later hb2 p4
        have s4 := cell_later hb2 m4
        have HB2 := hide (bel_on (unhide HB) hb2)
        clear hb2
        go_wp2
        go_ret
        exact ⟨by rw [unhide R]; rfl, unhide HB2⟩
  · have R : Hid (o = false) := by show _ = _; rw [unhide HO, decide_eq_false e1, Bool.false_and]
    have HBX : Hid (Below w.heap.size w X) := HB
    rw [hX] at HBX
    clear HO C
    by_cases e2 : x1 = y1
    · have e3 : ¬ x2 = y2 := fun q => e1 ⟨e2, q⟩
      subst e2
      clear e1
      go_enter Tryz.func68, Tryz.ntmps68
      go_wp2
      go_ret
      exact ⟨by rw [unhide R]; rfl, unhide HBX⟩
    · clear e1
      go_enter Tryz.func68, Tryz.ntmps68
      go_wp2
      go_ret
      exact ⟨by rw [unhide R]; rfl, unhide HBX⟩

set_option maxRecDepth 10000 in
set_option maxHeartbeats 3200000 in
theorem eq_sameCoin_some (b1 o1 b2 o2 n c d : Nat) (l k : List CoinD) (o : Bool) (w : World) (hn : n ≤ maxLen) (z1 : l.length = n) (z2 : k.length = n)
    (h1 : ∀ i (h : i < l.length), CoinAt w b1 (o1 + i * 6) l[i]) (h2 : ∀ i (h : i < k.length), CoinAt w b2 (o2 + i * 6) k[i]) (ho : sameL l k = o) :
    Calls Tryz.prog 67 #[.slice (some ⟨b1, o1, none⟩) n c, .slice (some ⟨b2, o2, none⟩) n d, .func (.func 68) #[] #[]] w fun e w' => e = .returned (.bool o) ∧ Below w.heap.size w w' := by
  subst ho
  unfold maxLen at hn
  have H1 := hide h1
  have H2 := hide h2
  have Z1 := hide z1
  have Z2 := hide z2
  clear h1 h2 z1 z2
  go_enter Tryz.func67, Tryz.ntmps67
  go_wp2
  go_loopw [17] (fun i wr => ∃ j : Nat, j ≤ n ∧ i = .int .i64 j ∧ Below w.heap.size w wr ∧ Hid (l.take j = k.take j)) (fun i _ => n - (intOf i).toNat)
  case atStart => exact ⟨0, Nat.zero_le _, rfl, Below.refl _ _, rfl⟩
  case round =>
    obtain ⟨j, hk, rfl, hb, A⟩ := hrel
    have HB := hide hb
    by_cases hlt : j < n
    · have hl1 : j < l.length := by rw [unhide Z1]; exact hlt
      have hl2 : j < k.length := by rw [unhide Z2]; exact hlt
      have g := CoinAt.kept _ _ _ _ _ hb ((unhide H1) j hl1)
      have f := CoinAt.kept _ _ _ _ _ hb ((unhide H2) j hl2)
      have TS := hide (take_same hl1 hl2 (unhide A))
      have TU := hide (take_unlike hl1 hl2)
      obtain ⟨q, hq⟩ : ∃ q, l[j] = q := ⟨_, rfl⟩
      obtain ⟨r, hr⟩ : ∃ r, k[j] = r := ⟨_, rfl⟩
      rw [hq] at g
      rw [hr] at f
      rw [hq, hr] at TS TU
      obtain ⟨qa, qn, qc, g0, g1, g2, g3, g4, g5, gO, gS⟩ := g.val
      obtain ⟨ra, rn, rc, f0, f1, f2, f3, f4, f5, fO, fS⟩ := f.val
      have hb2 := bel_on (bel_new wr (.cells #[.int .i64 q.1, .int .i64 q.2.1, .int .i64 (cv q), .slice qa qn qc, .int .i64 (ch q), .bool (cr q)] 124)) (bel_new _ (.cells #[.int .i64 r.1, .int .i64 r.2.1, .int .i64 (cv r), .slice ra rn rc, .int .i64 (ch r), .bool (cr r)] 124))
      obtain ⟨o', ho'⟩ : ∃ o', decide (q = r) = o' := ⟨_, rfl⟩
      have C := sameCoin_is q r qa ra qn qc rn rc o' _ gS.len (gO.later hb2) (fO.later hb2) ho'
      unfold cnV at C
      have HC := hide C
      have HB2 := hide (bel_on (unhide HB) hb2)
      have hrl : b2 < wr.heap.size := World.block_lt_of_cell? _ _ f0
      have hkI : (j : Int) < (n : Int) := by omega
      clear hb g f hb2 C gO fO gS fS hq hr A
      cases o' with
      | true =>
        have T := hide ((unhide TS) (of_decide_eq_true ho'))
        clear TS TU ho'
        go_wp2_with fail
        refine (unhide HC).mono ?_
        rintro e w2 ⟨rfl, hb3⟩
        have HB3 := hide (bel_on (unhide HB2) hb3)
        clear hb3
        go_wp2
        go_roundw
        case rel => exact ⟨j + 1, by omega, by go_num, unhide HB3, T⟩
        case measure => simp [intOf]; omega
      | false =>
        have U : Hid (sameL l k = false) := sameL_no ((unhide TU) (of_decide_eq_false ho'))
        clear TS TU ho'
        go_wp2_with fail
        refine (unhide HC).mono ?_
        rintro e w2 ⟨rfl, hb3⟩
        have HB3 := hide (bel_on (unhide HB2) hb3)
        clear hb3
        go_wp2
        go_ret
        exact ⟨by rw [unhide U]; rfl, unhide HB3⟩
    · have U : Hid (sameL l k = true) := by
        have h := unhide A
        rw [List.take_of_length_le (by rw [unhide Z1]; omega), List.take_of_length_le (by rw [unhide Z2]; omega)] at h
        exact sameL_yes h
      clear A hb
      go_wp2
      go_ret
      exact ⟨by rw [unhide U]; rfl, unhide HB⟩

theorem eq_sameCoin_any (a b : Option Addr) (n m c d : Nat) (l k : List CoinD) (o : Bool) (w : World) (hn : n ≤ maxLen) (hA : CoinsAt w a n l) (hB : CoinsAt w b m k) (ho : sameL l k = o) :
    Calls Tryz.prog 67 #[.slice a n c, .slice b m d, .func (.func 68) #[] #[]] w fun e w' => e = .returned (.bool o) ∧ Below w.heap.size w w' := by
  by_cases h : n = m
  · subst h
    by_cases h0 : n = 0
    · subst h0
      have e1 : l = [] := List.length_eq_zero_iff.1 hA.1
      have e2 : k = [] := List.length_eq_zero_iff.1 hB.1
      subst e1 e2
      rw [sameL_yes rfl] at ho
      subst ho
      exact (eqCoin_none a b c d _ w).mono fun e w' ⟨h1, h2⟩ => ⟨h1, h2 ▸ Below.refl _ _⟩
    · obtain ⟨b1, o1, rfl, _, h1⟩ := hA.2 (by omega)
      obtain ⟨b2, o2, rfl, _, h2⟩ := hB.2 (by omega)
      exact eq_sameCoin_some b1 o1 b2 o2 n c d l k o w hn hA.1 hB.1 h1 h2 ho
  · have e : l ≠ k := fun e => h (by rw [← hA.1, ← hB.1, e])
    rw [sameL_no e] at ho
    subst ho
    exact (eqCoin_lens a b n m c d _ w h).mono fun e w' ⟨h1, h2⟩ => ⟨h1, h2 ▸ Below.refl _ _⟩

set_option maxHeartbeats 400000 in
theorem uSame_is (a b : Option Addr) (n m c d : Nat) (l k : List CoinD) (o : Bool) (w : World) (hn : n ≤ maxLen) (hA : CoinsAt w a n l) (hB : CoinsAt w b m k) (ho : sameL l k = o) :
    Calls Tryz.prog 19 #[.slice a n c, .slice b m d] w fun e w' => e = .returned (.bool o) ∧ Below w.heap.size w w' := by
  have C := hide (eq_sameCoin_any a b n m c d l k o w hn hA hB ho)
  clear hA hB ho
  go_enter Tryz.func19, Tryz.ntmps19
  go_wp2_with fail
  refine (unhide C).mono ?_
  rintro e w2 ⟨rfl, hb2⟩
  have HB2 := hide hb2
  clear hb2
  go_wp2
  go_ret
  exact ⟨rfl, unhide HB2⟩

end Go.Proofs.YtmomfkikogbdeaaGreatDoor

/- The law ChainDepths answers true (written by a program of ours: mkcd.py). -/
namespace Go.Proofs.YtmomfkikogbdeaaGreatDoor
open Go.RowKit

set_option maxRecDepth 10000 in
set_option maxHeartbeats 12800000 in
theorem lawCDepths_any (ka : Option Addr) (kn kc : Nat) (K : List ByteArray) (a b : Option Addr) (n c m d : Nat) (N : List Int) (T : List BlkD) (s t : Int) (w : World) (hE : Env w) (hK : Bk.TextsAt w ka kn K) (hN : Tr.IntsAt w a n N) (hT : Tr.BlksAt w b m T) (sN : SlOk a n c) (sT : SlOk b m d) :
    Calls Tryz.prog 4 #[.agg #[.slice ka kn kc], .agg #[.slice a n c, .slice b m d], .int .i64 s, .int .i64 t] w fun e w' => e = .returned (.bool true) ∧ Below w.heap.size w w' := by
  obtain ⟨X, hX⟩ : ∃ X, X = (w.alloc (.cells #[.slice ka kn kc] 24)).alloc (.cells #[.slice a n c, .slice b m d] 28) := ⟨_, rfl⟩
  have hbX : Below w.heap.size w X := by rw [hX]; exact bel_on (bel_new _ _) (bel_new _ _)
  have hX0 : X.heap[w.heap.size]? = some (.cells [.slice ka kn kc].toArray 24 (0, 0)) := by rw [hX, Below.heap_alloc _ _ _ (by simp)]; exact one_heap _ _ _
  have hX1 : X.heap[w.heap.size + 1]? = some (.cells [.slice a n c, .slice b m d].toArray 28 (0, 0)) := by
    rw [hX]
    have := heap_alloc_new (w.alloc (.cells #[.slice ka kn kc] 24)) (.cells #[.slice a n c, .slice b m d] 28)
    rw [show (w.alloc (.cells #[.slice ka kn kc] 24)).heap.size = w.heap.size + 1 by simp] at this
    exact this
  obtain ⟨⟨x, A⟩, hco⟩ : ∃ r, coinsE K N T t = r := ⟨_, rfl⟩
  obtain ⟨⟨⟨bp, bh, bk, bn, L⟩, y⟩, hbl⟩ : ∃ r, Tr.blockE N T t = r := ⟨_, rfl⟩
  have HE := hide (hE.later hbX)
  have HK := hide (hK.later hbX)
  have HN := hide (hN.later hbX)
  have HT := hide (hT.later hbX)
  have HSN := hide sN
  have HST := hide sT
  have HBX := hide hbX
  have HX0 := hide hX0
  have HX1 := hide hX1
  have HCO := hide hco
  have HBL := hide hbl
  have C1 := hide (coins_is ka kn kc K a b n c m d N T t x A X (hE.later hbX) (hK.later hbX) (hN.later hbX) (hT.later hbX) sN sT hco)
  have q00 := cell_of hX0 0 _ rfl
  have q0l := lt_of_block hX0
  have q10 := cell_of hX1 0 _ rfl
  have q11 := cell_of hX1 1 _ rfl
  have q1l := lt_of_block hX1
  clear hE hK hN hT sN sT hbX hX0 hX1 hco hbl
  go_enter Tryz.func4, Tryz.ntmps4
  go_wp2_with fail
  rw [← hX]
  clear hX
  (try go_wp2_with fail)
  refine (unhide C1).mono ?_
  rintro e w1 ⟨oa, oon, oc, rfl, hA, sA, hb1⟩
  have HA := hide hA
  have HSA := hide sA
  have HB1 := hide hb1
  clear hA sA hb1 C1 q00 q0l q10 q11 q1l
  have y0 := ((unhide HB1).block _ (lt_of_block (unhide HX0))).trans (unhide HX0)
  have y00 := cell_of y0 0 _ rfl
  have y0l := lt_of_block y0
  clear y0
  have y1 := ((unhide HB1).block _ (lt_of_block (unhide HX1))).trans (unhide HX1)
  have y10 := cell_of y1 0 _ rfl
  have y11 := cell_of y1 1 _ rfl
  have y1l := lt_of_block y1
  clear y1
  have C2 := hide (Tr.block_is a b n c m d N T t (bp, bh, bk, bn, L) y w1 ((unhide HN).later (unhide HB1)) ((unhide HT).later (unhide HB1)) (unhide HSN) (unhide HST) (unhide HBL))
  go_wp2_with fail
  refine (unhide C2).mono ?_
  rintro e w2 ⟨ta, tn, tc, rfl, hTx, sTx, hb2⟩
  simp only at hTx
  obtain ⟨Y, hY⟩ : ∃ Y, Y = w2.alloc (.cells #[.int .i64 bp, .int .i64 bh, .int .i64 bk, .int .i64 bn, .slice ta tn tc] 39) := ⟨_, rfl⟩
  have hbY : Below w2.heap.size w2 Y := by rw [hY]; exact bel_new _ _
  have hYb : Y.heap[w2.heap.size]? = some (.cells [.int .i64 bp, .int .i64 bh, .int .i64 bk, .int .i64 bn, .slice ta tn tc].toArray 39 (0, 0)) := by rw [hY]; exact five_heap _ _ _ _ _ _ _
  have H1Y := hide (bel_on hb2 hbY)
  have HBY := hide (bel_on (unhide HB1) (bel_on hb2 hbY))
  have HYB := hide hYb
  have HTX := hide (hTx.later hbY)
  have C3 := hide (chained_yes Y ((unhide HE).later (unhide HBY)))
  clear hTx sTx hb2 hbY hYb C2 y00 y0l y10 y11 y1l
  go_wp2_with fail
  rw [← hY]
  clear hY
  (try go_wp2_with fail)
  refine (unhide C3).mono ?_
  rintro e w3 ⟨rfl, hb3⟩
  have HB3 := hide (bel_on (unhide HBY) hb3)
  have HY3 := hide hb3
  have H13 := hide (bel_on (unhide H1Y) hb3)
  clear hb3 C3
  by_cases hxy : x = 0 ∧ y = 0
  · obtain ⟨rfl, rfl⟩ := hxy
    have hco := unhide HCO
    have hbl := unhide HBL
    obtain ⟨hkk, hc, _, _⟩ := coins_ok hco
    have ht : t ∈ N := by
      unfold Tr.blockE at hbl
      rw [if_neg (fun q => q hc)] at hbl
      by_cases q : t ∈ N
      · exact q
      · rw [if_neg (by simpa using q)] at hbl; injection hbl with _ h; exact absurd h (by decide)
    have hf : Tr.fnd t N T = (bp, bh, bk, bn, L) := by have := block_in hc ht; rw [hbl] at this; exact (Prod.mk.inj this).1.symm
    obtain ⟨C, S, hup, hcon⟩ := coins_up hco ht
    rw [hf] at hup hcon
    simp only at hup
    have hhd := (Tr.TrOk.of hc).heads _ (Tr.fnd_in (Tr.TrOk.of hc).len ht)
    rw [hf] at hhd
    simp only at hhd
    have hdp := depth_is (s := s) hc ht
    rw [hf] at hdp
    simp only at hdp
    have C4 := hide (coins_is ka kn kc K a b n c m d N T bp 0 C w3 ((unhide HE).later (unhide HB3)) ((unhide HK).later (unhide HB3)) ((unhide HN).later (unhide HB3)) ((unhide HT).later (unhide HB3)) (unhide HSN) (unhide HST) hup)
    have CN := hide hcon
    have HD := hide hdp
    have HC := hide hc
    clear hco hbl hkk hup hcon hdp ht hf HCO HBL hc
    have y0 := ((unhide HB3).block _ (lt_of_block (unhide HX0))).trans (unhide HX0)
    have y00 := cell_of y0 0 _ rfl
    have y0l := lt_of_block y0
    clear y0
    have y1 := ((unhide HB3).block _ (lt_of_block (unhide HX1))).trans (unhide HX1)
    have y10 := cell_of y1 0 _ rfl
    have y11 := cell_of y1 1 _ rfl
    have y1l := lt_of_block y1
    clear y1
    have z := ((unhide HY3).block _ (lt_of_block (unhide HYB))).trans (unhide HYB)
    have z0 := cell_of z 0 _ rfl
    have z1 := cell_of z 1 _ rfl
    have z2 := cell_of z 2 _ rfl
    have z3 := cell_of z 3 _ rfl
    have z4 := cell_of z 4 _ rfl
    have zl := lt_of_block z
    clear z
    go_wp2_with fail
    refine (unhide C4).mono ?_
    rintro e w4 ⟨ua, un, uc, rfl, hU, sU, hb4⟩
    have HB4 := hide (bel_on (unhide HB3) hb4)
    have HY4 := hide (bel_on (unhide HY3) hb4)
    have H14 := hide (bel_on (unhide H13) hb4)
    have C5 := hide (connect_is ka kn kc K ua un uc C bp bh bk bn ta tn tc L 0 A S w4 ((unhide HE).later (unhide HB4)) ((unhide HK).later (unhide HB4)) hU sU ((unhide HTX).later (unhide HY4)) (unhide CN))
    clear hU sU hb4 C4 CN y00 y0l y10 y11 y1l z0 z1 z2 z3 z4 zl
    have y0 := ((unhide HB4).block _ (lt_of_block (unhide HX0))).trans (unhide HX0)
    have y00 := cell_of y0 0 _ rfl
    have y0l := lt_of_block y0
    clear y0
    have z := ((unhide HY4).block _ (lt_of_block (unhide HYB))).trans (unhide HYB)
    have z0 := cell_of z 0 _ rfl
    have z1 := cell_of z 1 _ rfl
    have z2 := cell_of z 2 _ rfl
    have z3 := cell_of z 3 _ rfl
    have z4 := cell_of z 4 _ rfl
    have zl := lt_of_block z
    clear z
    go_wp2_with fail
    refine (unhide C5).mono ?_
    rintro e w5 ⟨ma, mn, mc, va, vn, vc, rfl, hM, sM, hV, sV, hb5, hfr⟩
    have HB5 := hide (bel_on (unhide HB4) hb5)
    have HY5 := hide (bel_on (unhide HY4) hb5)
    have H15 := hide (bel_on (unhide H14) hb5)
    have C6 := hide (uSame_is oa ma oon mn oc mc A A true w5 (unhide HSA).len ((unhide HA).later (unhide H15)) hM (sameL_yes rfl))
    clear hM sM hV sV hb5 hfr C5 y00 y0l z0 z1 z2 z3 z4 zl
    go_wp2_with fail
    refine (unhide C6).mono ?_
    rintro e w6 ⟨rfl, hb6⟩
    have HB6 := hide (bel_on (unhide HB5) hb6)
    have HY6 := hide (bel_on (unhide HY5) hb6)
    clear hb6 C6
    obtain ⟨⟨z, x7⟩, h7⟩ : ∃ r, depthE N T s t = r := ⟨_, rfl⟩
    obtain ⟨⟨⟨cp, ch, ck, cn, L2⟩, y8⟩, h8⟩ : ∃ r, Tr.blockE N T s = r := ⟨_, rfl⟩
    have C7 := hide (depth_call a b n c m d N T s t z x7 w6 ((unhide HN).later (unhide HB6)) ((unhide HT).later (unhide HB6)) (unhide HSN) (unhide HST) h7)
    have HZ : Hid ((z = 0 ∧ x7 = 5) ∨ (x7 = 0 ∧ y8 = 0 ∧ z = bh - ch ∧ 1 ≤ ch ∧ ch ≤ 1000)) := by
      have hc := unhide HC
      rcases unhide HD with q | ⟨q1, q2⟩
      · left; rw [h7] at q; exact Prod.mk.inj q
      · right
        have e := block_in hc q1
        rw [h8] at e
        obtain ⟨e1, e2⟩ := Prod.mk.inj e
        rw [h7] at q2
        obtain ⟨e3, e4⟩ := Prod.mk.inj q2
        have hh := (Tr.TrOk.of hc).heads _ (Tr.fnd_in (Tr.TrOk.of hc).len q1)
        rw [← e1] at hh e3
        simp only at hh e3
        exact ⟨e4, e2, e3, hh.1, hh.2.1⟩
    have H8 := hide h8
    clear h7 h8 HD HC
    have y1 := ((unhide HB6).block _ (lt_of_block (unhide HX1))).trans (unhide HX1)
    have y10 := cell_of y1 0 _ rfl
    have y11 := cell_of y1 1 _ rfl
    have y1l := lt_of_block y1
    clear y1
    go_wp2_with fail
    refine (unhide C7).mono ?_
    rintro e w7 ⟨rfl, hb7⟩
    have HB7 := hide (bel_on (unhide HB6) hb7)
    have HY7 := hide (bel_on (unhide HY6) hb7)
    have C8 := hide (Tr.block_is a b n c m d N T s (cp, ch, ck, cn, L2) y8 w7 ((unhide HN).later (unhide HB7)) ((unhide HT).later (unhide HB7)) (unhide HSN) (unhide HST) (unhide H8))
    clear hb7 C7 H8 y10 y11 y1l
    have y1 := ((unhide HB7).block _ (lt_of_block (unhide HX1))).trans (unhide HX1)
    have y10 := cell_of y1 0 _ rfl
    have y11 := cell_of y1 1 _ rfl
    have y1l := lt_of_block y1
    clear y1
    go_wp2_with fail
    refine (unhide C8).mono ?_
    rintro e w8 ⟨ta2, tn2, tc2, rfl, hTx2, sTx2, hb8⟩
    have HY8 := hide (bel_on (unhide HY7) hb8)
    have HW := hide (bel_on (unhide HBX) (bel_on (bel_on (unhide HB7) hb8) (bel_new w8 (.cells #[.int .i64 cp, .int .i64 ch, .int .i64 ck, .int .i64 cn, .slice ta2 tn2 tc2] 39))))
    clear hTx2 sTx2 hb8 C8 y10 y11 y1l
    have z := ((unhide HY8).block _ (lt_of_block (unhide HYB))).trans (unhide HYB)
    have z0 := cell_of z 0 _ rfl
    have z1 := cell_of z 1 _ rfl
    have z2 := cell_of z 2 _ rfl
    have z3 := cell_of z 3 _ rfl
    have z4 := cell_of z 4 _ rfl
    have zl := lt_of_block z
    clear z
    rcases unhide HZ with ⟨rfl, rfl⟩ | ⟨rfl, rfl, rfl, hch1, hch2⟩
    · clear HZ
      go_wp2
      go_ret
      exact ⟨rfl, unhide HW⟩
    · clear HZ
      go_wp2
      go_ret
      exact ⟨rfl, unhide HW⟩
  · have C4 := hide (chained_yes w3 ((unhide HE).later (unhide HB3)))
    by_cases hx0 : x = 0
    · have hy0 : ¬ y = 0 := fun q => hxy ⟨hx0, q⟩
      subst hx0
      have gy : (y != 0) = true := by simp [hy0]
      clear hxy
      go_wp2_with fail
      refine (unhide C4).mono ?_
      rintro e w4 ⟨rfl, hb4⟩
      have HW := hide (bel_on (unhide HBX) (bel_on (unhide HB3) hb4))
      clear hb4 C4
      go_wp2
      go_ret
      exact ⟨rfl, unhide HW⟩
    · have gx : (x != 0) = true := by simp [hx0]
      clear hxy
      go_wp2_with fail
      refine (unhide C4).mono ?_
      rintro e w4 ⟨rfl, hb4⟩
      have HW := hide (bel_on (unhide HBX) (bel_on (unhide HB3) hb4))
      clear hb4 C4
      go_wp2
      go_ret
      exact ⟨rfl, unhide HW⟩

end Go.Proofs.YtmomfkikogbdeaaGreatDoor

/- What the rows of the laws of coins have in common: coins and transactions among the arguments. -/
namespace Go.Proofs.YtmomfkikogbdeaaGreatDoor
open Go.ChangeShapes Go.WideShapes Go.ChangeAt Go.RowKit

theorem own : ownKnob Tryz.prog.godebug = none := by kernel_rfl
theorem laidOut : laidOutB Tryz.prog = true := by kernel_rfl
theorem Tryz.cellsOp : Tryz.prog.cellsOf 164 = 2 := by kernel_rfl
theorem Tryz.cells3 : Tryz.prog.cellsOf 3 = 1 := by kernel_rfl

/-- What a slice of orders that came in is to the walks. -/
theorem ops_open {H : Type} {enc : TypeId × Value → H} {W : World} {sp : Nat → Bool} {held : Bool} {fuel : Nat} {a : Option Addr} {len cap : Nat} {x : DataW H × List MemPlace}
    (h : DataW.trod enc Tryz.prog W 0 sp held fuel 48 [.slice a len cap] = some x) : (∃ l, OpsAt W a len l) ∧ (a = none → len = 0 ∧ cap = 0) := by
  rcases Deep.open_slice_pairs Tryz.underlying48 Tryz.underlying164 Tryz.cellsOp rfl rfl Tryz.cells3 Tryz.cells3 h with ⟨hcs, _⟩ | ⟨b, l, c, m, n, V0, V1, D0, D1, P0, P1, hcs, _, hl, _, hm, _, hel⟩
  · simp at hcs
    obtain ⟨rfl, rfl, rfl⟩ := hcs
    exact ⟨⟨[], rfl, fun h => absurd h (by omega)⟩, fun _ => ⟨rfl, rfl⟩⟩
  · simp at hcs
    obtain ⟨rfl, rfl, rfl⟩ := hcs
    refine ⟨?_, fun h => by cases h⟩
    have hlm : len ≤ m := by rw [hm]; split <;> omega
    have each : ∀ i, i < len → ∃ q : Int × Int, W.cell? (b.add (i * 2)) = some (.int .i64 q.1) ∧ W.cell? (b.add (i * 2 + 1)) = some (.int .i64 q.2) := fun i hi => by
      obtain ⟨h1, h2, t1, t2⟩ := hel i (by omega)
      obtain ⟨z1, e1, _, _⟩ := DataW.trod_int Tryz.underlying3 t1
      obtain ⟨z2, e2, _, _⟩ := DataW.trod_int Tryz.underlying3 t2
      simp only [List.cons.injEq, and_true] at e1 e2
      exact ⟨(z1, z2), by rw [h1, e1], by rw [h2, e2]⟩
    obtain ⟨f, hf⟩ := Deep.choose_lt each
    refine ⟨(List.range len).map f, by simp, fun hpos => ?_⟩
    obtain ⟨bb, off, spot⟩ := b
    have hspot : spot = none := by simpa [Addr.add] using World.cell?_spot (hf 0 hpos).1
    subst hspot
    refine ⟨bb, off, rfl, fun i hi => ?_⟩
    have hadd : ∀ j, (⟨bb, off, none⟩ : Addr).add j = ⟨bb, off + j, none⟩ := fun j => by unfold Addr.add; split <;> simp_all
    have h1 := hf i hi
    rw [hadd, hadd] at h1
    rw [← Nat.add_assoc] at h1
    simpa [hi] using h1

theorem Tryz.cellsTx : Tryz.prog.cellsOf 59 = 3 := by kernel_rfl
theorem Tryz.cellsIn : Tryz.prog.cellsOf 119 = 3 := by kernel_rfl
theorem Tryz.cellsOut : Tryz.prog.cellsOf 122 = 2 := by kernel_rfl
theorem Tryz.cellsPoint : Tryz.prog.cellsOf 117 = 2 := by kernel_rfl
theorem Tryz.cellsOps : Tryz.prog.cellsOf 48 = 1 := by kernel_rfl
theorem Tryz.cellsIns : Tryz.prog.cellsOf 56 = 1 := by kernel_rfl
theorem Tryz.cellsOuts : Tryz.prog.cellsOf 57 = 1 := by kernel_rfl

theorem list_two {cs : List Value} (h : cs.length = 2) : ∃ a b, cs = [a, b] := by
  match cs, h with
  | [a, b], _ => exact ⟨a, b, rfl⟩
theorem list_three {cs : List Value} (h : cs.length = 3) : ∃ a b c, cs = [a, b, c] := by
  match cs, h with
  | [a, b, c], _ => exact ⟨a, b, c, rfl⟩

section
variable {H : Type} {enc : TypeId × Value → H} {W : World} {sp : Nat → Bool} {held : Bool} {fuel : Nat}

theorem ops_full {v : Value} {x : DataW H × List MemPlace} (h : DataW.trod enc Tryz.prog W 0 sp held fuel 48 [v] = some x) : ∃ a n c l, v = .slice a n c ∧ OpsAt W a n l ∧ SlOk a n c := by
  have h' := h
  rcases Deep.open_slice Tryz.underlying48 h with ⟨hcs, _⟩ | ⟨b, l, c, m, n, D, Pl, hcs, _, hl, hm, _⟩
  · simp at hcs
    subst hcs
    exact ⟨none, 0, 0, [], rfl, ⟨rfl, fun h => absurd h (by omega)⟩, Nat.le_refl _, Nat.zero_le _, fun _ => ⟨rfl, rfl⟩⟩
  · simp at hcs
    subst hcs
    obtain ⟨⟨L, hO⟩, _⟩ := ops_open h'
    exact ⟨some b, l, c, L, rfl, hO, hl, hm, fun h => by cases h⟩

theorem in_full {cs : List Value} {x : DataW H × List MemPlace} (h : DataW.trod enc Tryz.prog W 0 sp held fuel 119 cs = some x) : ∃ x1 x2 a n c l, cs = [.int .i64 x1, .int .i64 x2, .slice a n c] ∧ OpsAt W a n l ∧ SlOk a n c := by
  obtain ⟨y0, y1, k, _, hl, h0, h1⟩ := trod_struct2 Tryz.underlying119 h
  rw [Tryz.cellsIn] at hl
  obtain ⟨c0, c1, c2, rfl⟩ := list_three hl
  simp [Tryz.cellsPoint, Tryz.cellsOps] at h0 h1
  obtain ⟨z0, z1, k2, _, _, g0, g1⟩ := trod_struct2 Tryz.underlying117 h0
  simp [Tryz.cells3] at g0 g1
  obtain ⟨x1, e1, _, _⟩ := DataW.trod_int Tryz.underlying3 g0
  obtain ⟨x2, e2, _, _⟩ := DataW.trod_int Tryz.underlying3 g1
  obtain ⟨a, n, c, l, rfl, hO, hS⟩ := ops_full h1
  simp only [List.cons.injEq, and_true] at e1 e2
  subst e1 e2
  exact ⟨x1, x2, a, n, c, l, rfl, hO, hS⟩
theorem out_full {cs : List Value} {x : DataW H × List MemPlace} (h : DataW.trod enc Tryz.prog W 0 sp held fuel 122 cs = some x) : ∃ x1 a n c l, cs = [.int .i64 x1, .slice a n c] ∧ OpsAt W a n l ∧ SlOk a n c := by
  obtain ⟨y0, y1, k, _, hl, h0, h1⟩ := trod_struct2 Tryz.underlying122 h
  rw [Tryz.cellsOut] at hl
  obtain ⟨c0, c1, rfl⟩ := list_two hl
  simp [Tryz.cells3, Tryz.cellsOps] at h0 h1
  obtain ⟨x1, e1, _, _⟩ := DataW.trod_int Tryz.underlying3 h0
  obtain ⟨a, n, c, l, rfl, hO, hS⟩ := ops_full h1
  simp only [List.cons.injEq, and_true] at e1
  subst e1
  exact ⟨x1, a, n, c, l, rfl, hO, hS⟩

end

end Go.Proofs.YtmomfkikogbdeaaGreatDoor
