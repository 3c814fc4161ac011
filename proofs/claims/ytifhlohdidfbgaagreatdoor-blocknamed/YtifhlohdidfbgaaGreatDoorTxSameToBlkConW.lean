/- Contracts of what holds orders, ins, outs and transactions against each other, whatever they are. -/
import Derived.Test.YtifhlohdidfbgaaGreatDoorTxCheckD
import Derived.Test.YtifhlohdidfbgaaGreatDoorBlkPrintToBookOpen
import Derived.Test.YtifhlohdidfbgaaGreatDoorBlkHead
import Derived.DeepKeys
import Derived.Laws.StructEq
import Derived.Deep.RegionHeld3
import Derived.Deep.RegionLaw
import Derived.Test.YtifhlohdidfbgaaGreatDoorCoinApplyToBlkConM
namespace Go.Proofs.YtifhlohdidfbgaaGreatDoor
open Go.RowKit

theorem below_dw (w : World) (n : Nat) : Below w.heap.size w (w.drewN n) := ⟨rfl, rfl, rfl, Nat.le_refl _, fun _ _ => rfl⟩

theorem take_same {α : Type} {l k : List α} {j : Nat} (h1 : j < l.length) (h2 : j < k.length) (h : l.take j = k.take j) (e : l[j] = k[j]) : l.take (j + 1) = k.take (j + 1) := by
  rw [List.take_succ_eq_append_getElem h1, List.take_succ_eq_append_getElem h2, h, e]
theorem take_unlike {α : Type} {l k : List α} {j : Nat} (h1 : j < l.length) (h2 : j < k.length) (e : l[j] ≠ k[j]) : l ≠ k := fun h => by
  subst h; exact e rfl

set_option maxHeartbeats 1600000 in
theorem eqOps_some (b1 o1 b2 o2 n c d : Nat) (l k : List (Int × Int)) (o : Bool) (w : World) (hn : n ≤ maxLen) (z1 : l.length = n) (z2 : k.length = n)
    (h1 : ∀ i, i < n → w.cell? ⟨b1, o1 + i * 2, none⟩ = some (.int .i64 (l.getD i (0, 0)).1) ∧ w.cell? ⟨b1, o1 + i * 2 + 1, none⟩ = some (.int .i64 (l.getD i (0, 0)).2))
    (h2 : ∀ i, i < n → w.cell? ⟨b2, o2 + i * 2, none⟩ = some (.int .i64 (k.getD i (0, 0)).1) ∧ w.cell? ⟨b2, o2 + i * 2 + 1, none⟩ = some (.int .i64 (k.getD i (0, 0)).2)) (ho : decide (l = k) = o) :
    Calls Tryz.prog 96 #[.slice (some ⟨b1, o1, none⟩) n c, .slice (some ⟨b2, o2, none⟩) n d] w fun e w' => e = .returned (.bool o) ∧ ∃ m, w' = w.drewN m := by
  subst ho
  unfold maxLen at hn
  have H1 := hide h1
  have H2 := hide h2
  have Z1 := hide z1
  have Z2 := hide z2
  clear h1 h2 z1 z2
  go_enter Tryz.func96, Tryz.ntmps96
  go_wp2
  go_loopw [13] (fun i wr => ∃ j m : Nat, j ≤ n ∧ i = .int .i64 j ∧ wr = w.drewN m ∧ Hid (l.take j = k.take j)) (fun i _ => n - (intOf i).toNat)
  case atStart => exact ⟨0, 0, Nat.zero_le _, rfl, rfl, rfl⟩
  case round =>
    obtain ⟨j, m, hk, rfl, rfl, A⟩ := hrel
    by_cases hlt : j < n
    · have hl1 : j < l.length := by rw [unhide Z1]; exact hlt
      have hl2 : j < k.length := by rw [unhide Z2]; exact hlt
      obtain ⟨g1, g2⟩ := (unhide H1) j hlt
      obtain ⟨g3, g4⟩ := (unhide H2) j hlt
      have e1 : l.getD j (0, 0) = l[j] := by simp [hl1]
      have e2 : k.getD j (0, 0) = k[j] := by simp [hl2]
      rw [e1] at g1 g2
      rw [e2] at g3 g4
      have TS := hide (take_same hl1 hl2 (unhide A))
      have TU := hide (take_unlike hl1 hl2)
      obtain ⟨q, hq⟩ : ∃ q, l[j] = q := ⟨_, rfl⟩
      obtain ⟨r, hr⟩ : ∃ r, k[j] = r := ⟨_, rfl⟩
      rw [hq] at g1 g2
      rw [hr] at g3 g4
      rw [hq, hr] at TS TU
      obtain ⟨q1, q2⟩ := q
      obtain ⟨r1, r2⟩ := r
      simp only at g1 g2 g3 g4
      clear hq hr e1 e2 A
      by_cases he : q1 = r1
      · subst he
        by_cases hf : q2 = r2
        · subst hf
          have T := hide ((unhide TS) rfl)
          clear TS TU
          go_wp2
          go_quiet (fail)
          go_wp2
          go_roundw
          case rel => exact ⟨j + 1, m + nq, by omega, by go_num, rfl, T⟩
          case measure => simp [intOf]; omega
        · have U : Hid (decide (l = k) = false) := decide_eq_false ((unhide TU) (fun e => hf (by injection e)))
          clear TS TU
          go_wp2
          go_quiet (fail)
          go_wp2
          go_ret
          exact ⟨by rw [unhide U]; rfl, m + nq, by simp [World.drewN, Nat.add_assoc]⟩
      · have U : Hid (decide (l = k) = false) := decide_eq_false ((unhide TU) (fun e => he (by injection e)))
        clear TS TU
        go_wp2
        go_quiet (fail)
        go_wp2
        go_ret
        exact ⟨by rw [unhide U]; rfl, m + nq, by simp [World.drewN, Nat.add_assoc]⟩
    · have U : Hid (decide (l = k) = true) := by
        have h := unhide A
        rw [List.take_of_length_le (by rw [unhide Z1]; omega), List.take_of_length_le (by rw [unhide Z2]; omega)] at h
        exact decide_eq_true h
      clear A
      go_wp2
      go_ret
      exact ⟨by rw [unhide U]; rfl, m, rfl⟩

set_option maxHeartbeats 400000 in
theorem eqOps_lens (a b : Option Addr) (n m c d : Nat) (w : World) (h : n ≠ m) :
    Calls Tryz.prog 96 #[.slice a n c, .slice b m d] w fun e w' => e = .returned (.bool false) ∧ w = w' := by
  have g : ((n : Int) != (m : Int)) = true := by simp; omega
  clear h
  go_enter Tryz.func96, Tryz.ntmps96
  go_wp2
  go_ret
  exact ⟨rfl, rfl⟩

set_option maxHeartbeats 400000 in
theorem eqOps_none (a b : Option Addr) (c d : Nat) (w : World) :
    Calls Tryz.prog 96 #[.slice a 0 c, .slice b 0 d] w fun e w' => e = .returned (.bool true) ∧ w = w' := by
  go_enter Tryz.func96, Tryz.ntmps96
  go_wp2
  refine wp_loop_rounds 1 ?_
  rw [rounds_succ]
  go_wp2
  go_ret
  exact ⟨rfl, rfl⟩

theorem eqOps_is (a b : Option Addr) (n m c d : Nat) (l k : List (Int × Int)) (o : Bool) (w : World) (hn : n ≤ maxLen) (hA : OpsAt w a n l) (hB : OpsAt w b m k) (ho : decide (l = k) = o) :
    Calls Tryz.prog 96 #[.slice a n c, .slice b m d] w fun e w' => e = .returned (.bool o) ∧ Below w.heap.size w w' := by
  by_cases h : n = m
  · subst h
    by_cases h0 : n = 0
    · subst h0
      have e1 : l = [] := List.length_eq_zero_iff.1 hA.1
      have e2 : k = [] := List.length_eq_zero_iff.1 hB.1
      subst e1 e2
      rw [decide_eq_true rfl] at ho
      subst ho
      exact (eqOps_none a b c d w).mono fun e w' ⟨h1, h2⟩ => ⟨h1, h2 ▸ Below.refl _ _⟩
    · obtain ⟨b1, o1, rfl, h1⟩ := hA.2 (by omega)
      obtain ⟨b2, o2, rfl, h2⟩ := hB.2 (by omega)
      exact (eqOps_some b1 o1 b2 o2 n c d l k o w hn hA.1 hB.1 h1 h2 ho).mono fun e w' ⟨e1, q, e2⟩ => ⟨e1, by rw [e2]; exact below_dw w q⟩
  · have e : l ≠ k := fun e => h (by rw [← hA.1, ← hB.1, e])
    rw [decide_eq_false e] at ho
    subst ho
    exact (eqOps_lens a b n m c d w h).mono fun e w' ⟨h1, h2⟩ => ⟨h1, h2 ▸ Below.refl _ _⟩

/-! Ins and outs, one against one. -/
set_option maxRecDepth 10000 in
set_option maxHeartbeats 1600000 in
theorem sameIn_is (x y : InD) (a b : Option Addr) (n c m d : Nat) (o : Bool) (w : World) (hn : n ≤ maxLen) (hA : OpsAt w a n x.2.2) (hB : OpsAt w b m y.2.2) (ho : decide (x = y) = o) :
    Calls Tryz.prog 95 #[.agg #[.int .i64 x.1, .int .i64 x.2.1, .slice a n c], .agg #[.int .i64 y.1, .int .i64 y.2.1, .slice b m d]] w fun e w' => e = .returned (.bool o) ∧ Below w.heap.size w w' := by
  obtain ⟨x1, x2, k⟩ := x
  obtain ⟨y1, y2, l⟩ := y
  simp only at hA hB ⊢
  have hb := bel_on (bel_new w (.cells #[.int .i64 x1, .int .i64 x2, .slice a n c] 152)) (bel_new _ (.cells #[.int .i64 y1, .int .i64 y2, .slice b m d] 152))
  have HB := hide hb
  by_cases h1 : x1 = y1
  · subst h1
    by_cases h2 : x2 = y2
    · subst h2
      have C := hide (eqOps_is a b n m c d k l o _ hn (hA.later hb) (hB.later hb) (by rw [← ho]; simp))
      clear hA hB hb ho
      go_enter Tryz.func95, Tryz.ntmps95
      go_wp2_with fail
      refine (unhide C).mono ?_
      rintro e w2 ⟨rfl, hb2⟩
      have HB2 := hide (bel_on (unhide HB) hb2)
      clear hb2
      go_wp2
      go_ret
      exact ⟨rfl, unhide HB2⟩
    · have e : o = false := by rw [← ho]; exact decide_eq_false (fun e => h2 (by injection e with _ e; injection e))
      subst e
      clear hA hB hb ho
      go_enter Tryz.func95, Tryz.ntmps95
      go_wp2
      go_ret
      exact ⟨rfl, unhide HB⟩
  · have e : o = false := by rw [← ho]; exact decide_eq_false (fun e => h1 (by injection e))
    subst e
    clear hA hB hb ho
    go_enter Tryz.func95, Tryz.ntmps95
    go_wp2
    go_ret
    exact ⟨rfl, unhide HB⟩

set_option maxRecDepth 10000 in
set_option maxHeartbeats 1600000 in
theorem sameOut_is (x y : OutD) (a b : Option Addr) (n c m d : Nat) (o : Bool) (w : World) (hn : n ≤ maxLen) (hA : OpsAt w a n x.2) (hB : OpsAt w b m y.2) (ho : decide (x = y) = o) :
    Calls Tryz.prog 99 #[.agg #[.int .i64 x.1, .slice a n c], .agg #[.int .i64 y.1, .slice b m d]] w fun e w' => e = .returned (.bool o) ∧ Below w.heap.size w w' := by
  obtain ⟨x1, k⟩ := x
  obtain ⟨y1, l⟩ := y
  simp only at hA hB ⊢
  have hb := bel_on (bel_new w (.cells #[.int .i64 x1, .slice a n c] 85)) (bel_new _ (.cells #[.int .i64 y1, .slice b m d] 85))
  have HB := hide hb
  by_cases h1 : x1 = y1
  · subst h1
    have C := hide (eqOps_is a b n m c d k l o _ hn (hA.later hb) (hB.later hb) (by rw [← ho]; simp))
    clear hA hB hb ho
    go_enter Tryz.func99, Tryz.ntmps99
    go_wp2_with fail
    refine (unhide C).mono ?_
    rintro e w2 ⟨rfl, hb2⟩
    have HB2 := hide (bel_on (unhide HB) hb2)
    clear hb2
    go_wp2
    go_ret
    exact ⟨rfl, unhide HB2⟩
  · have e : o = false := by rw [← ho]; exact decide_eq_false (fun e => h1 (by injection e))
    have g : (x1 == y1) = false := by simp [h1]
    subst e
    clear hA hB hb ho
    go_enter Tryz.func99, Tryz.ntmps99
    go_wp2
    go_ret
    exact ⟨rfl, unhide HB⟩

/-! Rows of ins and of outs. -/
set_option maxRecDepth 10000 in
set_option maxHeartbeats 3200000 in
theorem eqIns_some (b1 o1 b2 o2 n c d : Nat) (l k : List InD) (o : Bool) (w : World) (hn : n ≤ maxLen) (z1 : l.length = n) (z2 : k.length = n)
    (h1 : ∀ i (h : i < l.length), InAt w b1 (o1 + i * 3) l[i]) (h2 : ∀ i (h : i < k.length), InAt w b2 (o2 + i * 3) k[i]) (ho : decide (l = k) = o) :
    Calls Tryz.prog 97 #[.slice (some ⟨b1, o1, none⟩) n c, .slice (some ⟨b2, o2, none⟩) n d, .func (.func 95) #[] #[]] w fun e w' => e = .returned (.bool o) ∧ Below w.heap.size w w' := by
  subst ho
  unfold maxLen at hn
  have H1 := hide h1
  have H2 := hide h2
  have Z1 := hide z1
  have Z2 := hide z2
  clear h1 h2 z1 z2
  go_enter Tryz.func97, Tryz.ntmps97
  go_wp2
  go_loopw [17] (fun i wr => ∃ j : Nat, j ≤ n ∧ i = .int .i64 j ∧ Below w.heap.size w wr ∧ Hid (l.take j = k.take j)) (fun i _ => n - (intOf i).toNat)
  case atStart => exact ⟨0, Nat.zero_le _, rfl, Below.refl _ _, rfl⟩
  case round =>
    obtain ⟨j, hk, rfl, hb, A⟩ := hrel
    have HB := hide hb
    by_cases hlt : j < n
    · have hl1 : j < l.length := by rw [unhide Z1]; exact hlt
      have hl2 : j < k.length := by rw [unhide Z2]; exact hlt
      have g := InAt.kept _ _ _ _ _ hb ((unhide H1) j hl1)
      have f := InAt.kept _ _ _ _ _ hb ((unhide H2) j hl2)
      have TS := hide (take_same hl1 hl2 (unhide A))
      have TU := hide (take_unlike hl1 hl2)
      obtain ⟨q, hq⟩ : ∃ q, l[j] = q := ⟨_, rfl⟩
      obtain ⟨r, hr⟩ : ∃ r, k[j] = r := ⟨_, rfl⟩
      rw [hq] at g
      rw [hr] at f
      rw [hq, hr] at TS TU
      obtain ⟨g1, g2, qa, qn, qc, g3, g4, g5⟩ := g
      obtain ⟨f1, f2, ra, rn, rc, f3, f4, _⟩ := f
      obtain ⟨q1, q2, qk⟩ := q
      obtain ⟨r1, r2, rk⟩ := r
      simp only at g1 g2 g3 g4 f1 f2 f3 f4
      have lt2 : b2 < wr.heap.size := World.block_lt_of_cell? _ _ f1
      have hb2 := bel_on (bel_new wr (.cells #[.int .i64 q1, .int .i64 q2, .slice qa qn qc] 152)) (bel_new _ (.cells #[.int .i64 r1, .int .i64 r2, .slice ra rn rc] 152))
      have HB2 := hide hb2
      have C : Hid (∀ o, decide (((q1, q2, qk) : InD) = (r1, r2, rk)) = o → Calls Tryz.prog 95 #[.agg #[.int .i64 q1, .int .i64 q2, .slice qa qn qc], .agg #[.int .i64 r1, .int .i64 r2, .slice ra rn rc]] ((wr.alloc (.cells #[.int .i64 q1, .int .i64 q2, .slice qa qn qc] 152)).alloc (.cells #[.int .i64 r1, .int .i64 r2, .slice ra rn rc] 152)) fun e w' => e = .returned (.bool o) ∧ Below _ _ w') :=
        fun o ho => sameIn_is (q1, q2, qk) (r1, r2, rk) qa ra qn qc rn rc o _ g5.len (g4.later hb2) (f4.later hb2) ho
      clear hq hr A g4 f4 g5 hb hb2
      by_cases he : ((q1, q2, qk) : InD) = (r1, r2, rk)
      · have T := hide ((unhide TS) he)
        have C2 := hide ((unhide C) true (decide_eq_true he))
        clear TS TU C he
        go_wp2_with fail
        refine (unhide C2).mono ?_
        rintro e w3 ⟨rfl, hb3⟩
        have HB3 := hide (bel_on (bel_on (unhide HB) (unhide HB2)) hb3)
        clear hb3
        go_wp2
        go_roundw
        case rel => exact ⟨j + 1, by omega, by go_num, unhide HB3, T⟩
        case measure => simp [intOf]; omega
      · have U : Hid (decide (l = k) = false) := decide_eq_false ((unhide TU) he)
        have C2 := hide ((unhide C) false (decide_eq_false he))
        clear TS TU C he
        go_wp2_with fail
        refine (unhide C2).mono ?_
        rintro e w3 ⟨rfl, hb3⟩
        have HB3 := hide (bel_on (bel_on (unhide HB) (unhide HB2)) hb3)
        clear hb3
        go_wp2
        go_ret
        exact ⟨by rw [unhide U]; rfl, unhide HB3⟩
    · have U : Hid (decide (l = k) = true) := by
        have h := unhide A
        rw [List.take_of_length_le (by rw [unhide Z1]; omega), List.take_of_length_le (by rw [unhide Z2]; omega)] at h
        exact decide_eq_true h
      clear A hb
      go_wp2
      go_ret
      exact ⟨by rw [unhide U]; rfl, unhide HB⟩

end Go.Proofs.YtifhlohdidfbgaaGreatDoor

/- Contracts of what holds rows of ins and outs, and transactions, against each other, whatever they are. -/
namespace Go.Proofs.YtifhlohdidfbgaaGreatDoor
open Go.RowKit

set_option maxRecDepth 10000 in
set_option maxHeartbeats 3200000 in
theorem eqOuts_some (b1 o1 b2 o2 n c d : Nat) (l k : List OutD) (o : Bool) (w : World) (hn : n ≤ maxLen) (z1 : l.length = n) (z2 : k.length = n)
    (h1 : ∀ i (h : i < l.length), OutAt w b1 (o1 + i * 2) l[i]) (h2 : ∀ i (h : i < k.length), OutAt w b2 (o2 + i * 2) k[i]) (ho : decide (l = k) = o) :
    Calls Tryz.prog 98 #[.slice (some ⟨b1, o1, none⟩) n c, .slice (some ⟨b2, o2, none⟩) n d, .func (.func 99) #[] #[]] w fun e w' => e = .returned (.bool o) ∧ Below w.heap.size w w' := by
  subst ho
  unfold maxLen at hn
  have H1 := hide h1
  have H2 := hide h2
  have Z1 := hide z1
  have Z2 := hide z2
  clear h1 h2 z1 z2
  go_enter Tryz.func98, Tryz.ntmps98
  go_wp2
  go_loopw [17] (fun i wr => ∃ j : Nat, j ≤ n ∧ i = .int .i64 j ∧ Below w.heap.size w wr ∧ Hid (l.take j = k.take j)) (fun i _ => n - (intOf i).toNat)
  case atStart => exact ⟨0, Nat.zero_le _, rfl, Below.refl _ _, rfl⟩
  case round =>
    obtain ⟨j, hk, rfl, hb, A⟩ := hrel
    have HB := hide hb
    by_cases hlt : j < n
    · have hl1 : j < l.length := by rw [unhide Z1]; exact hlt
      have hl2 : j < k.length := by rw [unhide Z2]; exact hlt
      have g := OutAt.kept _ _ _ _ _ hb ((unhide H1) j hl1)
      have f := OutAt.kept _ _ _ _ _ hb ((unhide H2) j hl2)
      have TS := hide (take_same hl1 hl2 (unhide A))
      have TU := hide (take_unlike hl1 hl2)
      obtain ⟨q, hq⟩ : ∃ q, l[j] = q := ⟨_, rfl⟩
      obtain ⟨r, hr⟩ : ∃ r, k[j] = r := ⟨_, rfl⟩
      rw [hq] at g
      rw [hr] at f
      rw [hq, hr] at TS TU
      obtain ⟨g1, qa, qn, qc, g3, g4, g5⟩ := g
      obtain ⟨f1, ra, rn, rc, f3, f4, _⟩ := f
      obtain ⟨q1, qk⟩ := q
      obtain ⟨r1, rk⟩ := r
      simp only at g1 g3 g4 f1 f3 f4
      have lt2 : b2 < wr.heap.size := World.block_lt_of_cell? _ _ f1
      have hb2 := bel_on (bel_new wr (.cells #[.int .i64 q1, .slice qa qn qc] 85)) (bel_new _ (.cells #[.int .i64 r1, .slice ra rn rc] 85))
      have HB2 := hide hb2
      have C : Hid (∀ o, decide (((q1, qk) : OutD) = (r1, rk)) = o → Calls Tryz.prog 99 #[.agg #[.int .i64 q1, .slice qa qn qc], .agg #[.int .i64 r1, .slice ra rn rc]] ((wr.alloc (.cells #[.int .i64 q1, .slice qa qn qc] 85)).alloc (.cells #[.int .i64 r1, .slice ra rn rc] 85)) fun e w' => e = .returned (.bool o) ∧ Below _ _ w') :=
        fun o ho => sameOut_is (q1, qk) (r1, rk) qa ra qn qc rn rc o _ g5.len (g4.later hb2) (f4.later hb2) ho
      clear hq hr A g4 f4 g5 hb hb2
      by_cases he : ((q1, qk) : OutD) = (r1, rk)
      · have T := hide ((unhide TS) he)
        have C2 := hide ((unhide C) true (decide_eq_true he))
        clear TS TU C he
        go_wp2_with fail
        refine (unhide C2).mono ?_
        rintro e w3 ⟨rfl, hb3⟩
        have HB3 := hide (bel_on (bel_on (unhide HB) (unhide HB2)) hb3)
        clear hb3
        go_wp2
        go_roundw
        case rel => exact ⟨j + 1, by omega, by go_num, unhide HB3, T⟩
        case measure => simp [intOf]; omega
      · have U : Hid (decide (l = k) = false) := decide_eq_false ((unhide TU) he)
        have C2 := hide ((unhide C) false (decide_eq_false he))
        clear TS TU C he
        go_wp2_with fail
        refine (unhide C2).mono ?_
        rintro e w3 ⟨rfl, hb3⟩
        have HB3 := hide (bel_on (bel_on (unhide HB) (unhide HB2)) hb3)
        clear hb3
        go_wp2
        go_ret
        exact ⟨by rw [unhide U]; rfl, unhide HB3⟩
    · have U : Hid (decide (l = k) = true) := by
        have h := unhide A
        rw [List.take_of_length_le (by rw [unhide Z1]; omega), List.take_of_length_le (by rw [unhide Z2]; omega)] at h
        exact decide_eq_true h
      clear A hb
      go_wp2
      go_ret
      exact ⟨by rw [unhide U]; rfl, unhide HB⟩

set_option maxHeartbeats 400000 in
theorem eqIns_lens (a b : Option Addr) (n m c d : Nat) (v : Value) (w : World) (h : n ≠ m) :
    Calls Tryz.prog 97 #[.slice a n c, .slice b m d, v] w fun e w' => e = .returned (.bool false) ∧ w = w' := by
  have g : ((n : Int) != (m : Int)) = true := by simp; omega
  clear h
  go_enter Tryz.func97, Tryz.ntmps97
  go_wp2
  go_ret
  exact ⟨rfl, rfl⟩
set_option maxHeartbeats 400000 in
theorem eqIns_none (a b : Option Addr) (c d : Nat) (v : Value) (w : World) :
    Calls Tryz.prog 97 #[.slice a 0 c, .slice b 0 d, v] w fun e w' => e = .returned (.bool true) ∧ w = w' := by
  go_enter Tryz.func97, Tryz.ntmps97
  go_wp2
  refine wp_loop_rounds 1 ?_
  rw [rounds_succ]
  go_wp2
  go_ret
  exact ⟨rfl, rfl⟩
theorem eqIns_is (a b : Option Addr) (n m c d : Nat) (l k : List InD) (o : Bool) (w : World) (hn : n ≤ maxLen) (hA : InsAt w a n l) (hB : InsAt w b m k) (ho : decide (l = k) = o) :
    Calls Tryz.prog 97 #[.slice a n c, .slice b m d, .func (.func 95) #[] #[]] w fun e w' => e = .returned (.bool o) ∧ Below w.heap.size w w' := by
  by_cases h : n = m
  · subst h
    by_cases h0 : n = 0
    · subst h0
      have e1 : l = [] := List.length_eq_zero_iff.1 hA.1
      have e2 : k = [] := List.length_eq_zero_iff.1 hB.1
      subst e1 e2
      rw [decide_eq_true rfl] at ho
      subst ho
      exact (eqIns_none a b c d _ w).mono fun e w' ⟨h1, h2⟩ => ⟨h1, h2 ▸ Below.refl _ _⟩
    · obtain ⟨b1, o1, rfl, _, h1⟩ := hA.2 (by omega)
      obtain ⟨b2, o2, rfl, _, h2⟩ := hB.2 (by omega)
      exact eqIns_some b1 o1 b2 o2 n c d l k o w hn hA.1 hB.1 h1 h2 ho
  · have e : l ≠ k := fun e => h (by rw [← hA.1, ← hB.1, e])
    rw [decide_eq_false e] at ho
    subst ho
    exact (eqIns_lens a b n m c d _ w h).mono fun e w' ⟨h1, h2⟩ => ⟨h1, h2 ▸ Below.refl _ _⟩

set_option maxHeartbeats 400000 in
theorem eqOuts_lens (a b : Option Addr) (n m c d : Nat) (v : Value) (w : World) (h : n ≠ m) :
    Calls Tryz.prog 98 #[.slice a n c, .slice b m d, v] w fun e w' => e = .returned (.bool false) ∧ w = w' := by
  have g : ((n : Int) != (m : Int)) = true := by simp; omega
  clear h
  go_enter Tryz.func98, Tryz.ntmps98
  go_wp2
  go_ret
  exact ⟨rfl, rfl⟩
set_option maxHeartbeats 400000 in
theorem eqOuts_none (a b : Option Addr) (c d : Nat) (v : Value) (w : World) :
    Calls Tryz.prog 98 #[.slice a 0 c, .slice b 0 d, v] w fun e w' => e = .returned (.bool true) ∧ w = w' := by
  go_enter Tryz.func98, Tryz.ntmps98
  go_wp2
  refine wp_loop_rounds 1 ?_
  rw [rounds_succ]
  go_wp2
  go_ret
  exact ⟨rfl, rfl⟩
theorem eqOuts_is (a b : Option Addr) (n m c d : Nat) (l k : List OutD) (o : Bool) (w : World) (hn : n ≤ maxLen) (hA : OutsAt w a n l) (hB : OutsAt w b m k) (ho : decide (l = k) = o) :
    Calls Tryz.prog 98 #[.slice a n c, .slice b m d, .func (.func 99) #[] #[]] w fun e w' => e = .returned (.bool o) ∧ Below w.heap.size w w' := by
  by_cases h : n = m
  · subst h
    by_cases h0 : n = 0
    · subst h0
      have e1 : l = [] := List.length_eq_zero_iff.1 hA.1
      have e2 : k = [] := List.length_eq_zero_iff.1 hB.1
      subst e1 e2
      rw [decide_eq_true rfl] at ho
      subst ho
      exact (eqOuts_none a b c d _ w).mono fun e w' ⟨h1, h2⟩ => ⟨h1, h2 ▸ Below.refl _ _⟩
    · obtain ⟨b1, o1, rfl, _, h1⟩ := hA.2 (by omega)
      obtain ⟨b2, o2, rfl, _, h2⟩ := hB.2 (by omega)
      exact eqOuts_some b1 o1 b2 o2 n c d l k o w hn hA.1 hB.1 h1 h2 ho
  · have e : l ≠ k := fun e => h (by rw [← hA.1, ← hB.1, e])
    rw [decide_eq_false e] at ho
    subst ho
    exact (eqOuts_lens a b n m c d _ w h).mono fun e w' ⟨h1, h2⟩ => ⟨h1, h2 ▸ Below.refl _ _⟩

set_option maxRecDepth 10000 in
set_option maxHeartbeats 3200000 in
theorem txSame_is (h h' : Int) (ai ao bi bo : Option Addr) (ni ci no co mi di mo eo : Nat) (I I' : List InD) (O O' : List OutD) (o : Bool) (w : World) (li : ni ≤ maxLen) (lo : no ≤ maxLen)
    (hI : InsAt w ai ni I) (hO : OutsAt w ao no O) (hI' : InsAt w bi mi I') (hO' : OutsAt w bo mo O') (ho : sameT (h, I, O) (h', I', O') = o) :
    Calls Tryz.prog 46 #[.agg #[.int .i64 h, .slice ai ni ci, .slice ao no co], .agg #[.int .i64 h', .slice bi mi di, .slice bo mo eo]] w fun e w' => e = .returned (.bool o) ∧ Below w.heap.size w w' := by
  have hb1 := bel_new w (.cells #[.int .i64 h, .slice ai ni ci, .slice ao no co] 78)
  have hb2 := bel_new (w.alloc (.cells #[.int .i64 h, .slice ai ni ci, .slice ao no co] 78)) (.cells #[.int .i64 h', .slice bi mi di, .slice bo mo eo] 78)
  have hb := bel_on hb1 hb2
  have HB := hide hb
  have M2 := hide (cell_later hb2 (three_new w (.int .i64 h) (.slice ai ni ci) (.slice ao no co) 78).2.2)
  have N2 := hide (three_new (w.alloc (.cells #[.int .i64 h, .slice ai ni ci, .slice ao no co] 78)) (.int .i64 h') (.slice bi mi di) (.slice bo mo eo) 78).2.2
  have HI := hide (hI.later hb)
  have HO := hide (hO.later hb)
  have HI' := hide (hI'.later hb)
  have HO' := hide (hO'.later hb)
  have LI := hide li
  have LO := hide lo
  clear hI hO hI' hO' hb hb1 hb2 li lo
  by_cases h1 : h = h'
  · subst h1
    by_cases h2 : I = I'
    · have ho' : decide (O = O') = o := by rw [← ho]; unfold sameT; simp [h2]
      have CI := hide (eqIns_is ai bi ni mi ci di I I' true _ (unhide LI) (unhide HI) (unhide HI') (decide_eq_true h2))
      have HQ := hide ho'
      clear ho ho' h2
      go_enter Tryz.func46, Tryz.ntmps46
      go_wp2_with fail
      refine (unhide CI).mono ?_
      rintro e w2 ⟨rfl, hb2⟩
      have m2 := cell_later hb2 (unhide M2)
      have n2 := cell_later hb2 (unhide N2)
      rw [show (w.alloc (.cells #[.int .i64 h, .slice ai ni ci, .slice ao no co] 78)).heap.size = w.heap.size + 1 by simp] at n2
      have s2 : w.heap.size + 1 < w2.heap.size := World.block_lt_of_cell? _ _ n2
      have s1 : w.heap.size < w2.heap.size := by omega
      have CO := hide (eqOuts_is ao bo no mo co eo O O' o w2 (unhide LO) ((unhide HO).later hb2) ((unhide HO').later hb2) (unhide HQ))
      have HB2 := hide (bel_on (unhide HB) hb2)
      clear hb2
      go_wp2_with fail
      refine (unhide CO).mono ?_
      rintro e w3 ⟨rfl, hb3⟩
      have HB3 := hide (bel_on (unhide HB2) hb3)
      clear hb3
      go_wp2
      go_ret
      exact ⟨rfl, unhide HB3⟩
    · have e : o = false := by rw [← ho]; unfold sameT; simp [h2]
      subst e
      have CI := hide (eqIns_is ai bi ni mi ci di I I' false _ (unhide LI) (unhide HI) (unhide HI') (decide_eq_false h2))
      clear ho h2
      go_enter Tryz.func46, Tryz.ntmps46
      go_wp2_with fail
      refine (unhide CI).mono ?_
      rintro e w2 ⟨rfl, hb2⟩
      have HB2 := hide (bel_on (unhide HB) hb2)
      clear hb2
      go_wp2
      go_ret
      exact ⟨rfl, unhide HB2⟩
  · have e : o = false := by rw [← ho]; unfold sameT; simp [h1]
    subst e
    have g : (h == h') = false := by simp [h1]
    clear ho
    go_enter Tryz.func46, Tryz.ntmps46
    go_wp2
    go_ret
    exact ⟨rfl, unhide HB⟩

end Go.Proofs.YtifhlohdidfbgaaGreatDoor

/- Contracts of what holds transactions' rows and blocks against each other. -/
namespace Go.Proofs.YtifhlohdidfbgaaGreatDoor
open Go.RowKit

def sameTs : List TxD → List TxD → Bool
  | [], [] => true
  | x :: r, y :: q => sameT x y && sameTs r q
  | _, _ => false
theorem sameT_eq (x y : TxD) : sameT x y = true ↔ x = y := by
  obtain ⟨a, b, c⟩ := x
  obtain ⟨d, e, f⟩ := y
  unfold sameT
  simp
theorem sameTs_iff : ∀ (l k : List TxD), sameTs l k = true ↔ l = k
  | [], [] => by simp [sameTs]
  | [], y :: q => by simp [sameTs]
  | x :: r, [] => by simp [sameTs]
  | x :: r, y :: q => by rw [sameTs, Bool.and_eq_true, sameT_eq, sameTs_iff r q, List.cons.injEq]
theorem sameTs_no {l k : List TxD} (h : l ≠ k) : sameTs l k = false := by
  rw [← Bool.not_eq_true, sameTs_iff]; exact h
theorem sameTs_yes {l k : List TxD} (h : l = k) : sameTs l k = true := (sameTs_iff l k).2 h

set_option maxHeartbeats 400000 in
theorem eqTx_lens (a b : Option Addr) (n m c d : Nat) (v : Value) (w : World) (h : n ≠ m) :
    Calls Tryz.prog 45 #[.slice a n c, .slice b m d, v] w fun e w' => e = .returned (.bool false) ∧ w = w' := by
  have g : ((n : Int) != (m : Int)) = true := by simp; omega
  clear h
  go_enter Tryz.func45, Tryz.ntmps45
  go_wp2
  go_ret
  exact ⟨rfl, rfl⟩

set_option maxHeartbeats 400000 in
theorem eqTx_none (a b : Option Addr) (c d : Nat) (v : Value) (w : World) :
    Calls Tryz.prog 45 #[.slice a 0 c, .slice b 0 d, v] w fun e w' => e = .returned (.bool true) ∧ w = w' := by
  go_enter Tryz.func45, Tryz.ntmps45
  go_wp2
  refine wp_loop_rounds 1 ?_
  rw [rounds_succ]
  go_wp2
  go_ret
  exact ⟨rfl, rfl⟩

set_option maxRecDepth 10000 in
set_option maxHeartbeats 3200000 in
theorem eqTx_some (b1 o1 b2 o2 n c d : Nat) (l k : List TxD) (o : Bool) (w : World) (hn : n ≤ maxLen) (z1 : l.length = n) (z2 : k.length = n)
    (h1 : ∀ i (h : i < l.length), TxAt w b1 (o1 + i * 3) l[i]) (h2 : ∀ i (h : i < k.length), TxAt w b2 (o2 + i * 3) k[i]) (ho : sameTs l k = o) :
    Calls Tryz.prog 45 #[.slice (some ⟨b1, o1, none⟩) n c, .slice (some ⟨b2, o2, none⟩) n d, .func (.func 46) #[] #[]] w fun e w' => e = .returned (.bool o) ∧ Below w.heap.size w w' := by
  subst ho
  unfold maxLen at hn
  have H1 := hide h1
  have H2 := hide h2
  have Z1 := hide z1
  have Z2 := hide z2
  clear h1 h2 z1 z2
  go_enter Tryz.func45, Tryz.ntmps45
  go_wp2
  go_loopw [17] (fun i wr => ∃ j : Nat, j ≤ n ∧ i = .int .i64 j ∧ Below w.heap.size w wr ∧ Hid (l.take j = k.take j)) (fun i _ => n - (intOf i).toNat)
  case atStart => exact ⟨0, Nat.zero_le _, rfl, Below.refl _ _, rfl⟩
  case round =>
    obtain ⟨j, hk, rfl, hb, A⟩ := hrel
    have HB := hide hb
    by_cases hlt : j < n
    · have hl1 : j < l.length := by rw [unhide Z1]; exact hlt
      have hl2 : j < k.length := by rw [unhide Z2]; exact hlt
      have g := TxAt.kept _ _ _ _ _ hb ((unhide H1) j hl1)
      have f := TxAt.kept _ _ _ _ _ hb ((unhide H2) j hl2)
      have TS := hide (take_same hl1 hl2 (unhide A))
      have TU := hide (take_unlike hl1 hl2)
      obtain ⟨q, hq⟩ : ∃ q, l[j] = q := ⟨_, rfl⟩
      obtain ⟨r, hr⟩ : ∃ r, k[j] = r := ⟨_, rfl⟩
      rw [hq] at g
      rw [hr] at f
      rw [hq, hr] at TS TU
      obtain ⟨q1, I, O⟩ := q
      obtain ⟨r1, I', O'⟩ := r
      obtain ⟨g0, ⟨ai, ni, ci, g1, gI, sI⟩, ao, no, co, g2, gO, sO⟩ := g
      obtain ⟨f0, ⟨bi, mi, di, f1, fI, _⟩, bo, mo, eo, f2, fO, _⟩ := f
      simp only at g0 g1 g2 f0 f1 f2 gI gO fI fO
      have hb2 := bel_on (bel_new wr (.cells #[.int .i64 q1, .slice ai ni ci, .slice ao no co] 78)) (bel_new _ (.cells #[.int .i64 r1, .slice bi mi di, .slice bo mo eo] 78))
      obtain ⟨o', ho'⟩ : ∃ o', sameT (q1, I, O) (r1, I', O') = o' := ⟨_, rfl⟩
      have HC := hide (txSame_is q1 r1 ai ao bi bo ni ci no co mi di mo eo I I' O O' o' _ sI.len sO.len (gI.later hb2) (gO.later hb2) (fI.later hb2) (fO.later hb2) ho')
      have HB2 := hide (bel_on (unhide HB) hb2)
      have hrl : b2 < wr.heap.size := World.block_lt_of_cell? _ _ f0
      have hkI : (j : Int) < (n : Int) := by omega
      clear hb hb2 gI gO fI fO sI sO hq hr A
      cases o' with
      | true =>
        have T := hide ((unhide TS) ((sameT_eq _ _).1 ho'))
        clear TS TU ho'
        go_wp2_with fail
        refine (unhide HC).mono ?_
        rintro e w2 ⟨rfl, hb3⟩
        have HB3 := hide (bel_on (unhide HB2) hb3)
        clear hb3
        go_wp2
        go_roundw
        case rel => exact ⟨j + 1, by omega, by go_num, unhide HB3, T⟩
        case measure => simp [intOf]; omega
      | false =>
        have U : Hid (sameTs l k = false) := sameTs_no ((unhide TU) (fun e => by rw [(sameT_eq _ _).2 e] at ho'; cases ho'))
        clear TS TU ho'
        go_wp2_with fail
        refine (unhide HC).mono ?_
        rintro e w2 ⟨rfl, hb3⟩
        have HB3 := hide (bel_on (unhide HB2) hb3)
        clear hb3
        go_wp2
        go_ret
        exact ⟨by rw [unhide U]; rfl, unhide HB3⟩
    · have U : Hid (sameTs l k = true) := by
        have h := unhide A
        rw [List.take_of_length_le (by rw [unhide Z1]; omega), List.take_of_length_le (by rw [unhide Z2]; omega)] at h
        exact sameTs_yes h
      clear A hb
      go_wp2
      go_ret
      exact ⟨by rw [unhide U]; rfl, unhide HB⟩

theorem eqTx_any (a b : Option Addr) (n m c d : Nat) (l k : List TxD) (o : Bool) (w : World) (hn : n ≤ maxLen) (hA : TxsAt w a n l) (hB : TxsAt w b m k) (ho : sameTs l k = o) :
    Calls Tryz.prog 45 #[.slice a n c, .slice b m d, .func (.func 46) #[] #[]] w fun e w' => e = .returned (.bool o) ∧ Below w.heap.size w w' := by
  by_cases h : n = m
  · subst h
    by_cases h0 : n = 0
    · subst h0
      have e1 : l = [] := List.length_eq_zero_iff.1 hA.1
      have e2 : k = [] := List.length_eq_zero_iff.1 hB.1
      subst e1 e2
      rw [sameTs_yes rfl] at ho
      subst ho
      exact (eqTx_none a b c d _ w).mono fun e w' ⟨h1, h2⟩ => ⟨h1, h2 ▸ Below.refl _ _⟩
    · obtain ⟨b1, o1, rfl, _, h1⟩ := hA.2 (by omega)
      obtain ⟨b2, o2, rfl, _, h2⟩ := hB.2 (by omega)
      exact eqTx_some b1 o1 b2 o2 n c d l k o w hn hA.1 hB.1 h1 h2 ho
  · have e : l ≠ k := fun e => h (by rw [← hA.1, ← hB.1, e])
    rw [sameTs_no e] at ho
    subst ho
    exact (eqTx_lens a b n m c d _ w h).mono fun e w' ⟨h1, h2⟩ => ⟨h1, h2 ▸ Below.refl _ _⟩

end Go.Proofs.YtifhlohdidfbgaaGreatDoor

/- Two heads of blocks held against each other: arrays of four numbers. -/
namespace Go.Proofs.YtifhlohdidfbgaaGreatDoor
open Go.RowKit

theorem Tryz.underHead : Tryz.prog.underlying 65 = some (.array 4 3) := by kernel_rfl
theorem heads_eql (p h k n pp hh kk nn : Int) (W : World) : (binOp .eql 65 (.agg #[.int .i64 p, .int .i64 h, .int .i64 k, .int .i64 n]) (.agg #[.int .i64 pp, .int .i64 hh, .int .i64 kk, .int .i64 nn])).run Tryz.prog W = .ok (.bool ((p == pp) && ((h == hh) && ((k == kk) && (n == nn))))) W := by
  obtain ⟨i0, hi, _, _, _⟩ := info_parts Tryz.infoInt
  have hk : Tryz.prog.plainKey 3 = true := by kernel_rfl
  have hc : Tryz.prog.cellsOf 3 = 1 := by kernel_rfl
  have p0 : ∀ (x y z u : Int), (part 3 #[.int .i64 x, .int .i64 y, .int .i64 z, .int .i64 u] 0).run Tryz.prog W = .ok (.int .i64 x) W := fun x y z u => run_part_plain W hk rfl
  have p1 : ∀ (x y z u : Int), (part 3 #[.int .i64 x, .int .i64 y, .int .i64 z, .int .i64 u] 1).run Tryz.prog W = .ok (.int .i64 y) W := fun x y z u => run_part_plain W hk rfl
  have p2 : ∀ (x y z u : Int), (part 3 #[.int .i64 x, .int .i64 y, .int .i64 z, .int .i64 u] 2).run Tryz.prog W = .ok (.int .i64 z) W := fun x y z u => run_part_plain W hk rfl
  have p3 : ∀ (x y z u : Int), (part 3 #[.int .i64 x, .int .i64 y, .int .i64 z, .int .i64 u] 3).run Tryz.prog W = .ok (.int .i64 u) W := fun x y z u => run_part_plain W hk rfl
  have q : ∀ (a b : Int), (Op.equalIn 9999 3 (.int .i64 a) (.int .i64 b)).run Tryz.prog W = .ok (a == b) W := fun a b => run_equalIn_int W 9998 3 .i64 .i64 a b Tryz.underlying3
  have e : (Op.equalIn 10000 65 (.agg #[.int .i64 p, .int .i64 h, .int .i64 k, .int .i64 n]) (.agg #[.int .i64 pp, .int .i64 hh, .int .i64 kk, .int .i64 nn])).run Tryz.prog W = .ok ((p == pp) && ((h == hh) && ((k == kk) && (n == nn)))) W := by
    rw [show (10000 : Nat) = 9999 + 1 from rfl, run_equalIn_array W 9999 _ _ Tryz.underHead hi, hc, show List.range 4 = [0, 1, 2, 3] from rfl]
    simp only [Op.eqItems, Sem.run_bind, Nat.mul_one, p0, Result.andThen_ok, q]
    by_cases e1 : p = pp <;> by_cases e2 : h = hh <;> by_cases e3 : k = kk <;> by_cases e4 : n = nn <;> simp [p1, p2, p3, q, e1, e2, e3, e4]
  rw [run_eql_struct, e]
  rfl

end Go.Proofs.YtifhlohdidfbgaaGreatDoor

/- The contract of block.Same (its steps written by a program of ours: mkblksame.py). -/
namespace Go.Proofs.YtifhlohdidfbgaaGreatDoor
open Go.RowKit

def sameB (b c : BlkD) : Bool := (decide (b.1 = c.1) && (decide (b.2.1 = c.2.1) && (decide (b.2.2.1 = c.2.2.1) && decide (b.2.2.2.1 = c.2.2.2.1)))) && sameTs b.2.2.2.2 c.2.2.2.2
theorem sameB_iff (b c : BlkD) : sameB b c = true ↔ b = c := by
  obtain ⟨p, h, k, n, T⟩ := b
  obtain ⟨p2, h2, k2, n2, U⟩ := c
  simp only [sameB, Bool.and_eq_true, decide_eq_true_eq, sameTs_iff, Prod.mk.injEq]
  constructor
  · rintro ⟨⟨h1, h2, h3, h4⟩, h5⟩
    exact ⟨h1, h2, h3, h4, h5⟩
  · rintro ⟨h1, h2, h3, h4, h5⟩
    exact ⟨⟨h1, h2, h3, h4⟩, h5⟩

theorem step_callS {P : Program} {ops : Array Oper} {o : Oper} {a : Act} {w : World} {K : Act → World → Prop} {Q : Exit → Act → World → Prop} {E : Prop}
    (hw : Region.wanted o (yielded ops a.tmps) = true) (f : FuncId) (vs : Array Value) (he : (execOp a.eval o).run P w = .ok (.enter f vs) w) {R : Ending → World → Prop} (hc : Calls P f vs w R) (h : ∀ e w', R e w' → ∃ v, e = .returned v ∧ K (a.put o.dst v) w') :
    if Region.wanted o (yielded ops a.tmps) = true then Oper.wp P o a w K Q else E := by
  rw [if_pos hw]
  unfold Oper.wp
  rw [he, Oper.upon_enter]
  refine hc.mono ?_
  intro e w' hr
  obtain ⟨v, rfl, hk⟩ := h e w' hr
  exact hk

set_option maxRecDepth 10000 in
set_option maxHeartbeats 12800000 in
theorem blkSame_is (p h k n p2 h2 k2 n2 : Int) (a a2 : Option Addr) (m c m2 c2 : Nat) (T U : List TxD) (o : Bool) (w : World) (hm : m ≤ maxLen) (hT : TxsAt w a m T) (hU : TxsAt w a2 m2 U) (ho : sameB (p, h, k, n, T) (p2, h2, k2, n2, U) = o) :
    Calls Tryz.prog 12 #[.agg #[.int .i64 p, .int .i64 h, .int .i64 k, .int .i64 n, .slice a m c], .agg #[.int .i64 p2, .int .i64 h2, .int .i64 k2, .int .i64 n2, .slice a2 m2 c2]] w fun e w' => e = .returned (.bool o) ∧ Below w.heap.size w w' := by
  obtain ⟨X, hX⟩ : ∃ X, X = (w.alloc (.cells #[.int .i64 p, .int .i64 h, .int .i64 k, .int .i64 n, .slice a m c] 24)).alloc (.cells #[.int .i64 p2, .int .i64 h2, .int .i64 k2, .int .i64 n2, .slice a2 m2 c2] 24) := ⟨_, rfl⟩
  have hbX : Below w.heap.size w X := by rw [hX]; exact bel_on (bel_new _ _) (bel_new _ _)
  have hX0 : X.heap[w.heap.size]? = some (.cells [.int .i64 p, .int .i64 h, .int .i64 k, .int .i64 n, .slice a m c].toArray 24 (0, 0)) := by
    rw [hX, Below.heap_alloc _ _ _ (by simp)]; exact five_heap _ _ _ _ _ _ _
  have hX1 : X.heap[w.heap.size + 1]? = some (.cells [.int .i64 p2, .int .i64 h2, .int .i64 k2, .int .i64 n2, .slice a2 m2 c2].toArray 24 (0, 0)) := by
    rw [hX]
    have := five_heap (w.alloc (.cells #[.int .i64 p, .int .i64 h, .int .i64 k, .int .i64 n, .slice a m c] 24)) (.int .i64 p2) (.int .i64 h2) (.int .i64 k2) (.int .i64 n2) (.slice a2 m2 c2) 24
    rw [show (w.alloc (.cells #[.int .i64 p, .int .i64 h, .int .i64 k, .int .i64 n, .slice a m c] 24)).heap.size = w.heap.size + 1 by simp] at this
    exact this
  have HB := hide hbX
  have KS : Hid (∀ W, Below X.heap.size X W → (fun W => Below X.heap.size X W ∧ W.cell? ⟨w.heap.size, 0, none⟩ = some (.int .i64 p) ∧ W.cell? ⟨w.heap.size, 1, none⟩ = some (.int .i64 h) ∧ W.cell? ⟨w.heap.size, 2, none⟩ = some (.int .i64 k) ∧ W.cell? ⟨w.heap.size, 3, none⟩ = some (.int .i64 n) ∧ W.cell? ⟨w.heap.size, 4, none⟩ = some (.slice a m c) ∧ W.cell? ⟨w.heap.size + 1, 0, none⟩ = some (.int .i64 p2) ∧ W.cell? ⟨w.heap.size + 1, 1, none⟩ = some (.int .i64 h2) ∧ W.cell? ⟨w.heap.size + 1, 2, none⟩ = some (.int .i64 k2) ∧ W.cell? ⟨w.heap.size + 1, 3, none⟩ = some (.int .i64 n2) ∧ W.cell? ⟨w.heap.size + 1, 4, none⟩ = some (.slice a2 m2 c2)) W) := fun W hb => by
    have h0 := (hb.block _ (lt_of_block hX0)).trans hX0
    have h1 := (hb.block _ (lt_of_block hX1)).trans hX1
    exact ⟨hb, cell_of h0 0 _ rfl, cell_of h0 1 _ rfl, cell_of h0 2 _ rfl, cell_of h0 3 _ rfl, cell_of h0 4 _ rfl, cell_of h1 0 _ rfl, cell_of h1 1 _ rfl, cell_of h1 2 _ rfl, cell_of h1 3 _ rfl, cell_of h1 4 _ rfl⟩
  have C1 := hide (fun W => headOf_is p h k n a m c W)
  have C2 := hide (fun W => headOf_is p2 h2 k2 n2 a2 m2 c2 W)
  obtain ⟨q, hq⟩ : ∃ q, sameTs T U = q := ⟨_, rfl⟩
  have C3 := hide (fun W (hb : Below X.heap.size X W) => eqTx_any a a2 m m2 c c2 T U q W hm (hT.later (bel_on hbX hb)) (hU.later (bel_on hbX hb)) hq)
  obtain ⟨e1, he1⟩ : ∃ e1, (decide (p = p2) && (decide (h = h2) && (decide (k = k2) && decide (n = n2)))) = e1 := ⟨_, rfl⟩
  have hov : (e1 && q) = o := by rw [← ho, ← he1, ← hq]; rfl
  have x0 := lt_of_block hX0
  have x1 := lt_of_block hX1
  clear hT hU ho hX0 hX1 hq
  have EQ : ∀ W, (binOp .eql 65 (.agg #[.int .i64 p, .int .i64 h, .int .i64 k, .int .i64 n]) (.agg #[.int .i64 p2, .int .i64 h2, .int .i64 k2, .int .i64 n2])).run Tryz.prog W = .ok (.bool e1) W := fun W => by rw [heads_eql, ← he1]; rfl
  cases e1 with
  | true =>
    clear he1
    go_enter Tryz.func12, Tryz.ntmps12
    go_wp2_with fail
    rw [← hX]
    clear hX
    refine wp_region_held_drew (S := (fun W => Below X.heap.size X W ∧ W.cell? ⟨w.heap.size, 0, none⟩ = some (.int .i64 p) ∧ W.cell? ⟨w.heap.size, 1, none⟩ = some (.int .i64 h) ∧ W.cell? ⟨w.heap.size, 2, none⟩ = some (.int .i64 k) ∧ W.cell? ⟨w.heap.size, 3, none⟩ = some (.int .i64 n) ∧ W.cell? ⟨w.heap.size, 4, none⟩ = some (.slice a m c) ∧ W.cell? ⟨w.heap.size + 1, 0, none⟩ = some (.int .i64 p2) ∧ W.cell? ⟨w.heap.size + 1, 1, none⟩ = some (.int .i64 h2) ∧ W.cell? ⟨w.heap.size + 1, 2, none⟩ = some (.int .i64 k2) ∧ W.cell? ⟨w.heap.size + 1, 3, none⟩ = some (.int .i64 n2) ∧ W.cell? ⟨w.heap.size + 1, 4, none⟩ = some (.slice a2 m2 c2))) (by kernel_rfl) ((unhide KS) _ (bel_draw1 _)) (fun hHeld => ?_)
    have HB1 : Hid (Below X.heap.size X X.drew) := bel_draw1 _
    refine wpAnyH_take (i := 0) (oi := { dst := some 5, op := Op.load 24 (Operand.tmp 2), type := 24, pos := "block.go:65", after := #[], guard := none }) (v := ?_) rfl (by kernel_rfl) (by kernel_rfl) (by kernel_rfl) (fun _ _ _ h => h) (Or.inl ⟨by rfl, ?_⟩) hHeld ?_
    rotate_left
    · (intro W hSw; (try dsimp only at hSw); go_simp; first | done | with_reducible rfl)
    (try simp only [Act.put, List.setIfInBounds_toArray, List.set_cons_zero, List.set_cons_succ])
    refine wpAnyH_take (i := 2) (oi := { dst := some 7, op := Op.load 24 (Operand.tmp 3), type := 24, pos := "block.go:65", after := #[], guard := none }) (v := ?_) rfl (by kernel_rfl) (by kernel_rfl) (by kernel_rfl) (fun _ _ _ h => h) (Or.inl ⟨by rfl, ?_⟩) hHeld ?_
    rotate_left
    · (intro W hSw; (try dsimp only at hSw); go_simp; first | done | with_reducible rfl)
    (try simp only [Act.put, List.setIfInBounds_toArray, List.set_cons_zero, List.set_cons_succ])
    refine wpAnyH_ready (rs := [1]) (by kernel_rfl) (by simp) ?_
    refine AllReadyH.cons (o := { dst := some 6, op := Op.call { callee := Callee.value (Operand.func 32), args := #[Operand.tmp 5], argTypes := #[24] }, type := 65, pos := "block.go:65", after := #[{ on := 0, ground := Ground.data }], guard := none }) rfl (fun K hK => ?_) AllReadyH.nil
    refine step_callS (by kernel_rfl) 32 #[.agg #[.int .i64 p, .int .i64 h, .int .i64 k, .int .i64 n, .slice a m c]] (by kernel_rfl) ((unhide C1) _) ?_
    rintro e w2 ⟨rfl, hb2⟩
    refine ⟨_, rfl, ?_⟩
    have HB2 := hide (bel_on (unhide HB1) hb2)
    clear hb2
    refine hK.out _ _ ((unhide KS) _ (unhide HB2)) (fun hHeld2 => ?_)
    clear hK K hHeld
    have hHeld := hHeld2
    clear hHeld2
    (try simp only [Act.put, List.setIfInBounds_toArray, List.set_cons_zero, List.set_cons_succ])
    refine wpAnyH_ready (rs := [3]) (by kernel_rfl) (by simp) ?_
    refine AllReadyH.cons (o := { dst := some 8, op := Op.call { callee := Callee.value (Operand.func 32), args := #[Operand.tmp 7], argTypes := #[24] }, type := 65, pos := "block.go:65", after := #[{ on := 2, ground := Ground.data }, { on := 1, ground := Ground.chain }], guard := none }) rfl (fun K hK => ?_) AllReadyH.nil
    refine step_callS (by kernel_rfl) 32 #[.agg #[.int .i64 p2, .int .i64 h2, .int .i64 k2, .int .i64 n2, .slice a2 m2 c2]] (by kernel_rfl) ((unhide C2) _) ?_
    rintro e w3 ⟨rfl, hb3⟩
    refine ⟨_, rfl, ?_⟩
    have HB3 := hide (bel_on (unhide HB2) hb3)
    clear hb3
    refine hK.out _ _ ((unhide KS) _ (unhide HB3)) (fun hHeld2 => ?_)
    clear hK K hHeld
    have hHeld := hHeld2
    clear hHeld2
    (try simp only [Act.put, List.setIfInBounds_toArray, List.set_cons_zero, List.set_cons_succ])
    refine wpAnyH_take (i := 4) (oi := { dst := some 9, op := Op.binOp BinOp.eql 65 (Operand.tmp 6) (Operand.tmp 8) 65, type := 4, pos := "block.go:65", after := #[{ on := 1, ground := Ground.data }, { on := 3, ground := Ground.data }], guard := none }) (v := ?_) rfl (by kernel_rfl) (by kernel_rfl) (by kernel_rfl) (fun _ _ _ h => h) (Or.inl ⟨by rfl, ?_⟩) hHeld ?_
    rotate_left
    · (intro W hSw; (try dsimp only at hSw); go_simp; first | done | with_reducible rfl)
    (try simp only [Act.put, List.setIfInBounds_toArray, List.set_cons_zero, List.set_cons_succ])
    refine wpAnyH_take (i := 5) (oi := { dst := some 10, op := Op.move (Operand.tmp 9), type := 4, pos := "block.go:65", after := #[{ on := 4, ground := Ground.data }, { on := 3, ground := Ground.chain }], guard := none }) (v := ?_) rfl (by kernel_rfl) (by kernel_rfl) (by kernel_rfl) (fun _ _ _ h => h) (Or.inl ⟨by rfl, ?_⟩) hHeld ?_
    rotate_left
    · (intro W hSw; (try dsimp only at hSw); go_simp; first | done | with_reducible rfl)
    (try simp only [Act.put, List.setIfInBounds_toArray, List.set_cons_zero, List.set_cons_succ])
    refine wpAnyH_take (i := 6) (oi := { dst := some 11, op := Op.fieldAddr 24 (Operand.tmp 2) 4, type := 0, pos := "block.go:65", after := #[{ on := 5, ground := Ground.guard }], guard := some (5, true) }) (v := ?_) rfl (by kernel_rfl) (by kernel_rfl) (by kernel_rfl) (fun _ _ _ h => h) (Or.inl ⟨by rfl, ?_⟩) hHeld ?_
    rotate_left
    · (intro W hSw; (try dsimp only at hSw); go_simp; first | done | with_reducible rfl)
    (try simp only [Act.put, List.setIfInBounds_toArray, List.set_cons_zero, List.set_cons_succ])
    refine wpAnyH_take (i := 7) (oi := { dst := some 12, op := Op.load 22 (Operand.tmp 11), type := 22, pos := "block.go:65", after := #[{ on := 6, ground := Ground.data }, { on := 5, ground := Ground.guard }], guard := some (5, true) }) (v := ?_) rfl (by kernel_rfl) (by kernel_rfl) (by kernel_rfl) (fun _ _ _ h => h) (Or.inl ⟨by rfl, ?_⟩) hHeld ?_
    rotate_left
    · (intro W hSw; (try dsimp only at hSw); go_simp; first | done | with_reducible rfl)
    (try simp only [Act.put, List.setIfInBounds_toArray, List.set_cons_zero, List.set_cons_succ])
    refine wpAnyH_take (i := 8) (oi := { dst := some 13, op := Op.fieldAddr 24 (Operand.tmp 3) 4, type := 0, pos := "block.go:65", after := #[{ on := 5, ground := Ground.guard }], guard := some (5, true) }) (v := ?_) rfl (by kernel_rfl) (by kernel_rfl) (by kernel_rfl) (fun _ _ _ h => h) (Or.inl ⟨by rfl, ?_⟩) hHeld ?_
    rotate_left
    · (intro W hSw; (try dsimp only at hSw); go_simp; first | done | with_reducible rfl)
    (try simp only [Act.put, List.setIfInBounds_toArray, List.set_cons_zero, List.set_cons_succ])
    refine wpAnyH_take (i := 9) (oi := { dst := some 14, op := Op.load 22 (Operand.tmp 13), type := 22, pos := "block.go:65", after := #[{ on := 8, ground := Ground.data }, { on := 5, ground := Ground.guard }], guard := some (5, true) }) (v := ?_) rfl (by kernel_rfl) (by kernel_rfl) (by kernel_rfl) (fun _ _ _ h => h) (Or.inl ⟨by rfl, ?_⟩) hHeld ?_
    rotate_left
    · (intro W hSw; (try dsimp only at hSw); go_simp; first | done | with_reducible rfl)
    (try simp only [Act.put, List.setIfInBounds_toArray, List.set_cons_zero, List.set_cons_succ])
    refine wpAnyH_ready (rs := [10]) (by kernel_rfl) (by simp) ?_
    refine AllReadyH.cons (o := { dst := some 15, op := Op.call { callee := Callee.value (Operand.func 45), args := #[Operand.tmp 12, Operand.tmp 14, Operand.func 46], argTypes := #[22, 22, 93] }, type := 4, pos := "block.go:65", after := #[{ on := 7, ground := Ground.data }, { on := 9, ground := Ground.data }, { on := 5, ground := Ground.chain }, { on := 5, ground := Ground.guard }], guard := some (5, true) }) rfl (fun K hK => ?_) AllReadyH.nil
    refine step_callS (by kernel_rfl) 45 #[.slice a m c, .slice a2 m2 c2, .func (.func 46) #[] #[]] (by kernel_rfl) ((unhide C3) _ (unhide HB3)) ?_
    rintro e w4 ⟨rfl, hb4⟩
    refine ⟨_, rfl, ?_⟩
    have HB4 := hide (bel_on (unhide HB3) hb4)
    clear hb4
    refine hK.out _ _ ((unhide KS) _ (unhide HB4)) (fun hHeld2 => ?_)
    clear hK K hHeld
    have hHeld := hHeld2
    clear hHeld2
    (try simp only [Act.put, List.setIfInBounds_toArray, List.set_cons_zero, List.set_cons_succ])
    refine wpAnyH_take (i := 11) (oi := { dst := some 16, op := Op.pick (Operand.tmp 10) (Operand.tmp 15) (Operand.const (Value.bool false)), type := 4, pos := "block.go:65", after := #[{ on := 5, ground := Ground.data }, { on := 10, ground := Ground.data }], guard := none }) (v := ?_) rfl (by kernel_rfl) (by kernel_rfl) (by kernel_rfl) (fun _ _ _ h => h) (Or.inl ⟨by rfl, ?_⟩) hHeld ?_
    rotate_left
    · (intro W hSw; (try dsimp only at hSw); go_simp; first | done | with_reducible rfl)
    (try simp only [Act.put, List.setIfInBounds_toArray, List.set_cons_zero, List.set_cons_succ])
    refine wpAnyH_take (i := 12) (oi := { dst := some 4, op := Op.assign (Operand.tmp 16), type := 4, pos := "block.go:65", after := #[{ on := 11, ground := Ground.data }, { on := 10, ground := Ground.chain }, { on := 0, ground := Ground.phase }, { on := 1, ground := Ground.phase }, { on := 2, ground := Ground.phase }, { on := 3, ground := Ground.phase }, { on := 4, ground := Ground.phase }, { on := 5, ground := Ground.phase }, { on := 6, ground := Ground.phase }, { on := 7, ground := Ground.phase }, { on := 8, ground := Ground.phase }, { on := 9, ground := Ground.phase }, { on := 10, ground := Ground.phase }, { on := 11, ground := Ground.phase }], guard := none }) (v := ?_) rfl (by kernel_rfl) (by kernel_rfl) (by kernel_rfl) (fun _ _ _ h => h) (Or.inl ⟨by rfl, ?_⟩) hHeld ?_
    rotate_left
    · (intro W hSw; (try dsimp only at hSw); go_simp; first | done | with_reducible rfl)
    (try simp only [Act.put, List.setIfInBounds_toArray, List.set_cons_zero, List.set_cons_succ])
    refine wpAnyH_done (by kernel_rfl) ?_ _
    have HBF := hide (bel_on (unhide HB) (unhide HB4))
    go_wp2
    go_ret
    exact ⟨by rw [← hov]; rfl, unhide HBF⟩
  | false =>
    clear he1
    go_enter Tryz.func12, Tryz.ntmps12
    go_wp2_with fail
    rw [← hX]
    clear hX
    refine wp_region_held_drew (S := (fun W => Below X.heap.size X W ∧ W.cell? ⟨w.heap.size, 0, none⟩ = some (.int .i64 p) ∧ W.cell? ⟨w.heap.size, 1, none⟩ = some (.int .i64 h) ∧ W.cell? ⟨w.heap.size, 2, none⟩ = some (.int .i64 k) ∧ W.cell? ⟨w.heap.size, 3, none⟩ = some (.int .i64 n) ∧ W.cell? ⟨w.heap.size, 4, none⟩ = some (.slice a m c) ∧ W.cell? ⟨w.heap.size + 1, 0, none⟩ = some (.int .i64 p2) ∧ W.cell? ⟨w.heap.size + 1, 1, none⟩ = some (.int .i64 h2) ∧ W.cell? ⟨w.heap.size + 1, 2, none⟩ = some (.int .i64 k2) ∧ W.cell? ⟨w.heap.size + 1, 3, none⟩ = some (.int .i64 n2) ∧ W.cell? ⟨w.heap.size + 1, 4, none⟩ = some (.slice a2 m2 c2))) (by kernel_rfl) ((unhide KS) _ (bel_draw1 _)) (fun hHeld => ?_)
    have HB1 : Hid (Below X.heap.size X X.drew) := bel_draw1 _
    refine wpAnyH_take (i := 0) (oi := { dst := some 5, op := Op.load 24 (Operand.tmp 2), type := 24, pos := "block.go:65", after := #[], guard := none }) (v := ?_) rfl (by kernel_rfl) (by kernel_rfl) (by kernel_rfl) (fun _ _ _ h => h) (Or.inl ⟨by rfl, ?_⟩) hHeld ?_
    rotate_left
    · (intro W hSw; (try dsimp only at hSw); go_simp; first | done | with_reducible rfl)
    (try simp only [Act.put, List.setIfInBounds_toArray, List.set_cons_zero, List.set_cons_succ])
    refine wpAnyH_take (i := 2) (oi := { dst := some 7, op := Op.load 24 (Operand.tmp 3), type := 24, pos := "block.go:65", after := #[], guard := none }) (v := ?_) rfl (by kernel_rfl) (by kernel_rfl) (by kernel_rfl) (fun _ _ _ h => h) (Or.inl ⟨by rfl, ?_⟩) hHeld ?_
    rotate_left
    · (intro W hSw; (try dsimp only at hSw); go_simp; first | done | with_reducible rfl)
    (try simp only [Act.put, List.setIfInBounds_toArray, List.set_cons_zero, List.set_cons_succ])
    refine wpAnyH_ready (rs := [1]) (by kernel_rfl) (by simp) ?_
    refine AllReadyH.cons (o := { dst := some 6, op := Op.call { callee := Callee.value (Operand.func 32), args := #[Operand.tmp 5], argTypes := #[24] }, type := 65, pos := "block.go:65", after := #[{ on := 0, ground := Ground.data }], guard := none }) rfl (fun K hK => ?_) AllReadyH.nil
    refine step_callS (by kernel_rfl) 32 #[.agg #[.int .i64 p, .int .i64 h, .int .i64 k, .int .i64 n, .slice a m c]] (by kernel_rfl) ((unhide C1) _) ?_
    rintro e w2 ⟨rfl, hb2⟩
    refine ⟨_, rfl, ?_⟩
    have HB2 := hide (bel_on (unhide HB1) hb2)
    clear hb2
    refine hK.out _ _ ((unhide KS) _ (unhide HB2)) (fun hHeld2 => ?_)
    clear hK K hHeld
    have hHeld := hHeld2
    clear hHeld2
    (try simp only [Act.put, List.setIfInBounds_toArray, List.set_cons_zero, List.set_cons_succ])
    refine wpAnyH_ready (rs := [3]) (by kernel_rfl) (by simp) ?_
    refine AllReadyH.cons (o := { dst := some 8, op := Op.call { callee := Callee.value (Operand.func 32), args := #[Operand.tmp 7], argTypes := #[24] }, type := 65, pos := "block.go:65", after := #[{ on := 2, ground := Ground.data }, { on := 1, ground := Ground.chain }], guard := none }) rfl (fun K hK => ?_) AllReadyH.nil
    refine step_callS (by kernel_rfl) 32 #[.agg #[.int .i64 p2, .int .i64 h2, .int .i64 k2, .int .i64 n2, .slice a2 m2 c2]] (by kernel_rfl) ((unhide C2) _) ?_
    rintro e w3 ⟨rfl, hb3⟩
    refine ⟨_, rfl, ?_⟩
    have HB3 := hide (bel_on (unhide HB2) hb3)
    clear hb3
    refine hK.out _ _ ((unhide KS) _ (unhide HB3)) (fun hHeld2 => ?_)
    clear hK K hHeld
    have hHeld := hHeld2
    clear hHeld2
    (try simp only [Act.put, List.setIfInBounds_toArray, List.set_cons_zero, List.set_cons_succ])
    refine wpAnyH_take (i := 4) (oi := { dst := some 9, op := Op.binOp BinOp.eql 65 (Operand.tmp 6) (Operand.tmp 8) 65, type := 4, pos := "block.go:65", after := #[{ on := 1, ground := Ground.data }, { on := 3, ground := Ground.data }], guard := none }) (v := ?_) rfl (by kernel_rfl) (by kernel_rfl) (by kernel_rfl) (fun _ _ _ h => h) (Or.inl ⟨by rfl, ?_⟩) hHeld ?_
    rotate_left
    · (intro W hSw; (try dsimp only at hSw); go_simp; first | done | with_reducible rfl)
    (try simp only [Act.put, List.setIfInBounds_toArray, List.set_cons_zero, List.set_cons_succ])
    refine wpAnyH_take (i := 5) (oi := { dst := some 10, op := Op.move (Operand.tmp 9), type := 4, pos := "block.go:65", after := #[{ on := 4, ground := Ground.data }, { on := 3, ground := Ground.chain }], guard := none }) (v := ?_) rfl (by kernel_rfl) (by kernel_rfl) (by kernel_rfl) (fun _ _ _ h => h) (Or.inl ⟨by rfl, ?_⟩) hHeld ?_
    rotate_left
    · (intro W hSw; (try dsimp only at hSw); go_simp; first | done | with_reducible rfl)
    (try simp only [Act.put, List.setIfInBounds_toArray, List.set_cons_zero, List.set_cons_succ])
    refine wpAnyH_take (i := 6) (oi := { dst := some 11, op := Op.fieldAddr 24 (Operand.tmp 2) 4, type := 0, pos := "block.go:65", after := #[{ on := 5, ground := Ground.guard }], guard := some (5, true) }) (v := undef) rfl (by kernel_rfl) (by kernel_rfl) (by kernel_rfl) (fun _ _ _ h => h) (Or.inr ⟨by rfl, rfl⟩) hHeld ?_
    (try simp only [Act.put, List.setIfInBounds_toArray, List.set_cons_zero, List.set_cons_succ])
    refine wpAnyH_take (i := 7) (oi := { dst := some 12, op := Op.load 22 (Operand.tmp 11), type := 22, pos := "block.go:65", after := #[{ on := 6, ground := Ground.data }, { on := 5, ground := Ground.guard }], guard := some (5, true) }) (v := undef) rfl (by kernel_rfl) (by kernel_rfl) (by kernel_rfl) (fun _ _ _ h => h) (Or.inr ⟨by rfl, rfl⟩) hHeld ?_
    (try simp only [Act.put, List.setIfInBounds_toArray, List.set_cons_zero, List.set_cons_succ])
    refine wpAnyH_take (i := 8) (oi := { dst := some 13, op := Op.fieldAddr 24 (Operand.tmp 3) 4, type := 0, pos := "block.go:65", after := #[{ on := 5, ground := Ground.guard }], guard := some (5, true) }) (v := undef) rfl (by kernel_rfl) (by kernel_rfl) (by kernel_rfl) (fun _ _ _ h => h) (Or.inr ⟨by rfl, rfl⟩) hHeld ?_
    (try simp only [Act.put, List.setIfInBounds_toArray, List.set_cons_zero, List.set_cons_succ])
    refine wpAnyH_take (i := 9) (oi := { dst := some 14, op := Op.load 22 (Operand.tmp 13), type := 22, pos := "block.go:65", after := #[{ on := 8, ground := Ground.data }, { on := 5, ground := Ground.guard }], guard := some (5, true) }) (v := undef) rfl (by kernel_rfl) (by kernel_rfl) (by kernel_rfl) (fun _ _ _ h => h) (Or.inr ⟨by rfl, rfl⟩) hHeld ?_
    (try simp only [Act.put, List.setIfInBounds_toArray, List.set_cons_zero, List.set_cons_succ])
    refine wpAnyH_take (i := 10) (oi := { dst := some 15, op := Op.call { callee := Callee.value (Operand.func 45), args := #[Operand.tmp 12, Operand.tmp 14, Operand.func 46], argTypes := #[22, 22, 93] }, type := 4, pos := "block.go:65", after := #[{ on := 7, ground := Ground.data }, { on := 9, ground := Ground.data }, { on := 5, ground := Ground.chain }, { on := 5, ground := Ground.guard }], guard := some (5, true) }) (v := undef) rfl (by kernel_rfl) (by kernel_rfl) (by kernel_rfl) (fun _ _ _ h => h) (Or.inr ⟨by rfl, rfl⟩) hHeld ?_
    (try simp only [Act.put, List.setIfInBounds_toArray, List.set_cons_zero, List.set_cons_succ])
    refine wpAnyH_take (i := 11) (oi := { dst := some 16, op := Op.pick (Operand.tmp 10) (Operand.tmp 15) (Operand.const (Value.bool false)), type := 4, pos := "block.go:65", after := #[{ on := 5, ground := Ground.data }, { on := 10, ground := Ground.data }], guard := none }) (v := ?_) rfl (by kernel_rfl) (by kernel_rfl) (by kernel_rfl) (fun _ _ _ h => h) (Or.inl ⟨by rfl, ?_⟩) hHeld ?_
    rotate_left
    · (intro W hSw; (try dsimp only at hSw); go_simp; first | done | with_reducible rfl)
    (try simp only [Act.put, List.setIfInBounds_toArray, List.set_cons_zero, List.set_cons_succ])
    refine wpAnyH_take (i := 12) (oi := { dst := some 4, op := Op.assign (Operand.tmp 16), type := 4, pos := "block.go:65", after := #[{ on := 11, ground := Ground.data }, { on := 10, ground := Ground.chain }, { on := 0, ground := Ground.phase }, { on := 1, ground := Ground.phase }, { on := 2, ground := Ground.phase }, { on := 3, ground := Ground.phase }, { on := 4, ground := Ground.phase }, { on := 5, ground := Ground.phase }, { on := 6, ground := Ground.phase }, { on := 7, ground := Ground.phase }, { on := 8, ground := Ground.phase }, { on := 9, ground := Ground.phase }, { on := 10, ground := Ground.phase }, { on := 11, ground := Ground.phase }], guard := none }) (v := ?_) rfl (by kernel_rfl) (by kernel_rfl) (by kernel_rfl) (fun _ _ _ h => h) (Or.inl ⟨by rfl, ?_⟩) hHeld ?_
    rotate_left
    · (intro W hSw; (try dsimp only at hSw); go_simp; first | done | with_reducible rfl)
    (try simp only [Act.put, List.setIfInBounds_toArray, List.set_cons_zero, List.set_cons_succ])
    refine wpAnyH_done (by kernel_rfl) ?_ _
    have HBF := hide (bel_on (unhide HB) (unhide HB3))
    go_wp2
    go_ret
    exact ⟨by rw [← hov]; rfl, unhide HBF⟩

end Go.Proofs.YtifhlohdidfbgaaGreatDoor

/- The contract of Connect (written by a program of ours: mkconnect.py). -/
namespace Go.Proofs.YtifhlohdidfbgaaGreatDoor
open Go.RowKit

theorem nf_facts {K : List ByteArray} {C : List CoinD} {b : BlkD} {N : List Int} (h : nfD K C b = (N, 0)) : chkB b = 0 ∧ N.length = b.2.2.2.2.length := by
  unfold nfD at h
  split at h
  · next q => simp at h; exact absurd h.2 q
  · injection h with h1 h2
    unfold nmsB at h1 h2
    split at h2
    · next q => exact absurd h2 q
    · next q =>
      rw [if_neg q] at h1
      split at h2
      · next q => exact absurd h2 q
      · next q2 =>
        rw [if_neg q2] at h1
        obtain ⟨M, N', x, e⟩ : ∃ M N' x, Bk.allR K (txtsOf b) = (M, N', x) := ⟨_, _, _, rfl⟩
        rw [e] at q2 h1
        obtain rfl : x = 0 := Decidable.not_not.1 q2
        have := allR_len e
        simp only at h1
        refine ⟨Decidable.not_not.1 q, ?_⟩
        rw [← h1, List.length_take, this]
        simp [txtsOf]
theorem Tryz.infoUndo : (Tryz.prog.info? 107).map (fun i => (i.zero, i.size, i.bytes)) = some (some (.agg #[.slice none 0 0]), 1, 24) := by kernel_rfl
theorem made_undo (m : Nat) : (madeCells (Value.agg #[.slice none 0 0]).cells (m * 1)).toList = List.replicate m (.slice none 0 0) := by
  rw [Nat.mul_one]
  exact toList_madeCells_one _ _
theorem head_right {p h k n : Int} {L : List TxD} (e : chkB (p, h, k, n, L) = 0) : rwD h = ((rwD h).1, 0) := by
  unfold chkB at e
  split at e
  · cases e
  · next q =>
    unfold rwD
    simp [headOk] at q
    rw [if_pos (by simp; omega)]

set_option maxRecDepth 10000 in
set_option maxHeartbeats 12800000 in
theorem connect_is (ka : Option Addr) (kn kc : Nat) (K : List ByteArray) (la : Option Addr) (ln lc : Nat) (C0 : List CoinD) (p h k0 n : Int) (a : Option Addr) (m c : Nat) (L : List TxD) (x : Int) (C' : List CoinD) (S' : List (List CoinD)) (w : World) (hE : Env w) (hK : Bk.TextsAt w ka kn K) (hC : CoinsAt w la ln C0) (sC : SlOk la ln lc) (hL : TxsAt w a m L) (hx : conD K C0 (p, h, k0, n, L) = (x, C', S')) :
    Calls Tryz.prog 17 #[.agg #[.slice ka kn kc], .slice la ln lc, .agg #[.int .i64 p, .int .i64 h, .int .i64 k0, .int .i64 n, .slice a m c]] w fun e w' => ConR w w' x C' S' e := by
  obtain ⟨X, hX⟩ : ∃ X, X = (w.alloc (.cells #[.slice ka kn kc] 37)).alloc (.cells #[.int .i64 p, .int .i64 h, .int .i64 k0, .int .i64 n, .slice a m c] 24) := ⟨_, rfl⟩
  have hbX : Below w.heap.size w X := by rw [hX]; exact bel_on (bel_new _ _) (bel_new _ _)
  have hX1 : X.heap[w.heap.size]? = some (.cells [.slice ka kn kc].toArray 37 (0, 0)) := by
    rw [hX, Below.heap_alloc _ _ _ (by simp)]; exact one_heap _ _ _
  have hX2 : X.heap[w.heap.size + 1]? = some (.cells [.int .i64 p, .int .i64 h, .int .i64 k0, .int .i64 n, .slice a m c].toArray 24 (0, 0)) := by
    rw [hX]
    have := five_heap (w.alloc (.cells #[.slice ka kn kc] 37)) (.int .i64 p) (.int .i64 h) (.int .i64 k0) (.int .i64 n) (.slice a m c) 24
    rw [show (w.alloc (.cells #[.slice ka kn kc] 37)).heap.size = w.heap.size + 1 by simp] at this
    exact this
  obtain ⟨N, y1, hy1⟩ : ∃ N y1, nfD K C0 (p, h, k0, n, L) = (N, y1) := ⟨_, _, rfl⟩
  have C1 := hide (namesFor_is ka kn kc K la ln lc C0 p h k0 n a m c L N y1 X (hE.later hbX) (hK.later hbX) (hC.later hbX) (hL.later hbX) hy1)
  unfold conD at hx
  rw [hy1] at hx
  simp only at hx
  have kk0 := cell_of hX1 0 _ rfl
  have bb0 := cell_of hX2 0 _ rfl
  have bb1 := cell_of hX2 1 _ rfl
  have bb2 := cell_of hX2 2 _ rfl
  have bb3 := cell_of hX2 3 _ rfl
  have bb4 := cell_of hX2 4 _ rfl
  have kkl := lt_of_block hX1
  have bbl := lt_of_block hX2
  have HB0 := hide hbX
  have HX2 := hide hX2
  by_cases e1 : y1 = 0
  · subst e1
    rw [if_neg (by simp)] at hx
    obtain ⟨hck, hNl⟩ := nf_facts hy1
    have hz : L.length = m := hL.1
    obtain ⟨f1, f2, f3, _, f5⟩ := chkB_zero hck
    simp only at f1 f2 f3 f5 hNl hz
    rw [hz] at hNl hx
    have hm0 : 0 < m := by omega
    have hm4 : m ≤ 4 := by omega
    obtain ⟨tb, tof, rfl, htb, hct⟩ := hL.2 hm0
    obtain ⟨r, hr⟩ : ∃ r, (rwD h).1 = r := ⟨_, rfl⟩
    have hrw := head_right hck
    rw [hr] at hx hrw
    have HTX : Hid (∀ W, Below w.heap.size w W → ∀ i (hi : i < L.length), TxAt W tb (tof + i * 3) L[i]) := fun W hb i hi => TxAt.kept _ _ _ _ _ hb (hct i hi)
    have HTB : Hid (∀ t ∈ L, t.2.2.length ≤ 6 ∧ ∀ x ∈ t.2.2, 0 ≤ x.1 ∧ x.1 ≤ 1000000000) := fun t ht => ⟨(chkTx_zero (f5 t ht)).2.1, outs_bd (f5 t ht)⟩
    have HC := hide hC
    have HSC := hide sC
    have HZ := hide hz
    have HNL := hide hNl
    have HRW := hide hrw
    have HX : Hid (conGo h r L N m 0 C0 (List.replicate m []) = (x, C', S')) := hx
    clear hE hK hC sC hL hx hX1 hX2 hbX hy1 hck hNl hz f1 f2 f3 f5 hct hr hrw htb
    obtain ⟨i0, ii, iz0, iz1, iz2⟩ := info_parts Tryz.infoUndo
    go_enter Tryz.func17, Tryz.ntmps17
    go_wp2_with fail
    rw [← hX]
    clear hX
    refine (unhide C1).mono ?_
    rintro e w1 ⟨na, nn, nc, rfl, hN, hnc, hb1⟩
    have HN := hide hN
    have HNC := hide hnc
    have h21 := (hb1.block _ (lt_of_block (unhide HX2))).trans (unhide HX2)
    have HX21 := hide h21
    have cc4 := cell_of h21 4 _ rfl
    have ccl := lt_of_block h21
    have HB1 := hide (bel_on (unhide HB0) hb1)
    have hl1 : w.heap.size + 2 ≤ w1.heap.size := by have := lt_of_block h21; omega
    clear hN hnc hb1 h21 C1 kk0 bb0 bb1 bb2 bb3 bb4 kkl bbl HB0
    go_wp2_with fail
    have KS4 : Hid (∀ W, Below w1.heap.size w1 W → Below w1.heap.size w1 W ∧ W.cell? ⟨w.heap.size + 1, 4, none⟩ = some (.slice (some ⟨tb, tof, none⟩) m c)) := fun W hb => ⟨hb, cell_of ((hb.block _ (lt_of_block (unhide HX21))).trans (unhide HX21)) 4 _ rfl⟩
    refine wp_region_held_drew (S := fun W => Below w1.heap.size w1 W ∧ W.cell? ⟨w.heap.size + 1, 4, none⟩ = some (.slice (some ⟨tb, tof, none⟩) m c)) (by kernel_rfl) ((unhide KS4) _ (bel_draw1 _)) (fun hHeld => ?_)
    refine wpAnyH_take (i := 0) (oi := { dst := some 22, op := Op.move (Operand.tmp 1), type := 38, pos := "connect.go:17", after := #[], guard := none }) (v := ?_) rfl (by kernel_rfl) (by kernel_rfl) (by kernel_rfl) (fun _ _ _ h => h) (Or.inl ⟨by rfl, ?_⟩) hHeld ?_
    rotate_left
    · (intro W hSw; (try dsimp only at hSw); go_simp; first | done | with_reducible rfl)
    (try simp only [Act.put, List.setIfInBounds_toArray, List.set_cons_zero, List.set_cons_succ])
    refine wpAnyH_take (i := 1) (oi := { dst := some 23, op := Op.fieldAddr 24 (Operand.tmp 5) 4, type := 0, pos := "connect.go:17", after := #[], guard := none }) (v := ?_) rfl (by kernel_rfl) (by kernel_rfl) (by kernel_rfl) (fun _ _ _ h => h) (Or.inl ⟨by rfl, ?_⟩) hHeld ?_
    rotate_left
    · (intro W hSw; (try dsimp only at hSw); go_simp; first | done | with_reducible rfl)
    (try simp only [Act.put, List.setIfInBounds_toArray, List.set_cons_zero, List.set_cons_succ])
    refine wpAnyH_take (i := 2) (oi := { dst := some 24, op := Op.load 22 (Operand.tmp 23), type := 22, pos := "connect.go:17", after := #[{ on := 1, ground := Ground.data }], guard := none }) (v := ?_) rfl (by kernel_rfl) (by kernel_rfl) (by kernel_rfl) (fun _ _ _ h => h) (Or.inl ⟨by rfl, ?_⟩) hHeld ?_
    rotate_left
    · (intro W hSw; (try dsimp only at hSw); go_simp; first | done | with_reducible rfl)
    (try simp only [Act.put, List.setIfInBounds_toArray, List.set_cons_zero, List.set_cons_succ])
    refine wpAnyH_take (i := 3) (oi := { dst := some 25, op := Op.call { callee := Callee.builtin Builtin.len, args := #[Operand.tmp 24], argTypes := #[22] }, type := 3, pos := "connect.go:17", after := #[{ on := 2, ground := Ground.data }], guard := none }) (v := ?_) rfl (by kernel_rfl) (by kernel_rfl) (by kernel_rfl) (fun _ _ _ h => h) (Or.inl ⟨by rfl, ?_⟩) hHeld ?_
    rotate_left
    · (intro W hSw; (try dsimp only at hSw); go_simp; first | done | with_reducible rfl)
    (try simp only [Act.put, List.setIfInBounds_toArray, List.set_cons_zero, List.set_cons_succ])
    refine wpAnyH_take (i := 5) (oi := { dst := some 6, op := Op.assign (Operand.tmp 22), type := 38, pos := "connect.go:17", after := #[{ on := 0, ground := Ground.data }, { on := 0, ground := Ground.phase }, { on := 1, ground := Ground.textOnly Departure.lateStores }, { on := 2, ground := Ground.textOnly Departure.lateStores }, { on := 3, ground := Ground.textOnly Departure.lateStoresUnsure }, { on := 4, ground := Ground.textOnly Departure.lateStoresUnsure }], guard := none }) (v := ?_) rfl (by kernel_rfl) (by kernel_rfl) (by kernel_rfl) (fun _ _ _ h => h) (Or.inl ⟨by rfl, ?_⟩) hHeld ?_
    rotate_left
    · (intro W hSw; (try dsimp only at hSw); go_simp; first | done | with_reducible rfl)
    (try simp only [Act.put, List.setIfInBounds_toArray, List.set_cons_zero, List.set_cons_succ])
    refine wpAnyH_ready (rs := [4]) (by kernel_rfl) (by simp) ?_
    refine AllReadyH.cons (o := { dst := some 26, op := Op.makeSlice 39 (Operand.tmp 25) (Operand.tmp 25), type := 39, pos := "connect.go:17", after := #[{ on := 3, ground := Ground.data }, { on := 3, ground := Ground.data }], guard := none }) rfl (fun K hK => ?_) AllReadyH.nil
    refine step_make (by kernel_rfl) _ _ _ (by rfl) w1.heap.size 107 i0 (.agg #[.slice none 0 0]) 1 Tryz.underlying39 ii iz0 iz1 .i64 .i64 _ _ m (by rfl) (by rfl) (by rfl) (by rfl) (by rw [iz2]; omega) (by unfold maxLen; omega) (Nat.le_refl _) w1.heap.size (by rfl) ?_
    intro w2 hown2 hgrow2
    have hb2 : Below w1.heap.size w1 w2 := bel_on (bel_draw1 w1) ((Below.refl _ _).grown hgrow2 (Nat.le_refl _) (fun k h => by cases h))
    refine hK.out _ _ ((unhide KS4) _ hb2) (fun hHeld2 => ?_)
    clear hK K hHeld
    have hHeld := hHeld2
    clear hHeld2
    (try simp only [Act.put, List.setIfInBounds_toArray, List.set_cons_zero, List.set_cons_succ])
    refine wpAnyH_take (i := 6) (oi := { dst := some 7, op := Op.assign (Operand.tmp 26), type := 39, pos := "connect.go:17", after := #[{ on := 4, ground := Ground.data }, { on := 5, ground := Ground.chain }, { on := 0, ground := Ground.phase }, { on := 1, ground := Ground.phase }, { on := 2, ground := Ground.phase }, { on := 3, ground := Ground.phase }, { on := 4, ground := Ground.phase }, { on := 5, ground := Ground.phase }], guard := none }) (v := ?_) rfl (by kernel_rfl) (by kernel_rfl) (by kernel_rfl) (fun _ _ _ h => h) (Or.inl ⟨by rfl, ?_⟩) hHeld ?_
    rotate_left
    · (intro W hSw; (try dsimp only at hSw); go_simp; first | done | with_reducible rfl)
    (try simp only [Act.put, List.setIfInBounds_toArray, List.set_cons_zero, List.set_cons_succ])
    refine wpAnyH_done (by kernel_rfl) ?_ _
    have hU2 : UsAt 107 w1.heap.size (List.replicate m []) w2 := us_new (base := w1.heap.size) (by rw [← made_undo]; exact hown2)
    have HU2 := hide hU2
    have HB2 := hide hb2
    have h22 := (hb2.block _ (lt_of_block (unhide HX21))).trans (unhide HX21)
    have HX22 := hide h22
    have dd4 := cell_of h22 4 _ rfl
    have ddl := lt_of_block h22
    have C2 := hide (turns_is m w2 hm0 hm4)
    clear hU2 hb2 h22 hown2 hgrow2 cc4 ccl HX21 hHeld KS4
    go_wp2_with fail
    refine (unhide C2).mono ?_
    rintro e w3 ⟨rfl, hf3⟩
    have HF := hide hf3
    have hb3 := hf3.bel
    have HB3 := hide hb3
    have HU3 := hide ((unhide HU2).later hb3)
    have hgl := (unhide HU2).ok.lt
    have GB : Hid (∀ W, Gr w3 W (fun q => q = w1.heap.size) → Below w1.heap.size w1 W) := fun W g => g.below (bel_on (unhide HB2) hb3) (by have := hb3.size; omega) (fun q e => by rw [e]; exact Nat.le_refl _)
    have HX23 := hide ((hb3.block _ (lt_of_block (unhide HX22))).trans (unhide HX22))
    clear hf3 hb3 C2 HU2 dd4 ddl HX22
    go_wp2
    go_loopw [6, 7, 8, 32] (fun ov uv ev i wr => ∃ (k : Nat) (oa : Option Addr) (oon oc : Nat) (C : List CoinD) (S : List (List CoinD)), k ≤ m ∧ ov = .slice oa oon oc ∧ uv = .slice (some ⟨w1.heap.size, 0, none⟩) m m ∧ ev = .int .i64 0 ∧ i = .int .i64 k ∧ Hid (CoinsAt wr oa oon C ∧ SlOk oa oon oc) ∧ Hid (UsAt 107 w1.heap.size S wr) ∧ Hid (S.length = m) ∧ Hid (∀ s ∈ S, s.length ≤ 6 ∧ ∀ x ∈ s, 0 ≤ cv x ∧ cv x ≤ 1000000000) ∧ Hid (conGo h r L N (m - k) k C S = (x, C', S')) ∧ Hid (Gr w3 wr (fun q => q = w1.heap.size))) (fun _ _ _ i _ => m - (intOf i).toNat)
    case atStart => exact ⟨0, la, ln, lc, C0, List.replicate m [], Nat.zero_le _, rfl, rfl, rfl, rfl, (⟨(unhide HC).later ((unhide HB1).trans ((unhide GB w3 (Gr.refl _ _)).mono (unhide HB1).size)), unhide HSC⟩ : CoinsAt w3 la ln C0 ∧ SlOk la ln lc), HU3, (List.length_replicate : (List.replicate m ([] : List CoinD)).length = m), (fun s hs => by rw [(List.mem_replicate.1 hs).2]; exact ⟨by simp, fun x hx => by cases hx⟩ : ∀ s ∈ List.replicate m ([] : List CoinD), s.length ≤ 6 ∧ ∀ x ∈ s, 0 ≤ cv x ∧ cv x ≤ 1000000000), HX, (Gr.refl _ _ : Gr w3 w3 (fun q => q = w1.heap.size))⟩
    case round =>
        obtain ⟨k, oa, oon, oc, C, S, hk, rfl, rfl, rfl, rfl, HO, HU, HSL, HSB, HQ, HG⟩ := hrel
        clear HX HU3 HC HSC
        have hbw1 := (unhide GB) wr (unhide HG)
        have hbw := (unhide HB1).trans (hbw1.mono (unhide HB1).size)
        by_cases hlt : k < m
        · have hil : (k + 1) % m < m := Nat.mod_lt _ hm0
          have ttt := (World.cell?_of_block (a := ⟨w2.heap.size, k, none⟩) ((unhide HG).block w2.heap.size (unhide HF).lt (by omega))).trans ((unhide HF).cells (Nat.le_refl _) k hlt)
          have ttl : w2.heap.size < wr.heap.size := Nat.lt_of_lt_of_le (unhide HF).lt (unhide HG).size
          unfold turnV at ttt
          obtain ⟨i, hi⟩ : ∃ i, (k + 1) % m = i := ⟨_, rfl⟩
          rw [hi] at hil ttt
          have hmk : m - k = (m - (k + 1)) + 1 := by omega
          have hiL : i < L.length := by rw [unhide HZ]; exact hil
          obtain ⟨t1, I, O, ht⟩ : ∃ t1 I O, L[i] = (t1, I, O) := ⟨_, _, _, rfl⟩
          obtain ⟨nm, hnm⟩ : ∃ nm, N.getD i 0 = nm := ⟨_, rfl⟩
          obtain ⟨y, M, s, hap⟩ : ∃ y M s, apD C (t1, I, O) nm h = (y, M, s) := ⟨_, _, _, rfl⟩
          have HEQ := unhide HQ
          rw [hmk, conGo_at (i := i) (by rw [unhide HZ]; exact hi) (t := (t1, I, O)) (by rw [List.getD_eq_getElem?_getD, List.getElem?_eq_getElem hiL]; exact ht) hnm hap, unhide HZ] at HEQ
          have HEQ := hide HEQ
          have hiN : i < N.length := by rw [unhide HNL]; exact hil
          have hnm2 : N[i] = nm := by rw [← hnm, List.getD_eq_getElem?_getD, List.getElem?_eq_getElem hiN]; rfl
          obtain ⟨nb, no, rfl, hcn⟩ := (unhide HN).2 (by have := (unhide HN).1; omega)
          have HAP := hide hap
          have hkI : (k : Int) < (m : Int) := by omega
          have hiI : (i : Int) < (m : Int) := by omega
          have hnn : N.length = nn := (unhide HN).1
          have hiN2 : (i : Int) < (nn : Int) := by omega
          have NMC : Hid (∀ W, Below w1.heap.size w1 W → W.cell? ⟨nb, no + i, none⟩ = some (.int .i64 nm)) := fun W hb => by rw [← hnm2]; exact cell_later hb (hcn i hiN)
          have TXC : Hid (∀ W, Below w.heap.size w W → TxAt W tb (tof + i * 3) (t1, I, O)) := fun W hb => by rw [← ht]; exact (unhide HTX) W hb i hiL
          have BXC : Hid (∀ W, Below w1.heap.size w1 W → W.heap[w.heap.size + 1]? = w1.heap[w.heap.size + 1]?) := fun W hb => hb.block _ (by omega)
          have BX3 : Hid (w1.heap[w.heap.size + 1]? = some (.cells [.int .i64 p, .int .i64 h, .int .i64 k0, .int .i64 n, .slice (some ⟨tb, tof, none⟩) m c].toArray 24 (0, 0))) := ((unhide BXC) w3 ((unhide GB) w3 (Gr.refl _ _))).symm.trans (unhide HX23)
          clear hcn hnm hnm2 ht hap HQ
          by_cases hi0 : i = 0
          · have gi : ((i : Int) == 0) = true := by simp [hi0]
            obtain ⟨o, ho⟩ : ∃ o, decide (0 ≤ leftD r L S m) = o := ⟨_, rfl⟩
            have CV := hide (coversR_is p h k0 n tb tof m c L w1.heap.size 0 m m S r o wr (unhide HZ) hm4 ((unhide HTX) wr hbw) (unhide HSL) rfl (fun i hi => (unhide HU).undo i hi) (unhide HTB) (unhide HSB) (unhide HRW) ho)
            have hbx := ((unhide BXC) wr hbw1).trans (unhide BX3)
            have bb0 := cell_of hbx 0 _ rfl
            have bb1 := cell_of hbx 1 _ rfl
            have bb2 := cell_of hbx 2 _ rfl
            have bb3 := cell_of hbx 3 _ rfl
            have bb4 := cell_of hbx 4 _ rfl
            have bbl := lt_of_block hbx
            clear hbx
            cases o with
            | false =>
              have R : Hid (((9 : Int), ([] : List CoinD), ([] : List (List CoinD))) = (x, C', S')) := by have e := unhide HEQ; rw [if_pos ⟨hi0, by have := of_decide_eq_false ho; omega⟩] at e; exact e
              have HBR := hide hbw
              clear HEQ hbw hbw1 ho hi0
              go_wp2_with fail
              refine (unhide CV).mono ?_
              rintro e w4 ⟨rfl, hb4⟩
              have HBF := hide (bel_on (unhide HBR) hb4)
              clear hb4 CV
              go_wp2
              go_ret3
              exact con_err (unhide R) (unhide HBF)
            | true =>
              have hno : ¬ (i = 0 ∧ leftD r L S m < 0) := fun q => by have := of_decide_eq_true ho; omega
              have HNO := hide hno
              clear ho hno hbw hbw1 hi0
              go_wp2_with fail
              refine (unhide CV).mono ?_
              rintro e w4 ⟨rfl, hb4⟩
              have HOx := hide (⟨(unhide HO).1.later hb4, (unhide HO).2⟩ : CoinsAt w4 oa oon C ∧ SlOk oa oon oc)
              have HUx := hide ((unhide HU).later hb4)
              have HGx := hide (Gr.on (unhide HG) hb4)
              clear hb4 CV bb0 bb1 bb2 bb3 bb4 bbl HO HU HG
              have GW : Hid (∀ V, Gr w4 V (fun q => q = w1.heap.size) → Below w1.heap.size w1 V) := fun V g => (unhide GB) V ((unhide HGx).trans g)
              have AP := hide (fun V (g : Gr w4 V (fun q => q = w1.heap.size)) => (by
                  obtain ⟨_, ⟨ai, ni, ci, g1, hI, sI⟩, ao, no2, co, g2, hO, sO⟩ := (unhide TXC) V ((unhide HB1).trans (((unhide GW) V g).mono (unhide HB1).size))
                  exact ⟨ai, ni, ci, ao, no2, co, g1, g2, apply_is oa oon oc C t1 ai ao ni ci no2 co I O nm h y M s V (coins_gr (unhide HOx).1 (unhide HUx).ok g) (unhide HOx).2 hI hO sI (unhide HAP)⟩ :
                  ∃ ai ni ci ao no2 co, V.cell? ⟨tb, tof + i * 3 + 1, none⟩ = some (.slice ai ni ci) ∧ V.cell? ⟨tb, tof + i * 3 + 2, none⟩ = some (.slice ao no2 co) ∧ Calls Tryz.prog 60 #[.slice oa oon oc, .agg #[.int .i64 t1, .slice ai ni ci, .slice ao no2 co], .int .i64 nm, .int .i64 h] V fun e w' => ApR V w' y M s e))
              obtain ⟨ai, ni, ci, ao, no2, co, tt1, tt2, _⟩ := (unhide AP) w4 (Gr.refl _ _)
              have APC := hide (fun V (g : Gr w4 V (fun q => q = w1.heap.size)) (g1 : V.cell? ⟨tb, tof + i * 3 + 1, none⟩ = some (.slice ai ni ci)) (g2 : V.cell? ⟨tb, tof + i * 3 + 2, none⟩ = some (.slice ao no2 co)) => (by
                  obtain ⟨ai2, ni2, ci2, ao2, no3, co2, q1, q2, q⟩ := (unhide AP) V g
                  rw [g1] at q1
                  rw [g2] at q2
                  cases q1
                  cases q2
                  exact q :
                  Calls Tryz.prog 60 #[.slice oa oon oc, .agg #[.int .i64 t1, .slice ai ni ci, .slice ao no2 co], .int .i64 nm, .int .i64 h] V fun e w' => ApR V w' y M s e))
              have KS : Hid (∀ V, Gr w4 V (fun q => q = w1.heap.size) → UsOk 107 w1.heap.size m V → Gr w4 V (fun q => q = w1.heap.size) ∧ V.cell? ⟨w.heap.size + 1, 1, none⟩ = some (.int .i64 h) ∧ V.cell? ⟨w.heap.size + 1, 4, none⟩ = some (.slice (some ⟨tb, tof, none⟩) m c) ∧ V.cell? ⟨tb, tof + i * 3, none⟩ = some (.int .i64 t1) ∧ V.cell? ⟨tb, tof + i * 3 + 1, none⟩ = some (.slice ai ni ci) ∧ V.cell? ⟨tb, tof + i * 3 + 2, none⟩ = some (.slice ao no2 co) ∧ V.cell? ⟨nb, no + i, none⟩ = some (.int .i64 nm) ∧ UsOk 107 w1.heap.size m V) := fun V g o => by
                have hbv := (unhide GW) V g
                have hbx := ((unhide BXC) V hbv).trans (unhide BX3)
                have htx := (unhide TXC) V ((unhide HB1).trans (hbv.mono (unhide HB1).size))
                have hbW := (unhide GW) w4 (Gr.refl _ _)
                have htW := (unhide TXC) w4 ((unhide HB1).trans (hbW.mono (unhide HB1).size))
                have hne := (unhide HUx).ok.other htW.1
                have kq := fun (j : Nat) => World.cell?_of_block (a := ⟨tb, j, none⟩) (g.block tb (World.block_lt_of_cell? _ _ htW.1) hne)
                exact ⟨g, cell_of hbx 1 _ rfl, cell_of hbx 4 _ rfl, htx.1, (kq _).trans tt1, (kq _).trans tt2, (unhide NMC) V hbv, o⟩
              have U0 : Hid (UsOk 107 w1.heap.size m w4) := by have := (unhide HUx).ok; rw [unhide HSL] at this; exact this
              have nnl : nb < w4.heap.size := World.block_lt_of_cell? _ _ ((unhide NMC) w4 ((unhide GW) w4 (Gr.refl _ _)))
              clear tt1 tt2 AP
              go_wp2_with fail
              refine wp_region_held_drew (S := fun V => Gr w4 V (fun q => q = w1.heap.size) ∧ V.cell? ⟨w.heap.size + 1, 1, none⟩ = some (.int .i64 h) ∧ V.cell? ⟨w.heap.size + 1, 4, none⟩ = some (.slice (some ⟨tb, tof, none⟩) m c) ∧ V.cell? ⟨tb, tof + i * 3, none⟩ = some (.int .i64 t1) ∧ V.cell? ⟨tb, tof + i * 3 + 1, none⟩ = some (.slice ai ni ci) ∧ V.cell? ⟨tb, tof + i * 3 + 2, none⟩ = some (.slice ao no2 co) ∧ V.cell? ⟨nb, no + i, none⟩ = some (.int .i64 nm) ∧ UsOk 107 w1.heap.size m V) (by kernel_rfl) ((unhide KS) _ (Gr.refl _ _).draw ((unhide U0).later (bel_draw1 _))) (fun hHeld => ?_)
              refine wpAnyH_take (i := 0) (oi := { dst := some 45, op := Op.move (Operand.tmp 7), type := 39, pos := "connect.go:22", after := #[{ on := 19, ground := Ground.gcOnly Departure.lateStores }], guard := none }) (v := ?_) rfl (by kernel_rfl) (by kernel_rfl) (by kernel_rfl) (fun _ _ _ h => h) (Or.inl ⟨by rfl, ?_⟩) hHeld ?_
              rotate_left
              · (intro W hSw; (try dsimp only at hSw); go_simp; first | done | with_reducible rfl)
              (try simp only [Act.put, List.setIfInBounds_toArray, List.set_cons_zero, List.set_cons_succ])
              refine wpAnyH_take (i := 1) (oi := { dst := some 46, op := Op.move (Operand.tmp 11), type := 3, pos := "connect.go:22", after := #[{ on := 19, ground := Ground.gcOnly Departure.lateStores }], guard := none }) (v := ?_) rfl (by kernel_rfl) (by kernel_rfl) (by kernel_rfl) (fun _ _ _ h => h) (Or.inl ⟨by rfl, ?_⟩) hHeld ?_
              rotate_left
              · (intro W hSw; (try dsimp only at hSw); go_simp; first | done | with_reducible rfl)
              (try simp only [Act.put, List.setIfInBounds_toArray, List.set_cons_zero, List.set_cons_succ])
              refine wpAnyH_take (i := 2) (oi := { dst := some 47, op := Op.move (Operand.tmp 6), type := 38, pos := "connect.go:22", after := #[], guard := none }) (v := ?_) rfl (by kernel_rfl) (by kernel_rfl) (by kernel_rfl) (fun _ _ _ h => h) (Or.inl ⟨by rfl, ?_⟩) hHeld ?_
              rotate_left
              · (intro W hSw; (try dsimp only at hSw); go_simp; first | done | with_reducible rfl)
              (try simp only [Act.put, List.setIfInBounds_toArray, List.set_cons_zero, List.set_cons_succ])
              refine wpAnyH_take (i := 3) (oi := { dst := some 48, op := Op.fieldAddr 24 (Operand.tmp 5) 4, type := 0, pos := "connect.go:22", after := #[], guard := none }) (v := ?_) rfl (by kernel_rfl) (by kernel_rfl) (by kernel_rfl) (fun _ _ _ h => h) (Or.inl ⟨by rfl, ?_⟩) hHeld ?_
              rotate_left
              · (intro W hSw; (try dsimp only at hSw); go_simp; first | done | with_reducible rfl)
              (try simp only [Act.put, List.setIfInBounds_toArray, List.set_cons_zero, List.set_cons_succ])
              refine wpAnyH_take (i := 4) (oi := { dst := some 49, op := Op.load 22 (Operand.tmp 48), type := 22, pos := "connect.go:22", after := #[{ on := 3, ground := Ground.data }], guard := none }) (v := ?_) rfl (by kernel_rfl) (by kernel_rfl) (by kernel_rfl) (fun _ _ _ h => h) (Or.inl ⟨by rfl, ?_⟩) hHeld ?_
              rotate_left
              · (intro W hSw; (try dsimp only at hSw); go_simp; first | done | with_reducible rfl)
              (try simp only [Act.put, List.setIfInBounds_toArray, List.set_cons_zero, List.set_cons_succ])
              refine wpAnyH_take (i := 5) (oi := { dst := some 50, op := Op.move (Operand.tmp 11), type := 3, pos := "connect.go:22", after := #[], guard := none }) (v := ?_) rfl (by kernel_rfl) (by kernel_rfl) (by kernel_rfl) (fun _ _ _ h => h) (Or.inl ⟨by rfl, ?_⟩) hHeld ?_
              rotate_left
              · (intro W hSw; (try dsimp only at hSw); go_simp; first | done | with_reducible rfl)
              (try simp only [Act.put, List.setIfInBounds_toArray, List.set_cons_zero, List.set_cons_succ])
              refine wpAnyH_take (i := 6) (oi := { dst := some 51, op := Op.indexAddr 22 (Operand.tmp 49) (Operand.tmp 50), type := 0, pos := "connect.go:22", after := #[{ on := 4, ground := Ground.data }, { on := 5, ground := Ground.data }], guard := none }) (v := ?_) rfl (by kernel_rfl) (by kernel_rfl) (by kernel_rfl) (fun _ _ _ h => h) (Or.inl ⟨by rfl, ?_⟩) hHeld ?_
              rotate_left
              · (intro W hSw; (try dsimp only at hSw); go_simp; first | done | with_reducible rfl)
              (try simp only [Act.put, List.setIfInBounds_toArray, List.set_cons_zero, List.set_cons_succ])
              refine wpAnyH_take (i := 7) (oi := { dst := some 52, op := Op.load 78 (Operand.tmp 51), type := 78, pos := "connect.go:22", after := #[{ on := 6, ground := Ground.data }], guard := none }) (v := ?_) rfl (by kernel_rfl) (by kernel_rfl) (by kernel_rfl) (fun _ _ _ h => h) (Or.inl ⟨by rfl, ?_⟩) hHeld ?_
              rotate_left
              · (intro W hSw; (try dsimp only at hSw); go_simp; first | done | with_reducible rfl)
              (try simp only [Act.put, List.setIfInBounds_toArray, List.set_cons_zero, List.set_cons_succ])
              refine wpAnyH_take (i := 8) (oi := { dst := some 53, op := Op.move (Operand.tmp 9), type := 40, pos := "connect.go:22", after := #[], guard := none }) (v := ?_) rfl (by kernel_rfl) (by kernel_rfl) (by kernel_rfl) (fun _ _ _ h => h) (Or.inl ⟨by rfl, ?_⟩) hHeld ?_
              rotate_left
              · (intro W hSw; (try dsimp only at hSw); go_simp; first | done | with_reducible rfl)
              (try simp only [Act.put, List.setIfInBounds_toArray, List.set_cons_zero, List.set_cons_succ])
              refine wpAnyH_take (i := 9) (oi := { dst := some 54, op := Op.move (Operand.tmp 11), type := 3, pos := "connect.go:22", after := #[], guard := none }) (v := ?_) rfl (by kernel_rfl) (by kernel_rfl) (by kernel_rfl) (fun _ _ _ h => h) (Or.inl ⟨by rfl, ?_⟩) hHeld ?_
              rotate_left
              · (intro W hSw; (try dsimp only at hSw); go_simp; first | done | with_reducible rfl)
              (try simp only [Act.put, List.setIfInBounds_toArray, List.set_cons_zero, List.set_cons_succ])
              refine wpAnyH_take (i := 10) (oi := { dst := some 55, op := Op.indexAddr 40 (Operand.tmp 53) (Operand.tmp 54), type := 0, pos := "connect.go:22", after := #[{ on := 8, ground := Ground.data }, { on := 9, ground := Ground.data }], guard := none }) (v := ?_) rfl (by kernel_rfl) (by kernel_rfl) (by kernel_rfl) (fun _ _ _ h => h) (Or.inl ⟨by rfl, ?_⟩) hHeld ?_
              rotate_left
              · (intro W hSw; (try dsimp only at hSw); go_simp; first | done | with_reducible rfl)
              (try simp only [Act.put, List.setIfInBounds_toArray, List.set_cons_zero, List.set_cons_succ])
              refine wpAnyH_take (i := 11) (oi := { dst := some 56, op := Op.load 3 (Operand.tmp 55), type := 3, pos := "connect.go:22", after := #[{ on := 10, ground := Ground.data }], guard := none }) (v := ?_) rfl (by kernel_rfl) (by kernel_rfl) (by kernel_rfl) (fun _ _ _ h => h) (Or.inl ⟨by rfl, ?_⟩) hHeld ?_
              rotate_left
              · (intro W hSw; (try dsimp only at hSw); go_simp; first | done | with_reducible rfl)
              (try simp only [Act.put, List.setIfInBounds_toArray, List.set_cons_zero, List.set_cons_succ])
              refine wpAnyH_take (i := 12) (oi := { dst := some 57, op := Op.fieldAddr 24 (Operand.tmp 5) 1, type := 0, pos := "connect.go:22", after := #[], guard := none }) (v := ?_) rfl (by kernel_rfl) (by kernel_rfl) (by kernel_rfl) (fun _ _ _ h => h) (Or.inl ⟨by rfl, ?_⟩) hHeld ?_
              rotate_left
              · (intro W hSw; (try dsimp only at hSw); go_simp; first | done | with_reducible rfl)
              (try simp only [Act.put, List.setIfInBounds_toArray, List.set_cons_zero, List.set_cons_succ])
              refine wpAnyH_take (i := 13) (oi := { dst := some 58, op := Op.load 3 (Operand.tmp 57), type := 3, pos := "connect.go:22", after := #[{ on := 12, ground := Ground.data }], guard := none }) (v := ?_) rfl (by kernel_rfl) (by kernel_rfl) (by kernel_rfl) (fun _ _ _ h => h) (Or.inl ⟨by rfl, ?_⟩) hHeld ?_
              rotate_left
              · (intro W hSw; (try dsimp only at hSw); go_simp; first | done | with_reducible rfl)
              (try simp only [Act.put, List.setIfInBounds_toArray, List.set_cons_zero, List.set_cons_succ])
              refine wpAnyH_ready (rs := [14]) (by kernel_rfl) (by simp) ?_
              refine AllReadyH.cons (o := { dst := some 59, op := Op.call { callee := Callee.value (Operand.func 60), args := #[Operand.tmp 47, Operand.tmp 52, Operand.tmp 56, Operand.tmp 58], argTypes := #[38, 78, 3, 3] }, type := 108, pos := "connect.go:22", after := #[{ on := 2, ground := Ground.data }, { on := 7, ground := Ground.data }, { on := 11, ground := Ground.data }, { on := 13, ground := Ground.data }], guard := none }) rfl (fun K hK => ?_) AllReadyH.nil
              refine step_callS (by kernel_rfl) 60 #[.slice oa oon oc, .agg #[.int .i64 t1, .slice ai ni ci, .slice ao no2 co], .int .i64 nm, .int .i64 h] (by kernel_rfl) ((unhide APC) _ hHeld.1 hHeld.2.2.2.2.1 hHeld.2.2.2.2.2.1) ?_
              rintro e w6 ⟨am, nm6, cm, sa, ns, cs, rfl, hM6, sM6, hS6, sS6, hbc⟩
              refine ⟨_, rfl, ?_⟩
              have HM6 := hide hM6
              have SM6 := hide sM6
              have HS6 := hide hS6
              have SS6 := hide sS6
              have HU6 := hide ((unhide HUx).later (bel_on (bel_draw1 w4) hbc))
              have HG6 := hide (Gr.on hHeld.1 hbc)
              have HO6 := hide (UsOk.later hHeld.2.2.2.2.2.2.2 hbc)
              obtain ⟨zz, z6⟩ := (unhide HO6).cell hil
              have zf6 := (unhide HO6).free i
              clear hM6 sM6 hS6 sS6 hbc
              refine hK.out _ _ ((unhide KS) _ (unhide HG6) (unhide HO6)) (fun hHeld2 => ?_)
              clear hK K hHeld
              have hHeld := hHeld2
              clear hHeld2
              (try simp only [Act.put, List.setIfInBounds_toArray, List.set_cons_zero, List.set_cons_succ])
              refine wpAnyH_take (i := 15) (oi := { dst := some 44, op := Op.move (Operand.tmp 59), type := 108, pos := "connect.go:22", after := #[{ on := 14, ground := Ground.data }], guard := none }) (v := ?_) rfl (by kernel_rfl) (by kernel_rfl) (by kernel_rfl) (fun _ _ _ h => h) (Or.inl ⟨by rfl, ?_⟩) hHeld ?_
              rotate_left
              · (intro W hSw; (try dsimp only at hSw); go_simp; first | done | with_reducible rfl)
              (try simp only [Act.put, List.setIfInBounds_toArray, List.set_cons_zero, List.set_cons_succ])
              refine wpAnyH_take (i := 16) (oi := { dst := some 60, op := Op.extract (Operand.tmp 44) 0, type := 38, pos := "connect.go:22", after := #[{ on := 15, ground := Ground.data }], guard := none }) (v := ?_) rfl (by kernel_rfl) (by kernel_rfl) (by kernel_rfl) (fun _ _ _ h => h) (Or.inl ⟨by rfl, ?_⟩) hHeld ?_
              rotate_left
              · (intro W hSw; (try dsimp only at hSw); go_simp; first | done | with_reducible rfl)
              (try simp only [Act.put, List.setIfInBounds_toArray, List.set_cons_zero, List.set_cons_succ])
              refine wpAnyH_take (i := 17) (oi := { dst := some 61, op := Op.extract (Operand.tmp 44) 1, type := 107, pos := "connect.go:22", after := #[{ on := 15, ground := Ground.data }, { on := 19, ground := Ground.gcOnly Departure.lateStores }], guard := none }) (v := ?_) rfl (by kernel_rfl) (by kernel_rfl) (by kernel_rfl) (fun _ _ _ h => h) (Or.inl ⟨by rfl, ?_⟩) hHeld ?_
              rotate_left
              · (intro W hSw; (try dsimp only at hSw); go_simp; first | done | with_reducible rfl)
              (try simp only [Act.put, List.setIfInBounds_toArray, List.set_cons_zero, List.set_cons_succ])
              refine wpAnyH_take (i := 18) (oi := { dst := some 62, op := Op.extract (Operand.tmp 44) 2, type := 25, pos := "connect.go:22", after := #[{ on := 15, ground := Ground.data }, { on := 21, ground := Ground.gcOnly Departure.lateStores }], guard := none }) (v := ?_) rfl (by kernel_rfl) (by kernel_rfl) (by kernel_rfl) (fun _ _ _ h => h) (Or.inl ⟨by rfl, ?_⟩) hHeld ?_
              rotate_left
              · (intro W hSw; (try dsimp only at hSw); go_simp; first | done | with_reducible rfl)
              (try simp only [Act.put, List.setIfInBounds_toArray, List.set_cons_zero, List.set_cons_succ])
              refine wpAnyH_take (i := 19) (oi := { dst := some 6, op := Op.assign (Operand.tmp 60), type := 38, pos := "connect.go:22", after := #[{ on := 16, ground := Ground.data }, { on := 14, ground := Ground.chain }, { on := 0, ground := Ground.textOnly Departure.lateStores }, { on := 1, ground := Ground.textOnly Departure.lateStores }, { on := 2, ground := Ground.phase }, { on := 3, ground := Ground.phase }, { on := 4, ground := Ground.phase }, { on := 5, ground := Ground.phase }, { on := 6, ground := Ground.phase }, { on := 7, ground := Ground.phase }, { on := 8, ground := Ground.phase }, { on := 9, ground := Ground.phase }, { on := 10, ground := Ground.phase }, { on := 11, ground := Ground.phase }, { on := 12, ground := Ground.phase }, { on := 13, ground := Ground.phase }, { on := 14, ground := Ground.phase }, { on := 15, ground := Ground.phase }, { on := 16, ground := Ground.phase }, { on := 17, ground := Ground.textOnly Departure.lateStores }, { on := 18, ground := Ground.textOnly Departure.lateStores }], guard := none }) (v := ?_) rfl (by kernel_rfl) (by kernel_rfl) (by kernel_rfl) (fun _ _ _ h => h) (Or.inl ⟨by rfl, ?_⟩) hHeld ?_
              rotate_left
              · (intro W hSw; (try dsimp only at hSw); go_simp; first | done | with_reducible rfl)
              (try simp only [Act.put, List.setIfInBounds_toArray, List.set_cons_zero, List.set_cons_succ])
              refine wpAnyH_take (i := 20) (oi := { dst := some 63, op := Op.indexAddr 39 (Operand.tmp 45) (Operand.tmp 46), type := 0, pos := "connect.go:22", after := #[{ on := 0, ground := Ground.data }, { on := 1, ground := Ground.data }, { on := 0, ground := Ground.phase }, { on := 1, ground := Ground.phase }, { on := 2, ground := Ground.phase }, { on := 3, ground := Ground.phase }, { on := 4, ground := Ground.phase }, { on := 5, ground := Ground.phase }, { on := 6, ground := Ground.phase }, { on := 7, ground := Ground.phase }, { on := 8, ground := Ground.phase }, { on := 9, ground := Ground.phase }, { on := 10, ground := Ground.phase }, { on := 11, ground := Ground.phase }, { on := 12, ground := Ground.phase }, { on := 13, ground := Ground.phase }, { on := 14, ground := Ground.phase }, { on := 15, ground := Ground.phase }, { on := 16, ground := Ground.phase }, { on := 17, ground := Ground.phase }, { on := 18, ground := Ground.textOnly Departure.lateStores }, { on := 19, ground := Ground.phase }], guard := none }) (v := ?_) rfl (by kernel_rfl) (by kernel_rfl) (by kernel_rfl) (fun _ _ _ h => h) (Or.inl ⟨by rfl, ?_⟩) hHeld ?_
              rotate_left
              · (intro W hSw; (try dsimp only at hSw); go_simp; first | done | with_reducible rfl)
              (try simp only [Act.put, List.setIfInBounds_toArray, List.set_cons_zero, List.set_cons_succ])
              refine wpAnyH_ready (rs := [21]) (by kernel_rfl) (by simp) ?_
              refine AllReadyH.cons (o := { dst := none, op := Op.store 107 (Operand.tmp 63) (Operand.tmp 61), type := 0, pos := "connect.go:22", after := #[{ on := 20, ground := Ground.data }, { on := 17, ground := Ground.data }, { on := 19, ground := Ground.chain }, { on := 0, ground := Ground.phase }, { on := 1, ground := Ground.phase }, { on := 2, ground := Ground.phase }, { on := 3, ground := Ground.phase }, { on := 4, ground := Ground.phase }, { on := 5, ground := Ground.phase }, { on := 6, ground := Ground.phase }, { on := 7, ground := Ground.phase }, { on := 8, ground := Ground.phase }, { on := 9, ground := Ground.phase }, { on := 10, ground := Ground.phase }, { on := 11, ground := Ground.phase }, { on := 12, ground := Ground.phase }, { on := 13, ground := Ground.phase }, { on := 14, ground := Ground.phase }, { on := 15, ground := Ground.phase }, { on := 16, ground := Ground.phase }, { on := 17, ground := Ground.phase }, { on := 18, ground := Ground.textOnly Departure.lateStores }, { on := 19, ground := Ground.phase }], guard := none }) rfl (fun K hK => ?_) AllReadyH.nil
              go_simp
              refine hK.out _ _ ((unhide KS) _ ((unhide HG6).one w1.heap.size i (.inl rfl) _) (UsOk.put (unhide HO6) i _ _ _)) (fun hHeld2 => ?_)
              clear hK K hHeld
              have hHeld := hHeld2
              clear hHeld2
              (try simp only [Act.put, List.setIfInBounds_toArray, List.set_cons_zero, List.set_cons_succ])
              refine wpAnyH_take (i := 22) (oi := { dst := some 8, op := Op.assign (Operand.tmp 62), type := 25, pos := "connect.go:22", after := #[{ on := 18, ground := Ground.data }, { on := 21, ground := Ground.chain }, { on := 0, ground := Ground.phase }, { on := 1, ground := Ground.phase }, { on := 2, ground := Ground.phase }, { on := 3, ground := Ground.phase }, { on := 4, ground := Ground.phase }, { on := 5, ground := Ground.phase }, { on := 6, ground := Ground.phase }, { on := 7, ground := Ground.phase }, { on := 8, ground := Ground.phase }, { on := 9, ground := Ground.phase }, { on := 10, ground := Ground.phase }, { on := 11, ground := Ground.phase }, { on := 12, ground := Ground.phase }, { on := 13, ground := Ground.phase }, { on := 14, ground := Ground.phase }, { on := 15, ground := Ground.phase }, { on := 16, ground := Ground.phase }, { on := 17, ground := Ground.phase }, { on := 18, ground := Ground.phase }, { on := 19, ground := Ground.phase }, { on := 20, ground := Ground.phase }, { on := 21, ground := Ground.phase }], guard := none }) (v := ?_) rfl (by kernel_rfl) (by kernel_rfl) (by kernel_rfl) (fun _ _ _ h => h) (Or.inl ⟨by rfl, ?_⟩) hHeld ?_
              rotate_left
              · (intro W hSw; (try dsimp only at hSw); go_simp; first | done | with_reducible rfl)
              (try simp only [Act.put, List.setIfInBounds_toArray, List.set_cons_zero, List.set_cons_succ])
              refine wpAnyH_done (by kernel_rfl) ?_ _
              all_goals
                have hGQ := hHeld.1
                clear hHeld
                have HQM := hide (coins_gr (unhide HM6) (unhide HO6) ((Gr.refl w6 (fun q => q = w1.heap.size)).one w1.heap.size i (.inl rfl) (.slice sa ns cs)))
                have HGQ := hide ((unhide HGx).trans hGQ)
                have HBQ := hide ((unhide HB1).trans (((unhide GW) _ hGQ).mono (unhide HB1).size))
                have HUQ := hide ((unhide HU6).put i (unhide HS6) (unhide SS6))
                obtain ⟨Q, hQ⟩ : ∃ Q, Q = w6.setCell ⟨w1.heap.size, i, none⟩ (.slice sa ns cs) := ⟨_, rfl⟩
                rw [← hQ] at HQM HGQ HBQ HUQ ⊢
                clear hQ hGQ z6 zf6
                by_cases ey : y = 0
                · subst ey
                  have R : Hid (conGo h r L N (m - (k + 1)) (k + 1) M (S.set i s) = (x, C', S')) := by have e := unhide HEQ; rw [if_neg (unhide HNO), if_neg (by simp)] at e; exact e
                  have FB : Hid (∀ z ∈ S.set i s, z.length ≤ 6 ∧ ∀ x ∈ z, 0 ≤ cv x ∧ cv x ≤ 1000000000) := fun z hz => by
                    rcases List.mem_or_eq_of_mem_set hz with q | rfl
                    · exact (unhide HSB) z q
                    · exact apD_few (unhide HAP)
                  have FL : Hid ((S.set i s).length = m) := by show _ = _; rw [List.length_set]; exact unhide HSL
                  clear HEQ
                  go_wp2
                  go_roundw
                  case rel => exact ⟨k + 1, am, nm6, cm, M, S.set i s, by omega, rfl, rfl, rfl, by go_num, (⟨unhide HQM, unhide SM6⟩ : CoinsAt Q am nm6 M ∧ SlOk am nm6 cm), HUQ, FL, FB, R, HGQ⟩
                  case measure => simp [intOf]; omega
                · have gy : (y != 0) = true := by simp [ey]
                  have R : Hid (((y : Int), ([] : List CoinD), ([] : List (List CoinD))) = (x, C', S')) := by have e := unhide HEQ; rw [if_neg (unhide HNO), if_pos ey] at e; exact e
                  clear HEQ ey
                  go_wp2
                  go_ret3
                  exact con_err (unhide R) (unhide HBQ)
          · have hno : ¬ (i = 0 ∧ leftD r L S m < 0) := fun q => hi0 q.1
            have HNO := hide hno
            have gi : ((i : Int) == 0) = false := by simp; omega
            have HOx := HO
            have HUx := HU
            have HGx := HG
            clear hno hbw hbw1 HO HU HG
            have GW : Hid (∀ V, Gr wr V (fun q => q = w1.heap.size) → Below w1.heap.size w1 V) := fun V g => (unhide GB) V ((unhide HGx).trans g)
            have AP := hide (fun V (g : Gr wr V (fun q => q = w1.heap.size)) => (by
                obtain ⟨_, ⟨ai, ni, ci, g1, hI, sI⟩, ao, no2, co, g2, hO, sO⟩ := (unhide TXC) V ((unhide HB1).trans (((unhide GW) V g).mono (unhide HB1).size))
                exact ⟨ai, ni, ci, ao, no2, co, g1, g2, apply_is oa oon oc C t1 ai ao ni ci no2 co I O nm h y M s V (coins_gr (unhide HOx).1 (unhide HUx).ok g) (unhide HOx).2 hI hO sI (unhide HAP)⟩ :
                ∃ ai ni ci ao no2 co, V.cell? ⟨tb, tof + i * 3 + 1, none⟩ = some (.slice ai ni ci) ∧ V.cell? ⟨tb, tof + i * 3 + 2, none⟩ = some (.slice ao no2 co) ∧ Calls Tryz.prog 60 #[.slice oa oon oc, .agg #[.int .i64 t1, .slice ai ni ci, .slice ao no2 co], .int .i64 nm, .int .i64 h] V fun e w' => ApR V w' y M s e))
            obtain ⟨ai, ni, ci, ao, no2, co, tt1, tt2, _⟩ := (unhide AP) wr (Gr.refl _ _)
            have APC := hide (fun V (g : Gr wr V (fun q => q = w1.heap.size)) (g1 : V.cell? ⟨tb, tof + i * 3 + 1, none⟩ = some (.slice ai ni ci)) (g2 : V.cell? ⟨tb, tof + i * 3 + 2, none⟩ = some (.slice ao no2 co)) => (by
                obtain ⟨ai2, ni2, ci2, ao2, no3, co2, q1, q2, q⟩ := (unhide AP) V g
                rw [g1] at q1
                rw [g2] at q2
                cases q1
                cases q2
                exact q :
                Calls Tryz.prog 60 #[.slice oa oon oc, .agg #[.int .i64 t1, .slice ai ni ci, .slice ao no2 co], .int .i64 nm, .int .i64 h] V fun e w' => ApR V w' y M s e))
            have KS : Hid (∀ V, Gr wr V (fun q => q = w1.heap.size) → UsOk 107 w1.heap.size m V → Gr wr V (fun q => q = w1.heap.size) ∧ V.cell? ⟨w.heap.size + 1, 1, none⟩ = some (.int .i64 h) ∧ V.cell? ⟨w.heap.size + 1, 4, none⟩ = some (.slice (some ⟨tb, tof, none⟩) m c) ∧ V.cell? ⟨tb, tof + i * 3, none⟩ = some (.int .i64 t1) ∧ V.cell? ⟨tb, tof + i * 3 + 1, none⟩ = some (.slice ai ni ci) ∧ V.cell? ⟨tb, tof + i * 3 + 2, none⟩ = some (.slice ao no2 co) ∧ V.cell? ⟨nb, no + i, none⟩ = some (.int .i64 nm) ∧ UsOk 107 w1.heap.size m V) := fun V g o => by
              have hbv := (unhide GW) V g
              have hbx := ((unhide BXC) V hbv).trans (unhide BX3)
              have htx := (unhide TXC) V ((unhide HB1).trans (hbv.mono (unhide HB1).size))
              have hbW := (unhide GW) wr (Gr.refl _ _)
              have htW := (unhide TXC) wr ((unhide HB1).trans (hbW.mono (unhide HB1).size))
              have hne := (unhide HUx).ok.other htW.1
              have kq := fun (j : Nat) => World.cell?_of_block (a := ⟨tb, j, none⟩) (g.block tb (World.block_lt_of_cell? _ _ htW.1) hne)
              exact ⟨g, cell_of hbx 1 _ rfl, cell_of hbx 4 _ rfl, htx.1, (kq _).trans tt1, (kq _).trans tt2, (unhide NMC) V hbv, o⟩
            have U0 : Hid (UsOk 107 w1.heap.size m wr) := by have := (unhide HUx).ok; rw [unhide HSL] at this; exact this
            have nnl : nb < wr.heap.size := World.block_lt_of_cell? _ _ ((unhide NMC) wr ((unhide GW) wr (Gr.refl _ _)))
            clear tt1 tt2 AP
            go_wp2_with fail
            refine wp_region_held_drew (S := fun V => Gr wr V (fun q => q = w1.heap.size) ∧ V.cell? ⟨w.heap.size + 1, 1, none⟩ = some (.int .i64 h) ∧ V.cell? ⟨w.heap.size + 1, 4, none⟩ = some (.slice (some ⟨tb, tof, none⟩) m c) ∧ V.cell? ⟨tb, tof + i * 3, none⟩ = some (.int .i64 t1) ∧ V.cell? ⟨tb, tof + i * 3 + 1, none⟩ = some (.slice ai ni ci) ∧ V.cell? ⟨tb, tof + i * 3 + 2, none⟩ = some (.slice ao no2 co) ∧ V.cell? ⟨nb, no + i, none⟩ = some (.int .i64 nm) ∧ UsOk 107 w1.heap.size m V) (by kernel_rfl) ((unhide KS) _ (Gr.refl _ _).draw ((unhide U0).later (bel_draw1 _))) (fun hHeld => ?_)
            refine wpAnyH_take (i := 0) (oi := { dst := some 45, op := Op.move (Operand.tmp 7), type := 39, pos := "connect.go:22", after := #[{ on := 19, ground := Ground.gcOnly Departure.lateStores }], guard := none }) (v := ?_) rfl (by kernel_rfl) (by kernel_rfl) (by kernel_rfl) (fun _ _ _ h => h) (Or.inl ⟨by rfl, ?_⟩) hHeld ?_
            rotate_left
            · (intro W hSw; (try dsimp only at hSw); go_simp; first | done | with_reducible rfl)
            (try simp only [Act.put, List.setIfInBounds_toArray, List.set_cons_zero, List.set_cons_succ])
            refine wpAnyH_take (i := 1) (oi := { dst := some 46, op := Op.move (Operand.tmp 11), type := 3, pos := "connect.go:22", after := #[{ on := 19, ground := Ground.gcOnly Departure.lateStores }], guard := none }) (v := ?_) rfl (by kernel_rfl) (by kernel_rfl) (by kernel_rfl) (fun _ _ _ h => h) (Or.inl ⟨by rfl, ?_⟩) hHeld ?_
            rotate_left
            · (intro W hSw; (try dsimp only at hSw); go_simp; first | done | with_reducible rfl)
            (try simp only [Act.put, List.setIfInBounds_toArray, List.set_cons_zero, List.set_cons_succ])
            refine wpAnyH_take (i := 2) (oi := { dst := some 47, op := Op.move (Operand.tmp 6), type := 38, pos := "connect.go:22", after := #[], guard := none }) (v := ?_) rfl (by kernel_rfl) (by kernel_rfl) (by kernel_rfl) (fun _ _ _ h => h) (Or.inl ⟨by rfl, ?_⟩) hHeld ?_
            rotate_left
            · (intro W hSw; (try dsimp only at hSw); go_simp; first | done | with_reducible rfl)
            (try simp only [Act.put, List.setIfInBounds_toArray, List.set_cons_zero, List.set_cons_succ])
            refine wpAnyH_take (i := 3) (oi := { dst := some 48, op := Op.fieldAddr 24 (Operand.tmp 5) 4, type := 0, pos := "connect.go:22", after := #[], guard := none }) (v := ?_) rfl (by kernel_rfl) (by kernel_rfl) (by kernel_rfl) (fun _ _ _ h => h) (Or.inl ⟨by rfl, ?_⟩) hHeld ?_
            rotate_left
            · (intro W hSw; (try dsimp only at hSw); go_simp; first | done | with_reducible rfl)
            (try simp only [Act.put, List.setIfInBounds_toArray, List.set_cons_zero, List.set_cons_succ])
            refine wpAnyH_take (i := 4) (oi := { dst := some 49, op := Op.load 22 (Operand.tmp 48), type := 22, pos := "connect.go:22", after := #[{ on := 3, ground := Ground.data }], guard := none }) (v := ?_) rfl (by kernel_rfl) (by kernel_rfl) (by kernel_rfl) (fun _ _ _ h => h) (Or.inl ⟨by rfl, ?_⟩) hHeld ?_
            rotate_left
            · (intro W hSw; (try dsimp only at hSw); go_simp; first | done | with_reducible rfl)
            (try simp only [Act.put, List.setIfInBounds_toArray, List.set_cons_zero, List.set_cons_succ])
            refine wpAnyH_take (i := 5) (oi := { dst := some 50, op := Op.move (Operand.tmp 11), type := 3, pos := "connect.go:22", after := #[], guard := none }) (v := ?_) rfl (by kernel_rfl) (by kernel_rfl) (by kernel_rfl) (fun _ _ _ h => h) (Or.inl ⟨by rfl, ?_⟩) hHeld ?_
            rotate_left
            · (intro W hSw; (try dsimp only at hSw); go_simp; first | done | with_reducible rfl)
            (try simp only [Act.put, List.setIfInBounds_toArray, List.set_cons_zero, List.set_cons_succ])
            refine wpAnyH_take (i := 6) (oi := { dst := some 51, op := Op.indexAddr 22 (Operand.tmp 49) (Operand.tmp 50), type := 0, pos := "connect.go:22", after := #[{ on := 4, ground := Ground.data }, { on := 5, ground := Ground.data }], guard := none }) (v := ?_) rfl (by kernel_rfl) (by kernel_rfl) (by kernel_rfl) (fun _ _ _ h => h) (Or.inl ⟨by rfl, ?_⟩) hHeld ?_
            rotate_left
            · (intro W hSw; (try dsimp only at hSw); go_simp; first | done | with_reducible rfl)
            (try simp only [Act.put, List.setIfInBounds_toArray, List.set_cons_zero, List.set_cons_succ])
            refine wpAnyH_take (i := 7) (oi := { dst := some 52, op := Op.load 78 (Operand.tmp 51), type := 78, pos := "connect.go:22", after := #[{ on := 6, ground := Ground.data }], guard := none }) (v := ?_) rfl (by kernel_rfl) (by kernel_rfl) (by kernel_rfl) (fun _ _ _ h => h) (Or.inl ⟨by rfl, ?_⟩) hHeld ?_
            rotate_left
            · (intro W hSw; (try dsimp only at hSw); go_simp; first | done | with_reducible rfl)
            (try simp only [Act.put, List.setIfInBounds_toArray, List.set_cons_zero, List.set_cons_succ])
            refine wpAnyH_take (i := 8) (oi := { dst := some 53, op := Op.move (Operand.tmp 9), type := 40, pos := "connect.go:22", after := #[], guard := none }) (v := ?_) rfl (by kernel_rfl) (by kernel_rfl) (by kernel_rfl) (fun _ _ _ h => h) (Or.inl ⟨by rfl, ?_⟩) hHeld ?_
            rotate_left
            · (intro W hSw; (try dsimp only at hSw); go_simp; first | done | with_reducible rfl)
            (try simp only [Act.put, List.setIfInBounds_toArray, List.set_cons_zero, List.set_cons_succ])
            refine wpAnyH_take (i := 9) (oi := { dst := some 54, op := Op.move (Operand.tmp 11), type := 3, pos := "connect.go:22", after := #[], guard := none }) (v := ?_) rfl (by kernel_rfl) (by kernel_rfl) (by kernel_rfl) (fun _ _ _ h => h) (Or.inl ⟨by rfl, ?_⟩) hHeld ?_
            rotate_left
            · (intro W hSw; (try dsimp only at hSw); go_simp; first | done | with_reducible rfl)
            (try simp only [Act.put, List.setIfInBounds_toArray, List.set_cons_zero, List.set_cons_succ])
            refine wpAnyH_take (i := 10) (oi := { dst := some 55, op := Op.indexAddr 40 (Operand.tmp 53) (Operand.tmp 54), type := 0, pos := "connect.go:22", after := #[{ on := 8, ground := Ground.data }, { on := 9, ground := Ground.data }], guard := none }) (v := ?_) rfl (by kernel_rfl) (by kernel_rfl) (by kernel_rfl) (fun _ _ _ h => h) (Or.inl ⟨by rfl, ?_⟩) hHeld ?_
            rotate_left
            · (intro W hSw; (try dsimp only at hSw); go_simp; first | done | with_reducible rfl)
            (try simp only [Act.put, List.setIfInBounds_toArray, List.set_cons_zero, List.set_cons_succ])
            refine wpAnyH_take (i := 11) (oi := { dst := some 56, op := Op.load 3 (Operand.tmp 55), type := 3, pos := "connect.go:22", after := #[{ on := 10, ground := Ground.data }], guard := none }) (v := ?_) rfl (by kernel_rfl) (by kernel_rfl) (by kernel_rfl) (fun _ _ _ h => h) (Or.inl ⟨by rfl, ?_⟩) hHeld ?_
            rotate_left
            · (intro W hSw; (try dsimp only at hSw); go_simp; first | done | with_reducible rfl)
            (try simp only [Act.put, List.setIfInBounds_toArray, List.set_cons_zero, List.set_cons_succ])
            refine wpAnyH_take (i := 12) (oi := { dst := some 57, op := Op.fieldAddr 24 (Operand.tmp 5) 1, type := 0, pos := "connect.go:22", after := #[], guard := none }) (v := ?_) rfl (by kernel_rfl) (by kernel_rfl) (by kernel_rfl) (fun _ _ _ h => h) (Or.inl ⟨by rfl, ?_⟩) hHeld ?_
            rotate_left
            · (intro W hSw; (try dsimp only at hSw); go_simp; first | done | with_reducible rfl)
            (try simp only [Act.put, List.setIfInBounds_toArray, List.set_cons_zero, List.set_cons_succ])
            refine wpAnyH_take (i := 13) (oi := { dst := some 58, op := Op.load 3 (Operand.tmp 57), type := 3, pos := "connect.go:22", after := #[{ on := 12, ground := Ground.data }], guard := none }) (v := ?_) rfl (by kernel_rfl) (by kernel_rfl) (by kernel_rfl) (fun _ _ _ h => h) (Or.inl ⟨by rfl, ?_⟩) hHeld ?_
            rotate_left
            · (intro W hSw; (try dsimp only at hSw); go_simp; first | done | with_reducible rfl)
            (try simp only [Act.put, List.setIfInBounds_toArray, List.set_cons_zero, List.set_cons_succ])
            refine wpAnyH_ready (rs := [14]) (by kernel_rfl) (by simp) ?_
            refine AllReadyH.cons (o := { dst := some 59, op := Op.call { callee := Callee.value (Operand.func 60), args := #[Operand.tmp 47, Operand.tmp 52, Operand.tmp 56, Operand.tmp 58], argTypes := #[38, 78, 3, 3] }, type := 108, pos := "connect.go:22", after := #[{ on := 2, ground := Ground.data }, { on := 7, ground := Ground.data }, { on := 11, ground := Ground.data }, { on := 13, ground := Ground.data }], guard := none }) rfl (fun K hK => ?_) AllReadyH.nil
            refine step_callS (by kernel_rfl) 60 #[.slice oa oon oc, .agg #[.int .i64 t1, .slice ai ni ci, .slice ao no2 co], .int .i64 nm, .int .i64 h] (by kernel_rfl) ((unhide APC) _ hHeld.1 hHeld.2.2.2.2.1 hHeld.2.2.2.2.2.1) ?_
            rintro e w6 ⟨am, nm6, cm, sa, ns, cs, rfl, hM6, sM6, hS6, sS6, hbc⟩
            refine ⟨_, rfl, ?_⟩
            have HM6 := hide hM6
            have SM6 := hide sM6
            have HS6 := hide hS6
            have SS6 := hide sS6
            have HU6 := hide ((unhide HUx).later (bel_on (bel_draw1 wr) hbc))
            have HG6 := hide (Gr.on hHeld.1 hbc)
            have HO6 := hide (UsOk.later hHeld.2.2.2.2.2.2.2 hbc)
            obtain ⟨zz, z6⟩ := (unhide HO6).cell hil
            have zf6 := (unhide HO6).free i
            clear hM6 sM6 hS6 sS6 hbc
            refine hK.out _ _ ((unhide KS) _ (unhide HG6) (unhide HO6)) (fun hHeld2 => ?_)
            clear hK K hHeld
            have hHeld := hHeld2
            clear hHeld2
            (try simp only [Act.put, List.setIfInBounds_toArray, List.set_cons_zero, List.set_cons_succ])
            refine wpAnyH_take (i := 15) (oi := { dst := some 44, op := Op.move (Operand.tmp 59), type := 108, pos := "connect.go:22", after := #[{ on := 14, ground := Ground.data }], guard := none }) (v := ?_) rfl (by kernel_rfl) (by kernel_rfl) (by kernel_rfl) (fun _ _ _ h => h) (Or.inl ⟨by rfl, ?_⟩) hHeld ?_
            rotate_left
            · (intro W hSw; (try dsimp only at hSw); go_simp; first | done | with_reducible rfl)
            (try simp only [Act.put, List.setIfInBounds_toArray, List.set_cons_zero, List.set_cons_succ])
            refine wpAnyH_take (i := 16) (oi := { dst := some 60, op := Op.extract (Operand.tmp 44) 0, type := 38, pos := "connect.go:22", after := #[{ on := 15, ground := Ground.data }], guard := none }) (v := ?_) rfl (by kernel_rfl) (by kernel_rfl) (by kernel_rfl) (fun _ _ _ h => h) (Or.inl ⟨by rfl, ?_⟩) hHeld ?_
            rotate_left
            · (intro W hSw; (try dsimp only at hSw); go_simp; first | done | with_reducible rfl)
            (try simp only [Act.put, List.setIfInBounds_toArray, List.set_cons_zero, List.set_cons_succ])
            refine wpAnyH_take (i := 17) (oi := { dst := some 61, op := Op.extract (Operand.tmp 44) 1, type := 107, pos := "connect.go:22", after := #[{ on := 15, ground := Ground.data }, { on := 19, ground := Ground.gcOnly Departure.lateStores }], guard := none }) (v := ?_) rfl (by kernel_rfl) (by kernel_rfl) (by kernel_rfl) (fun _ _ _ h => h) (Or.inl ⟨by rfl, ?_⟩) hHeld ?_
            rotate_left
            · (intro W hSw; (try dsimp only at hSw); go_simp; first | done | with_reducible rfl)
            (try simp only [Act.put, List.setIfInBounds_toArray, List.set_cons_zero, List.set_cons_succ])
            refine wpAnyH_take (i := 18) (oi := { dst := some 62, op := Op.extract (Operand.tmp 44) 2, type := 25, pos := "connect.go:22", after := #[{ on := 15, ground := Ground.data }, { on := 21, ground := Ground.gcOnly Departure.lateStores }], guard := none }) (v := ?_) rfl (by kernel_rfl) (by kernel_rfl) (by kernel_rfl) (fun _ _ _ h => h) (Or.inl ⟨by rfl, ?_⟩) hHeld ?_
            rotate_left
            · (intro W hSw; (try dsimp only at hSw); go_simp; first | done | with_reducible rfl)
            (try simp only [Act.put, List.setIfInBounds_toArray, List.set_cons_zero, List.set_cons_succ])
            refine wpAnyH_take (i := 19) (oi := { dst := some 6, op := Op.assign (Operand.tmp 60), type := 38, pos := "connect.go:22", after := #[{ on := 16, ground := Ground.data }, { on := 14, ground := Ground.chain }, { on := 0, ground := Ground.textOnly Departure.lateStores }, { on := 1, ground := Ground.textOnly Departure.lateStores }, { on := 2, ground := Ground.phase }, { on := 3, ground := Ground.phase }, { on := 4, ground := Ground.phase }, { on := 5, ground := Ground.phase }, { on := 6, ground := Ground.phase }, { on := 7, ground := Ground.phase }, { on := 8, ground := Ground.phase }, { on := 9, ground := Ground.phase }, { on := 10, ground := Ground.phase }, { on := 11, ground := Ground.phase }, { on := 12, ground := Ground.phase }, { on := 13, ground := Ground.phase }, { on := 14, ground := Ground.phase }, { on := 15, ground := Ground.phase }, { on := 16, ground := Ground.phase }, { on := 17, ground := Ground.textOnly Departure.lateStores }, { on := 18, ground := Ground.textOnly Departure.lateStores }], guard := none }) (v := ?_) rfl (by kernel_rfl) (by kernel_rfl) (by kernel_rfl) (fun _ _ _ h => h) (Or.inl ⟨by rfl, ?_⟩) hHeld ?_
            rotate_left
            · (intro W hSw; (try dsimp only at hSw); go_simp; first | done | with_reducible rfl)
            (try simp only [Act.put, List.setIfInBounds_toArray, List.set_cons_zero, List.set_cons_succ])
            refine wpAnyH_take (i := 20) (oi := { dst := some 63, op := Op.indexAddr 39 (Operand.tmp 45) (Operand.tmp 46), type := 0, pos := "connect.go:22", after := #[{ on := 0, ground := Ground.data }, { on := 1, ground := Ground.data }, { on := 0, ground := Ground.phase }, { on := 1, ground := Ground.phase }, { on := 2, ground := Ground.phase }, { on := 3, ground := Ground.phase }, { on := 4, ground := Ground.phase }, { on := 5, ground := Ground.phase }, { on := 6, ground := Ground.phase }, { on := 7, ground := Ground.phase }, { on := 8, ground := Ground.phase }, { on := 9, ground := Ground.phase }, { on := 10, ground := Ground.phase }, { on := 11, ground := Ground.phase }, { on := 12, ground := Ground.phase }, { on := 13, ground := Ground.phase }, { on := 14, ground := Ground.phase }, { on := 15, ground := Ground.phase }, { on := 16, ground := Ground.phase }, { on := 17, ground := Ground.phase }, { on := 18, ground := Ground.textOnly Departure.lateStores }, { on := 19, ground := Ground.phase }], guard := none }) (v := ?_) rfl (by kernel_rfl) (by kernel_rfl) (by kernel_rfl) (fun _ _ _ h => h) (Or.inl ⟨by rfl, ?_⟩) hHeld ?_
            rotate_left
            · (intro W hSw; (try dsimp only at hSw); go_simp; first | done | with_reducible rfl)
            (try simp only [Act.put, List.setIfInBounds_toArray, List.set_cons_zero, List.set_cons_succ])
            refine wpAnyH_ready (rs := [21]) (by kernel_rfl) (by simp) ?_
            refine AllReadyH.cons (o := { dst := none, op := Op.store 107 (Operand.tmp 63) (Operand.tmp 61), type := 0, pos := "connect.go:22", after := #[{ on := 20, ground := Ground.data }, { on := 17, ground := Ground.data }, { on := 19, ground := Ground.chain }, { on := 0, ground := Ground.phase }, { on := 1, ground := Ground.phase }, { on := 2, ground := Ground.phase }, { on := 3, ground := Ground.phase }, { on := 4, ground := Ground.phase }, { on := 5, ground := Ground.phase }, { on := 6, ground := Ground.phase }, { on := 7, ground := Ground.phase }, { on := 8, ground := Ground.phase }, { on := 9, ground := Ground.phase }, { on := 10, ground := Ground.phase }, { on := 11, ground := Ground.phase }, { on := 12, ground := Ground.phase }, { on := 13, ground := Ground.phase }, { on := 14, ground := Ground.phase }, { on := 15, ground := Ground.phase }, { on := 16, ground := Ground.phase }, { on := 17, ground := Ground.phase }, { on := 18, ground := Ground.textOnly Departure.lateStores }, { on := 19, ground := Ground.phase }], guard := none }) rfl (fun K hK => ?_) AllReadyH.nil
            go_simp
            refine hK.out _ _ ((unhide KS) _ ((unhide HG6).one w1.heap.size i (.inl rfl) _) (UsOk.put (unhide HO6) i _ _ _)) (fun hHeld2 => ?_)
            clear hK K hHeld
            have hHeld := hHeld2
            clear hHeld2
            (try simp only [Act.put, List.setIfInBounds_toArray, List.set_cons_zero, List.set_cons_succ])
            refine wpAnyH_take (i := 22) (oi := { dst := some 8, op := Op.assign (Operand.tmp 62), type := 25, pos := "connect.go:22", after := #[{ on := 18, ground := Ground.data }, { on := 21, ground := Ground.chain }, { on := 0, ground := Ground.phase }, { on := 1, ground := Ground.phase }, { on := 2, ground := Ground.phase }, { on := 3, ground := Ground.phase }, { on := 4, ground := Ground.phase }, { on := 5, ground := Ground.phase }, { on := 6, ground := Ground.phase }, { on := 7, ground := Ground.phase }, { on := 8, ground := Ground.phase }, { on := 9, ground := Ground.phase }, { on := 10, ground := Ground.phase }, { on := 11, ground := Ground.phase }, { on := 12, ground := Ground.phase }, { on := 13, ground := Ground.phase }, { on := 14, ground := Ground.phase }, { on := 15, ground := Ground.phase }, { on := 16, ground := Ground.phase }, { on := 17, ground := Ground.phase }, { on := 18, ground := Ground.phase }, { on := 19, ground := Ground.phase }, { on := 20, ground := Ground.phase }, { on := 21, ground := Ground.phase }], guard := none }) (v := ?_) rfl (by kernel_rfl) (by kernel_rfl) (by kernel_rfl) (fun _ _ _ h => h) (Or.inl ⟨by rfl, ?_⟩) hHeld ?_
            rotate_left
            · (intro W hSw; (try dsimp only at hSw); go_simp; first | done | with_reducible rfl)
            (try simp only [Act.put, List.setIfInBounds_toArray, List.set_cons_zero, List.set_cons_succ])
            refine wpAnyH_done (by kernel_rfl) ?_ _
            all_goals
              have hGQ := hHeld.1
              clear hHeld
              have HQM := hide (coins_gr (unhide HM6) (unhide HO6) ((Gr.refl w6 (fun q => q = w1.heap.size)).one w1.heap.size i (.inl rfl) (.slice sa ns cs)))
              have HGQ := hide ((unhide HGx).trans hGQ)
              have HBQ := hide ((unhide HB1).trans (((unhide GW) _ hGQ).mono (unhide HB1).size))
              have HUQ := hide ((unhide HU6).put i (unhide HS6) (unhide SS6))
              obtain ⟨Q, hQ⟩ : ∃ Q, Q = w6.setCell ⟨w1.heap.size, i, none⟩ (.slice sa ns cs) := ⟨_, rfl⟩
              rw [← hQ] at HQM HGQ HBQ HUQ ⊢
              clear hQ hGQ z6 zf6
              by_cases ey : y = 0
              · subst ey
                have R : Hid (conGo h r L N (m - (k + 1)) (k + 1) M (S.set i s) = (x, C', S')) := by have e := unhide HEQ; rw [if_neg (unhide HNO), if_neg (by simp)] at e; exact e
                have FB : Hid (∀ z ∈ S.set i s, z.length ≤ 6 ∧ ∀ x ∈ z, 0 ≤ cv x ∧ cv x ≤ 1000000000) := fun z hz => by
                  rcases List.mem_or_eq_of_mem_set hz with q | rfl
                  · exact (unhide HSB) z q
                  · exact apD_few (unhide HAP)
                have FL : Hid ((S.set i s).length = m) := by show _ = _; rw [List.length_set]; exact unhide HSL
                clear HEQ
                go_wp2
                go_roundw
                case rel => exact ⟨k + 1, am, nm6, cm, M, S.set i s, by omega, rfl, rfl, rfl, by go_num, (⟨unhide HQM, unhide SM6⟩ : CoinsAt Q am nm6 M ∧ SlOk am nm6 cm), HUQ, FL, FB, R, HGQ⟩
                case measure => simp [intOf]; omega
              · have gy : (y != 0) = true := by simp [ey]
                have R : Hid (((y : Int), ([] : List CoinD), ([] : List (List CoinD))) = (x, C', S')) := by have e := unhide HEQ; rw [if_neg (unhide HNO), if_pos ey] at e; exact e
                clear HEQ ey
                go_wp2
                go_ret3
                exact con_err (unhide R) (unhide HBQ)
        · have hmk : m - k = 0 := by omega
          have R : Hid (((0 : Int), C, S) = (x, C', S')) := by have e := unhide HQ; rw [hmk] at e; exact e
          have HBR := hide hbw
          clear HQ hbw hbw1
          go_wp2
          go_ret3
          obtain ⟨r1, r2⟩ := Prod.mk.inj (unhide R)
          obtain ⟨r2, r3⟩ := Prod.mk.inj r2
          subst r1 r2 r3
          exact ⟨oa, oon, oc, some ⟨w1.heap.size, 0, none⟩, m, m, rfl, (unhide HO).1, (unhide HO).2, by have := (unhide HU).undos; rw [unhide HSL] at this; exact this, ⟨Nat.le_refl _, by unfold maxLen; omega, fun e => by cases e⟩, unhide HBR⟩
  · rw [if_pos e1] at hx
    have g1 : (y1 != 0) = true := by simp [e1]
    have R := hide hx
    clear hE hK hC sC hL hx hX1 hX2 hbX hy1 e1
    go_enter Tryz.func17, Tryz.ntmps17
    go_wp2_with fail
    rw [← hX]
    clear hX
    refine (unhide C1).mono ?_
    rintro e w1 ⟨na, nn, nc, rfl, hN, hnc, hb1⟩
    have HBF := hide (bel_on (unhide HB0) hb1)
    clear hN hnc hb1 C1
    go_wp2
    go_ret3
    exact con_err (unhide R) (unhide HBF)

end Go.Proofs.YtifhlohdidfbgaaGreatDoor
