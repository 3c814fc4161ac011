/- Contracts of what holds orders, ins, outs and transactions against each other, whatever they are. -/
import Derived.Test.YthhlofipapfbnaaGreatDoorTxCheckDToCoinCheck
import Derived.Test.YthhlofipapfbnaaGreatDoorTxPrintBToBlkPrint
import Derived.Test.YthhlofipapfbnaaGreatDoorBlkHeadToCoinDo
import Derived.DeepKeys
import Derived.Laws.StructEq
namespace Go.Proofs.YthhlofipapfbnaaGreatDoor
open Go.RowKit

theorem below_dw (w : World) (n : Nat) : Below w.heap.size w (w.drewN n) := ⟨rfl, rfl, rfl, Nat.le_refl _, fun _ _ => rfl⟩

theorem take_same {α : Type} {l k : List α} {j : Nat} (h1 : j < l.length) (h2 : j < k.length) (h : l.take j = k.take j) (e : l[j] = k[j]) : l.take (j + 1) = k.take (j + 1) := by
  rw [List.take_succ_eq_append_getElem h1, List.take_succ_eq_append_getElem h2, h, e]
theorem take_unlike {α : Type} {l k : List α} {j : Nat} (h1 : j < l.length) (h2 : j < k.length) (e : l[j] ≠ k[j]) : l ≠ k := fun h => by
  subst h; exact e rfl

set_option maxHeartbeats 1600000 in
theorem eqOps_some (b1 o1 b2 o2 n c d : Nat) (l k : List (Int × Int)) (o : Bool) (w : World) (hn : n ≤ maxLen) (z1 : l.length = n) (z2 : k.length = n)
    (h1 : ∀ i, i < n → w.cell? ⟨b1, o1 + i * 2, none⟩ = some (.int .i64 (l.getD i (0, 0)).1) ∧ w.cell? ⟨b1, o1 + i * 2 + 1, none⟩ = some (.int .i64 (l.getD i (0, 0)).2))
    (h2 : ∀ i, i < n → w.cell? ⟨b2, o2 + i * 2, none⟩ = some (.int .i64 (k.getD i (0, 0)).1) ∧ w.cell? ⟨b2, o2 + i * 2 + 1, none⟩ = some (.int .i64 (k.getD i (0, 0)).2)) (ho : decide (l = k) = o) :
    Calls Tryz.prog 96 #[.slice (some ⟨b1, o1, none⟩) n c, .slice (some ⟨b2, o2, none⟩) n d] w fun e w' => e = .returned (.bool o) ∧ ∃ m, w' = w.drewN m := by
  subst ho
  unfold maxLen at hn
  have H1 := hide h1
  have H2 := hide h2
  have Z1 := hide z1
  have Z2 := hide z2
  clear h1 h2 z1 z2
  go_enter Tryz.func96, Tryz.ntmps96
  go_wp2
  go_loopw [13] (fun i wr => ∃ j m : Nat, j ≤ n ∧ i = .int .i64 j ∧ wr = w.drewN m ∧ Hid (l.take j = k.take j)) (fun i _ => n - (intOf i).toNat)
  case atStart => exact ⟨0, 0, Nat.zero_le _, rfl, rfl, rfl⟩
  case round =>
    obtain ⟨j, m, hk, rfl, rfl, A⟩ := hrel
    by_cases hlt : j < n
    · have hl1 : j < l.length := by rw [unhide Z1]; exact hlt
      have hl2 : j < k.length := by rw [unhide Z2]; exact hlt
      obtain ⟨g1, g2⟩ := (unhide H1) j hlt
      obtain ⟨g3, g4⟩ := (unhide H2) j hlt
      have e1 : l.getD j (0, 0) = l[j] := by simp [hl1]
      have e2 : k.getD j (0, 0) = k[j] := by simp [hl2]
      rw [e1] at g1 g2
      rw [e2] at g3 g4
      have TS := hide (take_same hl1 hl2 (unhide A))
      have TU := hide (take_unlike hl1 hl2)
      obtain ⟨q, hq⟩ : ∃ q, l[j] = q := ⟨_, rfl⟩
      obtain ⟨r, hr⟩ : ∃ r, k[j] = r := ⟨_, rfl⟩
      rw [hq] at g1 g2
      rw [hr] at g3 g4
      rw [hq, hr] at TS TU
      obtain ⟨q1, q2⟩ := q
      obtain ⟨r1, r2⟩ := r
      simp only at g1 g2 g3 g4
      clear hq hr e1 e2 A
      by_cases he : q1 = r1
      · subst he
        by_cases hf : q2 = r2
        · subst hf
          have T := hide ((unhide TS) rfl)
          clear TS TU
          go_wp2
          go_quiet (fail)
          go_wp2
          go_roundw
          case rel => exact ⟨j + 1, m + nq, by omega, by go_num, rfl, T⟩
          case measure => simp [intOf]; omega
        · have U : Hid (decide (l = k) = false) := decide_eq_false ((unhide TU) (fun e => hf (by injection e)))
          clear TS TU
          go_wp2
          go_quiet (fail)
          go_wp2
          go_ret
          exact ⟨by rw [unhide U]; rfl, m + nq, by simp [World.drewN, Nat.add_assoc]⟩
      · have U : Hid (decide (l = k) = false) := decide_eq_false ((unhide TU) (fun e => he (by injection e)))
        clear TS TU
        go_wp2
        go_quiet (fail)
        go_wp2
        go_ret
        exact ⟨by rw [unhide U]; rfl, m + nq, by simp [World.drewN, Nat.add_assoc]⟩
    · have U : Hid (decide (l = k) = true) := by
        have h := unhide A
        rw [List.take_of_length_le (by rw [unhide Z1]; omega), List.take_of_length_le (by rw [unhide Z2]; omega)] at h
        exact decide_eq_true h
      clear A
      go_wp2
      go_ret
      exact ⟨by rw [unhide U]; rfl, m, rfl⟩

set_option maxHeartbeats 400000 in
theorem eqOps_lens (a b : Option Addr) (n m c d : Nat) (w : World) (h : n ≠ m) :
    Calls Tryz.prog 96 #[.slice a n c, .slice b m d] w fun e w' => e = .returned (.bool false) ∧ w = w' := by
  have g : ((n : Int) != (m : Int)) = true := by simp; omega
  clear h
  go_enter Tryz.func96, Tryz.ntmps96
  go_wp2
  go_ret
  exact ⟨rfl, rfl⟩

set_option maxHeartbeats 400000 in
theorem eqOps_none (a b : Option Addr) (c d : Nat) (w : World) :
    Calls Tryz.prog 96 #[.slice a 0 c, .slice b 0 d] w fun e w' => e = .returned (.bool true) ∧ w = w' := by
  go_enter Tryz.func96, Tryz.ntmps96
  go_wp2
  refine wp_loop_rounds 1 ?_
  rw [rounds_succ]
  go_wp2
  go_ret
  exact ⟨rfl, rfl⟩

theorem eqOps_is (a b : Option Addr) (n m c d : Nat) (l k : List (Int × Int)) (o : Bool) (w : World) (hn : n ≤ maxLen) (hA : OpsAt w a n l) (hB : OpsAt w b m k) (ho : decide (l = k) = o) :
    Calls Tryz.prog 96 #[.slice a n c, .slice b m d] w fun e w' => e = .returned (.bool o) ∧ Below w.heap.size w w' := by
  by_cases h : n = m
  · subst h
    by_cases h0 : n = 0
    · subst h0
      have e1 : l = [] := List.length_eq_zero_iff.1 hA.1
      have e2 : k = [] := List.length_eq_zero_iff.1 hB.1
      subst e1 e2
      rw [decide_eq_true rfl] at ho
      subst ho
      exact (eqOps_none a b c d w).mono fun e w' ⟨h1, h2⟩ => ⟨h1, h2 ▸ Below.refl _ _⟩
    · obtain ⟨b1, o1, rfl, h1⟩ := hA.2 (by omega)
      obtain ⟨b2, o2, rfl, h2⟩ := hB.2 (by omega)
      exact (eqOps_some b1 o1 b2 o2 n c d l k o w hn hA.1 hB.1 h1 h2 ho).mono fun e w' ⟨e1, q, e2⟩ => ⟨e1, by rw [e2]; exact below_dw w q⟩
  · have e : l ≠ k := fun e => h (by rw [← hA.1, ← hB.1, e])
    rw [decide_eq_false e] at ho
    subst ho
    exact (eqOps_lens a b n m c d w h).mono fun e w' ⟨h1, h2⟩ => ⟨h1, h2 ▸ Below.refl _ _⟩

/-! Ins and outs, one against one. -/
set_option maxRecDepth 10000 in
set_option maxHeartbeats 1600000 in
theorem sameIn_is (x y : InD) (a b : Option Addr) (n c m d : Nat) (o : Bool) (w : World) (hn : n ≤ maxLen) (hA : OpsAt w a n x.2.2) (hB : OpsAt w b m y.2.2) (ho : decide (x = y) = o) :
    Calls Tryz.prog 95 #[.agg #[.int .i64 x.1, .int .i64 x.2.1, .slice a n c], .agg #[.int .i64 y.1, .int .i64 y.2.1, .slice b m d]] w fun e w' => e = .returned (.bool o) ∧ Below w.heap.size w w' := by
  obtain ⟨x1, x2, k⟩ := x
  obtain ⟨y1, y2, l⟩ := y
  simp only at hA hB ⊢
  have hb := bel_on (bel_new w (.cells #[.int .i64 x1, .int .i64 x2, .slice a n c] 152)) (bel_new _ (.cells #[.int .i64 y1, .int .i64 y2, .slice b m d] 152))
  have HB := hide hb
  by_cases h1 : x1 = y1
  · subst h1
    by_cases h2 : x2 = y2
    · subst h2
      have C := hide (eqOps_is a b n m c d k l o _ hn (hA.later hb) (hB.later hb) (by rw [← ho]; simp))
      clear hA hB hb ho
      go_enter Tryz.func95, Tryz.ntmps95
      go_wp2_with fail
      refine (unhide C).mono ?_
      rintro e w2 ⟨rfl, hb2⟩
      have HB2 := hide (bel_on (unhide HB) hb2)
      clear hb2
      go_wp2
      go_ret
      exact ⟨rfl, unhide HB2⟩
    · have e : o = false := by rw [← ho]; exact decide_eq_false (fun e => h2 (by injection e with _ e; injection e))
      subst e
      clear hA hB hb ho
      go_enter Tryz.func95, Tryz.ntmps95
      go_wp2
      go_ret
      exact ⟨rfl, unhide HB⟩
  · have e : o = false := by rw [← ho]; exact decide_eq_false (fun e => h1 (by injection e))
    subst e
    clear hA hB hb ho
    go_enter Tryz.func95, Tryz.ntmps95
    go_wp2
    go_ret
    exact ⟨rfl, unhide HB⟩

set_option maxRecDepth 10000 in
set_option maxHeartbeats 1600000 in
theorem sameOut_is (x y : OutD) (a b : Option Addr) (n c m d : Nat) (o : Bool) (w : World) (hn : n ≤ maxLen) (hA : OpsAt w a n x.2) (hB : OpsAt w b m y.2) (ho : decide (x = y) = o) :
    Calls Tryz.prog 99 #[.agg #[.int .i64 x.1, .slice a n c], .agg #[.int .i64 y.1, .slice b m d]] w fun e w' => e = .returned (.bool o) ∧ Below w.heap.size w w' := by
  obtain ⟨x1, k⟩ := x
  obtain ⟨y1, l⟩ := y
  simp only at hA hB ⊢
  have hb := bel_on (bel_new w (.cells #[.int .i64 x1, .slice a n c] 85)) (bel_new _ (.cells #[.int .i64 y1, .slice b m d] 85))
  have HB := hide hb
  by_cases h1 : x1 = y1
  · subst h1
    have C := hide (eqOps_is a b n m c d k l o _ hn (hA.later hb) (hB.later hb) (by rw [← ho]; simp))
    clear hA hB hb ho
    go_enter Tryz.func99, Tryz.ntmps99
    go_wp2_with fail
    refine (unhide C).mono ?_
    rintro e w2 ⟨rfl, hb2⟩
    have HB2 := hide (bel_on (unhide HB) hb2)
    clear hb2
    go_wp2
    go_ret
    exact ⟨rfl, unhide HB2⟩
  · have e : o = false := by rw [← ho]; exact decide_eq_false (fun e => h1 (by injection e))
    have g : (x1 == y1) = false := by simp [h1]
    subst e
    clear hA hB hb ho
    go_enter Tryz.func99, Tryz.ntmps99
    go_wp2
    go_ret
    exact ⟨rfl, unhide HB⟩

/-! Rows of ins and of outs. -/
set_option maxRecDepth 10000 in
set_option maxHeartbeats 3200000 in
theorem eqIns_some (b1 o1 b2 o2 n c d : Nat) (l k : List InD) (o : Bool) (w : World) (hn : n ≤ maxLen) (z1 : l.length = n) (z2 : k.length = n)
    (h1 : ∀ i (h : i < l.length), InAt w b1 (o1 + i * 3) l[i]) (h2 : ∀ i (h : i < k.length), InAt w b2 (o2 + i * 3) k[i]) (ho : decide (l = k) = o) :
    Calls Tryz.prog 97 #[.slice (some ⟨b1, o1, none⟩) n c, .slice (some ⟨b2, o2, none⟩) n d, .func (.func 95) #[] #[]] w fun e w' => e = .returned (.bool o) ∧ Below w.heap.size w w' := by
  subst ho
  unfold maxLen at hn
  have H1 := hide h1
  have H2 := hide h2
  have Z1 := hide z1
  have Z2 := hide z2
  clear h1 h2 z1 z2
  go_enter Tryz.func97, Tryz.ntmps97
  go_wp2
  go_loopw [17] (fun i wr => ∃ j : Nat, j ≤ n ∧ i = .int .i64 j ∧ Below w.heap.size w wr ∧ Hid (l.take j = k.take j)) (fun i _ => n - (intOf i).toNat)
  case atStart => exact ⟨0, Nat.zero_le _, rfl, Below.refl _ _, rfl⟩
  case round =>
    obtain ⟨j, hk, rfl, hb, A⟩ := hrel
    have HB := hide hb
    by_cases hlt : j < n
    · have hl1 : j < l.length := by rw [unhide Z1]; exact hlt
      have hl2 : j < k.length := by rw [unhide Z2]; exact hlt
      have g := InAt.kept _ _ _ _ _ hb ((unhide H1) j hl1)
      have f := InAt.kept _ _ _ _ _ hb ((unhide H2) j hl2)
      have TS := hide (take_same hl1 hl2 (unhide A))
      have TU := hide (take_unlike hl1 hl2)
      obtain ⟨q, hq⟩ : ∃ q, l[j] = q := ⟨_, rfl⟩
      obtain ⟨r, hr⟩ : ∃ r, k[j] = r := ⟨_, rfl⟩
      rw [hq] at g
      rw [hr] at f
      rw [hq, hr] at TS TU
      obtain ⟨g1, g2, qa, qn, qc, g3, g4, g5⟩ := g
      obtain ⟨f1, f2, ra, rn, rc, f3, f4, _⟩ := f
      obtain ⟨q1, q2, qk⟩ := q
      obtain ⟨r1, r2, rk⟩ := r
      simp only at g1 g2 g3 g4 f1 f2 f3 f4
      have lt2 : b2 < wr.heap.size := World.block_lt_of_cell? _ _ f1
      have hb2 := bel_on (bel_new wr (.cells #[.int .i64 q1, .int .i64 q2, .slice qa qn qc] 152)) (bel_new _ (.cells #[.int .i64 r1, .int .i64 r2, .slice ra rn rc] 152))
      have HB2 := hide hb2
      have C : Hid (∀ o, decide (((q1, q2, qk) : InD) = (r1, r2, rk)) = o → Calls Tryz.prog 95 #[.agg #[.int .i64 q1, .int .i64 q2, .slice qa qn qc], .agg #[.int .i64 r1, .int .i64 r2, .slice ra rn rc]] ((wr.alloc (.cells #[.int .i64 q1, .int .i64 q2, .slice qa qn qc] 152)).alloc (.cells #[.int .i64 r1, .int .i64 r2, .slice ra rn rc] 152)) fun e w' => e = .returned (.bool o) ∧ Below _ _ w') :=
        fun o ho => sameIn_is (q1, q2, qk) (r1, r2, rk) qa ra qn qc rn rc o _ g5.len (g4.later hb2) (f4.later hb2) ho
      clear hq hr A g4 f4 g5 hb hb2
      by_cases he : ((q1, q2, qk) : InD) = (r1, r2, rk)
      · have T := hide ((unhide TS) he)
        have C2 := hide ((unhide C) true (decide_eq_true he))
        clear TS TU C he
        go_wp2_with fail
        refine (unhide C2).mono ?_
        rintro e w3 ⟨rfl, hb3⟩
        have HB3 := hide (bel_on (bel_on (unhide HB) (unhide HB2)) hb3)
        clear hb3
        go_wp2
        go_roundw
        case rel => exact ⟨j + 1, by omega, by go_num, unhide HB3, T⟩
        case measure => simp [intOf]; omega
      · have U : Hid (decide (l = k) = false) := decide_eq_false ((unhide TU) he)
        have C2 := hide ((unhide C) false (decide_eq_false he))
        clear TS TU C he
        go_wp2_with fail
        refine (unhide C2).mono ?_
        rintro e w3 ⟨rfl, hb3⟩
        have HB3 := hide (bel_on (bel_on (unhide HB) (unhide HB2)) hb3)
        clear hb3
        go_wp2
        go_ret
        exact ⟨by rw [unhide U]; rfl, unhide HB3⟩
    · have U : Hid (decide (l = k) = true) := by
        have h := unhide A
        rw [List.take_of_length_le (by rw [unhide Z1]; omega), List.take_of_length_le (by rw [unhide Z2]; omega)] at h
        exact decide_eq_true h
      clear A hb
      go_wp2
      go_ret
      exact ⟨by rw [unhide U]; rfl, unhide HB⟩

end Go.Proofs.YthhlofipapfbnaaGreatDoor

/- Contracts of what holds rows of ins and outs, and transactions, against each other, whatever they are. -/
namespace Go.Proofs.YthhlofipapfbnaaGreatDoor
open Go.RowKit

set_option maxRecDepth 10000 in
set_option maxHeartbeats 3200000 in
theorem eqOuts_some (b1 o1 b2 o2 n c d : Nat) (l k : List OutD) (o : Bool) (w : World) (hn : n ≤ maxLen) (z1 : l.length = n) (z2 : k.length = n)
    (h1 : ∀ i (h : i < l.length), OutAt w b1 (o1 + i * 2) l[i]) (h2 : ∀ i (h : i < k.length), OutAt w b2 (o2 + i * 2) k[i]) (ho : decide (l = k) = o) :
    Calls Tryz.prog 98 #[.slice (some ⟨b1, o1, none⟩) n c, .slice (some ⟨b2, o2, none⟩) n d, .func (.func 99) #[] #[]] w fun e w' => e = .returned (.bool o) ∧ Below w.heap.size w w' := by
  subst ho
  unfold maxLen at hn
  have H1 := hide h1
  have H2 := hide h2
  have Z1 := hide z1
  have Z2 := hide z2
  clear h1 h2 z1 z2
  go_enter Tryz.func98, Tryz.ntmps98
  go_wp2
  go_loopw [17] (fun i wr => ∃ j : Nat, j ≤ n ∧ i = .int .i64 j ∧ Below w.heap.size w wr ∧ Hid (l.take j = k.take j)) (fun i _ => n - (intOf i).toNat)
  case atStart => exact ⟨0, Nat.zero_le _, rfl, Below.refl _ _, rfl⟩
  case round =>
    obtain ⟨j, hk, rfl, hb, A⟩ := hrel
    have HB := hide hb
    by_cases hlt : j < n
    · have hl1 : j < l.length := by rw [unhide Z1]; exact hlt
      have hl2 : j < k.length := by rw [unhide Z2]; exact hlt
      have g := OutAt.kept _ _ _ _ _ hb ((unhide H1) j hl1)
      have f := OutAt.kept _ _ _ _ _ hb ((unhide H2) j hl2)
      have TS := hide (take_same hl1 hl2 (unhide A))
      have TU := hide (take_unlike hl1 hl2)
      obtain ⟨q, hq⟩ : ∃ q, l[j] = q := ⟨_, rfl⟩
      obtain ⟨r, hr⟩ : ∃ r, k[j] = r := ⟨_, rfl⟩
      rw [hq] at g
      rw [hr] at f
      rw [hq, hr] at TS TU
      obtain ⟨g1, qa, qn, qc, g3, g4, g5⟩ := g
      obtain ⟨f1, ra, rn, rc, f3, f4, _⟩ := f
      obtain ⟨q1, qk⟩ := q
      obtain ⟨r1, rk⟩ := r
      simp only at g1 g3 g4 f1 f3 f4
      have lt2 : b2 < wr.heap.size := World.block_lt_of_cell? _ _ f1
      have hb2 := bel_on (bel_new wr (.cells #[.int .i64 q1, .slice qa qn qc] 85)) (bel_new _ (.cells #[.int .i64 r1, .slice ra rn rc] 85))
      have HB2 := hide hb2
      have C : Hid (∀ o, decide (((q1, qk) : OutD) = (r1, rk)) = o → Calls Tryz.prog 99 #[.agg #[.int .i64 q1, .slice qa qn qc], .agg #[.int .i64 r1, .slice ra rn rc]] ((wr.alloc (.cells #[.int .i64 q1, .slice qa qn qc] 85)).alloc (.cells #[.int .i64 r1, .slice ra rn rc] 85)) fun e w' => e = .returned (.bool o) ∧ Below _ _ w') :=
        fun o ho => sameOut_is (q1, qk) (r1, rk) qa ra qn qc rn rc o _ g5.len (g4.later hb2) (f4.later hb2) ho
      clear hq hr A g4 f4 g5 hb hb2
      by_cases he : ((q1, qk) : OutD) = (r1, rk)
      · have T := hide ((unhide TS) he)
        have C2 := hide ((unhide C) true (decide_eq_true he))
        clear TS TU C he
        go_wp2_with fail
        refine (unhide C2).mono ?_
        rintro e w3 ⟨rfl, hb3⟩
        have HB3 := hide (bel_on (bel_on (unhide HB) (unhide HB2)) hb3)
        clear hb3
        go_wp2
        go_roundw
        case rel => exact ⟨j + 1, by omega, by go_num, unhide HB3, T⟩
        case measure => simp [intOf]; omega
      · have U : Hid (decide (l = k) = false) := decide_eq_false ((unhide TU) he)
        have C2 := hide ((unhide C) false (decide_eq_false he))
        clear TS TU C he
        go_wp2_with fail
        refine (unhide C2).mono ?_
        rintro e w3 ⟨rfl, hb3⟩
        have HB3 := hide (bel_on (bel_on (unhide HB) (unhide HB2)) hb3)
        clear hb3
        go_wp2
        go_ret
        exact ⟨by rw [unhide U]; rfl, unhide HB3⟩
    · have U : Hid (decide (l = k) = true) := by
        have h := unhide A
        rw [List.take_of_length_le (by rw [unhide Z1]; omega), List.take_of_length_le (by rw [unhide Z2]; omega)] at h
        exact decide_eq_true h
      clear A hb
      go_wp2
      go_ret
      exact ⟨by rw [unhide U]; rfl, unhide HB⟩

set_option maxHeartbeats 400000 in
theorem eqIns_lens (a b : Option Addr) (n m c d : Nat) (v : Value) (w : World) (h : n ≠ m) :
    Calls Tryz.prog 97 #[.slice a n c, .slice b m d, v] w fun e w' => e = .returned (.bool false) ∧ w = w' := by
  have g : ((n : Int) != (m : Int)) = true := by simp; omega
  clear h
  go_enter Tryz.func97, Tryz.ntmps97
  go_wp2
  go_ret
  exact ⟨rfl, rfl⟩
set_option maxHeartbeats 400000 in
theorem eqIns_none (a b : Option Addr) (c d : Nat) (v : Value) (w : World) :
    Calls Tryz.prog 97 #[.slice a 0 c, .slice b 0 d, v] w fun e w' => e = .returned (.bool true) ∧ w = w' := by
  go_enter Tryz.func97, Tryz.ntmps97
  go_wp2
  refine wp_loop_rounds 1 ?_
  rw [rounds_succ]
  go_wp2
  go_ret
  exact ⟨rfl, rfl⟩
theorem eqIns_is (a b : Option Addr) (n m c d : Nat) (l k : List InD) (o : Bool) (w : World) (hn : n ≤ maxLen) (hA : InsAt w a n l) (hB : InsAt w b m k) (ho : decide (l = k) = o) :
    Calls Tryz.prog 97 #[.slice a n c, .slice b m d, .func (.func 95) #[] #[]] w fun e w' => e = .returned (.bool o) ∧ Below w.heap.size w w' := by
  by_cases h : n = m
  · subst h
    by_cases h0 : n = 0
    · subst h0
      have e1 : l = [] := List.length_eq_zero_iff.1 hA.1
      have e2 : k = [] := List.length_eq_zero_iff.1 hB.1
      subst e1 e2
      rw [decide_eq_true rfl] at ho
      subst ho
      exact (eqIns_none a b c d _ w).mono fun e w' ⟨h1, h2⟩ => ⟨h1, h2 ▸ Below.refl _ _⟩
    · obtain ⟨b1, o1, rfl, _, h1⟩ := hA.2 (by omega)
      obtain ⟨b2, o2, rfl, _, h2⟩ := hB.2 (by omega)
      exact eqIns_some b1 o1 b2 o2 n c d l k o w hn hA.1 hB.1 h1 h2 ho
  · have e : l ≠ k := fun e => h (by rw [← hA.1, ← hB.1, e])
    rw [decide_eq_false e] at ho
    subst ho
    exact (eqIns_lens a b n m c d _ w h).mono fun e w' ⟨h1, h2⟩ => ⟨h1, h2 ▸ Below.refl _ _⟩

set_option maxHeartbeats 400000 in
theorem eqOuts_lens (a b : Option Addr) (n m c d : Nat) (v : Value) (w : World) (h : n ≠ m) :
    Calls Tryz.prog 98 #[.slice a n c, .slice b m d, v] w fun e w' => e = .returned (.bool false) ∧ w = w' := by
  have g : ((n : Int) != (m : Int)) = true := by simp; omega
  clear h
  go_enter Tryz.func98, Tryz.ntmps98
  go_wp2
  go_ret
  exact ⟨rfl, rfl⟩
set_option maxHeartbeats 400000 in
theorem eqOuts_none (a b : Option Addr) (c d : Nat) (v : Value) (w : World) :
    Calls Tryz.prog 98 #[.slice a 0 c, .slice b 0 d, v] w fun e w' => e = .returned (.bool true) ∧ w = w' := by
  go_enter Tryz.func98, Tryz.ntmps98
  go_wp2
  refine wp_loop_rounds 1 ?_
  rw [rounds_succ]
  go_wp2
  go_ret
  exact ⟨rfl, rfl⟩
theorem eqOuts_is (a b : Option Addr) (n m c d : Nat) (l k : List OutD) (o : Bool) (w : World) (hn : n ≤ maxLen) (hA : OutsAt w a n l) (hB : OutsAt w b m k) (ho : decide (l = k) = o) :
    Calls Tryz.prog 98 #[.slice a n c, .slice b m d, .func (.func 99) #[] #[]] w fun e w' => e = .returned (.bool o) ∧ Below w.heap.size w w' := by
  by_cases h : n = m
  · subst h
    by_cases h0 : n = 0
    · subst h0
      have e1 : l = [] := List.length_eq_zero_iff.1 hA.1
      have e2 : k = [] := List.length_eq_zero_iff.1 hB.1
      subst e1 e2
      rw [decide_eq_true rfl] at ho
      subst ho
      exact (eqOuts_none a b c d _ w).mono fun e w' ⟨h1, h2⟩ => ⟨h1, h2 ▸ Below.refl _ _⟩
    · obtain ⟨b1, o1, rfl, _, h1⟩ := hA.2 (by omega)
      obtain ⟨b2, o2, rfl, _, h2⟩ := hB.2 (by omega)
      exact eqOuts_some b1 o1 b2 o2 n c d l k o w hn hA.1 hB.1 h1 h2 ho
  · have e : l ≠ k := fun e => h (by rw [← hA.1, ← hB.1, e])
    rw [decide_eq_false e] at ho
    subst ho
    exact (eqOuts_lens a b n m c d _ w h).mono fun e w' ⟨h1, h2⟩ => ⟨h1, h2 ▸ Below.refl _ _⟩

set_option maxRecDepth 10000 in
set_option maxHeartbeats 3200000 in
theorem txSame_is (h h' : Int) (ai ao bi bo : Option Addr) (ni ci no co mi di mo eo : Nat) (I I' : List InD) (O O' : List OutD) (o : Bool) (w : World) (li : ni ≤ maxLen) (lo : no ≤ maxLen)
    (hI : InsAt w ai ni I) (hO : OutsAt w ao no O) (hI' : InsAt w bi mi I') (hO' : OutsAt w bo mo O') (ho : sameT (h, I, O) (h', I', O') = o) :
    Calls Tryz.prog 46 #[.agg #[.int .i64 h, .slice ai ni ci, .slice ao no co], .agg #[.int .i64 h', .slice bi mi di, .slice bo mo eo]] w fun e w' => e = .returned (.bool o) ∧ Below w.heap.size w w' := by
  have hb1 := bel_new w (.cells #[.int .i64 h, .slice ai ni ci, .slice ao no co] 78)
  have hb2 := bel_new (w.alloc (.cells #[.int .i64 h, .slice ai ni ci, .slice ao no co] 78)) (.cells #[.int .i64 h', .slice bi mi di, .slice bo mo eo] 78)
  have hb := bel_on hb1 hb2
  have HB := hide hb
  have M2 := hide (cell_later hb2 (three_new w (.int .i64 h) (.slice ai ni ci) (.slice ao no co) 78).2.2)
  have N2 := hide (three_new (w.alloc (.cells #[.int .i64 h, .slice ai ni ci, .slice ao no co] 78)) (.int .i64 h') (.slice bi mi di) (.slice bo mo eo) 78).2.2
  have HI := hide (hI.later hb)
  have HO := hide (hO.later hb)
  have HI' := hide (hI'.later hb)
  have HO' := hide (hO'.later hb)
  have LI := hide li
  have LO := hide lo
  clear hI hO hI' hO' hb hb1 hb2 li lo
  by_cases h1 : h = h'
  · subst h1
    by_cases h2 : I = I'
    · have ho' : decide (O = O') = o := by rw [← ho]; unfold sameT; simp [h2]
      have CI := hide (eqIns_is ai bi ni mi ci di I I' true _ (unhide LI) (unhide HI) (unhide HI') (decide_eq_true h2))
      have HQ := hide ho'
      clear ho ho' h2
      go_enter Tryz.func46, Tryz.ntmps46
      go_wp2_with fail
      refine (unhide CI).mono ?_
      rintro e w2 ⟨rfl, hb2⟩
      have m2 := cell_later hb2 (unhide M2)
      have n2 := cell_later hb2 (unhide N2)
      rw [show (w.alloc (.cells #[.int .i64 h, .slice ai ni ci, .slice ao no co] 78)).heap.size = w.heap.size + 1 by simp] at n2
      have s2 : w.heap.size + 1 < w2.heap.size := World.block_lt_of_cell? _ _ n2
      have s1 : w.heap.size < w2.heap.size := by omega
      have CO := hide (eqOuts_is ao bo no mo co eo O O' o w2 (unhide LO) ((unhide HO).later hb2) ((unhide HO').later hb2) (unhide HQ))
      have HB2 := hide (bel_on (unhide HB) hb2)
      clear hb2
      go_wp2_with fail
      refine (unhide CO).mono ?_
      rintro e w3 ⟨rfl, hb3⟩
      have HB3 := hide (bel_on (unhide HB2) hb3)
      clear hb3
      go_wp2
      go_ret
      exact ⟨rfl, unhide HB3⟩
    · have e : o = false := by rw [← ho]; unfold sameT; simp [h2]
      subst e
      have CI := hide (eqIns_is ai bi ni mi ci di I I' false _ (unhide LI) (unhide HI) (unhide HI') (decide_eq_false h2))
      clear ho h2
      go_enter Tryz.func46, Tryz.ntmps46
      go_wp2_with fail
      refine (unhide CI).mono ?_
      rintro e w2 ⟨rfl, hb2⟩
      have HB2 := hide (bel_on (unhide HB) hb2)
      clear hb2
      go_wp2
      go_ret
      exact ⟨rfl, unhide HB2⟩
  · have e : o = false := by rw [← ho]; unfold sameT; simp [h1]
    subst e
    have g : (h == h') = false := by simp [h1]
    clear ho
    go_enter Tryz.func46, Tryz.ntmps46
    go_wp2
    go_ret
    exact ⟨rfl, unhide HB⟩

end Go.Proofs.YthhlofipapfbnaaGreatDoor

/- Contracts of what holds transactions' rows and blocks against each other. -/
namespace Go.Proofs.YthhlofipapfbnaaGreatDoor
open Go.RowKit

def sameTs : List TxD → List TxD → Bool
  | [], [] => true
  | x :: r, y :: q => sameT x y && sameTs r q
  | _, _ => false
theorem sameT_eq (x y : TxD) : sameT x y = true ↔ x = y := by
  obtain ⟨a, b, c⟩ := x
  obtain ⟨d, e, f⟩ := y
  unfold sameT
  simp
theorem sameTs_iff : ∀ (l k : List TxD), sameTs l k = true ↔ l = k
  | [], [] => by simp [sameTs]
  | [], y :: q => by simp [sameTs]
  | x :: r, [] => by simp [sameTs]
  | x :: r, y :: q => by rw [sameTs, Bool.and_eq_true, sameT_eq, sameTs_iff r q, List.cons.injEq]
theorem sameTs_no {l k : List TxD} (h : l ≠ k) : sameTs l k = false := by
  rw [← Bool.not_eq_true, sameTs_iff]; exact h
theorem sameTs_yes {l k : List TxD} (h : l = k) : sameTs l k = true := (sameTs_iff l k).2 h

set_option maxHeartbeats 400000 in
theorem eqTx_lens (a b : Option Addr) (n m c d : Nat) (v : Value) (w : World) (h : n ≠ m) :
    Calls Tryz.prog 45 #[.slice a n c, .slice b m d, v] w fun e w' => e = .returned (.bool false) ∧ w = w' := by
  have g : ((n : Int) != (m : Int)) = true := by simp; omega
  clear h
  go_enter Tryz.func45, Tryz.ntmps45
  go_wp2
  go_ret
  exact ⟨rfl, rfl⟩

set_option maxHeartbeats 400000 in
theorem eqTx_none (a b : Option Addr) (c d : Nat) (v : Value) (w : World) :
    Calls Tryz.prog 45 #[.slice a 0 c, .slice b 0 d, v] w fun e w' => e = .returned (.bool true) ∧ w = w' := by
  go_enter Tryz.func45, Tryz.ntmps45
  go_wp2
  refine wp_loop_rounds 1 ?_
  rw [rounds_succ]
  go_wp2
  go_ret
  exact ⟨rfl, rfl⟩

set_option maxRecDepth 10000 in
set_option maxHeartbeats 3200000 in
theorem eqTx_some (b1 o1 b2 o2 n c d : Nat) (l k : List TxD) (o : Bool) (w : World) (hn : n ≤ maxLen) (z1 : l.length = n) (z2 : k.length = n)
    (h1 : ∀ i (h : i < l.length), TxAt w b1 (o1 + i * 3) l[i]) (h2 : ∀ i (h : i < k.length), TxAt w b2 (o2 + i * 3) k[i]) (ho : sameTs l k = o) :
    Calls Tryz.prog 45 #[.slice (some ⟨b1, o1, none⟩) n c, .slice (some ⟨b2, o2, none⟩) n d, .func (.func 46) #[] #[]] w fun e w' => e = .returned (.bool o) ∧ Below w.heap.size w w' := by
  subst ho
  unfold maxLen at hn
  have H1 := hide h1
  have H2 := hide h2
  have Z1 := hide z1
  have Z2 := hide z2
  clear h1 h2 z1 z2
  go_enter Tryz.func45, Tryz.ntmps45
  go_wp2
  go_loopw [17] (fun i wr => ∃ j : Nat, j ≤ n ∧ i = .int .i64 j ∧ Below w.heap.size w wr ∧ Hid (l.take j = k.take j)) (fun i _ => n - (intOf i).toNat)
  case atStart => exact ⟨0, Nat.zero_le _, rfl, Below.refl _ _, rfl⟩
  case round =>
    obtain ⟨j, hk, rfl, hb, A⟩ := hrel
    have HB := hide hb
    by_cases hlt : j < n
    · have hl1 : j < l.length := by rw [unhide Z1]; exact hlt
      have hl2 : j < k.length := by rw [unhide Z2]; exact hlt
      have g := TxAt.kept _ _ _ _ _ hb ((unhide H1) j hl1)
      have f := TxAt.kept _ _ _ _ _ hb ((unhide H2) j hl2)
      have TS := hide (take_same hl1 hl2 (unhide A))
      have TU := hide (take_unlike hl1 hl2)
      obtain ⟨q, hq⟩ : ∃ q, l[j] = q := ⟨_, rfl⟩
      obtain ⟨r, hr⟩ : ∃ r, k[j] = r := ⟨_, rfl⟩
      rw [hq] at g
      rw [hr] at f
      rw [hq, hr] at TS TU
      obtain ⟨q1, I, O⟩ := q
      obtain ⟨r1, I', O'⟩ := r
      obtain ⟨g0, ⟨ai, ni, ci, g1, gI, sI⟩, ao, no, co, g2, gO, sO⟩ := g
      obtain ⟨f0, ⟨bi, mi, di, f1, fI, _⟩, bo, mo, eo, f2, fO, _⟩ := f
      simp only at g0 g1 g2 f0 f1 f2 gI gO fI fO
      have hb2 := bel_on (bel_new wr (.cells #[.int .i64 q1, .slice ai ni ci, .slice ao no co] 78)) (bel_new _ (.cells #[.int .i64 r1, .slice bi mi di, .slice bo mo eo] 78))
      obtain ⟨o', ho'⟩ : ∃ o', sameT (q1, I, O) (r1, I', O') = o' := ⟨_, rfl⟩
      have HC := hide (txSame_is q1 r1 ai ao bi bo ni ci no co mi di mo eo I I' O O' o' _ sI.len sO.len (gI.later hb2) (gO.later hb2) (fI.later hb2) (fO.later hb2) ho')
      have HB2 := hide (bel_on (unhide HB) hb2)
      have hrl : b2 < wr.heap.size := World.block_lt_of_cell? _ _ f0
      have hkI : (j : Int) < (n : Int) := by omega
      clear hb hb2 gI gO fI fO sI sO hq hr A
      cases o' with
      | true =>
        have T := hide ((unhide TS) ((sameT_eq _ _).1 ho'))
        clear TS TU ho'
        go_wp2_with fail
        refine (unhide HC).mono ?_
        rintro e w2 ⟨rfl, hb3⟩
        have HB3 := hide (bel_on (unhide HB2) hb3)
        clear hb3
        go_wp2
        go_roundw
        case rel => exact ⟨j + 1, by omega, by go_num, unhide HB3, T⟩
        case measure => simp [intOf]; omega
      | false =>
        have U : Hid (sameTs l k = false) := sameTs_no ((unhide TU) (fun e => by rw [(sameT_eq _ _).2 e] at ho'; cases ho'))
        clear TS TU ho'
        go_wp2_with fail
        refine (unhide HC).mono ?_
        rintro e w2 ⟨rfl, hb3⟩
        have HB3 := hide (bel_on (unhide HB2) hb3)
        clear hb3
        go_wp2
        go_ret
        exact ⟨by rw [unhide U]; rfl, unhide HB3⟩
    · have U : Hid (sameTs l k = true) := by
        have h := unhide A
        rw [List.take_of_length_le (by rw [unhide Z1]; omega), List.take_of_length_le (by rw [unhide Z2]; omega)] at h
        exact sameTs_yes h
      clear A hb
      go_wp2
      go_ret
      exact ⟨by rw [unhide U]; rfl, unhide HB⟩

theorem eqTx_any (a b : Option Addr) (n m c d : Nat) (l k : List TxD) (o : Bool) (w : World) (hn : n ≤ maxLen) (hA : TxsAt w a n l) (hB : TxsAt w b m k) (ho : sameTs l k = o) :
    Calls Tryz.prog 45 #[.slice a n c, .slice b m d, .func (.func 46) #[] #[]] w fun e w' => e = .returned (.bool o) ∧ Below w.heap.size w w' := by
  by_cases h : n = m
  · subst h
    by_cases h0 : n = 0
    · subst h0
      have e1 : l = [] := List.length_eq_zero_iff.1 hA.1
      have e2 : k = [] := List.length_eq_zero_iff.1 hB.1
      subst e1 e2
      rw [sameTs_yes rfl] at ho
      subst ho
      exact (eqTx_none a b c d _ w).mono fun e w' ⟨h1, h2⟩ => ⟨h1, h2 ▸ Below.refl _ _⟩
    · obtain ⟨b1, o1, rfl, _, h1⟩ := hA.2 (by omega)
      obtain ⟨b2, o2, rfl, _, h2⟩ := hB.2 (by omega)
      exact eqTx_some b1 o1 b2 o2 n c d l k o w hn hA.1 hB.1 h1 h2 ho
  · have e : l ≠ k := fun e => h (by rw [← hA.1, ← hB.1, e])
    rw [sameTs_no e] at ho
    subst ho
    exact (eqTx_lens a b n m c d _ w h).mono fun e w' ⟨h1, h2⟩ => ⟨h1, h2 ▸ Below.refl _ _⟩

end Go.Proofs.YthhlofipapfbnaaGreatDoor

/- Two heads of blocks held against each other: arrays of four numbers. -/
namespace Go.Proofs.YthhlofipapfbnaaGreatDoor
open Go.RowKit

theorem Tryz.underHead : Tryz.prog.underlying 65 = some (.array 4 3) := by kernel_rfl
theorem heads_eql (p h k n pp hh kk nn : Int) (W : World) : (binOp .eql 65 (.agg #[.int .i64 p, .int .i64 h, .int .i64 k, .int .i64 n]) (.agg #[.int .i64 pp, .int .i64 hh, .int .i64 kk, .int .i64 nn])).run Tryz.prog W = .ok (.bool ((p == pp) && ((h == hh) && ((k == kk) && (n == nn))))) W := by
  obtain ⟨i0, hi, _, _, _⟩ := info_parts Tryz.infoInt
  have hk : Tryz.prog.plainKey 3 = true := by kernel_rfl
  have hc : Tryz.prog.cellsOf 3 = 1 := by kernel_rfl
  have p0 : ∀ (x y z u : Int), (part 3 #[.int .i64 x, .int .i64 y, .int .i64 z, .int .i64 u] 0).run Tryz.prog W = .ok (.int .i64 x) W := fun x y z u => run_part_plain W hk rfl
  have p1 : ∀ (x y z u : Int), (part 3 #[.int .i64 x, .int .i64 y, .int .i64 z, .int .i64 u] 1).run Tryz.prog W = .ok (.int .i64 y) W := fun x y z u => run_part_plain W hk rfl
  have p2 : ∀ (x y z u : Int), (part 3 #[.int .i64 x, .int .i64 y, .int .i64 z, .int .i64 u] 2).run Tryz.prog W = .ok (.int .i64 z) W := fun x y z u => run_part_plain W hk rfl
  have p3 : ∀ (x y z u : Int), (part 3 #[.int .i64 x, .int .i64 y, .int .i64 z, .int .i64 u] 3).run Tryz.prog W = .ok (.int .i64 u) W := fun x y z u => run_part_plain W hk rfl
  have q : ∀ (a b : Int), (Op.equalIn 9999 3 (.int .i64 a) (.int .i64 b)).run Tryz.prog W = .ok (a == b) W := fun a b => run_equalIn_int W 9998 3 .i64 .i64 a b Tryz.underlying3
  have e : (Op.equalIn 10000 65 (.agg #[.int .i64 p, .int .i64 h, .int .i64 k, .int .i64 n]) (.agg #[.int .i64 pp, .int .i64 hh, .int .i64 kk, .int .i64 nn])).run Tryz.prog W = .ok ((p == pp) && ((h == hh) && ((k == kk) && (n == nn)))) W := by
    rw [show (10000 : Nat) = 9999 + 1 from rfl, run_equalIn_array W 9999 _ _ Tryz.underHead hi, hc, show List.range 4 = [0, 1, 2, 3] from rfl]
    simp only [Op.eqItems, Sem.run_bind, Nat.mul_one, p0, Result.andThen_ok, q]
    by_cases e1 : p = pp <;> by_cases e2 : h = hh <;> by_cases e3 : k = kk <;> by_cases e4 : n = nn <;> simp [p1, p2, p3, q, e1, e2, e3, e4]
  rw [run_eql_struct, e]
  rfl

end Go.Proofs.YthhlofipapfbnaaGreatDoor
