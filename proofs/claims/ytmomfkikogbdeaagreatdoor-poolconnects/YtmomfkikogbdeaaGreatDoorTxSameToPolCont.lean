/- Contracts of what holds orders, ins, outs and transactions against each other, whatever they are. -/
import Derived.Test.YtmomfkikogbdeaaGreatDoorTxCheckCToCoinMath
import Derived.Test.YtmomfkikogbdeaaGreatDoorPolKeepWToPolSweep
namespace Go.Proofs.YtmomfkikogbdeaaGreatDoor
open Go.RowKit

theorem below_dw (w : World) (n : Nat) : Below w.heap.size w (w.drewN n) := ⟨rfl, rfl, rfl, Nat.le_refl _, fun _ _ => rfl⟩

theorem take_same {α : Type} {l k : List α} {j : Nat} (h1 : j < l.length) (h2 : j < k.length) (h : l.take j = k.take j) (e : l[j] = k[j]) : l.take (j + 1) = k.take (j + 1) := by
  rw [List.take_succ_eq_append_getElem h1, List.take_succ_eq_append_getElem h2, h, e]
theorem take_unlike {α : Type} {l k : List α} {j : Nat} (h1 : j < l.length) (h2 : j < k.length) (e : l[j] ≠ k[j]) : l ≠ k := fun h => by
  subst h; exact e rfl

set_option maxHeartbeats 1600000 in
theorem eqOps_some (b1 o1 b2 o2 n c d : Nat) (l k : List (Int × Int)) (o : Bool) (w : World) (hn : n ≤ maxLen) (z1 : l.length = n) (z2 : k.length = n)
    (h1 : ∀ i, i < n → w.cell? ⟨b1, o1 + i * 2, none⟩ = some (.int .i64 (l.getD i (0, 0)).1) ∧ w.cell? ⟨b1, o1 + i * 2 + 1, none⟩ = some (.int .i64 (l.getD i (0, 0)).2))
    (h2 : ∀ i, i < n → w.cell? ⟨b2, o2 + i * 2, none⟩ = some (.int .i64 (k.getD i (0, 0)).1) ∧ w.cell? ⟨b2, o2 + i * 2 + 1, none⟩ = some (.int .i64 (k.getD i (0, 0)).2)) (ho : decide (l = k) = o) :
    Calls Tryz.prog 94 #[.slice (some ⟨b1, o1, none⟩) n c, .slice (some ⟨b2, o2, none⟩) n d] w fun e w' => e = .returned (.bool o) ∧ ∃ m, w' = w.drewN m := by
  subst ho
  unfold maxLen at hn
  have H1 := hide h1
  have H2 := hide h2
  have Z1 := hide z1
  have Z2 := hide z2
  clear h1 h2 z1 z2
  go_enter Tryz.func94, Tryz.ntmps94
  go_wp2
  go_loopw [13] (fun i wr => ∃ j m : Nat, j ≤ n ∧ i = .int .i64 j ∧ wr = w.drewN m ∧ Hid (l.take j = k.take j)) (fun i _ => n - (intOf i).toNat)
  case atStart => exact ⟨0, 0, Nat.zero_le _, rfl, rfl, rfl⟩
  case round =>
    obtain ⟨j, m, hk, rfl, rfl, A⟩ := hrel
    by_cases hlt : j < n
    · have hl1 : j < l.length := by rw [unhide Z1]; exact hlt
      have hl2 : j < k.length := by rw [unhide Z2]; exact hlt
      obtain ⟨g1, g2⟩ := (unhide H1) j hlt
      obtain ⟨g3, g4⟩ := (unhide H2) j hlt
      have e1 : l.getD j (0, 0) = l[j] := by simp [hl1]
      have e2 : k.getD j (0, 0) = k[j] := by simp [hl2]
      rw [e1] at g1 g2
      rw [e2] at g3 g4
      have TS := hide (take_same hl1 hl2 (unhide A))
      have TU := hide (take_unlike hl1 hl2)
      obtain ⟨q, hq⟩ : ∃ q, l[j] = q := ⟨_, rfl⟩
      obtain ⟨r, hr⟩ : ∃ r, k[j] = r := ⟨_, rfl⟩
      rw [hq] at g1 g2
      rw [hr] at g3 g4
      rw [hq, hr] at TS TU
      obtain ⟨q1, q2⟩ := q
      obtain ⟨r1, r2⟩ := r
      simp only at g1 g2 g3 g4
      clear hq hr e1 e2 A
      by_cases he : q1 = r1
      · subst he
        by_cases hf : q2 = r2
        · subst hf
          have T := hide ((unhide TS) rfl)
          clear TS TU
          go_wp2
          go_quiet (fail)
          go_wp2
          go_roundw
          case rel => exact ⟨j + 1, m + nq, by omega, by go_num, rfl, T⟩
          case measure => simp [intOf]; omega
        · have U : Hid (decide (l = k) = false) := decide_eq_false ((unhide TU) (fun e => hf (by injection e)))
          clear TS TU
          go_wp2
          go_quiet (fail)
          go_wp2
          go_ret
          exact ⟨by rw [unhide U]; rfl, m + nq, by simp [World.drewN, Nat.add_assoc]⟩
      · have U : Hid (decide (l = k) = false) := decide_eq_false ((unhide TU) (fun e => he (by injection e)))
        clear TS TU
        go_wp2
        go_quiet (fail)
        go_wp2
        go_ret
        exact ⟨by rw [unhide U]; rfl, m + nq, by simp [World.drewN, Nat.add_assoc]⟩
    · have U : Hid (decide (l = k) = true) := by
        have h := unhide A
        rw [List.take_of_length_le (by rw [unhide Z1]; omega), List.take_of_length_le (by rw [unhide Z2]; omega)] at h
        exact decide_eq_true h
      clear A
      go_wp2
      go_ret
      exact ⟨by rw [unhide U]; rfl, m, rfl⟩

set_option maxHeartbeats 400000 in
theorem eqOps_lens (a b : Option Addr) (n m c d : Nat) (w : World) (h : n ≠ m) :
    Calls Tryz.prog 94 #[.slice a n c, .slice b m d] w fun e w' => e = .returned (.bool false) ∧ w = w' := by
  have g : ((n : Int) != (m : Int)) = true := by simp; omega
  clear h
  go_enter Tryz.func94, Tryz.ntmps94
  go_wp2
  go_ret
  exact ⟨rfl, rfl⟩

set_option maxHeartbeats 400000 in
theorem eqOps_none (a b : Option Addr) (c d : Nat) (w : World) :
    Calls Tryz.prog 94 #[.slice a 0 c, .slice b 0 d] w fun e w' => e = .returned (.bool true) ∧ w = w' := by
  go_enter Tryz.func94, Tryz.ntmps94
  go_wp2
  refine wp_loop_rounds 1 ?_
  rw [rounds_succ]
  go_wp2
  go_ret
  exact ⟨rfl, rfl⟩

theorem eqOps_is (a b : Option Addr) (n m c d : Nat) (l k : List (Int × Int)) (o : Bool) (w : World) (hn : n ≤ maxLen) (hA : OpsAt w a n l) (hB : OpsAt w b m k) (ho : decide (l = k) = o) :
    Calls Tryz.prog 94 #[.slice a n c, .slice b m d] w fun e w' => e = .returned (.bool o) ∧ Below w.heap.size w w' := by
  by_cases h : n = m
  · subst h
    by_cases h0 : n = 0
    · subst h0
      have e1 : l = [] := List.length_eq_zero_iff.1 hA.1
      have e2 : k = [] := List.length_eq_zero_iff.1 hB.1
      subst e1 e2
      rw [decide_eq_true rfl] at ho
      subst ho
      exact (eqOps_none a b c d w).mono fun e w' ⟨h1, h2⟩ => ⟨h1, h2 ▸ Below.refl _ _⟩
    · obtain ⟨b1, o1, rfl, h1⟩ := hA.2 (by omega)
      obtain ⟨b2, o2, rfl, h2⟩ := hB.2 (by omega)
      exact (eqOps_some b1 o1 b2 o2 n c d l k o w hn hA.1 hB.1 h1 h2 ho).mono fun e w' ⟨e1, q, e2⟩ => ⟨e1, by rw [e2]; exact below_dw w q⟩
  · have e : l ≠ k := fun e => h (by rw [← hA.1, ← hB.1, e])
    rw [decide_eq_false e] at ho
    subst ho
    exact (eqOps_lens a b n m c d w h).mono fun e w' ⟨h1, h2⟩ => ⟨h1, h2 ▸ Below.refl _ _⟩

/-! Ins and outs, one against one. -/
set_option maxRecDepth 10000 in
set_option maxHeartbeats 1600000 in
theorem sameIn_is (x y : InD) (a b : Option Addr) (n c m d : Nat) (o : Bool) (w : World) (hn : n ≤ maxLen) (hA : OpsAt w a n x.2.2) (hB : OpsAt w b m y.2.2) (ho : decide (x = y) = o) :
    Calls Tryz.prog 93 #[.agg #[.int .i64 x.1, .int .i64 x.2.1, .slice a n c], .agg #[.int .i64 y.1, .int .i64 y.2.1, .slice b m d]] w fun e w' => e = .returned (.bool o) ∧ Below w.heap.size w w' := by
  obtain ⟨x1, x2, k⟩ := x
  obtain ⟨y1, y2, l⟩ := y
  simp only at hA hB ⊢
  have hb := bel_on (bel_new w (.cells #[.int .i64 x1, .int .i64 x2, .slice a n c] 119)) (bel_new _ (.cells #[.int .i64 y1, .int .i64 y2, .slice b m d] 119))
  have HB := hide hb
  by_cases h1 : x1 = y1
  · subst h1
    by_cases h2 : x2 = y2
    · subst h2
      have C := hide (eqOps_is a b n m c d k l o _ hn (hA.later hb) (hB.later hb) (by rw [← ho]; simp))
      clear hA hB hb ho
      go_enter Tryz.func93, Tryz.ntmps93
      go_wp2_with fail
      refine (unhide C).mono ?_
      rintro e w2 ⟨rfl, hb2⟩
      have HB2 := hide (bel_on (unhide HB) hb2)
      clear hb2
      go_wp2
      go_ret
      exact ⟨rfl, unhide HB2⟩
    · have e : o = false := by rw [← ho]; exact decide_eq_false (fun e => h2 (by injection e with _ e; injection e))
      subst e
      clear hA hB hb ho
      go_enter Tryz.func93, Tryz.ntmps93
      go_wp2
      go_ret
      exact ⟨rfl, unhide HB⟩
  · have e : o = false := by rw [← ho]; exact decide_eq_false (fun e => h1 (by injection e))
    subst e
    clear hA hB hb ho
    go_enter Tryz.func93, Tryz.ntmps93
    go_wp2
    go_ret
    exact ⟨rfl, unhide HB⟩

set_option maxRecDepth 10000 in
set_option maxHeartbeats 1600000 in
theorem sameOut_is (x y : OutD) (a b : Option Addr) (n c m d : Nat) (o : Bool) (w : World) (hn : n ≤ maxLen) (hA : OpsAt w a n x.2) (hB : OpsAt w b m y.2) (ho : decide (x = y) = o) :
    Calls Tryz.prog 97 #[.agg #[.int .i64 x.1, .slice a n c], .agg #[.int .i64 y.1, .slice b m d]] w fun e w' => e = .returned (.bool o) ∧ Below w.heap.size w w' := by
  obtain ⟨x1, k⟩ := x
  obtain ⟨y1, l⟩ := y
  simp only at hA hB ⊢
  have hb := bel_on (bel_new w (.cells #[.int .i64 x1, .slice a n c] 122)) (bel_new _ (.cells #[.int .i64 y1, .slice b m d] 122))
  have HB := hide hb
  by_cases h1 : x1 = y1
  · subst h1
    have C := hide (eqOps_is a b n m c d k l o _ hn (hA.later hb) (hB.later hb) (by rw [← ho]; simp))
    clear hA hB hb ho
    go_enter Tryz.func97, Tryz.ntmps97
    go_wp2_with fail
    refine (unhide C).mono ?_
    rintro e w2 ⟨rfl, hb2⟩
    have HB2 := hide (bel_on (unhide HB) hb2)
    clear hb2
    go_wp2
    go_ret
    exact ⟨rfl, unhide HB2⟩
  · have e : o = false := by rw [← ho]; exact decide_eq_false (fun e => h1 (by injection e))
    have g : (x1 == y1) = false := by simp [h1]
    subst e
    clear hA hB hb ho
    go_enter Tryz.func97, Tryz.ntmps97
    go_wp2
    go_ret
    exact ⟨rfl, unhide HB⟩

/-! Rows of ins and of outs. -/
set_option maxRecDepth 10000 in
set_option maxHeartbeats 3200000 in
theorem eqIns_some (b1 o1 b2 o2 n c d : Nat) (l k : List InD) (o : Bool) (w : World) (hn : n ≤ maxLen) (z1 : l.length = n) (z2 : k.length = n)
    (h1 : ∀ i (h : i < l.length), InAt w b1 (o1 + i * 3) l[i]) (h2 : ∀ i (h : i < k.length), InAt w b2 (o2 + i * 3) k[i]) (ho : decide (l = k) = o) :
    Calls Tryz.prog 95 #[.slice (some ⟨b1, o1, none⟩) n c, .slice (some ⟨b2, o2, none⟩) n d, .func (.func 93) #[] #[]] w fun e w' => e = .returned (.bool o) ∧ Below w.heap.size w w' := by
  subst ho
  unfold maxLen at hn
  have H1 := hide h1
  have H2 := hide h2
  have Z1 := hide z1
  have Z2 := hide z2
  clear h1 h2 z1 z2
  go_enter Tryz.func95, Tryz.ntmps95
  go_wp2
  go_loopw [17] (fun i wr => ∃ j : Nat, j ≤ n ∧ i = .int .i64 j ∧ Below w.heap.size w wr ∧ Hid (l.take j = k.take j)) (fun i _ => n - (intOf i).toNat)
  case atStart => exact ⟨0, Nat.zero_le _, rfl, Below.refl _ _, rfl⟩
  case round =>
    obtain ⟨j, hk, rfl, hb, A⟩ := hrel
    have HB := hide hb
    by_cases hlt : j < n
    · have hl1 : j < l.length := by rw [unhide Z1]; exact hlt
      have hl2 : j < k.length := by rw [unhide Z2]; exact hlt
      have g := InAt.kept _ _ _ _ _ hb ((unhide H1) j hl1)
      have f := InAt.kept _ _ _ _ _ hb ((unhide H2) j hl2)
      have TS := hide (take_same hl1 hl2 (unhide A))
      have TU := hide (take_unlike hl1 hl2)
      obtain ⟨q, hq⟩ : ∃ q, l[j] = q := ⟨_, rfl⟩
      obtain ⟨r, hr⟩ : ∃ r, k[j] = r := ⟨_, rfl⟩
      rw [hq] at g
      rw [hr] at f
      rw [hq, hr] at TS TU
      obtain ⟨g1, g2, qa, qn, qc, g3, g4, g5⟩ := g
      obtain ⟨f1, f2, ra, rn, rc, f3, f4, _⟩ := f
      obtain ⟨q1, q2, qk⟩ := q
      obtain ⟨r1, r2, rk⟩ := r
      simp only at g1 g2 g3 g4 f1 f2 f3 f4
      have lt2 : b2 < wr.heap.size := World.block_lt_of_cell? _ _ f1
      have hb2 := bel_on (bel_new wr (.cells #[.int .i64 q1, .int .i64 q2, .slice qa qn qc] 119)) (bel_new _ (.cells #[.int .i64 r1, .int .i64 r2, .slice ra rn rc] 119))
      have HB2 := hide hb2
      have C : Hid (∀ o, decide (((q1, q2, qk) : InD) = (r1, r2, rk)) = o → Calls Tryz.prog 93 #[.agg #[.int .i64 q1, .int .i64 q2, .slice qa qn qc], .agg #[.int .i64 r1, .int .i64 r2, .slice ra rn rc]] ((wr.alloc (.cells #[.int .i64 q1, .int .i64 q2, .slice qa qn qc] 119)).alloc (.cells #[.int .i64 r1, .int .i64 r2, .slice ra rn rc] 119)) fun e w' => e = .returned (.bool o) ∧ Below _ _ w') :=
        fun o ho => sameIn_is (q1, q2, qk) (r1, r2, rk) qa ra qn qc rn rc o _ g5.len (g4.later hb2) (f4.later hb2) ho
      clear hq hr A g4 f4 g5 hb hb2
      by_cases he : ((q1, q2, qk) : InD) = (r1, r2, rk)
      · have T := hide ((unhide TS) he)
        have C2 := hide ((unhide C) true (decide_eq_true he))
        clear TS TU C he
        go_wp2_with fail
        refine (unhide C2).mono ?_
        rintro e w3 ⟨rfl, hb3⟩
        have HB3 := hide (bel_on (bel_on (unhide HB) (unhide HB2)) hb3)
        clear hb3
        go_wp2
        go_roundw
        case rel => exact ⟨j + 1, by omega, by go_num, unhide HB3, T⟩
        case measure => simp [intOf]; omega
      · have U : Hid (decide (l = k) = false) := decide_eq_false ((unhide TU) he)
        have C2 := hide ((unhide C) false (decide_eq_false he))
        clear TS TU C he
        go_wp2_with fail
        refine (unhide C2).mono ?_
        rintro e w3 ⟨rfl, hb3⟩
        have HB3 := hide (bel_on (bel_on (unhide HB) (unhide HB2)) hb3)
        clear hb3
        go_wp2
        go_ret
        exact ⟨by rw [unhide U]; rfl, unhide HB3⟩
    · have U : Hid (decide (l = k) = true) := by
        have h := unhide A
        rw [List.take_of_length_le (by rw [unhide Z1]; omega), List.take_of_length_le (by rw [unhide Z2]; omega)] at h
        exact decide_eq_true h
      clear A hb
      go_wp2
      go_ret
      exact ⟨by rw [unhide U]; rfl, unhide HB⟩

end Go.Proofs.YtmomfkikogbdeaaGreatDoor

/- Contracts of what holds rows of ins and outs, and transactions, against each other, whatever they are. -/
namespace Go.Proofs.YtmomfkikogbdeaaGreatDoor
open Go.RowKit

set_option maxRecDepth 10000 in
set_option maxHeartbeats 3200000 in
theorem eqOuts_some (b1 o1 b2 o2 n c d : Nat) (l k : List OutD) (o : Bool) (w : World) (hn : n ≤ maxLen) (z1 : l.length = n) (z2 : k.length = n)
    (h1 : ∀ i (h : i < l.length), OutAt w b1 (o1 + i * 2) l[i]) (h2 : ∀ i (h : i < k.length), OutAt w b2 (o2 + i * 2) k[i]) (ho : decide (l = k) = o) :
    Calls Tryz.prog 96 #[.slice (some ⟨b1, o1, none⟩) n c, .slice (some ⟨b2, o2, none⟩) n d, .func (.func 97) #[] #[]] w fun e w' => e = .returned (.bool o) ∧ Below w.heap.size w w' := by
  subst ho
  unfold maxLen at hn
  have H1 := hide h1
  have H2 := hide h2
  have Z1 := hide z1
  have Z2 := hide z2
  clear h1 h2 z1 z2
  go_enter Tryz.func96, Tryz.ntmps96
  go_wp2
  go_loopw [17] (fun i wr => ∃ j : Nat, j ≤ n ∧ i = .int .i64 j ∧ Below w.heap.size w wr ∧ Hid (l.take j = k.take j)) (fun i _ => n - (intOf i).toNat)
  case atStart => exact ⟨0, Nat.zero_le _, rfl, Below.refl _ _, rfl⟩
  case round =>
    obtain ⟨j, hk, rfl, hb, A⟩ := hrel
    have HB := hide hb
    by_cases hlt : j < n
    · have hl1 : j < l.length := by rw [unhide Z1]; exact hlt
      have hl2 : j < k.length := by rw [unhide Z2]; exact hlt
      have g := OutAt.kept _ _ _ _ _ hb ((unhide H1) j hl1)
      have f := OutAt.kept _ _ _ _ _ hb ((unhide H2) j hl2)
      have TS := hide (take_same hl1 hl2 (unhide A))
      have TU := hide (take_unlike hl1 hl2)
      obtain ⟨q, hq⟩ : ∃ q, l[j] = q := ⟨_, rfl⟩
      obtain ⟨r, hr⟩ : ∃ r, k[j] = r := ⟨_, rfl⟩
      rw [hq] at g
      rw [hr] at f
      rw [hq, hr] at TS TU
      obtain ⟨g1, qa, qn, qc, g3, g4, g5⟩ := g
      obtain ⟨f1, ra, rn, rc, f3, f4, _⟩ := f
      obtain ⟨q1, qk⟩ := q
      obtain ⟨r1, rk⟩ := r
      simp only at g1 g3 g4 f1 f3 f4
      have lt2 : b2 < wr.heap.size := World.block_lt_of_cell? _ _ f1
      have hb2 := bel_on (bel_new wr (.cells #[.int .i64 q1, .slice qa qn qc] 122)) (bel_new _ (.cells #[.int .i64 r1, .slice ra rn rc] 122))
      have HB2 := hide hb2
      have C : Hid (∀ o, decide (((q1, qk) : OutD) = (r1, rk)) = o → Calls Tryz.prog 97 #[.agg #[.int .i64 q1, .slice qa qn qc], .agg #[.int .i64 r1, .slice ra rn rc]] ((wr.alloc (.cells #[.int .i64 q1, .slice qa qn qc] 122)).alloc (.cells #[.int .i64 r1, .slice ra rn rc] 122)) fun e w' => e = .returned (.bool o) ∧ Below _ _ w') :=
        fun o ho => sameOut_is (q1, qk) (r1, rk) qa ra qn qc rn rc o _ g5.len (g4.later hb2) (f4.later hb2) ho
      clear hq hr A g4 f4 g5 hb hb2
      by_cases he : ((q1, qk) : OutD) = (r1, rk)
      · have T := hide ((unhide TS) he)
        have C2 := hide ((unhide C) true (decide_eq_true he))
        clear TS TU C he
        go_wp2_with fail
        refine (unhide C2).mono ?_
        rintro e w3 ⟨rfl, hb3⟩
        have HB3 := hide (bel_on (bel_on (unhide HB) (unhide HB2)) hb3)
        clear hb3
        go_wp2
        go_roundw
        case rel => exact ⟨j + 1, by omega, by go_num, unhide HB3, T⟩
        case measure => simp [intOf]; omega
      · have U : Hid (decide (l = k) = false) := decide_eq_false ((unhide TU) he)
        have C2 := hide ((unhide C) false (decide_eq_false he))
        clear TS TU C he
        go_wp2_with fail
        refine (unhide C2).mono ?_
        rintro e w3 ⟨rfl, hb3⟩
        have HB3 := hide (bel_on (bel_on (unhide HB) (unhide HB2)) hb3)
        clear hb3
        go_wp2
        go_ret
        exact ⟨by rw [unhide U]; rfl, unhide HB3⟩
    · have U : Hid (decide (l = k) = true) := by
        have h := unhide A
        rw [List.take_of_length_le (by rw [unhide Z1]; omega), List.take_of_length_le (by rw [unhide Z2]; omega)] at h
        exact decide_eq_true h
      clear A hb
      go_wp2
      go_ret
      exact ⟨by rw [unhide U]; rfl, unhide HB⟩

set_option maxHeartbeats 400000 in
theorem eqIns_lens (a b : Option Addr) (n m c d : Nat) (v : Value) (w : World) (h : n ≠ m) :
    Calls Tryz.prog 95 #[.slice a n c, .slice b m d, v] w fun e w' => e = .returned (.bool false) ∧ w = w' := by
  have g : ((n : Int) != (m : Int)) = true := by simp; omega
  clear h
  go_enter Tryz.func95, Tryz.ntmps95
  go_wp2
  go_ret
  exact ⟨rfl, rfl⟩
set_option maxHeartbeats 400000 in
theorem eqIns_none (a b : Option Addr) (c d : Nat) (v : Value) (w : World) :
    Calls Tryz.prog 95 #[.slice a 0 c, .slice b 0 d, v] w fun e w' => e = .returned (.bool true) ∧ w = w' := by
  go_enter Tryz.func95, Tryz.ntmps95
  go_wp2
  refine wp_loop_rounds 1 ?_
  rw [rounds_succ]
  go_wp2
  go_ret
  exact ⟨rfl, rfl⟩
theorem eqIns_is (a b : Option Addr) (n m c d : Nat) (l k : List InD) (o : Bool) (w : World) (hn : n ≤ maxLen) (hA : InsAt w a n l) (hB : InsAt w b m k) (ho : decide (l = k) = o) :
    Calls Tryz.prog 95 #[.slice a n c, .slice b m d, .func (.func 93) #[] #[]] w fun e w' => e = .returned (.bool o) ∧ Below w.heap.size w w' := by
  by_cases h : n = m
  · subst h
    by_cases h0 : n = 0
    · subst h0
      have e1 : l = [] := List.length_eq_zero_iff.1 hA.1
      have e2 : k = [] := List.length_eq_zero_iff.1 hB.1
      subst e1 e2
      rw [decide_eq_true rfl] at ho
      subst ho
      exact (eqIns_none a b c d _ w).mono fun e w' ⟨h1, h2⟩ => ⟨h1, h2 ▸ Below.refl _ _⟩
    · obtain ⟨b1, o1, rfl, _, h1⟩ := hA.2 (by omega)
      obtain ⟨b2, o2, rfl, _, h2⟩ := hB.2 (by omega)
      exact eqIns_some b1 o1 b2 o2 n c d l k o w hn hA.1 hB.1 h1 h2 ho
  · have e : l ≠ k := fun e => h (by rw [← hA.1, ← hB.1, e])
    rw [decide_eq_false e] at ho
    subst ho
    exact (eqIns_lens a b n m c d _ w h).mono fun e w' ⟨h1, h2⟩ => ⟨h1, h2 ▸ Below.refl _ _⟩

set_option maxHeartbeats 400000 in
theorem eqOuts_lens (a b : Option Addr) (n m c d : Nat) (v : Value) (w : World) (h : n ≠ m) :
    Calls Tryz.prog 96 #[.slice a n c, .slice b m d, v] w fun e w' => e = .returned (.bool false) ∧ w = w' := by
  have g : ((n : Int) != (m : Int)) = true := by simp; omega
  clear h
  go_enter Tryz.func96, Tryz.ntmps96
  go_wp2
  go_ret
  exact ⟨rfl, rfl⟩
set_option maxHeartbeats 400000 in
theorem eqOuts_none (a b : Option Addr) (c d : Nat) (v : Value) (w : World) :
    Calls Tryz.prog 96 #[.slice a 0 c, .slice b 0 d, v] w fun e w' => e = .returned (.bool true) ∧ w = w' := by
  go_enter Tryz.func96, Tryz.ntmps96
  go_wp2
  refine wp_loop_rounds 1 ?_
  rw [rounds_succ]
  go_wp2
  go_ret
  exact ⟨rfl, rfl⟩
theorem eqOuts_is (a b : Option Addr) (n m c d : Nat) (l k : List OutD) (o : Bool) (w : World) (hn : n ≤ maxLen) (hA : OutsAt w a n l) (hB : OutsAt w b m k) (ho : decide (l = k) = o) :
    Calls Tryz.prog 96 #[.slice a n c, .slice b m d, .func (.func 97) #[] #[]] w fun e w' => e = .returned (.bool o) ∧ Below w.heap.size w w' := by
  by_cases h : n = m
  · subst h
    by_cases h0 : n = 0
    · subst h0
      have e1 : l = [] := List.length_eq_zero_iff.1 hA.1
      have e2 : k = [] := List.length_eq_zero_iff.1 hB.1
      subst e1 e2
      rw [decide_eq_true rfl] at ho
      subst ho
      exact (eqOuts_none a b c d _ w).mono fun e w' ⟨h1, h2⟩ => ⟨h1, h2 ▸ Below.refl _ _⟩
    · obtain ⟨b1, o1, rfl, _, h1⟩ := hA.2 (by omega)
      obtain ⟨b2, o2, rfl, _, h2⟩ := hB.2 (by omega)
      exact eqOuts_some b1 o1 b2 o2 n c d l k o w hn hA.1 hB.1 h1 h2 ho
  · have e : l ≠ k := fun e => h (by rw [← hA.1, ← hB.1, e])
    rw [decide_eq_false e] at ho
    subst ho
    exact (eqOuts_lens a b n m c d _ w h).mono fun e w' ⟨h1, h2⟩ => ⟨h1, h2 ▸ Below.refl _ _⟩

set_option maxRecDepth 10000 in
set_option maxHeartbeats 3200000 in
theorem txSame_is (h h' : Int) (ai ao bi bo : Option Addr) (ni ci no co mi di mo eo : Nat) (I I' : List InD) (O O' : List OutD) (o : Bool) (w : World) (li : ni ≤ maxLen) (lo : no ≤ maxLen)
    (hI : InsAt w ai ni I) (hO : OutsAt w ao no O) (hI' : InsAt w bi mi I') (hO' : OutsAt w bo mo O') (ho : sameT (h, I, O) (h', I', O') = o) :
    Calls Tryz.prog 30 #[.agg #[.int .i64 h, .slice ai ni ci, .slice ao no co], .agg #[.int .i64 h', .slice bi mi di, .slice bo mo eo]] w fun e w' => e = .returned (.bool o) ∧ Below w.heap.size w w' := by
  have hb1 := bel_new w (.cells #[.int .i64 h, .slice ai ni ci, .slice ao no co] 59)
  have hb2 := bel_new (w.alloc (.cells #[.int .i64 h, .slice ai ni ci, .slice ao no co] 59)) (.cells #[.int .i64 h', .slice bi mi di, .slice bo mo eo] 59)
  have hb := bel_on hb1 hb2
  have HB := hide hb
  have M2 := hide (cell_later hb2 (three_new w (.int .i64 h) (.slice ai ni ci) (.slice ao no co) 59).2.2)
  have N2 := hide (three_new (w.alloc (.cells #[.int .i64 h, .slice ai ni ci, .slice ao no co] 59)) (.int .i64 h') (.slice bi mi di) (.slice bo mo eo) 59).2.2
  have HI := hide (hI.later hb)
  have HO := hide (hO.later hb)
  have HI' := hide (hI'.later hb)
  have HO' := hide (hO'.later hb)
  have LI := hide li
  have LO := hide lo
  clear hI hO hI' hO' hb hb1 hb2 li lo
  by_cases h1 : h = h'
  · subst h1
    by_cases h2 : I = I'
    · have ho' : decide (O = O') = o := by rw [← ho]; unfold sameT; simp [h2]
      have CI := hide (eqIns_is ai bi ni mi ci di I I' true _ (unhide LI) (unhide HI) (unhide HI') (decide_eq_true h2))
      have HQ := hide ho'
      clear ho ho' h2
      go_enter Tryz.func30, Tryz.ntmps30
      go_wp2_with fail
      refine (unhide CI).mono ?_
      rintro e w2 ⟨rfl, hb2⟩
      have m2 := cell_later hb2 (unhide M2)
      have n2 := cell_later hb2 (unhide N2)
      rw [show (w.alloc (.cells #[.int .i64 h, .slice ai ni ci, .slice ao no co] 59)).heap.size = w.heap.size + 1 by simp] at n2
      have s2 : w.heap.size + 1 < w2.heap.size := World.block_lt_of_cell? _ _ n2
      have s1 : w.heap.size < w2.heap.size := by omega
      have CO := hide (eqOuts_is ao bo no mo co eo O O' o w2 (unhide LO) ((unhide HO).later hb2) ((unhide HO').later hb2) (unhide HQ))
      have HB2 := hide (bel_on (unhide HB) hb2)
      clear hb2
      go_wp2_with fail
      refine (unhide CO).mono ?_
      rintro e w3 ⟨rfl, hb3⟩
      have HB3 := hide (bel_on (unhide HB2) hb3)
      clear hb3
      go_wp2
      go_ret
      exact ⟨rfl, unhide HB3⟩
    · have e : o = false := by rw [← ho]; unfold sameT; simp [h2]
      subst e
      have CI := hide (eqIns_is ai bi ni mi ci di I I' false _ (unhide LI) (unhide HI) (unhide HI') (decide_eq_false h2))
      clear ho h2
      go_enter Tryz.func30, Tryz.ntmps30
      go_wp2_with fail
      refine (unhide CI).mono ?_
      rintro e w2 ⟨rfl, hb2⟩
      have HB2 := hide (bel_on (unhide HB) hb2)
      clear hb2
      go_wp2
      go_ret
      exact ⟨rfl, unhide HB2⟩
  · have e : o = false := by rw [← ho]; unfold sameT; simp [h1]
    subst e
    have g : (h == h') = false := by simp [h1]
    clear ho
    go_enter Tryz.func30, Tryz.ntmps30
    go_wp2
    go_ret
    exact ⟨rfl, unhide HB⟩

end Go.Proofs.YtmomfkikogbdeaaGreatDoor

/- slices.ContainsFunc at transactions, for whatever test that only reads; Accept's test. -/
namespace Go.Proofs.YtmomfkikogbdeaaGreatDoor
open Go.RowKit

def fidx (g : TxD → Bool) : List TxD → Nat → Int
  | [], _ => -1
  | t :: r, k => if g t = true then k else fidx g r (k + 1)
theorem fidx_at (g : TxD → Bool) (L : List TxD) (k : Nat) (h : k < L.length) : fidx g (L.drop k) k = if g L[k] = true then (k : Int) else fidx g (L.drop (k + 1)) (k + 1) := by
  rw [List.drop_eq_getElem_cons h, fidx]
theorem fidx_any (g : TxD → Bool) : ∀ (L : List TxD) (k : Nat), decide (0 ≤ fidx g L k) = L.any g
  | [], _ => by simp [fidx]
  | t :: r, k => by
    rw [fidx, List.any_cons]
    by_cases h : g t = true
    · rw [if_pos h, h]; simp
    · have h' : g t = false := by simpa using h
      rw [if_neg h, fidx_any g r, h', Bool.false_or]

/-- A test of a transaction that only reads. -/
structure TxTest (f : Nat) (caps : Array Value) (W0 : World) (g : TxD → Bool) : Prop where
  enters : ∀ args w, (callFunc f args).run Tryz.prog w = .ok (.enter f args) w
  call : ∀ w, Below W0.heap.size W0 w → ∀ (th : Int) (ai ao : Option Addr) (ni ci no co : Nat) (I : List InD) (O : List OutD), InsAt w ai ni I → OutsAt w ao no O → SlOk ai ni ci → SlOk ao no co →
    Calls Tryz.prog f (#[.agg #[.int .i64 th, .slice ai ni ci, .slice ao no co]] ++ caps) w fun e w' => e = .returned (.bool (g (th, I, O))) ∧ Below w.heap.size w w'

set_option maxRecDepth 10000 in
set_option maxHeartbeats 3200000 in
theorem indexTx_is (f : Nat) (caps : Array Value) (g : TxD → Bool) (a : Option Addr) (n c : Nat) (L : List TxD) (w : World) (hT : TxTest f caps w g) (hL : TxsAt w a n L) (hn : n ≤ maxLen) :
    Calls Tryz.prog 156 #[.slice a n c, .func (.func f) #[] caps] w fun e w' => e = .returned (.int .i64 (fidx g L 0)) ∧ Below w.heap.size w w' := by
  have HT := hide hT
  have HL := hide hL
  have HZ := hide hL.1
  have hn' : n ≤ 9223372036854775807 := hn
  clear hT hL hn
  go_enter Tryz.func156, Tryz.ntmps156
  go_wp2
  go_loopw [5, 8] (fun _ i wr => ∃ k : Nat, k ≤ n ∧ i = .int .i64 k ∧ Hid (fidx g L 0 = fidx g (L.drop k) k) ∧ Below w.heap.size w wr) (fun _ i _ => n - (intOf i).toNat)
  case atStart => exact ⟨0, Nat.zero_le _, rfl, rfl, Below.refl _ _⟩
  case round =>
    obtain ⟨k, hk, rfl, A, hb⟩ := hrel
    have HB := hide hb
    by_cases hlt : k < n
    · have hlk : k < L.length := by rw [unhide HZ]; exact hlt
      obtain ⟨b, off, rfl, hbl, hrow⟩ := (unhide HL).2 (by omega)
      obtain ⟨c0, ⟨ai, ni, ci, c1, hI1, sI1⟩, ao, no, co, c2, hO1, sO1⟩ := hrow k hlk
      have c0 := cell_later hb c0
      have c1 := cell_later hb c1
      have c2 := cell_later hb c2
      have hbl : b < wr.heap.size := Nat.lt_of_lt_of_le hbl hb.size
      have S := hide (fidx_at g L k hlk)
      obtain ⟨t, ht⟩ : ∃ t, L[k] = t := ⟨_, rfl⟩
      rw [ht] at c0 hI1 hO1 S
      obtain ⟨th, tI, tO⟩ := t
      have CC := hide ((unhide HT).call wr hb th ai ao ni ci no co tI tO (hI1.later hb) (hO1.later hb) sI1 sO1)
      have eg := (unhide HT).enters
      simp only at c0
      clear hI1 hO1 sI1 sO1 ht hrow hb
      cases hg : g (th, tI, tO) with
      | true =>
        rw [hg] at CC S
        have S2 : Hid (fidx g L 0 = k) := by show _ = _; rw [unhide A, unhide S, if_pos rfl]
        clear S A hg
        go_wp2_with fail
        refine (unhide CC).mono ?_
        rintro e w2 ⟨rfl, hb2⟩
        have HB2 := hide (bel_on (unhide HB) hb2)
        clear hb2 CC
        go_wp2
        go_ret
        exact ⟨by rw [unhide S2]; rfl, unhide HB2⟩
      | false =>
        rw [hg] at CC S
        have S2 : Hid (fidx g L 0 = fidx g (L.drop (k + 1)) (k + 1)) := by show _ = _; rw [unhide A, unhide S, if_neg (by decide)]
        clear S A hg
        go_wp2_with fail
        refine (unhide CC).mono ?_
        rintro e w2 ⟨rfl, hb2⟩
        have HB2 := hide (bel_on (unhide HB) hb2)
        clear hb2 CC
        go_wp2
        go_roundw
        case rel => exact ⟨k + 1, by omega, by go_num, S2, unhide HB2⟩
        case measure => simp [intOf]; omega
    · have S2 : Hid (fidx g L 0 = -1) := by
        show _ = _
        rw [unhide A, List.drop_of_length_le (by rw [unhide HZ]; omega)]; rfl
      clear A hb
      go_wp2
      go_ret
      exact ⟨by rw [unhide S2]; rfl, unhide HB⟩

theorem containsTx_is (f : Nat) (caps : Array Value) (g : TxD → Bool) (a : Option Addr) (n c : Nat) (L : List TxD) (o : Bool) (w : World) (hT : TxTest f caps w g) (hL : TxsAt w a n L) (hn : n ≤ maxLen) (ho : L.any g = o) :
    Calls Tryz.prog 89 #[.slice a n c, .func (.func f) #[] caps] w fun e w' => e = .returned (.bool o) ∧ Below w.heap.size w w' := by
  have C1 := hide (indexTx_is f caps g a n c L w hT hL hn)
  have HO : Hid (decide (0 ≤ fidx g L 0) = o) := by show _ = _; rw [fidx_any]; exact ho
  obtain ⟨i, hi⟩ : ∃ i, fidx g L 0 = i := ⟨_, rfl⟩
  rw [hi] at C1 HO
  clear hT hL hn ho hi
  go_enter Tryz.func89, Tryz.ntmps89
  go_wp2_with fail
  refine (unhide C1).mono ?_
  rintro e w1 ⟨rfl, hb⟩
  have HB := hide hb
  clear hb C1
  go_wp2
  go_ret
  exact ⟨by rw [← unhide HO]; rfl, unhide HB⟩

/-- Accept's test: is it like the one that comes? -/
theorem accept2_test (p : Nat) (th : Int) (ai ao : Option Addr) (ni ci no co : Nat) (I : List InD) (O : List OutD) (w : World) (hp : w.heap[p]? = some (.cells [.int .i64 th, .slice ai ni ci, .slice ao no co].toArray 59 (0, 0))) (hI : InsAt w ai ni I) (hO : OutsAt w ao no O) :
    TxTest 90 #[.pointer (some ⟨p, 0, none⟩)] w (fun x => sameT x (th, I, O)) where
  enters := enters_of (fn := Tryz.f90) (by kernel_rfl) (by kernel_rfl) rfl
  call V hV xh bi bo mi di mo eo J P hJ hP sJ sP := by
    obtain ⟨X, hX⟩ : ∃ X, X = V.alloc (.cells #[.int .i64 xh, .slice bi mi di, .slice bo mo eo] 59) := ⟨_, rfl⟩
    have hbX : Below V.heap.size V X := by rw [hX]; exact bel_new _ _
    have hX0 : X.heap[V.heap.size]? = some (.cells [.int .i64 xh, .slice bi mi di, .slice bo mo eo].toArray 59 (0, 0)) := by rw [hX]; exact three_heap _ _ _ _ _
    have hwX := bel_on hV hbX
    have hpX := (hwX.block p (lt_of_block hp)).trans hp
    have hpV := (hV.block p (lt_of_block hp)).trans hp
    have v0 := cell_of hpV 0 _ rfl
    have v1 := cell_of hpV 1 _ rfl
    have v2 := cell_of hpV 2 _ rfl
    have vl := lt_of_block hpV
    obtain ⟨o, ho⟩ : ∃ o, sameT (xh, J, P) (th, I, O) = o := ⟨_, rfl⟩
    have C1 := hide (txSame_is xh th bi bo ai ao mi di mo eo ni ci no co J I P O o X sJ.len sP.len (hJ.later hbX) (hP.later hbX) (hI.later hwX) (hO.later hwX) ho)
    have q0 := cell_of hpX 0 _ rfl
    have q1 := cell_of hpX 1 _ rfl
    have q2 := cell_of hpX 2 _ rfl
    have ql := lt_of_block hpX
    have t0 := cell_of hX0 0 _ rfl
    have t1 := cell_of hX0 1 _ rfl
    have t2 := cell_of hX0 2 _ rfl
    have tl := lt_of_block hX0
    have HB := hide hbX
    show Calls _ _ _ _ (fun e w' => e = .returned (.bool (sameT (xh, J, P) (th, I, O))) ∧ _)
    rw [ho]
    clear hp hI hO hV hJ hP sJ sP hbX hX0 hwX hpX hpV ho
    go_enter Tryz.func90, Tryz.ntmps90
    go_wp2_with fail
    rw [← hX]
    clear hX
    (try go_wp2_with fail)
    refine (unhide C1).mono ?_
    rintro e w1 ⟨rfl, hb⟩
    have HB2 := hide (bel_on (unhide HB) hb)
    clear hb C1
    go_wp2
    go_ret
    exact ⟨rfl, unhide HB2⟩

end Go.Proofs.YtmomfkikogbdeaaGreatDoor
