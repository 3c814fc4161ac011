/- Contracts of what holds orders, ins, outs and transactions against each other, whatever they are. -/
import Derived.Test.YtmomfkikogbdeaaGreatDoorTxCheckBToBlkMem
import Derived.Test.YtmomfkikogbdeaaGreatDoorBlkPrint
import Derived.Test.YtmomfkikogbdeaaGreatDoorBlkHeadToTxParts
import Derived.Deep.RegionHeld3
import Derived.Deep.RegionLaw
import Derived.DeepKeys
import Derived.Laws.StructEq
namespace Go.Proofs.YtmomfkikogbdeaaGreatDoor
open Go.RowKit

theorem below_dw (w : World) (n : Nat) : Below w.heap.size w (w.drewN n) := ⟨rfl, rfl, rfl, Nat.le_refl _, fun _ _ => rfl⟩

theorem take_same {α : Type} {l k : List α} {j : Nat} (h1 : j < l.length) (h2 : j < k.length) (h : l.take j = k.take j) (e : l[j] = k[j]) : l.take (j + 1) = k.take (j + 1) := by
  rw [List.take_succ_eq_append_getElem h1, List.take_succ_eq_append_getElem h2, h, e]
theorem take_unlike {α : Type} {l k : List α} {j : Nat} (h1 : j < l.length) (h2 : j < k.length) (e : l[j] ≠ k[j]) : l ≠ k := fun h => by
  subst h; exact e rfl

set_option maxHeartbeats 1600000 in
theorem eqOps_some (b1 o1 b2 o2 n c d : Nat) (l k : List (Int × Int)) (o : Bool) (w : World) (hn : n ≤ maxLen) (z1 : l.length = n) (z2 : k.length = n)
    (h1 : ∀ i, i < n → w.cell? ⟨b1, o1 + i * 2, none⟩ = some (.int .i64 (l.getD i (0, 0)).1) ∧ w.cell? ⟨b1, o1 + i * 2 + 1, none⟩ = some (.int .i64 (l.getD i (0, 0)).2))
    (h2 : ∀ i, i < n → w.cell? ⟨b2, o2 + i * 2, none⟩ = some (.int .i64 (k.getD i (0, 0)).1) ∧ w.cell? ⟨b2, o2 + i * 2 + 1, none⟩ = some (.int .i64 (k.getD i (0, 0)).2)) (ho : decide (l = k) = o) :
    Calls Tryz.prog 94 #[.slice (some ⟨b1, o1, none⟩) n c, .slice (some ⟨b2, o2, none⟩) n d] w fun e w' => e = .returned (.bool o) ∧ ∃ m, w' = w.drewN m := by
  subst ho
  unfold maxLen at hn
  have H1 := hide h1
  have H2 := hide h2
  have Z1 := hide z1
  have Z2 := hide z2
  clear h1 h2 z1 z2
  go_enter Tryz.func94, Tryz.ntmps94
  go_wp2
  go_loopw [13] (fun i wr => ∃ j m : Nat, j ≤ n ∧ i = .int .i64 j ∧ wr = w.drewN m ∧ Hid (l.take j = k.take j)) (fun i _ => n - (intOf i).toNat)
  case atStart => exact ⟨0, 0, Nat.zero_le _, rfl, rfl, rfl⟩
  case round =>
    obtain ⟨j, m, hk, rfl, rfl, A⟩ := hrel
    by_cases hlt : j < n
    · have hl1 : j < l.length := by rw [unhide Z1]; exact hlt
      have hl2 : j < k.length := by rw [unhide Z2]; exact hlt
      obtain ⟨g1, g2⟩ := (unhide H1) j hlt
      obtain ⟨g3, g4⟩ := (unhide H2) j hlt
      have e1 : l.getD j (0, 0) = l[j] := by simp [hl1]
      have e2 : k.getD j (0, 0) = k[j] := by simp [hl2]
      rw [e1] at g1 g2
      rw [e2] at g3 g4
      have TS := hide (take_same hl1 hl2 (unhide A))
      have TU := hide (take_unlike hl1 hl2)
      obtain ⟨q, hq⟩ : ∃ q, l[j] = q := ⟨_, rfl⟩
      obtain ⟨r, hr⟩ : ∃ r, k[j] = r := ⟨_, rfl⟩
      rw [hq] at g1 g2
      rw [hr] at g3 g4
      rw [hq, hr] at TS TU
      obtain ⟨q1, q2⟩ := q
      obtain ⟨r1, r2⟩ := r
      simp only at g1 g2 g3 g4
      clear hq hr e1 e2 A
      by_cases he : q1 = r1
      · subst he
        by_cases hf : q2 = r2
        · subst hf
          have T := hide ((unhide TS) rfl)
          clear TS TU
          go_wp2
          go_quiet (fail)
          go_wp2
          go_roundw
          case rel => exact ⟨j + 1, m + nq, by omega, by go_num, rfl, T⟩
          case measure => simp [intOf]; omega
        · have U : Hid (decide (l = k) = false) := decide_eq_false ((unhide TU) (fun e => hf (by injection e)))
          clear TS TU
          go_wp2
          go_quiet (fail)
          go_wp2
          go_ret
          exact ⟨by rw [unhide U]; rfl, m + nq, by simp [World.drewN, Nat.add_assoc]⟩
      · have U : Hid (decide (l = k) = false) := decide_eq_false ((unhide TU) (fun e => he (by injection e)))
        clear TS TU
        go_wp2
        go_quiet (fail)
        go_wp2
        go_ret
        exact ⟨by rw [unhide U]; rfl, m + nq, by simp [World.drewN, Nat.add_assoc]⟩
    · have U : Hid (decide (l = k) = true) := by
        have h := unhide A
        rw [List.take_of_length_le (by rw [unhide Z1]; omega), List.take_of_length_le (by rw [unhide Z2]; omega)] at h
        exact decide_eq_true h
      clear A
      go_wp2
      go_ret
      exact ⟨by rw [unhide U]; rfl, m, rfl⟩

set_option maxHeartbeats 400000 in
theorem eqOps_lens (a b : Option Addr) (n m c d : Nat) (w : World) (h : n ≠ m) :
    Calls Tryz.prog 94 #[.slice a n c, .slice b m d] w fun e w' => e = .returned (.bool false) ∧ w = w' := by
  have g : ((n : Int) != (m : Int)) = true := by simp; omega
  clear h
  go_enter Tryz.func94, Tryz.ntmps94
  go_wp2
  go_ret
  exact ⟨rfl, rfl⟩

set_option maxHeartbeats 400000 in
theorem eqOps_none (a b : Option Addr) (c d : Nat) (w : World) :
    Calls Tryz.prog 94 #[.slice a 0 c, .slice b 0 d] w fun e w' => e = .returned (.bool true) ∧ w = w' := by
  go_enter Tryz.func94, Tryz.ntmps94
  go_wp2
  refine wp_loop_rounds 1 ?_
  rw [rounds_succ]
  go_wp2
  go_ret
  exact ⟨rfl, rfl⟩

theorem eqOps_is (a b : Option Addr) (n m c d : Nat) (l k : List (Int × Int)) (o : Bool) (w : World) (hn : n ≤ maxLen) (hA : OpsAt w a n l) (hB : OpsAt w b m k) (ho : decide (l = k) = o) :
    Calls Tryz.prog 94 #[.slice a n c, .slice b m d] w fun e w' => e = .returned (.bool o) ∧ Below w.heap.size w w' := by
  by_cases h : n = m
  · subst h
    by_cases h0 : n = 0
    · subst h0
      have e1 : l = [] := List.length_eq_zero_iff.1 hA.1
      have e2 : k = [] := List.length_eq_zero_iff.1 hB.1
      subst e1 e2
      rw [decide_eq_true rfl] at ho
      subst ho
      exact (eqOps_none a b c d w).mono fun e w' ⟨h1, h2⟩ => ⟨h1, h2 ▸ Below.refl _ _⟩
    · obtain ⟨b1, o1, rfl, h1⟩ := hA.2 (by omega)
      obtain ⟨b2, o2, rfl, h2⟩ := hB.2 (by omega)
      exact (eqOps_some b1 o1 b2 o2 n c d l k o w hn hA.1 hB.1 h1 h2 ho).mono fun e w' ⟨e1, q, e2⟩ => ⟨e1, by rw [e2]; exact below_dw w q⟩
  · have e : l ≠ k := fun e => h (by rw [← hA.1, ← hB.1, e])
    rw [decide_eq_false e] at ho
    subst ho
    exact (eqOps_lens a b n m c d w h).mono fun e w' ⟨h1, h2⟩ => ⟨h1, h2 ▸ Below.refl _ _⟩

/-! Ins and outs, one against one. -/
set_option maxRecDepth 10000 in
set_option maxHeartbeats 1600000 in
theorem sameOut_is (x y : OutD) (a b : Option Addr) (n c m d : Nat) (o : Bool) (w : World) (hn : n ≤ maxLen) (hA : OpsAt w a n x.2) (hB : OpsAt w b m y.2) (ho : decide (x = y) = o) :
    Calls Tryz.prog 97 #[.agg #[.int .i64 x.1, .slice a n c], .agg #[.int .i64 y.1, .slice b m d]] w fun e w' => e = .returned (.bool o) ∧ Below w.heap.size w w' := by
  obtain ⟨x1, k⟩ := x
  obtain ⟨y1, l⟩ := y
  simp only at hA hB ⊢
  have hb := bel_on (bel_new w (.cells #[.int .i64 x1, .slice a n c] 122)) (bel_new _ (.cells #[.int .i64 y1, .slice b m d] 122))
  have HB := hide hb
  by_cases h1 : x1 = y1
  · subst h1
    have C := hide (eqOps_is a b n m c d k l o _ hn (hA.later hb) (hB.later hb) (by rw [← ho]; simp))
    clear hA hB hb ho
    go_enter Tryz.func97, Tryz.ntmps97
    go_wp2_with fail
    refine (unhide C).mono ?_
    rintro e w2 ⟨rfl, hb2⟩
    have HB2 := hide (bel_on (unhide HB) hb2)
    clear hb2
    go_wp2
    go_ret
    exact ⟨rfl, unhide HB2⟩
  · have e : o = false := by rw [← ho]; exact decide_eq_false (fun e => h1 (by injection e))
    have g : (x1 == y1) = false := by simp [h1]
    subst e
    clear hA hB hb ho
    go_enter Tryz.func97, Tryz.ntmps97
    go_wp2
    go_ret
    exact ⟨rfl, unhide HB⟩

/-! Rows of ins and of outs. -/
end Go.Proofs.YtmomfkikogbdeaaGreatDoor

/- The contract of block.Same (its steps written by a program of ours: mkblksame.py). -/
namespace Go.Proofs.YtmomfkikogbdeaaGreatDoor
open Go.RowKit

theorem step_callS {P : Program} {ops : Array Oper} {o : Oper} {a : Act} {w : World} {K : Act → World → Prop} {Q : Exit → Act → World → Prop} {E : Prop}
    (hw : Region.wanted o (yielded ops a.tmps) = true) (f : FuncId) (vs : Array Value) (he : (execOp a.eval o).run P w = .ok (.enter f vs) w) {R : Ending → World → Prop} (hc : Calls P f vs w R) (h : ∀ e w', R e w' → ∃ v, e = .returned v ∧ K (a.put o.dst v) w') :
    if Region.wanted o (yielded ops a.tmps) = true then Oper.wp P o a w K Q else E := by
  rw [if_pos hw]
  unfold Oper.wp
  rw [he, Oper.upon_enter]
  refine hc.mono ?_
  intro e w' hr
  obtain ⟨v, rfl, hk⟩ := h e w' hr
  exact hk

end Go.Proofs.YtmomfkikogbdeaaGreatDoor
