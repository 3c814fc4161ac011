/- Contracts of what holds orders, outputs and coins against each other, whatever they are. -/
import Derived.Test.YtmomfkikogbdeaaGreatDoorTxCheckToRowLaws
import Derived.Test.YtmomfkikogbdeaaGreatDoorTxSameToBlkSameB
import Derived.RangeFuncNested
import Derived.RangeFuncBound
import Derived.RangeFuncCalls
import Derived.RangeFuncLeaves
import Derived.WalkKit
import Derived.OwnWalkIn
import Derived.OrdersIn
import Derived.OrdersHeld
import Derived.Deep.RegionHeld
import Derived.Test.YtmomfkikogbdeaaGreatDoorTxStateToBlkDisM
import Derived.Test.YtmomfkikogbdeaaGreatDoorBlkNamesToBlkReward
import Derived.Shelf.Abstract
import Derived.Shelf.RegionOpen
import Derived.TacticsInMore
import Derived.LoopNIn
import Derived.LoopIn
import Derived.RangeFuncWrites
namespace Go.Proofs.YtmomfkikogbdeaaGreatDoor
open Go.RowKit

set_option maxHeartbeats 1600000 in
set_option maxHeartbeats 400000 in
set_option maxHeartbeats 400000 in
set_option maxRecDepth 10000 in
set_option maxHeartbeats 1600000 in
/-- Are two rows of coins alike? -/
def sameL : List CoinD → List CoinD → Bool
  | [], [] => true
  | x :: r, y :: q => decide (x = y) && sameL r q
  | _, _ => false
theorem sameL_iff : ∀ (l k : List CoinD), sameL l k = true ↔ l = k
  | [], [] => by simp [sameL]
  | [], y :: q => by simp [sameL]
  | x :: r, [] => by simp [sameL]
  | x :: r, y :: q => by rw [sameL, Bool.and_eq_true, decide_eq_true_eq, sameL_iff r q, List.cons.injEq]
theorem sameL_no {l k : List CoinD} (h : l ≠ k) : sameL l k = false := by
  rw [← Bool.not_eq_true, sameL_iff]; exact h
theorem sameL_yes {l k : List CoinD} (h : l = k) : sameL l k = true := (sameL_iff l k).2 h

set_option maxHeartbeats 400000 in
theorem eqCoin_lens (a b : Option Addr) (n m c d : Nat) (v : Value) (w : World) (h : n ≠ m) :
    Calls Tryz.prog 67 #[.slice a n c, .slice b m d, v] w fun e w' => e = .returned (.bool false) ∧ w = w' := by
  have g : ((n : Int) != (m : Int)) = true := by simp; omega
  clear h
  go_enter Tryz.func67, Tryz.ntmps67
  go_wp2
  go_ret
  exact ⟨rfl, rfl⟩

set_option maxHeartbeats 400000 in
theorem eqCoin_none (a b : Option Addr) (c d : Nat) (v : Value) (w : World) :
    Calls Tryz.prog 67 #[.slice a 0 c, .slice b 0 d, v] w fun e w' => e = .returned (.bool true) ∧ w = w' := by
  go_enter Tryz.func67, Tryz.ntmps67
  go_wp2
  refine wp_loop_rounds 1 ?_
  rw [rounds_succ]
  go_wp2
  go_ret
  exact ⟨rfl, rfl⟩

set_option maxRecDepth 10000 in
set_option maxHeartbeats 3200000 in
theorem sameCoin_is (x y : CoinD) (a b : Option Addr) (n c m d : Nat) (o : Bool) (w : World) (hn : n ≤ maxLen) (hA : OpsAt w a n (ck x)) (hB : OpsAt w b m (ck y)) (ho : decide (x = y) = o) :
    Calls Tryz.prog 68 #[cnV x a n c, cnV y b m d] w fun e w' => e = .returned (.bool o) ∧ Below w.heap.size w w' := by
  obtain ⟨x1, x2, x3, k, x4, x5⟩ := x
  obtain ⟨y1, y2, y3, l, y4, y5⟩ := y
  unfold cnV
  simp only [cv, ck, ch, cr] at hA hB ⊢
  obtain ⟨X, hX⟩ : ∃ X, X = (w.alloc (.cells #[.int .i64 x1, .int .i64 x2, .int .i64 x3, .slice a n c, .int .i64 x4, .bool x5] 124)).alloc (.cells #[.int .i64 y1, .int .i64 y2, .int .i64 y3, .slice b m d, .int .i64 y4, .bool y5] 124) := ⟨_, rfl⟩
  have hb : Below w.heap.size w X := by rw [hX]; exact bel_on (bel_new _ _) (bel_new _ _)
  obtain ⟨n0, n1, n2, n3, n4, n5⟩ := six_new w (.int .i64 x1) (.int .i64 x2) (.int .i64 x3) (.slice a n c) (.int .i64 x4) (.bool x5) 124
  obtain ⟨m0, m1, m2, m3, m4, m5⟩ := six_new (w.alloc (.cells #[.int .i64 x1, .int .i64 x2, .int .i64 x3, .slice a n c, .int .i64 x4, .bool x5] 124)) (.int .i64 y1) (.int .i64 y2) (.int .i64 y3) (.slice b m d) (.int .i64 y4) (.bool y5) 124
  rw [show (w.alloc (.cells #[.int .i64 x1, .int .i64 x2, .int .i64 x3, .slice a n c, .int .i64 x4, .bool x5] 124)).heap.size = w.heap.size + 1 by simp, ← hX] at m0 m1 m2 m3 m4 m5
  have p4 : X.cell? ⟨w.heap.size, 4, none⟩ = some (.int .i64 x4) := by rw [hX]; exact cell_later (bel_new _ _) n4
  have p5 : X.cell? ⟨w.heap.size, 5, none⟩ = some (.bool x5) := by rw [hX]; exact cell_later (bel_new _ _) n5
  have HB := hide hb
  obtain ⟨q, hq⟩ : ∃ q, decide ((x3, k) = (y3, l)) = q := ⟨_, rfl⟩
  have C := hide (sameOut_is (x3, k) (y3, l) a b n c m d q X hn (hA.later hb) (hB.later hb) hq)
  simp only at C
  have HO : Hid (o = (decide (x1 = y1 ∧ x2 = y2) && (q && (decide (x4 = y4) && decide (x5 = y5))))) := by
    show _ = _
    rw [← ho, ← hq, Bool.eq_iff_iff]
    simp only [Prod.mk.injEq, Bool.and_eq_true, decide_eq_true_eq]
    constructor
    · rintro ⟨h1, h2, h3, h4, h5, h6⟩; exact ⟨⟨h1, h2⟩, ⟨h3, h4⟩, h5, h6⟩
    · rintro ⟨⟨h1, h2⟩, ⟨h3, h4⟩, h5, h6⟩; exact ⟨h1, h2, h3, h4, h5, h6⟩
  clear hA hB hb ho hq m0 m1 m2 m3 n0 n1 n2 n3 n4 n5
  by_cases e1 : x1 = y1 ∧ x2 = y2
  · obtain ⟨rfl, rfl⟩ := e1
    cases q with
    | false =>
      have R : Hid (o = false) := by show _ = _; rw [unhide HO]; simp
      clear HO
      go_enter Tryz.func68, Tryz.ntmps68
      go_wp2_with fail
      rw [← hX]
      clear hX
      refine (unhide C).mono ?_
      rintro e w2 ⟨rfl, hb2⟩
      have HB2 := hide (bel_on (unhide HB) hb2)
      clear hb2
      go_wp2
      go_ret
      exact ⟨by rw [unhide R]; rfl, unhide HB2⟩
    | true =>
      by_cases e4 : x4 = y4
      · subst e4
        by_cases e5 : x5 = y5
        · subst e5
          have R : Hid (o = true) := by show _ = _; rw [unhide HO]; simp
          clear HO
          go_enter Tryz.func68, Tryz.ntmps68
          go_wp2_with fail
          rw [← hX]
          clear hX
          refine (unhide C).mono ?_
          rintro e w2 ⟨rfl, hb2⟩
          have r4 := cell_later hb2 p4
          have r5 := cell_later hb2 p5
          have s4 := cell_later hb2 m4
          have s5 := cell_later hb2 m5
          have HB2 := hide (bel_on (unhide HB) hb2)
          clear hb2
          go_wp2
          go_ret
          exact ⟨by rw [unhide R]; first | rfl | (cases x5 <;> rfl) | (simp; rfl), unhide HB2⟩
        · have R : Hid (o = false) := by show _ = _; rw [unhide HO]; simp [e5]
          have g5 : (x5 == y5) = false := by simp [e5]
          clear HO
          go_enter Tryz.func68, Tryz.ntmps68
          go_wp2_with fail
          rw [← hX]
          clear hX
          refine (unhide C).mono ?_
          rintro e w2 ⟨rfl, hb2⟩
          have r4 := cell_later hb2 p4
          have r5 := cell_later hb2 p5
          have s4 := cell_later hb2 m4
          have s5 := cell_later hb2 m5
          have HB2 := hide (bel_on (unhide HB) hb2)
          clear hb2
          go_wp2
          go_ret
          exact ⟨by rw [unhide R]; rfl, unhide HB2⟩
      · have R : Hid (o = false) := by show _ = _; rw [unhide HO]; simp [e4]
        have g4 : (x4 == y4) = false := by simp [e4]
        clear HO
        go_enter Tryz.func68, Tryz.ntmps68
        go_wp2_with fail
        rw [← hX]
        clear hX
        refine (unhide C).mono ?_
        rintro e w2 ⟨rfl, hb2⟩
        have r4 := cell_later hb2 p4
        have s4 := cell_later hb2 m4
        have HB2 := hide (bel_on (unhide HB) hb2)
        clear hb2
        go_wp2
        go_ret
        exact ⟨by rw [unhide R]; rfl, unhide HB2⟩
  · have R : Hid (o = false) := by show _ = _; rw [unhide HO, decide_eq_false e1, Bool.false_and]
    have HBX : Hid (Below w.heap.size w X) := HB
    rw [hX] at HBX
    clear HO C
    by_cases e2 : x1 = y1
    · have e3 : ¬ x2 = y2 := fun q => e1 ⟨e2, q⟩
      subst e2
      clear e1
      go_enter Tryz.func68, Tryz.ntmps68
      go_wp2
      go_ret
      exact ⟨by rw [unhide R]; rfl, unhide HBX⟩
    · clear e1
      go_enter Tryz.func68, Tryz.ntmps68
      go_wp2
      go_ret
      exact ⟨by rw [unhide R]; rfl, unhide HBX⟩

set_option maxRecDepth 10000 in
set_option maxHeartbeats 3200000 in
theorem eq_sameCoin_some (b1 o1 b2 o2 n c d : Nat) (l k : List CoinD) (o : Bool) (w : World) (hn : n ≤ maxLen) (z1 : l.length = n) (z2 : k.length = n)
    (h1 : ∀ i (h : i < l.length), CoinAt w b1 (o1 + i * 6) l[i]) (h2 : ∀ i (h : i < k.length), CoinAt w b2 (o2 + i * 6) k[i]) (ho : sameL l k = o) :
    Calls Tryz.prog 67 #[.slice (some ⟨b1, o1, none⟩) n c, .slice (some ⟨b2, o2, none⟩) n d, .func (.func 68) #[] #[]] w fun e w' => e = .returned (.bool o) ∧ Below w.heap.size w w' := by
  subst ho
  unfold maxLen at hn
  have H1 := hide h1
  have H2 := hide h2
  have Z1 := hide z1
  have Z2 := hide z2
  clear h1 h2 z1 z2
  go_enter Tryz.func67, Tryz.ntmps67
  go_wp2
  go_loopw [17] (fun i wr => ∃ j : Nat, j ≤ n ∧ i = .int .i64 j ∧ Below w.heap.size w wr ∧ Hid (l.take j = k.take j)) (fun i _ => n - (intOf i).toNat)
  case atStart => exact ⟨0, Nat.zero_le _, rfl, Below.refl _ _, rfl⟩
  case round =>
    obtain ⟨j, hk, rfl, hb, A⟩ := hrel
    have HB := hide hb
    by_cases hlt : j < n
    · have hl1 : j < l.length := by rw [unhide Z1]; exact hlt
      have hl2 : j < k.length := by rw [unhide Z2]; exact hlt
      have g := CoinAt.kept _ _ _ _ _ hb ((unhide H1) j hl1)
      have f := CoinAt.kept _ _ _ _ _ hb ((unhide H2) j hl2)
      have TS := hide (take_same hl1 hl2 (unhide A))
      have TU := hide (take_unlike hl1 hl2)
      obtain ⟨q, hq⟩ : ∃ q, l[j] = q := ⟨_, rfl⟩
      obtain ⟨r, hr⟩ : ∃ r, k[j] = r := ⟨_, rfl⟩
      rw [hq] at g
      rw [hr] at f
      rw [hq, hr] at TS TU
      obtain ⟨qa, qn, qc, g0, g1, g2, g3, g4, g5, gO, gS⟩ := g.val
      obtain ⟨ra, rn, rc, f0, f1, f2, f3, f4, f5, fO, fS⟩ := f.val
      have hb2 := bel_on (bel_new wr (.cells #[.int .i64 q.1, .int .i64 q.2.1, .int .i64 (cv q), .slice qa qn qc, .int .i64 (ch q), .bool (cr q)] 124)) (bel_new _ (.cells #[.int .i64 r.1, .int .i64 r.2.1, .int .i64 (cv r), .slice ra rn rc, .int .i64 (ch r), .bool (cr r)] 124))
      obtain ⟨o', ho'⟩ : ∃ o', decide (q = r) = o' := ⟨_, rfl⟩
      have C := sameCoin_is q r qa ra qn qc rn rc o' _ gS.len (gO.later hb2) (fO.later hb2) ho'
      unfold cnV at C
      have HC := hide C
      have HB2 := hide (bel_on (unhide HB) hb2)
      have hrl : b2 < wr.heap.size := World.block_lt_of_cell? _ _ f0
      have hkI : (j : Int) < (n : Int) := by omega
      clear hb g f hb2 C gO fO gS fS hq hr A
      cases o' with
      | true =>
        have T := hide ((unhide TS) (of_decide_eq_true ho'))
        clear TS TU ho'
        go_wp2_with fail
        refine (unhide HC).mono ?_
        rintro e w2 ⟨rfl, hb3⟩
        have HB3 := hide (bel_on (unhide HB2) hb3)
        clear hb3
        go_wp2
        go_roundw
        case rel => exact ⟨j + 1, by omega, by go_num, unhide HB3, T⟩
        case measure => simp [intOf]; omega
      | false =>
        have U : Hid (sameL l k = false) := sameL_no ((unhide TU) (of_decide_eq_false ho'))
        clear TS TU ho'
        go_wp2_with fail
        refine (unhide HC).mono ?_
        rintro e w2 ⟨rfl, hb3⟩
        have HB3 := hide (bel_on (unhide HB2) hb3)
        clear hb3
        go_wp2
        go_ret
        exact ⟨by rw [unhide U]; rfl, unhide HB3⟩
    · have U : Hid (sameL l k = true) := by
        have h := unhide A
        rw [List.take_of_length_le (by rw [unhide Z1]; omega), List.take_of_length_le (by rw [unhide Z2]; omega)] at h
        exact sameL_yes h
      clear A hb
      go_wp2
      go_ret
      exact ⟨by rw [unhide U]; rfl, unhide HB⟩

theorem eq_sameCoin_any (a b : Option Addr) (n m c d : Nat) (l k : List CoinD) (o : Bool) (w : World) (hn : n ≤ maxLen) (hA : CoinsAt w a n l) (hB : CoinsAt w b m k) (ho : sameL l k = o) :
    Calls Tryz.prog 67 #[.slice a n c, .slice b m d, .func (.func 68) #[] #[]] w fun e w' => e = .returned (.bool o) ∧ Below w.heap.size w w' := by
  by_cases h : n = m
  · subst h
    by_cases h0 : n = 0
    · subst h0
      have e1 : l = [] := List.length_eq_zero_iff.1 hA.1
      have e2 : k = [] := List.length_eq_zero_iff.1 hB.1
      subst e1 e2
      rw [sameL_yes rfl] at ho
      subst ho
      exact (eqCoin_none a b c d _ w).mono fun e w' ⟨h1, h2⟩ => ⟨h1, h2 ▸ Below.refl _ _⟩
    · obtain ⟨b1, o1, rfl, _, h1⟩ := hA.2 (by omega)
      obtain ⟨b2, o2, rfl, _, h2⟩ := hB.2 (by omega)
      exact eq_sameCoin_some b1 o1 b2 o2 n c d l k o w hn hA.1 hB.1 h1 h2 ho
  · have e : l ≠ k := fun e => h (by rw [← hA.1, ← hB.1, e])
    rw [sameL_no e] at ho
    subst ho
    exact (eqCoin_lens a b n m c d _ w h).mono fun e w' ⟨h1, h2⟩ => ⟨h1, h2 ▸ Below.refl _ _⟩

set_option maxHeartbeats 400000 in
theorem uSame_is (a b : Option Addr) (n m c d : Nat) (l k : List CoinD) (o : Bool) (w : World) (hn : n ≤ maxLen) (hA : CoinsAt w a n l) (hB : CoinsAt w b m k) (ho : sameL l k = o) :
    Calls Tryz.prog 19 #[.slice a n c, .slice b m d] w fun e w' => e = .returned (.bool o) ∧ Below w.heap.size w w' := by
  have C := hide (eq_sameCoin_any a b n m c d l k o w hn hA hB ho)
  clear hA hB ho
  go_enter Tryz.func19, Tryz.ntmps19
  go_wp2_with fail
  refine (unhide C).mono ?_
  rintro e w2 ⟨rfl, hb2⟩
  have HB2 := hide hb2
  clear hb2
  go_wp2
  go_ret
  exact ⟨rfl, unhide HB2⟩

end Go.Proofs.YtmomfkikogbdeaaGreatDoor

/- A region that draws its order, walked in a round of a loop over an iterator by what holds of it outside. Nothing of the program. -/
namespace Go.Proofs.YtmomfkikogbdeaaGreatDoor
open Go.RowKit

theorem rows_round {P : Program} {row : String} {args : Array Value} {w : World} {R R' : Value → World → Prop} {l n : Nat} (h : Rows P row args w R) (hr : ∀ v w', R v w' → R' v w') : RowsIn (Fence.wide.inRound l) n P row args w R' :=
  fun c cs _ => let ⟨v, w', r, s⟩ := h c cs; ⟨v, w', hr _ _ r, stepsIn_wide.2 s⟩

theorem wpOp_round {l n : Nat} {P : Program} {ops : Array Oper} {Q : Exit → Act → World → Prop} {i : Nat} {K K' : Act → World → Prop} {a : Act} {w : World}
    (hd : ∀ (i : Nat) (o : Oper), ops[i]? = some o → ∀ c, o.op ≠ .defer c) (hL : ¬ LetsOut Q) (hK : ∀ a w, K a w → K' a w) (h : wpOp P ops Q i K a w) : wpOpIn (Fence.wide.inRound l) n P ops Q i K' a w := by
  unfold wpOp at h
  unfold wpOpIn
  cases ho : ops[i]? with
  | none => simp only [ho] at h ⊢; exact hK _ _ h
  | some o =>
    simp only [ho] at h ⊢
    split at h
    · rename_i hw
      rw [if_pos hw]
      rcases h with h | h
      · refine ⟨fun _ _ => trivial, ?_⟩
        rw [Oper.semAt_plain _ _ _ (hd i o ho)]
        unfold Oper.wp at h
        generalize (execOp a.eval o).run P w = res at *
        cases res with
        | ok x w' =>
          cases x with
          | value v => exact hK _ _ h
          | skip => exact hK _ _ h
          | defer d => exact hK _ _ h
          | enter f args =>
            refine ⟨fun q => (by cases q), ?_⟩
            have h2 : Calls P f args w' _ := h
            refine CallsIn.inRound l (callsIn_wide.2 (h2.mono fun e w'' he => ?_))
            cases e with
            | returned v => exact hK _ _ he
            | panicked c => exact he
            | outgrown => exact he
          | row row args => exact ⟨fun q => (by cases q), rows_round h (fun v w'' q => hK _ _ q)⟩
          | _ => exact False.elim h
        | halt x w' =>
          cases x with
          | panic v => exact h
          | _ => exact False.elim h
      · exact absurd h.2 hL
    · rename_i hw
      rw [if_neg hw]
      exact ⟨fun _ _ => trivial, hK _ _ h⟩

theorem wpAny_round {l n : Nat} {P : Program} {md : Region.Mode} {ops : Array Oper} {Q : Exit → Act → World → Prop} (hd : ∀ (i : Nat) (o : Oper), ops[i]? = some o → ∀ c, o.op ≠ .defer c) (hL : ¬ LetsOut Q) :
    ∀ (fuel : Nat) (listed : Array Bool) (a : Act) (w : World), wpAny P md ops Q fuel listed a w → wpAnyIn (Fence.wide.inRound l) n P md ops Q fuel listed a w
  | 0, _, _, _, h => h
  | fuel + 1, _, _, _, h => ⟨h.1, fun i hi => wpOp_round hd hL (fun a' w' h' => wpAny_round hd hL fuel _ a' w' h') (h.2 i hi)⟩

def noDefer (ops : Array Oper) : Bool := ops.all fun o => match o.op with | .defer _ => false | _ => true
theorem noDefer_spec {ops : Array Oper} (h : noDefer ops = true) : ∀ (i : Nat) (o : Oper), ops[i]? = some o → ∀ c, o.op ≠ .defer c := by
  intro i o ho c e
  unfold noDefer at h
  rw [Array.all_eq_true] at h
  obtain ⟨hi, rfl⟩ := Array.getElem?_eq_some_iff.1 ho
  have := h i hi
  rw [e] at this
  exact Bool.noConfusion this

/-- A region that draws, in a round: whatever is shown of it outside, its ways out being none of memory's end. -/
theorem region_round {l n : Nat} {P : Program} {id : Nat} {ops : Array Oper} {Q : Exit → Act → World → Prop} {S : World → Prop} {a : Act} {w : World} (hm : P.follows .mixedOrders = true) (hd : noDefer ops = true) (hS : S w.drew)
    (h : S w.drew → wpAnyH P .any ops (fun e a w => e ≠ .outgrown ∧ Q e a w) S ops.size (Array.replicate ops.size false) a w.drew) : (Code.region id ops true).wpIn (Fence.wide.inRound l) n P Q a w := by
  have h1 := wpAny_round (l := l) (n := n) (noDefer_spec hd) (fun ⟨_, _, q⟩ => q.1 rfl) _ _ _ _ (wpAny_of_held _ _ _ _ (h hS))
  have h2 : (Code.region id ops true).wpIn (Fence.wide.inRound l) n P (fun e a w => e ≠ .outgrown ∧ Q e a w) a w := wpIn_region_any hm h1
  intro b k cs hro hb hr
  obtain ⟨e, a', w', q, r⟩ := h2 b k cs hro hb hr
  exact ⟨e, a', w', q.2, r⟩

end Go.Proofs.YtmomfkikogbdeaaGreatDoor

/- Undoing turn by turn, as a list; what a round of a loop over an iterator keeps; the contract of slices.Backward at ints. -/
namespace Go.Proofs.YtmomfkikogbdeaaGreatDoor
open Go.RowKit Go.Shelf

attribute [local go_sem] Oper.semAt_some

/-! The list of turns, from the last down. -/
def dstep (T : List TxD) (N : List Int) (S : List (List CoinD)) (i : Nat) (C : List CoinD) : Int × List CoinD :=
  rvD C (T.getD ((i + 1) % T.length) zeroT) (N.getD ((i + 1) % T.length) 0) (S.getD ((i + 1) % T.length) [])
def disL (T : List TxD) (N : List Int) (S : List (List CoinD)) : List Nat → List CoinD → Int × List CoinD
  | [], C => (0, C)
  | i :: r, C => if (dstep T N S i C).1 ≠ 0 then ((dstep T N S i C).1, []) else disL T N S r (dstep T N S i C).2
def downto : Nat → List Nat
  | 0 => []
  | q + 1 => q :: downto q
theorem disGo_list (T : List TxD) (N : List Int) (S : List (List CoinD)) : ∀ (q : Nat) (C : List CoinD), disGo T N S q C = disL T N S (downto q) C
  | 0, C => rfl
  | q + 1, C => by
    rw [disGo, downto, disL, ← disGo_list T N S q]
    rfl
theorem disL_snoc {T : List TxD} {N : List Int} {S : List (List CoinD)} {i : Nat} {y : Int} {M : List CoinD} : ∀ {l : List Nat} {C C1 : List CoinD}, disL T N S l C = (0, C1) → dstep T N S i C1 = (y, M) → disL T N S (l ++ [i]) C = if y ≠ 0 then (y, []) else (0, M)
  | [], C, C1, h, hs => by
    rw [disL] at h
    injection h with _ h
    subst h
    rw [List.nil_append, disL, hs]
    rfl
  | j :: l, C, C1, h, hs => by
    rw [disL] at h
    rw [List.cons_append, disL]
    split at h
    · rename_i q; injection h with h _; exact absurd h q
    · rename_i q
      rw [if_neg q]
      exact disL_snoc h hs
theorem disL_err {T : List TxD} {N : List Int} {S : List (List CoinD)} {y : Int} {M : List CoinD} {r : List Nat} : ∀ {l : List Nat} {C : List CoinD}, disL T N S l C = (y, M) → y ≠ 0 → disL T N S (l ++ r) C = (y, [])
  | [], C, h, hy => by
    rw [disL] at h
    injection h with h _
    exact absurd h.symm hy
  | j :: l, C, h, hy => by
    rw [disL] at h
    rw [List.cons_append, disL]
    split at h
    · rename_i q
      rw [if_pos q]
      injection h with h _
      rw [h]
    · rename_i q
      rw [if_neg q]
      exact disL_err h hy

/-- The first k of m - 1, .., 0. -/
def dnL (m : Nat) : (k : Nat) → k ≤ m → List { i : Nat // i < m }
  | 0, _ => []
  | k + 1, h => dnL m k (Nat.le_of_succ_le h) ++ [⟨m - 1 - k, by omega⟩]
theorem dnL_len (m : Nat) : ∀ (k : Nat) (h : k ≤ m), (dnL m k h).length = k
  | 0, _ => rfl
  | k + 1, h => by rw [dnL, List.length_append, dnL_len m k]; rfl
theorem dnL_down (m : Nat) : ∀ (k : Nat) (h : k ≤ m), downto m = (dnL m k h).map (·.1) ++ downto (m - k)
  | 0, _ => rfl
  | k + 1, h => by
    rw [dnL, List.map_append, List.append_assoc, dnL_down m k (Nat.le_of_succ_le h)]
    congr 1
    obtain ⟨q, hq⟩ : ∃ q, m - k = q + 1 := ⟨m - k - 1, by omega⟩
    rw [hq, downto, show m - (k + 1) = q by omega]
    show _ = (m - 1 - k) :: downto q
    congr 1
    omega
theorem dnL_all (m : Nat) : downto m = (dnL m m (Nat.le_refl m)).map (·.1) := by
  have := dnL_down m m (Nat.le_refl m)
  rwa [Nat.sub_self, downto, List.append_nil] at this

/-! What a round keeps: all that lay ahead of the loop, but two boxes. -/
structure KpD (n1 b c : Nat) (W W' : World) : Prop where
  os : W'.os = W.os
  tape : W'.tape = W.tape
  output : W'.output = W.output
  size : W.heap.size ≤ W'.heap.size
  block : ∀ k, k < n1 → k ≠ b → k ≠ c → W'.heap[k]? = W.heap[k]?
theorem KpD.refl (n1 b c : Nat) (W : World) : KpD n1 b c W W := ⟨rfl, rfl, rfl, Nat.le_refl _, fun _ _ _ _ => rfl⟩
theorem KpD.trans {n1 b c : Nat} {A B C : World} (h : KpD n1 b c A B) (k : KpD n1 b c B C) : KpD n1 b c A C :=
  ⟨k.os.trans h.os, k.tape.trans h.tape, k.output.trans h.output, Nat.le_trans h.size k.size, fun i h1 h2 h3 => (k.block i h1 h2 h3).trans (h.block i h1 h2 h3)⟩
theorem KpD.put {n1 b c : Nat} (W : World) (l : Nat) (o : Obj) (h : n1 ≤ l) : KpD n1 b c W (W.putObj l o) :=
  ⟨rfl, rfl, rfl, by simp, fun k hk _ _ => World.putObj_heap_other (by omega)⟩
theorem KpD.set {n1 b c : Nat} {W W' : World} (h : KpD n1 b c W W') {p : Addr} (hp : p.block = b ∨ p.block = c) (u : Value) : KpD n1 b c W (W'.setCell p u) :=
  ⟨h.os, h.tape, h.output, by simpa [World.setCell] using h.size, fun k h1 h2 h3 => (Below.heap_setCell W' p u k (fun e => by subst e; rcases hp with q | q; exact h2 q; exact h3 q)).trans (h.block k h1 h2 h3)⟩
theorem KpD.on {n1 b c : Nat} {W W1 W2 : World} (h : KpD n1 b c W W1) (hb : Below W1.heap.size W1 W2) (hn : n1 ≤ W1.heap.size) : KpD n1 b c W W2 :=
  ⟨hb.os.trans h.os, hb.tape.trans h.tape, hb.output.trans h.output, Nat.le_trans h.size hb.size, fun k h1 h2 h3 => (hb.block k (by omega)).trans (h.block k h1 h2 h3)⟩
theorem KpD.grown {n1 b c : Nat} {W W1 W2 : World} (h : KpD n1 b c W W1) {row : Option Nat} (g : W1.grownBy W2 row) (hr : ∀ r, row = some r → n1 ≤ r) (hn : n1 ≤ W1.heap.size) : KpD n1 b c W W2 :=
  ⟨g.os.trans h.os, g.tape.trans h.tape, g.output.trans h.output, Nat.le_trans h.size g.size, fun k h1 h2 h3 => (g.block k (by omega) (fun e => by have := hr k e.symm; omega)).trans (h.block k h1 h2 h3)⟩
theorem KpD.below {n1 b c : Nat} {w W0 W : World} (h : KpD n1 b c W0 W) (hb : Below w.heap.size w W0) (hn : w.heap.size ≤ n1) (h1 : w.heap.size ≤ b) (h2 : w.heap.size ≤ c) : Below w.heap.size w W :=
  ⟨h.os.trans hb.os, h.tape.trans hb.tape, h.output.trans hb.output, Nat.le_trans hb.size h.size, fun k hk => (h.block k (by omega) (by omega) (by omega)).trans (hb.block k hk)⟩
theorem KpD.cell {n1 b c : Nat} {W W' : World} (h : KpD n1 b c W W') {k o : Nat} {v : Value} (hk : k < n1) (h2 : k ≠ b) (h3 : k ≠ c) (hv : W.cell? ⟨k, o, none⟩ = some v) : W'.cell? ⟨k, o, none⟩ = some v :=
  (World.cell?_of_block (a := ⟨k, o, none⟩) (h.block k hk h2 h3)).trans hv

/-! What holds of cells is kept where cells are. -/
def CellsKept (W W' : World) : Prop := W.heap.size ≤ W'.heap.size ∧ ∀ b o v, W.cell? ⟨b, o, none⟩ = some v → W'.cell? ⟨b, o, none⟩ = some v
theorem ops_cells {W W' : World} (hk : CellsKept W W') {a : Option Addr} {n : Nat} {l : List (Int × Int)} (h : OpsAt W a n l) : OpsAt W' a n l := by
  refine ⟨h.1, fun h0 => ?_⟩
  obtain ⟨b, off, rfl, hc⟩ := h.2 h0
  exact ⟨b, off, rfl, fun i hi => ⟨hk.2 _ _ _ (hc i hi).1, hk.2 _ _ _ (hc i hi).2⟩⟩
theorem coins_cells {W W' : World} (hk : CellsKept W W') {a : Option Addr} {n : Nat} {L : List CoinD} (h : CoinsAt W a n L) : CoinsAt W' a n L := by
  refine ⟨h.1, fun h0 => ?_⟩
  obtain ⟨b, off, rfl, hl, hc⟩ := h.2 h0
  refine ⟨b, off, rfl, Nat.lt_of_lt_of_le hl hk.1, fun i hi => ?_⟩
  obtain ⟨c0, c1, c2, ⟨la, ln, lc, c3, h5, h6⟩, c4, c5⟩ := hc i hi
  exact ⟨hk.2 _ _ _ c0, hk.2 _ _ _ c1, hk.2 _ _ _ c2, ⟨la, ln, lc, hk.2 _ _ _ c3, ops_cells hk h5, h6⟩, hk.2 _ _ _ c4, hk.2 _ _ _ c5⟩
theorem kept_grown {W W' : World} {row : Option Nat} (g : W.grownBy W' row) (hr : ∀ r, row = some r → ∃ o : Obj, W.heap[r]? = some o ∧ o.isCells = false) : CellsKept W W' :=
  ⟨g.size, fun _ _ _ h => cell_kept h g hr⟩
/-- A box of one cell: no row of coins or orders lies there. -/
def Box1 (W : World) (k : Nat) : Prop := ∃ v t fr, W.heap[k]? = some (.cells #[v] t fr)
theorem Box1.two {W : World} {k : Nat} (h : Box1 W k) {o : Nat} {v : Value} (h2 : W.cell? ⟨k, o + 1, none⟩ = some v) : False := by
  obtain ⟨x, t, fr, hx⟩ := h
  rw [cell_of_row W k (o + 1) #[x] t fr hx] at h2
  simp at h2
theorem ops_box {W W' : World} {S : Nat → Prop} (hk : ∀ k, k < W.heap.size → ¬ S k → W'.heap[k]? = W.heap[k]?) (hB : ∀ k, S k → Box1 W k) {a : Option Addr} {n : Nat} {l : List (Int × Int)} (h : OpsAt W a n l) : OpsAt W' a n l := by
  refine ⟨h.1, fun h0 => ?_⟩
  obtain ⟨b, off, rfl, hc⟩ := h.2 h0
  refine ⟨b, off, rfl, fun i hi => ?_⟩
  obtain ⟨c0, c1⟩ := hc i hi
  have e := hk b (World.block_lt_of_cell? _ _ c0) (fun q => (hB b q).two c1)
  exact ⟨(World.cell?_of_block (a := ⟨b, _, none⟩) e).trans c0, (World.cell?_of_block (a := ⟨b, _, none⟩) e).trans c1⟩
theorem coins_box {W W' : World} {S : Nat → Prop} (hs : W.heap.size ≤ W'.heap.size) (hk : ∀ k, k < W.heap.size → ¬ S k → W'.heap[k]? = W.heap[k]?) (hB : ∀ k, S k → Box1 W k) {a : Option Addr} {n : Nat} {L : List CoinD} (h : CoinsAt W a n L) : CoinsAt W' a n L := by
  refine ⟨h.1, fun h0 => ?_⟩
  obtain ⟨b, off, rfl, hl, hc⟩ := h.2 h0
  refine ⟨b, off, rfl, Nat.lt_of_lt_of_le hl hs, fun i hi => ?_⟩
  obtain ⟨c0, c1, c2, ⟨la, ln, lc, c3, h5, h6⟩, c4, c5⟩ := hc i hi
  have e := hk b hl (fun q => (hB b q).two c1)
  have g := fun (o : Nat) => World.cell?_of_block (a := ⟨b, o, none⟩) e
  exact ⟨(g _).trans c0, (g _).trans c1, (g _).trans c2, ⟨la, ln, lc, (g _).trans c3, ops_box hk hB h5, h6⟩, (g _).trans c4, (g _).trans c5⟩

/-! slices.Backward at ints. -/
set_option maxHeartbeats 1000000 in
theorem backward_in (a : Option Addr) (len cap : Nat) (w : World) :
    Calls Tryz.prog 136 #[.slice a len cap] w fun e w' => e = .returned (.func (.func 197) #[] #[.pointer (some ⟨w.heap.size, 0, none⟩)]) ∧ w' = w.alloc (.cells #[.slice a len cap] 25) := by
  go_enter Tryz.func136, Tryz.ntmps136
  go_wp2
  go_ret
  exact ⟨rfl, rfl⟩

abbrev encT (m : Nat) (x : { i : Nat // i < m }) : Array Value := #[Value.int .i64 (x.1 : Int), Value.int .i64 (((x.1 + 1) % m : Nat) : Int)]

set_option maxRecDepth 100000 in
set_option maxHeartbeats 2000000 in
theorem backward1_in (F : Fence) (n : Nat) (h8 : F.fn 197) (hro : F.round = none) (hn : 1 ≤ n) (l Bs n1 bb bc tb m cap : Nat) (hm : m ≤ 4) (hb : tb < n1) (hb2 : tb ≠ bb) (hb3 : tb ≠ bc) (hBl : Bs < n1) (hB2 : Bs ≠ bb) (hB3 : Bs ≠ bc) (J Jx : List { i : Nat // i < m } → World → Prop)
    (hY : ∀ pre x W, J pre W → pre.length < m → YieldAt F (n - 1) Tryz.prog l (encT m x) W fun e W' =>
      (e = .returned (.bool true) ∧ J (pre ++ [x]) W' ∧ KpD n1 bb bc W W') ∨ (e = .returned (.bool false) ∧ Jx (pre ++ [x]) W'))
    (W : World) (hBs : W.cell? ⟨Bs, 0, none⟩ = some (.slice (some ⟨tb, 0, none⟩) m cap)) (hc : ∀ j, j < m → W.cell? ⟨tb, j, none⟩ = some (.int .i64 (((j + 1) % m : Nat) : Int))) (h0 : J [] W) :
    CallsIn F n Tryz.prog 197 #[.func (.yield l) #[] #[], .pointer (some ⟨Bs, 0, none⟩)] W fun e W' => (∃ v, e = .returned v) ∧
      ((∃ ys, ys = dnL m m (Nat.le_refl m) ∧ J ys W') ∨ (∃ pre, (∃ k, ∃ h : k ≤ m, pre = dnL m k h) ∧ Jx pre W')) := by
  have hm0 : (m : Int) ≤ 4 := by omega
  refine callsIn_of_wp Tryz.func197 rfl h8 ?_ hro
  simp only [Tryz.ntmps197, List.size_toArray, List.length_cons, List.length_nil, Nat.reduceAdd, Nat.reduceSub, Array.replicate_succ, Array.replicate_zero, List.push_toArray, List.append_toArray, List.nil_append, List.cons_append]
  gi_wp2
  gi_loopw [3] (fun i wr => ∃ (k : Nat) (h : k ≤ m), i = .int .i64 ((m : Int) - k - 1) ∧ J (dnL m k h) wr ∧ KpD n1 bb bc W wr)
    (fun i _ => (intOf i + 1).toNat)
  case atStart => exact ⟨0, Nat.zero_le _, by simp, h0, KpD.refl _ _ _ _⟩
  case round =>
    obtain ⟨k, hk, rfl, hJs, hnx⟩ := hrel
    by_cases hlt : k < m
    · obtain ⟨j, hj, hjm⟩ : ∃ j, j = m - 1 - k ∧ j < m := ⟨_, rfl, by omega⟩
      obtain ⟨fn, tmps, assign, body, hy, hR⟩ := hY _ ⟨j, hjm⟩ wr hJs (by rw [dnL_len]; exact hlt)
      dsimp only [encT] at hy
      have hcx := hnx.cell hb hb2 hb3 (hc j hjm)
      have hbx := hnx.cell hBl hB2 hB3 hBs
      have e1 : (m : Int) - k - 1 = (j : Int) := by omega
      have e2 : (m : Int) - ((k + 1 : Nat) : Int) - 1 = (j : Int) - 1 := by omega
      have HJ : Hid (j = m - 1 - k) := hj
      obtain ⟨tv, htv⟩ : ∃ tv : Nat, (j + 1) % m = tv := ⟨_, rfl⟩
      rw [htv] at hy hcx
      clear hj htv
      rw [e1]
      have hj0 : (0 : Int) ≤ (j : Int) := by omega
      have hj1 : (j : Int) < (m : Int) := by omega
      clear hc hBs
      gi_wp2
      refine hR.mono ?_
      rintro e W3 (⟨rfl, hJ3, hk3⟩ | ⟨rfl, hJx3⟩)
      · gi_wp2
        go_roundw
        case rel =>
          refine ⟨k + 1, hlt, ?_, ?_, hnx.trans hk3⟩
          · rw [e2]
          · rw [dnL]
            obtain rfl := unhide HJ
            exact hJ3
        case measure => simp [intOf]
      · gi_wp2
        refine bodyPost_ret (results_none rfl _ _ _) rfl ?_
        refine ⟨⟨_, rfl⟩, .inr ⟨_, ⟨k + 1, hlt, ?_⟩, hJx3⟩⟩
        rw [dnL]
        obtain rfl := unhide HJ
        rfl
    · obtain rfl : k = m := by omega
      have e1 : (k : Int) - k - 1 = -1 := by omega
      rw [e1]
      clear hc hBs
      gi_wp2
      go_end0
      exact ⟨⟨_, rfl⟩, .inl ⟨_, rfl, hJs⟩⟩

theorem backward_stops (F : Fence) (n : Nat) (h8 : F.fn 197) (hro : F.round = none) (hn : 1 ≤ n) (Bs n1 bb bc tb m cap : Nat) (hm : m ≤ 4) (w : World) (hw : w.heap.size = n1) (hb : tb < n1) (hb2 : tb ≠ bb) (hb3 : tb ≠ bc) (hBl : Bs < n1) (hB2 : Bs ≠ bb) (hB3 : Bs ≠ bc)
    (hBs : w.cell? ⟨Bs, 0, none⟩ = some (.slice (some ⟨tb, 0, none⟩) m cap)) (hc : ∀ j, j < m → w.cell? ⟨tb, j, none⟩ = some (.int .i64 (((j + 1) % m : Nat) : Int))) :
    SeqStopsK F n Tryz.prog 197 #[.pointer (some ⟨Bs, 0, none⟩)] (encT m) (KpD n1 bb bc) (fun ys => ys = dnL m m (Nat.le_refl m)) (fun pre => ∃ k, ∃ h : k ≤ m, pre = dnL m k h) m w := fun l J Jx W hW _ _ hY h0 => by
  subst hw
  exact backward1_in F n h8 hro hn l Bs w.heap.size bb bc tb m cap hm hb hb2 hb3 hBl hB2 hB3 J Jx hY W (cell_later hW hBs) (fun j hj => cell_later hW (hc j hj)) h0

end Go.Proofs.YtmomfkikogbdeaaGreatDoor
