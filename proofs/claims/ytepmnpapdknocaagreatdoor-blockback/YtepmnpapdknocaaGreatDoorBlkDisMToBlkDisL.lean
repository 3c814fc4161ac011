/- Undoing a block, as a plain function; it undoes what Connect did; no more is there than ahead, and the reward. Nothing of the program. -/
import Derived.Test.YtepmnpapdknocaaGreatDoorBlkConMToLockFlat
import Derived.Test.YtepmnpapdknocaaGreatDoorBlkTextMToCoinBackS
import Derived.RangeFuncNested
import Derived.RangeFuncBound
import Derived.RangeFuncCalls
import Derived.RangeFuncLeaves
import Derived.WalkKit
import Derived.OwnWalkIn
import Derived.OrdersIn
import Derived.OrdersHeld
import Derived.Deep.RegionHeld
import Derived.Test.YtepmnpapdknocaaGreatDoorBlkNamesToBlkTurns
import Derived.Shelf.Abstract
import Derived.Shelf.RegionOpen
import Derived.TacticsInMore
import Derived.LoopNIn
import Derived.LoopIn
import Derived.RangeFuncWrites
namespace Go.Proofs.YtepmnpapdknocaaGreatDoor
open Go.RowKit

theorem ap_sum {L M S : List CoinD} {t : TxD} {name h : Int} (e : apD L t name h = (0, M, S)) : sumC M = sumC L - sumC S + sumO t.2.2 ∧ 0 ≤ sumC S := by
  obtain ⟨h1, M2, h2, h3, h4, h5⟩ := apD_zero e
  obtain ⟨hR, hT, _, _, _⟩ := ckApply_zero h1
  obtain ⟨s1, T, s2, s3, s4, s5, s6, s7, s8⟩ := spendGo_mem h _ _ _ _ _ hR.srt h2
  rw [List.nil_append] at s2
  subst s2
  have hg := giveGo_sum name h _ _ _ _ _ s1 h4
  refine ⟨by omega, sumC_nonneg S fun c hc => ?_⟩
  have := ck1_zero (hR.one c ((s5 c).2 (.inr hc)))
  omega
theorem ap_right {L M S : List CoinD} {t : TxD} {name h : Int} (e : apD L t name h = (0, M, S)) : RightC L ∧ RightC M ∧ chkTx t = 0 := by
  obtain ⟨h1, M2, h2, h3, h4, h5⟩ := apD_zero e
  obtain ⟨hR, hT, _, _, _⟩ := ckApply_zero h1
  exact ⟨hR, (ckCoins_zero M).1 h5, hT⟩

/-- Undoing, from the q-th turn down. -/
def disGo (T : List TxD) (N : List Int) (S : List (List CoinD)) : Nat → List CoinD → Int × List CoinD
  | 0, C => (0, C)
  | q + 1, C =>
    if (rvD C (T.getD ((q + 1) % T.length) zeroT) (N.getD ((q + 1) % T.length) 0) (S.getD ((q + 1) % T.length) [])).1 ≠ 0 then ((rvD C (T.getD ((q + 1) % T.length) zeroT) (N.getD ((q + 1) % T.length) 0) (S.getD ((q + 1) % T.length) [])).1, [])
    else disGo T N S q (rvD C (T.getD ((q + 1) % T.length) zeroT) (N.getD ((q + 1) % T.length) 0) (S.getD ((q + 1) % T.length) [])).2
theorem disGo_at {T : List TxD} {N : List Int} {S : List (List CoinD)} {q i : Nat} {C : List CoinD} (hi : (q + 1) % T.length = i) {t : TxD} (ht : T.getD i zeroT = t) {nm : Int} (hn : N.getD i 0 = nm) {s : List CoinD} (hs : S.getD i [] = s) {y : Int} {M : List CoinD} (ha : rvD C t nm s = (y, M)) :
    disGo T N S (q + 1) C = if y ≠ 0 then (y, []) else disGo T N S q M := by
  rw [disGo, hi, ht, hn, hs, ha]

theorem turn_ne {m j k : Nat} (hj : j < k) (hk : k < m) : (j + 1) % m ≠ (k + 1) % m := by
  rw [Nat.mod_eq_of_lt (show j + 1 < m by omega)]
  by_cases e : k + 1 = m
  · rw [e, Nat.mod_self]; omega
  · rw [Nat.mod_eq_of_lt (show k + 1 < m by omega)]; omega
theorem getD_set_self {α : Type} (l : List α) (i : Nat) (x d : α) (h : i < l.length) : (l.set i x).getD i d = x := by simp [List.getD, h]
theorem getD_set_ne {α : Type} (l : List α) {i j : Nat} (x d : α) (h : i ≠ j) : (l.set i x).getD j d = l.getD j d := by simp [List.getD, List.getElem?_set_ne h]

/-- One turn that went well. -/
theorem conGo_step {h r : Int} {T : List TxD} {N : List Int} {q k : Nat} {C M : List CoinD} {S S' : List (List CoinD)} (e : conGo h r T N (q + 1) k C S = (0, M, S')) :
    ¬ ((k + 1) % T.length = 0 ∧ leftD r T S T.length < 0) ∧ ∃ C1 s, apD C (T.getD ((k + 1) % T.length) zeroT) (N.getD ((k + 1) % T.length) 0) h = (0, C1, s) ∧ conGo h r T N q (k + 1) C1 (S.set ((k + 1) % T.length) s) = (0, M, S') := by
  obtain ⟨⟨y, C1, s⟩, ha⟩ : ∃ a, apD C (T.getD ((k + 1) % T.length) zeroT) (N.getD ((k + 1) % T.length) 0) h = a := ⟨_, rfl⟩
  rw [conGo_at rfl rfl rfl ha] at e
  split at e
  · injection e with e1 _; exact absurd e1 (by decide)
  · rename_i hc
    split at e
    · rename_i hy; injection e with e1 _; exact absurd e1 hy
    · rename_i hy
      have hy : y = 0 := Decidable.not_not.1 hy
      subst hy
      exact ⟨hc, C1, s, ha, e⟩

theorem con_back {h r : Int} {T : List TxD} {N : List Int} : ∀ (q k : Nat) (C M : List CoinD) (S S' : List (List CoinD)), conGo h r T N q k C S = (0, M, S') → q + k = T.length → S.length = T.length →
    S'.length = T.length ∧ (∀ j, j < k → S'.getD ((j + 1) % T.length) [] = S.getD ((j + 1) % T.length) []) ∧ disGo T N S' T.length M = disGo T N S' k C
  | 0, k, C, M, S, S', e, hk, hS => by
    rw [conGo] at e
    injection e with _ e
    injection e with e1 e2
    subst e1 e2
    have : k = T.length := by omega
    subst this
    exact ⟨hS, fun _ _ => rfl, rfl⟩
  | q + 1, k, C, M, S, S', e, hk, hS => by
    obtain ⟨_, C1, s, ha, e⟩ := conGo_step e
    obtain ⟨i1, i2, i3⟩ := con_back q (k + 1) C1 M _ S' e (by omega) (by simpa using hS)
    have hm : (k + 1) % T.length < S.length := by rw [hS]; exact Nat.mod_lt _ (by omega)
    refine ⟨i1, fun j hj => ?_, ?_⟩
    · rw [i2 j (by omega)]
      exact getD_set_ne S s [] (fun e => turn_ne hj (show k < T.length by omega) e.symm)
    · rw [i3]
      have hs : S'.getD ((k + 1) % T.length) [] = s := by
        rw [i2 k (Nat.lt_succ_self k)]
        exact getD_set_self S _ s [] hm
      rw [disGo_at rfl rfl rfl hs (back_ok ha), if_neg (by decide)]
theorem con_right {h r : Int} {T : List TxD} {N : List Int} : ∀ (q k : Nat) (C M : List CoinD) (S S' : List (List CoinD)), conGo h r T N q k C S = (0, M, S') → RightC C → RightC M
  | 0, k, C, M, S, S', e, hC => by
    rw [conGo] at e
    injection e with _ e
    injection e with e1 e2
    subst e1
    exact hC
  | q + 1, k, C, M, S, S', e, hC => by
    obtain ⟨_, C1, s, ha, e⟩ := conGo_step e
    exact con_right q (k + 1) C1 M _ S' e (ap_right ha).2.1

/-- No more is there than ahead, and the reward. -/
theorem con_sum {h r : Int} {T : List TxD} {N : List Int} {C M : List CoinD} {S' : List (List CoinD)} (h0 : 0 < T.length) (h4 : T.length ≤ 4) (e : conGo h r T N T.length 0 C (List.replicate T.length []) = (0, M, S')) : sumC M ≤ sumC C + r := by
  match T, h0, h4, e with
  | [t0], _, _, e =>
    obtain ⟨c0, C1, s0, a0, e⟩ := conGo_step (q := 0) e
    rw [conGo] at e
    injection e with _ e
    injection e with e _
    subst e
    have i0 : (0 + 1) % [t0].length = 0 := by simp
    rw [i0] at a0
    have a0 : apD C t0 (N.getD 0 0) h = (0, C1, s0) := a0
    obtain ⟨b0, d0⟩ := ap_sum a0
    have c0 : ¬ (leftD r [t0] [[]] 1 < 0) := fun q => c0 ⟨i0, q⟩
    simp only [leftD, List.take_succ_cons, List.take_zero, List.map_cons, List.map_nil, List.flatten_cons, List.flatten_nil, List.append_nil, sumC_nil] at c0
    omega
  | [t0, t1], _, _, e =>
    obtain ⟨_, C1, s1, a1, e⟩ := conGo_step (q := 1) e
    obtain ⟨c0, C2, s0, a0, e⟩ := conGo_step (q := 0) e
    rw [conGo] at e
    injection e with _ e
    injection e with e _
    subst e
    have a1 : apD C t1 (N.getD 1 0) h = (0, C1, s1) := a1
    have i0 : (0 + 1 + 1) % [t0, t1].length = 0 := by simp
    rw [i0] at a0
    have a0 : apD C1 t0 (N.getD 0 0) h = (0, C2, s0) := a0
    obtain ⟨b1, d1⟩ := ap_sum a1
    obtain ⟨b0, d0⟩ := ap_sum a0
    have c0 : ¬ (leftD r [t0, t1] [[], s1] 2 < 0) := fun q => c0 ⟨i0, q⟩
    simp only [leftD, List.take_succ_cons, List.take_zero, List.map_cons, List.map_nil, List.flatten_cons, List.flatten_nil, List.append_nil, List.nil_append, sumO_append] at c0
    omega
  | [t0, t1, t2], _, _, e =>
    obtain ⟨_, C1, s1, a1, e⟩ := conGo_step (q := 2) e
    obtain ⟨_, C2, s2, a2, e⟩ := conGo_step (q := 1) e
    obtain ⟨c0, C3, s0, a0, e⟩ := conGo_step (q := 0) e
    rw [conGo] at e
    injection e with _ e
    injection e with e _
    subst e
    have a1 : apD C t1 (N.getD 1 0) h = (0, C1, s1) := a1
    have a2 : apD C1 t2 (N.getD 2 0) h = (0, C2, s2) := a2
    have i0 : (0 + 1 + 1 + 1) % [t0, t1, t2].length = 0 := by simp
    rw [i0] at a0
    have a0 : apD C2 t0 (N.getD 0 0) h = (0, C3, s0) := a0
    obtain ⟨b1, d1⟩ := ap_sum a1
    obtain ⟨b2, d2⟩ := ap_sum a2
    obtain ⟨b0, d0⟩ := ap_sum a0
    have c0 : ¬ (leftD r [t0, t1, t2] [[], s1, s2] 3 < 0) := fun q => c0 ⟨i0, q⟩
    simp only [leftD, List.take_succ_cons, List.take_zero, List.map_cons, List.map_nil, List.flatten_cons, List.flatten_nil, List.append_nil, List.nil_append, sumO_append, sumC_append] at c0
    omega
  | [t0, t1, t2, t3], _, _, e =>
    obtain ⟨_, C1, s1, a1, e⟩ := conGo_step (q := 3) e
    obtain ⟨_, C2, s2, a2, e⟩ := conGo_step (q := 2) e
    obtain ⟨_, C3, s3, a3, e⟩ := conGo_step (q := 1) e
    obtain ⟨c0, C4, s0, a0, e⟩ := conGo_step (q := 0) e
    rw [conGo] at e
    injection e with _ e
    injection e with e _
    subst e
    have a1 : apD C t1 (N.getD 1 0) h = (0, C1, s1) := a1
    have a2 : apD C1 t2 (N.getD 2 0) h = (0, C2, s2) := a2
    have a3 : apD C2 t3 (N.getD 3 0) h = (0, C3, s3) := a3
    have i0 : (0 + 1 + 1 + 1 + 1) % [t0, t1, t2, t3].length = 0 := by simp
    rw [i0] at a0
    have a0 : apD C3 t0 (N.getD 0 0) h = (0, C4, s0) := a0
    obtain ⟨b1, d1⟩ := ap_sum a1
    obtain ⟨b2, d2⟩ := ap_sum a2
    obtain ⟨b3, d3⟩ := ap_sum a3
    obtain ⟨b0, d0⟩ := ap_sum a0
    have c0 : ¬ (leftD r [t0, t1, t2, t3] [[], s1, s2, s3] 4 < 0) := fun q => c0 ⟨i0, q⟩
    simp only [leftD, List.take_succ_cons, List.take_zero, List.map_cons, List.map_nil, List.flatten_cons, List.flatten_nil, List.append_nil, List.nil_append, sumO_append, sumC_append] at c0
    omega

/-- What is wrong, what comes. -/
def disD (K : List ByteArray) (C : List CoinD) (b : BlkD) (S : List (List CoinD)) : Int × List CoinD :=
  if (nfD K C b).2 ≠ 0 then ((nfD K C b).2, []) else if S.length ≠ b.2.2.2.2.length then (4, []) else disGo b.2.2.2.2 (nfD K C b).1 S b.2.2.2.2.length C

theorem chkB_few {b : BlkD} (h : chkB b = 0) : 0 < b.2.2.2.2.length ∧ b.2.2.2.2.length ≤ 4 ∧ 1 ≤ b.2.1 ∧ b.2.1 ≤ 1000 := by
  unfold chkB at h
  split at h
  · cases h
  rename_i h1
  split at h
  · cases h
  split at h
  · cases h
  unfold headOk at h1
  simp only [Bool.not_eq_false, Bool.and_eq_true, decide_eq_true_eq] at h1
  omega
theorem nfD_zero {K : List ByteArray} {C : List CoinD} {b : BlkD} (h : (nfD K C b).2 = 0) : RightC C ∧ chkB b = 0 ∧ ∃ X n N, nmsB K b = (X, n, N, 0) ∧ (nfD K C b).1 = N := by
  unfold nfD at h ⊢
  split at h
  · rename_i q; exact absurd h q
  rename_i q
  obtain ⟨⟨X, n, N, x⟩, hx⟩ : ∃ r, nmsB K b = r := ⟨_, rfl⟩
  rw [hx] at h
  have h : x = 0 := h
  subst h
  rw [if_neg q, hx]
  exact ⟨(ckCoins_zero C).1 (Decidable.not_not.1 q), (nms_zero hx).1, X, n, N, rfl, rfl⟩
theorem nfD_of {K : List ByteArray} {C : List CoinD} {b : BlkD} {X : List ByteArray} {n : Int} {N : List Int} (hC : RightC C) (h : nmsB K b = (X, n, N, 0)) : nfD K C b = (N, 0) := by
  unfold nfD
  rw [(ckCoins_zero C).2 hC, if_neg (by decide), h]

/-- What was connected: it is undone, and no more is there than ahead, and the reward. -/
theorem con_all {K : List ByteArray} {C M : List CoinD} {b : BlkD} {S : List (List CoinD)} (e : conD K C b = (0, M, S)) :
    RightC C ∧ RightC M ∧ chkB b = 0 ∧ S.length = b.2.2.2.2.length ∧ disD K M b S = (0, C) ∧ sumC M ≤ sumC C + (rwD b.2.1).1 ∧ (rwD b.2.1).2 = 0 := by
  unfold conD at e
  split at e
  · rename_i q
    injection e with e _
    exact absurd e q
  rename_i q
  obtain ⟨hC, hb, X, n, N, hN, hN2⟩ := nfD_zero (Decidable.not_not.1 q)
  rw [hN2] at e
  obtain ⟨h0, h4, h1, h2⟩ := chkB_few hb
  have hM := con_right _ _ _ _ _ _ e hC
  obtain ⟨b1, b2, b3⟩ := con_back _ _ _ _ _ _ e (by omega) (by simp)
  refine ⟨hC, hM, hb, b1, ?_, con_sum h0 h4 e, ?_⟩
  · unfold disD
    rw [nfD_of hM hN, if_neg (fun q => q rfl), if_neg (fun q => q b1)]
    exact b3
  · unfold rwD
    rw [if_pos (by simp only [Bool.and_eq_true, decide_eq_true_eq]; omega)]

end Go.Proofs.YtepmnpapdknocaaGreatDoor

/- A region that draws its order, walked in a round of a loop over an iterator by what holds of it outside. Nothing of the program. -/
namespace Go.Proofs.YtepmnpapdknocaaGreatDoor
open Go.RowKit

theorem rows_round {P : Program} {row : String} {args : Array Value} {w : World} {R R' : Value → World → Prop} {l n : Nat} (h : Rows P row args w R) (hr : ∀ v w', R v w' → R' v w') : RowsIn (Fence.wide.inRound l) n P row args w R' :=
  fun c cs _ => let ⟨v, w', r, s⟩ := h c cs; ⟨v, w', hr _ _ r, stepsIn_wide.2 s⟩

theorem wpOp_round {l n : Nat} {P : Program} {ops : Array Oper} {Q : Exit → Act → World → Prop} {i : Nat} {K K' : Act → World → Prop} {a : Act} {w : World}
    (hd : ∀ (i : Nat) (o : Oper), ops[i]? = some o → ∀ c, o.op ≠ .defer c) (hL : ¬ LetsOut Q) (hK : ∀ a w, K a w → K' a w) (h : wpOp P ops Q i K a w) : wpOpIn (Fence.wide.inRound l) n P ops Q i K' a w := by
  unfold wpOp at h
  unfold wpOpIn
  cases ho : ops[i]? with
  | none => simp only [ho] at h ⊢; exact hK _ _ h
  | some o =>
    simp only [ho] at h ⊢
    split at h
    · rename_i hw
      rw [if_pos hw]
      rcases h with h | h
      · refine ⟨fun _ _ => trivial, ?_⟩
        rw [Oper.semAt_plain _ _ _ (hd i o ho)]
        unfold Oper.wp at h
        generalize (execOp a.eval o).run P w = res at *
        cases res with
        | ok x w' =>
          cases x with
          | value v => exact hK _ _ h
          | skip => exact hK _ _ h
          | defer d => exact hK _ _ h
          | enter f args =>
            refine ⟨fun q => (by cases q), ?_⟩
            have h2 : Calls P f args w' _ := h
            refine CallsIn.inRound l (callsIn_wide.2 (h2.mono fun e w'' he => ?_))
            cases e with
            | returned v => exact hK _ _ he
            | panicked c => exact he
            | outgrown => exact he
          | row row args => exact ⟨fun q => (by cases q), rows_round h (fun v w'' q => hK _ _ q)⟩
          | _ => exact False.elim h
        | halt x w' =>
          cases x with
          | panic v => exact h
          | _ => exact False.elim h
      · exact absurd h.2 hL
    · rename_i hw
      rw [if_neg hw]
      exact ⟨fun _ _ => trivial, hK _ _ h⟩

theorem wpAny_round {l n : Nat} {P : Program} {md : Region.Mode} {ops : Array Oper} {Q : Exit → Act → World → Prop} (hd : ∀ (i : Nat) (o : Oper), ops[i]? = some o → ∀ c, o.op ≠ .defer c) (hL : ¬ LetsOut Q) :
    ∀ (fuel : Nat) (listed : Array Bool) (a : Act) (w : World), wpAny P md ops Q fuel listed a w → wpAnyIn (Fence.wide.inRound l) n P md ops Q fuel listed a w
  | 0, _, _, _, h => h
  | fuel + 1, _, _, _, h => ⟨h.1, fun i hi => wpOp_round hd hL (fun a' w' h' => wpAny_round hd hL fuel _ a' w' h') (h.2 i hi)⟩

def noDefer (ops : Array Oper) : Bool := ops.all fun o => match o.op with | .defer _ => false | _ => true
theorem noDefer_spec {ops : Array Oper} (h : noDefer ops = true) : ∀ (i : Nat) (o : Oper), ops[i]? = some o → ∀ c, o.op ≠ .defer c := by
  intro i o ho c e
  unfold noDefer at h
  rw [Array.all_eq_true] at h
  obtain ⟨hi, rfl⟩ := Array.getElem?_eq_some_iff.1 ho
  have := h i hi
  rw [e] at this
  exact Bool.noConfusion this

/-- A region that draws, in a round: whatever is shown of it outside, its ways out being none of memory's end. -/
theorem region_round {l n : Nat} {P : Program} {id : Nat} {ops : Array Oper} {Q : Exit → Act → World → Prop} {S : World → Prop} {a : Act} {w : World} (hm : P.follows .mixedOrders = true) (hd : noDefer ops = true) (hS : S w.drew)
    (h : S w.drew → wpAnyH P .any ops (fun e a w => e ≠ .outgrown ∧ Q e a w) S ops.size (Array.replicate ops.size false) a w.drew) : (Code.region id ops true).wpIn (Fence.wide.inRound l) n P Q a w := by
  have h1 := wpAny_round (l := l) (n := n) (noDefer_spec hd) (fun ⟨_, _, q⟩ => q.1 rfl) _ _ _ _ (wpAny_of_held _ _ _ _ (h hS))
  have h2 : (Code.region id ops true).wpIn (Fence.wide.inRound l) n P (fun e a w => e ≠ .outgrown ∧ Q e a w) a w := wpIn_region_any hm h1
  intro b k cs hro hb hr
  obtain ⟨e, a', w', q, r⟩ := h2 b k cs hro hb hr
  exact ⟨e, a', w', q.2, r⟩

end Go.Proofs.YtepmnpapdknocaaGreatDoor

/- Undoing turn by turn, as a list; what a round of a loop over an iterator keeps; the contract of slices.Backward at ints. -/
namespace Go.Proofs.YtepmnpapdknocaaGreatDoor
open Go.RowKit Go.Shelf

attribute [local go_sem] Oper.semAt_some

/-! The list of turns, from the last down. -/
def dstep (T : List TxD) (N : List Int) (S : List (List CoinD)) (i : Nat) (C : List CoinD) : Int × List CoinD :=
  rvD C (T.getD ((i + 1) % T.length) zeroT) (N.getD ((i + 1) % T.length) 0) (S.getD ((i + 1) % T.length) [])
def disL (T : List TxD) (N : List Int) (S : List (List CoinD)) : List Nat → List CoinD → Int × List CoinD
  | [], C => (0, C)
  | i :: r, C => if (dstep T N S i C).1 ≠ 0 then ((dstep T N S i C).1, []) else disL T N S r (dstep T N S i C).2
def downto : Nat → List Nat
  | 0 => []
  | q + 1 => q :: downto q
theorem disGo_list (T : List TxD) (N : List Int) (S : List (List CoinD)) : ∀ (q : Nat) (C : List CoinD), disGo T N S q C = disL T N S (downto q) C
  | 0, C => rfl
  | q + 1, C => by
    rw [disGo, downto, disL, ← disGo_list T N S q]
    rfl
theorem disL_snoc {T : List TxD} {N : List Int} {S : List (List CoinD)} {i : Nat} {y : Int} {M : List CoinD} : ∀ {l : List Nat} {C C1 : List CoinD}, disL T N S l C = (0, C1) → dstep T N S i C1 = (y, M) → disL T N S (l ++ [i]) C = if y ≠ 0 then (y, []) else (0, M)
  | [], C, C1, h, hs => by
    rw [disL] at h
    injection h with _ h
    subst h
    rw [List.nil_append, disL, hs]
    rfl
  | j :: l, C, C1, h, hs => by
    rw [disL] at h
    rw [List.cons_append, disL]
    split at h
    · rename_i q; injection h with h _; exact absurd h q
    · rename_i q
      rw [if_neg q]
      exact disL_snoc h hs
theorem disL_err {T : List TxD} {N : List Int} {S : List (List CoinD)} {y : Int} {M : List CoinD} {r : List Nat} : ∀ {l : List Nat} {C : List CoinD}, disL T N S l C = (y, M) → y ≠ 0 → disL T N S (l ++ r) C = (y, [])
  | [], C, h, hy => by
    rw [disL] at h
    injection h with h _
    exact absurd h.symm hy
  | j :: l, C, h, hy => by
    rw [disL] at h
    rw [List.cons_append, disL]
    split at h
    · rename_i q
      rw [if_pos q]
      injection h with h _
      rw [h]
    · rename_i q
      rw [if_neg q]
      exact disL_err h hy

/-- The first k of m - 1, .., 0. -/
def dnL (m : Nat) : (k : Nat) → k ≤ m → List { i : Nat // i < m }
  | 0, _ => []
  | k + 1, h => dnL m k (Nat.le_of_succ_le h) ++ [⟨m - 1 - k, by omega⟩]
theorem dnL_len (m : Nat) : ∀ (k : Nat) (h : k ≤ m), (dnL m k h).length = k
  | 0, _ => rfl
  | k + 1, h => by rw [dnL, List.length_append, dnL_len m k]; rfl
theorem dnL_down (m : Nat) : ∀ (k : Nat) (h : k ≤ m), downto m = (dnL m k h).map (·.1) ++ downto (m - k)
  | 0, _ => rfl
  | k + 1, h => by
    rw [dnL, List.map_append, List.append_assoc, dnL_down m k (Nat.le_of_succ_le h)]
    congr 1
    obtain ⟨q, hq⟩ : ∃ q, m - k = q + 1 := ⟨m - k - 1, by omega⟩
    rw [hq, downto, show m - (k + 1) = q by omega]
    show _ = (m - 1 - k) :: downto q
    congr 1
    omega
theorem dnL_all (m : Nat) : downto m = (dnL m m (Nat.le_refl m)).map (·.1) := by
  have := dnL_down m m (Nat.le_refl m)
  rwa [Nat.sub_self, downto, List.append_nil] at this

/-! What a round keeps: all that lay ahead of the loop, but two boxes. -/
structure KpD (n1 b c : Nat) (W W' : World) : Prop where
  os : W'.os = W.os
  tape : W'.tape = W.tape
  output : W'.output = W.output
  size : W.heap.size ≤ W'.heap.size
  block : ∀ k, k < n1 → k ≠ b → k ≠ c → W'.heap[k]? = W.heap[k]?
theorem KpD.refl (n1 b c : Nat) (W : World) : KpD n1 b c W W := ⟨rfl, rfl, rfl, Nat.le_refl _, fun _ _ _ _ => rfl⟩
theorem KpD.trans {n1 b c : Nat} {A B C : World} (h : KpD n1 b c A B) (k : KpD n1 b c B C) : KpD n1 b c A C :=
  ⟨k.os.trans h.os, k.tape.trans h.tape, k.output.trans h.output, Nat.le_trans h.size k.size, fun i h1 h2 h3 => (k.block i h1 h2 h3).trans (h.block i h1 h2 h3)⟩
theorem KpD.put {n1 b c : Nat} (W : World) (l : Nat) (o : Obj) (h : n1 ≤ l) : KpD n1 b c W (W.putObj l o) :=
  ⟨rfl, rfl, rfl, by simp, fun k hk _ _ => World.putObj_heap_other (by omega)⟩
theorem KpD.set {n1 b c : Nat} {W W' : World} (h : KpD n1 b c W W') {p : Addr} (hp : p.block = b ∨ p.block = c) (u : Value) : KpD n1 b c W (W'.setCell p u) :=
  ⟨h.os, h.tape, h.output, by simpa [World.setCell] using h.size, fun k h1 h2 h3 => (Below.heap_setCell W' p u k (fun e => by subst e; rcases hp with q | q; exact h2 q; exact h3 q)).trans (h.block k h1 h2 h3)⟩
theorem KpD.on {n1 b c : Nat} {W W1 W2 : World} (h : KpD n1 b c W W1) (hb : Below W1.heap.size W1 W2) (hn : n1 ≤ W1.heap.size) : KpD n1 b c W W2 :=
  ⟨hb.os.trans h.os, hb.tape.trans h.tape, hb.output.trans h.output, Nat.le_trans h.size hb.size, fun k h1 h2 h3 => (hb.block k (by omega)).trans (h.block k h1 h2 h3)⟩
theorem KpD.grown {n1 b c : Nat} {W W1 W2 : World} (h : KpD n1 b c W W1) {row : Option Nat} (g : W1.grownBy W2 row) (hr : ∀ r, row = some r → n1 ≤ r) (hn : n1 ≤ W1.heap.size) : KpD n1 b c W W2 :=
  ⟨g.os.trans h.os, g.tape.trans h.tape, g.output.trans h.output, Nat.le_trans h.size g.size, fun k h1 h2 h3 => (g.block k (by omega) (fun e => by have := hr k e.symm; omega)).trans (h.block k h1 h2 h3)⟩
theorem KpD.below {n1 b c : Nat} {w W0 W : World} (h : KpD n1 b c W0 W) (hb : Below w.heap.size w W0) (hn : w.heap.size ≤ n1) (h1 : w.heap.size ≤ b) (h2 : w.heap.size ≤ c) : Below w.heap.size w W :=
  ⟨h.os.trans hb.os, h.tape.trans hb.tape, h.output.trans hb.output, Nat.le_trans hb.size h.size, fun k hk => (h.block k (by omega) (by omega) (by omega)).trans (hb.block k hk)⟩
theorem KpD.cell {n1 b c : Nat} {W W' : World} (h : KpD n1 b c W W') {k o : Nat} {v : Value} (hk : k < n1) (h2 : k ≠ b) (h3 : k ≠ c) (hv : W.cell? ⟨k, o, none⟩ = some v) : W'.cell? ⟨k, o, none⟩ = some v :=
  (World.cell?_of_block (a := ⟨k, o, none⟩) (h.block k hk h2 h3)).trans hv

/-! What holds of cells is kept where cells are. -/
def CellsKept (W W' : World) : Prop := W.heap.size ≤ W'.heap.size ∧ ∀ b o v, W.cell? ⟨b, o, none⟩ = some v → W'.cell? ⟨b, o, none⟩ = some v
theorem ops_cells {W W' : World} (hk : CellsKept W W') {a : Option Addr} {n : Nat} {l : List (Int × Int)} (h : OpsAt W a n l) : OpsAt W' a n l := by
  refine ⟨h.1, fun h0 => ?_⟩
  obtain ⟨b, off, rfl, hc⟩ := h.2 h0
  exact ⟨b, off, rfl, fun i hi => ⟨hk.2 _ _ _ (hc i hi).1, hk.2 _ _ _ (hc i hi).2⟩⟩
theorem coins_cells {W W' : World} (hk : CellsKept W W') {a : Option Addr} {n : Nat} {L : List CoinD} (h : CoinsAt W a n L) : CoinsAt W' a n L := by
  refine ⟨h.1, fun h0 => ?_⟩
  obtain ⟨b, off, rfl, hl, hc⟩ := h.2 h0
  refine ⟨b, off, rfl, Nat.lt_of_lt_of_le hl hk.1, fun i hi => ?_⟩
  obtain ⟨c0, c1, c2, ⟨la, ln, lc, c3, h5, h6⟩, c4, c5⟩ := hc i hi
  exact ⟨hk.2 _ _ _ c0, hk.2 _ _ _ c1, hk.2 _ _ _ c2, ⟨la, ln, lc, hk.2 _ _ _ c3, ops_cells hk h5, h6⟩, hk.2 _ _ _ c4, hk.2 _ _ _ c5⟩
theorem kept_grown {W W' : World} {row : Option Nat} (g : W.grownBy W' row) (hr : ∀ r, row = some r → ∃ o : Obj, W.heap[r]? = some o ∧ o.isCells = false) : CellsKept W W' :=
  ⟨g.size, fun _ _ _ h => cell_kept h g hr⟩
/-- A box of one cell: no row of coins or orders lies there. -/
def Box1 (W : World) (k : Nat) : Prop := ∃ v t fr, W.heap[k]? = some (.cells #[v] t fr)
theorem Box1.two {W : World} {k : Nat} (h : Box1 W k) {o : Nat} {v : Value} (h2 : W.cell? ⟨k, o + 1, none⟩ = some v) : False := by
  obtain ⟨x, t, fr, hx⟩ := h
  rw [cell_of_row W k (o + 1) #[x] t fr hx] at h2
  simp at h2
theorem ops_box {W W' : World} {S : Nat → Prop} (hk : ∀ k, k < W.heap.size → ¬ S k → W'.heap[k]? = W.heap[k]?) (hB : ∀ k, S k → Box1 W k) {a : Option Addr} {n : Nat} {l : List (Int × Int)} (h : OpsAt W a n l) : OpsAt W' a n l := by
  refine ⟨h.1, fun h0 => ?_⟩
  obtain ⟨b, off, rfl, hc⟩ := h.2 h0
  refine ⟨b, off, rfl, fun i hi => ?_⟩
  obtain ⟨c0, c1⟩ := hc i hi
  have e := hk b (World.block_lt_of_cell? _ _ c0) (fun q => (hB b q).two c1)
  exact ⟨(World.cell?_of_block (a := ⟨b, _, none⟩) e).trans c0, (World.cell?_of_block (a := ⟨b, _, none⟩) e).trans c1⟩
theorem coins_box {W W' : World} {S : Nat → Prop} (hs : W.heap.size ≤ W'.heap.size) (hk : ∀ k, k < W.heap.size → ¬ S k → W'.heap[k]? = W.heap[k]?) (hB : ∀ k, S k → Box1 W k) {a : Option Addr} {n : Nat} {L : List CoinD} (h : CoinsAt W a n L) : CoinsAt W' a n L := by
  refine ⟨h.1, fun h0 => ?_⟩
  obtain ⟨b, off, rfl, hl, hc⟩ := h.2 h0
  refine ⟨b, off, rfl, Nat.lt_of_lt_of_le hl hs, fun i hi => ?_⟩
  obtain ⟨c0, c1, c2, ⟨la, ln, lc, c3, h5, h6⟩, c4, c5⟩ := hc i hi
  have e := hk b hl (fun q => (hB b q).two c1)
  have g := fun (o : Nat) => World.cell?_of_block (a := ⟨b, o, none⟩) e
  exact ⟨(g _).trans c0, (g _).trans c1, (g _).trans c2, ⟨la, ln, lc, (g _).trans c3, ops_box hk hB h5, h6⟩, (g _).trans c4, (g _).trans c5⟩

/-! slices.Backward at ints. -/
set_option maxHeartbeats 1000000 in
theorem backward_in (a : Option Addr) (len cap : Nat) (w : World) :
    Calls Tryz.prog 31 #[.slice a len cap] w fun e w' => e = .returned (.func (.func 74) #[] #[.pointer (some ⟨w.heap.size, 0, none⟩)]) ∧ w' = w.alloc (.cells #[.slice a len cap] 30) := by
  go_enter Tryz.func31, Tryz.ntmps31
  go_wp2
  go_ret
  exact ⟨rfl, rfl⟩

abbrev encT (m : Nat) (x : { i : Nat // i < m }) : Array Value := #[Value.int .i64 (x.1 : Int), Value.int .i64 (((x.1 + 1) % m : Nat) : Int)]

set_option maxRecDepth 100000 in
set_option maxHeartbeats 2000000 in
theorem backward1_in (F : Fence) (n : Nat) (h8 : F.fn 74) (hro : F.round = none) (hn : 1 ≤ n) (l Bs n1 bb bc tb m cap : Nat) (hm : m ≤ 4) (hb : tb < n1) (hb2 : tb ≠ bb) (hb3 : tb ≠ bc) (hBl : Bs < n1) (hB2 : Bs ≠ bb) (hB3 : Bs ≠ bc) (J Jx : List { i : Nat // i < m } → World → Prop)
    (hY : ∀ pre x W, J pre W → pre.length < m → YieldAt F (n - 1) Tryz.prog l (encT m x) W fun e W' =>
      (e = .returned (.bool true) ∧ J (pre ++ [x]) W' ∧ KpD n1 bb bc W W') ∨ (e = .returned (.bool false) ∧ Jx (pre ++ [x]) W'))
    (W : World) (hBs : W.cell? ⟨Bs, 0, none⟩ = some (.slice (some ⟨tb, 0, none⟩) m cap)) (hc : ∀ j, j < m → W.cell? ⟨tb, j, none⟩ = some (.int .i64 (((j + 1) % m : Nat) : Int))) (h0 : J [] W) :
    CallsIn F n Tryz.prog 74 #[.func (.yield l) #[] #[], .pointer (some ⟨Bs, 0, none⟩)] W fun e W' => (∃ v, e = .returned v) ∧
      ((∃ ys, ys = dnL m m (Nat.le_refl m) ∧ J ys W') ∨ (∃ pre, (∃ k, ∃ h : k ≤ m, pre = dnL m k h) ∧ Jx pre W')) := by
  have hm0 : (m : Int) ≤ 4 := by omega
  refine callsIn_of_wp Tryz.func74 rfl h8 ?_ hro
  simp only [Tryz.ntmps74, List.size_toArray, List.length_cons, List.length_nil, Nat.reduceAdd, Nat.reduceSub, Array.replicate_succ, Array.replicate_zero, List.push_toArray, List.append_toArray, List.nil_append, List.cons_append]
  gi_wp2
  gi_loopw [3] (fun i wr => ∃ (k : Nat) (h : k ≤ m), i = .int .i64 ((m : Int) - k - 1) ∧ J (dnL m k h) wr ∧ KpD n1 bb bc W wr)
    (fun i _ => (intOf i + 1).toNat)
  case atStart => exact ⟨0, Nat.zero_le _, by simp, h0, KpD.refl _ _ _ _⟩
  case round =>
    obtain ⟨k, hk, rfl, hJs, hnx⟩ := hrel
    by_cases hlt : k < m
    · obtain ⟨j, hj, hjm⟩ : ∃ j, j = m - 1 - k ∧ j < m := ⟨_, rfl, by omega⟩
      obtain ⟨fn, tmps, assign, body, hy, hR⟩ := hY _ ⟨j, hjm⟩ wr hJs (by rw [dnL_len]; exact hlt)
      dsimp only [encT] at hy
      have hcx := hnx.cell hb hb2 hb3 (hc j hjm)
      have hbx := hnx.cell hBl hB2 hB3 hBs
      have e1 : (m : Int) - k - 1 = (j : Int) := by omega
      have e2 : (m : Int) - ((k + 1 : Nat) : Int) - 1 = (j : Int) - 1 := by omega
      have HJ : Hid (j = m - 1 - k) := hj
      obtain ⟨tv, htv⟩ : ∃ tv : Nat, (j + 1) % m = tv := ⟨_, rfl⟩
      rw [htv] at hy hcx
      clear hj htv
      rw [e1]
      have hj0 : (0 : Int) ≤ (j : Int) := by omega
      have hj1 : (j : Int) < (m : Int) := by omega
      clear hc hBs
      gi_wp2
      refine hR.mono ?_
      rintro e W3 (⟨rfl, hJ3, hk3⟩ | ⟨rfl, hJx3⟩)
      · gi_wp2
        go_roundw
        case rel =>
          refine ⟨k + 1, hlt, ?_, ?_, hnx.trans hk3⟩
          · rw [e2]
          · rw [dnL]
            obtain rfl := unhide HJ
            exact hJ3
        case measure => simp [intOf]
      · gi_wp2
        refine bodyPost_ret (results_none rfl _ _ _) rfl ?_
        refine ⟨⟨_, rfl⟩, .inr ⟨_, ⟨k + 1, hlt, ?_⟩, hJx3⟩⟩
        rw [dnL]
        obtain rfl := unhide HJ
        rfl
    · obtain rfl : k = m := by omega
      have e1 : (k : Int) - k - 1 = -1 := by omega
      rw [e1]
      clear hc hBs
      gi_wp2
      go_end0
      exact ⟨⟨_, rfl⟩, .inl ⟨_, rfl, hJs⟩⟩

theorem backward_stops (F : Fence) (n : Nat) (h8 : F.fn 74) (hro : F.round = none) (hn : 1 ≤ n) (Bs n1 bb bc tb m cap : Nat) (hm : m ≤ 4) (w : World) (hw : w.heap.size = n1) (hb : tb < n1) (hb2 : tb ≠ bb) (hb3 : tb ≠ bc) (hBl : Bs < n1) (hB2 : Bs ≠ bb) (hB3 : Bs ≠ bc)
    (hBs : w.cell? ⟨Bs, 0, none⟩ = some (.slice (some ⟨tb, 0, none⟩) m cap)) (hc : ∀ j, j < m → w.cell? ⟨tb, j, none⟩ = some (.int .i64 (((j + 1) % m : Nat) : Int))) :
    SeqStopsK F n Tryz.prog 74 #[.pointer (some ⟨Bs, 0, none⟩)] (encT m) (KpD n1 bb bc) (fun ys => ys = dnL m m (Nat.le_refl m)) (fun pre => ∃ k, ∃ h : k ≤ m, pre = dnL m k h) m w := fun l J Jx W hW _ _ hY h0 => by
  subst hw
  exact backward1_in F n h8 hro hn l Bs w.heap.size bb bc tb m cap hm hb hb2 hb3 hBl hB2 hB3 J Jx hY W (cell_later hW hBs) (fun j hj => cell_later hW (hc j hj)) h0

end Go.Proofs.YtepmnpapdknocaaGreatDoor
