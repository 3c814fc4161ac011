/- Parts of the law TreeOrder: at, a tree in a box, appending names. -/
import Derived.Test.YtklekpbladmjhaaTrOrderM
import Derived.Deep.CutRange
namespace Go.Proofs.Ytklekpbladmjhaa
open Go.RowKit

set_option maxHeartbeats 800000 in
theorem at_neg (k : Int) (n : Nat) (w : World) (hn : 0 < n) (h17 : n ≤ 24) (h3 : Int.tmod k n < 0) :
    Calls Try.prog 26 #[.int .i64 k, .int .i64 n] w fun e w' => e = .returned (.int .i64 ((Int.tmod k n + n).toNat : Int)) ∧ w = w' := by
  have h0 : ¬ (n : Int) = 0 := by omega
  have h1 : -(n : Int) < Int.tmod k n := by
    have := Int.lt_tmod_of_pos k (show (0 : Int) < n by omega)
    omega
  have h2 : Int.tmod k n < n := Int.tmod_lt_of_pos k (by omega)
  have e : ((Int.tmod k n + n).toNat : Int) = Int.tmod k n + n := by omega
  rw [e]
  clear e
  go_enter Try.func26, Try.ntmps26
  go_wp2
  go_ret
  exact ⟨rfl, rfl⟩

set_option maxHeartbeats 800000 in
theorem at_pos (k : Int) (n : Nat) (w : World) (hn : 0 < n) (h17 : n ≤ 24) (h3 : ¬ Int.tmod k n < 0) :
    Calls Try.prog 26 #[.int .i64 k, .int .i64 n] w fun e w' => e = .returned (.int .i64 ((Int.tmod k n).toNat : Int)) ∧ w = w' := by
  have h0 : ¬ (n : Int) = 0 := by omega
  have h2 : Int.tmod k n < n := Int.tmod_lt_of_pos k (by omega)
  have e : ((Int.tmod k n).toNat : Int) = Int.tmod k n := by omega
  rw [e]
  clear e
  go_enter Try.func26, Try.ntmps26
  go_wp2
  go_ret
  exact ⟨rfl, rfl⟩

/-- The place, one and the same in whatever world. -/
theorem at_is (k : Int) (n : Nat) (hn : 0 < n) (h17 : n ≤ 24) : ∃ m : Nat, m < n ∧ ∀ w, Calls Try.prog 26 #[.int .i64 k, .int .i64 n] w fun e w' => e = .returned (.int .i64 m) ∧ w = w' := by
  by_cases h3 : Int.tmod k n < 0
  · have h1 : -(n : Int) < Int.tmod k n := by
      have := Int.lt_tmod_of_pos k (show (0 : Int) < n by omega)
      omega
    refine ⟨(Int.tmod k n + n).toNat, by omega, fun w => (at_neg k n w hn h17 h3)⟩
  · have h2 : Int.tmod k n < n := Int.tmod_lt_of_pos k (by omega)
    refine ⟨(Int.tmod k n).toNat, by omega, fun w => (at_pos k n w hn h17 h3)⟩


theorem wpList_append_run1 {P : Program} (w : World) {ops : Array Oper} {rest : List Oper} {o : Oper} {a : Act} {Q : Exit → Act → World → Prop} (hgd : o.guard = none) (d s : Operand) (t t' : TypeId)
    (ho : o.op = .call { callee := .builtin .append, args := #[d, s], argTypes := #[t, t'] }) (v u : Value) (hd : a.eval d = v) (hs : a.eval s = u) {v' : Value} {w' : World}
    (hr : (Builtin.append_ #[t, t'] o.type #[v, u]).run P w = .ok v' w') (h : wpList P ops Q rest (a.put o.dst v') w') : wpList P ops Q (o :: rest) a w := by
  refine wpList_plain hgd fun K hK => ?_
  unfold Oper.wp
  simp [execOp, ho, resolve, invoke, builtin, hd, hs, hr, Result.andThen]
  exact hK _ _ h
/-- Numbers in memory are appended to a row of the call's own. -/
theorem wpList_append_ints {P : Program} (w : World) {ops : Array Oper} {rest : List Oper} {o : Oper} {a : Act} {Q : Exit → Act → World → Prop} (hgd : o.guard = none) (s x : Operand) (t : TypeId)
    (ho : o.op = .call { callee := .builtin .append, args := #[s, x], argTypes := #[t, t] })
    (base : Nat) (i : TypeInfo) (ht : P.underlying t = some (.slice 3)) (hi : P.info? 3 = some i) (hz : i.zero = some (.int .i64 0)) (hsize : i.size = 1) (hby : i.bytes = 8)
    (v : Value) (k : Nat) (xs : List Value) (hs : a.eval s = v) (hown : w.ownsRow base 3 1 v k xs)
    (b : Option Addr) (n c : Nat) (N : List Int) (hx : a.eval x = .slice b n c) (hN : IntsAt w b n N) (sN : SlOk b n c) (hk : k + n ≤ 4096) (hbase : base ≤ w.heap.size)
    (h : ∀ v' w', w'.ownsRow base 3 1 v' (k + n) (xs ++ N.map (Value.int .i64)) → w.grownBy w' v.ownBlock → wpList P ops Q rest (a.put o.dst v') w') : wpList P ops Q (o :: rest) a w := by
  cases b with
  | none =>
    obtain ⟨rfl, rfl⟩ := sN.2.2 rfl
    have e : N = [] := List.length_eq_zero_iff.1 hN.1
    subst e
    exact wpList_append_run1 w hgd s x t t ho v _ hs hx (run_append_owned_none w base t o.type 3 i 1 ht hi v k xs hown) (h v w (by simpa using hown) (World.grownBy.refl _ _))
  | some ad =>
    refine wpList_append_own w hgd s x t ho base 3 i (.int .i64 0) 1 8 ht hi hz hsize hby rfl (by decide) v k xs hs hown ad n c (N.map (Value.int .i64)) hx (by simp [hN.1]) (fun j u hj => ?_) (ints_oneCell _ _) (by unfold maxLen; omega) (by omega) hbase (fun v' w' h1 h2 _ => h v' w' h1 h2)
    have hjl : j < N.length := by have := (List.getElem?_eq_some_iff.1 hj).1; simpa using this
    obtain ⟨bb, off, e, _, hcell⟩ := hN.2 (by rw [← hN.1]; omega)
    cases e
    rw [Addr.add_lit, hcell j hjl]
    simpa [hjl] using hj

/-- The tree that grows lies in box t; all else is as it was. -/
def OrS (Y : World) (t : Nat) (U : List Int) (V : List BlkD) (W : World) : Prop :=
  ∃ n a1 c1 a2 c2, W.heap[t]? = some (.cells [.slice a1 n c1, .slice a2 n c2].toArray 25 (0, 0)) ∧ IntsAt W a1 n U ∧ BlksAt W a2 n V ∧ SlOk a1 n c1 ∧ SlOk a2 n c2 ∧ Gr Y W (fun q => q = t)
theorem OrS.keep {Y : World} {t : Nat} {U : List Int} {V : List BlkD} {W W' : World} (h : OrS Y t U V W) (hb : Below W.heap.size W W') : OrS Y t U V W' := by
  obtain ⟨n, a1, c1, a2, c2, h1, h2, h3, h4, h5, h6⟩ := h
  exact ⟨n, a1, c1, a2, c2, (hb.block _ (lt_of_block h1)).trans h1, h2.later hb, h3.later hb, h4, h5, h6.on hb⟩
theorem OrS.lt {Y : World} {t : Nat} {U : List Int} {V : List BlkD} {W : World} (h : OrS Y t U V W) : t < W.heap.size := by
  obtain ⟨n, a1, c1, a2, c2, h1, _⟩ := h
  exact lt_of_block h1
/-- What Add has answered, in a box q of its own. -/
def AdC (wr : World) (U : List Int) (V : List BlkD) (s : Int) (b : BlkD) (s8 s9 : Value) (wx : World) : Prop :=
  ∃ q U' V' n x a1 c1 a2 c2, s8 = .pointer (some ⟨q, 0, none⟩) ∧ s9 = .int .i64 x ∧ addE U V s b = (U', V', x) ∧ wx.heap[q]? = some (.cells [.slice a1 n c1, .slice a2 n c2].toArray 25 (0, 0)) ∧
    Fresh wr.heap.size wx (fun w2 => IntsAt w2 a1 n U' ∧ BlksAt w2 a2 n V') ∧ SlOk a1 n c1 ∧ SlOk a2 n c2 ∧ Below wr.heap.size wr wx
theorem adC_a {wr w4 w5 : World} {U : List Int} {V : List BlkD} {s : Int} {b : BlkD} {U' : List Int} {V' : List BlkD} {n : Nat} {x : Int} {a1 a2 : Option Addr} {c1 c2 q : Nat} {X : List Value} (ha : addE U V s b = (U', V', x)) (hb4 : Below wr.heap.size wr w4) (hq : wr.heap.size ≤ q) (hq4 : q < w4.heap.size) (hx : w4.heap[q]? = some (.cells X.toArray 25 (0, 0))) (hX : (X.set 0 (.slice a1 n c1)).set 1 (.slice a2 n c2) = [.slice a1 n c1, .slice a2 n c2])
    (hF : Fresh w4.heap.size w5 (fun w2 => IntsAt w2 a1 n U' ∧ BlksAt w2 a2 n V')) (s1 : SlOk a1 n c1) (s2 : SlOk a2 n c2) (hb5 : Below w4.heap.size w4 w5) :
    AdC wr U V s b (.pointer (some ⟨q, 0, none⟩)) (.int .i64 x) ((w5.setCell ⟨q, 0, none⟩ (.slice a1 n c1)).setCell ⟨q, 1, none⟩ (.slice a2 n c2)) := by
  have hg := ((Gr.refl w5 (fun k => k = q)).one q 0 (.inl rfl) (.slice a1 n c1)).one q 1 (.inl rfl) (.slice a2 n c2)
  have h5 := (hb5.block q hq4).trans hx
  refine ⟨q, U', V', n, x, a1, c1, a2, c2, rfl, rfl, ha, ?_, (hF.on (hg.mono fun k _ e => by omega)).less hb4.size, s1, s2, hg.below (bel_on hb4 hb5) (by have := hb4.size; have := hb5.size; omega) (fun k e => by omega)⟩
  have := set_cells (set_cells h5 0 (.slice a1 n c1)) 1 (.slice a2 n c2)
  rw [hX] at this
  exact this
theorem adC_b {wr w5 : World} {U : List Int} {V : List BlkD} {s : Int} {b : BlkD} {U' : List Int} {V' : List BlkD} {n : Nat} {x : Int} {a1 a2 : Option Addr} {c1 c2 : Nat} (ha : addE U V s b = (U', V', x))
    (hF : Fresh wr.heap.size w5 (fun w2 => IntsAt w2 a1 n U' ∧ BlksAt w2 a2 n V')) (s1 : SlOk a1 n c1) (s2 : SlOk a2 n c2) (hb5 : Below wr.heap.size wr w5) :
    AdC wr U V s b (.pointer (some ⟨w5.heap.size, 0, none⟩)) (.int .i64 x) (w5.alloc (.cells #[.slice a1 n c1, .slice a2 n c2] 25)) :=
  ⟨w5.heap.size, U', V', n, x, a1, c1, a2, c2, rfl, rfl, ha, two_heap _ _ _ _, hF.later (bel_new _ _), s1, s2, bel_on hb5 (bel_new _ _)⟩
theorem OrS.store {Y wr wx : World} {t : Nat} {U U' : List Int} {V V' : List BlkD} {n : Nat} {a1 a2 : Option Addr} {c1 c2 : Nat} (h : OrS Y t U V wr) (hF : Fresh wr.heap.size wx (fun w2 => IntsAt w2 a1 n U' ∧ BlksAt w2 a2 n V')) (s1 : SlOk a1 n c1) (s2 : SlOk a2 n c2) (hb : Below wr.heap.size wr wx) :
    OrS Y t U' V' ((wx.setCell ⟨t, 0, none⟩ (.slice a1 n c1)).setCell ⟨t, 1, none⟩ (.slice a2 n c2)) := by
  have ht := h.lt
  obtain ⟨n0, b1, d1, b2, d2, h1, _, _, _, _, h6⟩ := h.keep hb
  have hg := ((Gr.refl wx (fun k => k = t)).one t 0 (.inl rfl) (.slice a1 n c1)).one t 1 (.inl rfl) (.slice a2 n c2)
  have hI := hF _ (hg.mono fun k _ e => by omega)
  exact ⟨n, a1, c1, a2, c2, set_cells (set_cells h1 0 _) 1 _, hI.1, hI.2, s1, s2, h6.trans hg⟩

end Go.Proofs.Ytklekpbladmjhaa
