/- The reference's map of heights: what it holds behind a prefix of a tree; lookups and updates of it. -/
import Derived.Test.YtklekpbladmjhaaRefBlk
import Derived.Test.YtklekpbladmjhaaTrGrowM
import Derived.Maps.OwnOps
import Derived.Maps.OwnSet
namespace Go.Proofs.Ytklekpbladmjhaa
open Go.RowKit Go.Maps

theorem law3 : Keyed Try.prog 3 := int_keyed Try.underlying3
theorem zero3 (w : World) : (zeroValue 3).run Try.prog w = .ok (.int .i64 0) w := by kernel_rfl
theorem key_ne {x y : Int} (h : x ≠ y) : (Lit.int .i64 x) ≠ (Lit.int .i64 y) := by
  intro e; injection e with _ e; exact h e

/-- The map holds 0, and each name's height. -/
structure HMap (bm : Nat) (N : List Int) (T : List BlkD) (w : World) : Prop where
  map : ∃ D, w.ownsMap Try.prog 3 (plainElem (H := Unit) Try.prog 3) bm (N.length + 1) D ∧ IsMap D ∧ (∀ x : Int, Maps.has D (.int .i64 x) = decide (x = 0 ∨ x ∈ N)) ∧ ∀ x : Int, D.atKey (.int .i64 x) (.lit (.int .i64 0)) = .lit (.int .i64 (fnd x N T).2.1)

theorem HMap.keep {bm : Nat} {N : List Int} {T : List BlkD} {w w' : World} (h : HMap bm N T w) (hb : Below w.heap.size w w') : HMap bm N T w' := by
  obtain ⟨D, ⟨es, clock, h1, r⟩, r2⟩ := h.map
  exact ⟨D, ⟨es, clock, (hb.block bm (lt_of_block h1)).trans h1, r⟩, r2⟩

theorem HMap.start {bm : Nat} {w : World} {D : DataW Unit} (hD : D = DataW.put (.map []) (.int .i64 0) (.lit (.int .i64 0))) (h : w.ownsMap Try.prog 3 (plainElem (H := Unit) Try.prog 3) bm (0 + 1) D) : HMap bm [] [] w := by
  have hm : IsMap (DataW.map (H := Unit) []) := ⟨_, rfl⟩
  refine ⟨D, h, by rw [hD]; exact ⟨_, rfl⟩, fun x => ?_, fun x => ?_⟩
  · by_cases e : x = 0
    · subst e; rw [hD, has_put_same hm (by simp [WideAt.IsKeyLit])]; simp
    · rw [hD, has_put_other (key_ne e)]; simp [e, Maps.has]
  · by_cases e : x = 0
    · subst e; rw [hD, atKey_put_same hm (by simp [WideAt.IsKeyLit])]; simp [fnd, zeroB]
    · rw [hD, atKey_put_other (key_ne e)]; simp [fnd, zeroB]; rfl

theorem HMap.put {bm : Nat} {N : List Int} {T : List BlkD} {w : World} {D : DataW Unit} {s : Int} {b : BlkD} (hl : N.length = T.length) (hs : s ∉ N)
    (hm : IsMap D) (hh : ∀ x : Int, Maps.has D (.int .i64 x) = decide (x = 0 ∨ x ∈ N)) (ha : ∀ x : Int, D.atKey (.int .i64 x) (.lit (.int .i64 0)) = .lit (.int .i64 (fnd x N T).2.1))
    (h : w.ownsMap Try.prog 3 (plainElem (H := Unit) Try.prog 3) bm (N.length + 1 + 1) (D.put (.int .i64 s) (.lit (.int .i64 b.2.1)))) : HMap bm (N ++ [s]) (T ++ [b]) w := by
  refine ⟨_, by simpa using h, ?_, fun x => ?_, fun x => ?_⟩
  · obtain ⟨es, rfl⟩ := hm; exact ⟨_, rfl⟩
  · by_cases e : x = s
    · subst e; rw [has_put_same hm (by simp [WideAt.IsKeyLit])]; simp
    · rw [has_put_other (key_ne e), hh]; simp [e]
  · by_cases e : x = s
    · subst e; rw [atKey_put_same hm (by simp [WideAt.IsKeyLit]), fnd_app_r hl hs, fnd_one]
    · rw [atKey_put_other (key_ne e), ha]
      by_cases hx : x ∈ N
      · rw [fnd_app_l hl hx]
      · rw [fnd_app_r hl hx, fnd_out hl hx]; simp [fnd, e]

section
variable {w : World} {ops : Array Oper} {rest : List Oper} {o : Oper} {a : Act} {Q : Exit → Act → World → Prop}
theorem wpList_look_h (hg : o.guard = none) (m x : Operand) (hop : o.op = Op.lookup 61 m x true) (bm : Nat) (N : List Int) (T : List BlkD) (hm : a.eval m = .map (some bm)) (h : HMap bm N T w) (y : Int) (hx : a.eval x = .int .i64 y)
    (hy : (Lit.int .i64 y).wf = true) (z : Int) (t : Bool) (e1 : (fnd y N T).2.1 = z) (e2 : decide (y = 0 ∨ y ∈ N) = t) (hK : wpList Try.prog ops Q rest (a.put o.dst (.tuple #[.int .i64 z, .bool t])) w) : wpList Try.prog ops Q (o :: rest) a w := by
  obtain ⟨D, h1, h2, h3, h4⟩ := h.map
  refine wpList_lookup_own_ok_int w hg m x 61 hop 3 3 .i64 law3 Try.underlying61 Try.underlying3 (zero3 w) bm _ D hm h1 _ _ hx (keyOf_int_mk Try.underlying3 hy) fun c hat _ => ?_
  rw [h4, e1] at hat
  have ec : z = c := by injection hat with q; injection q
  rw [h3, e2, ← ec]
  exact hK

theorem wpList_update_h (hg : o.guard = none) (m x v : Operand) (hop : o.op = Op.mapUpdate 61 m x v) (bm : Nat) (N : List Int) (T : List BlkD) (hm : a.eval m = .map (some bm)) (h : HMap bm N T w) (hl : N.length = T.length) (hn : N.length ≤ 100) (s : Int) (hs : s ∉ N) (b : BlkD)
    (hx : a.eval x = .int .i64 s) (hv : a.eval v = .int .i64 b.2.1) (h1 : (Lit.int .i64 s).wf = true) (h2 : (Lit.int .i64 b.2.1).wf = true)
    (hK : ∀ w', HMap bm (N ++ [s]) (T ++ [b]) w' → w.grownBy w' (some bm) → wpList Try.prog ops Q rest (a.put o.dst undef) w') : wpList Try.prog ops Q (o :: rest) a w := by
  obtain ⟨D, q1, q2, q3, q4⟩ := h.map
  exact wpList_mapUpdate_own w hg m x v 61 hop 3 3 law3 Try.underlying61 _ bm _ D hm q1 (by unfold maxLen; omega) _ _ _ hx hv (keyOf_int_mk Try.underlying3 h1) _ [] (plainElem_int Try.underlying3 h2) fun w' r1 r2 => hK w' (HMap.put hl hs q2 q3 q4 r1) r2

theorem wpList_insert_h (hg : o.guard = none) (m x v : Operand) (hop : o.op = Op.insert 61 m x v) (W : World) (bm : Nat) (hbm : W.heap.size = bm) (hw : w = W.alloc (.map #[] 0)) (hm : a.eval m = .map (some bm)) (hx : a.eval x = .int .i64 0) (hv : a.eval v = .int .i64 0)
    (hK : ∀ w', HMap bm [] [] w' → Below W.heap.size W w' → wpList Try.prog ops Q rest (a.put o.dst undef) w') : wpList Try.prog ops Q (o :: rest) a w := by
  subst hw hbm
  have h0 := World.ownsMap_made W Try.prog 3 (plainElem (H := Unit) Try.prog 3)
  obtain ⟨w', hrun, r1, r2⟩ := h0.update law3 Try.underlying61 (by unfold maxLen; omega) (keyOf_int_mk Try.underlying3 (q := .i64) (a := 0) (by decide)) (plainElem_int Try.underlying3 (q := .i64) (a := 0) (by decide))
  refine wpList_plain hg fun K' hK' => ?_
  unfold Oper.wp
  simp [execOp, hop, hm, hx, hv, hrun, Result.andThen]
  exact hK' _ _ (hK w' (HMap.start rfl r1) ((bel_new W (.map #[] 0)).grown r2 (bel_new W (.map #[] 0)).size (fun j hj => by cases hj; exact Nat.le_refl _)))
end

end Go.Proofs.Ytklekpbladmjhaa
