/- RunOps: an append of a whole row; the map written out; no orders. -/
import Derived.Test.YtepmnpapdknocaaGreatDoorRefState
namespace Go.Proofs.YtepmnpapdknocaaGreatDoor
open Go.RowKit Go.Maps

theorem Tryz.info3 : (Tryz.prog.info? 3).map (fun i => (i.zero, i.size, i.bytes)) = some (some (.int .i64 0), 1, 8) := by kernel_rfl

/-- An append of a whole row, nil or not. -/
theorem wpList_append_row {w : World} {ops : Array Oper} {rest : List Oper} {o : Oper} {a : Act} {Q : Exit → Act → World → Prop} (hgd : o.guard = none) (s x : Operand)
    (ho : o.op = .call { callee := .builtin .append, args := #[s, x], argTypes := #[30, 30] }) (base : Nat) (v : Value) (n : Nat) (xs : List Value) (hs : a.eval s = v) (hown : w.ownsRow base 3 1 v n xs)
    (az : Option Addr) (len cap : Nat) (Z : List Int) (hx : a.eval x = .slice az len cap) (hcap : az = none → cap = 0) (hR : RowAt w az len Z) (hnz : n + len ≤ 1000000) (hbase : base ≤ w.heap.size)
    (h : ∀ v' w', w'.ownsRow base 3 1 v' (n + len) (xs ++ Z.map (Value.int .i64)) → w.grownBy w' v.ownBlock → (v = .slice none 0 0 ∨ v' ≠ .slice none 0 0) → wpList Tryz.prog ops Q rest (a.put o.dst v') w') :
    wpList Tryz.prog ops Q (o :: rest) a w := by
  obtain ⟨i0, hi, hz0, hz1, hz2⟩ := info_parts Tryz.info3
  cases az with
  | none =>
    have h0 : len = 0 := by
      by_cases e : len = 0
      · exact e
      · obtain ⟨b, off, e', _⟩ := hR.2.2 (by omega)
        cases e'
    subst h0
    have hc := hcap rfl
    subst hc
    have hZ : Z = [] := List.length_eq_zero_iff.1 hR.1
    subst hZ
    refine wpList_append_own_none hgd s x 30 ho base 3 i0 1 Tryz.underlying30 hi v n xs hs hown hx ?_
    by_cases hv : v = .slice none 0 0
    · exact h v w (by simpa using hown) (World.grownBy.refl _ _) (.inl hv)
    · exact h v w (by simpa using hown) (World.grownBy.refl _ _) (.inr hv)
  | some ad =>
    refine wpList_append_own w hgd s x 30 ho base 3 i0 (.int .i64 0) 1 8 Tryz.underlying30 hi hz0 hz1 hz2 rfl (by decide) v n xs hs hown ad len cap (Z.map (Value.int .i64)) hx (by simp [hR.1]) (fun j u hj => ?_) (fun u hu => ?_) (by unfold maxLen; omega) (by omega) hbase fun v' w' h1 h2 h3 => h v' w' h1 h2 ?_
    · have hj' : j < Z.length := by
        have := (List.getElem?_eq_some_iff.1 hj).1
        simpa using this
      obtain ⟨b, off, e, hc⟩ := hR.2.2 (by rw [← hR.1]; omega)
      cases e
      have hadd : (⟨b, off, none⟩ : Addr).add j = ⟨b, off + j, none⟩ := by unfold Addr.add; split <;> simp_all
      rw [hadd, hc j (by rw [← hR.1]; exact hj')]
      simpa [hj'] using hj
    · simp only [List.mem_map] at hu
      obtain ⟨y, _, rfl⟩ := hu
      rfl
    · by_cases e : v' = .slice none 0 0
      · exact .inl (h3.1 e).1
      · exact .inr e

/-- Ahead of the first order, while the map is written out. -/
structure Pro (W : World) (bm : Nat) (v : Value) (L : List Int) (n : Nat) (D : DataW Unit) (w : World) : Prop where
  row : ∃ g cap, v = .slice (some ⟨g, 0, none⟩) L.length cap ∧ L.length ≤ cap ∧ cap ≤ maxLen
  own : w.ownsRow W.heap.size 3 1 v L.length (L.map (Value.int .i64))
  apart : v.ownBlock ≠ some bm
  new : W.heap.size ≤ bm
  map : TakesIn bm n D w
  bel : Below W.heap.size W w

theorem Pro.start {W w0 w : World} {v0 v : Value} {L : List Int} (hb : Below W.heap.size W w0) (hv0 : ∀ k, v0.ownBlock = some k → W.heap.size ≤ k) (ho : w.ownsRow W.heap.size 3 1 v L.length (L.map (Value.int .i64))) (hg : w0.grownBy w v0.ownBlock) (hn : v ≠ .slice none 0 0) :
    Pro W w.heap.size v L 0 (.map []) (w.alloc (.map #[] 0)) where
  row := by
    obtain ⟨_, h0 | ⟨g, cap, cur, hv, _, hh, h1, h2, r⟩⟩ := ho
    · exact absurd h0.1 hn
    · exact ⟨g, cap, hv, h1, h2⟩
  own := ho.alloc _
  apart := by
    obtain ⟨_, h0 | ⟨g, cap, cur, hv, _, hh, _⟩⟩ := ho
    · exact absurd h0.1 hn
    · have := lt_of_block hh
      rw [hv]
      intro e
      simp only [Value.ownBlock, Option.some.injEq] at e
      omega
  new := (hb.grown hg hb.size hv0).size
  map := World.ownsMap_made _ _ _ _
  bel := (hb.grown hg hb.size hv0).alloc (hb.grown hg hb.size hv0).size _

theorem pro_first {w w1 : World} {v1 : Value} {lens : Nat} {Z : List Int} (hb : Below w.heap.size w (w.alloc (.cells #[] 3))) (hz : Z.length = lens) (ho : w1.ownsRow w.heap.size 3 1 v1 (0 + lens) ([] ++ Z.map (Value.int .i64)))
    (hg : (w.alloc (.cells #[] 3)).grownBy w1 (Value.ownBlock (.slice (some ⟨w.heap.size, 0, none⟩) 0 0))) (hn : (Value.slice (some ⟨w.heap.size, 0, none⟩) 0 0) = .slice none 0 0 ∨ v1 ≠ .slice none 0 0) : Pro w w1.heap.size v1 Z 0 (.map []) (w1.alloc (.map #[] 0)) := by
  rw [List.nil_append, Nat.zero_add, ← hz] at ho
  exact Pro.start hb (fun k hk => by cases hk; exact Nat.le_refl _) ho hg (hn.resolve_left (by simp))

theorem Pro.st {W : World} {bm : Nat} {v : Value} {L : List Int} {w : World} (h : Pro W bm v L 11 TakesD w) : St W bm v L w := ⟨h.row, h.own, h.map, h.bel⟩

theorem wpList_insert_pro (w : World) {ops : Array Oper} {rest : List Oper} {o : Oper} {a : Act} {Q : Exit → Act → World → Prop}
    (hg : o.guard = none) (m x v : Operand) (hop : o.op = Op.insert 216 m x v) (W : World) (bm : Nat) (u : Value) (L : List Int) (n : Nat) (D : DataW Unit)
    (hp : Pro W bm u L n D w) (hm : a.eval m = .map (some bm)) (hn : n < 100) (k t : Int) (hx : a.eval x = .int .i64 k) (hv : a.eval v = .int .i64 t) (hk : (Lit.int .i64 k).wf = true) (ht : (Lit.int .i64 t).wf = true)
    (hK : ∀ w', Pro W bm u L (n + 1) (putD D (k, t)) w' → wpList Tryz.prog ops Q rest (a.put o.dst undef) w') :
    wpList Tryz.prog ops Q (o :: rest) a w := by
  refine wpList_insert_own w hg m x v 216 hop 3 3 law3 Tryz.underlying216 _ bm n D hm hp.map (by unfold maxLen; omega) _ _ _ hx hv (keyOf_int_mk Tryz.underlying3 hk) _ [] (plainElem_int Tryz.underlying3 ht) fun w' h1 h2 => hK w' ?_
  exact ⟨hp.row, hp.own.kept h2 (.inr hp.apart), hp.apart, hp.new, h1, hp.bel.grown h2 hp.bel.size (fun j hj => by cases hj; exact hp.new)⟩

set_option maxRecDepth 100000 in
set_option maxHeartbeats 1600000 in
theorem runops_none (az : Option Addr) (lens caps cap : Nat) (a : Option Addr) (Z : List Int) (h : Int) (w : World) (hR : RowAt w az lens Z) (hc : az = none → caps = 0) (hZ : stackOk Z = true) :
    Calls Tryz.prog 122 #[.slice a 0 cap, .slice az lens caps, .int .i64 h] w fun e w' => ∃ a' cap', e = .returned (.tuple #[.slice a' Z.length cap', .bool true]) ∧ RowAt w' a' Z.length Z ∧ Below w.heap.size w w' ∧ (a' = none → cap' = 0) := by
  have hlen : lens ≤ 16 := by rw [← hR.1]; exact (stack_parts hZ).1
  have HR := hide hR
  have HC := hide hc
  clear hR hc hZ
  have HB0 := hide ((Below.refl w.heap.size w).alloc (Nat.le_refl _) (.cells #[] 3))
  have HR0 := hide ((unhide HR).later (unhide HB0))
  have HO0 : Hid ((w.alloc (.cells #[] 3)).ownsRow w.heap.size 3 1 (.slice (some ⟨w.heap.size, 0, none⟩) 0 0) 0 []) := ⟨rfl, .inr ⟨w.heap.size, 0, #[], rfl, Nat.le_refl _, heap_alloc_new _ _, Nat.le_refl _, by decide, rfl, rfl⟩⟩
  have hmm := @run_makeMap Tryz.prog
  go_enter Tryz.func122, Tryz.ntmps122
  go_wp2_with (first
    | (at_builtin; refine wpList_append_row rfl _ _ rfl w.heap.size _ _ _ rfl (unhide HO0) az lens caps Z rfl (unhide HC) (unhide HR0) (by omega) (unhide HB0).size ?_; intro v1 w1 ho1 hg1 hn1; have hst := pro_first (unhide HB0) (unhide HR).1 ho1 hg1 hn1; clear ho1 hg1 hn1)
    | (refine wpList_insert_pro _ rfl _ _ _ rfl _ _ _ _ _ _ hst rfl (by omega) _ _ rfl rfl (by decide) (by decide) ?_; intro w2 hst2; clear hst; have hst := hst2; clear hst2))
  have HST := hide (Pro.st hst)
  clear hst
  obtain ⟨a', cap', rfl, hra, hca⟩ := (unhide HST).rowAt
  have HCA := hide hca
  have HRA := hide hra
  clear hra hca
  refine wp_loop_rounds 1 ?_
  rw [rounds_succ]
  go_wp2
  go_ret2
  exact ⟨a', cap', rfl, unhide HRA, (unhide HST).bel, unhide HCA⟩

end Go.Proofs.YtepmnpapdknocaaGreatDoor
