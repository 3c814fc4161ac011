/- What RunOps holds between two orders: its own row of numbers, the map of what is taken; what becomes of it. -/
import Derived.Test.YtepmnpapdknocaaGreatDoorRefLeaf
import Derived.Test.YtepmnpapdknocaaGreatDoorRefMath
import Derived.Maps.OwnOps
import Derived.Laws.AppendOwnNone
namespace Go.Proofs.YtepmnpapdknocaaGreatDoor
open Go.RowKit Go.Maps

theorem law3 : Keyed Tryz.prog 3 := int_keyed Tryz.underlying3
theorem zero3 (w : World) : (zeroValue 3).run Tryz.prog w = .ok (.int .i64 0) w := by kernel_rfl

/-- An entry of a map that is written out, at the operation. -/
theorem wpList_insert_own {H : Type} {P : Program} (w : World) {ops : Array Oper} {rest : List Oper} {o : Oper} {a : Act} {Q : Exit → Act → World → Prop}
    (hg : o.guard = none) (m x v : Operand) (t : TypeId) (hop : o.op = Op.insert t m x v)
    (k e : TypeId) (K : Keyed P k) (ht : P.underlying t = some (.map k e)) (R : Value → Option (DataW H × List MemPlace)) (b n : Nat) (D : DataW H)
    (hm : a.eval m = .map (some b)) (hown : w.ownsMap P k R b n D) (hn : n < maxLen) (key val : Value) (kl : Lit) (hx : a.eval x = key) (hv : a.eval v = val) (hkey : keyOf P k key = some kl)
    (d : DataW H) (ps : List MemPlace) (hval : R val = some (d, ps))
    (hK : ∀ w', w'.ownsMap P k R b (n + 1) (D.put kl d) → w.grownBy w' (some b) → wpList P ops Q rest (a.put o.dst undef) w') :
    wpList P ops Q (o :: rest) a w := by
  refine wpList_plain hg fun K' hK' => ?_
  obtain ⟨w', hrun, r1, r2⟩ := hown.update K ht hn hkey hval
  unfold Oper.wp
  simp [execOp, hop, hm, hx, hv, hrun, Result.andThen]
  exact hK' _ _ (hK w' r1 r2)

def putD (D : DataW Unit) (p : Int × Int) : DataW Unit := D.put (.int .i64 p.1) (.lit (.int .i64 p.2))
/-- How many an order takes, as the map has it. -/
def TakesD : DataW Unit := [(2, 1), (3, 2), (4, 1), (5, 2), (6, 2), (7, 2), (8, 2), (9, 1), (10, 2), (11, 1), (13, 1)].foldl putD (.map [])

def numTake (k : Int) : Int := if k = 1 ∨ k = 12 then 0 else if k = 2 ∨ k = 4 ∨ k = 9 ∨ k = 11 ∨ k = 13 then 1 else 2

theorem takes_at (k : Int) (h1 : 1 ≤ k) (h2 : k ≤ 13) : TakesD.atKey (.int .i64 k) (.lit (.int .i64 0)) = .lit (.int .i64 (numTake k)) := by
  have h : k = 1 ∨ k = 2 ∨ k = 3 ∨ k = 4 ∨ k = 5 ∨ k = 6 ∨ k = 7 ∨ k = 8 ∨ k = 9 ∨ k = 10 ∨ k = 11 ∨ k = 12 ∨ k = 13 := by omega
  rcases h with rfl | rfl | rfl | rfl | rfl | rfl | rfl | rfl | rfl | rfl | rfl | rfl | rfl
  all_goals rfl

abbrev TakesIn (bm n : Nat) (D : DataW Unit) (w : World) : Prop := w.ownsMap Tryz.prog 3 (plainElem (H := Unit) Tryz.prog 3) bm n D

/-- Between two orders: v is the call's own row L; bm the map; below W nothing has turned. -/
structure St (W : World) (bm : Nat) (v : Value) (L : List Int) (w : World) : Prop where
  row : ∃ g cap, v = .slice (some ⟨g, 0, none⟩) L.length cap ∧ L.length ≤ cap ∧ cap ≤ maxLen
  own : w.ownsRow W.heap.size 3 1 v L.length (L.map (Value.int .i64))
  map : TakesIn bm 11 TakesD w
  bel : Below W.heap.size W w

theorem map_keep {bm n : Nat} {D : DataW Unit} {w w' : World} (h : TakesIn bm n D w) (hb : Below w.heap.size w w') : TakesIn bm n D w' := by
  obtain ⟨es, clock, h1, r⟩ := h
  exact ⟨es, clock, (hb.block bm (lt_of_block h1)).trans h1, r⟩

theorem own_stay {w w' : World} {base : Nat} {e : TypeId} {size : Nat} {v : Value} {n : Nat} {xs : List Value} (h : w.ownsRow base e size v n xs) (hb : Below w.heap.size w w') : w'.ownsRow base e size v n xs := by
  obtain ⟨hl, h0 | ⟨g, cap, cur, hv, hg, hh, r⟩⟩ := h
  · exact ⟨hl, .inl h0⟩
  · exact ⟨hl, .inr ⟨g, cap, cur, hv, hg, (hb.block g (lt_of_block hh)).trans hh, r⟩⟩

theorem St.keep {W : World} {bm : Nat} {v : Value} {L : List Int} {w w' : World} (h : St W bm v L w) (hb : Below w.heap.size w w') : St W bm v L w' :=
  ⟨h.row, own_stay h.own hb, map_keep h.map hb, h.bel.trans (hb.mono h.bel.size)⟩

theorem St.apart {W : World} {bm : Nat} {v : Value} {L : List Int} {w : World} (h : St W bm v L w) : some bm ≠ v.ownBlock := by
  obtain ⟨es, clock, h1, _⟩ := h.map
  obtain ⟨_, h0 | ⟨g, cap, cur, hv, hg, hh, r⟩⟩ := h.own
  · obtain ⟨g, cap, hv, _⟩ := h.row
    rw [hv] at h0
    simp at h0
  · rw [hv]
    intro e
    simp only [Value.ownBlock, Option.some.injEq] at e
    rw [e, hh] at h1
    cases h1

theorem St.ge {W : World} {bm : Nat} {v : Value} {L : List Int} {w : World} (h : St W bm v L w) : ∀ k, v.ownBlock = some k → W.heap.size ≤ k := by
  obtain ⟨_, h0 | ⟨g, cap, cur, hv, hg, hh, r⟩⟩ := h.own
  · intro k hk; rw [h0.1] at hk; cases hk
  · intro k hk
    rw [hv] at hk
    simp only [Value.ownBlock, Option.some.injEq] at hk
    omega

/-- Behind an append of one number. -/
theorem St.app {W : World} {bm : Nat} {v v' : Value} {L : List Int} {x : Int} {w w' : World} (h : St W bm v L w)
    (ho : w'.ownsRow W.heap.size 3 1 v' (L.length + 1) (L.map (Value.int .i64) ++ [.int .i64 x])) (hg : w.grownBy w' v.ownBlock) (hn : v' = .slice none 0 0 ↔ v = .slice none 0 0 ∧ 1 = 0) : St W bm v' (L ++ [x]) w' where
  row := by
    obtain ⟨_, h0 | ⟨g, cap, cur, hv, hg, hh, h1, h2, r⟩⟩ := ho
    · exact absurd (hn.1 h0.1).2 (by decide)
    · exact ⟨g, cap, by rw [hv]; simp, by simpa using h1, h2⟩
  own := by simpa using ho
  map := h.map.kept hg h.apart
  bel := h.bel.grown hg h.bel.size h.ge

/-- The row made shorter. -/
theorem St.cut {W : World} {bm : Nat} {a : Option Addr} {n cap : Nat} {M T : List Int} {w : World} (h : St W bm (.slice a n cap) (M ++ T) w) : St W bm (.slice a M.length cap) M w where
  row := by
    obtain ⟨g, c, hv, h1, h2⟩ := h.row
    simp only [Value.slice.injEq] at hv
    obtain ⟨rfl, _, rfl⟩ := hv
    rw [List.length_append] at h1
    exact ⟨g, cap, rfl, by omega, h2⟩
  own := by
    obtain ⟨hl, h0 | ⟨g, c, cur, hv, hg, hh, h1, h2, h3, h4⟩⟩ := h.own
    · obtain ⟨g, c, hv, _⟩ := h.row
      rw [hv] at h0
      simp at h0
    · simp only [Value.slice.injEq] at hv
      obtain ⟨rfl, _, rfl⟩ := hv
      rw [List.length_append] at h1
      refine ⟨by simp, .inr ⟨g, cap, cur, rfl, hg, hh, by omega, h2, h3, ?_⟩⟩
      have e := congrArg (List.take (M.length * 1)) h4
      rw [List.take_take, List.length_append] at e
      rw [show min (M.length * 1) ((M.length + T.length) * 1) = M.length * 1 by omega] at e
      rw [e, List.map_append, List.take_left' (by simp)]
  map := h.map
  bel := h.bel

/-- A number of the row. -/
theorem St.cell {W : World} {bm : Nat} {g n cap : Nat} {L : List Int} {w : World} (h : St W bm (.slice (some ⟨g, 0, none⟩) n cap) L w) (i : Nat) (hi : i < L.length) : w.cell? ⟨g, i, none⟩ = some (.int .i64 (L.getD i 0)) := by
  obtain ⟨hl, h0 | ⟨g', c, cur, hv, hg, hh, h1, h2, h3, h4⟩⟩ := h.own
  · obtain ⟨h5, _⟩ := h0
    simp at h5
  · simp only [Value.slice.injEq, Option.some.injEq, Addr.mk.injEq] at hv
    obtain ⟨⟨rfl, _⟩, _, rfl⟩ := hv
    have e := congrArg (fun l : List Value => l[i]?) h4
    simp only [List.getElem?_take_of_lt (show i < L.length * 1 by omega)] at e
    simp only [World.cell?, hh]
    rw [Array.getElem?_toList] at e
    simpa [hi] using e

theorem St.rowAt {W : World} {bm : Nat} {v : Value} {L : List Int} {w : World} (h : St W bm v L w) : ∃ a cap, v = .slice a L.length cap ∧ RowAt w a L.length L ∧ (a = none → cap = 0) := by
  obtain ⟨g, cap, rfl, h1, h2⟩ := h.row
  refine ⟨_, cap, rfl, ⟨rfl, Nat.le_trans h1 h2, fun _ => ⟨g, 0, rfl, fun i hi => ?_⟩⟩, fun h => by cases h⟩
  rw [Nat.zero_add]
  exact h.cell i hi

end Go.Proofs.YtepmnpapdknocaaGreatDoor
