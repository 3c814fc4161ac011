/- The writer of a book: its texts, their names; add. -/
import Derived.Test.YtepmnpapdknocaaGreatDoorBookBase
namespace Go.Proofs.YtepmnpapdknocaaGreatDoor.Bk
open Go.RowKit Go.Maps

abbrev keyS (s : ByteArray) : Lit := .string s.data.toList
abbrev litN (n : Int) : DataW Unit := .lit (.int .i64 n)

structure Wr (base p bm : Nat) (wr : World) (v : Value) (D : DataW Unit) (L : List ByteArray) : Prop where
  box : wr.heap[p]? = some (.cells #[v, .map (some bm)] 124 (0, 0))
  pge : base ≤ p
  mge : base ≤ bm
  own : wr.ownsRow base 9 1 v L.length (L.map Value.string)
  map : wr.ownsMap Tryz.prog 9 (plainElem (H := Unit) Tryz.prog 3) bm L.length D
  ism : IsMap D
  names : ∀ s : ByteArray, D.atKey (keyS s) (litN 0) = litN (place s L : Nat)

/-- Other rows than those of texts, and other boxes than the writer's, stay. -/
def Far (w w' : World) : Prop := ∀ (k : Nat) (cs : Array Value) (t : TypeId), w.heap[k]? = some (.cells cs t (0, 0)) → t ≠ 9 → t ≠ 124 → w'.heap[k]? = w.heap[k]?
theorem Far.refl (w : World) : Far w w := fun _ _ _ _ _ _ => rfl
theorem Far.trans {a b c : World} (h : Far a b) (g : Far b c) : Far a c := fun k cs t hk h1 h2 => (g k cs t ((h k cs t hk h1 h2).trans hk) h1 h2).trans (h k cs t hk h1 h2)
theorem far_bel {w w' : World} (h : Below w.heap.size w w') : Far w w' := fun k _ _ hk _ _ => h.block k (lt_of_block hk)

theorem Wr.keep {base p bm : Nat} {w w' : World} {v : Value} {D : DataW Unit} {L : List ByteArray} (h : Wr base p bm w v D L) (hb : Below w.heap.size w w') : Wr base p bm w' v D L := by
  refine ⟨(hb.block p (lt_of_block h.box)).trans h.box, h.pge, h.mge, own_type h.own (fun k cs _ hk => hb.block k (lt_of_block hk)), ?_, h.ism, h.names⟩
  obtain ⟨es, clock, h1, r⟩ := h.map
  exact ⟨es, clock, (hb.block bm (lt_of_block h1)).trans h1, r⟩
theorem Wr.cell0 {base p bm : Nat} {w : World} {v : Value} {D : DataW Unit} {L : List ByteArray} (h : Wr base p bm w v D L) : w.cell? ⟨p, 0, none⟩ = some v ∧ w.cell? ⟨p, 1, none⟩ = some (.map (some bm)) ∧ w.frozen? ⟨p, 0, none⟩ = false := by
  refine ⟨?_, ?_, ?_⟩
  · simp [World.cell?, h.box]
  · simp [World.cell?, h.box]
  · simp [World.frozen?, h.box]

theorem names_put {D : DataW Unit} {L : List ByteArray} {s : ByteArray} (hm : IsMap D) (h : ∀ s : ByteArray, D.atKey (keyS s) (litN 0) = litN (place s L : Nat)) (hs : s ∉ L) :
    ∀ x : ByteArray, (D.put (keyS s) (litN ((L.length : Int) + 1))).atKey (keyS x) (litN 0) = litN (place x (L ++ [s]) : Nat) := by
  intro x
  by_cases e : x = s
  · subst e
    rw [atKey_put_same hm (by simp [WideAt.IsKeyLit]), place_snoc hs]; simp
  · have hne : keyS x ≠ keyS s := by
      intro h2
      apply e
      have h3 : x.data.toList = s.data.toList := by injection h2
      have h4 : x.data = s.data := by rw [← Array.toList_inj]; exact h3
      cases x; cases s; simp_all
    rw [atKey_put_other hne, h x, place_other L e]

theorem block_setCell (w : World) (p : Nat) (x y v : Value) (t : TypeId) (h : w.heap[p]? = some (.cells #[x, y] t (0, 0))) : (w.setCell ⟨p, 0, none⟩ v).heap[p]? = some (.cells #[v, y] t (0, 0)) := by
  rw [heap_setCell_same w p 0 #[x, y] t v h]; rfl

/-- The row has grown and is laid into the box; the map is as it was. -/
structure Mid (base p bm : Nat) (X Y : World) (v : Value) (D : DataW Unit) (L : List ByteArray) (s : ByteArray) : Prop where
  box : Y.heap[p]? = some (.cells #[v, .map (some bm)] 124 (0, 0))
  own : Y.ownsRow base 9 1 v (L.length + 1) ((L ++ [s]).map Value.string)
  map : Y.ownsMap Tryz.prog 9 (plainElem (H := Unit) Tryz.prog 3) bm L.length D
  bel : Below base X Y
  far : Far X Y

theorem Wr.mid {base p bm : Nat} {X w3 : World} {v v3 : Value} {D : DataW Unit} {L : List ByteArray} {s : ByteArray} (h : Wr base p bm X v D L)
    (hown : w3.ownsRow base 9 1 v3 (L.length + 1) (L.map Value.string ++ [.string s])) (hg : X.grownBy w3 v.ownBlock) : Mid base p bm X (w3.setCell ⟨p, 0, none⟩ v3) v3 D L s := by
  have hpl := lt_of_block h.box
  have hbase : base ≤ X.heap.size := Nat.le_trans h.pge (Nat.le_of_lt hpl)
  have far : ∀ (k : Nat) (cs : Array Value) (t : TypeId), X.heap[k]? = some (.cells cs t (0, 0)) → t ≠ 9 → w3.heap[k]? = X.heap[k]? := fun k cs t hk ht => grow_type h.own hg k cs t hk ht
  have box3 : w3.heap[p]? = some (.cells #[v, .map (some bm)] 124 (0, 0)) := (far _ _ _ h.box (by decide)).trans h.box
  have far3 : ∀ (k : Nat), k ≠ p → (w3.setCell ⟨p, 0, none⟩ v3).heap[k]? = w3.heap[k]? := fun k hk => heap_setCell_other w3 ⟨p, 0, none⟩ k v3 hk
  refine ⟨block_setCell w3 p v _ v3 _ box3, ?_, ?_, ?_, ?_⟩
  · rw [List.map_append]
    refine own_type hown (fun k cs _ hk => far3 k (fun e => ?_))
    subst e
    rw [box3] at hk
    injection hk with hk
    injection hk with _ hk
    exact absurd hk (by decide)
  · obtain ⟨es, clock, h1, r⟩ := h.map
    have hne : some bm ≠ v.ownBlock := by
      intro e
      obtain ⟨_, ⟨rfl, _⟩ | ⟨g, cap, cur, rfl, _, hh, _⟩⟩ := h.own
      · cases e
      · have e2 : bm = g := by injection e
        subst e2
        rw [h1] at hh
        cases hh
    have h3 : w3.heap[bm]? = X.heap[bm]? := hg.block bm (lt_of_block h1) hne
    have hp : bm ≠ p := by
      intro e
      subst e
      rw [h.box] at h1
      cases h1
    exact ⟨es, clock, (far3 bm hp).trans (h3.trans h1), r⟩
  · exact ((Below.refl base X).grown hg hbase (fun k hk => own_ge h.own k hk)).setCell h.pge _
  · intro k cs t hk h9 h50
    have hp : k ≠ p := by
      intro e
      subst e
      rw [h.box] at hk
      injection hk with hk
      injection hk with _ hk
      exact h50 hk.symm
    exact (far3 k hp).trans (far k cs t hk h9)

theorem Mid.wr {base p bm : Nat} {X Y w4 : World} {v : Value} {D : DataW Unit} {L : List ByteArray} {s : ByteArray} (h : Mid base p bm X Y v D L s) (hm : IsMap D) (hp : base ≤ p) (hb : base ≤ bm) (hs : s ∉ L)
    (names : ∀ s : ByteArray, D.atKey (keyS s) (litN 0) = litN (place s L : Nat))
    (hown : w4.ownsMap Tryz.prog 9 (plainElem (H := Unit) Tryz.prog 3) bm (L.length + 1) (D.put (keyS s) (litN ((L.length : Int) + 1)))) (hg : Y.grownBy w4 (some bm)) :
    Wr base p bm w4 v (D.put (keyS s) (litN ((L.length : Int) + 1))) (L ++ [s]) ∧ Below base X w4 ∧ Far X w4 := by
  have kept : ∀ (k : Nat) (cs : Array Value) (t : TypeId), Y.heap[k]? = some (.cells cs t (0, 0)) → w4.heap[k]? = Y.heap[k]? := fun k cs t hk => hg.block k (lt_of_block hk) (fun e => by
    have e2 : k = bm := by injection e
    subst e2
    obtain ⟨es, clock, h1, _⟩ := h.map
    rw [h1] at hk
    cases hk)
  have hl : (L ++ [s]).length = L.length + 1 := by simp
  have hYs : base ≤ Y.heap.size := Nat.le_trans hp (Nat.le_of_lt (lt_of_block h.box))
  refine ⟨⟨(kept _ _ _ h.box).trans h.box, hp, hb, ?_, ?_, ?_, names_put hm names hs⟩, ?_, ?_⟩
  · rw [hl]; exact own_type h.own (fun k cs _ hk => kept k cs _ hk)
  · rw [hl]; exact hown
  · obtain ⟨es, rfl⟩ := hm
    exact ⟨_, rfl⟩
  · exact h.bel.trans ((Below.refl base Y).grown hg hYs (fun k hk => by injection hk with hk; omega))
  · exact fun k cs t hk h9 h50 => (kept k cs t ((h.far k cs t hk h9 h50).trans hk)).trans (h.far k cs t hk h9 h50)

end Go.Proofs.YtepmnpapdknocaaGreatDoor.Bk
