/- What the reading of a transaction's lines builds: its box, its rows of ins and outs, their orders; told apart by their types. -/
import Derived.Test.YtepmnpapdknocaaGreatDoorTxCheckC
import Derived.Test.YtepmnpapdknocaaGreatDoorLockRead
import Derived.Test.YtepmnpapdknocaaGreatDoorLockReadO
import Derived.Test.YtepmnpapdknocaaGreatDoorTxPrint
import Derived.Deep.AppendLies
import Derived.OwnWalk
namespace Go.Proofs.YtepmnpapdknocaaGreatDoor
open Go.RowKit

/-! What lines say. -/
/-! Rows of ins and outs, with the values of their orders. -/
def inCells : List (InD × Value) → List Value
  | [] => []
  | x :: r => .int .i64 x.1.1 :: .int .i64 x.1.2.1 :: x.2 :: inCells r
def outCells : List (OutD × Value) → List Value
  | [] => []
  | x :: r => .int .i64 x.1.1 :: x.2 :: outCells r
/-- A row stays where blocks of its type stay. -/
theorem own_type {w w' : World} {base : Nat} {e : TypeId} {size : Nat} {v : Value} {n : Nat} {xs : List Value} (h : w.ownsRow base e size v n xs) (hk : ∀ (k : Nat) (cs : Array Value), w.heap[k]? = some (.cells cs e (0, 0)) → w'.heap[k]? = w.heap[k]?) : w'.ownsRow base e size v n xs := by
  obtain ⟨hl, h0 | ⟨g, cap, cur, hv, hg, hh, r⟩⟩ := h
  · exact ⟨hl, .inl h0⟩
  · exact ⟨hl, .inr ⟨g, cap, cur, hv, hg, (hk g cur hh).trans hh, r⟩⟩

structure PL (w : World) (q p lb : Nat) (A : Array Value) (h : Int) (wr : World) (v1 v2 : Value) (L1 : List (InD × Value)) (L2 : List (OutD × Value)) : Prop where
  box : wr.heap[p]? = some (.cells #[.int .i64 h, v1, v2] 74 (0, 0))
  res : wr.heap[q]? = some (.cells #[.int .i64 0, .slice none 0 0, .slice none 0 0] 74 (0, 0))
  pq : p ≠ q
  lin : wr.heap[lb]? = some (.cells A 9 (0, 0))
  own1 : wr.ownsRow w.heap.size 140 3 v1 L1.length (inCells L1)
  own2 : wr.ownsRow w.heap.size 84 2 v2 L2.length (outCells L2)
  keys1 : ∀ x ∈ L1, wr.ownsRow w.heap.size 148 2 x.2 x.1.2.2.length (flat x.1.2.2)
  keys2 : ∀ x ∈ L2, wr.ownsRow w.heap.size 148 2 x.2 x.1.2.length (flat x.1.2)
  bel : Below w.heap.size w wr
  pge : w.heap.size ≤ p

theorem PL.later {w : World} {q p lb : Nat} {A : Array Value} {h : Int} {wr w' : World} {v1 v2 : Value} {L1 : List (InD × Value)} {L2 : List (OutD × Value)} (s : PL w q p lb A h wr v1 v2 L1 L2) (hb : Below wr.heap.size wr w') : PL w q p lb A h w' v1 v2 L1 L2 where
  box := (hb.block _ (lt_of_block s.box)).trans s.box
  res := (hb.block _ (lt_of_block s.res)).trans s.res
  pq := s.pq
  lin := (hb.block _ (lt_of_block s.lin)).trans s.lin
  own1 := own_keep s.own1 hb
  own2 := own_keep s.own2 hb
  keys1 := fun x hx => own_keep (s.keys1 x hx) hb
  keys2 := fun x hx => own_keep (s.keys2 x hx) hb
  bel := bel_on s.bel hb
  pge := s.pge

/-- What an append to a row leaves alone: all blocks of other types. -/
theorem grow_type {w w' : World} {base : Nat} {e : TypeId} {size : Nat} {v : Value} {n : Nat} {xs : List Value} (h : w.ownsRow base e size v n xs) (hg : w.grownBy w' v.ownBlock) (k : Nat) (cs : Array Value) (t : TypeId) (hk : w.heap[k]? = some (.cells cs t (0, 0))) (ht : t ≠ e) : w'.heap[k]? = w.heap[k]? := by
  refine hg.block k (lt_of_block hk) (fun e1 => ?_)
  obtain ⟨_, ⟨rfl, _⟩ | ⟨g, cap, cur, rfl, _, hh, _⟩⟩ := h
  · cases e1
  · have e2 : k = g := by injection e1
    subst e2
    rw [hk] at hh
    injection hh with hh
    injection hh with _ hh
    exact ht hh

theorem PL.alloc {w : World} {q p lb : Nat} {A : Array Value} {h : Int} {wr : World} {v1 v2 : Value} {L1 : List (InD × Value)} {L2 : List (OutD × Value)} (s : PL w q p lb A h wr v1 v2 L1 L2) (o : Obj) : PL w q p lb A h (wr.alloc o) v1 v2 L1 L2 := s.later (bel_new wr o)
theorem PL.drewN {w : World} {q p lb : Nat} {A : Array Value} {h : Int} {wr : World} {v1 v2 : Value} {L1 : List (InD × Value)} {L2 : List (OutD × Value)} (s : PL w q p lb A h wr v1 v2 L1 L2) (n : Nat) : PL w q p lb A h (wr.drewN n) v1 v2 L1 L2 :=
  s.later ⟨rfl, rfl, rfl, Nat.le_refl _, fun _ _ => rfl⟩

end Go.Proofs.YtepmnpapdknocaaGreatDoor
