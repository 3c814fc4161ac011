/- Transactions in memory: rows of records, whose slices lead on to rows. -/
import Derived.Test.YtepmnpapdknocaaGreatDoorTxMath
import Derived.Test.YtepmnpapdknocaaGreatDoorLockCheck
import Derived.Test.YtepmnpapdknocaaGreatDoorLockRow
namespace Go.Proofs.YtepmnpapdknocaaGreatDoor
open Go.RowKit

/-- A slice of records of sz cells each, place by place. -/
def RowsAt {α : Type} (R : World → Nat → Nat → α → Prop) (sz : Nat) (w : World) (a : Option Addr) (len : Nat) (l : List α) : Prop :=
  l.length = len ∧ (0 < len → ∃ b off, a = some ⟨b, off, none⟩ ∧ b < w.heap.size ∧ ∀ i (h : i < l.length), R w b (off + i * sz) l[i])

def KeptR {α : Type} (R : World → Nat → Nat → α → Prop) : Prop := ∀ (w w' : World) (b o : Nat) (x : α), Below w.heap.size w w' → R w b o x → R w' b o x

theorem RowsAt.later {α : Type} {R : World → Nat → Nat → α → Prop} (hR : KeptR R) {sz : Nat} {w w' : World} {a : Option Addr} {len : Nat} {l : List α} (h : RowsAt R sz w a len l) (hb : Below w.heap.size w w') : RowsAt R sz w' a len l := by
  refine ⟨h.1, fun h0 => ?_⟩
  obtain ⟨b, off, e, hl, hc⟩ := h.2 h0
  exact ⟨b, off, e, Nat.lt_of_lt_of_le hl hb.size, fun i hi => hR w w' b _ _ hb (hc i hi)⟩
theorem RowsAt.nil {α : Type} {R : World → Nat → Nat → α → Prop} {sz : Nat} (w : World) (a : Option Addr) : RowsAt R sz w a 0 [] := ⟨rfl, fun h => absurd h (by omega)⟩

theorem cell_later {w w' : World} {p : Addr} {v : Value} (hb : Below w.heap.size w w') (h : w.cell? p = some v) : w'.cell? p = some v := by
  rw [hb.cell (p := p) (World.block_lt_of_cell? _ _ h)]; exact h

/-- The head of a slice that a program can hold. -/
def SlOk (a : Option Addr) (n c : Nat) : Prop := n ≤ c ∧ c ≤ maxLen ∧ (a = none → n = 0 ∧ c = 0)
theorem SlOk.len {a : Option Addr} {n c : Nat} (h : SlOk a n c) : n ≤ maxLen := Nat.le_trans h.1 h.2.1

def InAt (w : World) (b o : Nat) (x : InD) : Prop :=
  w.cell? ⟨b, o, none⟩ = some (.int .i64 x.1) ∧ w.cell? ⟨b, o + 1, none⟩ = some (.int .i64 x.2.1) ∧ ∃ a n c, w.cell? ⟨b, o + 2, none⟩ = some (.slice a n c) ∧ OpsAt w a n x.2.2 ∧ SlOk a n c
def OutAt (w : World) (b o : Nat) (x : OutD) : Prop :=
  w.cell? ⟨b, o, none⟩ = some (.int .i64 x.1) ∧ ∃ a n c, w.cell? ⟨b, o + 1, none⟩ = some (.slice a n c) ∧ OpsAt w a n x.2 ∧ SlOk a n c

theorem InAt.kept : KeptR InAt := fun _ _ _ _ _ hb h => by
  obtain ⟨h1, h2, a, n, c, h3, h4, h5⟩ := h
  exact ⟨cell_later hb h1, cell_later hb h2, a, n, c, cell_later hb h3, h4.later hb, h5⟩
theorem OutAt.kept : KeptR OutAt := fun _ _ _ _ _ hb h => by
  obtain ⟨h1, a, n, c, h3, h4, h5⟩ := h
  exact ⟨cell_later hb h1, a, n, c, cell_later hb h3, h4.later hb, h5⟩

def InsAt (w : World) (a : Option Addr) (len : Nat) (l : List InD) : Prop := RowsAt InAt 3 w a len l
def OutsAt (w : World) (a : Option Addr) (len : Nat) (l : List OutD) : Prop := RowsAt OutAt 2 w a len l
theorem InsAt.later {w w' : World} {a : Option Addr} {len : Nat} {l : List InD} (h : InsAt w a len l) (hb : Below w.heap.size w w') : InsAt w' a len l := RowsAt.later InAt.kept h hb
theorem OutsAt.later {w w' : World} {a : Option Addr} {len : Nat} {l : List OutD} (h : OutsAt w a len l) (hb : Below w.heap.size w w') : OutsAt w' a len l := RowsAt.later OutAt.kept h hb

/-- The first k places of a row are a row. -/
theorem RowsAt.take {α : Type} {R : World → Nat → Nat → α → Prop} {sz : Nat} {w : World} {a : Option Addr} {len : Nat} {l : List α} (h : RowsAt R sz w a len l) (k : Nat) (hk : k ≤ len) : RowsAt R sz w a k (l.take k) := by
  have hl := h.1
  refine ⟨by rw [List.length_take]; omega, fun h0 => ?_⟩
  obtain ⟨b, off, e, hb, hc⟩ := h.2 (by omega)
  refine ⟨b, off, e, hb, fun i hi => ?_⟩
  rw [List.length_take] at hi
  rw [List.getElem_take]
  exact hc i (by omega)

theorem bel_on {w w1 w2 : World} (h1 : Below w.heap.size w w1) (h2 : Below w1.heap.size w1 w2) : Below w.heap.size w w2 := h1.trans (h2.mono h1.size)
theorem bel_new (w : World) (o : Obj) : Below w.heap.size w (w.alloc o) := (Below.refl _ _).alloc (Nat.le_refl _) _

end Go.Proofs.YtepmnpapdknocaaGreatDoor
