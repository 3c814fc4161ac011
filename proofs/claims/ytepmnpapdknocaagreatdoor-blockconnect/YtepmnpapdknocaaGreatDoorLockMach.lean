/- The machine of package lock in memory: what its nineteen cells hold, and what a store into one of them turns. -/
import Derived.Test.YtepmnpapdknocaaGreatDoorLockBase
namespace Go.Proofs.YtepmnpapdknocaaGreatDoor
open Go.RowKit

def MS.cells (s : MS) : Array Value := (s.cs.map (Value.int .i64) ++ ([Value.int .i64 s.n, Value.int .i64 s.h, Value.bool s.f] : List Value)).toArray

theorem MS.cells_stack {s : MS} (hs : s.ok) (i : Nat) (hi : i < 16) : s.cells[i]? = some (.int .i64 (s.cs.getD i 0)) := by
  have hl : i < s.cs.length := by rw [hs.1]; exact hi
  simp [MS.cells, List.getElem?_append_left, hl]
theorem MS.cells_n {s : MS} (hs : s.ok) : s.cells[16]? = some (.int .i64 s.n) := by
  have hl := hs.1
  simp [MS.cells, hl]
theorem MS.cells_h {s : MS} (hs : s.ok) : s.cells[17]? = some (.int .i64 s.h) := by
  have hl := hs.1
  simp [MS.cells, hl]
theorem MS.cells_f {s : MS} (hs : s.ok) : s.cells[18]? = some (.bool s.f) := by
  have hl := hs.1
  simp [MS.cells, hl]

theorem MS.set_stack {s : MS} (hs : s.ok) (i : Nat) (hi : i < 16) (x : Int) : s.cells.setIfInBounds i (.int .i64 x) = MS.cells { s with cs := s.cs.set i x } := by
  have hl : i < (s.cs.map (Value.int .i64)).length := by rw [List.length_map, hs.1]; exact hi
  simp only [MS.cells, List.setIfInBounds_toArray, List.set_append_left _ _ hl, List.map_set]
theorem MS.set_n {s : MS} (hs : s.ok) (n : Nat) : s.cells.setIfInBounds 16 (.int .i64 n) = MS.cells { s with n := n } := by
  have hl : (s.cs.map (Value.int .i64)).length = 16 := by rw [List.length_map, hs.1]
  simp only [MS.cells, List.setIfInBounds_toArray]
  rw [List.set_append_right _ _ (by omega), hl]; rfl
theorem MS.set_f {s : MS} (hs : s.ok) (b : Bool) : s.cells.setIfInBounds 18 (.bool b) = MS.cells { s with f := b } := by
  have hl : (s.cs.map (Value.int .i64)).length = 16 := by rw [List.length_map, hs.1]
  simp only [MS.cells, List.setIfInBounds_toArray]
  rw [List.set_append_right _ _ (by omega), hl]; rfl

/-- Block p is the machine s; all other blocks of W are as they are in W. -/
structure Mach (p : Nat) (s : MS) (W w : World) : Prop where
  good : s.ok
  block : w.heap[p]? = some (.cells s.cells 248 (0, 0))
  old : ∀ k, k ≠ p → k < W.heap.size → w.heap[k]? = W.heap[k]?
  size : W.heap.size ≤ w.heap.size
  os : w.os = W.os
  tape : w.tape = W.tape
  output : w.output = W.output

theorem Mach.lt {p : Nat} {s : MS} {W w : World} (h : Mach p s W w) : p < w.heap.size := lt_of_block h.block
theorem Mach.cell {p : Nat} {s : MS} {W w : World} (h : Mach p s W w) (i : Nat) : w.cell? ⟨p, i, none⟩ = s.cells[i]? := by simp [World.cell?, h.block]
theorem Mach.cell_n {p : Nat} {s : MS} {W w : World} (h : Mach p s W w) : w.cell? ⟨p, 16, none⟩ = some (.int .i64 s.n) := by rw [h.cell, MS.cells_n h.good]
theorem Mach.cell_h {p : Nat} {s : MS} {W w : World} (h : Mach p s W w) : w.cell? ⟨p, 17, none⟩ = some (.int .i64 s.h) := by rw [h.cell, MS.cells_h h.good]
theorem Mach.cell_f {p : Nat} {s : MS} {W w : World} (h : Mach p s W w) : w.cell? ⟨p, 18, none⟩ = some (.bool s.f) := by rw [h.cell, MS.cells_f h.good]
theorem Mach.cell_s {p : Nat} {s : MS} {W w : World} (h : Mach p s W w) (i : Nat) (hi : i < 16) : w.cell? ⟨p, i, none⟩ = some (.int .i64 (s.cs.getD i 0)) := by rw [h.cell, MS.cells_stack h.good i hi]
theorem Mach.free {p : Nat} {s : MS} {W w : World} (h : Mach p s W w) (i : Nat) : w.frozen? ⟨p, i, none⟩ = false := by simp [World.frozen?, h.block]

theorem Mach.store {p : Nat} {s s' : MS} {W w : World} (h : Mach p s W w) (i : Nat) (v : Value) (e : s.cells.setIfInBounds i v = s'.cells) (g : s'.ok) : Mach p s' W (w.setCell ⟨p, i, none⟩ v) where
  good := g
  block := by
    rw [heap_setCell_same w p i s.cells 248 v h.block, e]
  old := fun k hk hl => by rw [heap_setCell_other w ⟨p, i, none⟩ k v hk]; exact h.old k hk hl
  size := by rw [World.size_setCell]; exact h.size
  os := h.os
  tape := h.tape
  output := h.output

theorem Mach.drew {p : Nat} {s : MS} {W w : World} (h : Mach p s W w) : Mach p s W w.drew := ⟨h.good, h.block, h.old, h.size, h.os, h.tape, h.output⟩
theorem Mach.drewN {p : Nat} {s : MS} {W w : World} (h : Mach p s W w) (n : Nat) : Mach p s W (w.drewN n) := ⟨h.good, h.block, h.old, h.size, h.os, h.tape, h.output⟩
theorem Mach.alloc {p : Nat} {s : MS} {W w : World} (h : Mach p s W w) (o : Obj) : Mach p s W (w.alloc o) where
  good := h.good
  block := by rw [Below.heap_alloc w o p h.lt]; exact h.block
  old := fun k hk hl => by rw [Below.heap_alloc w o k (Nat.lt_of_lt_of_le hl h.size)]; exact h.old k hk hl
  size := by have := h.size; simp; omega
  os := h.os
  tape := h.tape
  output := h.output

/-- A cell of another block reads as it did. -/
theorem Mach.past {p : Nat} {s : MS} {W w : World} (h : Mach p s W w) (q : Addr) (hq : q.block ≠ p) (hl : q.block < W.heap.size) : w.cell? q = W.cell? q := World.cell?_of_block (w := W) (h.old q.block hq hl)

theorem Mach.below {p : Nat} {s : MS} {W w : World} (h : Mach p s W w) (hp : W.heap.size ≤ p) : Below W.heap.size W w :=
  ⟨h.os, h.tape, h.output, h.size, fun k hk => h.old k (by omega) hk⟩

/-- Over a later world, told over the first. -/
theorem Mach.trans {p : Nat} {s s' : MS} {W V w : World} (h : Mach p s W V) (k : Mach p s' V w) : Mach p s' W w where
  good := k.good
  block := k.block
  old := fun j hj hl => by rw [k.old j hj (Nat.lt_of_lt_of_le hl h.size)]; exact h.old j hj hl
  size := Nat.le_trans h.size k.size
  os := k.os.trans h.os
  tape := k.tape.trans h.tape
  output := k.output.trans h.output

/-- A machine in a world, told over that world. -/
theorem Mach.self {p : Nat} {s : MS} {W w : World} (h : Mach p s W w) : Mach p s w w := ⟨h.good, h.block, fun _ _ _ => rfl, Nat.le_refl _, rfl, rfl, rfl⟩

end Go.Proofs.YtepmnpapdknocaaGreatDoor
