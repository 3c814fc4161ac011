/- What a sort asks of a comparison and of an exchange that may lay blocks of their own. Nothing of the program. -/
import Derived.Test.YtepmnpapdknocaaGreatDoorLockBase
import Derived.BigCall
import Derived.BigGuard
import Derived.Deep.CutBlock
import Derived.Shelf.Abstract
import Derived.Sort.AssemblyPlain
namespace Go.Proofs.YtepmnpapdknocaaGreatDoor
open Go.RowKit

/-- The blocks from B on that were there are as they were. -/
structure Kp (B : Nat) (w w' : World) : Prop where
  size : w.heap.size ≤ w'.heap.size
  same : ∀ b, B ≤ b → b < w.heap.size → w'.heap[b]? = w.heap[b]?
theorem Kp.refl (B : Nat) (w : World) : Kp B w w := ⟨Nat.le_refl _, fun _ _ _ => rfl⟩
theorem Kp.trans {B : Nat} {w1 w2 w3 : World} (h : Kp B w1 w2) (k : Kp B w2 w3) : Kp B w1 w3 :=
  ⟨Nat.le_trans h.size k.size, fun b hb hl => (k.same b hb (Nat.lt_of_lt_of_le hl h.size)).trans (h.same b hb hl)⟩
theorem Kp.alloc (B : Nat) (w : World) (o : Obj) : Kp B w (w.alloc o) :=
  ⟨((Below.refl _ _).alloc (Nat.le_refl _) o : Below w.heap.size w (w.alloc o)).size, fun b _ hl => ((Below.refl _ _).alloc (Nat.le_refl _) o : Below w.heap.size w (w.alloc o)).block b hl⟩
theorem Kp.cell {B : Nat} {w w' : World} (h : Kp B w w') {p : Addr} {v : Value} (hb : B ≤ p.block) (hc : w.cell? p = some v) : w'.cell? p = some v := by
  have hl := World.block_lt_of_cell? w p hc
  have e := h.same p.block hb hl
  simp only [World.cell?] at hc ⊢
  rw [e]
  exact hc

/-- What is asked: the comparison is function g bound to lb, the exchange sf bound to sb; St tells what the row holds. -/
structure Sr {α : Type} [Inhabited α] (P : Program) (g : Nat) (lb : Array Value) (sf : Nat) (sb : Array Value) (lt : α → α → Bool) (n B : Nat) (St : World → Array α → Prop) : Prop where
  order : Sort.SWO lt
  small : n ≤ 4096
  enters : ∀ args w, (callFunc g args).run P w = .ok (.enter g args) w
  less : ∀ w d (i j : Nat), St w d → i < n → j < n → Calls P g (#[.int .i64 i, .int .i64 j] ++ lb) w fun e w' => e = .returned (.bool (lt d[i]! d[j]!)) ∧ St w' d ∧ Kp B w w'
  swap : ∀ w d (i j : Nat), St w d → i < n → j < n → ∃ w', (callFunc sf (#[.int .i64 i, .int .i64 j] ++ sb)).run P w = .ok (.value (.tuple #[])) w' ∧ St w' (Sort.swp d i j) ∧ Kp B w w'
  size : ∀ w d, St w d → d.size = n
  low : ∀ w d, St w d → B ≤ w.heap.size
  alloc : ∀ w d o, St w d → St (w.alloc o) d
  store : ∀ w d b o v, St w d → B ≤ b → St (w.setCell ⟨b, o, none⟩ v) d

def lsV (g : Nat) (lb : Array Value) (sf : Nat) (sb : Array Value) : Value := .agg #[.func (.func g) #[] lb, .func (.func sf) #[] sb]

/-- A box of two cells that has just been laid. -/
theorem box_two (w : World) (x y : Value) (t : TypeId) : (w.alloc (.cells #[x, y] t)).cell? ⟨w.heap.size, 0, none⟩ = some x ∧ (w.alloc (.cells #[x, y] t)).cell? ⟨w.heap.size, 1, none⟩ = some y :=
  ⟨by rw [World.cell?_alloc_at _ _ _ _ rfl]; rfl, by rw [World.cell?_alloc_at _ _ _ _ rfl]; rfl⟩

theorem insOuter_on {α : Type} [Inhabited α] (lt : α → α → Bool) (a b i : Nat) (d : Array α) (h : i < b) : Sort.insOuter lt a b i d = Sort.insOuter lt a b (i + 1) (Sort.insInner lt a i d) := by
  rw [Sort.insOuter, if_pos h]
theorem insOuter_end {α : Type} [Inhabited α] (lt : α → α → Bool) (a b i : Nat) (d : Array α) (h : ¬ i < b) : Sort.insOuter lt a b i d = d := by
  rw [Sort.insOuter, if_neg h]
theorem insInner_on {α : Type} [Inhabited α] (lt : α → α → Bool) (a j : Nat) (d : Array α) (h : a < j) (hl : lt d[j]! d[j - 1]! = true) : Sort.insInner lt a j d = Sort.insInner lt a (j - 1) (Sort.swp d j (j - 1)) := by
  obtain ⟨k, rfl⟩ : ∃ k, j = k + 1 := ⟨j - 1, by omega⟩
  rw [Nat.add_sub_cancel] at hl ⊢
  rw [Sort.insInner, if_pos (by simp [hl, h])]
theorem insInner_end {α : Type} [Inhabited α] (lt : α → α → Bool) (a j : Nat) (d : Array α) (h : j ≤ a ∨ lt d[j]! d[j - 1]! = false) : Sort.insInner lt a j d = d := by
  cases j with
  | zero => rfl
  | succ k =>
    rw [Sort.insInner, if_neg]
    rcases h with h | h
    · simp; omega
    · rw [Nat.add_sub_cancel] at h
      simp [h]

end Go.Proofs.YtepmnpapdknocaaGreatDoor
