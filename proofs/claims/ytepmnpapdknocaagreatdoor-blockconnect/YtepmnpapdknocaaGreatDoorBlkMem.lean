/- Blocks as plain data and in memory; what is wrong with one. -/
import Derived.Test.YtepmnpapdknocaaGreatDoorTxCheckD
import Derived.Test.YtepmnpapdknocaaGreatDoorCoinTake
namespace Go.Proofs.YtepmnpapdknocaaGreatDoor
open Go.RowKit

/-- A block: its parent, height, work, nonce and transactions. -/
abbrev BlkD := Int × Int × Int × Int × List TxD
def TxAt (w : World) (b o : Nat) (t : TxD) : Prop :=
  w.cell? ⟨b, o, none⟩ = some (.int .i64 t.1) ∧ (∃ a n c, w.cell? ⟨b, o + 1, none⟩ = some (.slice a n c) ∧ InsAt w a n t.2.1 ∧ SlOk a n c) ∧ (∃ a n c, w.cell? ⟨b, o + 2, none⟩ = some (.slice a n c) ∧ OutsAt w a n t.2.2 ∧ SlOk a n c)
theorem TxAt.kept : KeptR TxAt := fun _ _ _ _ _ hb h => by
  obtain ⟨h1, ⟨a, n, c, h2, h3, h4⟩, a', n', c', h5, h6, h7⟩ := h
  exact ⟨cell_later hb h1, ⟨a, n, c, cell_later hb h2, h3.later hb, h4⟩, a', n', c', cell_later hb h5, h6.later hb, h7⟩
def TxsAt (w : World) (a : Option Addr) (len : Nat) (l : List TxD) : Prop := RowsAt TxAt 3 w a len l
theorem TxsAt.later {w w' : World} {a : Option Addr} {len : Nat} {l : List TxD} (h : TxsAt w a len l) (hb : Below w.heap.size w w') : TxsAt w' a len l := RowsAt.later TxAt.kept h hb

def headOk (p h k n : Int) : Bool := (decide (0 ≤ p) && decide (p ≤ 120)) && ((decide (1 ≤ h) && decide (h ≤ 1000)) && ((decide (1 ≤ k) && decide (k ≤ 1000)) && (decide (0 ≤ n) && decide (n ≤ 1000000000))))
def standsD (t : TxD) (i h : Int) : Bool := if 0 < i then !decide (t.2.1.length = 0) else decide (t.2.1.length = 0) && decide (t.1 = h)
def chkTs (h : Int) : Nat → List TxD → Int
  | _, [] => 0
  | i, t :: r => if chkTx t ≠ 0 then chkTx t else if standsD t i h = false then 4 else chkTs h (i + 1) r
def chkB (b : BlkD) : Int := if headOk b.1 b.2.1 b.2.2.1 b.2.2.2.1 = false then 3 else if 4 < b.2.2.2.2.length then 2 else if b.2.2.2.2.length = 0 then 4 else chkTs b.2.1 0 b.2.2.2.2
theorem chkTs_at (h : Int) (T : List TxD) (k : Nat) (hk : k < T.length) : chkTs h k (T.drop k) = if chkTx T[k] ≠ 0 then chkTx T[k] else if standsD T[k] k h = false then 4 else chkTs h (k + 1) (T.drop (k + 1)) := by
  rw [List.drop_eq_getElem_cons hk]; rfl
theorem chkTs_end (h : Int) (T : List TxD) (k : Nat) (hk : T.length ≤ k) : chkTs h k (T.drop k) = 0 := by
  rw [List.drop_of_length_le hk]; rfl

theorem five_heap (w : World) (a b c d e : Value) (t : TypeId) : (w.alloc (.cells #[a, b, c, d, e] t)).heap[w.heap.size]? = some (.cells [a, b, c, d, e].toArray t (0, 0)) := heap_alloc_new w _
theorem results_cell1 {fn : Func} {p : Tmp} {ty : TypeId} (h : fn.results = #[.cell p ty]) (tmps : Array Value) (P : Program) (w : World) :
    (results fn tmps).run P w = ((asAddr (tmps.getD p undef)).run P w).andThen fun a w₁ => (loadVar ty a).run P w₁ := by
  simp only [results, h]
  simp [Sem.run_bind, Result.andThen]

end Go.Proofs.YtepmnpapdknocaaGreatDoor
