/- Coins in memory: rows of records of six cells, whose slices lead on to orders. -/
import Derived.Test.YtepmnpapdknocaaGreatDoorTxMem
import Derived.Test.YtepmnpapdknocaaGreatDoorCoinMath
namespace Go.Proofs.YtepmnpapdknocaaGreatDoor
open Go.RowKit

/-- A coin's cells, its lock's slice given. -/
def cnV (x : CoinD) (a : Option Addr) (n c : Nat) : Value := .agg #[.int .i64 x.1, .int .i64 x.2.1, .int .i64 (cv x), .slice a n c, .int .i64 (ch x), .bool (cr x)]
def CoinAt (w : World) (b o : Nat) (x : CoinD) : Prop :=
  w.cell? ⟨b, o, none⟩ = some (.int .i64 x.1) ∧ w.cell? ⟨b, o + 1, none⟩ = some (.int .i64 x.2.1) ∧ w.cell? ⟨b, o + 2, none⟩ = some (.int .i64 (cv x)) ∧
  (∃ a n c, w.cell? ⟨b, o + 3, none⟩ = some (.slice a n c) ∧ OpsAt w a n (ck x) ∧ SlOk a n c) ∧
  w.cell? ⟨b, o + 4, none⟩ = some (.int .i64 (ch x)) ∧ w.cell? ⟨b, o + 5, none⟩ = some (.bool (cr x))
theorem CoinAt.kept : KeptR CoinAt := fun _ _ _ _ _ hb h => by
  obtain ⟨h1, h2, h3, ⟨a, n, c, h4, h5, h6⟩, h7, h8⟩ := h
  exact ⟨cell_later hb h1, cell_later hb h2, cell_later hb h3, ⟨a, n, c, cell_later hb h4, h5.later hb, h6⟩, cell_later hb h7, cell_later hb h8⟩
def CoinsAt (w : World) (a : Option Addr) (len : Nat) (l : List CoinD) : Prop := RowsAt CoinAt 6 w a len l
theorem CoinsAt.later {w w' : World} {a : Option Addr} {len : Nat} {l : List CoinD} (h : CoinsAt w a len l) (hb : Below w.heap.size w w') : CoinsAt w' a len l := RowsAt.later CoinAt.kept h hb

theorem six_new (w : World) (a b c d e f : Value) (t : TypeId) : (w.alloc (.cells #[a, b, c, d, e, f] t)).cell? ⟨w.heap.size, 0, none⟩ = some a ∧ (w.alloc (.cells #[a, b, c, d, e, f] t)).cell? ⟨w.heap.size, 1, none⟩ = some b ∧ (w.alloc (.cells #[a, b, c, d, e, f] t)).cell? ⟨w.heap.size, 2, none⟩ = some c ∧
    (w.alloc (.cells #[a, b, c, d, e, f] t)).cell? ⟨w.heap.size, 3, none⟩ = some d ∧ (w.alloc (.cells #[a, b, c, d, e, f] t)).cell? ⟨w.heap.size, 4, none⟩ = some e ∧ (w.alloc (.cells #[a, b, c, d, e, f] t)).cell? ⟨w.heap.size, 5, none⟩ = some f := by
  refine ⟨?_, ?_, ?_, ?_, ?_, ?_⟩ <;> (rw [World.cell?_alloc_at _ _ _ _ rfl]; rfl)

end Go.Proofs.YtepmnpapdknocaaGreatDoor
