/-
  DERIVED. GIVEN WITH THE SEED: THE CARDS: each row of YtodgheppglchcaaDoorRows.lean that lists a variable, with what it lists TIED to the program's text (the seventh form; the later family's looks); each row that meets fmt, with fmt's text TOLD by the authors' own Lean function (tested against real Go, not proved from fmt's source: count such statements apart). THE CARD IS WHAT COUNTS. Prove the row's statement (the work); the ties are given (YtodgheppglchcaaDoorTie.lean); close each card by the builder's one call (the guide's Derived/Test/ToyasCard.lean, 'card_holds'). Laid BY PROGRAM, IN A SANDBOX (cutbox-door.mjs). By AI agents, Wed Nov 11 2026. No macro, syntax, notation, axiom, sorry.
-/
import Derived.Test.YtodgheppglchcaaDoorRows
import GoSem.ClaimSeven
namespace Go.Proofs.YtodgheppglchcaaDoor
namespace Rows

/-- THE TIED CARD OF 'cairnlaw.LockRun'. -/
def lockRunCard : Claim7 := { stood := { row := lockRunRow, standIns := [], harness := (true, "36ce440d946c851bb5a4a7ba8688b1652dbb420d3a4e68bb17c13e97811b699b"), looks := false }, kinds := [], alts := [], laidByText := true, laidKinds := [.data, .data, .data, .data], laidTests := true, laidLooks := .later }
def LockRunCardSaid : Prop := Claim7.holds Tryd.pinned (.plain (OpenSpec.ofChange lockRunSpec)) lockRunCard

/-- THE SECOND FORM's CARD OF 'cairnlaw.LockRun'. -/
def lockRunUptoCard : Claim7 := { stood := { row := lockRunUptoRow, standIns := [], harness := (true, "36ce440d946c851bb5a4a7ba8688b1652dbb420d3a4e68bb17c13e97811b699b"), looks := false }, kinds := [], alts := [], laidByText := true, laidKinds := [.data, .data, .data, .data], laidTests := true, laidLooks := .later }
def LockRunUptoCardSaid : Prop := Claim7.holds Tryd.pinned (.plain (OpenSpec.upto lockRunSpec)) lockRunUptoCard
end Rows
end Go.Proofs.YtodgheppglchcaaDoor
