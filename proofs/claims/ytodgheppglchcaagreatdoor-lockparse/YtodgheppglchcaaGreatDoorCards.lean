/-
  DERIVED. GIVEN WITH THE SEED: THE CARDS: each row of YtodgheppglchcaaGreatDoorRows.lean that lists a variable, with what it lists TIED to the program's text (the seventh form; the later family's looks); each row that meets fmt, with fmt's text TOLD by the authors' own Lean function (tested against real Go, not proved from fmt's source: count such statements apart). THE CARD IS WHAT COUNTS. Prove the row's statement (the work); the ties are given (YtodgheppglchcaaGreatDoorTie.lean); close each card by the builder's one call (the guide's Derived/Test/ToyasCard.lean, 'card_holds'). Laid BY PROGRAM, IN A SANDBOX (cutbox-door.mjs). By AI agents, Wed Nov 11 2026. No macro, syntax, notation, axiom, sorry.
-/
import Derived.Test.YtodgheppglchcaaGreatDoorRows
import GoSem.ClaimSeven
namespace Go.Proofs.YtodgheppglchcaaGreatDoor
namespace Rows

/-- THE TIED CARD OF 'cairnlaw.LockParse'. -/
def lockParseCard : Claim7 := { stood := { row := lockParseRow, standIns := [], harness := (true, "df238f1e923077340cd95e09998b5668e865714e2ff7723c863b80b5b6b5d029"), looks := true }, kinds := [], alts := [], laidByText := true, laidKinds := [.data, .data, .data, .data, .sentinel, .sentinel, .listed, .data, .data, .pinned], laidTests := true, laidLooks := .later }
def LockParseCardSaid : Prop := Claim7.holds Tryz.pinned (.plain (OpenSpec.ofChange lockParseSpec)) lockParseCard

/-- THE SECOND FORM's CARD OF 'cairnlaw.LockParse'. -/
def lockParseUptoCard : Claim7 := { stood := { row := lockParseUptoRow, standIns := [], harness := (true, "df238f1e923077340cd95e09998b5668e865714e2ff7723c863b80b5b6b5d029"), looks := true }, kinds := [], alts := [], laidByText := true, laidKinds := [.data, .data, .data, .data, .sentinel, .sentinel, .listed, .data, .data, .pinned], laidTests := true, laidLooks := .later }
def LockParseUptoCardSaid : Prop := Claim7.holds Tryz.pinned (.plain (OpenSpec.upto lockParseSpec)) lockParseUptoCard
end Rows
end Go.Proofs.YtodgheppglchcaaGreatDoor
