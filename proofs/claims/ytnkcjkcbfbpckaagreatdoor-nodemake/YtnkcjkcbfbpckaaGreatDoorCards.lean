/-
  DERIVED. GIVEN WITH THE SEED: THE CARDS: each row of YtnkcjkcbfbpckaaGreatDoorRows.lean that lists a variable, with what it lists TIED to the program's text (the seventh form; the later family's looks); each row that meets fmt, with fmt's text TOLD by the authors' own Lean function (tested against real Go, not proved from fmt's source: count such statements apart). THE CARD IS WHAT COUNTS. Prove the row's statement (the work); the ties are given (YtnkcjkcbfbpckaaGreatDoorTie.lean); close each card by the builder's one call (the guide's Derived/Test/ToyasCard.lean, 'card_holds'). Laid BY PROGRAM, IN A SANDBOX (cutbox-door.mjs). By AI agents, Wed Nov 11 2026. No macro, syntax, notation, axiom, sorry.
-/
import Derived.Test.YtnkcjkcbfbpckaaGreatDoorRows
import GoSem.ClaimSeven
namespace Go.Proofs.YtnkcjkcbfbpckaaGreatDoor
namespace Rows

/-- THE TIED CARD OF 'cairnlaw.NodeMake'. -/
def nodeMakeCard : Claim7 := { stood := { row := nodeMakeRow, standIns := [], harness := (true, "5eba4ad04d47fd676489711ea04b0e824eb4ea6dd7071bace62e8c73acc47f63"), looks := false }, kinds := [], alts := [], laidByText := true, laidKinds := [.data, .data, .data, .listed, .data, .data], laidTests := true, laidLooks := .later }
def NodeMakeCardSaid : Prop := Claim7.holds Tryz.pinned (.plain (OpenSpec.ofChange nodeMakeSpec)) nodeMakeCard

/-- THE SECOND FORM's CARD OF 'cairnlaw.NodeMake'. -/
def nodeMakeUptoCard : Claim7 := { stood := { row := nodeMakeUptoRow, standIns := [], harness := (true, "5eba4ad04d47fd676489711ea04b0e824eb4ea6dd7071bace62e8c73acc47f63"), looks := false }, kinds := [], alts := [], laidByText := true, laidKinds := [.data, .data, .data, .listed, .data, .data], laidTests := true, laidLooks := .later }
def NodeMakeUptoCardSaid : Prop := Claim7.holds Tryz.pinned (.plain (OpenSpec.upto nodeMakeSpec)) nodeMakeUptoCard
end Rows
end Go.Proofs.YtnkcjkcbfbpckaaGreatDoor
