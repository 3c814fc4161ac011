/-
  DERIVED. GIVEN WITH THE SEED: THE CARDS: each row of YtbddijbmepdliaaGreatDoorRows.lean that lists a variable, with what it lists TIED to the program's text (the seventh form; the later family's looks); each row that meets fmt, with fmt's text TOLD by the authors' own Lean function (tested against real Go, not proved from fmt's source: count such statements apart). THE CARD IS WHAT COUNTS. Prove the row's statement (the work); the ties are given (YtbddijbmepdliaaGreatDoorTie.lean); close each card by the builder's one call (the guide's Derived/Test/ToyasCard.lean, 'card_holds'). Laid BY PROGRAM, IN A SANDBOX (cutbox-door.mjs). By AI agents, Wed Nov 11 2026. No macro, syntax, notation, axiom, sorry.
-/
import Derived.Test.YtbddijbmepdliaaGreatDoorRows
import GoSem.ClaimSeven
namespace Go.Proofs.YtbddijbmepdliaaGreatDoor
namespace Rows

/-- THE TIED CARD OF 'cairnlaw.NodeTake'. -/
def nodeTakeCard : Claim7 := { stood := { row := nodeTakeRow, standIns := [], harness := (true, "655f47bba930b59ca91cb5f19b4c6c3a4bb0e0dd4379e26074832ba41a167a43"), looks := false }, kinds := [], alts := [], laidByText := true, laidKinds := [.data, .data, .data, .listed, .data, .data], laidTests := true, laidLooks := .later }
def NodeTakeCardSaid : Prop := Claim7.holds Tryz.pinned (.plain (OpenSpec.ofChange nodeTakeSpec)) nodeTakeCard

/-- THE SECOND FORM's CARD OF 'cairnlaw.NodeTake'. -/
def nodeTakeUptoCard : Claim7 := { stood := { row := nodeTakeUptoRow, standIns := [], harness := (true, "655f47bba930b59ca91cb5f19b4c6c3a4bb0e0dd4379e26074832ba41a167a43"), looks := false }, kinds := [], alts := [], laidByText := true, laidKinds := [.data, .data, .data, .listed, .data, .data], laidTests := true, laidLooks := .later }
def NodeTakeUptoCardSaid : Prop := Claim7.holds Tryz.pinned (.plain (OpenSpec.upto nodeTakeSpec)) nodeTakeUptoCard
end Rows
end Go.Proofs.YtbddijbmepdliaaGreatDoor
