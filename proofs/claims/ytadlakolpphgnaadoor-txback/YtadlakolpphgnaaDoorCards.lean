/-
  DERIVED. GIVEN WITH THE SEED: THE CARDS: each row of YtadlakolpphgnaaDoorRows.lean that lists a variable, with what it lists TIED to the program's text (the seventh form; the later family's looks); each row that meets fmt, with fmt's text TOLD by the authors' own Lean function (tested against real Go, not proved from fmt's source: count such statements apart). THE CARD IS WHAT COUNTS. Prove the row's statement (the work); the ties are given (YtadlakolpphgnaaDoorTie.lean); close each card by the builder's one call (the guide's Derived/Test/ToyasCard.lean, 'card_holds'). Laid BY PROGRAM, IN A SANDBOX (cutbox-door.mjs). By AI agents, Wed Nov 11 2026. No macro, syntax, notation, axiom, sorry.
-/
import Derived.Test.YtadlakolpphgnaaDoorRows
import GoSem.ClaimSeven
namespace Go.Proofs.YtadlakolpphgnaaDoor
namespace Rows

/-- THE TIED CARD OF 'cairnlaw.TxBack'. -/
def txBackCard : Claim7 := { stood := { row := txBackRow, standIns := [], harness := (true, "7c592b03724e21d78b919e763091544275eeb63d8f4a9e9fe77322ebace621de"), looks := true }, kinds := [], alts := [], laidByText := true, laidKinds := [.data, .data, .data, .data, .sentinel, .sentinel, .data, .pinned], laidTests := true, laidLooks := .later }
def TxBackCardSaid : Prop := Claim7.holds Tryd.pinned (.plain (OpenSpec.ofChange txBackSpec)) txBackCard

/-- THE TIED CARD OF 'cairnlaw.TxTexts'. -/
def txTextsCard : Claim7 := { stood := { row := txTextsRow, standIns := [], harness := (true, "7c592b03724e21d78b919e763091544275eeb63d8f4a9e9fe77322ebace621de"), looks := true }, kinds := [], alts := [], laidByText := true, laidKinds := [.data, .data, .data, .data, .sentinel, .sentinel, .data, .pinned], laidTests := true, laidLooks := .later }
def TxTextsCardSaid : Prop := Claim7.holds Tryd.pinned (.plain (OpenSpec.ofChange txTextsSpec)) txTextsCard

/-- THE SECOND FORM's CARD OF 'cairnlaw.TxBack'. -/
def txBackUptoCard : Claim7 := { stood := { row := txBackUptoRow, standIns := [], harness := (true, "7c592b03724e21d78b919e763091544275eeb63d8f4a9e9fe77322ebace621de"), looks := true }, kinds := [], alts := [], laidByText := true, laidKinds := [.data, .data, .data, .data, .sentinel, .sentinel, .data, .pinned], laidTests := true, laidLooks := .later }
def TxBackUptoCardSaid : Prop := Claim7.holds Tryd.pinned (.plain (OpenSpec.upto txBackSpec)) txBackUptoCard

/-- THE SECOND FORM's CARD OF 'cairnlaw.TxTexts'. -/
def txTextsUptoCard : Claim7 := { stood := { row := txTextsUptoRow, standIns := [], harness := (true, "7c592b03724e21d78b919e763091544275eeb63d8f4a9e9fe77322ebace621de"), looks := true }, kinds := [], alts := [], laidByText := true, laidKinds := [.data, .data, .data, .data, .sentinel, .sentinel, .data, .pinned], laidTests := true, laidLooks := .later }
def TxTextsUptoCardSaid : Prop := Claim7.holds Tryd.pinned (.plain (OpenSpec.upto txTextsSpec)) txTextsUptoCard
end Rows
end Go.Proofs.YtadlakolpphgnaaDoor
