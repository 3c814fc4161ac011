/-
  DERIVED. GIVEN WITH THE SEED: THE CARDS: each row of YtadlakolpphgnaaGreatDoorRows.lean that lists a variable, with what it lists TIED to the program's text (the seventh form; the later family's looks); each row that meets fmt, with fmt's text TOLD by the authors' own Lean function (tested against real Go, not proved from fmt's source: count such statements apart). THE CARD IS WHAT COUNTS. Prove the row's statement (the work); the ties are given (YtadlakolpphgnaaGreatDoorTie.lean); close each card by the builder's one call (the guide's Derived/Test/ToyasCard.lean, 'card_holds'). Laid BY PROGRAM, IN A SANDBOX (cutbox-door.mjs). By AI agents, Wed Nov 11 2026. No macro, syntax, notation, axiom, sorry.
-/
import Derived.Test.YtadlakolpphgnaaGreatDoorRows
import GoSem.ClaimSeven
namespace Go.Proofs.YtadlakolpphgnaaGreatDoor
namespace Rows

/-- THE TIED CARD OF 'cairnlaw.TxPrint'. -/
def txPrintCard : Claim7 := { stood := { row := txPrintRow, standIns := [], harness := (true, "753e891a85a1bf9309c537adac99bcfff9a7606b3e806460e93fbac2512f16bc"), looks := true }, kinds := [], alts := [], laidByText := true, laidKinds := [.data, .data, .data, .data, .sentinel, .sentinel, .listed, .data, .data, .pinned], laidTests := true, laidLooks := .later }
def TxPrintCardSaid : Prop := Claim7.holds Tryz.pinned (.plain (OpenSpec.ofChange txPrintSpec)) txPrintCard

/-- THE TIED CARD OF 'cairnlaw.TxParse'. -/
def txParseCard : Claim7 := { stood := { row := txParseRow, standIns := [], harness := (true, "753e891a85a1bf9309c537adac99bcfff9a7606b3e806460e93fbac2512f16bc"), looks := true }, kinds := [], alts := [], laidByText := true, laidKinds := [.data, .data, .data, .data, .sentinel, .sentinel, .listed, .data, .data, .pinned], laidTests := true, laidLooks := .later }
def TxParseCardSaid : Prop := Claim7.holds Tryz.pinned (.plain (OpenSpec.ofChange txParseSpec)) txParseCard

/-- THE SECOND FORM's CARD OF 'cairnlaw.TxPrint'. -/
def txPrintUptoCard : Claim7 := { stood := { row := txPrintUptoRow, standIns := [], harness := (true, "753e891a85a1bf9309c537adac99bcfff9a7606b3e806460e93fbac2512f16bc"), looks := true }, kinds := [], alts := [], laidByText := true, laidKinds := [.data, .data, .data, .data, .sentinel, .sentinel, .listed, .data, .data, .pinned], laidTests := true, laidLooks := .later }
def TxPrintUptoCardSaid : Prop := Claim7.holds Tryz.pinned (.plain (OpenSpec.upto txPrintSpec)) txPrintUptoCard

/-- THE SECOND FORM's CARD OF 'cairnlaw.TxParse'. -/
def txParseUptoCard : Claim7 := { stood := { row := txParseUptoRow, standIns := [], harness := (true, "753e891a85a1bf9309c537adac99bcfff9a7606b3e806460e93fbac2512f16bc"), looks := true }, kinds := [], alts := [], laidByText := true, laidKinds := [.data, .data, .data, .data, .sentinel, .sentinel, .listed, .data, .data, .pinned], laidTests := true, laidLooks := .later }
def TxParseUptoCardSaid : Prop := Claim7.holds Tryz.pinned (.plain (OpenSpec.upto txParseSpec)) txParseUptoCard
end Rows
end Go.Proofs.YtadlakolpphgnaaGreatDoor
