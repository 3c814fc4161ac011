/-
  DERIVED. GIVEN WITH THE SEED: THE CARDS: each row of YtepmnpapdknocaaGreatDoorRows.lean that lists a variable, with what it lists TIED to the program's text (the seventh form; the later family's looks); each row that meets fmt, with fmt's text TOLD by the authors' own Lean function (tested against real Go, not proved from fmt's source: count such statements apart). THE CARD IS WHAT COUNTS. Prove the row's statement (the work); the ties are given (YtepmnpapdknocaaGreatDoorTie.lean); close each card by the builder's one call (the guide's Derived/Test/ToyasCard.lean, 'card_holds'). Laid BY PROGRAM, IN A SANDBOX (cutbox-door.mjs). By AI agents, Wed Nov 11 2026. No macro, syntax, notation, axiom, sorry.
-/
import Derived.Test.YtepmnpapdknocaaGreatDoorRows
import GoSem.ClaimSeven
namespace Go.Proofs.YtepmnpapdknocaaGreatDoor
namespace Rows

/-- THE TIED CARD OF 'cairnlaw.BlockConnect'. -/
def blockConnectCard : Claim7 := { stood := { row := blockConnectRow, standIns := [], harness := (true, "13e7502835966fcf57ec451933283304feda821837d034b5aa1f41ff6a5b5737"), looks := true }, kinds := [], alts := [], laidByText := true, laidKinds := [.data, .data, .data, .listed, .data, .data], laidTests := true, laidLooks := .later }
def BlockConnectCardSaid : Prop := Claim7.holds Tryz.pinned (.plain (OpenSpec.ofChange blockConnectSpec)) blockConnectCard

/-- THE TIED CARD OF 'cairnlaw.BlockBack'. -/
def blockBackCard : Claim7 := { stood := { row := blockBackRow, standIns := [], harness := (true, "13e7502835966fcf57ec451933283304feda821837d034b5aa1f41ff6a5b5737"), looks := true }, kinds := [], alts := [], laidByText := true, laidKinds := [.data, .data, .data, .data, .sentinel, .sentinel, .data, .pinned], laidTests := true, laidLooks := .later }
def BlockBackCardSaid : Prop := Claim7.holds Tryz.pinned (.plain (OpenSpec.ofChange blockBackSpec)) blockBackCard

/-- THE SECOND FORM's CARD OF 'cairnlaw.BlockConnect'. -/
def blockConnectUptoCard : Claim7 := { stood := { row := blockConnectUptoRow, standIns := [], harness := (true, "13e7502835966fcf57ec451933283304feda821837d034b5aa1f41ff6a5b5737"), looks := true }, kinds := [], alts := [], laidByText := true, laidKinds := [.data, .data, .data, .listed, .data, .data], laidTests := true, laidLooks := .later }
def BlockConnectUptoCardSaid : Prop := Claim7.holds Tryz.pinned (.plain (OpenSpec.upto blockConnectSpec)) blockConnectUptoCard

/-- THE SECOND FORM's CARD OF 'cairnlaw.BlockBack'. -/
def blockBackUptoCard : Claim7 := { stood := { row := blockBackUptoRow, standIns := [], harness := (true, "13e7502835966fcf57ec451933283304feda821837d034b5aa1f41ff6a5b5737"), looks := true }, kinds := [], alts := [], laidByText := true, laidKinds := [.data, .data, .data, .data, .sentinel, .sentinel, .data, .pinned], laidTests := true, laidLooks := .later }
def BlockBackUptoCardSaid : Prop := Claim7.holds Tryz.pinned (.plain (OpenSpec.upto blockBackSpec)) blockBackUptoCard
end Rows
end Go.Proofs.YtepmnpapdknocaaGreatDoor
