/-
  DERIVED. GIVEN WITH THE SEED: THE CARDS: each row of YtmomfkikogbdeaaGreatDoorRows.lean that lists a variable, with what it lists TIED to the program's text (the seventh form; the later family's looks); each row that meets fmt, with fmt's text TOLD by the authors' own Lean function (tested against real Go, not proved from fmt's source: count such statements apart). THE CARD IS WHAT COUNTS. Prove the row's statement (the work); the ties are given (YtmomfkikogbdeaaGreatDoorTie.lean); close each card by the builder's one call (the guide's Derived/Test/ToyasCard.lean, 'card_holds'). Laid BY PROGRAM, IN A SANDBOX (cutbox-door.mjs). By AI agents, Wed Nov 11 2026. No macro, syntax, notation, axiom, sorry.
-/
import Derived.Test.YtmomfkikogbdeaaGreatDoorRows
import GoSem.ClaimSeven
namespace Go.Proofs.YtmomfkikogbdeaaGreatDoor
namespace Rows

/-- THE TIED CARD OF 'cairnlaw.ChainMoves'. -/
def chainMovesCard : Claim7 := { stood := { row := chainMovesRow, standIns := [], harness := (true, "daf494bde4456b9d7ab49bf6e445d18653f05441703ec96df0d03d3df745822e"), looks := false }, kinds := [], alts := [], laidByText := true, laidKinds := [.data, .data, .data, .data], laidTests := true, laidLooks := .later }
def ChainMovesCardSaid : Prop := Claim7.holds Tryz.pinned (.plain (OpenSpec.ofChange chainMovesSpec)) chainMovesCard

/-- THE TIED CARD OF 'cairnlaw.ChainDepths'. -/
def chainDepthsCard : Claim7 := { stood := { row := chainDepthsRow, standIns := [], harness := (true, "daf494bde4456b9d7ab49bf6e445d18653f05441703ec96df0d03d3df745822e"), looks := false }, kinds := [], alts := [], laidByText := true, laidKinds := [.data, .data, .data, .data], laidTests := true, laidLooks := .later }
def ChainDepthsCardSaid : Prop := Claim7.holds Tryz.pinned (.plain (OpenSpec.ofChange chainDepthsSpec)) chainDepthsCard

/-- THE TIED CARD OF 'cairnlaw.ChainWays'. -/
def chainWaysCard : Claim7 := { stood := { row := chainWaysRow, standIns := [], harness := (true, "daf494bde4456b9d7ab49bf6e445d18653f05441703ec96df0d03d3df745822e"), looks := false }, kinds := [], alts := [], laidByText := true, laidKinds := [.data, .data, .data, .data], laidTests := true, laidLooks := .later }
def ChainWaysCardSaid : Prop := Claim7.holds Tryz.pinned (.plain (OpenSpec.ofChange chainWaysSpec)) chainWaysCard

/-- THE TIED CARD OF 'cairnlaw.PoolConnects'. -/
def poolConnectsCard : Claim7 := { stood := { row := poolConnectsRow, standIns := [], harness := (true, "daf494bde4456b9d7ab49bf6e445d18653f05441703ec96df0d03d3df745822e"), looks := false }, kinds := [], alts := [], laidByText := true, laidKinds := [.data, .data, .data, .data], laidTests := true, laidLooks := .later }
def PoolConnectsCardSaid : Prop := Claim7.holds Tryz.pinned (.plain (OpenSpec.ofChange poolConnectsSpec)) poolConnectsCard

/-- THE TIED CARD OF 'cairnlaw.PoolAccepts'. -/
def poolAcceptsCard : Claim7 := { stood := { row := poolAcceptsRow, standIns := [], harness := (true, "daf494bde4456b9d7ab49bf6e445d18653f05441703ec96df0d03d3df745822e"), looks := false }, kinds := [], alts := [], laidByText := true, laidKinds := [.data, .data, .data, .data], laidTests := true, laidLooks := .later }
def PoolAcceptsCardSaid : Prop := Claim7.holds Tryz.pinned (.plain (OpenSpec.ofChange poolAcceptsSpec)) poolAcceptsCard

/-- THE TIED CARD OF 'cairnlaw.NodeGrows'. -/
def nodeGrowsCard : Claim7 := { stood := { row := nodeGrowsRow, standIns := [], harness := (true, "daf494bde4456b9d7ab49bf6e445d18653f05441703ec96df0d03d3df745822e"), looks := false }, kinds := [], alts := [], laidByText := true, laidKinds := [.data, .data, .data, .data], laidTests := true, laidLooks := .later }
def NodeGrowsCardSaid : Prop := Claim7.holds Tryz.pinned (.plain (OpenSpec.ofChange nodeGrowsSpec)) nodeGrowsCard

/-- THE TIED CARD OF 'cairnlaw.NodeSupply'. -/
def nodeSupplyCard : Claim7 := { stood := { row := nodeSupplyRow, standIns := [], harness := (true, "daf494bde4456b9d7ab49bf6e445d18653f05441703ec96df0d03d3df745822e"), looks := false }, kinds := [], alts := [], laidByText := true, laidKinds := [.data, .data, .data, .data], laidTests := true, laidLooks := .later }
def NodeSupplyCardSaid : Prop := Claim7.holds Tryz.pinned (.plain (OpenSpec.ofChange nodeSupplySpec)) nodeSupplyCard

/-- THE TIED CARD OF 'cairnlaw.NodeOrder'. -/
def nodeOrderCard : Claim7 := { stood := { row := nodeOrderRow, standIns := [], harness := (true, "daf494bde4456b9d7ab49bf6e445d18653f05441703ec96df0d03d3df745822e"), looks := false }, kinds := [], alts := [], laidByText := true, laidKinds := [.data, .data, .data, .data], laidTests := true, laidLooks := .later }
def NodeOrderCardSaid : Prop := Claim7.holds Tryz.pinned (.plain (OpenSpec.ofChange nodeOrderSpec)) nodeOrderCard

/-- THE TIED CARD OF 'cairnlaw.NodeTwice'. -/
def nodeTwiceCard : Claim7 := { stood := { row := nodeTwiceRow, standIns := [], harness := (true, "daf494bde4456b9d7ab49bf6e445d18653f05441703ec96df0d03d3df745822e"), looks := false }, kinds := [], alts := [], laidByText := true, laidKinds := [.data, .data, .data, .data], laidTests := true, laidLooks := .later }
def NodeTwiceCardSaid : Prop := Claim7.holds Tryz.pinned (.plain (OpenSpec.ofChange nodeTwiceSpec)) nodeTwiceCard

/-- THE TIED CARD OF 'cairnlaw.WorldAgree'. -/
def worldAgreeCard : Claim7 := { stood := { row := worldAgreeRow, standIns := [], harness := (true, "daf494bde4456b9d7ab49bf6e445d18653f05441703ec96df0d03d3df745822e"), looks := false }, kinds := [], alts := [], laidByText := true, laidKinds := [.data, .data, .data, .data], laidTests := true, laidLooks := .later }
def WorldAgreeCardSaid : Prop := Claim7.holds Tryz.pinned (.plain (OpenSpec.ofChange worldAgreeSpec)) worldAgreeCard

/-- THE TIED CARD OF 'cairnlaw.WorldNet'. -/
def worldNetCard : Claim7 := { stood := { row := worldNetRow, standIns := [], harness := (true, "daf494bde4456b9d7ab49bf6e445d18653f05441703ec96df0d03d3df745822e"), looks := false }, kinds := [], alts := [], laidByText := true, laidKinds := [.data, .data, .data, .data], laidTests := true, laidLooks := .later }
def WorldNetCardSaid : Prop := Claim7.holds Tryz.pinned (.plain (OpenSpec.ofChange worldNetSpec)) worldNetCard

/-- THE TIED CARD OF 'cairnlaw.WorldKeeps'. -/
def worldKeepsCard : Claim7 := { stood := { row := worldKeepsRow, standIns := [], harness := (true, "daf494bde4456b9d7ab49bf6e445d18653f05441703ec96df0d03d3df745822e"), looks := false }, kinds := [], alts := [], laidByText := true, laidKinds := [.data, .data, .data, .data], laidTests := true, laidLooks := .later }
def WorldKeepsCardSaid : Prop := Claim7.holds Tryz.pinned (.plain (OpenSpec.ofChange worldKeepsSpec)) worldKeepsCard

/-- THE TIED CARD OF 'cairnlaw.WorldHonest'. -/
def worldHonestCard : Claim7 := { stood := { row := worldHonestRow, standIns := [], harness := (true, "daf494bde4456b9d7ab49bf6e445d18653f05441703ec96df0d03d3df745822e"), looks := false }, kinds := [], alts := [], laidByText := true, laidKinds := [.data, .data, .data, .data], laidTests := true, laidLooks := .later }
def WorldHonestCardSaid : Prop := Claim7.holds Tryz.pinned (.plain (OpenSpec.ofChange worldHonestSpec)) worldHonestCard

/-- THE SECOND FORM's CARD OF 'cairnlaw.ChainMoves'. -/
def chainMovesUptoCard : Claim7 := { stood := { row := chainMovesUptoRow, standIns := [], harness := (true, "daf494bde4456b9d7ab49bf6e445d18653f05441703ec96df0d03d3df745822e"), looks := false }, kinds := [], alts := [], laidByText := true, laidKinds := [.data, .data, .data, .data], laidTests := true, laidLooks := .later }
def ChainMovesUptoCardSaid : Prop := Claim7.holds Tryz.pinned (.plain (OpenSpec.upto chainMovesSpec)) chainMovesUptoCard

/-- THE SECOND FORM's CARD OF 'cairnlaw.ChainDepths'. -/
def chainDepthsUptoCard : Claim7 := { stood := { row := chainDepthsUptoRow, standIns := [], harness := (true, "daf494bde4456b9d7ab49bf6e445d18653f05441703ec96df0d03d3df745822e"), looks := false }, kinds := [], alts := [], laidByText := true, laidKinds := [.data, .data, .data, .data], laidTests := true, laidLooks := .later }
def ChainDepthsUptoCardSaid : Prop := Claim7.holds Tryz.pinned (.plain (OpenSpec.upto chainDepthsSpec)) chainDepthsUptoCard

/-- THE SECOND FORM's CARD OF 'cairnlaw.ChainWays'. -/
def chainWaysUptoCard : Claim7 := { stood := { row := chainWaysUptoRow, standIns := [], harness := (true, "daf494bde4456b9d7ab49bf6e445d18653f05441703ec96df0d03d3df745822e"), looks := false }, kinds := [], alts := [], laidByText := true, laidKinds := [.data, .data, .data, .data], laidTests := true, laidLooks := .later }
def ChainWaysUptoCardSaid : Prop := Claim7.holds Tryz.pinned (.plain (OpenSpec.upto chainWaysSpec)) chainWaysUptoCard

/-- THE SECOND FORM's CARD OF 'cairnlaw.PoolConnects'. -/
def poolConnectsUptoCard : Claim7 := { stood := { row := poolConnectsUptoRow, standIns := [], harness := (true, "daf494bde4456b9d7ab49bf6e445d18653f05441703ec96df0d03d3df745822e"), looks := false }, kinds := [], alts := [], laidByText := true, laidKinds := [.data, .data, .data, .data], laidTests := true, laidLooks := .later }
def PoolConnectsUptoCardSaid : Prop := Claim7.holds Tryz.pinned (.plain (OpenSpec.upto poolConnectsSpec)) poolConnectsUptoCard

/-- THE SECOND FORM's CARD OF 'cairnlaw.PoolAccepts'. -/
def poolAcceptsUptoCard : Claim7 := { stood := { row := poolAcceptsUptoRow, standIns := [], harness := (true, "daf494bde4456b9d7ab49bf6e445d18653f05441703ec96df0d03d3df745822e"), looks := false }, kinds := [], alts := [], laidByText := true, laidKinds := [.data, .data, .data, .data], laidTests := true, laidLooks := .later }
def PoolAcceptsUptoCardSaid : Prop := Claim7.holds Tryz.pinned (.plain (OpenSpec.upto poolAcceptsSpec)) poolAcceptsUptoCard

/-- THE SECOND FORM's CARD OF 'cairnlaw.NodeGrows'. -/
def nodeGrowsUptoCard : Claim7 := { stood := { row := nodeGrowsUptoRow, standIns := [], harness := (true, "daf494bde4456b9d7ab49bf6e445d18653f05441703ec96df0d03d3df745822e"), looks := false }, kinds := [], alts := [], laidByText := true, laidKinds := [.data, .data, .data, .data], laidTests := true, laidLooks := .later }
def NodeGrowsUptoCardSaid : Prop := Claim7.holds Tryz.pinned (.plain (OpenSpec.upto nodeGrowsSpec)) nodeGrowsUptoCard

/-- THE SECOND FORM's CARD OF 'cairnlaw.NodeSupply'. -/
def nodeSupplyUptoCard : Claim7 := { stood := { row := nodeSupplyUptoRow, standIns := [], harness := (true, "daf494bde4456b9d7ab49bf6e445d18653f05441703ec96df0d03d3df745822e"), looks := false }, kinds := [], alts := [], laidByText := true, laidKinds := [.data, .data, .data, .data], laidTests := true, laidLooks := .later }
def NodeSupplyUptoCardSaid : Prop := Claim7.holds Tryz.pinned (.plain (OpenSpec.upto nodeSupplySpec)) nodeSupplyUptoCard

/-- THE SECOND FORM's CARD OF 'cairnlaw.NodeOrder'. -/
def nodeOrderUptoCard : Claim7 := { stood := { row := nodeOrderUptoRow, standIns := [], harness := (true, "daf494bde4456b9d7ab49bf6e445d18653f05441703ec96df0d03d3df745822e"), looks := false }, kinds := [], alts := [], laidByText := true, laidKinds := [.data, .data, .data, .data], laidTests := true, laidLooks := .later }
def NodeOrderUptoCardSaid : Prop := Claim7.holds Tryz.pinned (.plain (OpenSpec.upto nodeOrderSpec)) nodeOrderUptoCard

/-- THE SECOND FORM's CARD OF 'cairnlaw.NodeTwice'. -/
def nodeTwiceUptoCard : Claim7 := { stood := { row := nodeTwiceUptoRow, standIns := [], harness := (true, "daf494bde4456b9d7ab49bf6e445d18653f05441703ec96df0d03d3df745822e"), looks := false }, kinds := [], alts := [], laidByText := true, laidKinds := [.data, .data, .data, .data], laidTests := true, laidLooks := .later }
def NodeTwiceUptoCardSaid : Prop := Claim7.holds Tryz.pinned (.plain (OpenSpec.upto nodeTwiceSpec)) nodeTwiceUptoCard

/-- THE SECOND FORM's CARD OF 'cairnlaw.WorldAgree'. -/
def worldAgreeUptoCard : Claim7 := { stood := { row := worldAgreeUptoRow, standIns := [], harness := (true, "daf494bde4456b9d7ab49bf6e445d18653f05441703ec96df0d03d3df745822e"), looks := false }, kinds := [], alts := [], laidByText := true, laidKinds := [.data, .data, .data, .data], laidTests := true, laidLooks := .later }
def WorldAgreeUptoCardSaid : Prop := Claim7.holds Tryz.pinned (.plain (OpenSpec.upto worldAgreeSpec)) worldAgreeUptoCard

/-- THE SECOND FORM's CARD OF 'cairnlaw.WorldNet'. -/
def worldNetUptoCard : Claim7 := { stood := { row := worldNetUptoRow, standIns := [], harness := (true, "daf494bde4456b9d7ab49bf6e445d18653f05441703ec96df0d03d3df745822e"), looks := false }, kinds := [], alts := [], laidByText := true, laidKinds := [.data, .data, .data, .data], laidTests := true, laidLooks := .later }
def WorldNetUptoCardSaid : Prop := Claim7.holds Tryz.pinned (.plain (OpenSpec.upto worldNetSpec)) worldNetUptoCard

/-- THE SECOND FORM's CARD OF 'cairnlaw.WorldKeeps'. -/
def worldKeepsUptoCard : Claim7 := { stood := { row := worldKeepsUptoRow, standIns := [], harness := (true, "daf494bde4456b9d7ab49bf6e445d18653f05441703ec96df0d03d3df745822e"), looks := false }, kinds := [], alts := [], laidByText := true, laidKinds := [.data, .data, .data, .data], laidTests := true, laidLooks := .later }
def WorldKeepsUptoCardSaid : Prop := Claim7.holds Tryz.pinned (.plain (OpenSpec.upto worldKeepsSpec)) worldKeepsUptoCard

/-- THE SECOND FORM's CARD OF 'cairnlaw.WorldHonest'. -/
def worldHonestUptoCard : Claim7 := { stood := { row := worldHonestUptoRow, standIns := [], harness := (true, "daf494bde4456b9d7ab49bf6e445d18653f05441703ec96df0d03d3df745822e"), looks := false }, kinds := [], alts := [], laidByText := true, laidKinds := [.data, .data, .data, .data], laidTests := true, laidLooks := .later }
def WorldHonestUptoCardSaid : Prop := Claim7.holds Tryz.pinned (.plain (OpenSpec.upto worldHonestSpec)) worldHonestUptoCard
end Rows
end Go.Proofs.YtmomfkikogbdeaaGreatDoor
