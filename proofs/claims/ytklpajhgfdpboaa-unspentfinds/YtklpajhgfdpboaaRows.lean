/-
  No cell of these rows narrows 'for every input' (looked for: loops, veiled, ifaces, maps, wideKeys, modest, calm, conditions, laid).
  DERIVED. THE GIVEN ROWS OF THIS SEAT. 4 by the template 'for every input the law returns true; each argument reads behind the call as it read before'; 0 by the template 'total and deterministic' (their statements: YtklpajhgfdpboaaTotals.lean).
  GIVEN WITH THE SEED: the statements are not yours to turn. If you find one false, say at which input.
  Laid BY PROGRAM, IN A SANDBOX (cutbox-rows.mjs): the forced cells as the released guide's own fill.sh prints them over the translation 93feb83fb50b391e… (all of the seat's roots in one cut). By AI agents, Wed Nov 11 2026. No macro, syntax, notation, axiom, sorry.
-/
import Derived.Test.YtklpajhgfdpboaaChecked
import GoSem.Claim
import GoSem.ClaimJoined
import GoSem.ClaimMapViews
import Derived.JoinedTies
import Derived.KernelRfl
namespace Go.Proofs.Ytklpajhgfdpboaa
/- THE CELL 'sum', in the pinned program and in every row, IS THE sha256 OF THE DUMP (.gsa) THAT YtklpajhgfdpboaaProg.lean LOADS. Nothing in Lean hashes anything: it is a label: what it is worth is what the hold of that sum in a sandbox is worth. -/
noncomputable def Try.pinned : Pinned := { name := "ytklpajhgfdpboaa", sum := "93feb83fb50b391e23085fc6a37ecf39c63f682d352d19c87f8b89488cf008fe", checked := Try.checked }
namespace Rows
def none {H : Type} : Left H := { results := [], args := [] }

/-- 'cairnlaw.UnspentFinds': WHATEVER THE INPUT: true; the input reads as it did. -/
def unspentFindsSpec : ChangeSpec := { name := "unspentFinds", fn := fun _ => fun
  | [d1, d2, d3, d4] => { results := [.lit (.bool true)], args := [d1, d2, d3, d4] }
  | _ => none }
def unspentFindsRow : OpenClaim := { program := "ytklpajhgfdpboaa", sum := "93feb83fb50b391e23085fc6a37ecf39c63f682d352d19c87f8b89488cf008fe", func := "cairn/cairnlaw.UnspentFinds", spec := "unspentFinds", inPlace := ["slices.overlaps[cairn/api.Coin]"], unfollowed := true, recurses := true, apart := false }
def UnspentFindsSaid : Prop := unspentFindsRow.holds Try.pinned (OpenSpec.ofChange unspentFindsSpec)

/-- ITS FALSE NEIGHBOUR: 'it returns false'. Refute it at one input. -/
def unspentFindsWrong : ChangeSpec := { name := "unspentFinds", fn := fun _ => fun
  | [d1, d2, d3, d4] => { results := [.lit (.bool false)], args := [d1, d2, d3, d4] }
  | _ => none }
def UnspentFindsWrongFalsely : Prop := unspentFindsRow.holds Try.pinned (OpenSpec.ofChange unspentFindsWrong)

/-- 'cairnlaw.UnspentBack': WHATEVER THE INPUT: true; the input reads as it did. -/
def unspentBackSpec : ChangeSpec := { name := "unspentBack", fn := fun _ => fun
  | [d1, d2, d3, d4] => { results := [.lit (.bool true)], args := [d1, d2, d3, d4] }
  | _ => none }
def unspentBackRow : OpenClaim := { program := "ytklpajhgfdpboaa", sum := "93feb83fb50b391e23085fc6a37ecf39c63f682d352d19c87f8b89488cf008fe", func := "cairn/cairnlaw.UnspentBack", spec := "unspentBack", inPlace := ["slices.overlaps[cairn/api.Coin]"], unfollowed := true, recurses := true, apart := false }
def UnspentBackSaid : Prop := unspentBackRow.holds Try.pinned (OpenSpec.ofChange unspentBackSpec)

/-- ITS FALSE NEIGHBOUR: 'it returns false'. Refute it at one input. -/
def unspentBackWrong : ChangeSpec := { name := "unspentBack", fn := fun _ => fun
  | [d1, d2, d3, d4] => { results := [.lit (.bool false)], args := [d1, d2, d3, d4] }
  | _ => none }
def UnspentBackWrongFalsely : Prop := unspentBackRow.holds Try.pinned (OpenSpec.ofChange unspentBackWrong)

/-- 'cairnlaw.UnspentTwice': WHATEVER THE INPUT: true; the input reads as it did. -/
def unspentTwiceSpec : ChangeSpec := { name := "unspentTwice", fn := fun _ => fun
  | [d1, d2, d3, d4, d5, d6, d7] => { results := [.lit (.bool true)], args := [d1, d2, d3, d4, d5, d6, d7] }
  | _ => none }
def unspentTwiceRow : OpenClaim := { program := "ytklpajhgfdpboaa", sum := "93feb83fb50b391e23085fc6a37ecf39c63f682d352d19c87f8b89488cf008fe", func := "cairn/cairnlaw.UnspentTwice", spec := "unspentTwice", inPlace := ["slices.overlaps[cairn/api.Coin]"], unfollowed := true, recurses := true, apart := false }
def UnspentTwiceSaid : Prop := unspentTwiceRow.holds Try.pinned (OpenSpec.ofChange unspentTwiceSpec)

/-- ITS FALSE NEIGHBOUR: 'it returns false'. Refute it at one input. -/
def unspentTwiceWrong : ChangeSpec := { name := "unspentTwice", fn := fun _ => fun
  | [d1, d2, d3, d4, d5, d6, d7] => { results := [.lit (.bool false)], args := [d1, d2, d3, d4, d5, d6, d7] }
  | _ => none }
def UnspentTwiceWrongFalsely : Prop := unspentTwiceRow.holds Try.pinned (OpenSpec.ofChange unspentTwiceWrong)

/-- 'cairnlaw.UnspentOrder': WHATEVER THE INPUT: true; the input reads as it did. -/
def unspentOrderSpec : ChangeSpec := { name := "unspentOrder", fn := fun _ => fun
  | [d1, d2, d3, d4, d5, d6] => { results := [.lit (.bool true)], args := [d1, d2, d3, d4, d5, d6] }
  | _ => none }
def unspentOrderRow : OpenClaim := { program := "ytklpajhgfdpboaa", sum := "93feb83fb50b391e23085fc6a37ecf39c63f682d352d19c87f8b89488cf008fe", func := "cairn/cairnlaw.UnspentOrder", spec := "unspentOrder", inPlace := ["slices.overlaps[cairn/api.Coin]"], unfollowed := true, recurses := true, apart := false }
def UnspentOrderSaid : Prop := unspentOrderRow.holds Try.pinned (OpenSpec.ofChange unspentOrderSpec)

/-- ITS FALSE NEIGHBOUR: 'it returns false'. Refute it at one input. -/
def unspentOrderWrong : ChangeSpec := { name := "unspentOrder", fn := fun _ => fun
  | [d1, d2, d3, d4, d5, d6] => { results := [.lit (.bool false)], args := [d1, d2, d3, d4, d5, d6] }
  | _ => none }
def UnspentOrderWrongFalsely : Prop := unspentOrderRow.holds Try.pinned (OpenSpec.ofChange unspentOrderWrong)

/- THE SECOND FORM. 'bulk': how many values and letters a reading holds, each counted each time it is reached (what is shared counts as often as it is met; a slice's spare places count too). A statement '..UptoSaid' is the law's where the arguments, and the package variables that the reading takes, are together of bulk at most 1048576: NARROWER than '..Said'. Prove '..Said' where nothing that the law and all that it calls make is longer than what came in: it says more and counts as full. Else prove '..UptoSaid'. A law counts once. -/
mutual
def uptoBulk {H : Type} : DataW H → Nat
  | .lit (.string bytes) => bytes.length + 1
  | .lit _ => 1
  | .nil => 1
  | .ptr d => uptoBulk d + 1
  | .slice elems spare => uptoBulkAll elems + uptoBulkAll spare + 1
  | .agg parts => uptoBulkAll parts + 1
  | .iface _ d => uptoBulk d + 1
  | .map entries => uptoBulkEntries entries + 1
  | .held _ => 1
def uptoBulkAll {H : Type} : List (DataW H) → Nat
  | [] => 0
  | d :: r => uptoBulk d + uptoBulkAll r
def uptoBulkEntries {H : Type} : List (Lit × DataW H) → Nat
  | [] => 0
  | x :: r => uptoBulkEntry x + uptoBulkEntries r
def uptoBulkEntry {H : Type} : Lit × DataW H → Nat
  | (.string bytes, d) => bytes.length + uptoBulk d + 1
  | (_, d) => uptoBulk d + 1
 end
def uptoSmall : (H : Type) → List (DataW H) → Bool := fun _ ds => decide (uptoBulkAll ds ≤ 1048576)
def OpenSpec.upto (s : _root_.Go.ChangeSpec) : _root_.Go.OpenSpec := { _root_.Go.OpenSpec.ofChange s with cond := some uptoSmall }

/-- 'cairnlaw.UnspentFinds', WHERE WHAT IT READS IS OF BULK AT MOST 1048576: true; the input reads as it did. -/
def unspentFindsUptoRow : OpenClaim := { program := "ytklpajhgfdpboaa", sum := "93feb83fb50b391e23085fc6a37ecf39c63f682d352d19c87f8b89488cf008fe", func := "cairn/cairnlaw.UnspentFinds", spec := "unspentFinds", inPlace := ["slices.overlaps[cairn/api.Coin]"], unfollowed := true, recurses := true, apart := false, narrowed := true }
def UnspentFindsUptoSaid : Prop := unspentFindsUptoRow.holds Try.pinned (OpenSpec.upto unspentFindsSpec)

/-- 'cairnlaw.UnspentBack', WHERE WHAT IT READS IS OF BULK AT MOST 1048576: true; the input reads as it did. -/
def unspentBackUptoRow : OpenClaim := { program := "ytklpajhgfdpboaa", sum := "93feb83fb50b391e23085fc6a37ecf39c63f682d352d19c87f8b89488cf008fe", func := "cairn/cairnlaw.UnspentBack", spec := "unspentBack", inPlace := ["slices.overlaps[cairn/api.Coin]"], unfollowed := true, recurses := true, apart := false, narrowed := true }
def UnspentBackUptoSaid : Prop := unspentBackUptoRow.holds Try.pinned (OpenSpec.upto unspentBackSpec)

/-- 'cairnlaw.UnspentTwice', WHERE WHAT IT READS IS OF BULK AT MOST 1048576: true; the input reads as it did. -/
def unspentTwiceUptoRow : OpenClaim := { program := "ytklpajhgfdpboaa", sum := "93feb83fb50b391e23085fc6a37ecf39c63f682d352d19c87f8b89488cf008fe", func := "cairn/cairnlaw.UnspentTwice", spec := "unspentTwice", inPlace := ["slices.overlaps[cairn/api.Coin]"], unfollowed := true, recurses := true, apart := false, narrowed := true }
def UnspentTwiceUptoSaid : Prop := unspentTwiceUptoRow.holds Try.pinned (OpenSpec.upto unspentTwiceSpec)

/-- 'cairnlaw.UnspentOrder', WHERE WHAT IT READS IS OF BULK AT MOST 1048576: true; the input reads as it did. -/
def unspentOrderUptoRow : OpenClaim := { program := "ytklpajhgfdpboaa", sum := "93feb83fb50b391e23085fc6a37ecf39c63f682d352d19c87f8b89488cf008fe", func := "cairn/cairnlaw.UnspentOrder", spec := "unspentOrder", inPlace := ["slices.overlaps[cairn/api.Coin]"], unfollowed := true, recurses := true, apart := false, narrowed := true }
def UnspentOrderUptoSaid : Prop := unspentOrderUptoRow.holds Try.pinned (OpenSpec.upto unspentOrderSpec)

end Rows
end Go.Proofs.Ytklpajhgfdpboaa
