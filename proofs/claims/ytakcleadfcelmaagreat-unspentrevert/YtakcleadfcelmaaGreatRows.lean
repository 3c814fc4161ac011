/-
  No cell of these rows narrows 'for every input' (looked for: loops, veiled, ifaces, maps, wideKeys, modest, calm, conditions, laid).
  DERIVED. THE GIVEN ROWS OF THIS SEAT. 2 by the template 'for every input the law returns true; each argument reads behind the call as it read before'; 0 by the template 'total and deterministic' (their statements: YtakcleadfcelmaaGreatTotals.lean).
  GIVEN WITH THE SEED: the statements are not yours to turn. If you find one false, say at which input.
  Laid BY PROGRAM, IN A SANDBOX (cutbox-rows.mjs): the forced cells as the released guide's own fill.sh prints them over the translation 4891ac2ca85a5a94… (all of the seat's roots in one cut). By AI agents, Wed Nov 11 2026. No macro, syntax, notation, axiom, sorry.
-/
import Derived.Test.YtakcleadfcelmaaGreatChecked
import GoSem.Claim
import GoSem.ClaimJoined
import GoSem.ClaimMapViews
import Derived.JoinedTies
import Derived.KernelRfl
namespace Go.Proofs.YtakcleadfcelmaaGreat
/- THE CELL 'sum', in the pinned program and in every row, IS THE sha256 OF THE DUMP (.gsa) THAT YtakcleadfcelmaaGreatProg.lean LOADS. Nothing in Lean hashes anything: it is a label: what it is worth is what the hold of that sum in a sandbox is worth. -/
noncomputable def Tryz.pinned : Pinned := { name := "ytakcleadfcelmaagreat", sum := "4891ac2ca85a5a94d17932faea6a975dd341ffb6b2c21db51f0b5e4f920f695e", checked := Tryz.checked }
namespace Rows
def none {H : Type} : Left H := { results := [], args := [] }

/-- 'cairnlaw.UnspentApply': WHATEVER THE INPUT: true; the input reads as it did. -/
def unspentApplySpec : ChangeSpec := { name := "unspentApply", fn := fun _ => fun
  | [d1, d2, d3, d4] => { results := [.lit (.bool true)], args := [d1, d2, d3, d4] }
  | _ => none }
def unspentApplyRow : OpenClaim := { program := "ytakcleadfcelmaagreat", sum := "4891ac2ca85a5a94d17932faea6a975dd341ffb6b2c21db51f0b5e4f920f695e", func := "cairn/cairnlaw.UnspentApply", spec := "unspentApply", inPlace := ["slices.overlaps[cairn/api.Coin]", "internal/reflectlite.ValueOf", "internal/reflectlite.Swapper", "(internal/reflectlite.Value).Len"], unfollowed := true, recurses := true, apart := false }
def UnspentApplySaid : Prop := unspentApplyRow.holds Tryz.pinned (OpenSpec.ofChange unspentApplySpec)

/-- ITS FALSE NEIGHBOUR: 'it returns false'. Refute it at one input. -/
def unspentApplyWrong : ChangeSpec := { name := "unspentApply", fn := fun _ => fun
  | [d1, d2, d3, d4] => { results := [.lit (.bool false)], args := [d1, d2, d3, d4] }
  | _ => none }
def UnspentApplyWrongFalsely : Prop := unspentApplyRow.holds Tryz.pinned (OpenSpec.ofChange unspentApplyWrong)

/-- 'cairnlaw.UnspentRevert': WHATEVER THE INPUT: true; the input reads as it did. -/
def unspentRevertSpec : ChangeSpec := { name := "unspentRevert", fn := fun _ => fun
  | [d1, d2, d3, d4] => { results := [.lit (.bool true)], args := [d1, d2, d3, d4] }
  | _ => none }
def unspentRevertRow : OpenClaim := { program := "ytakcleadfcelmaagreat", sum := "4891ac2ca85a5a94d17932faea6a975dd341ffb6b2c21db51f0b5e4f920f695e", func := "cairn/cairnlaw.UnspentRevert", spec := "unspentRevert", inPlace := ["slices.overlaps[cairn/api.Coin]", "internal/reflectlite.ValueOf", "internal/reflectlite.Swapper", "(internal/reflectlite.Value).Len"], unfollowed := true, recurses := true, apart := false }
def UnspentRevertSaid : Prop := unspentRevertRow.holds Tryz.pinned (OpenSpec.ofChange unspentRevertSpec)

/-- ITS FALSE NEIGHBOUR: 'it returns false'. Refute it at one input. -/
def unspentRevertWrong : ChangeSpec := { name := "unspentRevert", fn := fun _ => fun
  | [d1, d2, d3, d4] => { results := [.lit (.bool false)], args := [d1, d2, d3, d4] }
  | _ => none }
def UnspentRevertWrongFalsely : Prop := unspentRevertRow.holds Tryz.pinned (OpenSpec.ofChange unspentRevertWrong)

/- THE SECOND FORM. 'bulk': how many values and letters a reading holds, each counted each time it is reached (what is shared counts as often as it is met; a slice's spare places count too). A statement '..UptoSaid' is the law's where the arguments, and the package variables that the reading takes, are together of bulk at most 1048576: NARROWER than '..Said'. Prove '..Said' where nothing that the law and all that it calls make is longer than what came in: it says more and counts as full. Else prove '..UptoSaid'. A law counts once. -/
mutual
def uptoBulk {H : Type} : DataW H → Nat
  | .lit (.string bytes) => bytes.length + 1
  | .lit _ => 1
  | .nil => 1
  | .ptr d => uptoBulk d + 1
  | .slice elems spare => uptoBulkAll elems + uptoBulkAll spare + 1
  | .agg parts => uptoBulkAll parts + 1
  | .iface _ d => uptoBulk d + 1
  | .map entries => uptoBulkEntries entries + 1
  | .held _ => 1
def uptoBulkAll {H : Type} : List (DataW H) → Nat
  | [] => 0
  | d :: r => uptoBulk d + uptoBulkAll r
def uptoBulkEntries {H : Type} : List (Lit × DataW H) → Nat
  | [] => 0
  | x :: r => uptoBulkEntry x + uptoBulkEntries r
def uptoBulkEntry {H : Type} : Lit × DataW H → Nat
  | (.string bytes, d) => bytes.length + uptoBulk d + 1
  | (_, d) => uptoBulk d + 1
 end
def uptoSmall : (H : Type) → List (DataW H) → Bool := fun _ ds => decide (uptoBulkAll ds ≤ 1048576)
def OpenSpec.upto (s : _root_.Go.ChangeSpec) : _root_.Go.OpenSpec := { _root_.Go.OpenSpec.ofChange s with cond := some uptoSmall }

/-- 'cairnlaw.UnspentApply', WHERE WHAT IT READS IS OF BULK AT MOST 1048576: true; the input reads as it did. -/
def unspentApplyUptoRow : OpenClaim := { program := "ytakcleadfcelmaagreat", sum := "4891ac2ca85a5a94d17932faea6a975dd341ffb6b2c21db51f0b5e4f920f695e", func := "cairn/cairnlaw.UnspentApply", spec := "unspentApply", inPlace := ["slices.overlaps[cairn/api.Coin]", "internal/reflectlite.ValueOf", "internal/reflectlite.Swapper", "(internal/reflectlite.Value).Len"], unfollowed := true, recurses := true, apart := false, narrowed := true }
def UnspentApplyUptoSaid : Prop := unspentApplyUptoRow.holds Tryz.pinned (OpenSpec.upto unspentApplySpec)

/-- 'cairnlaw.UnspentRevert', WHERE WHAT IT READS IS OF BULK AT MOST 1048576: true; the input reads as it did. -/
def unspentRevertUptoRow : OpenClaim := { program := "ytakcleadfcelmaagreat", sum := "4891ac2ca85a5a94d17932faea6a975dd341ffb6b2c21db51f0b5e4f920f695e", func := "cairn/cairnlaw.UnspentRevert", spec := "unspentRevert", inPlace := ["slices.overlaps[cairn/api.Coin]", "internal/reflectlite.ValueOf", "internal/reflectlite.Swapper", "(internal/reflectlite.Value).Len"], unfollowed := true, recurses := true, apart := false, narrowed := true }
def UnspentRevertUptoSaid : Prop := unspentRevertUptoRow.holds Tryz.pinned (OpenSpec.upto unspentRevertSpec)

end Rows
end Go.Proofs.YtakcleadfcelmaaGreat
