/-
  NARROWER THAN 'FOR EVERY INPUT', by the rows' own cells (each row's printed sentence says how): ChainMoves: laid · ChainDepths: laid · ChainWays: laid · PoolConnects: laid · PoolAccepts: laid · NodeGrows: laid · NodeSupply: laid · NodeOrder: laid · NodeTwice: laid · WorldAgree: laid · WorldNet: laid · WorldKeeps: laid · WorldHonest: laid.
  DERIVED. THE GIVEN ROWS OF THIS SEAT. 13 by the template 'for every input the law returns true; each argument reads behind the call as it read before'; 0 by the template 'total and deterministic' (their statements: YtmomfkikogbdeaaGreatDoorTotals.lean).
  GIVEN WITH THE SEED: the statements are not yours to turn. If you find one false, say at which input.
  Laid BY PROGRAM, IN A SANDBOX (cutbox-rows.mjs): the forced cells as the released guide's own fill.sh prints them over the translation 559823dddff2e8be… (all of the seat's roots in one cut). By AI agents, Wed Nov 11 2026. No macro, syntax, notation, axiom, sorry.
-/
import Derived.Test.YtmomfkikogbdeaaGreatDoorChecked
import GoSem.Claim
import GoSem.ClaimJoined
import GoSem.ClaimMapViews
import Derived.JoinedTies
import Derived.KernelRfl
namespace Go.Proofs.YtmomfkikogbdeaaGreatDoor
/- THE CELL 'sum', in the pinned program and in every row, IS THE sha256 OF THE DUMP (.gsa) THAT YtmomfkikogbdeaaGreatDoorProg.lean LOADS. Nothing in Lean hashes anything: it is a label: what it is worth is what the hold of that sum in a sandbox is worth. -/
noncomputable def Tryz.pinned : Pinned := { name := "ytmomfkikogbdeaagreatdoor", sum := "559823dddff2e8bec7b034dc650f2f5fe58a61752621da828692ef8e60b30220", checked := Tryz.checked }
namespace Rows
def none {H : Type} : Left H := { results := [], args := [] }

/- WHAT THE LISTED PACKAGE-LEVEL VARIABLES READ AS WHEN THE CALL BEGINS. Each datum BY PROGRAM (the guide's laid-datum.mjs) off the statement by which the dump's own 'gosem.cut.vars' lays the variable. In a bare row this is a premise. The card (YtmomfkikogbdeaaGreatDoorCards.lean) ties it to the program's text. -/
def laid_math_bits_deBruijn32tab {H : Type} : DataW H := .agg [.lit (.int .u8 0), .lit (.int .u8 1), .lit (.int .u8 28), .lit (.int .u8 2), .lit (.int .u8 29), .lit (.int .u8 14), .lit (.int .u8 24), .lit (.int .u8 3), .lit (.int .u8 30), .lit (.int .u8 22), .lit (.int .u8 20), .lit (.int .u8 15), .lit (.int .u8 25), .lit (.int .u8 17), .lit (.int .u8 4), .lit (.int .u8 8), .lit (.int .u8 31), .lit (.int .u8 27), .lit (.int .u8 13), .lit (.int .u8 23), .lit (.int .u8 21), .lit (.int .u8 19), .lit (.int .u8 16), .lit (.int .u8 7), .lit (.int .u8 26), .lit (.int .u8 12), .lit (.int .u8 18), .lit (.int .u8 6), .lit (.int .u8 11), .lit (.int .u8 5), .lit (.int .u8 10), .lit (.int .u8 9)]
def laid_math_bits_deBruijn64tab {H : Type} : DataW H := .agg [.lit (.int .u8 0), .lit (.int .u8 1), .lit (.int .u8 56), .lit (.int .u8 2), .lit (.int .u8 57), .lit (.int .u8 49), .lit (.int .u8 28), .lit (.int .u8 3), .lit (.int .u8 61), .lit (.int .u8 58), .lit (.int .u8 42), .lit (.int .u8 50), .lit (.int .u8 38), .lit (.int .u8 29), .lit (.int .u8 17), .lit (.int .u8 4), .lit (.int .u8 62), .lit (.int .u8 47), .lit (.int .u8 59), .lit (.int .u8 36), .lit (.int .u8 45), .lit (.int .u8 43), .lit (.int .u8 51), .lit (.int .u8 22), .lit (.int .u8 53), .lit (.int .u8 39), .lit (.int .u8 33), .lit (.int .u8 30), .lit (.int .u8 24), .lit (.int .u8 18), .lit (.int .u8 12), .lit (.int .u8 5), .lit (.int .u8 63), .lit (.int .u8 55), .lit (.int .u8 48), .lit (.int .u8 27), .lit (.int .u8 60), .lit (.int .u8 41), .lit (.int .u8 37), .lit (.int .u8 16), .lit (.int .u8 46), .lit (.int .u8 35), .lit (.int .u8 44), .lit (.int .u8 21), .lit (.int .u8 52), .lit (.int .u8 32), .lit (.int .u8 23), .lit (.int .u8 11), .lit (.int .u8 54), .lit (.int .u8 26), .lit (.int .u8 40), .lit (.int .u8 15), .lit (.int .u8 34), .lit (.int .u8 20), .lit (.int .u8 31), .lit (.int .u8 10), .lit (.int .u8 25), .lit (.int .u8 14), .lit (.int .u8 19), .lit (.int .u8 9), .lit (.int .u8 13), .lit (.int .u8 8), .lit (.int .u8 7), .lit (.int .u8 6)]
def laid_internal_strconv_uint64pow10 {H : Type} : DataW H := .agg [.lit (.int .u64 1), .lit (.int .u64 10), .lit (.int .u64 100), .lit (.int .u64 1000), .lit (.int .u64 10000), .lit (.int .u64 100000), .lit (.int .u64 1000000), .lit (.int .u64 10000000), .lit (.int .u64 100000000), .lit (.int .u64 1000000000), .lit (.int .u64 10000000000), .lit (.int .u64 100000000000), .lit (.int .u64 1000000000000), .lit (.int .u64 10000000000000), .lit (.int .u64 100000000000000), .lit (.int .u64 1000000000000000), .lit (.int .u64 10000000000000000), .lit (.int .u64 100000000000000000), .lit (.int .u64 1000000000000000000), .lit (.int .u64 10000000000000000000)]
def laid_cairn_lock_names {H : Type} : DataW H := .agg [.lit (.string []), .lit (.string []), .lit (.string [100, 117, 112]), .lit (.string [115, 119, 97, 112]), .lit (.string [100, 114, 111, 112]), .lit (.string [97, 100, 100]), .lit (.string [115, 117, 98]), .lit (.string [115, 97, 109, 101]), .lit (.string [108, 101, 115, 115]), .lit (.string [110, 111, 116]), .lit (.string [97, 110, 100]), .lit (.string [118, 101, 114, 105, 102, 121]), .lit (.string [104, 101, 105, 103, 104, 116]), .lit (.string [109, 105, 120])]

/-- 'cairnlaw.ChainMoves': WHATEVER THE INPUT: true; the input reads as it did. -/
def chainMovesSpec : ChangeSpec := { name := "chainMoves", fn := fun _ => fun
  | [d1, d2, d3, d4] => { results := [.lit (.bool true)], args := [d1, d2, d3, d4] }
  | _ => none }
def chainMovesRow : OpenClaim := { program := "ytmomfkikogbdeaagreatdoor", sum := "559823dddff2e8bec7b034dc650f2f5fe58a61752621da828692ef8e60b30220", func := "cairn/cairnlaw.ChainMoves", spec := "chainMoves", inPlace := ["internal/abi.NoEscape", "internal/bytealg.MakeNoZero", "slices.overlaps[cairn/api.Coin]"], unfollowed := true, recurses := true, named := ["internal/strconv.uint64pow10", "math/bits.deBruijn32tab", "math/bits.deBruijn64tab", "cairn/lock.names"], plainKeys := false, apart := false, laid := [("math/bits.deBruijn32tab", laid_math_bits_deBruijn32tab), ("math/bits.deBruijn64tab", laid_math_bits_deBruijn64tab), ("internal/strconv.uint64pow10", laid_internal_strconv_uint64pow10), ("cairn/lock.names", laid_cairn_lock_names)] }
def ChainMovesSaid : Prop := chainMovesRow.holds Tryz.pinned (OpenSpec.ofChange chainMovesSpec)

/-- ITS FALSE NEIGHBOUR: 'it returns false'. Refute it at one input. -/
def chainMovesWrong : ChangeSpec := { name := "chainMoves", fn := fun _ => fun
  | [d1, d2, d3, d4] => { results := [.lit (.bool false)], args := [d1, d2, d3, d4] }
  | _ => none }
def ChainMovesWrongFalsely : Prop := chainMovesRow.holds Tryz.pinned (OpenSpec.ofChange chainMovesWrong)

/-- 'cairnlaw.ChainDepths': WHATEVER THE INPUT: true; the input reads as it did. -/
def chainDepthsSpec : ChangeSpec := { name := "chainDepths", fn := fun _ => fun
  | [d1, d2, d3, d4] => { results := [.lit (.bool true)], args := [d1, d2, d3, d4] }
  | _ => none }
def chainDepthsRow : OpenClaim := { program := "ytmomfkikogbdeaagreatdoor", sum := "559823dddff2e8bec7b034dc650f2f5fe58a61752621da828692ef8e60b30220", func := "cairn/cairnlaw.ChainDepths", spec := "chainDepths", inPlace := ["internal/abi.NoEscape", "internal/bytealg.MakeNoZero", "slices.overlaps[cairn/api.Coin]"], unfollowed := true, recurses := true, named := ["internal/strconv.uint64pow10", "math/bits.deBruijn32tab", "math/bits.deBruijn64tab", "cairn/lock.names"], plainKeys := false, apart := false, laid := [("math/bits.deBruijn32tab", laid_math_bits_deBruijn32tab), ("math/bits.deBruijn64tab", laid_math_bits_deBruijn64tab), ("internal/strconv.uint64pow10", laid_internal_strconv_uint64pow10), ("cairn/lock.names", laid_cairn_lock_names)] }
def ChainDepthsSaid : Prop := chainDepthsRow.holds Tryz.pinned (OpenSpec.ofChange chainDepthsSpec)

/-- ITS FALSE NEIGHBOUR: 'it returns false'. Refute it at one input. -/
def chainDepthsWrong : ChangeSpec := { name := "chainDepths", fn := fun _ => fun
  | [d1, d2, d3, d4] => { results := [.lit (.bool false)], args := [d1, d2, d3, d4] }
  | _ => none }
def ChainDepthsWrongFalsely : Prop := chainDepthsRow.holds Tryz.pinned (OpenSpec.ofChange chainDepthsWrong)

/-- 'cairnlaw.ChainWays': WHATEVER THE INPUT: true; the input reads as it did. -/
def chainWaysSpec : ChangeSpec := { name := "chainWays", fn := fun _ => fun
  | [d1, d2, d3, d4, d5] => { results := [.lit (.bool true)], args := [d1, d2, d3, d4, d5] }
  | _ => none }
def chainWaysRow : OpenClaim := { program := "ytmomfkikogbdeaagreatdoor", sum := "559823dddff2e8bec7b034dc650f2f5fe58a61752621da828692ef8e60b30220", func := "cairn/cairnlaw.ChainWays", spec := "chainWays", inPlace := ["internal/abi.NoEscape", "internal/bytealg.MakeNoZero", "slices.overlaps[cairn/api.Coin]"], unfollowed := true, recurses := true, named := ["internal/strconv.uint64pow10", "math/bits.deBruijn32tab", "math/bits.deBruijn64tab", "cairn/lock.names"], plainKeys := false, apart := false, laid := [("math/bits.deBruijn32tab", laid_math_bits_deBruijn32tab), ("math/bits.deBruijn64tab", laid_math_bits_deBruijn64tab), ("internal/strconv.uint64pow10", laid_internal_strconv_uint64pow10), ("cairn/lock.names", laid_cairn_lock_names)] }
def ChainWaysSaid : Prop := chainWaysRow.holds Tryz.pinned (OpenSpec.ofChange chainWaysSpec)

/-- ITS FALSE NEIGHBOUR: 'it returns false'. Refute it at one input. -/
def chainWaysWrong : ChangeSpec := { name := "chainWays", fn := fun _ => fun
  | [d1, d2, d3, d4, d5] => { results := [.lit (.bool false)], args := [d1, d2, d3, d4, d5] }
  | _ => none }
def ChainWaysWrongFalsely : Prop := chainWaysRow.holds Tryz.pinned (OpenSpec.ofChange chainWaysWrong)

/-- 'cairnlaw.PoolConnects': WHATEVER THE INPUT: true; the input reads as it did. -/
def poolConnectsSpec : ChangeSpec := { name := "poolConnects", fn := fun _ => fun
  | [d1, d2, d3, d4, d5] => { results := [.lit (.bool true)], args := [d1, d2, d3, d4, d5] }
  | _ => none }
def poolConnectsRow : OpenClaim := { program := "ytmomfkikogbdeaagreatdoor", sum := "559823dddff2e8bec7b034dc650f2f5fe58a61752621da828692ef8e60b30220", func := "cairn/cairnlaw.PoolConnects", spec := "poolConnects", inPlace := ["internal/abi.NoEscape", "internal/bytealg.MakeNoZero", "slices.overlaps[cairn/api.Coin]"], unfollowed := true, recurses := true, named := ["internal/strconv.uint64pow10", "math/bits.deBruijn32tab", "math/bits.deBruijn64tab", "cairn/lock.names"], plainKeys := false, apart := false, laid := [("math/bits.deBruijn32tab", laid_math_bits_deBruijn32tab), ("math/bits.deBruijn64tab", laid_math_bits_deBruijn64tab), ("internal/strconv.uint64pow10", laid_internal_strconv_uint64pow10), ("cairn/lock.names", laid_cairn_lock_names)] }
def PoolConnectsSaid : Prop := poolConnectsRow.holds Tryz.pinned (OpenSpec.ofChange poolConnectsSpec)

/-- ITS FALSE NEIGHBOUR: 'it returns false'. Refute it at one input. -/
def poolConnectsWrong : ChangeSpec := { name := "poolConnects", fn := fun _ => fun
  | [d1, d2, d3, d4, d5] => { results := [.lit (.bool false)], args := [d1, d2, d3, d4, d5] }
  | _ => none }
def PoolConnectsWrongFalsely : Prop := poolConnectsRow.holds Tryz.pinned (OpenSpec.ofChange poolConnectsWrong)

/-- 'cairnlaw.PoolAccepts': WHATEVER THE INPUT: true; the input reads as it did. -/
def poolAcceptsSpec : ChangeSpec := { name := "poolAccepts", fn := fun _ => fun
  | [d1, d2, d3, d4, d5] => { results := [.lit (.bool true)], args := [d1, d2, d3, d4, d5] }
  | _ => none }
def poolAcceptsRow : OpenClaim := { program := "ytmomfkikogbdeaagreatdoor", sum := "559823dddff2e8bec7b034dc650f2f5fe58a61752621da828692ef8e60b30220", func := "cairn/cairnlaw.PoolAccepts", spec := "poolAccepts", inPlace := ["internal/abi.NoEscape", "internal/bytealg.MakeNoZero", "slices.overlaps[cairn/api.Coin]"], unfollowed := true, recurses := true, named := ["internal/strconv.uint64pow10", "math/bits.deBruijn32tab", "math/bits.deBruijn64tab", "cairn/lock.names"], plainKeys := false, apart := false, laid := [("math/bits.deBruijn32tab", laid_math_bits_deBruijn32tab), ("math/bits.deBruijn64tab", laid_math_bits_deBruijn64tab), ("internal/strconv.uint64pow10", laid_internal_strconv_uint64pow10), ("cairn/lock.names", laid_cairn_lock_names)] }
def PoolAcceptsSaid : Prop := poolAcceptsRow.holds Tryz.pinned (OpenSpec.ofChange poolAcceptsSpec)

/-- ITS FALSE NEIGHBOUR: 'it returns false'. Refute it at one input. -/
def poolAcceptsWrong : ChangeSpec := { name := "poolAccepts", fn := fun _ => fun
  | [d1, d2, d3, d4, d5] => { results := [.lit (.bool false)], args := [d1, d2, d3, d4, d5] }
  | _ => none }
def PoolAcceptsWrongFalsely : Prop := poolAcceptsRow.holds Tryz.pinned (OpenSpec.ofChange poolAcceptsWrong)

/-- 'cairnlaw.NodeGrows': WHATEVER THE INPUT: true; the input reads as it did. -/
def nodeGrowsSpec : ChangeSpec := { name := "nodeGrows", fn := fun _ => fun
  | [d1, d2, d3] => { results := [.lit (.bool true)], args := [d1, d2, d3] }
  | _ => none }
def nodeGrowsRow : OpenClaim := { program := "ytmomfkikogbdeaagreatdoor", sum := "559823dddff2e8bec7b034dc650f2f5fe58a61752621da828692ef8e60b30220", func := "cairn/cairnlaw.NodeGrows", spec := "nodeGrows", inPlace := ["internal/abi.NoEscape", "internal/bytealg.MakeNoZero", "slices.overlaps[cairn/api.Coin]"], unfollowed := true, recurses := true, named := ["internal/strconv.uint64pow10", "math/bits.deBruijn32tab", "math/bits.deBruijn64tab", "cairn/lock.names"], plainKeys := false, apart := false, laid := [("math/bits.deBruijn32tab", laid_math_bits_deBruijn32tab), ("math/bits.deBruijn64tab", laid_math_bits_deBruijn64tab), ("internal/strconv.uint64pow10", laid_internal_strconv_uint64pow10), ("cairn/lock.names", laid_cairn_lock_names)] }
def NodeGrowsSaid : Prop := nodeGrowsRow.holds Tryz.pinned (OpenSpec.ofChange nodeGrowsSpec)

/-- ITS FALSE NEIGHBOUR: 'it returns false'. Refute it at one input. -/
def nodeGrowsWrong : ChangeSpec := { name := "nodeGrows", fn := fun _ => fun
  | [d1, d2, d3] => { results := [.lit (.bool false)], args := [d1, d2, d3] }
  | _ => none }
def NodeGrowsWrongFalsely : Prop := nodeGrowsRow.holds Tryz.pinned (OpenSpec.ofChange nodeGrowsWrong)

/-- 'cairnlaw.NodeSupply': WHATEVER THE INPUT: true; the input reads as it did. -/
def nodeSupplySpec : ChangeSpec := { name := "nodeSupply", fn := fun _ => fun
  | [d1, d2] => { results := [.lit (.bool true)], args := [d1, d2] }
  | _ => none }
def nodeSupplyRow : OpenClaim := { program := "ytmomfkikogbdeaagreatdoor", sum := "559823dddff2e8bec7b034dc650f2f5fe58a61752621da828692ef8e60b30220", func := "cairn/cairnlaw.NodeSupply", spec := "nodeSupply", inPlace := ["internal/abi.NoEscape", "internal/bytealg.MakeNoZero", "slices.overlaps[cairn/api.Coin]"], unfollowed := true, recurses := true, named := ["internal/strconv.uint64pow10", "math/bits.deBruijn32tab", "math/bits.deBruijn64tab", "cairn/lock.names"], plainKeys := false, apart := false, laid := [("math/bits.deBruijn32tab", laid_math_bits_deBruijn32tab), ("math/bits.deBruijn64tab", laid_math_bits_deBruijn64tab), ("internal/strconv.uint64pow10", laid_internal_strconv_uint64pow10), ("cairn/lock.names", laid_cairn_lock_names)] }
def NodeSupplySaid : Prop := nodeSupplyRow.holds Tryz.pinned (OpenSpec.ofChange nodeSupplySpec)

/-- ITS FALSE NEIGHBOUR: 'it returns false'. Refute it at one input. -/
def nodeSupplyWrong : ChangeSpec := { name := "nodeSupply", fn := fun _ => fun
  | [d1, d2] => { results := [.lit (.bool false)], args := [d1, d2] }
  | _ => none }
def NodeSupplyWrongFalsely : Prop := nodeSupplyRow.holds Tryz.pinned (OpenSpec.ofChange nodeSupplyWrong)

/-- 'cairnlaw.NodeOrder': WHATEVER THE INPUT: true; the input reads as it did. -/
def nodeOrderSpec : ChangeSpec := { name := "nodeOrder", fn := fun _ => fun
  | [d1, d2, d3, d4] => { results := [.lit (.bool true)], args := [d1, d2, d3, d4] }
  | _ => none }
def nodeOrderRow : OpenClaim := { program := "ytmomfkikogbdeaagreatdoor", sum := "559823dddff2e8bec7b034dc650f2f5fe58a61752621da828692ef8e60b30220", func := "cairn/cairnlaw.NodeOrder", spec := "nodeOrder", inPlace := ["internal/abi.NoEscape", "internal/bytealg.MakeNoZero", "slices.overlaps[cairn/api.Coin]"], unfollowed := true, recurses := true, named := ["internal/strconv.uint64pow10", "math/bits.deBruijn32tab", "math/bits.deBruijn64tab", "cairn/lock.names"], plainKeys := false, apart := false, laid := [("math/bits.deBruijn32tab", laid_math_bits_deBruijn32tab), ("math/bits.deBruijn64tab", laid_math_bits_deBruijn64tab), ("internal/strconv.uint64pow10", laid_internal_strconv_uint64pow10), ("cairn/lock.names", laid_cairn_lock_names)] }
def NodeOrderSaid : Prop := nodeOrderRow.holds Tryz.pinned (OpenSpec.ofChange nodeOrderSpec)

/-- ITS FALSE NEIGHBOUR: 'it returns false'. Refute it at one input. -/
def nodeOrderWrong : ChangeSpec := { name := "nodeOrder", fn := fun _ => fun
  | [d1, d2, d3, d4] => { results := [.lit (.bool false)], args := [d1, d2, d3, d4] }
  | _ => none }
def NodeOrderWrongFalsely : Prop := nodeOrderRow.holds Tryz.pinned (OpenSpec.ofChange nodeOrderWrong)

/-- 'cairnlaw.NodeTwice': WHATEVER THE INPUT: true; the input reads as it did. -/
def nodeTwiceSpec : ChangeSpec := { name := "nodeTwice", fn := fun _ => fun
  | [d1, d2, d3, d4, d5] => { results := [.lit (.bool true)], args := [d1, d2, d3, d4, d5] }
  | _ => none }
def nodeTwiceRow : OpenClaim := { program := "ytmomfkikogbdeaagreatdoor", sum := "559823dddff2e8bec7b034dc650f2f5fe58a61752621da828692ef8e60b30220", func := "cairn/cairnlaw.NodeTwice", spec := "nodeTwice", inPlace := ["internal/abi.NoEscape", "internal/bytealg.MakeNoZero", "slices.overlaps[cairn/api.Coin]"], unfollowed := true, recurses := true, named := ["internal/strconv.uint64pow10", "math/bits.deBruijn32tab", "math/bits.deBruijn64tab", "cairn/lock.names"], plainKeys := false, apart := false, laid := [("math/bits.deBruijn32tab", laid_math_bits_deBruijn32tab), ("math/bits.deBruijn64tab", laid_math_bits_deBruijn64tab), ("internal/strconv.uint64pow10", laid_internal_strconv_uint64pow10), ("cairn/lock.names", laid_cairn_lock_names)] }
def NodeTwiceSaid : Prop := nodeTwiceRow.holds Tryz.pinned (OpenSpec.ofChange nodeTwiceSpec)

/-- ITS FALSE NEIGHBOUR: 'it returns false'. Refute it at one input. -/
def nodeTwiceWrong : ChangeSpec := { name := "nodeTwice", fn := fun _ => fun
  | [d1, d2, d3, d4, d5] => { results := [.lit (.bool false)], args := [d1, d2, d3, d4, d5] }
  | _ => none }
def NodeTwiceWrongFalsely : Prop := nodeTwiceRow.holds Tryz.pinned (OpenSpec.ofChange nodeTwiceWrong)

/-- 'cairnlaw.WorldAgree': WHATEVER THE INPUT: true; the input reads as it did. -/
def worldAgreeSpec : ChangeSpec := { name := "worldAgree", fn := fun _ => fun
  | [d] => { results := [.lit (.bool true)], args := [d] }
  | _ => none }
def worldAgreeRow : OpenClaim := { program := "ytmomfkikogbdeaagreatdoor", sum := "559823dddff2e8bec7b034dc650f2f5fe58a61752621da828692ef8e60b30220", func := "cairn/cairnlaw.WorldAgree", spec := "worldAgree", inPlace := ["internal/abi.NoEscape", "internal/bytealg.MakeNoZero", "slices.overlaps[cairn/api.Coin]"], unfollowed := true, recurses := true, named := ["internal/strconv.uint64pow10", "math/bits.deBruijn32tab", "math/bits.deBruijn64tab", "cairn/lock.names"], plainKeys := false, apart := false, laid := [("math/bits.deBruijn32tab", laid_math_bits_deBruijn32tab), ("math/bits.deBruijn64tab", laid_math_bits_deBruijn64tab), ("internal/strconv.uint64pow10", laid_internal_strconv_uint64pow10), ("cairn/lock.names", laid_cairn_lock_names)] }
def WorldAgreeSaid : Prop := worldAgreeRow.holds Tryz.pinned (OpenSpec.ofChange worldAgreeSpec)

/-- ITS FALSE NEIGHBOUR: 'it returns false'. Refute it at one input. -/
def worldAgreeWrong : ChangeSpec := { name := "worldAgree", fn := fun _ => fun
  | [d] => { results := [.lit (.bool false)], args := [d] }
  | _ => none }
def WorldAgreeWrongFalsely : Prop := worldAgreeRow.holds Tryz.pinned (OpenSpec.ofChange worldAgreeWrong)

/-- 'cairnlaw.WorldNet': WHATEVER THE INPUT: true; the input reads as it did. -/
def worldNetSpec : ChangeSpec := { name := "worldNet", fn := fun _ => fun
  | [d1, d2] => { results := [.lit (.bool true)], args := [d1, d2] }
  | _ => none }
def worldNetRow : OpenClaim := { program := "ytmomfkikogbdeaagreatdoor", sum := "559823dddff2e8bec7b034dc650f2f5fe58a61752621da828692ef8e60b30220", func := "cairn/cairnlaw.WorldNet", spec := "worldNet", inPlace := ["internal/abi.NoEscape", "internal/bytealg.MakeNoZero", "slices.overlaps[cairn/api.Coin]"], unfollowed := true, recurses := true, named := ["internal/strconv.uint64pow10", "math/bits.deBruijn32tab", "math/bits.deBruijn64tab", "cairn/lock.names"], plainKeys := false, apart := false, laid := [("math/bits.deBruijn32tab", laid_math_bits_deBruijn32tab), ("math/bits.deBruijn64tab", laid_math_bits_deBruijn64tab), ("internal/strconv.uint64pow10", laid_internal_strconv_uint64pow10), ("cairn/lock.names", laid_cairn_lock_names)] }
def WorldNetSaid : Prop := worldNetRow.holds Tryz.pinned (OpenSpec.ofChange worldNetSpec)

/-- ITS FALSE NEIGHBOUR: 'it returns false'. Refute it at one input. -/
def worldNetWrong : ChangeSpec := { name := "worldNet", fn := fun _ => fun
  | [d1, d2] => { results := [.lit (.bool false)], args := [d1, d2] }
  | _ => none }
def WorldNetWrongFalsely : Prop := worldNetRow.holds Tryz.pinned (OpenSpec.ofChange worldNetWrong)

/-- 'cairnlaw.WorldKeeps': WHATEVER THE INPUT: true; the input reads as it did. -/
def worldKeepsSpec : ChangeSpec := { name := "worldKeeps", fn := fun _ => fun
  | [d1, d2] => { results := [.lit (.bool true)], args := [d1, d2] }
  | _ => none }
def worldKeepsRow : OpenClaim := { program := "ytmomfkikogbdeaagreatdoor", sum := "559823dddff2e8bec7b034dc650f2f5fe58a61752621da828692ef8e60b30220", func := "cairn/cairnlaw.WorldKeeps", spec := "worldKeeps", inPlace := ["internal/abi.NoEscape", "internal/bytealg.MakeNoZero", "slices.overlaps[cairn/api.Coin]"], unfollowed := true, recurses := true, named := ["internal/strconv.uint64pow10", "math/bits.deBruijn32tab", "math/bits.deBruijn64tab", "cairn/lock.names"], plainKeys := false, apart := false, laid := [("math/bits.deBruijn32tab", laid_math_bits_deBruijn32tab), ("math/bits.deBruijn64tab", laid_math_bits_deBruijn64tab), ("internal/strconv.uint64pow10", laid_internal_strconv_uint64pow10), ("cairn/lock.names", laid_cairn_lock_names)] }
def WorldKeepsSaid : Prop := worldKeepsRow.holds Tryz.pinned (OpenSpec.ofChange worldKeepsSpec)

/-- ITS FALSE NEIGHBOUR: 'it returns false'. Refute it at one input. -/
def worldKeepsWrong : ChangeSpec := { name := "worldKeeps", fn := fun _ => fun
  | [d1, d2] => { results := [.lit (.bool false)], args := [d1, d2] }
  | _ => none }
def WorldKeepsWrongFalsely : Prop := worldKeepsRow.holds Tryz.pinned (OpenSpec.ofChange worldKeepsWrong)

/-- 'cairnlaw.WorldHonest': WHATEVER THE INPUT: true; the input reads as it did. -/
def worldHonestSpec : ChangeSpec := { name := "worldHonest", fn := fun _ => fun
  | [d1, d2] => { results := [.lit (.bool true)], args := [d1, d2] }
  | _ => none }
def worldHonestRow : OpenClaim := { program := "ytmomfkikogbdeaagreatdoor", sum := "559823dddff2e8bec7b034dc650f2f5fe58a61752621da828692ef8e60b30220", func := "cairn/cairnlaw.WorldHonest", spec := "worldHonest", inPlace := ["internal/abi.NoEscape", "internal/bytealg.MakeNoZero", "slices.overlaps[cairn/api.Coin]"], unfollowed := true, recurses := true, named := ["internal/strconv.uint64pow10", "math/bits.deBruijn32tab", "math/bits.deBruijn64tab", "cairn/lock.names"], plainKeys := false, apart := false, laid := [("math/bits.deBruijn32tab", laid_math_bits_deBruijn32tab), ("math/bits.deBruijn64tab", laid_math_bits_deBruijn64tab), ("internal/strconv.uint64pow10", laid_internal_strconv_uint64pow10), ("cairn/lock.names", laid_cairn_lock_names)] }
def WorldHonestSaid : Prop := worldHonestRow.holds Tryz.pinned (OpenSpec.ofChange worldHonestSpec)

/-- ITS FALSE NEIGHBOUR: 'it returns false'. Refute it at one input. -/
def worldHonestWrong : ChangeSpec := { name := "worldHonest", fn := fun _ => fun
  | [d1, d2] => { results := [.lit (.bool false)], args := [d1, d2] }
  | _ => none }
def WorldHonestWrongFalsely : Prop := worldHonestRow.holds Tryz.pinned (OpenSpec.ofChange worldHonestWrong)

/- THE SECOND FORM. 'bulk': how many values and letters a reading holds, each counted each time it is reached (what is shared counts as often as it is met; a slice's spare places count too). A statement '..UptoSaid' is the law's where the arguments, and the package variables that the reading takes, are together of bulk at most 1048576: NARROWER than '..Said'. Prove '..Said' where nothing that the law and all that it calls make is longer than what came in: it says more and counts as full. Else prove '..UptoSaid'. A law counts once. -/
mutual
def uptoBulk {H : Type} : DataW H → Nat
  | .lit (.string bytes) => bytes.length + 1
  | .lit _ => 1
  | .nil => 1
  | .ptr d => uptoBulk d + 1
  | .slice elems spare => uptoBulkAll elems + uptoBulkAll spare + 1
  | .agg parts => uptoBulkAll parts + 1
  | .iface _ d => uptoBulk d + 1
  | .map entries => uptoBulkEntries entries + 1
  | .held _ => 1
def uptoBulkAll {H : Type} : List (DataW H) → Nat
  | [] => 0
  | d :: r => uptoBulk d + uptoBulkAll r
def uptoBulkEntries {H : Type} : List (Lit × DataW H) → Nat
  | [] => 0
  | x :: r => uptoBulkEntry x + uptoBulkEntries r
def uptoBulkEntry {H : Type} : Lit × DataW H → Nat
  | (.string bytes, d) => bytes.length + uptoBulk d + 1
  | (_, d) => uptoBulk d + 1
 end
def uptoSmall : (H : Type) → List (DataW H) → Bool := fun _ ds => decide (uptoBulkAll ds ≤ 1048576)
def OpenSpec.upto (s : _root_.Go.ChangeSpec) : _root_.Go.OpenSpec := { _root_.Go.OpenSpec.ofChange s with cond := some uptoSmall }

/-- 'cairnlaw.ChainMoves', WHERE WHAT IT READS IS OF BULK AT MOST 1048576: true; the input reads as it did. -/
def chainMovesUptoRow : OpenClaim := { program := "ytmomfkikogbdeaagreatdoor", sum := "559823dddff2e8bec7b034dc650f2f5fe58a61752621da828692ef8e60b30220", func := "cairn/cairnlaw.ChainMoves", spec := "chainMoves", inPlace := ["internal/abi.NoEscape", "internal/bytealg.MakeNoZero", "slices.overlaps[cairn/api.Coin]"], unfollowed := true, recurses := true, named := ["internal/strconv.uint64pow10", "math/bits.deBruijn32tab", "math/bits.deBruijn64tab", "cairn/lock.names"], plainKeys := false, apart := false, laid := [("math/bits.deBruijn32tab", laid_math_bits_deBruijn32tab), ("math/bits.deBruijn64tab", laid_math_bits_deBruijn64tab), ("internal/strconv.uint64pow10", laid_internal_strconv_uint64pow10), ("cairn/lock.names", laid_cairn_lock_names)], narrowed := true }
def ChainMovesUptoSaid : Prop := chainMovesUptoRow.holds Tryz.pinned (OpenSpec.upto chainMovesSpec)

/-- 'cairnlaw.ChainDepths', WHERE WHAT IT READS IS OF BULK AT MOST 1048576: true; the input reads as it did. -/
def chainDepthsUptoRow : OpenClaim := { program := "ytmomfkikogbdeaagreatdoor", sum := "559823dddff2e8bec7b034dc650f2f5fe58a61752621da828692ef8e60b30220", func := "cairn/cairnlaw.ChainDepths", spec := "chainDepths", inPlace := ["internal/abi.NoEscape", "internal/bytealg.MakeNoZero", "slices.overlaps[cairn/api.Coin]"], unfollowed := true, recurses := true, named := ["internal/strconv.uint64pow10", "math/bits.deBruijn32tab", "math/bits.deBruijn64tab", "cairn/lock.names"], plainKeys := false, apart := false, laid := [("math/bits.deBruijn32tab", laid_math_bits_deBruijn32tab), ("math/bits.deBruijn64tab", laid_math_bits_deBruijn64tab), ("internal/strconv.uint64pow10", laid_internal_strconv_uint64pow10), ("cairn/lock.names", laid_cairn_lock_names)], narrowed := true }
def ChainDepthsUptoSaid : Prop := chainDepthsUptoRow.holds Tryz.pinned (OpenSpec.upto chainDepthsSpec)

/-- 'cairnlaw.ChainWays', WHERE WHAT IT READS IS OF BULK AT MOST 1048576: true; the input reads as it did. -/
def chainWaysUptoRow : OpenClaim := { program := "ytmomfkikogbdeaagreatdoor", sum := "559823dddff2e8bec7b034dc650f2f5fe58a61752621da828692ef8e60b30220", func := "cairn/cairnlaw.ChainWays", spec := "chainWays", inPlace := ["internal/abi.NoEscape", "internal/bytealg.MakeNoZero", "slices.overlaps[cairn/api.Coin]"], unfollowed := true, recurses := true, named := ["internal/strconv.uint64pow10", "math/bits.deBruijn32tab", "math/bits.deBruijn64tab", "cairn/lock.names"], plainKeys := false, apart := false, laid := [("math/bits.deBruijn32tab", laid_math_bits_deBruijn32tab), ("math/bits.deBruijn64tab", laid_math_bits_deBruijn64tab), ("internal/strconv.uint64pow10", laid_internal_strconv_uint64pow10), ("cairn/lock.names", laid_cairn_lock_names)], narrowed := true }
def ChainWaysUptoSaid : Prop := chainWaysUptoRow.holds Tryz.pinned (OpenSpec.upto chainWaysSpec)

/-- 'cairnlaw.PoolConnects', WHERE WHAT IT READS IS OF BULK AT MOST 1048576: true; the input reads as it did. -/
def poolConnectsUptoRow : OpenClaim := { program := "ytmomfkikogbdeaagreatdoor", sum := "559823dddff2e8bec7b034dc650f2f5fe58a61752621da828692ef8e60b30220", func := "cairn/cairnlaw.PoolConnects", spec := "poolConnects", inPlace := ["internal/abi.NoEscape", "internal/bytealg.MakeNoZero", "slices.overlaps[cairn/api.Coin]"], unfollowed := true, recurses := true, named := ["internal/strconv.uint64pow10", "math/bits.deBruijn32tab", "math/bits.deBruijn64tab", "cairn/lock.names"], plainKeys := false, apart := false, laid := [("math/bits.deBruijn32tab", laid_math_bits_deBruijn32tab), ("math/bits.deBruijn64tab", laid_math_bits_deBruijn64tab), ("internal/strconv.uint64pow10", laid_internal_strconv_uint64pow10), ("cairn/lock.names", laid_cairn_lock_names)], narrowed := true }
def PoolConnectsUptoSaid : Prop := poolConnectsUptoRow.holds Tryz.pinned (OpenSpec.upto poolConnectsSpec)

/-- 'cairnlaw.PoolAccepts', WHERE WHAT IT READS IS OF BULK AT MOST 1048576: true; the input reads as it did. -/
def poolAcceptsUptoRow : OpenClaim := { program := "ytmomfkikogbdeaagreatdoor", sum := "559823dddff2e8bec7b034dc650f2f5fe58a61752621da828692ef8e60b30220", func := "cairn/cairnlaw.PoolAccepts", spec := "poolAccepts", inPlace := ["internal/abi.NoEscape", "internal/bytealg.MakeNoZero", "slices.overlaps[cairn/api.Coin]"], unfollowed := true, recurses := true, named := ["internal/strconv.uint64pow10", "math/bits.deBruijn32tab", "math/bits.deBruijn64tab", "cairn/lock.names"], plainKeys := false, apart := false, laid := [("math/bits.deBruijn32tab", laid_math_bits_deBruijn32tab), ("math/bits.deBruijn64tab", laid_math_bits_deBruijn64tab), ("internal/strconv.uint64pow10", laid_internal_strconv_uint64pow10), ("cairn/lock.names", laid_cairn_lock_names)], narrowed := true }
def PoolAcceptsUptoSaid : Prop := poolAcceptsUptoRow.holds Tryz.pinned (OpenSpec.upto poolAcceptsSpec)

/-- 'cairnlaw.NodeGrows', WHERE WHAT IT READS IS OF BULK AT MOST 1048576: true; the input reads as it did. -/
def nodeGrowsUptoRow : OpenClaim := { program := "ytmomfkikogbdeaagreatdoor", sum := "559823dddff2e8bec7b034dc650f2f5fe58a61752621da828692ef8e60b30220", func := "cairn/cairnlaw.NodeGrows", spec := "nodeGrows", inPlace := ["internal/abi.NoEscape", "internal/bytealg.MakeNoZero", "slices.overlaps[cairn/api.Coin]"], unfollowed := true, recurses := true, named := ["internal/strconv.uint64pow10", "math/bits.deBruijn32tab", "math/bits.deBruijn64tab", "cairn/lock.names"], plainKeys := false, apart := false, laid := [("math/bits.deBruijn32tab", laid_math_bits_deBruijn32tab), ("math/bits.deBruijn64tab", laid_math_bits_deBruijn64tab), ("internal/strconv.uint64pow10", laid_internal_strconv_uint64pow10), ("cairn/lock.names", laid_cairn_lock_names)], narrowed := true }
def NodeGrowsUptoSaid : Prop := nodeGrowsUptoRow.holds Tryz.pinned (OpenSpec.upto nodeGrowsSpec)

/-- 'cairnlaw.NodeSupply', WHERE WHAT IT READS IS OF BULK AT MOST 1048576: true; the input reads as it did. -/
def nodeSupplyUptoRow : OpenClaim := { program := "ytmomfkikogbdeaagreatdoor", sum := "559823dddff2e8bec7b034dc650f2f5fe58a61752621da828692ef8e60b30220", func := "cairn/cairnlaw.NodeSupply", spec := "nodeSupply", inPlace := ["internal/abi.NoEscape", "internal/bytealg.MakeNoZero", "slices.overlaps[cairn/api.Coin]"], unfollowed := true, recurses := true, named := ["internal/strconv.uint64pow10", "math/bits.deBruijn32tab", "math/bits.deBruijn64tab", "cairn/lock.names"], plainKeys := false, apart := false, laid := [("math/bits.deBruijn32tab", laid_math_bits_deBruijn32tab), ("math/bits.deBruijn64tab", laid_math_bits_deBruijn64tab), ("internal/strconv.uint64pow10", laid_internal_strconv_uint64pow10), ("cairn/lock.names", laid_cairn_lock_names)], narrowed := true }
def NodeSupplyUptoSaid : Prop := nodeSupplyUptoRow.holds Tryz.pinned (OpenSpec.upto nodeSupplySpec)

/-- 'cairnlaw.NodeOrder', WHERE WHAT IT READS IS OF BULK AT MOST 1048576: true; the input reads as it did. -/
def nodeOrderUptoRow : OpenClaim := { program := "ytmomfkikogbdeaagreatdoor", sum := "559823dddff2e8bec7b034dc650f2f5fe58a61752621da828692ef8e60b30220", func := "cairn/cairnlaw.NodeOrder", spec := "nodeOrder", inPlace := ["internal/abi.NoEscape", "internal/bytealg.MakeNoZero", "slices.overlaps[cairn/api.Coin]"], unfollowed := true, recurses := true, named := ["internal/strconv.uint64pow10", "math/bits.deBruijn32tab", "math/bits.deBruijn64tab", "cairn/lock.names"], plainKeys := false, apart := false, laid := [("math/bits.deBruijn32tab", laid_math_bits_deBruijn32tab), ("math/bits.deBruijn64tab", laid_math_bits_deBruijn64tab), ("internal/strconv.uint64pow10", laid_internal_strconv_uint64pow10), ("cairn/lock.names", laid_cairn_lock_names)], narrowed := true }
def NodeOrderUptoSaid : Prop := nodeOrderUptoRow.holds Tryz.pinned (OpenSpec.upto nodeOrderSpec)

/-- 'cairnlaw.NodeTwice', WHERE WHAT IT READS IS OF BULK AT MOST 1048576: true; the input reads as it did. -/
def nodeTwiceUptoRow : OpenClaim := { program := "ytmomfkikogbdeaagreatdoor", sum := "559823dddff2e8bec7b034dc650f2f5fe58a61752621da828692ef8e60b30220", func := "cairn/cairnlaw.NodeTwice", spec := "nodeTwice", inPlace := ["internal/abi.NoEscape", "internal/bytealg.MakeNoZero", "slices.overlaps[cairn/api.Coin]"], unfollowed := true, recurses := true, named := ["internal/strconv.uint64pow10", "math/bits.deBruijn32tab", "math/bits.deBruijn64tab", "cairn/lock.names"], plainKeys := false, apart := false, laid := [("math/bits.deBruijn32tab", laid_math_bits_deBruijn32tab), ("math/bits.deBruijn64tab", laid_math_bits_deBruijn64tab), ("internal/strconv.uint64pow10", laid_internal_strconv_uint64pow10), ("cairn/lock.names", laid_cairn_lock_names)], narrowed := true }
def NodeTwiceUptoSaid : Prop := nodeTwiceUptoRow.holds Tryz.pinned (OpenSpec.upto nodeTwiceSpec)

/-- 'cairnlaw.WorldAgree', WHERE WHAT IT READS IS OF BULK AT MOST 1048576: true; the input reads as it did. -/
def worldAgreeUptoRow : OpenClaim := { program := "ytmomfkikogbdeaagreatdoor", sum := "559823dddff2e8bec7b034dc650f2f5fe58a61752621da828692ef8e60b30220", func := "cairn/cairnlaw.WorldAgree", spec := "worldAgree", inPlace := ["internal/abi.NoEscape", "internal/bytealg.MakeNoZero", "slices.overlaps[cairn/api.Coin]"], unfollowed := true, recurses := true, named := ["internal/strconv.uint64pow10", "math/bits.deBruijn32tab", "math/bits.deBruijn64tab", "cairn/lock.names"], plainKeys := false, apart := false, laid := [("math/bits.deBruijn32tab", laid_math_bits_deBruijn32tab), ("math/bits.deBruijn64tab", laid_math_bits_deBruijn64tab), ("internal/strconv.uint64pow10", laid_internal_strconv_uint64pow10), ("cairn/lock.names", laid_cairn_lock_names)], narrowed := true }
def WorldAgreeUptoSaid : Prop := worldAgreeUptoRow.holds Tryz.pinned (OpenSpec.upto worldAgreeSpec)

/-- 'cairnlaw.WorldNet', WHERE WHAT IT READS IS OF BULK AT MOST 1048576: true; the input reads as it did. -/
def worldNetUptoRow : OpenClaim := { program := "ytmomfkikogbdeaagreatdoor", sum := "559823dddff2e8bec7b034dc650f2f5fe58a61752621da828692ef8e60b30220", func := "cairn/cairnlaw.WorldNet", spec := "worldNet", inPlace := ["internal/abi.NoEscape", "internal/bytealg.MakeNoZero", "slices.overlaps[cairn/api.Coin]"], unfollowed := true, recurses := true, named := ["internal/strconv.uint64pow10", "math/bits.deBruijn32tab", "math/bits.deBruijn64tab", "cairn/lock.names"], plainKeys := false, apart := false, laid := [("math/bits.deBruijn32tab", laid_math_bits_deBruijn32tab), ("math/bits.deBruijn64tab", laid_math_bits_deBruijn64tab), ("internal/strconv.uint64pow10", laid_internal_strconv_uint64pow10), ("cairn/lock.names", laid_cairn_lock_names)], narrowed := true }
def WorldNetUptoSaid : Prop := worldNetUptoRow.holds Tryz.pinned (OpenSpec.upto worldNetSpec)

/-- 'cairnlaw.WorldKeeps', WHERE WHAT IT READS IS OF BULK AT MOST 1048576: true; the input reads as it did. -/
def worldKeepsUptoRow : OpenClaim := { program := "ytmomfkikogbdeaagreatdoor", sum := "559823dddff2e8bec7b034dc650f2f5fe58a61752621da828692ef8e60b30220", func := "cairn/cairnlaw.WorldKeeps", spec := "worldKeeps", inPlace := ["internal/abi.NoEscape", "internal/bytealg.MakeNoZero", "slices.overlaps[cairn/api.Coin]"], unfollowed := true, recurses := true, named := ["internal/strconv.uint64pow10", "math/bits.deBruijn32tab", "math/bits.deBruijn64tab", "cairn/lock.names"], plainKeys := false, apart := false, laid := [("math/bits.deBruijn32tab", laid_math_bits_deBruijn32tab), ("math/bits.deBruijn64tab", laid_math_bits_deBruijn64tab), ("internal/strconv.uint64pow10", laid_internal_strconv_uint64pow10), ("cairn/lock.names", laid_cairn_lock_names)], narrowed := true }
def WorldKeepsUptoSaid : Prop := worldKeepsUptoRow.holds Tryz.pinned (OpenSpec.upto worldKeepsSpec)

/-- 'cairnlaw.WorldHonest', WHERE WHAT IT READS IS OF BULK AT MOST 1048576: true; the input reads as it did. -/
def worldHonestUptoRow : OpenClaim := { program := "ytmomfkikogbdeaagreatdoor", sum := "559823dddff2e8bec7b034dc650f2f5fe58a61752621da828692ef8e60b30220", func := "cairn/cairnlaw.WorldHonest", spec := "worldHonest", inPlace := ["internal/abi.NoEscape", "internal/bytealg.MakeNoZero", "slices.overlaps[cairn/api.Coin]"], unfollowed := true, recurses := true, named := ["internal/strconv.uint64pow10", "math/bits.deBruijn32tab", "math/bits.deBruijn64tab", "cairn/lock.names"], plainKeys := false, apart := false, laid := [("math/bits.deBruijn32tab", laid_math_bits_deBruijn32tab), ("math/bits.deBruijn64tab", laid_math_bits_deBruijn64tab), ("internal/strconv.uint64pow10", laid_internal_strconv_uint64pow10), ("cairn/lock.names", laid_cairn_lock_names)], narrowed := true }
def WorldHonestUptoSaid : Prop := worldHonestUptoRow.holds Tryz.pinned (OpenSpec.upto worldHonestSpec)

end Rows
end Go.Proofs.YtmomfkikogbdeaaGreatDoor
