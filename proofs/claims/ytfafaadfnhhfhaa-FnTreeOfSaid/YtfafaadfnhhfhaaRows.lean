/-
  No cell of these rows narrows 'for every input' (looked for: loops, veiled, ifaces, maps, wideKeys, modest, calm, conditions, laid).
  DERIVED. THE GIVEN ROWS OF THIS SEAT. 20 by the template 'for every input the law returns true; each argument reads behind the call as it read before'; 0 by the template 'total and deterministic' (their statements: YtfafaadfnhhfhaaTotals.lean).
  GIVEN WITH THE SEED: the statements are not yours to turn. If you find one false, say at which input.
  Laid BY PROGRAM, IN A SANDBOX (cutbox-rows.mjs): the forced cells as the released guide's own fill.sh prints them over the translation 0d1a7ae4bc68768e… (all of the seat's roots in one cut). By AI agents, Wed Nov 11 2026. No macro, syntax, notation, axiom, sorry.
-/
import Derived.Test.YtfafaadfnhhfhaaChecked
import GoSem.Claim
import GoSem.ClaimJoined
import GoSem.ClaimMapViews
import Derived.JoinedTies
import Derived.KernelRfl
namespace Go.Proofs.Ytfafaadfnhhfhaa
/- THE CELL 'sum', in the pinned program and in every row, IS THE sha256 OF THE DUMP (.gsa) THAT YtfafaadfnhhfhaaProg.lean LOADS. Nothing in Lean hashes anything: it is a label: what it is worth is what the hold of that sum in a sandbox is worth. -/
noncomputable def Try.pinned : Pinned := { name := "ytfafaadfnhhfhaa", sum := "0d1a7ae4bc68768ef55c0d860b1598f692bd89a9e0069ff8503ffc5759459545", checked := Try.checked }
namespace Rows
def none {H : Type} : Left H := { results := [], args := [] }

/-- 'laws.FnTree': WHATEVER THE INPUT: true; the input reads as it did. -/
def fnTreeSpec : ChangeSpec := { name := "fnTree", fn := fun _ => fun
  | [d] => { results := [.lit (.bool true)], args := [d] }
  | _ => none }
def fnTreeRow : OpenClaim := { program := "ytfafaadfnhhfhaa", sum := "0d1a7ae4bc68768ef55c0d860b1598f692bd89a9e0069ff8503ffc5759459545", func := "loop.example/treenumbers/laws.FnTree", spec := "fnTree", inPlace := ["internal/abi.NoEscape", "internal/bytealg.MakeNoZero"], recurses := true, apart := false }
def FnTreeSaid : Prop := fnTreeRow.holds Try.pinned (OpenSpec.ofChange fnTreeSpec)

/-- ITS FALSE NEIGHBOUR: 'it returns false'. Refute it at one input. -/
def fnTreeWrong : ChangeSpec := { name := "fnTree", fn := fun _ => fun
  | [d] => { results := [.lit (.bool false)], args := [d] }
  | _ => none }
def FnTreeWrongFalsely : Prop := fnTreeRow.holds Try.pinned (OpenSpec.ofChange fnTreeWrong)

/-- 'laws.FnNodes': WHATEVER THE INPUT: true; the input reads as it did. -/
def fnNodesSpec : ChangeSpec := { name := "fnNodes", fn := fun _ => fun
  | [d] => { results := [.lit (.bool true)], args := [d] }
  | _ => none }
def fnNodesRow : OpenClaim := { program := "ytfafaadfnhhfhaa", sum := "0d1a7ae4bc68768ef55c0d860b1598f692bd89a9e0069ff8503ffc5759459545", func := "loop.example/treenumbers/laws.FnNodes", spec := "fnNodes", recurses := true, apart := false }
def FnNodesSaid : Prop := fnNodesRow.holds Try.pinned (OpenSpec.ofChange fnNodesSpec)

/-- ITS FALSE NEIGHBOUR: 'it returns false'. Refute it at one input. -/
def fnNodesWrong : ChangeSpec := { name := "fnNodes", fn := fun _ => fun
  | [d] => { results := [.lit (.bool false)], args := [d] }
  | _ => none }
def FnNodesWrongFalsely : Prop := fnNodesRow.holds Try.pinned (OpenSpec.ofChange fnNodesWrong)

/-- 'laws.FnLeaves': WHATEVER THE INPUT: true; the input reads as it did. -/
def fnLeavesSpec : ChangeSpec := { name := "fnLeaves", fn := fun _ => fun
  | [d] => { results := [.lit (.bool true)], args := [d] }
  | _ => none }
def fnLeavesRow : OpenClaim := { program := "ytfafaadfnhhfhaa", sum := "0d1a7ae4bc68768ef55c0d860b1598f692bd89a9e0069ff8503ffc5759459545", func := "loop.example/treenumbers/laws.FnLeaves", spec := "fnLeaves", inPlace := ["internal/bytealg.abigen_runtime_cmpstring"], unfollowed := true, recurses := true, apart := false }
def FnLeavesSaid : Prop := fnLeavesRow.holds Try.pinned (OpenSpec.ofChange fnLeavesSpec)

/-- ITS FALSE NEIGHBOUR: 'it returns false'. Refute it at one input. -/
def fnLeavesWrong : ChangeSpec := { name := "fnLeaves", fn := fun _ => fun
  | [d] => { results := [.lit (.bool false)], args := [d] }
  | _ => none }
def FnLeavesWrongFalsely : Prop := fnLeavesRow.holds Try.pinned (OpenSpec.ofChange fnLeavesWrong)

/-- 'laws.FnHeight': WHATEVER THE INPUT: true; the input reads as it did. -/
def fnHeightSpec : ChangeSpec := { name := "fnHeight", fn := fun _ => fun
  | [d] => { results := [.lit (.bool true)], args := [d] }
  | _ => none }
def fnHeightRow : OpenClaim := { program := "ytfafaadfnhhfhaa", sum := "0d1a7ae4bc68768ef55c0d860b1598f692bd89a9e0069ff8503ffc5759459545", func := "loop.example/treenumbers/laws.FnHeight", spec := "fnHeight", recurses := true, apart := false }
def FnHeightSaid : Prop := fnHeightRow.holds Try.pinned (OpenSpec.ofChange fnHeightSpec)

/-- ITS FALSE NEIGHBOUR: 'it returns false'. Refute it at one input. -/
def fnHeightWrong : ChangeSpec := { name := "fnHeight", fn := fun _ => fun
  | [d] => { results := [.lit (.bool false)], args := [d] }
  | _ => none }
def FnHeightWrongFalsely : Prop := fnHeightRow.holds Try.pinned (OpenSpec.ofChange fnHeightWrong)

/-- 'laws.FnChildren': WHATEVER THE INPUT: true; the input reads as it did. -/
def fnChildrenSpec : ChangeSpec := { name := "fnChildren", fn := fun _ => fun
  | [d] => { results := [.lit (.bool true)], args := [d] }
  | _ => none }
def fnChildrenRow : OpenClaim := { program := "ytfafaadfnhhfhaa", sum := "0d1a7ae4bc68768ef55c0d860b1598f692bd89a9e0069ff8503ffc5759459545", func := "loop.example/treenumbers/laws.FnChildren", spec := "fnChildren", recurses := true, apart := false }
def FnChildrenSaid : Prop := fnChildrenRow.holds Try.pinned (OpenSpec.ofChange fnChildrenSpec)

/-- ITS FALSE NEIGHBOUR: 'it returns false'. Refute it at one input. -/
def fnChildrenWrong : ChangeSpec := { name := "fnChildren", fn := fun _ => fun
  | [d] => { results := [.lit (.bool false)], args := [d] }
  | _ => none }
def FnChildrenWrongFalsely : Prop := fnChildrenRow.holds Try.pinned (OpenSpec.ofChange fnChildrenWrong)

/-- 'laws.FnTreeOf': WHATEVER THE INPUT: true; the input reads as it did. -/
def fnTreeOfSpec : ChangeSpec := { name := "fnTreeOf", fn := fun _ => fun
  | [d] => { results := [.lit (.bool true)], args := [d] }
  | _ => none }
def fnTreeOfRow : OpenClaim := { program := "ytfafaadfnhhfhaa", sum := "0d1a7ae4bc68768ef55c0d860b1598f692bd89a9e0069ff8503ffc5759459545", func := "loop.example/treenumbers/laws.FnTreeOf", spec := "fnTreeOf", inPlace := ["internal/abi.NoEscape", "internal/bytealg.MakeNoZero"], recurses := true, apart := false }
def FnTreeOfSaid : Prop := fnTreeOfRow.holds Try.pinned (OpenSpec.ofChange fnTreeOfSpec)

/-- ITS FALSE NEIGHBOUR: 'it returns false'. Refute it at one input. -/
def fnTreeOfWrong : ChangeSpec := { name := "fnTreeOf", fn := fun _ => fun
  | [d] => { results := [.lit (.bool false)], args := [d] }
  | _ => none }
def FnTreeOfWrongFalsely : Prop := fnTreeOfRow.holds Try.pinned (OpenSpec.ofChange fnTreeOfWrong)

/-- 'laws.FnTurned': WHATEVER THE INPUT: true; the input reads as it did. -/
def fnTurnedSpec : ChangeSpec := { name := "fnTurned", fn := fun _ => fun
  | [d] => { results := [.lit (.bool true)], args := [d] }
  | _ => none }
def fnTurnedRow : OpenClaim := { program := "ytfafaadfnhhfhaa", sum := "0d1a7ae4bc68768ef55c0d860b1598f692bd89a9e0069ff8503ffc5759459545", func := "loop.example/treenumbers/laws.FnTurned", spec := "fnTurned", inPlace := ["internal/bytealg.abigen_runtime_cmpstring"], unfollowed := true, recurses := true, apart := false }
def FnTurnedSaid : Prop := fnTurnedRow.holds Try.pinned (OpenSpec.ofChange fnTurnedSpec)

/-- ITS FALSE NEIGHBOUR: 'it returns false'. Refute it at one input. -/
def fnTurnedWrong : ChangeSpec := { name := "fnTurned", fn := fun _ => fun
  | [d] => { results := [.lit (.bool false)], args := [d] }
  | _ => none }
def FnTurnedWrongFalsely : Prop := fnTurnedRow.holds Try.pinned (OpenSpec.ofChange fnTurnedWrong)

/-- 'laws.FnSorted': WHATEVER THE INPUT: true; the input reads as it did. -/
def fnSortedSpec : ChangeSpec := { name := "fnSorted", fn := fun _ => fun
  | [d] => { results := [.lit (.bool true)], args := [d] }
  | _ => none }
def fnSortedRow : OpenClaim := { program := "ytfafaadfnhhfhaa", sum := "0d1a7ae4bc68768ef55c0d860b1598f692bd89a9e0069ff8503ffc5759459545", func := "loop.example/treenumbers/laws.FnSorted", spec := "fnSorted", inPlace := ["internal/bytealg.abigen_runtime_cmpstring"], unfollowed := true, recurses := true, apart := false }
def FnSortedSaid : Prop := fnSortedRow.holds Try.pinned (OpenSpec.ofChange fnSortedSpec)

/-- ITS FALSE NEIGHBOUR: 'it returns false'. Refute it at one input. -/
def fnSortedWrong : ChangeSpec := { name := "fnSorted", fn := fun _ => fun
  | [d] => { results := [.lit (.bool false)], args := [d] }
  | _ => none }
def FnSortedWrongFalsely : Prop := fnSortedRow.holds Try.pinned (OpenSpec.ofChange fnSortedWrong)

/-- 'laws.FnAlike': WHATEVER THE INPUT: true; the input reads as it did. -/
def fnAlikeSpec : ChangeSpec := { name := "fnAlike", fn := fun _ => fun
  | [d] => { results := [.lit (.bool true)], args := [d] }
  | _ => none }
def fnAlikeRow : OpenClaim := { program := "ytfafaadfnhhfhaa", sum := "0d1a7ae4bc68768ef55c0d860b1598f692bd89a9e0069ff8503ffc5759459545", func := "loop.example/treenumbers/laws.FnAlike", spec := "fnAlike", inPlace := ["internal/bytealg.abigen_runtime_cmpstring"], unfollowed := true, recurses := true, apart := false }
def FnAlikeSaid : Prop := fnAlikeRow.holds Try.pinned (OpenSpec.ofChange fnAlikeSpec)

/-- ITS FALSE NEIGHBOUR: 'it returns false'. Refute it at one input. -/
def fnAlikeWrong : ChangeSpec := { name := "fnAlike", fn := fun _ => fun
  | [d] => { results := [.lit (.bool false)], args := [d] }
  | _ => none }
def FnAlikeWrongFalsely : Prop := fnAlikeRow.holds Try.pinned (OpenSpec.ofChange fnAlikeWrong)

/-- 'laws.FnUp': WHATEVER THE INPUT: true; the input reads as it did. -/
def fnUpSpec : ChangeSpec := { name := "fnUp", fn := fun _ => fun
  | [d] => { results := [.lit (.bool true)], args := [d] }
  | _ => none }
def fnUpRow : OpenClaim := { program := "ytfafaadfnhhfhaa", sum := "0d1a7ae4bc68768ef55c0d860b1598f692bd89a9e0069ff8503ffc5759459545", func := "loop.example/treenumbers/laws.FnUp", spec := "fnUp", recurses := true, apart := false }
def FnUpSaid : Prop := fnUpRow.holds Try.pinned (OpenSpec.ofChange fnUpSpec)

/-- ITS FALSE NEIGHBOUR: 'it returns false'. Refute it at one input. -/
def fnUpWrong : ChangeSpec := { name := "fnUp", fn := fun _ => fun
  | [d] => { results := [.lit (.bool false)], args := [d] }
  | _ => none }
def FnUpWrongFalsely : Prop := fnUpRow.holds Try.pinned (OpenSpec.ofChange fnUpWrong)

/-- 'laws.FnLevels': WHATEVER THE INPUT: true; the input reads as it did. -/
def fnLevelsSpec : ChangeSpec := { name := "fnLevels", fn := fun _ => fun
  | [d] => { results := [.lit (.bool true)], args := [d] }
  | _ => none }
def fnLevelsRow : OpenClaim := { program := "ytfafaadfnhhfhaa", sum := "0d1a7ae4bc68768ef55c0d860b1598f692bd89a9e0069ff8503ffc5759459545", func := "loop.example/treenumbers/laws.FnLevels", spec := "fnLevels", inPlace := ["internal/abi.NoEscape", "internal/bytealg.MakeNoZero"], recurses := true, apart := false }
def FnLevelsSaid : Prop := fnLevelsRow.holds Try.pinned (OpenSpec.ofChange fnLevelsSpec)

/-- ITS FALSE NEIGHBOUR: 'it returns false'. Refute it at one input. -/
def fnLevelsWrong : ChangeSpec := { name := "fnLevels", fn := fun _ => fun
  | [d] => { results := [.lit (.bool false)], args := [d] }
  | _ => none }
def FnLevelsWrongFalsely : Prop := fnLevelsRow.holds Try.pinned (OpenSpec.ofChange fnLevelsWrong)

/-- 'laws.FnLevelsTree': WHATEVER THE INPUT: true; the input reads as it did. -/
def fnLevelsTreeSpec : ChangeSpec := { name := "fnLevelsTree", fn := fun _ => fun
  | [d] => { results := [.lit (.bool true)], args := [d] }
  | _ => none }
def fnLevelsTreeRow : OpenClaim := { program := "ytfafaadfnhhfhaa", sum := "0d1a7ae4bc68768ef55c0d860b1598f692bd89a9e0069ff8503ffc5759459545", func := "loop.example/treenumbers/laws.FnLevelsTree", spec := "fnLevelsTree", inPlace := ["internal/abi.NoEscape", "internal/bytealg.MakeNoZero"], recurses := true, apart := false }
def FnLevelsTreeSaid : Prop := fnLevelsTreeRow.holds Try.pinned (OpenSpec.ofChange fnLevelsTreeSpec)

/-- ITS FALSE NEIGHBOUR: 'it returns false'. Refute it at one input. -/
def fnLevelsTreeWrong : ChangeSpec := { name := "fnLevelsTree", fn := fun _ => fun
  | [d] => { results := [.lit (.bool false)], args := [d] }
  | _ => none }
def FnLevelsTreeWrongFalsely : Prop := fnLevelsTreeRow.holds Try.pinned (OpenSpec.ofChange fnLevelsTreeWrong)

/-- 'laws.FnNext': WHATEVER THE INPUT: true; the input reads as it did. -/
def fnNextSpec : ChangeSpec := { name := "fnNext", fn := fun _ => fun
  | [d] => { results := [.lit (.bool true)], args := [d] }
  | _ => none }
def fnNextRow : OpenClaim := { program := "ytfafaadfnhhfhaa", sum := "0d1a7ae4bc68768ef55c0d860b1598f692bd89a9e0069ff8503ffc5759459545", func := "loop.example/treenumbers/laws.FnNext", spec := "fnNext", inPlace := ["internal/bytealg.abigen_runtime_cmpstring", "internal/abi.NoEscape", "internal/bytealg.MakeNoZero"], unfollowed := true, recurses := true, apart := false }
def FnNextSaid : Prop := fnNextRow.holds Try.pinned (OpenSpec.ofChange fnNextSpec)

/-- ITS FALSE NEIGHBOUR: 'it returns false'. Refute it at one input. -/
def fnNextWrong : ChangeSpec := { name := "fnNext", fn := fun _ => fun
  | [d] => { results := [.lit (.bool false)], args := [d] }
  | _ => none }
def FnNextWrongFalsely : Prop := fnNextRow.holds Try.pinned (OpenSpec.ofChange fnNextWrong)

/-- 'laws.FnLevelsPlace': WHATEVER THE INPUT: true; the input reads as it did. -/
def fnLevelsPlaceSpec : ChangeSpec := { name := "fnLevelsPlace", fn := fun _ => fun
  | [d] => { results := [.lit (.bool true)], args := [d] }
  | _ => none }
def fnLevelsPlaceRow : OpenClaim := { program := "ytfafaadfnhhfhaa", sum := "0d1a7ae4bc68768ef55c0d860b1598f692bd89a9e0069ff8503ffc5759459545", func := "loop.example/treenumbers/laws.FnLevelsPlace", spec := "fnLevelsPlace", inPlace := ["internal/bytealg.abigen_runtime_cmpstring", "internal/abi.NoEscape", "internal/bytealg.MakeNoZero"], unfollowed := true, recurses := true, apart := false }
def FnLevelsPlaceSaid : Prop := fnLevelsPlaceRow.holds Try.pinned (OpenSpec.ofChange fnLevelsPlaceSpec)

/-- ITS FALSE NEIGHBOUR: 'it returns false'. Refute it at one input. -/
def fnLevelsPlaceWrong : ChangeSpec := { name := "fnLevelsPlace", fn := fun _ => fun
  | [d] => { results := [.lit (.bool false)], args := [d] }
  | _ => none }
def FnLevelsPlaceWrongFalsely : Prop := fnLevelsPlaceRow.holds Try.pinned (OpenSpec.ofChange fnLevelsPlaceWrong)

/-- 'laws.FnWide': WHATEVER THE INPUT: true; the input reads as it did. -/
def fnWideSpec : ChangeSpec := { name := "fnWide", fn := fun _ => fun
  | [d] => { results := [.lit (.bool true)], args := [d] }
  | _ => none }
def fnWideRow : OpenClaim := { program := "ytfafaadfnhhfhaa", sum := "0d1a7ae4bc68768ef55c0d860b1598f692bd89a9e0069ff8503ffc5759459545", func := "loop.example/treenumbers/laws.FnWide", spec := "fnWide", recurses := true, apart := false }
def FnWideSaid : Prop := fnWideRow.holds Try.pinned (OpenSpec.ofChange fnWideSpec)

/-- ITS FALSE NEIGHBOUR: 'it returns false'. Refute it at one input. -/
def fnWideWrong : ChangeSpec := { name := "fnWide", fn := fun _ => fun
  | [d] => { results := [.lit (.bool false)], args := [d] }
  | _ => none }
def FnWideWrongFalsely : Prop := fnWideRow.holds Try.pinned (OpenSpec.ofChange fnWideWrong)

/-- 'laws.FnStreamOrder': WHATEVER THE INPUT: true; the input reads as it did. -/
def fnStreamOrderSpec : ChangeSpec := { name := "fnStreamOrder", fn := fun _ => fun
  | [d] => { results := [.lit (.bool true)], args := [d] }
  | _ => none }
def fnStreamOrderRow : OpenClaim := { program := "ytfafaadfnhhfhaa", sum := "0d1a7ae4bc68768ef55c0d860b1598f692bd89a9e0069ff8503ffc5759459545", func := "loop.example/treenumbers/laws.FnStreamOrder", spec := "fnStreamOrder", unfollowed := true, recurses := true, apart := false }
def FnStreamOrderSaid : Prop := fnStreamOrderRow.holds Try.pinned (OpenSpec.ofChange fnStreamOrderSpec)

/-- ITS FALSE NEIGHBOUR: 'it returns false'. Refute it at one input. -/
def fnStreamOrderWrong : ChangeSpec := { name := "fnStreamOrder", fn := fun _ => fun
  | [d] => { results := [.lit (.bool false)], args := [d] }
  | _ => none }
def FnStreamOrderWrongFalsely : Prop := fnStreamOrderRow.holds Try.pinned (OpenSpec.ofChange fnStreamOrderWrong)

/-- 'laws.FnStreamLengths': WHATEVER THE INPUT: true; the input reads as it did. -/
def fnStreamLengthsSpec : ChangeSpec := { name := "fnStreamLengths", fn := fun _ => fun
  | [d] => { results := [.lit (.bool true)], args := [d] }
  | _ => none }
def fnStreamLengthsRow : OpenClaim := { program := "ytfafaadfnhhfhaa", sum := "0d1a7ae4bc68768ef55c0d860b1598f692bd89a9e0069ff8503ffc5759459545", func := "loop.example/treenumbers/laws.FnStreamLengths", spec := "fnStreamLengths", unfollowed := true, recurses := true, apart := false }
def FnStreamLengthsSaid : Prop := fnStreamLengthsRow.holds Try.pinned (OpenSpec.ofChange fnStreamLengthsSpec)

/-- ITS FALSE NEIGHBOUR: 'it returns false'. Refute it at one input. -/
def fnStreamLengthsWrong : ChangeSpec := { name := "fnStreamLengths", fn := fun _ => fun
  | [d] => { results := [.lit (.bool false)], args := [d] }
  | _ => none }
def FnStreamLengthsWrongFalsely : Prop := fnStreamLengthsRow.holds Try.pinned (OpenSpec.ofChange fnStreamLengthsWrong)

/-- 'laws.FnStreamLeast': WHATEVER THE INPUT: true; the input reads as it did. -/
def fnStreamLeastSpec : ChangeSpec := { name := "fnStreamLeast", fn := fun _ => fun
  | [d] => { results := [.lit (.bool true)], args := [d] }
  | _ => none }
def fnStreamLeastRow : OpenClaim := { program := "ytfafaadfnhhfhaa", sum := "0d1a7ae4bc68768ef55c0d860b1598f692bd89a9e0069ff8503ffc5759459545", func := "loop.example/treenumbers/laws.FnStreamLeast", spec := "fnStreamLeast", apart := false }
def FnStreamLeastSaid : Prop := fnStreamLeastRow.holds Try.pinned (OpenSpec.ofChange fnStreamLeastSpec)

/-- ITS FALSE NEIGHBOUR: 'it returns false'. Refute it at one input. -/
def fnStreamLeastWrong : ChangeSpec := { name := "fnStreamLeast", fn := fun _ => fun
  | [d] => { results := [.lit (.bool false)], args := [d] }
  | _ => none }
def FnStreamLeastWrongFalsely : Prop := fnStreamLeastRow.holds Try.pinned (OpenSpec.ofChange fnStreamLeastWrong)

/-- 'laws.FnDeepest': WHATEVER THE INPUT: true; the input reads as it did. -/
def fnDeepestSpec : ChangeSpec := { name := "fnDeepest", fn := fun _ => fun
  | [d] => { results := [.lit (.bool true)], args := [d] }
  | _ => none }
def fnDeepestRow : OpenClaim := { program := "ytfafaadfnhhfhaa", sum := "0d1a7ae4bc68768ef55c0d860b1598f692bd89a9e0069ff8503ffc5759459545", func := "loop.example/treenumbers/laws.FnDeepest", spec := "fnDeepest", unfollowed := true, recurses := true, apart := false }
def FnDeepestSaid : Prop := fnDeepestRow.holds Try.pinned (OpenSpec.ofChange fnDeepestSpec)

/-- ITS FALSE NEIGHBOUR: 'it returns false'. Refute it at one input. -/
def fnDeepestWrong : ChangeSpec := { name := "fnDeepest", fn := fun _ => fun
  | [d] => { results := [.lit (.bool false)], args := [d] }
  | _ => none }
def FnDeepestWrongFalsely : Prop := fnDeepestRow.holds Try.pinned (OpenSpec.ofChange fnDeepestWrong)

/-- 'laws.FnTops': WHATEVER THE INPUT: true; the input reads as it did. -/
def fnTopsSpec : ChangeSpec := { name := "fnTops", fn := fun _ => fun
  | [d] => { results := [.lit (.bool true)], args := [d] }
  | _ => none }
def fnTopsRow : OpenClaim := { program := "ytfafaadfnhhfhaa", sum := "0d1a7ae4bc68768ef55c0d860b1598f692bd89a9e0069ff8503ffc5759459545", func := "loop.example/treenumbers/laws.FnTops", spec := "fnTops", inPlace := ["internal/abi.NoEscape", "internal/bytealg.MakeNoZero"], recurses := true, apart := false }
def FnTopsSaid : Prop := fnTopsRow.holds Try.pinned (OpenSpec.ofChange fnTopsSpec)

/-- ITS FALSE NEIGHBOUR: 'it returns false'. Refute it at one input. -/
def fnTopsWrong : ChangeSpec := { name := "fnTops", fn := fun _ => fun
  | [d] => { results := [.lit (.bool false)], args := [d] }
  | _ => none }
def FnTopsWrongFalsely : Prop := fnTopsRow.holds Try.pinned (OpenSpec.ofChange fnTopsWrong)

/- THE SECOND FORM. 'bulk': how many values and letters a reading holds, each counted each time it is reached (what is shared counts as often as it is met; a slice's spare places count too). A statement '..UptoSaid' is the law's where the arguments, and the package variables that the reading takes, are together of bulk at most 1048576: NARROWER than '..Said'. Prove '..Said' where nothing that the law and all that it calls make is longer than what came in: it says more and counts as full. Else prove '..UptoSaid'. A law counts once. -/
mutual
def uptoBulk {H : Type} : DataW H → Nat
  | .lit (.string bytes) => bytes.length + 1
  | .lit _ => 1
  | .nil => 1
  | .ptr d => uptoBulk d + 1
  | .slice elems spare => uptoBulkAll elems + uptoBulkAll spare + 1
  | .agg parts => uptoBulkAll parts + 1
  | .iface _ d => uptoBulk d + 1
  | .map entries => uptoBulkEntries entries + 1
  | .held _ => 1
def uptoBulkAll {H : Type} : List (DataW H) → Nat
  | [] => 0
  | d :: r => uptoBulk d + uptoBulkAll r
def uptoBulkEntries {H : Type} : List (Lit × DataW H) → Nat
  | [] => 0
  | x :: r => uptoBulkEntry x + uptoBulkEntries r
def uptoBulkEntry {H : Type} : Lit × DataW H → Nat
  | (.string bytes, d) => bytes.length + uptoBulk d + 1
  | (_, d) => uptoBulk d + 1
 end
def uptoSmall : (H : Type) → List (DataW H) → Bool := fun _ ds => decide (uptoBulkAll ds ≤ 1048576)
def OpenSpec.upto (s : _root_.Go.ChangeSpec) : _root_.Go.OpenSpec := { _root_.Go.OpenSpec.ofChange s with cond := some uptoSmall }

/-- 'laws.FnTree', WHERE WHAT IT READS IS OF BULK AT MOST 1048576: true; the input reads as it did. -/
def fnTreeUptoRow : OpenClaim := { program := "ytfafaadfnhhfhaa", sum := "0d1a7ae4bc68768ef55c0d860b1598f692bd89a9e0069ff8503ffc5759459545", func := "loop.example/treenumbers/laws.FnTree", spec := "fnTree", inPlace := ["internal/abi.NoEscape", "internal/bytealg.MakeNoZero"], recurses := true, apart := false, narrowed := true }
def FnTreeUptoSaid : Prop := fnTreeUptoRow.holds Try.pinned (OpenSpec.upto fnTreeSpec)

/-- 'laws.FnNodes', WHERE WHAT IT READS IS OF BULK AT MOST 1048576: true; the input reads as it did. -/
def fnNodesUptoRow : OpenClaim := { program := "ytfafaadfnhhfhaa", sum := "0d1a7ae4bc68768ef55c0d860b1598f692bd89a9e0069ff8503ffc5759459545", func := "loop.example/treenumbers/laws.FnNodes", spec := "fnNodes", recurses := true, apart := false, narrowed := true }
def FnNodesUptoSaid : Prop := fnNodesUptoRow.holds Try.pinned (OpenSpec.upto fnNodesSpec)

/-- 'laws.FnLeaves', WHERE WHAT IT READS IS OF BULK AT MOST 1048576: true; the input reads as it did. -/
def fnLeavesUptoRow : OpenClaim := { program := "ytfafaadfnhhfhaa", sum := "0d1a7ae4bc68768ef55c0d860b1598f692bd89a9e0069ff8503ffc5759459545", func := "loop.example/treenumbers/laws.FnLeaves", spec := "fnLeaves", inPlace := ["internal/bytealg.abigen_runtime_cmpstring"], unfollowed := true, recurses := true, apart := false, narrowed := true }
def FnLeavesUptoSaid : Prop := fnLeavesUptoRow.holds Try.pinned (OpenSpec.upto fnLeavesSpec)

/-- 'laws.FnHeight', WHERE WHAT IT READS IS OF BULK AT MOST 1048576: true; the input reads as it did. -/
def fnHeightUptoRow : OpenClaim := { program := "ytfafaadfnhhfhaa", sum := "0d1a7ae4bc68768ef55c0d860b1598f692bd89a9e0069ff8503ffc5759459545", func := "loop.example/treenumbers/laws.FnHeight", spec := "fnHeight", recurses := true, apart := false, narrowed := true }
def FnHeightUptoSaid : Prop := fnHeightUptoRow.holds Try.pinned (OpenSpec.upto fnHeightSpec)

/-- 'laws.FnChildren', WHERE WHAT IT READS IS OF BULK AT MOST 1048576: true; the input reads as it did. -/
def fnChildrenUptoRow : OpenClaim := { program := "ytfafaadfnhhfhaa", sum := "0d1a7ae4bc68768ef55c0d860b1598f692bd89a9e0069ff8503ffc5759459545", func := "loop.example/treenumbers/laws.FnChildren", spec := "fnChildren", recurses := true, apart := false, narrowed := true }
def FnChildrenUptoSaid : Prop := fnChildrenUptoRow.holds Try.pinned (OpenSpec.upto fnChildrenSpec)

/-- 'laws.FnTreeOf', WHERE WHAT IT READS IS OF BULK AT MOST 1048576: true; the input reads as it did. -/
def fnTreeOfUptoRow : OpenClaim := { program := "ytfafaadfnhhfhaa", sum := "0d1a7ae4bc68768ef55c0d860b1598f692bd89a9e0069ff8503ffc5759459545", func := "loop.example/treenumbers/laws.FnTreeOf", spec := "fnTreeOf", inPlace := ["internal/abi.NoEscape", "internal/bytealg.MakeNoZero"], recurses := true, apart := false, narrowed := true }
def FnTreeOfUptoSaid : Prop := fnTreeOfUptoRow.holds Try.pinned (OpenSpec.upto fnTreeOfSpec)

/-- 'laws.FnTurned', WHERE WHAT IT READS IS OF BULK AT MOST 1048576: true; the input reads as it did. -/
def fnTurnedUptoRow : OpenClaim := { program := "ytfafaadfnhhfhaa", sum := "0d1a7ae4bc68768ef55c0d860b1598f692bd89a9e0069ff8503ffc5759459545", func := "loop.example/treenumbers/laws.FnTurned", spec := "fnTurned", inPlace := ["internal/bytealg.abigen_runtime_cmpstring"], unfollowed := true, recurses := true, apart := false, narrowed := true }
def FnTurnedUptoSaid : Prop := fnTurnedUptoRow.holds Try.pinned (OpenSpec.upto fnTurnedSpec)

/-- 'laws.FnSorted', WHERE WHAT IT READS IS OF BULK AT MOST 1048576: true; the input reads as it did. -/
def fnSortedUptoRow : OpenClaim := { program := "ytfafaadfnhhfhaa", sum := "0d1a7ae4bc68768ef55c0d860b1598f692bd89a9e0069ff8503ffc5759459545", func := "loop.example/treenumbers/laws.FnSorted", spec := "fnSorted", inPlace := ["internal/bytealg.abigen_runtime_cmpstring"], unfollowed := true, recurses := true, apart := false, narrowed := true }
def FnSortedUptoSaid : Prop := fnSortedUptoRow.holds Try.pinned (OpenSpec.upto fnSortedSpec)

/-- 'laws.FnAlike', WHERE WHAT IT READS IS OF BULK AT MOST 1048576: true; the input reads as it did. -/
def fnAlikeUptoRow : OpenClaim := { program := "ytfafaadfnhhfhaa", sum := "0d1a7ae4bc68768ef55c0d860b1598f692bd89a9e0069ff8503ffc5759459545", func := "loop.example/treenumbers/laws.FnAlike", spec := "fnAlike", inPlace := ["internal/bytealg.abigen_runtime_cmpstring"], unfollowed := true, recurses := true, apart := false, narrowed := true }
def FnAlikeUptoSaid : Prop := fnAlikeUptoRow.holds Try.pinned (OpenSpec.upto fnAlikeSpec)

/-- 'laws.FnUp', WHERE WHAT IT READS IS OF BULK AT MOST 1048576: true; the input reads as it did. -/
def fnUpUptoRow : OpenClaim := { program := "ytfafaadfnhhfhaa", sum := "0d1a7ae4bc68768ef55c0d860b1598f692bd89a9e0069ff8503ffc5759459545", func := "loop.example/treenumbers/laws.FnUp", spec := "fnUp", recurses := true, apart := false, narrowed := true }
def FnUpUptoSaid : Prop := fnUpUptoRow.holds Try.pinned (OpenSpec.upto fnUpSpec)

/-- 'laws.FnLevels', WHERE WHAT IT READS IS OF BULK AT MOST 1048576: true; the input reads as it did. -/
def fnLevelsUptoRow : OpenClaim := { program := "ytfafaadfnhhfhaa", sum := "0d1a7ae4bc68768ef55c0d860b1598f692bd89a9e0069ff8503ffc5759459545", func := "loop.example/treenumbers/laws.FnLevels", spec := "fnLevels", inPlace := ["internal/abi.NoEscape", "internal/bytealg.MakeNoZero"], recurses := true, apart := false, narrowed := true }
def FnLevelsUptoSaid : Prop := fnLevelsUptoRow.holds Try.pinned (OpenSpec.upto fnLevelsSpec)

/-- 'laws.FnLevelsTree', WHERE WHAT IT READS IS OF BULK AT MOST 1048576: true; the input reads as it did. -/
def fnLevelsTreeUptoRow : OpenClaim := { program := "ytfafaadfnhhfhaa", sum := "0d1a7ae4bc68768ef55c0d860b1598f692bd89a9e0069ff8503ffc5759459545", func := "loop.example/treenumbers/laws.FnLevelsTree", spec := "fnLevelsTree", inPlace := ["internal/abi.NoEscape", "internal/bytealg.MakeNoZero"], recurses := true, apart := false, narrowed := true }
def FnLevelsTreeUptoSaid : Prop := fnLevelsTreeUptoRow.holds Try.pinned (OpenSpec.upto fnLevelsTreeSpec)

/-- 'laws.FnNext', WHERE WHAT IT READS IS OF BULK AT MOST 1048576: true; the input reads as it did. -/
def fnNextUptoRow : OpenClaim := { program := "ytfafaadfnhhfhaa", sum := "0d1a7ae4bc68768ef55c0d860b1598f692bd89a9e0069ff8503ffc5759459545", func := "loop.example/treenumbers/laws.FnNext", spec := "fnNext", inPlace := ["internal/bytealg.abigen_runtime_cmpstring", "internal/abi.NoEscape", "internal/bytealg.MakeNoZero"], unfollowed := true, recurses := true, apart := false, narrowed := true }
def FnNextUptoSaid : Prop := fnNextUptoRow.holds Try.pinned (OpenSpec.upto fnNextSpec)

/-- 'laws.FnLevelsPlace', WHERE WHAT IT READS IS OF BULK AT MOST 1048576: true; the input reads as it did. -/
def fnLevelsPlaceUptoRow : OpenClaim := { program := "ytfafaadfnhhfhaa", sum := "0d1a7ae4bc68768ef55c0d860b1598f692bd89a9e0069ff8503ffc5759459545", func := "loop.example/treenumbers/laws.FnLevelsPlace", spec := "fnLevelsPlace", inPlace := ["internal/bytealg.abigen_runtime_cmpstring", "internal/abi.NoEscape", "internal/bytealg.MakeNoZero"], unfollowed := true, recurses := true, apart := false, narrowed := true }
def FnLevelsPlaceUptoSaid : Prop := fnLevelsPlaceUptoRow.holds Try.pinned (OpenSpec.upto fnLevelsPlaceSpec)

/-- 'laws.FnWide', WHERE WHAT IT READS IS OF BULK AT MOST 1048576: true; the input reads as it did. -/
def fnWideUptoRow : OpenClaim := { program := "ytfafaadfnhhfhaa", sum := "0d1a7ae4bc68768ef55c0d860b1598f692bd89a9e0069ff8503ffc5759459545", func := "loop.example/treenumbers/laws.FnWide", spec := "fnWide", recurses := true, apart := false, narrowed := true }
def FnWideUptoSaid : Prop := fnWideUptoRow.holds Try.pinned (OpenSpec.upto fnWideSpec)

/-- 'laws.FnStreamOrder', WHERE WHAT IT READS IS OF BULK AT MOST 1048576: true; the input reads as it did. -/
def fnStreamOrderUptoRow : OpenClaim := { program := "ytfafaadfnhhfhaa", sum := "0d1a7ae4bc68768ef55c0d860b1598f692bd89a9e0069ff8503ffc5759459545", func := "loop.example/treenumbers/laws.FnStreamOrder", spec := "fnStreamOrder", unfollowed := true, recurses := true, apart := false, narrowed := true }
def FnStreamOrderUptoSaid : Prop := fnStreamOrderUptoRow.holds Try.pinned (OpenSpec.upto fnStreamOrderSpec)

/-- 'laws.FnStreamLengths', WHERE WHAT IT READS IS OF BULK AT MOST 1048576: true; the input reads as it did. -/
def fnStreamLengthsUptoRow : OpenClaim := { program := "ytfafaadfnhhfhaa", sum := "0d1a7ae4bc68768ef55c0d860b1598f692bd89a9e0069ff8503ffc5759459545", func := "loop.example/treenumbers/laws.FnStreamLengths", spec := "fnStreamLengths", unfollowed := true, recurses := true, apart := false, narrowed := true }
def FnStreamLengthsUptoSaid : Prop := fnStreamLengthsUptoRow.holds Try.pinned (OpenSpec.upto fnStreamLengthsSpec)

/-- 'laws.FnStreamLeast', WHERE WHAT IT READS IS OF BULK AT MOST 1048576: true; the input reads as it did. -/
def fnStreamLeastUptoRow : OpenClaim := { program := "ytfafaadfnhhfhaa", sum := "0d1a7ae4bc68768ef55c0d860b1598f692bd89a9e0069ff8503ffc5759459545", func := "loop.example/treenumbers/laws.FnStreamLeast", spec := "fnStreamLeast", apart := false, narrowed := true }
def FnStreamLeastUptoSaid : Prop := fnStreamLeastUptoRow.holds Try.pinned (OpenSpec.upto fnStreamLeastSpec)

/-- 'laws.FnDeepest', WHERE WHAT IT READS IS OF BULK AT MOST 1048576: true; the input reads as it did. -/
def fnDeepestUptoRow : OpenClaim := { program := "ytfafaadfnhhfhaa", sum := "0d1a7ae4bc68768ef55c0d860b1598f692bd89a9e0069ff8503ffc5759459545", func := "loop.example/treenumbers/laws.FnDeepest", spec := "fnDeepest", unfollowed := true, recurses := true, apart := false, narrowed := true }
def FnDeepestUptoSaid : Prop := fnDeepestUptoRow.holds Try.pinned (OpenSpec.upto fnDeepestSpec)

/-- 'laws.FnTops', WHERE WHAT IT READS IS OF BULK AT MOST 1048576: true; the input reads as it did. -/
def fnTopsUptoRow : OpenClaim := { program := "ytfafaadfnhhfhaa", sum := "0d1a7ae4bc68768ef55c0d860b1598f692bd89a9e0069ff8503ffc5759459545", func := "loop.example/treenumbers/laws.FnTops", spec := "fnTops", inPlace := ["internal/abi.NoEscape", "internal/bytealg.MakeNoZero"], recurses := true, apart := false, narrowed := true }
def FnTopsUptoSaid : Prop := fnTopsUptoRow.holds Try.pinned (OpenSpec.upto fnTopsSpec)

end Rows
end Go.Proofs.Ytfafaadfnhhfhaa
