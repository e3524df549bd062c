/-
  No cell of these rows narrows 'for every input' (looked for: loops, veiled, ifaces, maps, wideKeys, modest, calm, conditions, laid).
  DERIVED. THE GIVEN ROWS OF THIS SEAT. 12 by the template 'for every input the law returns true; each argument reads behind the call as it read before'; 0 by the template 'total and deterministic' (their statements: YthaideahdggofaaTotals.lean).
  GIVEN WITH THE SEED: the statements are not yours to turn. If you find one false, say at which input.
  Laid BY PROGRAM, IN A SANDBOX (cutbox-rows.mjs): the forced cells as the released guide's own fill.sh prints them over the translation 2e4d330bc1a2226e… (all of the seat's roots in one cut). By AI agents, Wed Nov 11 2026. No macro, syntax, notation, axiom, sorry.
-/
import Derived.Test.YthaideahdggofaaChecked
import GoSem.Claim
import GoSem.ClaimJoined
import GoSem.ClaimMapViews
import Derived.JoinedTies
import Derived.KernelRfl
namespace Go.Proofs.Ythaideahdggofaa
/- THE CELL 'sum', in the pinned program and in every row, IS THE sha256 OF THE DUMP (.gsa) THAT YthaideahdggofaaProg.lean LOADS. Nothing in Lean hashes anything: it is a label: what it is worth is what the hold of that sum in a sandbox is worth. -/
noncomputable def Try.pinned : Pinned := { name := "ythaideahdggofaa", sum := "2e4d330bc1a2226e0238b7543f68cb03709a1a1bfd3a6e5097927278cde8ad1f", checked := Try.checked }
namespace Rows
def none {H : Type} : Left H := { results := [], args := [] }

/-- 'laws.FnExactTreeIn': WHATEVER THE INPUT: true; the input reads as it did. -/
def fnExactTreeInSpec : ChangeSpec := { name := "fnExactTreeIn", fn := fun _ => fun
  | [d] => { results := [.lit (.bool true)], args := [d] }
  | _ => none }
def fnExactTreeInRow : OpenClaim := { program := "ythaideahdggofaa", sum := "2e4d330bc1a2226e0238b7543f68cb03709a1a1bfd3a6e5097927278cde8ad1f", func := "loop.example/treenumbers/laws.FnExactTreeIn", spec := "fnExactTreeIn", apart := false }
def FnExactTreeInSaid : Prop := fnExactTreeInRow.holds Try.pinned (OpenSpec.ofChange fnExactTreeInSpec)

/-- ITS FALSE NEIGHBOUR: 'it returns false'. Refute it at one input. -/
def fnExactTreeInWrong : ChangeSpec := { name := "fnExactTreeIn", fn := fun _ => fun
  | [d] => { results := [.lit (.bool false)], args := [d] }
  | _ => none }
def FnExactTreeInWrongFalsely : Prop := fnExactTreeInRow.holds Try.pinned (OpenSpec.ofChange fnExactTreeInWrong)

/-- 'laws.FnExactTreeNodes': WHATEVER THE INPUT: true; the input reads as it did. -/
def fnExactTreeNodesSpec : ChangeSpec := { name := "fnExactTreeNodes", fn := fun _ => fun
  | [d] => { results := [.lit (.bool true)], args := [d] }
  | _ => none }
def fnExactTreeNodesRow : OpenClaim := { program := "ythaideahdggofaa", sum := "2e4d330bc1a2226e0238b7543f68cb03709a1a1bfd3a6e5097927278cde8ad1f", func := "loop.example/treenumbers/laws.FnExactTreeNodes", spec := "fnExactTreeNodes", recurses := true, apart := false }
def FnExactTreeNodesSaid : Prop := fnExactTreeNodesRow.holds Try.pinned (OpenSpec.ofChange fnExactTreeNodesSpec)

/-- ITS FALSE NEIGHBOUR: 'it returns false'. Refute it at one input. -/
def fnExactTreeNodesWrong : ChangeSpec := { name := "fnExactTreeNodes", fn := fun _ => fun
  | [d] => { results := [.lit (.bool false)], args := [d] }
  | _ => none }
def FnExactTreeNodesWrongFalsely : Prop := fnExactTreeNodesRow.holds Try.pinned (OpenSpec.ofChange fnExactTreeNodesWrong)

/-- 'laws.FnExactTreeLeaves': WHATEVER THE INPUT: true; the input reads as it did. -/
def fnExactTreeLeavesSpec : ChangeSpec := { name := "fnExactTreeLeaves", fn := fun _ => fun
  | [d] => { results := [.lit (.bool true)], args := [d] }
  | _ => none }
def fnExactTreeLeavesRow : OpenClaim := { program := "ythaideahdggofaa", sum := "2e4d330bc1a2226e0238b7543f68cb03709a1a1bfd3a6e5097927278cde8ad1f", func := "loop.example/treenumbers/laws.FnExactTreeLeaves", spec := "fnExactTreeLeaves", recurses := true, apart := false }
def FnExactTreeLeavesSaid : Prop := fnExactTreeLeavesRow.holds Try.pinned (OpenSpec.ofChange fnExactTreeLeavesSpec)

/-- ITS FALSE NEIGHBOUR: 'it returns false'. Refute it at one input. -/
def fnExactTreeLeavesWrong : ChangeSpec := { name := "fnExactTreeLeaves", fn := fun _ => fun
  | [d] => { results := [.lit (.bool false)], args := [d] }
  | _ => none }
def FnExactTreeLeavesWrongFalsely : Prop := fnExactTreeLeavesRow.holds Try.pinned (OpenSpec.ofChange fnExactTreeLeavesWrong)

/-- 'laws.FnExactTreeHeight': WHATEVER THE INPUT: true; the input reads as it did. -/
def fnExactTreeHeightSpec : ChangeSpec := { name := "fnExactTreeHeight", fn := fun _ => fun
  | [d] => { results := [.lit (.bool true)], args := [d] }
  | _ => none }
def fnExactTreeHeightRow : OpenClaim := { program := "ythaideahdggofaa", sum := "2e4d330bc1a2226e0238b7543f68cb03709a1a1bfd3a6e5097927278cde8ad1f", func := "loop.example/treenumbers/laws.FnExactTreeHeight", spec := "fnExactTreeHeight", recurses := true, apart := false }
def FnExactTreeHeightSaid : Prop := fnExactTreeHeightRow.holds Try.pinned (OpenSpec.ofChange fnExactTreeHeightSpec)

/-- ITS FALSE NEIGHBOUR: 'it returns false'. Refute it at one input. -/
def fnExactTreeHeightWrong : ChangeSpec := { name := "fnExactTreeHeight", fn := fun _ => fun
  | [d] => { results := [.lit (.bool false)], args := [d] }
  | _ => none }
def FnExactTreeHeightWrongFalsely : Prop := fnExactTreeHeightRow.holds Try.pinned (OpenSpec.ofChange fnExactTreeHeightWrong)

/-- 'laws.FnExactTreeChildren': WHATEVER THE INPUT: true; the input reads as it did. -/
def fnExactTreeChildrenSpec : ChangeSpec := { name := "fnExactTreeChildren", fn := fun _ => fun
  | [d] => { results := [.lit (.bool true)], args := [d] }
  | _ => none }
def fnExactTreeChildrenRow : OpenClaim := { program := "ythaideahdggofaa", sum := "2e4d330bc1a2226e0238b7543f68cb03709a1a1bfd3a6e5097927278cde8ad1f", func := "loop.example/treenumbers/laws.FnExactTreeChildren", spec := "fnExactTreeChildren", recurses := true, apart := false }
def FnExactTreeChildrenSaid : Prop := fnExactTreeChildrenRow.holds Try.pinned (OpenSpec.ofChange fnExactTreeChildrenSpec)

/-- ITS FALSE NEIGHBOUR: 'it returns false'. Refute it at one input. -/
def fnExactTreeChildrenWrong : ChangeSpec := { name := "fnExactTreeChildren", fn := fun _ => fun
  | [d] => { results := [.lit (.bool false)], args := [d] }
  | _ => none }
def FnExactTreeChildrenWrongFalsely : Prop := fnExactTreeChildrenRow.holds Try.pinned (OpenSpec.ofChange fnExactTreeChildrenWrong)

/-- 'laws.FnExactTreeOf': WHATEVER THE INPUT: true; the input reads as it did. -/
def fnExactTreeOfSpec : ChangeSpec := { name := "fnExactTreeOf", fn := fun _ => fun
  | [d] => { results := [.lit (.bool true)], args := [d] }
  | _ => none }
def fnExactTreeOfRow : OpenClaim := { program := "ythaideahdggofaa", sum := "2e4d330bc1a2226e0238b7543f68cb03709a1a1bfd3a6e5097927278cde8ad1f", func := "loop.example/treenumbers/laws.FnExactTreeOf", spec := "fnExactTreeOf", inPlace := ["internal/abi.NoEscape", "internal/bytealg.MakeNoZero"], recurses := true, apart := false }
def FnExactTreeOfSaid : Prop := fnExactTreeOfRow.holds Try.pinned (OpenSpec.ofChange fnExactTreeOfSpec)

/-- ITS FALSE NEIGHBOUR: 'it returns false'. Refute it at one input. -/
def fnExactTreeOfWrong : ChangeSpec := { name := "fnExactTreeOf", fn := fun _ => fun
  | [d] => { results := [.lit (.bool false)], args := [d] }
  | _ => none }
def FnExactTreeOfWrongFalsely : Prop := fnExactTreeOfRow.holds Try.pinned (OpenSpec.ofChange fnExactTreeOfWrong)

/-- 'laws.FnExactTreePart': WHATEVER THE INPUT: true; the input reads as it did. -/
def fnExactTreePartSpec : ChangeSpec := { name := "fnExactTreePart", fn := fun _ => fun
  | [d1, d2] => { results := [.lit (.bool true)], args := [d1, d2] }
  | _ => none }
def fnExactTreePartRow : OpenClaim := { program := "ythaideahdggofaa", sum := "2e4d330bc1a2226e0238b7543f68cb03709a1a1bfd3a6e5097927278cde8ad1f", func := "loop.example/treenumbers/laws.FnExactTreePart", spec := "fnExactTreePart", recurses := true, apart := false }
def FnExactTreePartSaid : Prop := fnExactTreePartRow.holds Try.pinned (OpenSpec.ofChange fnExactTreePartSpec)

/-- ITS FALSE NEIGHBOUR: 'it returns false'. Refute it at one input. -/
def fnExactTreePartWrong : ChangeSpec := { name := "fnExactTreePart", fn := fun _ => fun
  | [d1, d2] => { results := [.lit (.bool false)], args := [d1, d2] }
  | _ => none }
def FnExactTreePartWrongFalsely : Prop := fnExactTreePartRow.holds Try.pinned (OpenSpec.ofChange fnExactTreePartWrong)

/-- 'laws.FnExactTreeUp': WHATEVER THE INPUT: true; the input reads as it did. -/
def fnExactTreeUpSpec : ChangeSpec := { name := "fnExactTreeUp", fn := fun _ => fun
  | [d] => { results := [.lit (.bool true)], args := [d] }
  | _ => none }
def fnExactTreeUpRow : OpenClaim := { program := "ythaideahdggofaa", sum := "2e4d330bc1a2226e0238b7543f68cb03709a1a1bfd3a6e5097927278cde8ad1f", func := "loop.example/treenumbers/laws.FnExactTreeUp", spec := "fnExactTreeUp", recurses := true, apart := false }
def FnExactTreeUpSaid : Prop := fnExactTreeUpRow.holds Try.pinned (OpenSpec.ofChange fnExactTreeUpSpec)

/-- ITS FALSE NEIGHBOUR: 'it returns false'. Refute it at one input. -/
def fnExactTreeUpWrong : ChangeSpec := { name := "fnExactTreeUp", fn := fun _ => fun
  | [d] => { results := [.lit (.bool false)], args := [d] }
  | _ => none }
def FnExactTreeUpWrongFalsely : Prop := fnExactTreeUpRow.holds Try.pinned (OpenSpec.ofChange fnExactTreeUpWrong)

/-- 'laws.FnExactTreeTurned': WHATEVER THE INPUT: true; the input reads as it did. -/
def fnExactTreeTurnedSpec : ChangeSpec := { name := "fnExactTreeTurned", fn := fun _ => fun
  | [d] => { results := [.lit (.bool true)], args := [d] }
  | _ => none }
def fnExactTreeTurnedRow : OpenClaim := { program := "ythaideahdggofaa", sum := "2e4d330bc1a2226e0238b7543f68cb03709a1a1bfd3a6e5097927278cde8ad1f", func := "loop.example/treenumbers/laws.FnExactTreeTurned", spec := "fnExactTreeTurned", recurses := true, apart := false }
def FnExactTreeTurnedSaid : Prop := fnExactTreeTurnedRow.holds Try.pinned (OpenSpec.ofChange fnExactTreeTurnedSpec)

/-- ITS FALSE NEIGHBOUR: 'it returns false'. Refute it at one input. -/
def fnExactTreeTurnedWrong : ChangeSpec := { name := "fnExactTreeTurned", fn := fun _ => fun
  | [d] => { results := [.lit (.bool false)], args := [d] }
  | _ => none }
def FnExactTreeTurnedWrongFalsely : Prop := fnExactTreeTurnedRow.holds Try.pinned (OpenSpec.ofChange fnExactTreeTurnedWrong)

/-- 'laws.FnExactTreeSorted': WHATEVER THE INPUT: true; the input reads as it did. -/
def fnExactTreeSortedSpec : ChangeSpec := { name := "fnExactTreeSorted", fn := fun _ => fun
  | [d] => { results := [.lit (.bool true)], args := [d] }
  | _ => none }
def fnExactTreeSortedRow : OpenClaim := { program := "ythaideahdggofaa", sum := "2e4d330bc1a2226e0238b7543f68cb03709a1a1bfd3a6e5097927278cde8ad1f", func := "loop.example/treenumbers/laws.FnExactTreeSorted", spec := "fnExactTreeSorted", inPlace := ["internal/bytealg.abigen_runtime_cmpstring"], unfollowed := true, recurses := true, apart := false }
def FnExactTreeSortedSaid : Prop := fnExactTreeSortedRow.holds Try.pinned (OpenSpec.ofChange fnExactTreeSortedSpec)

/-- ITS FALSE NEIGHBOUR: 'it returns false'. Refute it at one input. -/
def fnExactTreeSortedWrong : ChangeSpec := { name := "fnExactTreeSorted", fn := fun _ => fun
  | [d] => { results := [.lit (.bool false)], args := [d] }
  | _ => none }
def FnExactTreeSortedWrongFalsely : Prop := fnExactTreeSortedRow.holds Try.pinned (OpenSpec.ofChange fnExactTreeSortedWrong)

/-- 'laws.FnExactTreeAlike': WHATEVER THE INPUT: true; the input reads as it did. -/
def fnExactTreeAlikeSpec : ChangeSpec := { name := "fnExactTreeAlike", fn := fun _ => fun
  | [d1, d2] => { results := [.lit (.bool true)], args := [d1, d2] }
  | _ => none }
def fnExactTreeAlikeRow : OpenClaim := { program := "ythaideahdggofaa", sum := "2e4d330bc1a2226e0238b7543f68cb03709a1a1bfd3a6e5097927278cde8ad1f", func := "loop.example/treenumbers/laws.FnExactTreeAlike", spec := "fnExactTreeAlike", inPlace := ["internal/bytealg.abigen_runtime_cmpstring"], unfollowed := true, recurses := true, apart := false }
def FnExactTreeAlikeSaid : Prop := fnExactTreeAlikeRow.holds Try.pinned (OpenSpec.ofChange fnExactTreeAlikeSpec)

/-- ITS FALSE NEIGHBOUR: 'it returns false'. Refute it at one input. -/
def fnExactTreeAlikeWrong : ChangeSpec := { name := "fnExactTreeAlike", fn := fun _ => fun
  | [d1, d2] => { results := [.lit (.bool false)], args := [d1, d2] }
  | _ => none }
def FnExactTreeAlikeWrongFalsely : Prop := fnExactTreeAlikeRow.holds Try.pinned (OpenSpec.ofChange fnExactTreeAlikeWrong)

/-- 'laws.FnTree': WHATEVER THE INPUT: true; the input reads as it did. -/
def fnTreeSpec : ChangeSpec := { name := "fnTree", fn := fun _ => fun
  | [d] => { results := [.lit (.bool true)], args := [d] }
  | _ => none }
def fnTreeRow : OpenClaim := { program := "ythaideahdggofaa", sum := "2e4d330bc1a2226e0238b7543f68cb03709a1a1bfd3a6e5097927278cde8ad1f", func := "loop.example/treenumbers/laws.FnTree", spec := "fnTree", inPlace := ["internal/abi.NoEscape", "internal/bytealg.MakeNoZero"], recurses := true, apart := false }
def FnTreeSaid : Prop := fnTreeRow.holds Try.pinned (OpenSpec.ofChange fnTreeSpec)

/-- ITS FALSE NEIGHBOUR: 'it returns false'. Refute it at one input. -/
def fnTreeWrong : ChangeSpec := { name := "fnTree", fn := fun _ => fun
  | [d] => { results := [.lit (.bool false)], args := [d] }
  | _ => none }
def FnTreeWrongFalsely : Prop := fnTreeRow.holds Try.pinned (OpenSpec.ofChange fnTreeWrong)

/- THE SECOND FORM. 'bulk': how many values and letters a reading holds, each counted each time it is reached (what is shared counts as often as it is met; a slice's spare places count too). A statement '..UptoSaid' is the law's where the arguments, and the package variables that the reading takes, are together of bulk at most 1048576: NARROWER than '..Said'. Prove '..Said' where nothing that the law and all that it calls make is longer than what came in: it says more and counts as full. Else prove '..UptoSaid'. A law counts once. -/
mutual
def uptoBulk {H : Type} : DataW H → Nat
  | .lit (.string bytes) => bytes.length + 1
  | .lit _ => 1
  | .nil => 1
  | .ptr d => uptoBulk d + 1
  | .slice elems spare => uptoBulkAll elems + uptoBulkAll spare + 1
  | .agg parts => uptoBulkAll parts + 1
  | .iface _ d => uptoBulk d + 1
  | .map entries => uptoBulkEntries entries + 1
  | .held _ => 1
def uptoBulkAll {H : Type} : List (DataW H) → Nat
  | [] => 0
  | d :: r => uptoBulk d + uptoBulkAll r
def uptoBulkEntries {H : Type} : List (Lit × DataW H) → Nat
  | [] => 0
  | x :: r => uptoBulkEntry x + uptoBulkEntries r
def uptoBulkEntry {H : Type} : Lit × DataW H → Nat
  | (.string bytes, d) => bytes.length + uptoBulk d + 1
  | (_, d) => uptoBulk d + 1
 end
def uptoSmall : (H : Type) → List (DataW H) → Bool := fun _ ds => decide (uptoBulkAll ds ≤ 1048576)
def OpenSpec.upto (s : _root_.Go.ChangeSpec) : _root_.Go.OpenSpec := { _root_.Go.OpenSpec.ofChange s with cond := some uptoSmall }

/-- 'laws.FnExactTreeIn', WHERE WHAT IT READS IS OF BULK AT MOST 1048576: true; the input reads as it did. -/
def fnExactTreeInUptoRow : OpenClaim := { program := "ythaideahdggofaa", sum := "2e4d330bc1a2226e0238b7543f68cb03709a1a1bfd3a6e5097927278cde8ad1f", func := "loop.example/treenumbers/laws.FnExactTreeIn", spec := "fnExactTreeIn", apart := false, narrowed := true }
def FnExactTreeInUptoSaid : Prop := fnExactTreeInUptoRow.holds Try.pinned (OpenSpec.upto fnExactTreeInSpec)

/-- 'laws.FnExactTreeNodes', WHERE WHAT IT READS IS OF BULK AT MOST 1048576: true; the input reads as it did. -/
def fnExactTreeNodesUptoRow : OpenClaim := { program := "ythaideahdggofaa", sum := "2e4d330bc1a2226e0238b7543f68cb03709a1a1bfd3a6e5097927278cde8ad1f", func := "loop.example/treenumbers/laws.FnExactTreeNodes", spec := "fnExactTreeNodes", recurses := true, apart := false, narrowed := true }
def FnExactTreeNodesUptoSaid : Prop := fnExactTreeNodesUptoRow.holds Try.pinned (OpenSpec.upto fnExactTreeNodesSpec)

/-- 'laws.FnExactTreeLeaves', WHERE WHAT IT READS IS OF BULK AT MOST 1048576: true; the input reads as it did. -/
def fnExactTreeLeavesUptoRow : OpenClaim := { program := "ythaideahdggofaa", sum := "2e4d330bc1a2226e0238b7543f68cb03709a1a1bfd3a6e5097927278cde8ad1f", func := "loop.example/treenumbers/laws.FnExactTreeLeaves", spec := "fnExactTreeLeaves", recurses := true, apart := false, narrowed := true }
def FnExactTreeLeavesUptoSaid : Prop := fnExactTreeLeavesUptoRow.holds Try.pinned (OpenSpec.upto fnExactTreeLeavesSpec)

/-- 'laws.FnExactTreeHeight', WHERE WHAT IT READS IS OF BULK AT MOST 1048576: true; the input reads as it did. -/
def fnExactTreeHeightUptoRow : OpenClaim := { program := "ythaideahdggofaa", sum := "2e4d330bc1a2226e0238b7543f68cb03709a1a1bfd3a6e5097927278cde8ad1f", func := "loop.example/treenumbers/laws.FnExactTreeHeight", spec := "fnExactTreeHeight", recurses := true, apart := false, narrowed := true }
def FnExactTreeHeightUptoSaid : Prop := fnExactTreeHeightUptoRow.holds Try.pinned (OpenSpec.upto fnExactTreeHeightSpec)

/-- 'laws.FnExactTreeChildren', WHERE WHAT IT READS IS OF BULK AT MOST 1048576: true; the input reads as it did. -/
def fnExactTreeChildrenUptoRow : OpenClaim := { program := "ythaideahdggofaa", sum := "2e4d330bc1a2226e0238b7543f68cb03709a1a1bfd3a6e5097927278cde8ad1f", func := "loop.example/treenumbers/laws.FnExactTreeChildren", spec := "fnExactTreeChildren", recurses := true, apart := false, narrowed := true }
def FnExactTreeChildrenUptoSaid : Prop := fnExactTreeChildrenUptoRow.holds Try.pinned (OpenSpec.upto fnExactTreeChildrenSpec)

/-- 'laws.FnExactTreeOf', WHERE WHAT IT READS IS OF BULK AT MOST 1048576: true; the input reads as it did. -/
def fnExactTreeOfUptoRow : OpenClaim := { program := "ythaideahdggofaa", sum := "2e4d330bc1a2226e0238b7543f68cb03709a1a1bfd3a6e5097927278cde8ad1f", func := "loop.example/treenumbers/laws.FnExactTreeOf", spec := "fnExactTreeOf", inPlace := ["internal/abi.NoEscape", "internal/bytealg.MakeNoZero"], recurses := true, apart := false, narrowed := true }
def FnExactTreeOfUptoSaid : Prop := fnExactTreeOfUptoRow.holds Try.pinned (OpenSpec.upto fnExactTreeOfSpec)

/-- 'laws.FnExactTreePart', WHERE WHAT IT READS IS OF BULK AT MOST 1048576: true; the input reads as it did. -/
def fnExactTreePartUptoRow : OpenClaim := { program := "ythaideahdggofaa", sum := "2e4d330bc1a2226e0238b7543f68cb03709a1a1bfd3a6e5097927278cde8ad1f", func := "loop.example/treenumbers/laws.FnExactTreePart", spec := "fnExactTreePart", recurses := true, apart := false, narrowed := true }
def FnExactTreePartUptoSaid : Prop := fnExactTreePartUptoRow.holds Try.pinned (OpenSpec.upto fnExactTreePartSpec)

/-- 'laws.FnExactTreeUp', WHERE WHAT IT READS IS OF BULK AT MOST 1048576: true; the input reads as it did. -/
def fnExactTreeUpUptoRow : OpenClaim := { program := "ythaideahdggofaa", sum := "2e4d330bc1a2226e0238b7543f68cb03709a1a1bfd3a6e5097927278cde8ad1f", func := "loop.example/treenumbers/laws.FnExactTreeUp", spec := "fnExactTreeUp", recurses := true, apart := false, narrowed := true }
def FnExactTreeUpUptoSaid : Prop := fnExactTreeUpUptoRow.holds Try.pinned (OpenSpec.upto fnExactTreeUpSpec)

/-- 'laws.FnExactTreeTurned', WHERE WHAT IT READS IS OF BULK AT MOST 1048576: true; the input reads as it did. -/
def fnExactTreeTurnedUptoRow : OpenClaim := { program := "ythaideahdggofaa", sum := "2e4d330bc1a2226e0238b7543f68cb03709a1a1bfd3a6e5097927278cde8ad1f", func := "loop.example/treenumbers/laws.FnExactTreeTurned", spec := "fnExactTreeTurned", recurses := true, apart := false, narrowed := true }
def FnExactTreeTurnedUptoSaid : Prop := fnExactTreeTurnedUptoRow.holds Try.pinned (OpenSpec.upto fnExactTreeTurnedSpec)

/-- 'laws.FnExactTreeSorted', WHERE WHAT IT READS IS OF BULK AT MOST 1048576: true; the input reads as it did. -/
def fnExactTreeSortedUptoRow : OpenClaim := { program := "ythaideahdggofaa", sum := "2e4d330bc1a2226e0238b7543f68cb03709a1a1bfd3a6e5097927278cde8ad1f", func := "loop.example/treenumbers/laws.FnExactTreeSorted", spec := "fnExactTreeSorted", inPlace := ["internal/bytealg.abigen_runtime_cmpstring"], unfollowed := true, recurses := true, apart := false, narrowed := true }
def FnExactTreeSortedUptoSaid : Prop := fnExactTreeSortedUptoRow.holds Try.pinned (OpenSpec.upto fnExactTreeSortedSpec)

/-- 'laws.FnExactTreeAlike', WHERE WHAT IT READS IS OF BULK AT MOST 1048576: true; the input reads as it did. -/
def fnExactTreeAlikeUptoRow : OpenClaim := { program := "ythaideahdggofaa", sum := "2e4d330bc1a2226e0238b7543f68cb03709a1a1bfd3a6e5097927278cde8ad1f", func := "loop.example/treenumbers/laws.FnExactTreeAlike", spec := "fnExactTreeAlike", inPlace := ["internal/bytealg.abigen_runtime_cmpstring"], unfollowed := true, recurses := true, apart := false, narrowed := true }
def FnExactTreeAlikeUptoSaid : Prop := fnExactTreeAlikeUptoRow.holds Try.pinned (OpenSpec.upto fnExactTreeAlikeSpec)

/-- 'laws.FnTree', WHERE WHAT IT READS IS OF BULK AT MOST 1048576: true; the input reads as it did. -/
def fnTreeUptoRow : OpenClaim := { program := "ythaideahdggofaa", sum := "2e4d330bc1a2226e0238b7543f68cb03709a1a1bfd3a6e5097927278cde8ad1f", func := "loop.example/treenumbers/laws.FnTree", spec := "fnTree", inPlace := ["internal/abi.NoEscape", "internal/bytealg.MakeNoZero"], recurses := true, apart := false, narrowed := true }
def FnTreeUptoSaid : Prop := fnTreeUptoRow.holds Try.pinned (OpenSpec.upto fnTreeSpec)

end Rows
end Go.Proofs.Ythaideahdggofaa
