/-
  No cell of these rows narrows 'for every input' (looked for: loops, veiled, ifaces, maps, wideKeys, modest, calm, conditions, laid).
  DERIVED. THE GIVEN ROWS OF THIS SEAT. 12 by the template 'for every input the law returns true; each argument reads behind the call as it read before'; 0 by the template 'total and deterministic' (their statements: YthoidonmlfibfaaTotals.lean).
  GIVEN WITH THE SEED: the statements are not yours to turn. If you find one false, say at which input.
  Laid BY PROGRAM, IN A SANDBOX (cutbox-rows.mjs): the forced cells as the released guide's own fill.sh prints them over the translation e58d9e90c840e790… (all of the seat's roots in one cut). By AI agents, Wed Nov 11 2026. No macro, syntax, notation, axiom, sorry.
-/
import Derived.Test.YthoidonmlfibfaaChecked
import GoSem.Claim
import GoSem.ClaimJoined
import GoSem.ClaimMapViews
import Derived.JoinedTies
import Derived.KernelRfl
namespace Go.Proofs.Ythoidonmlfibfaa
/- THE CELL 'sum', in the pinned program and in every row, IS THE sha256 OF THE DUMP (.gsa) THAT YthoidonmlfibfaaProg.lean LOADS. Nothing in Lean hashes anything: it is a label: what it is worth is what the hold of that sum in a sandbox is worth. -/
noncomputable def Try.pinned : Pinned := { name := "ythoidonmlfibfaa", sum := "e58d9e90c840e790a188010714818afc7049bf247e6bcea9b0d2a717b6f92b9f", checked := Try.checked }
namespace Rows
def none {H : Type} : Left H := { results := [], args := [] }

/-- 'laws.FnExactCodeOf': WHATEVER THE INPUT: true; the input reads as it did. -/
def fnExactCodeOfSpec : ChangeSpec := { name := "fnExactCodeOf", fn := fun _ => fun
  | [d] => { results := [.lit (.bool true)], args := [d] }
  | _ => none }
def fnExactCodeOfRow : OpenClaim := { program := "ythoidonmlfibfaa", sum := "e58d9e90c840e790a188010714818afc7049bf247e6bcea9b0d2a717b6f92b9f", func := "loop.example/treenumbers/laws.FnExactCodeOf", spec := "fnExactCodeOf", unfollowed := true, recurses := true, apart := false }
def FnExactCodeOfSaid : Prop := fnExactCodeOfRow.holds Try.pinned (OpenSpec.ofChange fnExactCodeOfSpec)

/-- ITS FALSE NEIGHBOUR: 'it returns false'. Refute it at one input. -/
def fnExactCodeOfWrong : ChangeSpec := { name := "fnExactCodeOf", fn := fun _ => fun
  | [d] => { results := [.lit (.bool false)], args := [d] }
  | _ => none }
def FnExactCodeOfWrongFalsely : Prop := fnExactCodeOfRow.holds Try.pinned (OpenSpec.ofChange fnExactCodeOfWrong)

/-- 'laws.FnExactCodeTree': WHATEVER THE INPUT: true; the input reads as it did. -/
def fnExactCodeTreeSpec : ChangeSpec := { name := "fnExactCodeTree", fn := fun _ => fun
  | [d] => { results := [.lit (.bool true)], args := [d] }
  | _ => none }
def fnExactCodeTreeRow : OpenClaim := { program := "ythoidonmlfibfaa", sum := "e58d9e90c840e790a188010714818afc7049bf247e6bcea9b0d2a717b6f92b9f", func := "loop.example/treenumbers/laws.FnExactCodeTree", spec := "fnExactCodeTree", inPlace := ["internal/bytealg.abigen_runtime_cmpstring"], unfollowed := true, recurses := true, apart := false }
def FnExactCodeTreeSaid : Prop := fnExactCodeTreeRow.holds Try.pinned (OpenSpec.ofChange fnExactCodeTreeSpec)

/-- ITS FALSE NEIGHBOUR: 'it returns false'. Refute it at one input. -/
def fnExactCodeTreeWrong : ChangeSpec := { name := "fnExactCodeTree", fn := fun _ => fun
  | [d] => { results := [.lit (.bool false)], args := [d] }
  | _ => none }
def FnExactCodeTreeWrongFalsely : Prop := fnExactCodeTreeRow.holds Try.pinned (OpenSpec.ofChange fnExactCodeTreeWrong)

/-- 'laws.FnExactCodePrime': WHATEVER THE INPUT: true; the input reads as it did. -/
def fnExactCodePrimeSpec : ChangeSpec := { name := "fnExactCodePrime", fn := fun _ => fun
  | [d] => { results := [.lit (.bool true)], args := [d] }
  | _ => none }
def fnExactCodePrimeRow : OpenClaim := { program := "ythoidonmlfibfaa", sum := "e58d9e90c840e790a188010714818afc7049bf247e6bcea9b0d2a717b6f92b9f", func := "loop.example/treenumbers/laws.FnExactCodePrime", spec := "fnExactCodePrime", unfollowed := true, recurses := true, apart := false }
def FnExactCodePrimeSaid : Prop := fnExactCodePrimeRow.holds Try.pinned (OpenSpec.ofChange fnExactCodePrimeSpec)

/-- ITS FALSE NEIGHBOUR: 'it returns false'. Refute it at one input. -/
def fnExactCodePrimeWrong : ChangeSpec := { name := "fnExactCodePrime", fn := fun _ => fun
  | [d] => { results := [.lit (.bool false)], args := [d] }
  | _ => none }
def FnExactCodePrimeWrongFalsely : Prop := fnExactCodePrimeRow.holds Try.pinned (OpenSpec.ofChange fnExactCodePrimeWrong)

/-- 'laws.FnExactCodePlace': WHATEVER THE INPUT: true; the input reads as it did. -/
def fnExactCodePlaceSpec : ChangeSpec := { name := "fnExactCodePlace", fn := fun _ => fun
  | [d] => { results := [.lit (.bool true)], args := [d] }
  | _ => none }
def fnExactCodePlaceRow : OpenClaim := { program := "ythoidonmlfibfaa", sum := "e58d9e90c840e790a188010714818afc7049bf247e6bcea9b0d2a717b6f92b9f", func := "loop.example/treenumbers/laws.FnExactCodePlace", spec := "fnExactCodePlace", unfollowed := true, recurses := true, apart := false }
def FnExactCodePlaceSaid : Prop := fnExactCodePlaceRow.holds Try.pinned (OpenSpec.ofChange fnExactCodePlaceSpec)

/-- ITS FALSE NEIGHBOUR: 'it returns false'. Refute it at one input. -/
def fnExactCodePlaceWrong : ChangeSpec := { name := "fnExactCodePlace", fn := fun _ => fun
  | [d] => { results := [.lit (.bool false)], args := [d] }
  | _ => none }
def FnExactCodePlaceWrongFalsely : Prop := fnExactCodePlaceRow.holds Try.pinned (OpenSpec.ofChange fnExactCodePlaceWrong)

/-- 'laws.FnExactCodeNodes': WHATEVER THE INPUT: true; the input reads as it did. -/
def fnExactCodeNodesSpec : ChangeSpec := { name := "fnExactCodeNodes", fn := fun _ => fun
  | [d] => { results := [.lit (.bool true)], args := [d] }
  | _ => none }
def fnExactCodeNodesRow : OpenClaim := { program := "ythoidonmlfibfaa", sum := "e58d9e90c840e790a188010714818afc7049bf247e6bcea9b0d2a717b6f92b9f", func := "loop.example/treenumbers/laws.FnExactCodeNodes", spec := "fnExactCodeNodes", unfollowed := true, recurses := true, apart := false }
def FnExactCodeNodesSaid : Prop := fnExactCodeNodesRow.holds Try.pinned (OpenSpec.ofChange fnExactCodeNodesSpec)

/-- ITS FALSE NEIGHBOUR: 'it returns false'. Refute it at one input. -/
def fnExactCodeNodesWrong : ChangeSpec := { name := "fnExactCodeNodes", fn := fun _ => fun
  | [d] => { results := [.lit (.bool false)], args := [d] }
  | _ => none }
def FnExactCodeNodesWrongFalsely : Prop := fnExactCodeNodesRow.holds Try.pinned (OpenSpec.ofChange fnExactCodeNodesWrong)

/-- 'laws.FnExactCodeLess': WHATEVER THE INPUT: true; the input reads as it did. -/
def fnExactCodeLessSpec : ChangeSpec := { name := "fnExactCodeLess", fn := fun _ => fun
  | [d1, d2] => { results := [.lit (.bool true)], args := [d1, d2] }
  | _ => none }
def fnExactCodeLessRow : OpenClaim := { program := "ythoidonmlfibfaa", sum := "e58d9e90c840e790a188010714818afc7049bf247e6bcea9b0d2a717b6f92b9f", func := "loop.example/treenumbers/laws.FnExactCodeLess", spec := "fnExactCodeLess", unfollowed := true, recurses := true, apart := false }
def FnExactCodeLessSaid : Prop := fnExactCodeLessRow.holds Try.pinned (OpenSpec.ofChange fnExactCodeLessSpec)

/-- ITS FALSE NEIGHBOUR: 'it returns false'. Refute it at one input. -/
def fnExactCodeLessWrong : ChangeSpec := { name := "fnExactCodeLess", fn := fun _ => fun
  | [d1, d2] => { results := [.lit (.bool false)], args := [d1, d2] }
  | _ => none }
def FnExactCodeLessWrongFalsely : Prop := fnExactCodeLessRow.holds Try.pinned (OpenSpec.ofChange fnExactCodeLessWrong)

/-- 'laws.FnExactCodeJoin': WHATEVER THE INPUT: true; the input reads as it did. -/
def fnExactCodeJoinSpec : ChangeSpec := { name := "fnExactCodeJoin", fn := fun _ => fun
  | [d1, d2] => { results := [.lit (.bool true)], args := [d1, d2] }
  | _ => none }
def fnExactCodeJoinRow : OpenClaim := { program := "ythoidonmlfibfaa", sum := "e58d9e90c840e790a188010714818afc7049bf247e6bcea9b0d2a717b6f92b9f", func := "loop.example/treenumbers/laws.FnExactCodeJoin", spec := "fnExactCodeJoin", inPlace := ["internal/abi.NoEscape", "internal/bytealg.MakeNoZero", "internal/bytealg.abigen_runtime_cmpstring"], unfollowed := true, recurses := true, apart := false }
def FnExactCodeJoinSaid : Prop := fnExactCodeJoinRow.holds Try.pinned (OpenSpec.ofChange fnExactCodeJoinSpec)

/-- ITS FALSE NEIGHBOUR: 'it returns false'. Refute it at one input. -/
def fnExactCodeJoinWrong : ChangeSpec := { name := "fnExactCodeJoin", fn := fun _ => fun
  | [d1, d2] => { results := [.lit (.bool false)], args := [d1, d2] }
  | _ => none }
def FnExactCodeJoinWrongFalsely : Prop := fnExactCodeJoinRow.holds Try.pinned (OpenSpec.ofChange fnExactCodeJoinWrong)

/-- 'laws.FnExactTreeOf': WHATEVER THE INPUT: true; the input reads as it did. -/
def fnExactTreeOfSpec : ChangeSpec := { name := "fnExactTreeOf", fn := fun _ => fun
  | [d] => { results := [.lit (.bool true)], args := [d] }
  | _ => none }
def fnExactTreeOfRow : OpenClaim := { program := "ythoidonmlfibfaa", sum := "e58d9e90c840e790a188010714818afc7049bf247e6bcea9b0d2a717b6f92b9f", func := "loop.example/treenumbers/laws.FnExactTreeOf", spec := "fnExactTreeOf", inPlace := ["internal/abi.NoEscape", "internal/bytealg.MakeNoZero"], recurses := true, apart := false }
def FnExactTreeOfSaid : Prop := fnExactTreeOfRow.holds Try.pinned (OpenSpec.ofChange fnExactTreeOfSpec)

/-- ITS FALSE NEIGHBOUR: 'it returns false'. Refute it at one input. -/
def fnExactTreeOfWrong : ChangeSpec := { name := "fnExactTreeOf", fn := fun _ => fun
  | [d] => { results := [.lit (.bool false)], args := [d] }
  | _ => none }
def FnExactTreeOfWrongFalsely : Prop := fnExactTreeOfRow.holds Try.pinned (OpenSpec.ofChange fnExactTreeOfWrong)

/-- 'laws.FnExactLevelsTree': WHATEVER THE INPUT: true; the input reads as it did. -/
def fnExactLevelsTreeSpec : ChangeSpec := { name := "fnExactLevelsTree", fn := fun _ => fun
  | [d] => { results := [.lit (.bool true)], args := [d] }
  | _ => none }
def fnExactLevelsTreeRow : OpenClaim := { program := "ythoidonmlfibfaa", sum := "e58d9e90c840e790a188010714818afc7049bf247e6bcea9b0d2a717b6f92b9f", func := "loop.example/treenumbers/laws.FnExactLevelsTree", spec := "fnExactLevelsTree", inPlace := ["internal/abi.NoEscape", "internal/bytealg.MakeNoZero"], apart := false }
def FnExactLevelsTreeSaid : Prop := fnExactLevelsTreeRow.holds Try.pinned (OpenSpec.ofChange fnExactLevelsTreeSpec)

/-- ITS FALSE NEIGHBOUR: 'it returns false'. Refute it at one input. -/
def fnExactLevelsTreeWrong : ChangeSpec := { name := "fnExactLevelsTree", fn := fun _ => fun
  | [d] => { results := [.lit (.bool false)], args := [d] }
  | _ => none }
def FnExactLevelsTreeWrongFalsely : Prop := fnExactLevelsTreeRow.holds Try.pinned (OpenSpec.ofChange fnExactLevelsTreeWrong)

/-- 'laws.FnExactLevelsCount': WHATEVER THE INPUT: true; the input reads as it did. -/
def fnExactLevelsCountSpec : ChangeSpec := { name := "fnExactLevelsCount", fn := fun _ => fun
  | [d] => { results := [.lit (.bool true)], args := [d] }
  | _ => none }
def fnExactLevelsCountRow : OpenClaim := { program := "ythoidonmlfibfaa", sum := "e58d9e90c840e790a188010714818afc7049bf247e6bcea9b0d2a717b6f92b9f", func := "loop.example/treenumbers/laws.FnExactLevelsCount", spec := "fnExactLevelsCount", apart := false }
def FnExactLevelsCountSaid : Prop := fnExactLevelsCountRow.holds Try.pinned (OpenSpec.ofChange fnExactLevelsCountSpec)

/-- ITS FALSE NEIGHBOUR: 'it returns false'. Refute it at one input. -/
def fnExactLevelsCountWrong : ChangeSpec := { name := "fnExactLevelsCount", fn := fun _ => fun
  | [d] => { results := [.lit (.bool false)], args := [d] }
  | _ => none }
def FnExactLevelsCountWrongFalsely : Prop := fnExactLevelsCountRow.holds Try.pinned (OpenSpec.ofChange fnExactLevelsCountWrong)

/-- 'laws.FnTreeOf': WHATEVER THE INPUT: true; the input reads as it did. -/
def fnTreeOfSpec : ChangeSpec := { name := "fnTreeOf", fn := fun _ => fun
  | [d] => { results := [.lit (.bool true)], args := [d] }
  | _ => none }
def fnTreeOfRow : OpenClaim := { program := "ythoidonmlfibfaa", sum := "e58d9e90c840e790a188010714818afc7049bf247e6bcea9b0d2a717b6f92b9f", func := "loop.example/treenumbers/laws.FnTreeOf", spec := "fnTreeOf", inPlace := ["internal/abi.NoEscape", "internal/bytealg.MakeNoZero"], recurses := true, apart := false }
def FnTreeOfSaid : Prop := fnTreeOfRow.holds Try.pinned (OpenSpec.ofChange fnTreeOfSpec)

/-- ITS FALSE NEIGHBOUR: 'it returns false'. Refute it at one input. -/
def fnTreeOfWrong : ChangeSpec := { name := "fnTreeOf", fn := fun _ => fun
  | [d] => { results := [.lit (.bool false)], args := [d] }
  | _ => none }
def FnTreeOfWrongFalsely : Prop := fnTreeOfRow.holds Try.pinned (OpenSpec.ofChange fnTreeOfWrong)

/-- 'laws.FnLevelsTree': WHATEVER THE INPUT: true; the input reads as it did. -/
def fnLevelsTreeSpec : ChangeSpec := { name := "fnLevelsTree", fn := fun _ => fun
  | [d] => { results := [.lit (.bool true)], args := [d] }
  | _ => none }
def fnLevelsTreeRow : OpenClaim := { program := "ythoidonmlfibfaa", sum := "e58d9e90c840e790a188010714818afc7049bf247e6bcea9b0d2a717b6f92b9f", func := "loop.example/treenumbers/laws.FnLevelsTree", spec := "fnLevelsTree", inPlace := ["internal/abi.NoEscape", "internal/bytealg.MakeNoZero"], recurses := true, apart := false }
def FnLevelsTreeSaid : Prop := fnLevelsTreeRow.holds Try.pinned (OpenSpec.ofChange fnLevelsTreeSpec)

/-- ITS FALSE NEIGHBOUR: 'it returns false'. Refute it at one input. -/
def fnLevelsTreeWrong : ChangeSpec := { name := "fnLevelsTree", fn := fun _ => fun
  | [d] => { results := [.lit (.bool false)], args := [d] }
  | _ => none }
def FnLevelsTreeWrongFalsely : Prop := fnLevelsTreeRow.holds Try.pinned (OpenSpec.ofChange fnLevelsTreeWrong)

/- THE SECOND FORM. 'bulk': how many values and letters a reading holds, each counted each time it is reached (what is shared counts as often as it is met; a slice's spare places count too). A statement '..UptoSaid' is the law's where the arguments, and the package variables that the reading takes, are together of bulk at most 1048576: NARROWER than '..Said'. Prove '..Said' where nothing that the law and all that it calls make is longer than what came in: it says more and counts as full. Else prove '..UptoSaid'. A law counts once. -/
mutual
def uptoBulk {H : Type} : DataW H → Nat
  | .lit (.string bytes) => bytes.length + 1
  | .lit _ => 1
  | .nil => 1
  | .ptr d => uptoBulk d + 1
  | .slice elems spare => uptoBulkAll elems + uptoBulkAll spare + 1
  | .agg parts => uptoBulkAll parts + 1
  | .iface _ d => uptoBulk d + 1
  | .map entries => uptoBulkEntries entries + 1
  | .held _ => 1
def uptoBulkAll {H : Type} : List (DataW H) → Nat
  | [] => 0
  | d :: r => uptoBulk d + uptoBulkAll r
def uptoBulkEntries {H : Type} : List (Lit × DataW H) → Nat
  | [] => 0
  | x :: r => uptoBulkEntry x + uptoBulkEntries r
def uptoBulkEntry {H : Type} : Lit × DataW H → Nat
  | (.string bytes, d) => bytes.length + uptoBulk d + 1
  | (_, d) => uptoBulk d + 1
 end
def uptoSmall : (H : Type) → List (DataW H) → Bool := fun _ ds => decide (uptoBulkAll ds ≤ 1048576)
def OpenSpec.upto (s : _root_.Go.ChangeSpec) : _root_.Go.OpenSpec := { _root_.Go.OpenSpec.ofChange s with cond := some uptoSmall }

/-- 'laws.FnExactCodeOf', WHERE WHAT IT READS IS OF BULK AT MOST 1048576: true; the input reads as it did. -/
def fnExactCodeOfUptoRow : OpenClaim := { program := "ythoidonmlfibfaa", sum := "e58d9e90c840e790a188010714818afc7049bf247e6bcea9b0d2a717b6f92b9f", func := "loop.example/treenumbers/laws.FnExactCodeOf", spec := "fnExactCodeOf", unfollowed := true, recurses := true, apart := false, narrowed := true }
def FnExactCodeOfUptoSaid : Prop := fnExactCodeOfUptoRow.holds Try.pinned (OpenSpec.upto fnExactCodeOfSpec)

/-- 'laws.FnExactCodeTree', WHERE WHAT IT READS IS OF BULK AT MOST 1048576: true; the input reads as it did. -/
def fnExactCodeTreeUptoRow : OpenClaim := { program := "ythoidonmlfibfaa", sum := "e58d9e90c840e790a188010714818afc7049bf247e6bcea9b0d2a717b6f92b9f", func := "loop.example/treenumbers/laws.FnExactCodeTree", spec := "fnExactCodeTree", inPlace := ["internal/bytealg.abigen_runtime_cmpstring"], unfollowed := true, recurses := true, apart := false, narrowed := true }
def FnExactCodeTreeUptoSaid : Prop := fnExactCodeTreeUptoRow.holds Try.pinned (OpenSpec.upto fnExactCodeTreeSpec)

/-- 'laws.FnExactCodePrime', WHERE WHAT IT READS IS OF BULK AT MOST 1048576: true; the input reads as it did. -/
def fnExactCodePrimeUptoRow : OpenClaim := { program := "ythoidonmlfibfaa", sum := "e58d9e90c840e790a188010714818afc7049bf247e6bcea9b0d2a717b6f92b9f", func := "loop.example/treenumbers/laws.FnExactCodePrime", spec := "fnExactCodePrime", unfollowed := true, recurses := true, apart := false, narrowed := true }
def FnExactCodePrimeUptoSaid : Prop := fnExactCodePrimeUptoRow.holds Try.pinned (OpenSpec.upto fnExactCodePrimeSpec)

/-- 'laws.FnExactCodePlace', WHERE WHAT IT READS IS OF BULK AT MOST 1048576: true; the input reads as it did. -/
def fnExactCodePlaceUptoRow : OpenClaim := { program := "ythoidonmlfibfaa", sum := "e58d9e90c840e790a188010714818afc7049bf247e6bcea9b0d2a717b6f92b9f", func := "loop.example/treenumbers/laws.FnExactCodePlace", spec := "fnExactCodePlace", unfollowed := true, recurses := true, apart := false, narrowed := true }
def FnExactCodePlaceUptoSaid : Prop := fnExactCodePlaceUptoRow.holds Try.pinned (OpenSpec.upto fnExactCodePlaceSpec)

/-- 'laws.FnExactCodeNodes', WHERE WHAT IT READS IS OF BULK AT MOST 1048576: true; the input reads as it did. -/
def fnExactCodeNodesUptoRow : OpenClaim := { program := "ythoidonmlfibfaa", sum := "e58d9e90c840e790a188010714818afc7049bf247e6bcea9b0d2a717b6f92b9f", func := "loop.example/treenumbers/laws.FnExactCodeNodes", spec := "fnExactCodeNodes", unfollowed := true, recurses := true, apart := false, narrowed := true }
def FnExactCodeNodesUptoSaid : Prop := fnExactCodeNodesUptoRow.holds Try.pinned (OpenSpec.upto fnExactCodeNodesSpec)

/-- 'laws.FnExactCodeLess', WHERE WHAT IT READS IS OF BULK AT MOST 1048576: true; the input reads as it did. -/
def fnExactCodeLessUptoRow : OpenClaim := { program := "ythoidonmlfibfaa", sum := "e58d9e90c840e790a188010714818afc7049bf247e6bcea9b0d2a717b6f92b9f", func := "loop.example/treenumbers/laws.FnExactCodeLess", spec := "fnExactCodeLess", unfollowed := true, recurses := true, apart := false, narrowed := true }
def FnExactCodeLessUptoSaid : Prop := fnExactCodeLessUptoRow.holds Try.pinned (OpenSpec.upto fnExactCodeLessSpec)

/-- 'laws.FnExactCodeJoin', WHERE WHAT IT READS IS OF BULK AT MOST 1048576: true; the input reads as it did. -/
def fnExactCodeJoinUptoRow : OpenClaim := { program := "ythoidonmlfibfaa", sum := "e58d9e90c840e790a188010714818afc7049bf247e6bcea9b0d2a717b6f92b9f", func := "loop.example/treenumbers/laws.FnExactCodeJoin", spec := "fnExactCodeJoin", inPlace := ["internal/abi.NoEscape", "internal/bytealg.MakeNoZero", "internal/bytealg.abigen_runtime_cmpstring"], unfollowed := true, recurses := true, apart := false, narrowed := true }
def FnExactCodeJoinUptoSaid : Prop := fnExactCodeJoinUptoRow.holds Try.pinned (OpenSpec.upto fnExactCodeJoinSpec)

/-- 'laws.FnExactTreeOf', WHERE WHAT IT READS IS OF BULK AT MOST 1048576: true; the input reads as it did. -/
def fnExactTreeOfUptoRow : OpenClaim := { program := "ythoidonmlfibfaa", sum := "e58d9e90c840e790a188010714818afc7049bf247e6bcea9b0d2a717b6f92b9f", func := "loop.example/treenumbers/laws.FnExactTreeOf", spec := "fnExactTreeOf", inPlace := ["internal/abi.NoEscape", "internal/bytealg.MakeNoZero"], recurses := true, apart := false, narrowed := true }
def FnExactTreeOfUptoSaid : Prop := fnExactTreeOfUptoRow.holds Try.pinned (OpenSpec.upto fnExactTreeOfSpec)

/-- 'laws.FnExactLevelsTree', WHERE WHAT IT READS IS OF BULK AT MOST 1048576: true; the input reads as it did. -/
def fnExactLevelsTreeUptoRow : OpenClaim := { program := "ythoidonmlfibfaa", sum := "e58d9e90c840e790a188010714818afc7049bf247e6bcea9b0d2a717b6f92b9f", func := "loop.example/treenumbers/laws.FnExactLevelsTree", spec := "fnExactLevelsTree", inPlace := ["internal/abi.NoEscape", "internal/bytealg.MakeNoZero"], apart := false, narrowed := true }
def FnExactLevelsTreeUptoSaid : Prop := fnExactLevelsTreeUptoRow.holds Try.pinned (OpenSpec.upto fnExactLevelsTreeSpec)

/-- 'laws.FnExactLevelsCount', WHERE WHAT IT READS IS OF BULK AT MOST 1048576: true; the input reads as it did. -/
def fnExactLevelsCountUptoRow : OpenClaim := { program := "ythoidonmlfibfaa", sum := "e58d9e90c840e790a188010714818afc7049bf247e6bcea9b0d2a717b6f92b9f", func := "loop.example/treenumbers/laws.FnExactLevelsCount", spec := "fnExactLevelsCount", apart := false, narrowed := true }
def FnExactLevelsCountUptoSaid : Prop := fnExactLevelsCountUptoRow.holds Try.pinned (OpenSpec.upto fnExactLevelsCountSpec)

/-- 'laws.FnTreeOf', WHERE WHAT IT READS IS OF BULK AT MOST 1048576: true; the input reads as it did. -/
def fnTreeOfUptoRow : OpenClaim := { program := "ythoidonmlfibfaa", sum := "e58d9e90c840e790a188010714818afc7049bf247e6bcea9b0d2a717b6f92b9f", func := "loop.example/treenumbers/laws.FnTreeOf", spec := "fnTreeOf", inPlace := ["internal/abi.NoEscape", "internal/bytealg.MakeNoZero"], recurses := true, apart := false, narrowed := true }
def FnTreeOfUptoSaid : Prop := fnTreeOfUptoRow.holds Try.pinned (OpenSpec.upto fnTreeOfSpec)

/-- 'laws.FnLevelsTree', WHERE WHAT IT READS IS OF BULK AT MOST 1048576: true; the input reads as it did. -/
def fnLevelsTreeUptoRow : OpenClaim := { program := "ythoidonmlfibfaa", sum := "e58d9e90c840e790a188010714818afc7049bf247e6bcea9b0d2a717b6f92b9f", func := "loop.example/treenumbers/laws.FnLevelsTree", spec := "fnLevelsTree", inPlace := ["internal/abi.NoEscape", "internal/bytealg.MakeNoZero"], recurses := true, apart := false, narrowed := true }
def FnLevelsTreeUptoSaid : Prop := fnLevelsTreeUptoRow.holds Try.pinned (OpenSpec.upto fnLevelsTreeSpec)

end Rows
end Go.Proofs.Ythoidonmlfibfaa
