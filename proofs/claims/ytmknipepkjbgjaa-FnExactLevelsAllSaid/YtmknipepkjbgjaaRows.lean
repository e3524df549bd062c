/-
  No cell of these rows narrows 'for every input' (looked for: loops, veiled, ifaces, maps, wideKeys, modest, calm, conditions, laid).
  DERIVED. THE GIVEN ROWS OF THIS SEAT. 16 by the template 'for every input the law returns true; each argument reads behind the call as it read before'; 0 by the template 'total and deterministic' (their statements: YtmknipepkjbgjaaTotals.lean).
  GIVEN WITH THE SEED: the statements are not yours to turn. If you find one false, say at which input.
  Laid BY PROGRAM, IN A SANDBOX (cutbox-rows.mjs): the forced cells as the released guide's own fill.sh prints them over the translation 6ba16717915dce94… (all of the seat's roots in one cut). By AI agents, Wed Nov 11 2026. No macro, syntax, notation, axiom, sorry.
-/
import Derived.Test.YtmknipepkjbgjaaChecked
import GoSem.Claim
import GoSem.ClaimJoined
import GoSem.ClaimMapViews
import Derived.JoinedTies
import Derived.KernelRfl
namespace Go.Proofs.Ytmknipepkjbgjaa
/- THE CELL 'sum', in the pinned program and in every row, IS THE sha256 OF THE DUMP (.gsa) THAT YtmknipepkjbgjaaProg.lean LOADS. Nothing in Lean hashes anything: it is a label: what it is worth is what the hold of that sum in a sandbox is worth. -/
noncomputable def Try.pinned : Pinned := { name := "ytmknipepkjbgjaa", sum := "6ba16717915dce943c69822e9376c7334d4c7ed55b90d7f6b1b3dac374e42dfd", checked := Try.checked }
namespace Rows
def none {H : Type} : Left H := { results := [], args := [] }

/-- 'laws.FnExactTreeOf': WHATEVER THE INPUT: true; the input reads as it did. -/
def fnExactTreeOfSpec : ChangeSpec := { name := "fnExactTreeOf", fn := fun _ => fun
  | [d] => { results := [.lit (.bool true)], args := [d] }
  | _ => none }
def fnExactTreeOfRow : OpenClaim := { program := "ytmknipepkjbgjaa", sum := "6ba16717915dce943c69822e9376c7334d4c7ed55b90d7f6b1b3dac374e42dfd", func := "loop.example/treenumbers/laws.FnExactTreeOf", spec := "fnExactTreeOf", inPlace := ["internal/abi.NoEscape", "internal/bytealg.MakeNoZero"], recurses := true, apart := false }
def FnExactTreeOfSaid : Prop := fnExactTreeOfRow.holds Try.pinned (OpenSpec.ofChange fnExactTreeOfSpec)

/-- ITS FALSE NEIGHBOUR: 'it returns false'. Refute it at one input. -/
def fnExactTreeOfWrong : ChangeSpec := { name := "fnExactTreeOf", fn := fun _ => fun
  | [d] => { results := [.lit (.bool false)], args := [d] }
  | _ => none }
def FnExactTreeOfWrongFalsely : Prop := fnExactTreeOfRow.holds Try.pinned (OpenSpec.ofChange fnExactTreeOfWrong)

/-- 'laws.FnExactCodeOf': WHATEVER THE INPUT: true; the input reads as it did. -/
def fnExactCodeOfSpec : ChangeSpec := { name := "fnExactCodeOf", fn := fun _ => fun
  | [d] => { results := [.lit (.bool true)], args := [d] }
  | _ => none }
def fnExactCodeOfRow : OpenClaim := { program := "ytmknipepkjbgjaa", sum := "6ba16717915dce943c69822e9376c7334d4c7ed55b90d7f6b1b3dac374e42dfd", func := "loop.example/treenumbers/laws.FnExactCodeOf", spec := "fnExactCodeOf", unfollowed := true, recurses := true, apart := false }
def FnExactCodeOfSaid : Prop := fnExactCodeOfRow.holds Try.pinned (OpenSpec.ofChange fnExactCodeOfSpec)

/-- ITS FALSE NEIGHBOUR: 'it returns false'. Refute it at one input. -/
def fnExactCodeOfWrong : ChangeSpec := { name := "fnExactCodeOf", fn := fun _ => fun
  | [d] => { results := [.lit (.bool false)], args := [d] }
  | _ => none }
def FnExactCodeOfWrongFalsely : Prop := fnExactCodeOfRow.holds Try.pinned (OpenSpec.ofChange fnExactCodeOfWrong)

/-- 'laws.FnExactCodeTree': WHATEVER THE INPUT: true; the input reads as it did. -/
def fnExactCodeTreeSpec : ChangeSpec := { name := "fnExactCodeTree", fn := fun _ => fun
  | [d] => { results := [.lit (.bool true)], args := [d] }
  | _ => none }
def fnExactCodeTreeRow : OpenClaim := { program := "ytmknipepkjbgjaa", sum := "6ba16717915dce943c69822e9376c7334d4c7ed55b90d7f6b1b3dac374e42dfd", func := "loop.example/treenumbers/laws.FnExactCodeTree", spec := "fnExactCodeTree", inPlace := ["internal/bytealg.abigen_runtime_cmpstring"], unfollowed := true, recurses := true, apart := false }
def FnExactCodeTreeSaid : Prop := fnExactCodeTreeRow.holds Try.pinned (OpenSpec.ofChange fnExactCodeTreeSpec)

/-- ITS FALSE NEIGHBOUR: 'it returns false'. Refute it at one input. -/
def fnExactCodeTreeWrong : ChangeSpec := { name := "fnExactCodeTree", fn := fun _ => fun
  | [d] => { results := [.lit (.bool false)], args := [d] }
  | _ => none }
def FnExactCodeTreeWrongFalsely : Prop := fnExactCodeTreeRow.holds Try.pinned (OpenSpec.ofChange fnExactCodeTreeWrong)

/-- 'laws.FnExactCodePrime': WHATEVER THE INPUT: true; the input reads as it did. -/
def fnExactCodePrimeSpec : ChangeSpec := { name := "fnExactCodePrime", fn := fun _ => fun
  | [d] => { results := [.lit (.bool true)], args := [d] }
  | _ => none }
def fnExactCodePrimeRow : OpenClaim := { program := "ytmknipepkjbgjaa", sum := "6ba16717915dce943c69822e9376c7334d4c7ed55b90d7f6b1b3dac374e42dfd", func := "loop.example/treenumbers/laws.FnExactCodePrime", spec := "fnExactCodePrime", unfollowed := true, recurses := true, apart := false }
def FnExactCodePrimeSaid : Prop := fnExactCodePrimeRow.holds Try.pinned (OpenSpec.ofChange fnExactCodePrimeSpec)

/-- ITS FALSE NEIGHBOUR: 'it returns false'. Refute it at one input. -/
def fnExactCodePrimeWrong : ChangeSpec := { name := "fnExactCodePrime", fn := fun _ => fun
  | [d] => { results := [.lit (.bool false)], args := [d] }
  | _ => none }
def FnExactCodePrimeWrongFalsely : Prop := fnExactCodePrimeRow.holds Try.pinned (OpenSpec.ofChange fnExactCodePrimeWrong)

/-- 'laws.FnExactCodePlace': WHATEVER THE INPUT: true; the input reads as it did. -/
def fnExactCodePlaceSpec : ChangeSpec := { name := "fnExactCodePlace", fn := fun _ => fun
  | [d] => { results := [.lit (.bool true)], args := [d] }
  | _ => none }
def fnExactCodePlaceRow : OpenClaim := { program := "ytmknipepkjbgjaa", sum := "6ba16717915dce943c69822e9376c7334d4c7ed55b90d7f6b1b3dac374e42dfd", func := "loop.example/treenumbers/laws.FnExactCodePlace", spec := "fnExactCodePlace", unfollowed := true, recurses := true, apart := false }
def FnExactCodePlaceSaid : Prop := fnExactCodePlaceRow.holds Try.pinned (OpenSpec.ofChange fnExactCodePlaceSpec)

/-- ITS FALSE NEIGHBOUR: 'it returns false'. Refute it at one input. -/
def fnExactCodePlaceWrong : ChangeSpec := { name := "fnExactCodePlace", fn := fun _ => fun
  | [d] => { results := [.lit (.bool false)], args := [d] }
  | _ => none }
def FnExactCodePlaceWrongFalsely : Prop := fnExactCodePlaceRow.holds Try.pinned (OpenSpec.ofChange fnExactCodePlaceWrong)

/-- 'laws.FnExactCodeNodes': WHATEVER THE INPUT: true; the input reads as it did. -/
def fnExactCodeNodesSpec : ChangeSpec := { name := "fnExactCodeNodes", fn := fun _ => fun
  | [d] => { results := [.lit (.bool true)], args := [d] }
  | _ => none }
def fnExactCodeNodesRow : OpenClaim := { program := "ytmknipepkjbgjaa", sum := "6ba16717915dce943c69822e9376c7334d4c7ed55b90d7f6b1b3dac374e42dfd", func := "loop.example/treenumbers/laws.FnExactCodeNodes", spec := "fnExactCodeNodes", unfollowed := true, recurses := true, apart := false }
def FnExactCodeNodesSaid : Prop := fnExactCodeNodesRow.holds Try.pinned (OpenSpec.ofChange fnExactCodeNodesSpec)

/-- ITS FALSE NEIGHBOUR: 'it returns false'. Refute it at one input. -/
def fnExactCodeNodesWrong : ChangeSpec := { name := "fnExactCodeNodes", fn := fun _ => fun
  | [d] => { results := [.lit (.bool false)], args := [d] }
  | _ => none }
def FnExactCodeNodesWrongFalsely : Prop := fnExactCodeNodesRow.holds Try.pinned (OpenSpec.ofChange fnExactCodeNodesWrong)

/-- 'laws.FnExactCodeJoin': WHATEVER THE INPUT: true; the input reads as it did. -/
def fnExactCodeJoinSpec : ChangeSpec := { name := "fnExactCodeJoin", fn := fun _ => fun
  | [d1, d2] => { results := [.lit (.bool true)], args := [d1, d2] }
  | _ => none }
def fnExactCodeJoinRow : OpenClaim := { program := "ytmknipepkjbgjaa", sum := "6ba16717915dce943c69822e9376c7334d4c7ed55b90d7f6b1b3dac374e42dfd", func := "loop.example/treenumbers/laws.FnExactCodeJoin", spec := "fnExactCodeJoin", inPlace := ["internal/abi.NoEscape", "internal/bytealg.MakeNoZero", "internal/bytealg.abigen_runtime_cmpstring"], unfollowed := true, recurses := true, apart := false }
def FnExactCodeJoinSaid : Prop := fnExactCodeJoinRow.holds Try.pinned (OpenSpec.ofChange fnExactCodeJoinSpec)

/-- ITS FALSE NEIGHBOUR: 'it returns false'. Refute it at one input. -/
def fnExactCodeJoinWrong : ChangeSpec := { name := "fnExactCodeJoin", fn := fun _ => fun
  | [d1, d2] => { results := [.lit (.bool false)], args := [d1, d2] }
  | _ => none }
def FnExactCodeJoinWrongFalsely : Prop := fnExactCodeJoinRow.holds Try.pinned (OpenSpec.ofChange fnExactCodeJoinWrong)

/-- 'laws.FnExactCodeLess': WHATEVER THE INPUT: true; the input reads as it did. -/
def fnExactCodeLessSpec : ChangeSpec := { name := "fnExactCodeLess", fn := fun _ => fun
  | [d1, d2] => { results := [.lit (.bool true)], args := [d1, d2] }
  | _ => none }
def fnExactCodeLessRow : OpenClaim := { program := "ytmknipepkjbgjaa", sum := "6ba16717915dce943c69822e9376c7334d4c7ed55b90d7f6b1b3dac374e42dfd", func := "loop.example/treenumbers/laws.FnExactCodeLess", spec := "fnExactCodeLess", unfollowed := true, recurses := true, apart := false }
def FnExactCodeLessSaid : Prop := fnExactCodeLessRow.holds Try.pinned (OpenSpec.ofChange fnExactCodeLessSpec)

/-- ITS FALSE NEIGHBOUR: 'it returns false'. Refute it at one input. -/
def fnExactCodeLessWrong : ChangeSpec := { name := "fnExactCodeLess", fn := fun _ => fun
  | [d1, d2] => { results := [.lit (.bool false)], args := [d1, d2] }
  | _ => none }
def FnExactCodeLessWrongFalsely : Prop := fnExactCodeLessRow.holds Try.pinned (OpenSpec.ofChange fnExactCodeLessWrong)

/-- 'laws.FnExactLevelsOf': WHATEVER THE INPUT: true; the input reads as it did. -/
def fnExactLevelsOfSpec : ChangeSpec := { name := "fnExactLevelsOf", fn := fun _ => fun
  | [d] => { results := [.lit (.bool true)], args := [d] }
  | _ => none }
def fnExactLevelsOfRow : OpenClaim := { program := "ytmknipepkjbgjaa", sum := "6ba16717915dce943c69822e9376c7334d4c7ed55b90d7f6b1b3dac374e42dfd", func := "loop.example/treenumbers/laws.FnExactLevelsOf", spec := "fnExactLevelsOf", recurses := true, apart := false }
def FnExactLevelsOfSaid : Prop := fnExactLevelsOfRow.holds Try.pinned (OpenSpec.ofChange fnExactLevelsOfSpec)

/-- ITS FALSE NEIGHBOUR: 'it returns false'. Refute it at one input. -/
def fnExactLevelsOfWrong : ChangeSpec := { name := "fnExactLevelsOf", fn := fun _ => fun
  | [d] => { results := [.lit (.bool false)], args := [d] }
  | _ => none }
def FnExactLevelsOfWrongFalsely : Prop := fnExactLevelsOfRow.holds Try.pinned (OpenSpec.ofChange fnExactLevelsOfWrong)

/-- 'laws.FnExactLevelsTree': WHATEVER THE INPUT: true; the input reads as it did. -/
def fnExactLevelsTreeSpec : ChangeSpec := { name := "fnExactLevelsTree", fn := fun _ => fun
  | [d] => { results := [.lit (.bool true)], args := [d] }
  | _ => none }
def fnExactLevelsTreeRow : OpenClaim := { program := "ytmknipepkjbgjaa", sum := "6ba16717915dce943c69822e9376c7334d4c7ed55b90d7f6b1b3dac374e42dfd", func := "loop.example/treenumbers/laws.FnExactLevelsTree", spec := "fnExactLevelsTree", inPlace := ["internal/abi.NoEscape", "internal/bytealg.MakeNoZero"], apart := false }
def FnExactLevelsTreeSaid : Prop := fnExactLevelsTreeRow.holds Try.pinned (OpenSpec.ofChange fnExactLevelsTreeSpec)

/-- ITS FALSE NEIGHBOUR: 'it returns false'. Refute it at one input. -/
def fnExactLevelsTreeWrong : ChangeSpec := { name := "fnExactLevelsTree", fn := fun _ => fun
  | [d] => { results := [.lit (.bool false)], args := [d] }
  | _ => none }
def FnExactLevelsTreeWrongFalsely : Prop := fnExactLevelsTreeRow.holds Try.pinned (OpenSpec.ofChange fnExactLevelsTreeWrong)

/-- 'laws.FnExactLevelsNext': WHATEVER THE INPUT: true; the input reads as it did. -/
def fnExactLevelsNextSpec : ChangeSpec := { name := "fnExactLevelsNext", fn := fun _ => fun
  | [d] => { results := [.lit (.bool true)], args := [d] }
  | _ => none }
def fnExactLevelsNextRow : OpenClaim := { program := "ytmknipepkjbgjaa", sum := "6ba16717915dce943c69822e9376c7334d4c7ed55b90d7f6b1b3dac374e42dfd", func := "loop.example/treenumbers/laws.FnExactLevelsNext", spec := "fnExactLevelsNext", inPlace := ["internal/bytealg.abigen_runtime_cmpstring", "internal/abi.NoEscape", "internal/bytealg.MakeNoZero"], unfollowed := true, recurses := true, apart := false }
def FnExactLevelsNextSaid : Prop := fnExactLevelsNextRow.holds Try.pinned (OpenSpec.ofChange fnExactLevelsNextSpec)

/-- ITS FALSE NEIGHBOUR: 'it returns false'. Refute it at one input. -/
def fnExactLevelsNextWrong : ChangeSpec := { name := "fnExactLevelsNext", fn := fun _ => fun
  | [d] => { results := [.lit (.bool false)], args := [d] }
  | _ => none }
def FnExactLevelsNextWrongFalsely : Prop := fnExactLevelsNextRow.holds Try.pinned (OpenSpec.ofChange fnExactLevelsNextWrong)

/-- 'laws.FnExactLevelsWide': WHATEVER THE INPUT: true; the input reads as it did. -/
def fnExactLevelsWideSpec : ChangeSpec := { name := "fnExactLevelsWide", fn := fun _ => fun
  | [d] => { results := [.lit (.bool true)], args := [d] }
  | _ => none }
def fnExactLevelsWideRow : OpenClaim := { program := "ytmknipepkjbgjaa", sum := "6ba16717915dce943c69822e9376c7334d4c7ed55b90d7f6b1b3dac374e42dfd", func := "loop.example/treenumbers/laws.FnExactLevelsWide", spec := "fnExactLevelsWide", recurses := true, apart := false }
def FnExactLevelsWideSaid : Prop := fnExactLevelsWideRow.holds Try.pinned (OpenSpec.ofChange fnExactLevelsWideSpec)

/-- ITS FALSE NEIGHBOUR: 'it returns false'. Refute it at one input. -/
def fnExactLevelsWideWrong : ChangeSpec := { name := "fnExactLevelsWide", fn := fun _ => fun
  | [d] => { results := [.lit (.bool false)], args := [d] }
  | _ => none }
def FnExactLevelsWideWrongFalsely : Prop := fnExactLevelsWideRow.holds Try.pinned (OpenSpec.ofChange fnExactLevelsWideWrong)

/-- 'laws.FnExactLevelsPlane': WHATEVER THE INPUT: true; the input reads as it did. -/
def fnExactLevelsPlaneSpec : ChangeSpec := { name := "fnExactLevelsPlane", fn := fun _ => fun
  | [d] => { results := [.lit (.bool true)], args := [d] }
  | _ => none }
def fnExactLevelsPlaneRow : OpenClaim := { program := "ytmknipepkjbgjaa", sum := "6ba16717915dce943c69822e9376c7334d4c7ed55b90d7f6b1b3dac374e42dfd", func := "loop.example/treenumbers/laws.FnExactLevelsPlane", spec := "fnExactLevelsPlane", apart := false }
def FnExactLevelsPlaneSaid : Prop := fnExactLevelsPlaneRow.holds Try.pinned (OpenSpec.ofChange fnExactLevelsPlaneSpec)

/-- ITS FALSE NEIGHBOUR: 'it returns false'. Refute it at one input. -/
def fnExactLevelsPlaneWrong : ChangeSpec := { name := "fnExactLevelsPlane", fn := fun _ => fun
  | [d] => { results := [.lit (.bool false)], args := [d] }
  | _ => none }
def FnExactLevelsPlaneWrongFalsely : Prop := fnExactLevelsPlaneRow.holds Try.pinned (OpenSpec.ofChange fnExactLevelsPlaneWrong)

/-- 'laws.FnExactLevelsPlace': WHATEVER THE INPUT: true; the input reads as it did. -/
def fnExactLevelsPlaceSpec : ChangeSpec := { name := "fnExactLevelsPlace", fn := fun _ => fun
  | [d] => { results := [.lit (.bool true)], args := [d] }
  | _ => none }
def fnExactLevelsPlaceRow : OpenClaim := { program := "ytmknipepkjbgjaa", sum := "6ba16717915dce943c69822e9376c7334d4c7ed55b90d7f6b1b3dac374e42dfd", func := "loop.example/treenumbers/laws.FnExactLevelsPlace", spec := "fnExactLevelsPlace", inPlace := ["internal/bytealg.abigen_runtime_cmpstring"], unfollowed := true, recurses := true, apart := false }
def FnExactLevelsPlaceSaid : Prop := fnExactLevelsPlaceRow.holds Try.pinned (OpenSpec.ofChange fnExactLevelsPlaceSpec)

/-- ITS FALSE NEIGHBOUR: 'it returns false'. Refute it at one input. -/
def fnExactLevelsPlaceWrong : ChangeSpec := { name := "fnExactLevelsPlace", fn := fun _ => fun
  | [d] => { results := [.lit (.bool false)], args := [d] }
  | _ => none }
def FnExactLevelsPlaceWrongFalsely : Prop := fnExactLevelsPlaceRow.holds Try.pinned (OpenSpec.ofChange fnExactLevelsPlaceWrong)

/-- 'laws.FnExactLevelsAll': WHATEVER THE INPUT: true; the input reads as it did. -/
def fnExactLevelsAllSpec : ChangeSpec := { name := "fnExactLevelsAll", fn := fun _ => fun
  | [d] => { results := [.lit (.bool true)], args := [d] }
  | _ => none }
def fnExactLevelsAllRow : OpenClaim := { program := "ytmknipepkjbgjaa", sum := "6ba16717915dce943c69822e9376c7334d4c7ed55b90d7f6b1b3dac374e42dfd", func := "loop.example/treenumbers/laws.FnExactLevelsAll", spec := "fnExactLevelsAll", inPlace := ["internal/abi.NoEscape", "internal/bytealg.MakeNoZero"], recurses := true, apart := false }
def FnExactLevelsAllSaid : Prop := fnExactLevelsAllRow.holds Try.pinned (OpenSpec.ofChange fnExactLevelsAllSpec)

/-- ITS FALSE NEIGHBOUR: 'it returns false'. Refute it at one input. -/
def fnExactLevelsAllWrong : ChangeSpec := { name := "fnExactLevelsAll", fn := fun _ => fun
  | [d] => { results := [.lit (.bool false)], args := [d] }
  | _ => none }
def FnExactLevelsAllWrongFalsely : Prop := fnExactLevelsAllRow.holds Try.pinned (OpenSpec.ofChange fnExactLevelsAllWrong)

/-- 'laws.FnExactLevelsCount': WHATEVER THE INPUT: true; the input reads as it did. -/
def fnExactLevelsCountSpec : ChangeSpec := { name := "fnExactLevelsCount", fn := fun _ => fun
  | [d] => { results := [.lit (.bool true)], args := [d] }
  | _ => none }
def fnExactLevelsCountRow : OpenClaim := { program := "ytmknipepkjbgjaa", sum := "6ba16717915dce943c69822e9376c7334d4c7ed55b90d7f6b1b3dac374e42dfd", func := "loop.example/treenumbers/laws.FnExactLevelsCount", spec := "fnExactLevelsCount", apart := false }
def FnExactLevelsCountSaid : Prop := fnExactLevelsCountRow.holds Try.pinned (OpenSpec.ofChange fnExactLevelsCountSpec)

/-- ITS FALSE NEIGHBOUR: 'it returns false'. Refute it at one input. -/
def fnExactLevelsCountWrong : ChangeSpec := { name := "fnExactLevelsCount", fn := fun _ => fun
  | [d] => { results := [.lit (.bool false)], args := [d] }
  | _ => none }
def FnExactLevelsCountWrongFalsely : Prop := fnExactLevelsCountRow.holds Try.pinned (OpenSpec.ofChange fnExactLevelsCountWrong)

/- THE SECOND FORM. 'bulk': how many values and letters a reading holds, each counted each time it is reached (what is shared counts as often as it is met; a slice's spare places count too). A statement '..UptoSaid' is the law's where the arguments, and the package variables that the reading takes, are together of bulk at most 1048576: NARROWER than '..Said'. Prove '..Said' where nothing that the law and all that it calls make is longer than what came in: it says more and counts as full. Else prove '..UptoSaid'. A law counts once. -/
mutual
def uptoBulk {H : Type} : DataW H → Nat
  | .lit (.string bytes) => bytes.length + 1
  | .lit _ => 1
  | .nil => 1
  | .ptr d => uptoBulk d + 1
  | .slice elems spare => uptoBulkAll elems + uptoBulkAll spare + 1
  | .agg parts => uptoBulkAll parts + 1
  | .iface _ d => uptoBulk d + 1
  | .map entries => uptoBulkEntries entries + 1
  | .held _ => 1
def uptoBulkAll {H : Type} : List (DataW H) → Nat
  | [] => 0
  | d :: r => uptoBulk d + uptoBulkAll r
def uptoBulkEntries {H : Type} : List (Lit × DataW H) → Nat
  | [] => 0
  | x :: r => uptoBulkEntry x + uptoBulkEntries r
def uptoBulkEntry {H : Type} : Lit × DataW H → Nat
  | (.string bytes, d) => bytes.length + uptoBulk d + 1
  | (_, d) => uptoBulk d + 1
 end
def uptoSmall : (H : Type) → List (DataW H) → Bool := fun _ ds => decide (uptoBulkAll ds ≤ 1048576)
def OpenSpec.upto (s : _root_.Go.ChangeSpec) : _root_.Go.OpenSpec := { _root_.Go.OpenSpec.ofChange s with cond := some uptoSmall }

/-- 'laws.FnExactTreeOf', WHERE WHAT IT READS IS OF BULK AT MOST 1048576: true; the input reads as it did. -/
def fnExactTreeOfUptoRow : OpenClaim := { program := "ytmknipepkjbgjaa", sum := "6ba16717915dce943c69822e9376c7334d4c7ed55b90d7f6b1b3dac374e42dfd", func := "loop.example/treenumbers/laws.FnExactTreeOf", spec := "fnExactTreeOf", inPlace := ["internal/abi.NoEscape", "internal/bytealg.MakeNoZero"], recurses := true, apart := false, narrowed := true }
def FnExactTreeOfUptoSaid : Prop := fnExactTreeOfUptoRow.holds Try.pinned (OpenSpec.upto fnExactTreeOfSpec)

/-- 'laws.FnExactCodeOf', WHERE WHAT IT READS IS OF BULK AT MOST 1048576: true; the input reads as it did. -/
def fnExactCodeOfUptoRow : OpenClaim := { program := "ytmknipepkjbgjaa", sum := "6ba16717915dce943c69822e9376c7334d4c7ed55b90d7f6b1b3dac374e42dfd", func := "loop.example/treenumbers/laws.FnExactCodeOf", spec := "fnExactCodeOf", unfollowed := true, recurses := true, apart := false, narrowed := true }
def FnExactCodeOfUptoSaid : Prop := fnExactCodeOfUptoRow.holds Try.pinned (OpenSpec.upto fnExactCodeOfSpec)

/-- 'laws.FnExactCodeTree', WHERE WHAT IT READS IS OF BULK AT MOST 1048576: true; the input reads as it did. -/
def fnExactCodeTreeUptoRow : OpenClaim := { program := "ytmknipepkjbgjaa", sum := "6ba16717915dce943c69822e9376c7334d4c7ed55b90d7f6b1b3dac374e42dfd", func := "loop.example/treenumbers/laws.FnExactCodeTree", spec := "fnExactCodeTree", inPlace := ["internal/bytealg.abigen_runtime_cmpstring"], unfollowed := true, recurses := true, apart := false, narrowed := true }
def FnExactCodeTreeUptoSaid : Prop := fnExactCodeTreeUptoRow.holds Try.pinned (OpenSpec.upto fnExactCodeTreeSpec)

/-- 'laws.FnExactCodePrime', WHERE WHAT IT READS IS OF BULK AT MOST 1048576: true; the input reads as it did. -/
def fnExactCodePrimeUptoRow : OpenClaim := { program := "ytmknipepkjbgjaa", sum := "6ba16717915dce943c69822e9376c7334d4c7ed55b90d7f6b1b3dac374e42dfd", func := "loop.example/treenumbers/laws.FnExactCodePrime", spec := "fnExactCodePrime", unfollowed := true, recurses := true, apart := false, narrowed := true }
def FnExactCodePrimeUptoSaid : Prop := fnExactCodePrimeUptoRow.holds Try.pinned (OpenSpec.upto fnExactCodePrimeSpec)

/-- 'laws.FnExactCodePlace', WHERE WHAT IT READS IS OF BULK AT MOST 1048576: true; the input reads as it did. -/
def fnExactCodePlaceUptoRow : OpenClaim := { program := "ytmknipepkjbgjaa", sum := "6ba16717915dce943c69822e9376c7334d4c7ed55b90d7f6b1b3dac374e42dfd", func := "loop.example/treenumbers/laws.FnExactCodePlace", spec := "fnExactCodePlace", unfollowed := true, recurses := true, apart := false, narrowed := true }
def FnExactCodePlaceUptoSaid : Prop := fnExactCodePlaceUptoRow.holds Try.pinned (OpenSpec.upto fnExactCodePlaceSpec)

/-- 'laws.FnExactCodeNodes', WHERE WHAT IT READS IS OF BULK AT MOST 1048576: true; the input reads as it did. -/
def fnExactCodeNodesUptoRow : OpenClaim := { program := "ytmknipepkjbgjaa", sum := "6ba16717915dce943c69822e9376c7334d4c7ed55b90d7f6b1b3dac374e42dfd", func := "loop.example/treenumbers/laws.FnExactCodeNodes", spec := "fnExactCodeNodes", unfollowed := true, recurses := true, apart := false, narrowed := true }
def FnExactCodeNodesUptoSaid : Prop := fnExactCodeNodesUptoRow.holds Try.pinned (OpenSpec.upto fnExactCodeNodesSpec)

/-- 'laws.FnExactCodeJoin', WHERE WHAT IT READS IS OF BULK AT MOST 1048576: true; the input reads as it did. -/
def fnExactCodeJoinUptoRow : OpenClaim := { program := "ytmknipepkjbgjaa", sum := "6ba16717915dce943c69822e9376c7334d4c7ed55b90d7f6b1b3dac374e42dfd", func := "loop.example/treenumbers/laws.FnExactCodeJoin", spec := "fnExactCodeJoin", inPlace := ["internal/abi.NoEscape", "internal/bytealg.MakeNoZero", "internal/bytealg.abigen_runtime_cmpstring"], unfollowed := true, recurses := true, apart := false, narrowed := true }
def FnExactCodeJoinUptoSaid : Prop := fnExactCodeJoinUptoRow.holds Try.pinned (OpenSpec.upto fnExactCodeJoinSpec)

/-- 'laws.FnExactCodeLess', WHERE WHAT IT READS IS OF BULK AT MOST 1048576: true; the input reads as it did. -/
def fnExactCodeLessUptoRow : OpenClaim := { program := "ytmknipepkjbgjaa", sum := "6ba16717915dce943c69822e9376c7334d4c7ed55b90d7f6b1b3dac374e42dfd", func := "loop.example/treenumbers/laws.FnExactCodeLess", spec := "fnExactCodeLess", unfollowed := true, recurses := true, apart := false, narrowed := true }
def FnExactCodeLessUptoSaid : Prop := fnExactCodeLessUptoRow.holds Try.pinned (OpenSpec.upto fnExactCodeLessSpec)

/-- 'laws.FnExactLevelsOf', WHERE WHAT IT READS IS OF BULK AT MOST 1048576: true; the input reads as it did. -/
def fnExactLevelsOfUptoRow : OpenClaim := { program := "ytmknipepkjbgjaa", sum := "6ba16717915dce943c69822e9376c7334d4c7ed55b90d7f6b1b3dac374e42dfd", func := "loop.example/treenumbers/laws.FnExactLevelsOf", spec := "fnExactLevelsOf", recurses := true, apart := false, narrowed := true }
def FnExactLevelsOfUptoSaid : Prop := fnExactLevelsOfUptoRow.holds Try.pinned (OpenSpec.upto fnExactLevelsOfSpec)

/-- 'laws.FnExactLevelsTree', WHERE WHAT IT READS IS OF BULK AT MOST 1048576: true; the input reads as it did. -/
def fnExactLevelsTreeUptoRow : OpenClaim := { program := "ytmknipepkjbgjaa", sum := "6ba16717915dce943c69822e9376c7334d4c7ed55b90d7f6b1b3dac374e42dfd", func := "loop.example/treenumbers/laws.FnExactLevelsTree", spec := "fnExactLevelsTree", inPlace := ["internal/abi.NoEscape", "internal/bytealg.MakeNoZero"], apart := false, narrowed := true }
def FnExactLevelsTreeUptoSaid : Prop := fnExactLevelsTreeUptoRow.holds Try.pinned (OpenSpec.upto fnExactLevelsTreeSpec)

/-- 'laws.FnExactLevelsNext', WHERE WHAT IT READS IS OF BULK AT MOST 1048576: true; the input reads as it did. -/
def fnExactLevelsNextUptoRow : OpenClaim := { program := "ytmknipepkjbgjaa", sum := "6ba16717915dce943c69822e9376c7334d4c7ed55b90d7f6b1b3dac374e42dfd", func := "loop.example/treenumbers/laws.FnExactLevelsNext", spec := "fnExactLevelsNext", inPlace := ["internal/bytealg.abigen_runtime_cmpstring", "internal/abi.NoEscape", "internal/bytealg.MakeNoZero"], unfollowed := true, recurses := true, apart := false, narrowed := true }
def FnExactLevelsNextUptoSaid : Prop := fnExactLevelsNextUptoRow.holds Try.pinned (OpenSpec.upto fnExactLevelsNextSpec)

/-- 'laws.FnExactLevelsWide', WHERE WHAT IT READS IS OF BULK AT MOST 1048576: true; the input reads as it did. -/
def fnExactLevelsWideUptoRow : OpenClaim := { program := "ytmknipepkjbgjaa", sum := "6ba16717915dce943c69822e9376c7334d4c7ed55b90d7f6b1b3dac374e42dfd", func := "loop.example/treenumbers/laws.FnExactLevelsWide", spec := "fnExactLevelsWide", recurses := true, apart := false, narrowed := true }
def FnExactLevelsWideUptoSaid : Prop := fnExactLevelsWideUptoRow.holds Try.pinned (OpenSpec.upto fnExactLevelsWideSpec)

/-- 'laws.FnExactLevelsPlane', WHERE WHAT IT READS IS OF BULK AT MOST 1048576: true; the input reads as it did. -/
def fnExactLevelsPlaneUptoRow : OpenClaim := { program := "ytmknipepkjbgjaa", sum := "6ba16717915dce943c69822e9376c7334d4c7ed55b90d7f6b1b3dac374e42dfd", func := "loop.example/treenumbers/laws.FnExactLevelsPlane", spec := "fnExactLevelsPlane", apart := false, narrowed := true }
def FnExactLevelsPlaneUptoSaid : Prop := fnExactLevelsPlaneUptoRow.holds Try.pinned (OpenSpec.upto fnExactLevelsPlaneSpec)

/-- 'laws.FnExactLevelsPlace', WHERE WHAT IT READS IS OF BULK AT MOST 1048576: true; the input reads as it did. -/
def fnExactLevelsPlaceUptoRow : OpenClaim := { program := "ytmknipepkjbgjaa", sum := "6ba16717915dce943c69822e9376c7334d4c7ed55b90d7f6b1b3dac374e42dfd", func := "loop.example/treenumbers/laws.FnExactLevelsPlace", spec := "fnExactLevelsPlace", inPlace := ["internal/bytealg.abigen_runtime_cmpstring"], unfollowed := true, recurses := true, apart := false, narrowed := true }
def FnExactLevelsPlaceUptoSaid : Prop := fnExactLevelsPlaceUptoRow.holds Try.pinned (OpenSpec.upto fnExactLevelsPlaceSpec)

/-- 'laws.FnExactLevelsAll', WHERE WHAT IT READS IS OF BULK AT MOST 1048576: true; the input reads as it did. -/
def fnExactLevelsAllUptoRow : OpenClaim := { program := "ytmknipepkjbgjaa", sum := "6ba16717915dce943c69822e9376c7334d4c7ed55b90d7f6b1b3dac374e42dfd", func := "loop.example/treenumbers/laws.FnExactLevelsAll", spec := "fnExactLevelsAll", inPlace := ["internal/abi.NoEscape", "internal/bytealg.MakeNoZero"], recurses := true, apart := false, narrowed := true }
def FnExactLevelsAllUptoSaid : Prop := fnExactLevelsAllUptoRow.holds Try.pinned (OpenSpec.upto fnExactLevelsAllSpec)

/-- 'laws.FnExactLevelsCount', WHERE WHAT IT READS IS OF BULK AT MOST 1048576: true; the input reads as it did. -/
def fnExactLevelsCountUptoRow : OpenClaim := { program := "ytmknipepkjbgjaa", sum := "6ba16717915dce943c69822e9376c7334d4c7ed55b90d7f6b1b3dac374e42dfd", func := "loop.example/treenumbers/laws.FnExactLevelsCount", spec := "fnExactLevelsCount", apart := false, narrowed := true }
def FnExactLevelsCountUptoSaid : Prop := fnExactLevelsCountUptoRow.holds Try.pinned (OpenSpec.upto fnExactLevelsCountSpec)

end Rows
end Go.Proofs.Ytmknipepkjbgjaa
