/-
  No cell of these rows narrows 'for every input' (looked for: loops, veiled, ifaces, maps, wideKeys, modest, calm, conditions, laid).
  DERIVED. THE GIVEN ROWS OF THIS SEAT. 11 by the template 'for every input the law returns true; each argument reads behind the call as it read before'; 0 by the template 'total and deterministic' (their statements: YthoidonmlfibfabTotals.lean).
  GIVEN WITH THE SEED: the statements are not yours to turn. If you find one false, say at which input.
  Laid BY PROGRAM, IN A SANDBOX (cutbox-rows.mjs): the forced cells as the released guide's own fill.sh prints them over the translation d303f6f01aa0d5d9… (all of the seat's roots in one cut). By AI agents, Wed Nov 11 2026. No macro, syntax, notation, axiom, sorry.
-/
import Derived.Test.YthoidonmlfibfabChecked
import GoSem.Claim
import GoSem.ClaimJoined
import GoSem.ClaimMapViews
import Derived.JoinedTies
import Derived.KernelRfl
namespace Go.Proofs.Ythoidonmlfibfab
/- THE CELL 'sum', in the pinned program and in every row, IS THE sha256 OF THE DUMP (.gsa) THAT YthoidonmlfibfabProg.lean LOADS. Nothing in Lean hashes anything: it is a label: what it is worth is what the hold of that sum in a sandbox is worth. -/
noncomputable def Try.pinned : Pinned := { name := "ythoidonmlfibfab", sum := "d303f6f01aa0d5d9c5397fd4dad7f294c008d3d888d4d704b0882214efad09e1", checked := Try.checked }
namespace Rows
def none {H : Type} : Left H := { results := [], args := [] }

/-- 'laws.FnLevelsCount': WHATEVER THE INPUT: true; the input reads as it did. -/
def fnLevelsCountSpec : ChangeSpec := { name := "fnLevelsCount", fn := fun _ => fun
  | [d] => { results := [.lit (.bool true)], args := [d] }
  | _ => none }
def fnLevelsCountRow : OpenClaim := { program := "ythoidonmlfibfab", sum := "d303f6f01aa0d5d9c5397fd4dad7f294c008d3d888d4d704b0882214efad09e1", func := "loop.example/treenumbers/laws.FnLevelsCount", spec := "fnLevelsCount", apart := false }
def FnLevelsCountSaid : Prop := fnLevelsCountRow.holds Try.pinned (OpenSpec.ofChange fnLevelsCountSpec)

/-- ITS FALSE NEIGHBOUR: 'it returns false'. Refute it at one input. -/
def fnLevelsCountWrong : ChangeSpec := { name := "fnLevelsCount", fn := fun _ => fun
  | [d] => { results := [.lit (.bool false)], args := [d] }
  | _ => none }
def FnLevelsCountWrongFalsely : Prop := fnLevelsCountRow.holds Try.pinned (OpenSpec.ofChange fnLevelsCountWrong)

/-- 'laws.FnLevelsAll': WHATEVER THE INPUT: true; the input reads as it did. -/
def fnLevelsAllSpec : ChangeSpec := { name := "fnLevelsAll", fn := fun _ => fun
  | [d] => { results := [.lit (.bool true)], args := [d] }
  | _ => none }
def fnLevelsAllRow : OpenClaim := { program := "ythoidonmlfibfab", sum := "d303f6f01aa0d5d9c5397fd4dad7f294c008d3d888d4d704b0882214efad09e1", func := "loop.example/treenumbers/laws.FnLevelsAll", spec := "fnLevelsAll", inPlace := ["internal/abi.NoEscape", "internal/bytealg.MakeNoZero", "internal/bytealg.abigen_runtime_cmpstring"], unfollowed := true, recurses := true, apart := false }
def FnLevelsAllSaid : Prop := fnLevelsAllRow.holds Try.pinned (OpenSpec.ofChange fnLevelsAllSpec)

/-- ITS FALSE NEIGHBOUR: 'it returns false'. Refute it at one input. -/
def fnLevelsAllWrong : ChangeSpec := { name := "fnLevelsAll", fn := fun _ => fun
  | [d] => { results := [.lit (.bool false)], args := [d] }
  | _ => none }
def FnLevelsAllWrongFalsely : Prop := fnLevelsAllRow.holds Try.pinned (OpenSpec.ofChange fnLevelsAllWrong)

/-- 'laws.FnLevelsPlace': WHATEVER THE INPUT: true; the input reads as it did. -/
def fnLevelsPlaceSpec : ChangeSpec := { name := "fnLevelsPlace", fn := fun _ => fun
  | [d] => { results := [.lit (.bool true)], args := [d] }
  | _ => none }
def fnLevelsPlaceRow : OpenClaim := { program := "ythoidonmlfibfab", sum := "d303f6f01aa0d5d9c5397fd4dad7f294c008d3d888d4d704b0882214efad09e1", func := "loop.example/treenumbers/laws.FnLevelsPlace", spec := "fnLevelsPlace", inPlace := ["internal/bytealg.abigen_runtime_cmpstring", "internal/abi.NoEscape", "internal/bytealg.MakeNoZero"], unfollowed := true, recurses := true, apart := false }
def FnLevelsPlaceSaid : Prop := fnLevelsPlaceRow.holds Try.pinned (OpenSpec.ofChange fnLevelsPlaceSpec)

/-- ITS FALSE NEIGHBOUR: 'it returns false'. Refute it at one input. -/
def fnLevelsPlaceWrong : ChangeSpec := { name := "fnLevelsPlace", fn := fun _ => fun
  | [d] => { results := [.lit (.bool false)], args := [d] }
  | _ => none }
def FnLevelsPlaceWrongFalsely : Prop := fnLevelsPlaceRow.holds Try.pinned (OpenSpec.ofChange fnLevelsPlaceWrong)

/-- 'laws.FnCode': WHATEVER THE INPUT: true; the input reads as it did. -/
def fnCodeSpec : ChangeSpec := { name := "fnCode", fn := fun _ => fun
  | [d] => { results := [.lit (.bool true)], args := [d] }
  | _ => none }
def fnCodeRow : OpenClaim := { program := "ythoidonmlfibfab", sum := "d303f6f01aa0d5d9c5397fd4dad7f294c008d3d888d4d704b0882214efad09e1", func := "loop.example/treenumbers/laws.FnCode", spec := "fnCode", inPlace := ["internal/bytealg.abigen_runtime_cmpstring"], unfollowed := true, recurses := true, apart := false }
def FnCodeSaid : Prop := fnCodeRow.holds Try.pinned (OpenSpec.ofChange fnCodeSpec)

/-- ITS FALSE NEIGHBOUR: 'it returns false'. Refute it at one input. -/
def fnCodeWrong : ChangeSpec := { name := "fnCode", fn := fun _ => fun
  | [d] => { results := [.lit (.bool false)], args := [d] }
  | _ => none }
def FnCodeWrongFalsely : Prop := fnCodeRow.holds Try.pinned (OpenSpec.ofChange fnCodeWrong)

/-- 'laws.FnCodeTree': WHATEVER THE INPUT: true; the input reads as it did. -/
def fnCodeTreeSpec : ChangeSpec := { name := "fnCodeTree", fn := fun _ => fun
  | [d] => { results := [.lit (.bool true)], args := [d] }
  | _ => none }
def fnCodeTreeRow : OpenClaim := { program := "ythoidonmlfibfab", sum := "d303f6f01aa0d5d9c5397fd4dad7f294c008d3d888d4d704b0882214efad09e1", func := "loop.example/treenumbers/laws.FnCodeTree", spec := "fnCodeTree", inPlace := ["internal/bytealg.abigen_runtime_cmpstring"], unfollowed := true, recurses := true, apart := false }
def FnCodeTreeSaid : Prop := fnCodeTreeRow.holds Try.pinned (OpenSpec.ofChange fnCodeTreeSpec)

/-- ITS FALSE NEIGHBOUR: 'it returns false'. Refute it at one input. -/
def fnCodeTreeWrong : ChangeSpec := { name := "fnCodeTree", fn := fun _ => fun
  | [d] => { results := [.lit (.bool false)], args := [d] }
  | _ => none }
def FnCodeTreeWrongFalsely : Prop := fnCodeTreeRow.holds Try.pinned (OpenSpec.ofChange fnCodeTreeWrong)

/-- 'laws.FnPrime': WHATEVER THE INPUT: true; the input reads as it did. -/
def fnPrimeSpec : ChangeSpec := { name := "fnPrime", fn := fun _ => fun
  | [d] => { results := [.lit (.bool true)], args := [d] }
  | _ => none }
def fnPrimeRow : OpenClaim := { program := "ythoidonmlfibfab", sum := "d303f6f01aa0d5d9c5397fd4dad7f294c008d3d888d4d704b0882214efad09e1", func := "loop.example/treenumbers/laws.FnPrime", spec := "fnPrime", unfollowed := true, recurses := true, apart := false }
def FnPrimeSaid : Prop := fnPrimeRow.holds Try.pinned (OpenSpec.ofChange fnPrimeSpec)

/-- ITS FALSE NEIGHBOUR: 'it returns false'. Refute it at one input. -/
def fnPrimeWrong : ChangeSpec := { name := "fnPrime", fn := fun _ => fun
  | [d] => { results := [.lit (.bool false)], args := [d] }
  | _ => none }
def FnPrimeWrongFalsely : Prop := fnPrimeRow.holds Try.pinned (OpenSpec.ofChange fnPrimeWrong)

/-- 'laws.FnPlace': WHATEVER THE INPUT: true; the input reads as it did. -/
def fnPlaceSpec : ChangeSpec := { name := "fnPlace", fn := fun _ => fun
  | [d] => { results := [.lit (.bool true)], args := [d] }
  | _ => none }
def fnPlaceRow : OpenClaim := { program := "ythoidonmlfibfab", sum := "d303f6f01aa0d5d9c5397fd4dad7f294c008d3d888d4d704b0882214efad09e1", func := "loop.example/treenumbers/laws.FnPlace", spec := "fnPlace", unfollowed := true, recurses := true, apart := false }
def FnPlaceSaid : Prop := fnPlaceRow.holds Try.pinned (OpenSpec.ofChange fnPlaceSpec)

/-- ITS FALSE NEIGHBOUR: 'it returns false'. Refute it at one input. -/
def fnPlaceWrong : ChangeSpec := { name := "fnPlace", fn := fun _ => fun
  | [d] => { results := [.lit (.bool false)], args := [d] }
  | _ => none }
def FnPlaceWrongFalsely : Prop := fnPlaceRow.holds Try.pinned (OpenSpec.ofChange fnPlaceWrong)

/-- 'laws.FnPlant': WHATEVER THE INPUT: true; the input reads as it did. -/
def fnPlantSpec : ChangeSpec := { name := "fnPlant", fn := fun _ => fun
  | [d] => { results := [.lit (.bool true)], args := [d] }
  | _ => none }
def fnPlantRow : OpenClaim := { program := "ythoidonmlfibfab", sum := "d303f6f01aa0d5d9c5397fd4dad7f294c008d3d888d4d704b0882214efad09e1", func := "loop.example/treenumbers/laws.FnPlant", spec := "fnPlant", inPlace := ["internal/abi.NoEscape", "internal/bytealg.MakeNoZero"], unfollowed := true, recurses := true, apart := false }
def FnPlantSaid : Prop := fnPlantRow.holds Try.pinned (OpenSpec.ofChange fnPlantSpec)

/-- ITS FALSE NEIGHBOUR: 'it returns false'. Refute it at one input. -/
def fnPlantWrong : ChangeSpec := { name := "fnPlant", fn := fun _ => fun
  | [d] => { results := [.lit (.bool false)], args := [d] }
  | _ => none }
def FnPlantWrongFalsely : Prop := fnPlantRow.holds Try.pinned (OpenSpec.ofChange fnPlantWrong)

/-- 'laws.FnCodeNodes': WHATEVER THE INPUT: true; the input reads as it did. -/
def fnCodeNodesSpec : ChangeSpec := { name := "fnCodeNodes", fn := fun _ => fun
  | [d] => { results := [.lit (.bool true)], args := [d] }
  | _ => none }
def fnCodeNodesRow : OpenClaim := { program := "ythoidonmlfibfab", sum := "d303f6f01aa0d5d9c5397fd4dad7f294c008d3d888d4d704b0882214efad09e1", func := "loop.example/treenumbers/laws.FnCodeNodes", spec := "fnCodeNodes", unfollowed := true, recurses := true, apart := false }
def FnCodeNodesSaid : Prop := fnCodeNodesRow.holds Try.pinned (OpenSpec.ofChange fnCodeNodesSpec)

/-- ITS FALSE NEIGHBOUR: 'it returns false'. Refute it at one input. -/
def fnCodeNodesWrong : ChangeSpec := { name := "fnCodeNodes", fn := fun _ => fun
  | [d] => { results := [.lit (.bool false)], args := [d] }
  | _ => none }
def FnCodeNodesWrongFalsely : Prop := fnCodeNodesRow.holds Try.pinned (OpenSpec.ofChange fnCodeNodesWrong)

/-- 'laws.FnJoin': WHATEVER THE INPUT: true; the input reads as it did. -/
def fnJoinSpec : ChangeSpec := { name := "fnJoin", fn := fun _ => fun
  | [d] => { results := [.lit (.bool true)], args := [d] }
  | _ => none }
def fnJoinRow : OpenClaim := { program := "ythoidonmlfibfab", sum := "d303f6f01aa0d5d9c5397fd4dad7f294c008d3d888d4d704b0882214efad09e1", func := "loop.example/treenumbers/laws.FnJoin", spec := "fnJoin", inPlace := ["internal/abi.NoEscape", "internal/bytealg.MakeNoZero", "internal/bytealg.abigen_runtime_cmpstring"], unfollowed := true, recurses := true, apart := false }
def FnJoinSaid : Prop := fnJoinRow.holds Try.pinned (OpenSpec.ofChange fnJoinSpec)

/-- ITS FALSE NEIGHBOUR: 'it returns false'. Refute it at one input. -/
def fnJoinWrong : ChangeSpec := { name := "fnJoin", fn := fun _ => fun
  | [d] => { results := [.lit (.bool false)], args := [d] }
  | _ => none }
def FnJoinWrongFalsely : Prop := fnJoinRow.holds Try.pinned (OpenSpec.ofChange fnJoinWrong)

/-- 'laws.FnCodeLess': WHATEVER THE INPUT: true; the input reads as it did. -/
def fnCodeLessSpec : ChangeSpec := { name := "fnCodeLess", fn := fun _ => fun
  | [d] => { results := [.lit (.bool true)], args := [d] }
  | _ => none }
def fnCodeLessRow : OpenClaim := { program := "ythoidonmlfibfab", sum := "d303f6f01aa0d5d9c5397fd4dad7f294c008d3d888d4d704b0882214efad09e1", func := "loop.example/treenumbers/laws.FnCodeLess", spec := "fnCodeLess", inPlace := ["internal/bytealg.abigen_runtime_cmpstring"], unfollowed := true, recurses := true, apart := false }
def FnCodeLessSaid : Prop := fnCodeLessRow.holds Try.pinned (OpenSpec.ofChange fnCodeLessSpec)

/-- ITS FALSE NEIGHBOUR: 'it returns false'. Refute it at one input. -/
def fnCodeLessWrong : ChangeSpec := { name := "fnCodeLess", fn := fun _ => fun
  | [d] => { results := [.lit (.bool false)], args := [d] }
  | _ => none }
def FnCodeLessWrongFalsely : Prop := fnCodeLessRow.holds Try.pinned (OpenSpec.ofChange fnCodeLessWrong)

/- THE SECOND FORM. 'bulk': how many values and letters a reading holds, each counted each time it is reached (what is shared counts as often as it is met; a slice's spare places count too). A statement '..UptoSaid' is the law's where the arguments, and the package variables that the reading takes, are together of bulk at most 1048576: NARROWER than '..Said'. Prove '..Said' where nothing that the law and all that it calls make is longer than what came in: it says more and counts as full. Else prove '..UptoSaid'. A law counts once. -/
mutual
def uptoBulk {H : Type} : DataW H → Nat
  | .lit (.string bytes) => bytes.length + 1
  | .lit _ => 1
  | .nil => 1
  | .ptr d => uptoBulk d + 1
  | .slice elems spare => uptoBulkAll elems + uptoBulkAll spare + 1
  | .agg parts => uptoBulkAll parts + 1
  | .iface _ d => uptoBulk d + 1
  | .map entries => uptoBulkEntries entries + 1
  | .held _ => 1
def uptoBulkAll {H : Type} : List (DataW H) → Nat
  | [] => 0
  | d :: r => uptoBulk d + uptoBulkAll r
def uptoBulkEntries {H : Type} : List (Lit × DataW H) → Nat
  | [] => 0
  | x :: r => uptoBulkEntry x + uptoBulkEntries r
def uptoBulkEntry {H : Type} : Lit × DataW H → Nat
  | (.string bytes, d) => bytes.length + uptoBulk d + 1
  | (_, d) => uptoBulk d + 1
 end
def uptoSmall : (H : Type) → List (DataW H) → Bool := fun _ ds => decide (uptoBulkAll ds ≤ 1048576)
def OpenSpec.upto (s : _root_.Go.ChangeSpec) : _root_.Go.OpenSpec := { _root_.Go.OpenSpec.ofChange s with cond := some uptoSmall }

/-- 'laws.FnLevelsCount', WHERE WHAT IT READS IS OF BULK AT MOST 1048576: true; the input reads as it did. -/
def fnLevelsCountUptoRow : OpenClaim := { program := "ythoidonmlfibfab", sum := "d303f6f01aa0d5d9c5397fd4dad7f294c008d3d888d4d704b0882214efad09e1", func := "loop.example/treenumbers/laws.FnLevelsCount", spec := "fnLevelsCount", apart := false, narrowed := true }
def FnLevelsCountUptoSaid : Prop := fnLevelsCountUptoRow.holds Try.pinned (OpenSpec.upto fnLevelsCountSpec)

/-- 'laws.FnLevelsAll', WHERE WHAT IT READS IS OF BULK AT MOST 1048576: true; the input reads as it did. -/
def fnLevelsAllUptoRow : OpenClaim := { program := "ythoidonmlfibfab", sum := "d303f6f01aa0d5d9c5397fd4dad7f294c008d3d888d4d704b0882214efad09e1", func := "loop.example/treenumbers/laws.FnLevelsAll", spec := "fnLevelsAll", inPlace := ["internal/abi.NoEscape", "internal/bytealg.MakeNoZero", "internal/bytealg.abigen_runtime_cmpstring"], unfollowed := true, recurses := true, apart := false, narrowed := true }
def FnLevelsAllUptoSaid : Prop := fnLevelsAllUptoRow.holds Try.pinned (OpenSpec.upto fnLevelsAllSpec)

/-- 'laws.FnLevelsPlace', WHERE WHAT IT READS IS OF BULK AT MOST 1048576: true; the input reads as it did. -/
def fnLevelsPlaceUptoRow : OpenClaim := { program := "ythoidonmlfibfab", sum := "d303f6f01aa0d5d9c5397fd4dad7f294c008d3d888d4d704b0882214efad09e1", func := "loop.example/treenumbers/laws.FnLevelsPlace", spec := "fnLevelsPlace", inPlace := ["internal/bytealg.abigen_runtime_cmpstring", "internal/abi.NoEscape", "internal/bytealg.MakeNoZero"], unfollowed := true, recurses := true, apart := false, narrowed := true }
def FnLevelsPlaceUptoSaid : Prop := fnLevelsPlaceUptoRow.holds Try.pinned (OpenSpec.upto fnLevelsPlaceSpec)

/-- 'laws.FnCode', WHERE WHAT IT READS IS OF BULK AT MOST 1048576: true; the input reads as it did. -/
def fnCodeUptoRow : OpenClaim := { program := "ythoidonmlfibfab", sum := "d303f6f01aa0d5d9c5397fd4dad7f294c008d3d888d4d704b0882214efad09e1", func := "loop.example/treenumbers/laws.FnCode", spec := "fnCode", inPlace := ["internal/bytealg.abigen_runtime_cmpstring"], unfollowed := true, recurses := true, apart := false, narrowed := true }
def FnCodeUptoSaid : Prop := fnCodeUptoRow.holds Try.pinned (OpenSpec.upto fnCodeSpec)

/-- 'laws.FnCodeTree', WHERE WHAT IT READS IS OF BULK AT MOST 1048576: true; the input reads as it did. -/
def fnCodeTreeUptoRow : OpenClaim := { program := "ythoidonmlfibfab", sum := "d303f6f01aa0d5d9c5397fd4dad7f294c008d3d888d4d704b0882214efad09e1", func := "loop.example/treenumbers/laws.FnCodeTree", spec := "fnCodeTree", inPlace := ["internal/bytealg.abigen_runtime_cmpstring"], unfollowed := true, recurses := true, apart := false, narrowed := true }
def FnCodeTreeUptoSaid : Prop := fnCodeTreeUptoRow.holds Try.pinned (OpenSpec.upto fnCodeTreeSpec)

/-- 'laws.FnPrime', WHERE WHAT IT READS IS OF BULK AT MOST 1048576: true; the input reads as it did. -/
def fnPrimeUptoRow : OpenClaim := { program := "ythoidonmlfibfab", sum := "d303f6f01aa0d5d9c5397fd4dad7f294c008d3d888d4d704b0882214efad09e1", func := "loop.example/treenumbers/laws.FnPrime", spec := "fnPrime", unfollowed := true, recurses := true, apart := false, narrowed := true }
def FnPrimeUptoSaid : Prop := fnPrimeUptoRow.holds Try.pinned (OpenSpec.upto fnPrimeSpec)

/-- 'laws.FnPlace', WHERE WHAT IT READS IS OF BULK AT MOST 1048576: true; the input reads as it did. -/
def fnPlaceUptoRow : OpenClaim := { program := "ythoidonmlfibfab", sum := "d303f6f01aa0d5d9c5397fd4dad7f294c008d3d888d4d704b0882214efad09e1", func := "loop.example/treenumbers/laws.FnPlace", spec := "fnPlace", unfollowed := true, recurses := true, apart := false, narrowed := true }
def FnPlaceUptoSaid : Prop := fnPlaceUptoRow.holds Try.pinned (OpenSpec.upto fnPlaceSpec)

/-- 'laws.FnPlant', WHERE WHAT IT READS IS OF BULK AT MOST 1048576: true; the input reads as it did. -/
def fnPlantUptoRow : OpenClaim := { program := "ythoidonmlfibfab", sum := "d303f6f01aa0d5d9c5397fd4dad7f294c008d3d888d4d704b0882214efad09e1", func := "loop.example/treenumbers/laws.FnPlant", spec := "fnPlant", inPlace := ["internal/abi.NoEscape", "internal/bytealg.MakeNoZero"], unfollowed := true, recurses := true, apart := false, narrowed := true }
def FnPlantUptoSaid : Prop := fnPlantUptoRow.holds Try.pinned (OpenSpec.upto fnPlantSpec)

/-- 'laws.FnCodeNodes', WHERE WHAT IT READS IS OF BULK AT MOST 1048576: true; the input reads as it did. -/
def fnCodeNodesUptoRow : OpenClaim := { program := "ythoidonmlfibfab", sum := "d303f6f01aa0d5d9c5397fd4dad7f294c008d3d888d4d704b0882214efad09e1", func := "loop.example/treenumbers/laws.FnCodeNodes", spec := "fnCodeNodes", unfollowed := true, recurses := true, apart := false, narrowed := true }
def FnCodeNodesUptoSaid : Prop := fnCodeNodesUptoRow.holds Try.pinned (OpenSpec.upto fnCodeNodesSpec)

/-- 'laws.FnJoin', WHERE WHAT IT READS IS OF BULK AT MOST 1048576: true; the input reads as it did. -/
def fnJoinUptoRow : OpenClaim := { program := "ythoidonmlfibfab", sum := "d303f6f01aa0d5d9c5397fd4dad7f294c008d3d888d4d704b0882214efad09e1", func := "loop.example/treenumbers/laws.FnJoin", spec := "fnJoin", inPlace := ["internal/abi.NoEscape", "internal/bytealg.MakeNoZero", "internal/bytealg.abigen_runtime_cmpstring"], unfollowed := true, recurses := true, apart := false, narrowed := true }
def FnJoinUptoSaid : Prop := fnJoinUptoRow.holds Try.pinned (OpenSpec.upto fnJoinSpec)

/-- 'laws.FnCodeLess', WHERE WHAT IT READS IS OF BULK AT MOST 1048576: true; the input reads as it did. -/
def fnCodeLessUptoRow : OpenClaim := { program := "ythoidonmlfibfab", sum := "d303f6f01aa0d5d9c5397fd4dad7f294c008d3d888d4d704b0882214efad09e1", func := "loop.example/treenumbers/laws.FnCodeLess", spec := "fnCodeLess", inPlace := ["internal/bytealg.abigen_runtime_cmpstring"], unfollowed := true, recurses := true, apart := false, narrowed := true }
def FnCodeLessUptoSaid : Prop := fnCodeLessUptoRow.holds Try.pinned (OpenSpec.upto fnCodeLessSpec)

end Rows
end Go.Proofs.Ythoidonmlfibfab
