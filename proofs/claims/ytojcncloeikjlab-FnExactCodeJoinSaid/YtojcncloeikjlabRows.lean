/-
  No cell of these rows narrows 'for every input' (looked for: loops, veiled, ifaces, maps, wideKeys, modest, calm, conditions, laid).
  DERIVED. THE GIVEN ROWS OF THIS SEAT. 7 by the template 'for every input the law returns true; each argument reads behind the call as it read before'; 0 by the template 'total and deterministic' (their statements: YtojcncloeikjlabTotals.lean).
  GIVEN WITH THE SEED: the statements are not yours to turn. If you find one false, say at which input.
  Laid BY PROGRAM, IN A SANDBOX (cutbox-rows.mjs): the forced cells as the released guide's own fill.sh prints them over the translation 6eb12479f54df365… (all of the seat's roots in one cut). By AI agents, Wed Nov 11 2026. No macro, syntax, notation, axiom, sorry.
-/
import Derived.Test.YtojcncloeikjlabChecked
import GoSem.Claim
import GoSem.ClaimJoined
import GoSem.ClaimMapViews
import Derived.JoinedTies
import Derived.KernelRfl
namespace Go.Proofs.Ytojcncloeikjlab
/- THE CELL 'sum', in the pinned program and in every row, IS THE sha256 OF THE DUMP (.gsa) THAT YtojcncloeikjlabProg.lean LOADS. Nothing in Lean hashes anything: it is a label: what it is worth is what the hold of that sum in a sandbox is worth. -/
noncomputable def Try.pinned : Pinned := { name := "ytojcncloeikjlab", sum := "6eb12479f54df36532abc68f077b98a7de6cd1f474aad5fe7aa9769331d3a8bb", checked := Try.checked }
namespace Rows
def none {H : Type} : Left H := { results := [], args := [] }

/-- 'laws.FnExactStreamRegisters': WHATEVER THE INPUT: true; the input reads as it did. -/
def fnExactStreamRegistersSpec : ChangeSpec := { name := "fnExactStreamRegisters", fn := fun _ => fun
  | [d] => { results := [.lit (.bool true)], args := [d] }
  | _ => none }
def fnExactStreamRegistersRow : OpenClaim := { program := "ytojcncloeikjlab", sum := "6eb12479f54df36532abc68f077b98a7de6cd1f474aad5fe7aa9769331d3a8bb", func := "loop.example/treenumbers/laws.FnExactStreamRegisters", spec := "fnExactStreamRegisters", unfollowed := true, recurses := true, apart := false }
def FnExactStreamRegistersSaid : Prop := fnExactStreamRegistersRow.holds Try.pinned (OpenSpec.ofChange fnExactStreamRegistersSpec)

/-- ITS FALSE NEIGHBOUR: 'it returns false'. Refute it at one input. -/
def fnExactStreamRegistersWrong : ChangeSpec := { name := "fnExactStreamRegisters", fn := fun _ => fun
  | [d] => { results := [.lit (.bool false)], args := [d] }
  | _ => none }
def FnExactStreamRegistersWrongFalsely : Prop := fnExactStreamRegistersRow.holds Try.pinned (OpenSpec.ofChange fnExactStreamRegistersWrong)

/-- 'laws.FnExactStreamLengths': WHATEVER THE INPUT: true; the input reads as it did. -/
def fnExactStreamLengthsSpec : ChangeSpec := { name := "fnExactStreamLengths", fn := fun _ => fun
  | [d] => { results := [.lit (.bool true)], args := [d] }
  | _ => none }
def fnExactStreamLengthsRow : OpenClaim := { program := "ytojcncloeikjlab", sum := "6eb12479f54df36532abc68f077b98a7de6cd1f474aad5fe7aa9769331d3a8bb", func := "loop.example/treenumbers/laws.FnExactStreamLengths", spec := "fnExactStreamLengths", unfollowed := true, recurses := true, apart := false }
def FnExactStreamLengthsSaid : Prop := fnExactStreamLengthsRow.holds Try.pinned (OpenSpec.ofChange fnExactStreamLengthsSpec)

/-- ITS FALSE NEIGHBOUR: 'it returns false'. Refute it at one input. -/
def fnExactStreamLengthsWrong : ChangeSpec := { name := "fnExactStreamLengths", fn := fun _ => fun
  | [d] => { results := [.lit (.bool false)], args := [d] }
  | _ => none }
def FnExactStreamLengthsWrongFalsely : Prop := fnExactStreamLengthsRow.holds Try.pinned (OpenSpec.ofChange fnExactStreamLengthsWrong)

/-- 'laws.FnExactStreamLeast': WHATEVER THE INPUT: true; the input reads as it did. -/
def fnExactStreamLeastSpec : ChangeSpec := { name := "fnExactStreamLeast", fn := fun _ => fun
  | [d] => { results := [.lit (.bool true)], args := [d] }
  | _ => none }
def fnExactStreamLeastRow : OpenClaim := { program := "ytojcncloeikjlab", sum := "6eb12479f54df36532abc68f077b98a7de6cd1f474aad5fe7aa9769331d3a8bb", func := "loop.example/treenumbers/laws.FnExactStreamLeast", spec := "fnExactStreamLeast", apart := false }
def FnExactStreamLeastSaid : Prop := fnExactStreamLeastRow.holds Try.pinned (OpenSpec.ofChange fnExactStreamLeastSpec)

/-- ITS FALSE NEIGHBOUR: 'it returns false'. Refute it at one input. -/
def fnExactStreamLeastWrong : ChangeSpec := { name := "fnExactStreamLeast", fn := fun _ => fun
  | [d] => { results := [.lit (.bool false)], args := [d] }
  | _ => none }
def FnExactStreamLeastWrongFalsely : Prop := fnExactStreamLeastRow.holds Try.pinned (OpenSpec.ofChange fnExactStreamLeastWrong)

/-- 'laws.FnExactStreamDeepest': WHATEVER THE INPUT: true; the input reads as it did. -/
def fnExactStreamDeepestSpec : ChangeSpec := { name := "fnExactStreamDeepest", fn := fun _ => fun
  | [d] => { results := [.lit (.bool true)], args := [d] }
  | _ => none }
def fnExactStreamDeepestRow : OpenClaim := { program := "ytojcncloeikjlab", sum := "6eb12479f54df36532abc68f077b98a7de6cd1f474aad5fe7aa9769331d3a8bb", func := "loop.example/treenumbers/laws.FnExactStreamDeepest", spec := "fnExactStreamDeepest", unfollowed := true, recurses := true, apart := false }
def FnExactStreamDeepestSaid : Prop := fnExactStreamDeepestRow.holds Try.pinned (OpenSpec.ofChange fnExactStreamDeepestSpec)

/-- ITS FALSE NEIGHBOUR: 'it returns false'. Refute it at one input. -/
def fnExactStreamDeepestWrong : ChangeSpec := { name := "fnExactStreamDeepest", fn := fun _ => fun
  | [d] => { results := [.lit (.bool false)], args := [d] }
  | _ => none }
def FnExactStreamDeepestWrongFalsely : Prop := fnExactStreamDeepestRow.holds Try.pinned (OpenSpec.ofChange fnExactStreamDeepestWrong)

/-- 'laws.FnExactTreeOf': WHATEVER THE INPUT: true; the input reads as it did. -/
def fnExactTreeOfSpec : ChangeSpec := { name := "fnExactTreeOf", fn := fun _ => fun
  | [d] => { results := [.lit (.bool true)], args := [d] }
  | _ => none }
def fnExactTreeOfRow : OpenClaim := { program := "ytojcncloeikjlab", sum := "6eb12479f54df36532abc68f077b98a7de6cd1f474aad5fe7aa9769331d3a8bb", func := "loop.example/treenumbers/laws.FnExactTreeOf", spec := "fnExactTreeOf", inPlace := ["internal/abi.NoEscape", "internal/bytealg.MakeNoZero"], recurses := true, apart := false }
def FnExactTreeOfSaid : Prop := fnExactTreeOfRow.holds Try.pinned (OpenSpec.ofChange fnExactTreeOfSpec)

/-- ITS FALSE NEIGHBOUR: 'it returns false'. Refute it at one input. -/
def fnExactTreeOfWrong : ChangeSpec := { name := "fnExactTreeOf", fn := fun _ => fun
  | [d] => { results := [.lit (.bool false)], args := [d] }
  | _ => none }
def FnExactTreeOfWrongFalsely : Prop := fnExactTreeOfRow.holds Try.pinned (OpenSpec.ofChange fnExactTreeOfWrong)

/-- 'laws.FnExactLevelsTree': WHATEVER THE INPUT: true; the input reads as it did. -/
def fnExactLevelsTreeSpec : ChangeSpec := { name := "fnExactLevelsTree", fn := fun _ => fun
  | [d] => { results := [.lit (.bool true)], args := [d] }
  | _ => none }
def fnExactLevelsTreeRow : OpenClaim := { program := "ytojcncloeikjlab", sum := "6eb12479f54df36532abc68f077b98a7de6cd1f474aad5fe7aa9769331d3a8bb", func := "loop.example/treenumbers/laws.FnExactLevelsTree", spec := "fnExactLevelsTree", inPlace := ["internal/abi.NoEscape", "internal/bytealg.MakeNoZero"], apart := false }
def FnExactLevelsTreeSaid : Prop := fnExactLevelsTreeRow.holds Try.pinned (OpenSpec.ofChange fnExactLevelsTreeSpec)

/-- ITS FALSE NEIGHBOUR: 'it returns false'. Refute it at one input. -/
def fnExactLevelsTreeWrong : ChangeSpec := { name := "fnExactLevelsTree", fn := fun _ => fun
  | [d] => { results := [.lit (.bool false)], args := [d] }
  | _ => none }
def FnExactLevelsTreeWrongFalsely : Prop := fnExactLevelsTreeRow.holds Try.pinned (OpenSpec.ofChange fnExactLevelsTreeWrong)

/-- 'laws.FnExactCodeJoin': WHATEVER THE INPUT: true; the input reads as it did. -/
def fnExactCodeJoinSpec : ChangeSpec := { name := "fnExactCodeJoin", fn := fun _ => fun
  | [d1, d2] => { results := [.lit (.bool true)], args := [d1, d2] }
  | _ => none }
def fnExactCodeJoinRow : OpenClaim := { program := "ytojcncloeikjlab", sum := "6eb12479f54df36532abc68f077b98a7de6cd1f474aad5fe7aa9769331d3a8bb", func := "loop.example/treenumbers/laws.FnExactCodeJoin", spec := "fnExactCodeJoin", inPlace := ["internal/abi.NoEscape", "internal/bytealg.MakeNoZero", "internal/bytealg.abigen_runtime_cmpstring"], unfollowed := true, recurses := true, apart := false }
def FnExactCodeJoinSaid : Prop := fnExactCodeJoinRow.holds Try.pinned (OpenSpec.ofChange fnExactCodeJoinSpec)

/-- ITS FALSE NEIGHBOUR: 'it returns false'. Refute it at one input. -/
def fnExactCodeJoinWrong : ChangeSpec := { name := "fnExactCodeJoin", fn := fun _ => fun
  | [d1, d2] => { results := [.lit (.bool false)], args := [d1, d2] }
  | _ => none }
def FnExactCodeJoinWrongFalsely : Prop := fnExactCodeJoinRow.holds Try.pinned (OpenSpec.ofChange fnExactCodeJoinWrong)

/- THE SECOND FORM. 'bulk': how many values and letters a reading holds, each counted each time it is reached (what is shared counts as often as it is met; a slice's spare places count too). A statement '..UptoSaid' is the law's where the arguments, and the package variables that the reading takes, are together of bulk at most 1048576: NARROWER than '..Said'. Prove '..Said' where nothing that the law and all that it calls make is longer than what came in: it says more and counts as full. Else prove '..UptoSaid'. A law counts once. -/
mutual
def uptoBulk {H : Type} : DataW H → Nat
  | .lit (.string bytes) => bytes.length + 1
  | .lit _ => 1
  | .nil => 1
  | .ptr d => uptoBulk d + 1
  | .slice elems spare => uptoBulkAll elems + uptoBulkAll spare + 1
  | .agg parts => uptoBulkAll parts + 1
  | .iface _ d => uptoBulk d + 1
  | .map entries => uptoBulkEntries entries + 1
  | .held _ => 1
def uptoBulkAll {H : Type} : List (DataW H) → Nat
  | [] => 0
  | d :: r => uptoBulk d + uptoBulkAll r
def uptoBulkEntries {H : Type} : List (Lit × DataW H) → Nat
  | [] => 0
  | x :: r => uptoBulkEntry x + uptoBulkEntries r
def uptoBulkEntry {H : Type} : Lit × DataW H → Nat
  | (.string bytes, d) => bytes.length + uptoBulk d + 1
  | (_, d) => uptoBulk d + 1
 end
def uptoSmall : (H : Type) → List (DataW H) → Bool := fun _ ds => decide (uptoBulkAll ds ≤ 1048576)
def OpenSpec.upto (s : _root_.Go.ChangeSpec) : _root_.Go.OpenSpec := { _root_.Go.OpenSpec.ofChange s with cond := some uptoSmall }

/-- 'laws.FnExactStreamRegisters', WHERE WHAT IT READS IS OF BULK AT MOST 1048576: true; the input reads as it did. -/
def fnExactStreamRegistersUptoRow : OpenClaim := { program := "ytojcncloeikjlab", sum := "6eb12479f54df36532abc68f077b98a7de6cd1f474aad5fe7aa9769331d3a8bb", func := "loop.example/treenumbers/laws.FnExactStreamRegisters", spec := "fnExactStreamRegisters", unfollowed := true, recurses := true, apart := false, narrowed := true }
def FnExactStreamRegistersUptoSaid : Prop := fnExactStreamRegistersUptoRow.holds Try.pinned (OpenSpec.upto fnExactStreamRegistersSpec)

/-- 'laws.FnExactStreamLengths', WHERE WHAT IT READS IS OF BULK AT MOST 1048576: true; the input reads as it did. -/
def fnExactStreamLengthsUptoRow : OpenClaim := { program := "ytojcncloeikjlab", sum := "6eb12479f54df36532abc68f077b98a7de6cd1f474aad5fe7aa9769331d3a8bb", func := "loop.example/treenumbers/laws.FnExactStreamLengths", spec := "fnExactStreamLengths", unfollowed := true, recurses := true, apart := false, narrowed := true }
def FnExactStreamLengthsUptoSaid : Prop := fnExactStreamLengthsUptoRow.holds Try.pinned (OpenSpec.upto fnExactStreamLengthsSpec)

/-- 'laws.FnExactStreamLeast', WHERE WHAT IT READS IS OF BULK AT MOST 1048576: true; the input reads as it did. -/
def fnExactStreamLeastUptoRow : OpenClaim := { program := "ytojcncloeikjlab", sum := "6eb12479f54df36532abc68f077b98a7de6cd1f474aad5fe7aa9769331d3a8bb", func := "loop.example/treenumbers/laws.FnExactStreamLeast", spec := "fnExactStreamLeast", apart := false, narrowed := true }
def FnExactStreamLeastUptoSaid : Prop := fnExactStreamLeastUptoRow.holds Try.pinned (OpenSpec.upto fnExactStreamLeastSpec)

/-- 'laws.FnExactStreamDeepest', WHERE WHAT IT READS IS OF BULK AT MOST 1048576: true; the input reads as it did. -/
def fnExactStreamDeepestUptoRow : OpenClaim := { program := "ytojcncloeikjlab", sum := "6eb12479f54df36532abc68f077b98a7de6cd1f474aad5fe7aa9769331d3a8bb", func := "loop.example/treenumbers/laws.FnExactStreamDeepest", spec := "fnExactStreamDeepest", unfollowed := true, recurses := true, apart := false, narrowed := true }
def FnExactStreamDeepestUptoSaid : Prop := fnExactStreamDeepestUptoRow.holds Try.pinned (OpenSpec.upto fnExactStreamDeepestSpec)

/-- 'laws.FnExactTreeOf', WHERE WHAT IT READS IS OF BULK AT MOST 1048576: true; the input reads as it did. -/
def fnExactTreeOfUptoRow : OpenClaim := { program := "ytojcncloeikjlab", sum := "6eb12479f54df36532abc68f077b98a7de6cd1f474aad5fe7aa9769331d3a8bb", func := "loop.example/treenumbers/laws.FnExactTreeOf", spec := "fnExactTreeOf", inPlace := ["internal/abi.NoEscape", "internal/bytealg.MakeNoZero"], recurses := true, apart := false, narrowed := true }
def FnExactTreeOfUptoSaid : Prop := fnExactTreeOfUptoRow.holds Try.pinned (OpenSpec.upto fnExactTreeOfSpec)

/-- 'laws.FnExactLevelsTree', WHERE WHAT IT READS IS OF BULK AT MOST 1048576: true; the input reads as it did. -/
def fnExactLevelsTreeUptoRow : OpenClaim := { program := "ytojcncloeikjlab", sum := "6eb12479f54df36532abc68f077b98a7de6cd1f474aad5fe7aa9769331d3a8bb", func := "loop.example/treenumbers/laws.FnExactLevelsTree", spec := "fnExactLevelsTree", inPlace := ["internal/abi.NoEscape", "internal/bytealg.MakeNoZero"], apart := false, narrowed := true }
def FnExactLevelsTreeUptoSaid : Prop := fnExactLevelsTreeUptoRow.holds Try.pinned (OpenSpec.upto fnExactLevelsTreeSpec)

/-- 'laws.FnExactCodeJoin', WHERE WHAT IT READS IS OF BULK AT MOST 1048576: true; the input reads as it did. -/
def fnExactCodeJoinUptoRow : OpenClaim := { program := "ytojcncloeikjlab", sum := "6eb12479f54df36532abc68f077b98a7de6cd1f474aad5fe7aa9769331d3a8bb", func := "loop.example/treenumbers/laws.FnExactCodeJoin", spec := "fnExactCodeJoin", inPlace := ["internal/abi.NoEscape", "internal/bytealg.MakeNoZero", "internal/bytealg.abigen_runtime_cmpstring"], unfollowed := true, recurses := true, apart := false, narrowed := true }
def FnExactCodeJoinUptoSaid : Prop := fnExactCodeJoinUptoRow.holds Try.pinned (OpenSpec.upto fnExactCodeJoinSpec)

end Rows
end Go.Proofs.Ytojcncloeikjlab
