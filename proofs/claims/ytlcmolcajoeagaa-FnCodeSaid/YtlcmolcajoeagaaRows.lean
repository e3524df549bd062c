/-
  No cell of these rows narrows 'for every input' (looked for: loops, veiled, ifaces, maps, wideKeys, modest, calm, conditions, laid).
  DERIVED. THE GIVEN ROWS OF THIS SEAT. 13 by the template 'for every input the law returns true; each argument reads behind the call as it read before'; 0 by the template 'total and deterministic' (their statements: YtlcmolcajoeagaaTotals.lean).
  GIVEN WITH THE SEED: the statements are not yours to turn. If you find one false, say at which input.
  Laid BY PROGRAM, IN A SANDBOX (cutbox-rows.mjs): the forced cells as the released guide's own fill.sh prints them over the translation f273b7e708d983c7… (all of the seat's roots in one cut). By AI agents, Wed Nov 11 2026. No macro, syntax, notation, axiom, sorry.
-/
import Derived.Test.YtlcmolcajoeagaaChecked
import GoSem.Claim
import GoSem.ClaimJoined
import GoSem.ClaimMapViews
import Derived.JoinedTies
import Derived.KernelRfl
namespace Go.Proofs.Ytlcmolcajoeagaa
/- THE CELL 'sum', in the pinned program and in every row, IS THE sha256 OF THE DUMP (.gsa) THAT YtlcmolcajoeagaaProg.lean LOADS. Nothing in Lean hashes anything: it is a label: what it is worth is what the hold of that sum in a sandbox is worth. -/
noncomputable def Try.pinned : Pinned := { name := "ytlcmolcajoeagaa", sum := "f273b7e708d983c7aafd956b33e26e26f77da946282b8201a4946fe455b46fab", checked := Try.checked }
namespace Rows
def none {H : Type} : Left H := { results := [], args := [] }

/-- 'laws.FnCode': WHATEVER THE INPUT: true; the input reads as it did. -/
def fnCodeSpec : ChangeSpec := { name := "fnCode", fn := fun _ => fun
  | [d] => { results := [.lit (.bool true)], args := [d] }
  | _ => none }
def fnCodeRow : OpenClaim := { program := "ytlcmolcajoeagaa", sum := "f273b7e708d983c7aafd956b33e26e26f77da946282b8201a4946fe455b46fab", func := "loop.example/treenumbers/laws.FnCode", spec := "fnCode", inPlace := ["internal/bytealg.abigen_runtime_cmpstring"], unfollowed := true, recurses := true, apart := false }
def FnCodeSaid : Prop := fnCodeRow.holds Try.pinned (OpenSpec.ofChange fnCodeSpec)

/-- ITS FALSE NEIGHBOUR: 'it returns false'. Refute it at one input. -/
def fnCodeWrong : ChangeSpec := { name := "fnCode", fn := fun _ => fun
  | [d] => { results := [.lit (.bool false)], args := [d] }
  | _ => none }
def FnCodeWrongFalsely : Prop := fnCodeRow.holds Try.pinned (OpenSpec.ofChange fnCodeWrong)

/-- 'laws.FnPrime': WHATEVER THE INPUT: true; the input reads as it did. -/
def fnPrimeSpec : ChangeSpec := { name := "fnPrime", fn := fun _ => fun
  | [d] => { results := [.lit (.bool true)], args := [d] }
  | _ => none }
def fnPrimeRow : OpenClaim := { program := "ytlcmolcajoeagaa", sum := "f273b7e708d983c7aafd956b33e26e26f77da946282b8201a4946fe455b46fab", func := "loop.example/treenumbers/laws.FnPrime", spec := "fnPrime", unfollowed := true, recurses := true, apart := false }
def FnPrimeSaid : Prop := fnPrimeRow.holds Try.pinned (OpenSpec.ofChange fnPrimeSpec)

/-- ITS FALSE NEIGHBOUR: 'it returns false'. Refute it at one input. -/
def fnPrimeWrong : ChangeSpec := { name := "fnPrime", fn := fun _ => fun
  | [d] => { results := [.lit (.bool false)], args := [d] }
  | _ => none }
def FnPrimeWrongFalsely : Prop := fnPrimeRow.holds Try.pinned (OpenSpec.ofChange fnPrimeWrong)

/-- 'laws.FnPlace': WHATEVER THE INPUT: true; the input reads as it did. -/
def fnPlaceSpec : ChangeSpec := { name := "fnPlace", fn := fun _ => fun
  | [d] => { results := [.lit (.bool true)], args := [d] }
  | _ => none }
def fnPlaceRow : OpenClaim := { program := "ytlcmolcajoeagaa", sum := "f273b7e708d983c7aafd956b33e26e26f77da946282b8201a4946fe455b46fab", func := "loop.example/treenumbers/laws.FnPlace", spec := "fnPlace", unfollowed := true, recurses := true, apart := false }
def FnPlaceSaid : Prop := fnPlaceRow.holds Try.pinned (OpenSpec.ofChange fnPlaceSpec)

/-- ITS FALSE NEIGHBOUR: 'it returns false'. Refute it at one input. -/
def fnPlaceWrong : ChangeSpec := { name := "fnPlace", fn := fun _ => fun
  | [d] => { results := [.lit (.bool false)], args := [d] }
  | _ => none }
def FnPlaceWrongFalsely : Prop := fnPlaceRow.holds Try.pinned (OpenSpec.ofChange fnPlaceWrong)

/-- 'laws.FnPlant': WHATEVER THE INPUT: true; the input reads as it did. -/
def fnPlantSpec : ChangeSpec := { name := "fnPlant", fn := fun _ => fun
  | [d] => { results := [.lit (.bool true)], args := [d] }
  | _ => none }
def fnPlantRow : OpenClaim := { program := "ytlcmolcajoeagaa", sum := "f273b7e708d983c7aafd956b33e26e26f77da946282b8201a4946fe455b46fab", func := "loop.example/treenumbers/laws.FnPlant", spec := "fnPlant", inPlace := ["internal/abi.NoEscape", "internal/bytealg.MakeNoZero"], unfollowed := true, recurses := true, apart := false }
def FnPlantSaid : Prop := fnPlantRow.holds Try.pinned (OpenSpec.ofChange fnPlantSpec)

/-- ITS FALSE NEIGHBOUR: 'it returns false'. Refute it at one input. -/
def fnPlantWrong : ChangeSpec := { name := "fnPlant", fn := fun _ => fun
  | [d] => { results := [.lit (.bool false)], args := [d] }
  | _ => none }
def FnPlantWrongFalsely : Prop := fnPlantRow.holds Try.pinned (OpenSpec.ofChange fnPlantWrong)

/-- 'laws.FnJoin': WHATEVER THE INPUT: true; the input reads as it did. -/
def fnJoinSpec : ChangeSpec := { name := "fnJoin", fn := fun _ => fun
  | [d] => { results := [.lit (.bool true)], args := [d] }
  | _ => none }
def fnJoinRow : OpenClaim := { program := "ytlcmolcajoeagaa", sum := "f273b7e708d983c7aafd956b33e26e26f77da946282b8201a4946fe455b46fab", func := "loop.example/treenumbers/laws.FnJoin", spec := "fnJoin", inPlace := ["internal/abi.NoEscape", "internal/bytealg.MakeNoZero", "internal/bytealg.abigen_runtime_cmpstring"], unfollowed := true, recurses := true, apart := false }
def FnJoinSaid : Prop := fnJoinRow.holds Try.pinned (OpenSpec.ofChange fnJoinSpec)

/-- ITS FALSE NEIGHBOUR: 'it returns false'. Refute it at one input. -/
def fnJoinWrong : ChangeSpec := { name := "fnJoin", fn := fun _ => fun
  | [d] => { results := [.lit (.bool false)], args := [d] }
  | _ => none }
def FnJoinWrongFalsely : Prop := fnJoinRow.holds Try.pinned (OpenSpec.ofChange fnJoinWrong)

/-- 'laws.FnCodeLess': WHATEVER THE INPUT: true; the input reads as it did. -/
def fnCodeLessSpec : ChangeSpec := { name := "fnCodeLess", fn := fun _ => fun
  | [d] => { results := [.lit (.bool true)], args := [d] }
  | _ => none }
def fnCodeLessRow : OpenClaim := { program := "ytlcmolcajoeagaa", sum := "f273b7e708d983c7aafd956b33e26e26f77da946282b8201a4946fe455b46fab", func := "loop.example/treenumbers/laws.FnCodeLess", spec := "fnCodeLess", inPlace := ["internal/bytealg.abigen_runtime_cmpstring"], unfollowed := true, recurses := true, apart := false }
def FnCodeLessSaid : Prop := fnCodeLessRow.holds Try.pinned (OpenSpec.ofChange fnCodeLessSpec)

/-- ITS FALSE NEIGHBOUR: 'it returns false'. Refute it at one input. -/
def fnCodeLessWrong : ChangeSpec := { name := "fnCodeLess", fn := fun _ => fun
  | [d] => { results := [.lit (.bool false)], args := [d] }
  | _ => none }
def FnCodeLessWrongFalsely : Prop := fnCodeLessRow.holds Try.pinned (OpenSpec.ofChange fnCodeLessWrong)

/-- 'laws.FnPair': WHATEVER THE INPUT: true; the input reads as it did. -/
def fnPairSpec : ChangeSpec := { name := "fnPair", fn := fun _ => fun
  | [d] => { results := [.lit (.bool true)], args := [d] }
  | _ => none }
def fnPairRow : OpenClaim := { program := "ytlcmolcajoeagaa", sum := "f273b7e708d983c7aafd956b33e26e26f77da946282b8201a4946fe455b46fab", func := "loop.example/treenumbers/laws.FnPair", spec := "fnPair", recurses := true, apart := false }
def FnPairSaid : Prop := fnPairRow.holds Try.pinned (OpenSpec.ofChange fnPairSpec)

/-- ITS FALSE NEIGHBOUR: 'it returns false'. Refute it at one input. -/
def fnPairWrong : ChangeSpec := { name := "fnPair", fn := fun _ => fun
  | [d] => { results := [.lit (.bool false)], args := [d] }
  | _ => none }
def FnPairWrongFalsely : Prop := fnPairRow.holds Try.pinned (OpenSpec.ofChange fnPairWrong)

/-- 'laws.FnPairOf': WHATEVER THE INPUT: true; the input reads as it did. -/
def fnPairOfSpec : ChangeSpec := { name := "fnPairOf", fn := fun _ => fun
  | [d] => { results := [.lit (.bool true)], args := [d] }
  | _ => none }
def fnPairOfRow : OpenClaim := { program := "ytlcmolcajoeagaa", sum := "f273b7e708d983c7aafd956b33e26e26f77da946282b8201a4946fe455b46fab", func := "loop.example/treenumbers/laws.FnPairOf", spec := "fnPairOf", unfollowed := true, recurses := true, apart := false }
def FnPairOfSaid : Prop := fnPairOfRow.holds Try.pinned (OpenSpec.ofChange fnPairOfSpec)

/-- ITS FALSE NEIGHBOUR: 'it returns false'. Refute it at one input. -/
def fnPairOfWrong : ChangeSpec := { name := "fnPairOf", fn := fun _ => fun
  | [d] => { results := [.lit (.bool false)], args := [d] }
  | _ => none }
def FnPairOfWrongFalsely : Prop := fnPairOfRow.holds Try.pinned (OpenSpec.ofChange fnPairOfWrong)

/-- 'laws.FnPairBack': WHATEVER THE INPUT: true; the input reads as it did. -/
def fnPairBackSpec : ChangeSpec := { name := "fnPairBack", fn := fun _ => fun
  | [d] => { results := [.lit (.bool true)], args := [d] }
  | _ => none }
def fnPairBackRow : OpenClaim := { program := "ytlcmolcajoeagaa", sum := "f273b7e708d983c7aafd956b33e26e26f77da946282b8201a4946fe455b46fab", func := "loop.example/treenumbers/laws.FnPairBack", spec := "fnPairBack", unfollowed := true, recurses := true, apart := false }
def FnPairBackSaid : Prop := fnPairBackRow.holds Try.pinned (OpenSpec.ofChange fnPairBackSpec)

/-- ITS FALSE NEIGHBOUR: 'it returns false'. Refute it at one input. -/
def fnPairBackWrong : ChangeSpec := { name := "fnPairBack", fn := fun _ => fun
  | [d] => { results := [.lit (.bool false)], args := [d] }
  | _ => none }
def FnPairBackWrongFalsely : Prop := fnPairBackRow.holds Try.pinned (OpenSpec.ofChange fnPairBackWrong)

/-- 'laws.FnTurn': WHATEVER THE INPUT: true; the input reads as it did. -/
def fnTurnSpec : ChangeSpec := { name := "fnTurn", fn := fun _ => fun
  | [d] => { results := [.lit (.bool true)], args := [d] }
  | _ => none }
def fnTurnRow : OpenClaim := { program := "ytlcmolcajoeagaa", sum := "f273b7e708d983c7aafd956b33e26e26f77da946282b8201a4946fe455b46fab", func := "loop.example/treenumbers/laws.FnTurn", spec := "fnTurn", unfollowed := true, recurses := true, apart := false }
def FnTurnSaid : Prop := fnTurnRow.holds Try.pinned (OpenSpec.ofChange fnTurnSpec)

/-- ITS FALSE NEIGHBOUR: 'it returns false'. Refute it at one input. -/
def fnTurnWrong : ChangeSpec := { name := "fnTurn", fn := fun _ => fun
  | [d] => { results := [.lit (.bool false)], args := [d] }
  | _ => none }
def FnTurnWrongFalsely : Prop := fnTurnRow.holds Try.pinned (OpenSpec.ofChange fnTurnWrong)

/-- 'laws.FnTurns': WHATEVER THE INPUT: true; the input reads as it did. -/
def fnTurnsSpec : ChangeSpec := { name := "fnTurns", fn := fun _ => fun
  | [d] => { results := [.lit (.bool true)], args := [d] }
  | _ => none }
def fnTurnsRow : OpenClaim := { program := "ytlcmolcajoeagaa", sum := "f273b7e708d983c7aafd956b33e26e26f77da946282b8201a4946fe455b46fab", func := "loop.example/treenumbers/laws.FnTurns", spec := "fnTurns", unfollowed := true, recurses := true, apart := false }
def FnTurnsSaid : Prop := fnTurnsRow.holds Try.pinned (OpenSpec.ofChange fnTurnsSpec)

/-- ITS FALSE NEIGHBOUR: 'it returns false'. Refute it at one input. -/
def fnTurnsWrong : ChangeSpec := { name := "fnTurns", fn := fun _ => fun
  | [d] => { results := [.lit (.bool false)], args := [d] }
  | _ => none }
def FnTurnsWrongFalsely : Prop := fnTurnsRow.holds Try.pinned (OpenSpec.ofChange fnTurnsWrong)

/-- 'laws.FnUneven': WHATEVER THE INPUT: true; the input reads as it did. -/
def fnUnevenSpec : ChangeSpec := { name := "fnUneven", fn := fun _ => fun
  | [d] => { results := [.lit (.bool true)], args := [d] }
  | _ => none }
def fnUnevenRow : OpenClaim := { program := "ytlcmolcajoeagaa", sum := "f273b7e708d983c7aafd956b33e26e26f77da946282b8201a4946fe455b46fab", func := "loop.example/treenumbers/laws.FnUneven", spec := "fnUneven", unfollowed := true, recurses := true, apart := false }
def FnUnevenSaid : Prop := fnUnevenRow.holds Try.pinned (OpenSpec.ofChange fnUnevenSpec)

/-- ITS FALSE NEIGHBOUR: 'it returns false'. Refute it at one input. -/
def fnUnevenWrong : ChangeSpec := { name := "fnUneven", fn := fun _ => fun
  | [d] => { results := [.lit (.bool false)], args := [d] }
  | _ => none }
def FnUnevenWrongFalsely : Prop := fnUnevenRow.holds Try.pinned (OpenSpec.ofChange fnUnevenWrong)

/-- 'laws.FnDeep': WHATEVER THE INPUT: true; the input reads as it did. -/
def fnDeepSpec : ChangeSpec := { name := "fnDeep", fn := fun _ => fun
  | [d] => { results := [.lit (.bool true)], args := [d] }
  | _ => none }
def fnDeepRow : OpenClaim := { program := "ytlcmolcajoeagaa", sum := "f273b7e708d983c7aafd956b33e26e26f77da946282b8201a4946fe455b46fab", func := "loop.example/treenumbers/laws.FnDeep", spec := "fnDeep", unfollowed := true, recurses := true, apart := false }
def FnDeepSaid : Prop := fnDeepRow.holds Try.pinned (OpenSpec.ofChange fnDeepSpec)

/-- ITS FALSE NEIGHBOUR: 'it returns false'. Refute it at one input. -/
def fnDeepWrong : ChangeSpec := { name := "fnDeep", fn := fun _ => fun
  | [d] => { results := [.lit (.bool false)], args := [d] }
  | _ => none }
def FnDeepWrongFalsely : Prop := fnDeepRow.holds Try.pinned (OpenSpec.ofChange fnDeepWrong)

/- THE SECOND FORM. 'bulk': how many values and letters a reading holds, each counted each time it is reached (what is shared counts as often as it is met; a slice's spare places count too). A statement '..UptoSaid' is the law's where the arguments, and the package variables that the reading takes, are together of bulk at most 1048576: NARROWER than '..Said'. Prove '..Said' where nothing that the law and all that it calls make is longer than what came in: it says more and counts as full. Else prove '..UptoSaid'. A law counts once. -/
mutual
def uptoBulk {H : Type} : DataW H → Nat
  | .lit (.string bytes) => bytes.length + 1
  | .lit _ => 1
  | .nil => 1
  | .ptr d => uptoBulk d + 1
  | .slice elems spare => uptoBulkAll elems + uptoBulkAll spare + 1
  | .agg parts => uptoBulkAll parts + 1
  | .iface _ d => uptoBulk d + 1
  | .map entries => uptoBulkEntries entries + 1
  | .held _ => 1
def uptoBulkAll {H : Type} : List (DataW H) → Nat
  | [] => 0
  | d :: r => uptoBulk d + uptoBulkAll r
def uptoBulkEntries {H : Type} : List (Lit × DataW H) → Nat
  | [] => 0
  | x :: r => uptoBulkEntry x + uptoBulkEntries r
def uptoBulkEntry {H : Type} : Lit × DataW H → Nat
  | (.string bytes, d) => bytes.length + uptoBulk d + 1
  | (_, d) => uptoBulk d + 1
 end
def uptoSmall : (H : Type) → List (DataW H) → Bool := fun _ ds => decide (uptoBulkAll ds ≤ 1048576)
def OpenSpec.upto (s : _root_.Go.ChangeSpec) : _root_.Go.OpenSpec := { _root_.Go.OpenSpec.ofChange s with cond := some uptoSmall }

/-- 'laws.FnCode', WHERE WHAT IT READS IS OF BULK AT MOST 1048576: true; the input reads as it did. -/
def fnCodeUptoRow : OpenClaim := { program := "ytlcmolcajoeagaa", sum := "f273b7e708d983c7aafd956b33e26e26f77da946282b8201a4946fe455b46fab", func := "loop.example/treenumbers/laws.FnCode", spec := "fnCode", inPlace := ["internal/bytealg.abigen_runtime_cmpstring"], unfollowed := true, recurses := true, apart := false, narrowed := true }
def FnCodeUptoSaid : Prop := fnCodeUptoRow.holds Try.pinned (OpenSpec.upto fnCodeSpec)

/-- 'laws.FnPrime', WHERE WHAT IT READS IS OF BULK AT MOST 1048576: true; the input reads as it did. -/
def fnPrimeUptoRow : OpenClaim := { program := "ytlcmolcajoeagaa", sum := "f273b7e708d983c7aafd956b33e26e26f77da946282b8201a4946fe455b46fab", func := "loop.example/treenumbers/laws.FnPrime", spec := "fnPrime", unfollowed := true, recurses := true, apart := false, narrowed := true }
def FnPrimeUptoSaid : Prop := fnPrimeUptoRow.holds Try.pinned (OpenSpec.upto fnPrimeSpec)

/-- 'laws.FnPlace', WHERE WHAT IT READS IS OF BULK AT MOST 1048576: true; the input reads as it did. -/
def fnPlaceUptoRow : OpenClaim := { program := "ytlcmolcajoeagaa", sum := "f273b7e708d983c7aafd956b33e26e26f77da946282b8201a4946fe455b46fab", func := "loop.example/treenumbers/laws.FnPlace", spec := "fnPlace", unfollowed := true, recurses := true, apart := false, narrowed := true }
def FnPlaceUptoSaid : Prop := fnPlaceUptoRow.holds Try.pinned (OpenSpec.upto fnPlaceSpec)

/-- 'laws.FnPlant', WHERE WHAT IT READS IS OF BULK AT MOST 1048576: true; the input reads as it did. -/
def fnPlantUptoRow : OpenClaim := { program := "ytlcmolcajoeagaa", sum := "f273b7e708d983c7aafd956b33e26e26f77da946282b8201a4946fe455b46fab", func := "loop.example/treenumbers/laws.FnPlant", spec := "fnPlant", inPlace := ["internal/abi.NoEscape", "internal/bytealg.MakeNoZero"], unfollowed := true, recurses := true, apart := false, narrowed := true }
def FnPlantUptoSaid : Prop := fnPlantUptoRow.holds Try.pinned (OpenSpec.upto fnPlantSpec)

/-- 'laws.FnJoin', WHERE WHAT IT READS IS OF BULK AT MOST 1048576: true; the input reads as it did. -/
def fnJoinUptoRow : OpenClaim := { program := "ytlcmolcajoeagaa", sum := "f273b7e708d983c7aafd956b33e26e26f77da946282b8201a4946fe455b46fab", func := "loop.example/treenumbers/laws.FnJoin", spec := "fnJoin", inPlace := ["internal/abi.NoEscape", "internal/bytealg.MakeNoZero", "internal/bytealg.abigen_runtime_cmpstring"], unfollowed := true, recurses := true, apart := false, narrowed := true }
def FnJoinUptoSaid : Prop := fnJoinUptoRow.holds Try.pinned (OpenSpec.upto fnJoinSpec)

/-- 'laws.FnCodeLess', WHERE WHAT IT READS IS OF BULK AT MOST 1048576: true; the input reads as it did. -/
def fnCodeLessUptoRow : OpenClaim := { program := "ytlcmolcajoeagaa", sum := "f273b7e708d983c7aafd956b33e26e26f77da946282b8201a4946fe455b46fab", func := "loop.example/treenumbers/laws.FnCodeLess", spec := "fnCodeLess", inPlace := ["internal/bytealg.abigen_runtime_cmpstring"], unfollowed := true, recurses := true, apart := false, narrowed := true }
def FnCodeLessUptoSaid : Prop := fnCodeLessUptoRow.holds Try.pinned (OpenSpec.upto fnCodeLessSpec)

/-- 'laws.FnPair', WHERE WHAT IT READS IS OF BULK AT MOST 1048576: true; the input reads as it did. -/
def fnPairUptoRow : OpenClaim := { program := "ytlcmolcajoeagaa", sum := "f273b7e708d983c7aafd956b33e26e26f77da946282b8201a4946fe455b46fab", func := "loop.example/treenumbers/laws.FnPair", spec := "fnPair", recurses := true, apart := false, narrowed := true }
def FnPairUptoSaid : Prop := fnPairUptoRow.holds Try.pinned (OpenSpec.upto fnPairSpec)

/-- 'laws.FnPairOf', WHERE WHAT IT READS IS OF BULK AT MOST 1048576: true; the input reads as it did. -/
def fnPairOfUptoRow : OpenClaim := { program := "ytlcmolcajoeagaa", sum := "f273b7e708d983c7aafd956b33e26e26f77da946282b8201a4946fe455b46fab", func := "loop.example/treenumbers/laws.FnPairOf", spec := "fnPairOf", unfollowed := true, recurses := true, apart := false, narrowed := true }
def FnPairOfUptoSaid : Prop := fnPairOfUptoRow.holds Try.pinned (OpenSpec.upto fnPairOfSpec)

/-- 'laws.FnPairBack', WHERE WHAT IT READS IS OF BULK AT MOST 1048576: true; the input reads as it did. -/
def fnPairBackUptoRow : OpenClaim := { program := "ytlcmolcajoeagaa", sum := "f273b7e708d983c7aafd956b33e26e26f77da946282b8201a4946fe455b46fab", func := "loop.example/treenumbers/laws.FnPairBack", spec := "fnPairBack", unfollowed := true, recurses := true, apart := false, narrowed := true }
def FnPairBackUptoSaid : Prop := fnPairBackUptoRow.holds Try.pinned (OpenSpec.upto fnPairBackSpec)

/-- 'laws.FnTurn', WHERE WHAT IT READS IS OF BULK AT MOST 1048576: true; the input reads as it did. -/
def fnTurnUptoRow : OpenClaim := { program := "ytlcmolcajoeagaa", sum := "f273b7e708d983c7aafd956b33e26e26f77da946282b8201a4946fe455b46fab", func := "loop.example/treenumbers/laws.FnTurn", spec := "fnTurn", unfollowed := true, recurses := true, apart := false, narrowed := true }
def FnTurnUptoSaid : Prop := fnTurnUptoRow.holds Try.pinned (OpenSpec.upto fnTurnSpec)

/-- 'laws.FnTurns', WHERE WHAT IT READS IS OF BULK AT MOST 1048576: true; the input reads as it did. -/
def fnTurnsUptoRow : OpenClaim := { program := "ytlcmolcajoeagaa", sum := "f273b7e708d983c7aafd956b33e26e26f77da946282b8201a4946fe455b46fab", func := "loop.example/treenumbers/laws.FnTurns", spec := "fnTurns", unfollowed := true, recurses := true, apart := false, narrowed := true }
def FnTurnsUptoSaid : Prop := fnTurnsUptoRow.holds Try.pinned (OpenSpec.upto fnTurnsSpec)

/-- 'laws.FnUneven', WHERE WHAT IT READS IS OF BULK AT MOST 1048576: true; the input reads as it did. -/
def fnUnevenUptoRow : OpenClaim := { program := "ytlcmolcajoeagaa", sum := "f273b7e708d983c7aafd956b33e26e26f77da946282b8201a4946fe455b46fab", func := "loop.example/treenumbers/laws.FnUneven", spec := "fnUneven", unfollowed := true, recurses := true, apart := false, narrowed := true }
def FnUnevenUptoSaid : Prop := fnUnevenUptoRow.holds Try.pinned (OpenSpec.upto fnUnevenSpec)

/-- 'laws.FnDeep', WHERE WHAT IT READS IS OF BULK AT MOST 1048576: true; the input reads as it did. -/
def fnDeepUptoRow : OpenClaim := { program := "ytlcmolcajoeagaa", sum := "f273b7e708d983c7aafd956b33e26e26f77da946282b8201a4946fe455b46fab", func := "loop.example/treenumbers/laws.FnDeep", spec := "fnDeep", unfollowed := true, recurses := true, apart := false, narrowed := true }
def FnDeepUptoSaid : Prop := fnDeepUptoRow.holds Try.pinned (OpenSpec.upto fnDeepSpec)

end Rows
end Go.Proofs.Ytlcmolcajoeagaa
