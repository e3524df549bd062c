/-
  No cell of these rows narrows 'for every input' (looked for: loops, veiled, ifaces, maps, wideKeys, modest, calm, conditions, laid).
  DERIVED. THE GIVEN ROWS OF THIS SEAT. 5 by the template 'for every input the law returns true; each argument reads behind the call as it read before'; 0 by the template 'total and deterministic' (their statements: YtjnmogmddhichaaTotals.lean).
  GIVEN WITH THE SEED: the statements are not yours to turn. If you find one false, say at which input.
  Laid BY PROGRAM, IN A SANDBOX (cutbox-rows.mjs): the forced cells as the released guide's own fill.sh prints them over the translation 67ece3b4bb994221… (all of the seat's roots in one cut). By AI agents, Wed Nov 11 2026. No macro, syntax, notation, axiom, sorry.
-/
import Derived.Test.YtjnmogmddhichaaChecked
import GoSem.Claim
import GoSem.ClaimJoined
import GoSem.ClaimMapViews
import Derived.JoinedTies
import Derived.KernelRfl
namespace Go.Proofs.Ytjnmogmddhichaa
/- THE CELL 'sum', in the pinned program and in every row, IS THE sha256 OF THE DUMP (.gsa) THAT YtjnmogmddhichaaProg.lean LOADS. Nothing in Lean hashes anything: it is a label: what it is worth is what the hold of that sum in a sandbox is worth. -/
noncomputable def Try.pinned : Pinned := { name := "ytjnmogmddhichaa", sum := "67ece3b4bb9942212e3b8449ecbb448ee54c8f7d203691b7f1b699b98cad0f3a", checked := Try.checked }
namespace Rows
def none {H : Type} : Left H := { results := [], args := [] }

/-- 'laws.FnFreeMost': WHATEVER THE INPUT: true; the input reads as it did. -/
def fnFreeMostSpec : ChangeSpec := { name := "fnFreeMost", fn := fun _ => fun
  | [d] => { results := [.lit (.bool true)], args := [d] }
  | _ => none }
def fnFreeMostRow : OpenClaim := { program := "ytjnmogmddhichaa", sum := "67ece3b4bb9942212e3b8449ecbb448ee54c8f7d203691b7f1b699b98cad0f3a", func := "loop.example/treenumbers/laws.FnFreeMost", spec := "fnFreeMost", unfollowed := true, recurses := true, apart := false }
def FnFreeMostSaid : Prop := fnFreeMostRow.holds Try.pinned (OpenSpec.ofChange fnFreeMostSpec)

/-- ITS FALSE NEIGHBOUR: 'it returns false'. Refute it at one input. -/
def fnFreeMostWrong : ChangeSpec := { name := "fnFreeMost", fn := fun _ => fun
  | [d] => { results := [.lit (.bool false)], args := [d] }
  | _ => none }
def FnFreeMostWrongFalsely : Prop := fnFreeMostRow.holds Try.pinned (OpenSpec.ofChange fnFreeMostWrong)

/-- 'laws.FnPairFar': WHATEVER THE INPUT: true; the input reads as it did. -/
def fnPairFarSpec : ChangeSpec := { name := "fnPairFar", fn := fun _ => fun
  | [d] => { results := [.lit (.bool true)], args := [d] }
  | _ => none }
def fnPairFarRow : OpenClaim := { program := "ytjnmogmddhichaa", sum := "67ece3b4bb9942212e3b8449ecbb448ee54c8f7d203691b7f1b699b98cad0f3a", func := "loop.example/treenumbers/laws.FnPairFar", spec := "fnPairFar", unfollowed := true, recurses := true, apart := false }
def FnPairFarSaid : Prop := fnPairFarRow.holds Try.pinned (OpenSpec.ofChange fnPairFarSpec)

/-- ITS FALSE NEIGHBOUR: 'it returns false'. Refute it at one input. -/
def fnPairFarWrong : ChangeSpec := { name := "fnPairFar", fn := fun _ => fun
  | [d] => { results := [.lit (.bool false)], args := [d] }
  | _ => none }
def FnPairFarWrongFalsely : Prop := fnPairFarRow.holds Try.pinned (OpenSpec.ofChange fnPairFarWrong)

/-- 'laws.FnExactCutCount': WHATEVER THE INPUT: true; the input reads as it did. -/
def fnExactCutCountSpec : ChangeSpec := { name := "fnExactCutCount", fn := fun _ => fun
  | [d] => { results := [.lit (.bool true)], args := [d] }
  | _ => none }
def fnExactCutCountRow : OpenClaim := { program := "ytjnmogmddhichaa", sum := "67ece3b4bb9942212e3b8449ecbb448ee54c8f7d203691b7f1b699b98cad0f3a", func := "loop.example/treenumbers/laws.FnExactCutCount", spec := "fnExactCutCount", unfollowed := true, recurses := true, apart := false }
def FnExactCutCountSaid : Prop := fnExactCutCountRow.holds Try.pinned (OpenSpec.ofChange fnExactCutCountSpec)

/-- ITS FALSE NEIGHBOUR: 'it returns false'. Refute it at one input. -/
def fnExactCutCountWrong : ChangeSpec := { name := "fnExactCutCount", fn := fun _ => fun
  | [d] => { results := [.lit (.bool false)], args := [d] }
  | _ => none }
def FnExactCutCountWrongFalsely : Prop := fnExactCutCountRow.holds Try.pinned (OpenSpec.ofChange fnExactCutCountWrong)

/-- 'laws.FnExactCutMatch': WHATEVER THE INPUT: true; the input reads as it did. -/
def fnExactCutMatchSpec : ChangeSpec := { name := "fnExactCutMatch", fn := fun _ => fun
  | [d] => { results := [.lit (.bool true)], args := [d] }
  | _ => none }
def fnExactCutMatchRow : OpenClaim := { program := "ytjnmogmddhichaa", sum := "67ece3b4bb9942212e3b8449ecbb448ee54c8f7d203691b7f1b699b98cad0f3a", func := "loop.example/treenumbers/laws.FnExactCutMatch", spec := "fnExactCutMatch", unfollowed := true, recurses := true, apart := false }
def FnExactCutMatchSaid : Prop := fnExactCutMatchRow.holds Try.pinned (OpenSpec.ofChange fnExactCutMatchSpec)

/-- ITS FALSE NEIGHBOUR: 'it returns false'. Refute it at one input. -/
def fnExactCutMatchWrong : ChangeSpec := { name := "fnExactCutMatch", fn := fun _ => fun
  | [d] => { results := [.lit (.bool false)], args := [d] }
  | _ => none }
def FnExactCutMatchWrongFalsely : Prop := fnExactCutMatchRow.holds Try.pinned (OpenSpec.ofChange fnExactCutMatchWrong)

/-- 'laws.FnExactPairFar': WHATEVER THE INPUT: true; the input reads as it did. -/
def fnExactPairFarSpec : ChangeSpec := { name := "fnExactPairFar", fn := fun _ => fun
  | [d1, d2] => { results := [.lit (.bool true)], args := [d1, d2] }
  | _ => none }
def fnExactPairFarRow : OpenClaim := { program := "ytjnmogmddhichaa", sum := "67ece3b4bb9942212e3b8449ecbb448ee54c8f7d203691b7f1b699b98cad0f3a", func := "loop.example/treenumbers/laws.FnExactPairFar", spec := "fnExactPairFar", unfollowed := true, recurses := true, apart := false }
def FnExactPairFarSaid : Prop := fnExactPairFarRow.holds Try.pinned (OpenSpec.ofChange fnExactPairFarSpec)

/-- ITS FALSE NEIGHBOUR: 'it returns false'. Refute it at one input. -/
def fnExactPairFarWrong : ChangeSpec := { name := "fnExactPairFar", fn := fun _ => fun
  | [d1, d2] => { results := [.lit (.bool false)], args := [d1, d2] }
  | _ => none }
def FnExactPairFarWrongFalsely : Prop := fnExactPairFarRow.holds Try.pinned (OpenSpec.ofChange fnExactPairFarWrong)

/- THE SECOND FORM. 'bulk': how many values and letters a reading holds, each counted each time it is reached (what is shared counts as often as it is met; a slice's spare places count too). A statement '..UptoSaid' is the law's where the arguments, and the package variables that the reading takes, are together of bulk at most 1048576: NARROWER than '..Said'. Prove '..Said' where nothing that the law and all that it calls make is longer than what came in: it says more and counts as full. Else prove '..UptoSaid'. A law counts once. -/
mutual
def uptoBulk {H : Type} : DataW H → Nat
  | .lit (.string bytes) => bytes.length + 1
  | .lit _ => 1
  | .nil => 1
  | .ptr d => uptoBulk d + 1
  | .slice elems spare => uptoBulkAll elems + uptoBulkAll spare + 1
  | .agg parts => uptoBulkAll parts + 1
  | .iface _ d => uptoBulk d + 1
  | .map entries => uptoBulkEntries entries + 1
  | .held _ => 1
def uptoBulkAll {H : Type} : List (DataW H) → Nat
  | [] => 0
  | d :: r => uptoBulk d + uptoBulkAll r
def uptoBulkEntries {H : Type} : List (Lit × DataW H) → Nat
  | [] => 0
  | x :: r => uptoBulkEntry x + uptoBulkEntries r
def uptoBulkEntry {H : Type} : Lit × DataW H → Nat
  | (.string bytes, d) => bytes.length + uptoBulk d + 1
  | (_, d) => uptoBulk d + 1
 end
def uptoSmall : (H : Type) → List (DataW H) → Bool := fun _ ds => decide (uptoBulkAll ds ≤ 1048576)
def OpenSpec.upto (s : _root_.Go.ChangeSpec) : _root_.Go.OpenSpec := { _root_.Go.OpenSpec.ofChange s with cond := some uptoSmall }

/-- 'laws.FnFreeMost', WHERE WHAT IT READS IS OF BULK AT MOST 1048576: true; the input reads as it did. -/
def fnFreeMostUptoRow : OpenClaim := { program := "ytjnmogmddhichaa", sum := "67ece3b4bb9942212e3b8449ecbb448ee54c8f7d203691b7f1b699b98cad0f3a", func := "loop.example/treenumbers/laws.FnFreeMost", spec := "fnFreeMost", unfollowed := true, recurses := true, apart := false, narrowed := true }
def FnFreeMostUptoSaid : Prop := fnFreeMostUptoRow.holds Try.pinned (OpenSpec.upto fnFreeMostSpec)

/-- 'laws.FnPairFar', WHERE WHAT IT READS IS OF BULK AT MOST 1048576: true; the input reads as it did. -/
def fnPairFarUptoRow : OpenClaim := { program := "ytjnmogmddhichaa", sum := "67ece3b4bb9942212e3b8449ecbb448ee54c8f7d203691b7f1b699b98cad0f3a", func := "loop.example/treenumbers/laws.FnPairFar", spec := "fnPairFar", unfollowed := true, recurses := true, apart := false, narrowed := true }
def FnPairFarUptoSaid : Prop := fnPairFarUptoRow.holds Try.pinned (OpenSpec.upto fnPairFarSpec)

/-- 'laws.FnExactCutCount', WHERE WHAT IT READS IS OF BULK AT MOST 1048576: true; the input reads as it did. -/
def fnExactCutCountUptoRow : OpenClaim := { program := "ytjnmogmddhichaa", sum := "67ece3b4bb9942212e3b8449ecbb448ee54c8f7d203691b7f1b699b98cad0f3a", func := "loop.example/treenumbers/laws.FnExactCutCount", spec := "fnExactCutCount", unfollowed := true, recurses := true, apart := false, narrowed := true }
def FnExactCutCountUptoSaid : Prop := fnExactCutCountUptoRow.holds Try.pinned (OpenSpec.upto fnExactCutCountSpec)

/-- 'laws.FnExactCutMatch', WHERE WHAT IT READS IS OF BULK AT MOST 1048576: true; the input reads as it did. -/
def fnExactCutMatchUptoRow : OpenClaim := { program := "ytjnmogmddhichaa", sum := "67ece3b4bb9942212e3b8449ecbb448ee54c8f7d203691b7f1b699b98cad0f3a", func := "loop.example/treenumbers/laws.FnExactCutMatch", spec := "fnExactCutMatch", unfollowed := true, recurses := true, apart := false, narrowed := true }
def FnExactCutMatchUptoSaid : Prop := fnExactCutMatchUptoRow.holds Try.pinned (OpenSpec.upto fnExactCutMatchSpec)

/-- 'laws.FnExactPairFar', WHERE WHAT IT READS IS OF BULK AT MOST 1048576: true; the input reads as it did. -/
def fnExactPairFarUptoRow : OpenClaim := { program := "ytjnmogmddhichaa", sum := "67ece3b4bb9942212e3b8449ecbb448ee54c8f7d203691b7f1b699b98cad0f3a", func := "loop.example/treenumbers/laws.FnExactPairFar", spec := "fnExactPairFar", unfollowed := true, recurses := true, apart := false, narrowed := true }
def FnExactPairFarUptoSaid : Prop := fnExactPairFarUptoRow.holds Try.pinned (OpenSpec.upto fnExactPairFarSpec)

end Rows
end Go.Proofs.Ytjnmogmddhichaa
