/-
  No cell of these rows narrows 'for every input' (looked for: loops, veiled, ifaces, maps, wideKeys, modest, calm, conditions, laid).
  DERIVED. THE GIVEN ROWS OF THIS SEAT. 12 by the template 'for every input the law returns true; each argument reads behind the call as it read before'; 0 by the template 'total and deterministic' (their statements: YtecighkgpjdhaaaTotals.lean).
  GIVEN WITH THE SEED: the statements are not yours to turn. If you find one false, say at which input.
  Laid BY PROGRAM, IN A SANDBOX (cutbox-rows.mjs): the forced cells as the released guide's own fill.sh prints them over the translation a0f9339f3b650dd5… (all of the seat's roots in one cut). By AI agents, Wed Nov 11 2026. No macro, syntax, notation, axiom, sorry.
-/
import Derived.Test.YtecighkgpjdhaaaChecked
import GoSem.Claim
import GoSem.ClaimJoined
import GoSem.ClaimMapViews
import Derived.JoinedTies
import Derived.KernelRfl
namespace Go.Proofs.Ytecighkgpjdhaaa
/- THE CELL 'sum', in the pinned program and in every row, IS THE sha256 OF THE DUMP (.gsa) THAT YtecighkgpjdhaaaProg.lean LOADS. Nothing in Lean hashes anything: it is a label: what it is worth is what the hold of that sum in a sandbox is worth. -/
noncomputable def Try.pinned : Pinned := { name := "ytecighkgpjdhaaa", sum := "a0f9339f3b650dd5afadcbfaf7991173766c6799d77e23064457a21dbb55f782", checked := Try.checked }
namespace Rows
def none {H : Type} : Left H := { results := [], args := [] }

/-- 'laws.FnPair': WHATEVER THE INPUT: true; the input reads as it did. -/
def fnPairSpec : ChangeSpec := { name := "fnPair", fn := fun _ => fun
  | [d] => { results := [.lit (.bool true)], args := [d] }
  | _ => none }
def fnPairRow : OpenClaim := { program := "ytecighkgpjdhaaa", sum := "a0f9339f3b650dd5afadcbfaf7991173766c6799d77e23064457a21dbb55f782", func := "loop.example/treenumbers/laws.FnPair", spec := "fnPair", recurses := true, apart := false }
def FnPairSaid : Prop := fnPairRow.holds Try.pinned (OpenSpec.ofChange fnPairSpec)

/-- ITS FALSE NEIGHBOUR: 'it returns false'. Refute it at one input. -/
def fnPairWrong : ChangeSpec := { name := "fnPair", fn := fun _ => fun
  | [d] => { results := [.lit (.bool false)], args := [d] }
  | _ => none }
def FnPairWrongFalsely : Prop := fnPairRow.holds Try.pinned (OpenSpec.ofChange fnPairWrong)

/-- 'laws.FnPairOf': WHATEVER THE INPUT: true; the input reads as it did. -/
def fnPairOfSpec : ChangeSpec := { name := "fnPairOf", fn := fun _ => fun
  | [d] => { results := [.lit (.bool true)], args := [d] }
  | _ => none }
def fnPairOfRow : OpenClaim := { program := "ytecighkgpjdhaaa", sum := "a0f9339f3b650dd5afadcbfaf7991173766c6799d77e23064457a21dbb55f782", func := "loop.example/treenumbers/laws.FnPairOf", spec := "fnPairOf", unfollowed := true, recurses := true, apart := false }
def FnPairOfSaid : Prop := fnPairOfRow.holds Try.pinned (OpenSpec.ofChange fnPairOfSpec)

/-- ITS FALSE NEIGHBOUR: 'it returns false'. Refute it at one input. -/
def fnPairOfWrong : ChangeSpec := { name := "fnPairOf", fn := fun _ => fun
  | [d] => { results := [.lit (.bool false)], args := [d] }
  | _ => none }
def FnPairOfWrongFalsely : Prop := fnPairOfRow.holds Try.pinned (OpenSpec.ofChange fnPairOfWrong)

/-- 'laws.FnPairBack': WHATEVER THE INPUT: true; the input reads as it did. -/
def fnPairBackSpec : ChangeSpec := { name := "fnPairBack", fn := fun _ => fun
  | [d] => { results := [.lit (.bool true)], args := [d] }
  | _ => none }
def fnPairBackRow : OpenClaim := { program := "ytecighkgpjdhaaa", sum := "a0f9339f3b650dd5afadcbfaf7991173766c6799d77e23064457a21dbb55f782", func := "loop.example/treenumbers/laws.FnPairBack", spec := "fnPairBack", unfollowed := true, recurses := true, apart := false }
def FnPairBackSaid : Prop := fnPairBackRow.holds Try.pinned (OpenSpec.ofChange fnPairBackSpec)

/-- ITS FALSE NEIGHBOUR: 'it returns false'. Refute it at one input. -/
def fnPairBackWrong : ChangeSpec := { name := "fnPairBack", fn := fun _ => fun
  | [d] => { results := [.lit (.bool false)], args := [d] }
  | _ => none }
def FnPairBackWrongFalsely : Prop := fnPairBackRow.holds Try.pinned (OpenSpec.ofChange fnPairBackWrong)

/-- 'laws.FnTurn': WHATEVER THE INPUT: true; the input reads as it did. -/
def fnTurnSpec : ChangeSpec := { name := "fnTurn", fn := fun _ => fun
  | [d] => { results := [.lit (.bool true)], args := [d] }
  | _ => none }
def fnTurnRow : OpenClaim := { program := "ytecighkgpjdhaaa", sum := "a0f9339f3b650dd5afadcbfaf7991173766c6799d77e23064457a21dbb55f782", func := "loop.example/treenumbers/laws.FnTurn", spec := "fnTurn", unfollowed := true, recurses := true, apart := false }
def FnTurnSaid : Prop := fnTurnRow.holds Try.pinned (OpenSpec.ofChange fnTurnSpec)

/-- ITS FALSE NEIGHBOUR: 'it returns false'. Refute it at one input. -/
def fnTurnWrong : ChangeSpec := { name := "fnTurn", fn := fun _ => fun
  | [d] => { results := [.lit (.bool false)], args := [d] }
  | _ => none }
def FnTurnWrongFalsely : Prop := fnTurnRow.holds Try.pinned (OpenSpec.ofChange fnTurnWrong)

/-- 'laws.FnTurns': WHATEVER THE INPUT: true; the input reads as it did. -/
def fnTurnsSpec : ChangeSpec := { name := "fnTurns", fn := fun _ => fun
  | [d] => { results := [.lit (.bool true)], args := [d] }
  | _ => none }
def fnTurnsRow : OpenClaim := { program := "ytecighkgpjdhaaa", sum := "a0f9339f3b650dd5afadcbfaf7991173766c6799d77e23064457a21dbb55f782", func := "loop.example/treenumbers/laws.FnTurns", spec := "fnTurns", unfollowed := true, recurses := true, apart := false }
def FnTurnsSaid : Prop := fnTurnsRow.holds Try.pinned (OpenSpec.ofChange fnTurnsSpec)

/-- ITS FALSE NEIGHBOUR: 'it returns false'. Refute it at one input. -/
def fnTurnsWrong : ChangeSpec := { name := "fnTurns", fn := fun _ => fun
  | [d] => { results := [.lit (.bool false)], args := [d] }
  | _ => none }
def FnTurnsWrongFalsely : Prop := fnTurnsRow.holds Try.pinned (OpenSpec.ofChange fnTurnsWrong)

/-- 'laws.FnPairBelow': WHATEVER THE INPUT: true; the input reads as it did. -/
def fnPairBelowSpec : ChangeSpec := { name := "fnPairBelow", fn := fun _ => fun
  | [d] => { results := [.lit (.bool true)], args := [d] }
  | _ => none }
def fnPairBelowRow : OpenClaim := { program := "ytecighkgpjdhaaa", sum := "a0f9339f3b650dd5afadcbfaf7991173766c6799d77e23064457a21dbb55f782", func := "loop.example/treenumbers/laws.FnPairBelow", spec := "fnPairBelow", unfollowed := true, recurses := true, apart := false }
def FnPairBelowSaid : Prop := fnPairBelowRow.holds Try.pinned (OpenSpec.ofChange fnPairBelowSpec)

/-- ITS FALSE NEIGHBOUR: 'it returns false'. Refute it at one input. -/
def fnPairBelowWrong : ChangeSpec := { name := "fnPairBelow", fn := fun _ => fun
  | [d] => { results := [.lit (.bool false)], args := [d] }
  | _ => none }
def FnPairBelowWrongFalsely : Prop := fnPairBelowRow.holds Try.pinned (OpenSpec.ofChange fnPairBelowWrong)

/-- 'laws.FnPairFar': WHATEVER THE INPUT: true; the input reads as it did. -/
def fnPairFarSpec : ChangeSpec := { name := "fnPairFar", fn := fun _ => fun
  | [d] => { results := [.lit (.bool true)], args := [d] }
  | _ => none }
def fnPairFarRow : OpenClaim := { program := "ytecighkgpjdhaaa", sum := "a0f9339f3b650dd5afadcbfaf7991173766c6799d77e23064457a21dbb55f782", func := "loop.example/treenumbers/laws.FnPairFar", spec := "fnPairFar", unfollowed := true, recurses := true, apart := false }
def FnPairFarSaid : Prop := fnPairFarRow.holds Try.pinned (OpenSpec.ofChange fnPairFarSpec)

/-- ITS FALSE NEIGHBOUR: 'it returns false'. Refute it at one input. -/
def fnPairFarWrong : ChangeSpec := { name := "fnPairFar", fn := fun _ => fun
  | [d] => { results := [.lit (.bool false)], args := [d] }
  | _ => none }
def FnPairFarWrongFalsely : Prop := fnPairFarRow.holds Try.pinned (OpenSpec.ofChange fnPairFarWrong)

/-- 'laws.FnUneven': WHATEVER THE INPUT: true; the input reads as it did. -/
def fnUnevenSpec : ChangeSpec := { name := "fnUneven", fn := fun _ => fun
  | [d] => { results := [.lit (.bool true)], args := [d] }
  | _ => none }
def fnUnevenRow : OpenClaim := { program := "ytecighkgpjdhaaa", sum := "a0f9339f3b650dd5afadcbfaf7991173766c6799d77e23064457a21dbb55f782", func := "loop.example/treenumbers/laws.FnUneven", spec := "fnUneven", unfollowed := true, recurses := true, apart := false }
def FnUnevenSaid : Prop := fnUnevenRow.holds Try.pinned (OpenSpec.ofChange fnUnevenSpec)

/-- ITS FALSE NEIGHBOUR: 'it returns false'. Refute it at one input. -/
def fnUnevenWrong : ChangeSpec := { name := "fnUneven", fn := fun _ => fun
  | [d] => { results := [.lit (.bool false)], args := [d] }
  | _ => none }
def FnUnevenWrongFalsely : Prop := fnUnevenRow.holds Try.pinned (OpenSpec.ofChange fnUnevenWrong)

/-- 'laws.FnDeep': WHATEVER THE INPUT: true; the input reads as it did. -/
def fnDeepSpec : ChangeSpec := { name := "fnDeep", fn := fun _ => fun
  | [d] => { results := [.lit (.bool true)], args := [d] }
  | _ => none }
def fnDeepRow : OpenClaim := { program := "ytecighkgpjdhaaa", sum := "a0f9339f3b650dd5afadcbfaf7991173766c6799d77e23064457a21dbb55f782", func := "loop.example/treenumbers/laws.FnDeep", spec := "fnDeep", unfollowed := true, recurses := true, apart := false }
def FnDeepSaid : Prop := fnDeepRow.holds Try.pinned (OpenSpec.ofChange fnDeepSpec)

/-- ITS FALSE NEIGHBOUR: 'it returns false'. Refute it at one input. -/
def fnDeepWrong : ChangeSpec := { name := "fnDeep", fn := fun _ => fun
  | [d] => { results := [.lit (.bool false)], args := [d] }
  | _ => none }
def FnDeepWrongFalsely : Prop := fnDeepRow.holds Try.pinned (OpenSpec.ofChange fnDeepWrong)

/-- 'laws.FnExactPairIn': WHATEVER THE INPUT: true; the input reads as it did. -/
def fnExactPairInSpec : ChangeSpec := { name := "fnExactPairIn", fn := fun _ => fun
  | [d] => { results := [.lit (.bool true)], args := [d] }
  | _ => none }
def fnExactPairInRow : OpenClaim := { program := "ytecighkgpjdhaaa", sum := "a0f9339f3b650dd5afadcbfaf7991173766c6799d77e23064457a21dbb55f782", func := "loop.example/treenumbers/laws.FnExactPairIn", spec := "fnExactPairIn", recurses := true, apart := false }
def FnExactPairInSaid : Prop := fnExactPairInRow.holds Try.pinned (OpenSpec.ofChange fnExactPairInSpec)

/-- ITS FALSE NEIGHBOUR: 'it returns false'. Refute it at one input. -/
def fnExactPairInWrong : ChangeSpec := { name := "fnExactPairIn", fn := fun _ => fun
  | [d] => { results := [.lit (.bool false)], args := [d] }
  | _ => none }
def FnExactPairInWrongFalsely : Prop := fnExactPairInRow.holds Try.pinned (OpenSpec.ofChange fnExactPairInWrong)

/-- 'laws.FnExactPairOf': WHATEVER THE INPUT: true; the input reads as it did. -/
def fnExactPairOfSpec : ChangeSpec := { name := "fnExactPairOf", fn := fun _ => fun
  | [d] => { results := [.lit (.bool true)], args := [d] }
  | _ => none }
def fnExactPairOfRow : OpenClaim := { program := "ytecighkgpjdhaaa", sum := "a0f9339f3b650dd5afadcbfaf7991173766c6799d77e23064457a21dbb55f782", func := "loop.example/treenumbers/laws.FnExactPairOf", spec := "fnExactPairOf", unfollowed := true, recurses := true, apart := false }
def FnExactPairOfSaid : Prop := fnExactPairOfRow.holds Try.pinned (OpenSpec.ofChange fnExactPairOfSpec)

/-- ITS FALSE NEIGHBOUR: 'it returns false'. Refute it at one input. -/
def fnExactPairOfWrong : ChangeSpec := { name := "fnExactPairOf", fn := fun _ => fun
  | [d] => { results := [.lit (.bool false)], args := [d] }
  | _ => none }
def FnExactPairOfWrongFalsely : Prop := fnExactPairOfRow.holds Try.pinned (OpenSpec.ofChange fnExactPairOfWrong)

/-- 'laws.FnExactPairBack': WHATEVER THE INPUT: true; the input reads as it did. -/
def fnExactPairBackSpec : ChangeSpec := { name := "fnExactPairBack", fn := fun _ => fun
  | [d] => { results := [.lit (.bool true)], args := [d] }
  | _ => none }
def fnExactPairBackRow : OpenClaim := { program := "ytecighkgpjdhaaa", sum := "a0f9339f3b650dd5afadcbfaf7991173766c6799d77e23064457a21dbb55f782", func := "loop.example/treenumbers/laws.FnExactPairBack", spec := "fnExactPairBack", recurses := true, apart := false }
def FnExactPairBackSaid : Prop := fnExactPairBackRow.holds Try.pinned (OpenSpec.ofChange fnExactPairBackSpec)

/-- ITS FALSE NEIGHBOUR: 'it returns false'. Refute it at one input. -/
def fnExactPairBackWrong : ChangeSpec := { name := "fnExactPairBack", fn := fun _ => fun
  | [d] => { results := [.lit (.bool false)], args := [d] }
  | _ => none }
def FnExactPairBackWrongFalsely : Prop := fnExactPairBackRow.holds Try.pinned (OpenSpec.ofChange fnExactPairBackWrong)

/- THE SECOND FORM. 'bulk': how many values and letters a reading holds, each counted each time it is reached (what is shared counts as often as it is met; a slice's spare places count too). A statement '..UptoSaid' is the law's where the arguments, and the package variables that the reading takes, are together of bulk at most 1048576: NARROWER than '..Said'. Prove '..Said' where nothing that the law and all that it calls make is longer than what came in: it says more and counts as full. Else prove '..UptoSaid'. A law counts once. -/
mutual
def uptoBulk {H : Type} : DataW H → Nat
  | .lit (.string bytes) => bytes.length + 1
  | .lit _ => 1
  | .nil => 1
  | .ptr d => uptoBulk d + 1
  | .slice elems spare => uptoBulkAll elems + uptoBulkAll spare + 1
  | .agg parts => uptoBulkAll parts + 1
  | .iface _ d => uptoBulk d + 1
  | .map entries => uptoBulkEntries entries + 1
  | .held _ => 1
def uptoBulkAll {H : Type} : List (DataW H) → Nat
  | [] => 0
  | d :: r => uptoBulk d + uptoBulkAll r
def uptoBulkEntries {H : Type} : List (Lit × DataW H) → Nat
  | [] => 0
  | x :: r => uptoBulkEntry x + uptoBulkEntries r
def uptoBulkEntry {H : Type} : Lit × DataW H → Nat
  | (.string bytes, d) => bytes.length + uptoBulk d + 1
  | (_, d) => uptoBulk d + 1
 end
def uptoSmall : (H : Type) → List (DataW H) → Bool := fun _ ds => decide (uptoBulkAll ds ≤ 1048576)
def OpenSpec.upto (s : _root_.Go.ChangeSpec) : _root_.Go.OpenSpec := { _root_.Go.OpenSpec.ofChange s with cond := some uptoSmall }

/-- 'laws.FnPair', WHERE WHAT IT READS IS OF BULK AT MOST 1048576: true; the input reads as it did. -/
def fnPairUptoRow : OpenClaim := { program := "ytecighkgpjdhaaa", sum := "a0f9339f3b650dd5afadcbfaf7991173766c6799d77e23064457a21dbb55f782", func := "loop.example/treenumbers/laws.FnPair", spec := "fnPair", recurses := true, apart := false, narrowed := true }
def FnPairUptoSaid : Prop := fnPairUptoRow.holds Try.pinned (OpenSpec.upto fnPairSpec)

/-- 'laws.FnPairOf', WHERE WHAT IT READS IS OF BULK AT MOST 1048576: true; the input reads as it did. -/
def fnPairOfUptoRow : OpenClaim := { program := "ytecighkgpjdhaaa", sum := "a0f9339f3b650dd5afadcbfaf7991173766c6799d77e23064457a21dbb55f782", func := "loop.example/treenumbers/laws.FnPairOf", spec := "fnPairOf", unfollowed := true, recurses := true, apart := false, narrowed := true }
def FnPairOfUptoSaid : Prop := fnPairOfUptoRow.holds Try.pinned (OpenSpec.upto fnPairOfSpec)

/-- 'laws.FnPairBack', WHERE WHAT IT READS IS OF BULK AT MOST 1048576: true; the input reads as it did. -/
def fnPairBackUptoRow : OpenClaim := { program := "ytecighkgpjdhaaa", sum := "a0f9339f3b650dd5afadcbfaf7991173766c6799d77e23064457a21dbb55f782", func := "loop.example/treenumbers/laws.FnPairBack", spec := "fnPairBack", unfollowed := true, recurses := true, apart := false, narrowed := true }
def FnPairBackUptoSaid : Prop := fnPairBackUptoRow.holds Try.pinned (OpenSpec.upto fnPairBackSpec)

/-- 'laws.FnTurn', WHERE WHAT IT READS IS OF BULK AT MOST 1048576: true; the input reads as it did. -/
def fnTurnUptoRow : OpenClaim := { program := "ytecighkgpjdhaaa", sum := "a0f9339f3b650dd5afadcbfaf7991173766c6799d77e23064457a21dbb55f782", func := "loop.example/treenumbers/laws.FnTurn", spec := "fnTurn", unfollowed := true, recurses := true, apart := false, narrowed := true }
def FnTurnUptoSaid : Prop := fnTurnUptoRow.holds Try.pinned (OpenSpec.upto fnTurnSpec)

/-- 'laws.FnTurns', WHERE WHAT IT READS IS OF BULK AT MOST 1048576: true; the input reads as it did. -/
def fnTurnsUptoRow : OpenClaim := { program := "ytecighkgpjdhaaa", sum := "a0f9339f3b650dd5afadcbfaf7991173766c6799d77e23064457a21dbb55f782", func := "loop.example/treenumbers/laws.FnTurns", spec := "fnTurns", unfollowed := true, recurses := true, apart := false, narrowed := true }
def FnTurnsUptoSaid : Prop := fnTurnsUptoRow.holds Try.pinned (OpenSpec.upto fnTurnsSpec)

/-- 'laws.FnPairBelow', WHERE WHAT IT READS IS OF BULK AT MOST 1048576: true; the input reads as it did. -/
def fnPairBelowUptoRow : OpenClaim := { program := "ytecighkgpjdhaaa", sum := "a0f9339f3b650dd5afadcbfaf7991173766c6799d77e23064457a21dbb55f782", func := "loop.example/treenumbers/laws.FnPairBelow", spec := "fnPairBelow", unfollowed := true, recurses := true, apart := false, narrowed := true }
def FnPairBelowUptoSaid : Prop := fnPairBelowUptoRow.holds Try.pinned (OpenSpec.upto fnPairBelowSpec)

/-- 'laws.FnPairFar', WHERE WHAT IT READS IS OF BULK AT MOST 1048576: true; the input reads as it did. -/
def fnPairFarUptoRow : OpenClaim := { program := "ytecighkgpjdhaaa", sum := "a0f9339f3b650dd5afadcbfaf7991173766c6799d77e23064457a21dbb55f782", func := "loop.example/treenumbers/laws.FnPairFar", spec := "fnPairFar", unfollowed := true, recurses := true, apart := false, narrowed := true }
def FnPairFarUptoSaid : Prop := fnPairFarUptoRow.holds Try.pinned (OpenSpec.upto fnPairFarSpec)

/-- 'laws.FnUneven', WHERE WHAT IT READS IS OF BULK AT MOST 1048576: true; the input reads as it did. -/
def fnUnevenUptoRow : OpenClaim := { program := "ytecighkgpjdhaaa", sum := "a0f9339f3b650dd5afadcbfaf7991173766c6799d77e23064457a21dbb55f782", func := "loop.example/treenumbers/laws.FnUneven", spec := "fnUneven", unfollowed := true, recurses := true, apart := false, narrowed := true }
def FnUnevenUptoSaid : Prop := fnUnevenUptoRow.holds Try.pinned (OpenSpec.upto fnUnevenSpec)

/-- 'laws.FnDeep', WHERE WHAT IT READS IS OF BULK AT MOST 1048576: true; the input reads as it did. -/
def fnDeepUptoRow : OpenClaim := { program := "ytecighkgpjdhaaa", sum := "a0f9339f3b650dd5afadcbfaf7991173766c6799d77e23064457a21dbb55f782", func := "loop.example/treenumbers/laws.FnDeep", spec := "fnDeep", unfollowed := true, recurses := true, apart := false, narrowed := true }
def FnDeepUptoSaid : Prop := fnDeepUptoRow.holds Try.pinned (OpenSpec.upto fnDeepSpec)

/-- 'laws.FnExactPairIn', WHERE WHAT IT READS IS OF BULK AT MOST 1048576: true; the input reads as it did. -/
def fnExactPairInUptoRow : OpenClaim := { program := "ytecighkgpjdhaaa", sum := "a0f9339f3b650dd5afadcbfaf7991173766c6799d77e23064457a21dbb55f782", func := "loop.example/treenumbers/laws.FnExactPairIn", spec := "fnExactPairIn", recurses := true, apart := false, narrowed := true }
def FnExactPairInUptoSaid : Prop := fnExactPairInUptoRow.holds Try.pinned (OpenSpec.upto fnExactPairInSpec)

/-- 'laws.FnExactPairOf', WHERE WHAT IT READS IS OF BULK AT MOST 1048576: true; the input reads as it did. -/
def fnExactPairOfUptoRow : OpenClaim := { program := "ytecighkgpjdhaaa", sum := "a0f9339f3b650dd5afadcbfaf7991173766c6799d77e23064457a21dbb55f782", func := "loop.example/treenumbers/laws.FnExactPairOf", spec := "fnExactPairOf", unfollowed := true, recurses := true, apart := false, narrowed := true }
def FnExactPairOfUptoSaid : Prop := fnExactPairOfUptoRow.holds Try.pinned (OpenSpec.upto fnExactPairOfSpec)

/-- 'laws.FnExactPairBack', WHERE WHAT IT READS IS OF BULK AT MOST 1048576: true; the input reads as it did. -/
def fnExactPairBackUptoRow : OpenClaim := { program := "ytecighkgpjdhaaa", sum := "a0f9339f3b650dd5afadcbfaf7991173766c6799d77e23064457a21dbb55f782", func := "loop.example/treenumbers/laws.FnExactPairBack", spec := "fnExactPairBack", recurses := true, apart := false, narrowed := true }
def FnExactPairBackUptoSaid : Prop := fnExactPairBackUptoRow.holds Try.pinned (OpenSpec.upto fnExactPairBackSpec)

end Rows
end Go.Proofs.Ytecighkgpjdhaaa
