/-
  NARROWER THAN 'FOR EVERY INPUT', by the rows' own cells (each row's printed sentence says how): FnCuts: laid · FnGraft: laid · FnLeafless: laid · FnExactCutGraft: laid · FnExactCutLeaf: laid.
  DERIVED. THE GIVEN ROWS OF THIS SEAT. 5 by the template 'for every input the law returns true; each argument reads behind the call as it read before'; 0 by the template 'total and deterministic' (their statements: YtjnmogmddhichaaDoorTotals.lean).
  GIVEN WITH THE SEED: the statements are not yours to turn. If you find one false, say at which input.
  Laid BY PROGRAM, IN A SANDBOX (cutbox-rows.mjs): the forced cells as the released guide's own fill.sh prints them over the translation ece70e336c3db670… (all of the seat's roots in one cut). By AI agents, Wed Nov 11 2026. No macro, syntax, notation, axiom, sorry.
-/
import Derived.Test.YtjnmogmddhichaaDoorChecked
import GoSem.PinnedTables
import GoSem.Claim
import GoSem.ClaimJoined
import GoSem.ClaimMapViews
import Derived.JoinedTies
import Derived.KernelRfl
namespace Go.Proofs.YtjnmogmddhichaaDoor
/- THE CELL 'sum', in the pinned program and in every row, IS THE sha256 OF THE DUMP (.gsa) THAT YtjnmogmddhichaaDoorProg.lean LOADS. Nothing in Lean hashes anything: it is a label: what it is worth is what the hold of that sum in a sandbox is worth. -/
noncomputable def Tryd.pinned : Pinned := { name := "ytjnmogmddhichaadoor", sum := "ece70e336c3db6705350a591a9ec9fd923dbf43f631fdeb9315f28facda84b55", checked := Tryd.checked }
namespace Rows
def none {H : Type} : Left H := { results := [], args := [] }

/- WHAT THE LISTED PACKAGE-LEVEL VARIABLES READ AS WHEN THE CALL BEGINS. Each datum BY PROGRAM (the guide's laid-datum.mjs) off the statement by which the dump's own 'gosem.cut.vars' lays the variable. In a bare row this is a premise. The card (YtjnmogmddhichaaDoorCards.lean) ties it to the program's text. -/
def laid_unicode_utf8_acceptRanges {H : Type} : DataW H := .agg [.agg [.lit (.int .u8 128), .lit (.int .u8 191)], .agg [.lit (.int .u8 160), .lit (.int .u8 191)], .agg [.lit (.int .u8 128), .lit (.int .u8 159)], .agg [.lit (.int .u8 144), .lit (.int .u8 191)], .agg [.lit (.int .u8 128), .lit (.int .u8 143)], .agg [.lit (.int .u8 0), .lit (.int .u8 0)], .agg [.lit (.int .u8 0), .lit (.int .u8 0)], .agg [.lit (.int .u8 0), .lit (.int .u8 0)], .agg [.lit (.int .u8 0), .lit (.int .u8 0)], .agg [.lit (.int .u8 0), .lit (.int .u8 0)], .agg [.lit (.int .u8 0), .lit (.int .u8 0)], .agg [.lit (.int .u8 0), .lit (.int .u8 0)], .agg [.lit (.int .u8 0), .lit (.int .u8 0)], .agg [.lit (.int .u8 0), .lit (.int .u8 0)], .agg [.lit (.int .u8 0), .lit (.int .u8 0)], .agg [.lit (.int .u8 0), .lit (.int .u8 0)]]
/-- One of Go's own tables, pinned by name: the form's constant. -/
def laid_unicode_utf8_first : DataW Unit := Go.Pinned.utf8First
def laid_errors_errorType {H : Type} : DataW H := .iface "internal/reflectlite.rtype" (.agg [.ptr (.lit (.string [101, 114, 114, 111, 114]))])

/-- 'laws.FnCuts': WHATEVER THE INPUT: true; the input reads as it did. -/
def fnCutsSpec : ChangeSpec := { name := "fnCuts", fn := fun _ => fun
  | [d] => { results := [.lit (.bool true)], args := [d] }
  | _ => none }
def fnCutsRow : OpenClaim := { program := "ytjnmogmddhichaadoor", sum := "ece70e336c3db6705350a591a9ec9fd923dbf43f631fdeb9315f28facda84b55", func := "loop.example/treenumbers/laws.FnCuts", spec := "fnCuts", inPlace := ["internal/bytealg.CountString", "internal/bytealg.IndexByteString", "internal/bytealg.IndexString", "internal/abi.NoEscape", "internal/bytealg.MakeNoZero"], unfollowed := true, recurses := true, named := ["internal/bytealg.MaxLen", "unicode/utf8.first", "unicode/utf8.acceptRanges"], apart := false, laid := [("unicode/utf8.acceptRanges", laid_unicode_utf8_acceptRanges), ("unicode/utf8.first", laid_unicode_utf8_first)] }
def FnCutsSaid : Prop := fnCutsRow.holds Tryd.pinned (OpenSpec.ofChange fnCutsSpec)

/-- ITS FALSE NEIGHBOUR: 'it returns false'. Refute it at one input. -/
def fnCutsWrong : ChangeSpec := { name := "fnCuts", fn := fun _ => fun
  | [d] => { results := [.lit (.bool false)], args := [d] }
  | _ => none }
def FnCutsWrongFalsely : Prop := fnCutsRow.holds Tryd.pinned (OpenSpec.ofChange fnCutsWrong)

/-- 'laws.FnGraft': WHATEVER THE INPUT: true; the input reads as it did. -/
def fnGraftSpec : ChangeSpec := { name := "fnGraft", fn := fun _ => fun
  | [d] => { results := [.lit (.bool true)], args := [d] }
  | _ => none }
def fnGraftRow : OpenClaim := { program := "ytjnmogmddhichaadoor", sum := "ece70e336c3db6705350a591a9ec9fd923dbf43f631fdeb9315f28facda84b55", func := "loop.example/treenumbers/laws.FnGraft", spec := "fnGraft", inPlace := ["internal/reflectlite.ValueOf", "(internal/reflectlite.Value).Type", "(internal/reflectlite.Value).IsNil", "internal/reflectlite.TypeOf", "(internal/reflectlite.Value).Elem", "(internal/reflectlite.Value).Set"], unfollowed := true, recurses := true, named := ["errors.errorType"], apart := false, laid := [("errors.errorType", laid_errors_errorType)] }
def FnGraftSaid : Prop := fnGraftRow.holds Tryd.pinned (OpenSpec.ofChange fnGraftSpec)

/-- ITS FALSE NEIGHBOUR: 'it returns false'. Refute it at one input. -/
def fnGraftWrong : ChangeSpec := { name := "fnGraft", fn := fun _ => fun
  | [d] => { results := [.lit (.bool false)], args := [d] }
  | _ => none }
def FnGraftWrongFalsely : Prop := fnGraftRow.holds Tryd.pinned (OpenSpec.ofChange fnGraftWrong)

/-- 'laws.FnLeafless': WHATEVER THE INPUT: true; the input reads as it did. -/
def fnLeaflessSpec : ChangeSpec := { name := "fnLeafless", fn := fun _ => fun
  | [d] => { results := [.lit (.bool true)], args := [d] }
  | _ => none }
def fnLeaflessRow : OpenClaim := { program := "ytjnmogmddhichaadoor", sum := "ece70e336c3db6705350a591a9ec9fd923dbf43f631fdeb9315f28facda84b55", func := "loop.example/treenumbers/laws.FnLeafless", spec := "fnLeafless", inPlace := ["internal/bytealg.CountString", "internal/bytealg.IndexByteString", "internal/bytealg.IndexString", "internal/abi.NoEscape", "internal/bytealg.MakeNoZero"], recurses := true, named := ["internal/bytealg.MaxLen", "unicode/utf8.first", "unicode/utf8.acceptRanges"], apart := false, laid := [("unicode/utf8.acceptRanges", laid_unicode_utf8_acceptRanges), ("unicode/utf8.first", laid_unicode_utf8_first)] }
def FnLeaflessSaid : Prop := fnLeaflessRow.holds Tryd.pinned (OpenSpec.ofChange fnLeaflessSpec)

/-- ITS FALSE NEIGHBOUR: 'it returns false'. Refute it at one input. -/
def fnLeaflessWrong : ChangeSpec := { name := "fnLeafless", fn := fun _ => fun
  | [d] => { results := [.lit (.bool false)], args := [d] }
  | _ => none }
def FnLeaflessWrongFalsely : Prop := fnLeaflessRow.holds Tryd.pinned (OpenSpec.ofChange fnLeaflessWrong)

/-- 'laws.FnExactCutGraft': WHATEVER THE INPUT: true; the input reads as it did. -/
def fnExactCutGraftSpec : ChangeSpec := { name := "fnExactCutGraft", fn := fun _ => fun
  | [d1, d2, d3] => { results := [.lit (.bool true)], args := [d1, d2, d3] }
  | _ => none }
def fnExactCutGraftRow : OpenClaim := { program := "ytjnmogmddhichaadoor", sum := "ece70e336c3db6705350a591a9ec9fd923dbf43f631fdeb9315f28facda84b55", func := "loop.example/treenumbers/laws.FnExactCutGraft", spec := "fnExactCutGraft", inPlace := ["internal/reflectlite.ValueOf", "(internal/reflectlite.Value).Type", "(internal/reflectlite.Value).IsNil", "internal/reflectlite.TypeOf", "(internal/reflectlite.Value).Elem", "(internal/reflectlite.Value).Set"], unfollowed := true, recurses := true, named := ["errors.errorType"], apart := false, laid := [("errors.errorType", laid_errors_errorType)] }
def FnExactCutGraftSaid : Prop := fnExactCutGraftRow.holds Tryd.pinned (OpenSpec.ofChange fnExactCutGraftSpec)

/-- ITS FALSE NEIGHBOUR: 'it returns false'. Refute it at one input. -/
def fnExactCutGraftWrong : ChangeSpec := { name := "fnExactCutGraft", fn := fun _ => fun
  | [d1, d2, d3] => { results := [.lit (.bool false)], args := [d1, d2, d3] }
  | _ => none }
def FnExactCutGraftWrongFalsely : Prop := fnExactCutGraftRow.holds Tryd.pinned (OpenSpec.ofChange fnExactCutGraftWrong)

/-- 'laws.FnExactCutLeaf': WHATEVER THE INPUT: true; the input reads as it did. -/
def fnExactCutLeafSpec : ChangeSpec := { name := "fnExactCutLeaf", fn := fun _ => fun
  | [d] => { results := [.lit (.bool true)], args := [d] }
  | _ => none }
def fnExactCutLeafRow : OpenClaim := { program := "ytjnmogmddhichaadoor", sum := "ece70e336c3db6705350a591a9ec9fd923dbf43f631fdeb9315f28facda84b55", func := "loop.example/treenumbers/laws.FnExactCutLeaf", spec := "fnExactCutLeaf", inPlace := ["internal/bytealg.CountString", "internal/bytealg.IndexByteString", "internal/bytealg.IndexString", "internal/abi.NoEscape", "internal/bytealg.MakeNoZero"], named := ["internal/bytealg.MaxLen", "unicode/utf8.first", "unicode/utf8.acceptRanges"], apart := false, laid := [("unicode/utf8.acceptRanges", laid_unicode_utf8_acceptRanges), ("unicode/utf8.first", laid_unicode_utf8_first)] }
def FnExactCutLeafSaid : Prop := fnExactCutLeafRow.holds Tryd.pinned (OpenSpec.ofChange fnExactCutLeafSpec)

/-- ITS FALSE NEIGHBOUR: 'it returns false'. Refute it at one input. -/
def fnExactCutLeafWrong : ChangeSpec := { name := "fnExactCutLeaf", fn := fun _ => fun
  | [d] => { results := [.lit (.bool false)], args := [d] }
  | _ => none }
def FnExactCutLeafWrongFalsely : Prop := fnExactCutLeafRow.holds Tryd.pinned (OpenSpec.ofChange fnExactCutLeafWrong)

/- THE SECOND FORM. 'bulk': how many values and letters a reading holds, each counted each time it is reached (what is shared counts as often as it is met; a slice's spare places count too). A statement '..UptoSaid' is the law's where the arguments, and the package variables that the reading takes, are together of bulk at most 1048576: NARROWER than '..Said'. Prove '..Said' where nothing that the law and all that it calls make is longer than what came in: it says more and counts as full. Else prove '..UptoSaid'. A law counts once. -/
mutual
def uptoBulk {H : Type} : DataW H → Nat
  | .lit (.string bytes) => bytes.length + 1
  | .lit _ => 1
  | .nil => 1
  | .ptr d => uptoBulk d + 1
  | .slice elems spare => uptoBulkAll elems + uptoBulkAll spare + 1
  | .agg parts => uptoBulkAll parts + 1
  | .iface _ d => uptoBulk d + 1
  | .map entries => uptoBulkEntries entries + 1
  | .held _ => 1
def uptoBulkAll {H : Type} : List (DataW H) → Nat
  | [] => 0
  | d :: r => uptoBulk d + uptoBulkAll r
def uptoBulkEntries {H : Type} : List (Lit × DataW H) → Nat
  | [] => 0
  | x :: r => uptoBulkEntry x + uptoBulkEntries r
def uptoBulkEntry {H : Type} : Lit × DataW H → Nat
  | (.string bytes, d) => bytes.length + uptoBulk d + 1
  | (_, d) => uptoBulk d + 1
 end
def uptoSmall : (H : Type) → List (DataW H) → Bool := fun _ ds => decide (uptoBulkAll ds ≤ 1048576)
def OpenSpec.upto (s : _root_.Go.ChangeSpec) : _root_.Go.OpenSpec := { _root_.Go.OpenSpec.ofChange s with cond := some uptoSmall }

/-- 'laws.FnCuts', WHERE WHAT IT READS IS OF BULK AT MOST 1048576: true; the input reads as it did. -/
def fnCutsUptoRow : OpenClaim := { program := "ytjnmogmddhichaadoor", sum := "ece70e336c3db6705350a591a9ec9fd923dbf43f631fdeb9315f28facda84b55", func := "loop.example/treenumbers/laws.FnCuts", spec := "fnCuts", inPlace := ["internal/bytealg.CountString", "internal/bytealg.IndexByteString", "internal/bytealg.IndexString", "internal/abi.NoEscape", "internal/bytealg.MakeNoZero"], unfollowed := true, recurses := true, named := ["internal/bytealg.MaxLen", "unicode/utf8.first", "unicode/utf8.acceptRanges"], apart := false, laid := [("unicode/utf8.acceptRanges", laid_unicode_utf8_acceptRanges), ("unicode/utf8.first", laid_unicode_utf8_first)], narrowed := true }
def FnCutsUptoSaid : Prop := fnCutsUptoRow.holds Tryd.pinned (OpenSpec.upto fnCutsSpec)

/-- 'laws.FnGraft', WHERE WHAT IT READS IS OF BULK AT MOST 1048576: true; the input reads as it did. -/
def fnGraftUptoRow : OpenClaim := { program := "ytjnmogmddhichaadoor", sum := "ece70e336c3db6705350a591a9ec9fd923dbf43f631fdeb9315f28facda84b55", func := "loop.example/treenumbers/laws.FnGraft", spec := "fnGraft", inPlace := ["internal/reflectlite.ValueOf", "(internal/reflectlite.Value).Type", "(internal/reflectlite.Value).IsNil", "internal/reflectlite.TypeOf", "(internal/reflectlite.Value).Elem", "(internal/reflectlite.Value).Set"], unfollowed := true, recurses := true, named := ["errors.errorType"], apart := false, laid := [("errors.errorType", laid_errors_errorType)], narrowed := true }
def FnGraftUptoSaid : Prop := fnGraftUptoRow.holds Tryd.pinned (OpenSpec.upto fnGraftSpec)

/-- 'laws.FnLeafless', WHERE WHAT IT READS IS OF BULK AT MOST 1048576: true; the input reads as it did. -/
def fnLeaflessUptoRow : OpenClaim := { program := "ytjnmogmddhichaadoor", sum := "ece70e336c3db6705350a591a9ec9fd923dbf43f631fdeb9315f28facda84b55", func := "loop.example/treenumbers/laws.FnLeafless", spec := "fnLeafless", inPlace := ["internal/bytealg.CountString", "internal/bytealg.IndexByteString", "internal/bytealg.IndexString", "internal/abi.NoEscape", "internal/bytealg.MakeNoZero"], recurses := true, named := ["internal/bytealg.MaxLen", "unicode/utf8.first", "unicode/utf8.acceptRanges"], apart := false, laid := [("unicode/utf8.acceptRanges", laid_unicode_utf8_acceptRanges), ("unicode/utf8.first", laid_unicode_utf8_first)], narrowed := true }
def FnLeaflessUptoSaid : Prop := fnLeaflessUptoRow.holds Tryd.pinned (OpenSpec.upto fnLeaflessSpec)

/-- 'laws.FnExactCutGraft', WHERE WHAT IT READS IS OF BULK AT MOST 1048576: true; the input reads as it did. -/
def fnExactCutGraftUptoRow : OpenClaim := { program := "ytjnmogmddhichaadoor", sum := "ece70e336c3db6705350a591a9ec9fd923dbf43f631fdeb9315f28facda84b55", func := "loop.example/treenumbers/laws.FnExactCutGraft", spec := "fnExactCutGraft", inPlace := ["internal/reflectlite.ValueOf", "(internal/reflectlite.Value).Type", "(internal/reflectlite.Value).IsNil", "internal/reflectlite.TypeOf", "(internal/reflectlite.Value).Elem", "(internal/reflectlite.Value).Set"], unfollowed := true, recurses := true, named := ["errors.errorType"], apart := false, laid := [("errors.errorType", laid_errors_errorType)], narrowed := true }
def FnExactCutGraftUptoSaid : Prop := fnExactCutGraftUptoRow.holds Tryd.pinned (OpenSpec.upto fnExactCutGraftSpec)

/-- 'laws.FnExactCutLeaf', WHERE WHAT IT READS IS OF BULK AT MOST 1048576: true; the input reads as it did. -/
def fnExactCutLeafUptoRow : OpenClaim := { program := "ytjnmogmddhichaadoor", sum := "ece70e336c3db6705350a591a9ec9fd923dbf43f631fdeb9315f28facda84b55", func := "loop.example/treenumbers/laws.FnExactCutLeaf", spec := "fnExactCutLeaf", inPlace := ["internal/bytealg.CountString", "internal/bytealg.IndexByteString", "internal/bytealg.IndexString", "internal/abi.NoEscape", "internal/bytealg.MakeNoZero"], named := ["internal/bytealg.MaxLen", "unicode/utf8.first", "unicode/utf8.acceptRanges"], apart := false, laid := [("unicode/utf8.acceptRanges", laid_unicode_utf8_acceptRanges), ("unicode/utf8.first", laid_unicode_utf8_first)], narrowed := true }
def FnExactCutLeafUptoSaid : Prop := fnExactCutLeafUptoRow.holds Tryd.pinned (OpenSpec.upto fnExactCutLeafSpec)

end Rows
end Go.Proofs.YtjnmogmddhichaaDoor
