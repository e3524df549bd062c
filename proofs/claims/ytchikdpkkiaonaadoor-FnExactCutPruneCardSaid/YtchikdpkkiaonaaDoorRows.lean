/-
  NARROWER THAN 'FOR EVERY INPUT', by the rows' own cells (each row's printed sentence says how): FnFar: laid · FnCuts: laid · FnPrune: laid · FnGraft: laid · FnLeafless: laid · FnExactCutPrune: laid · FnExactCutGraft: laid · FnExactCutLeaf: laid.
  DERIVED. THE GIVEN ROWS OF THIS SEAT. 8 by the template 'for every input the law returns true; each argument reads behind the call as it read before'; 0 by the template 'total and deterministic' (their statements: YtchikdpkkiaonaaDoorTotals.lean).
  GIVEN WITH THE SEED: the statements are not yours to turn. If you find one false, say at which input.
  Laid BY PROGRAM, IN A SANDBOX (cutbox-rows.mjs): the forced cells as the released guide's own fill.sh prints them over the translation d29537550a278bf9… (all of the seat's roots in one cut). By AI agents, Wed Nov 11 2026. No macro, syntax, notation, axiom, sorry.
-/
import Derived.Test.YtchikdpkkiaonaaDoorChecked
import GoSem.PinnedTables
import GoSem.Claim
import GoSem.ClaimJoined
import GoSem.ClaimMapViews
import Derived.JoinedTies
import Derived.KernelRfl
namespace Go.Proofs.YtchikdpkkiaonaaDoor
/- THE CELL 'sum', in the pinned program and in every row, IS THE sha256 OF THE DUMP (.gsa) THAT YtchikdpkkiaonaaDoorProg.lean LOADS. Nothing in Lean hashes anything: it is a label: what it is worth is what the hold of that sum in a sandbox is worth. -/
noncomputable def Tryd.pinned : Pinned := { name := "ytchikdpkkiaonaadoor", sum := "d29537550a278bf9e4fa0b2a82a73d477db5f1c1ae241fc79320b8bae4618635", checked := Tryd.checked }
namespace Rows
def none {H : Type} : Left H := { results := [], args := [] }

/- WHAT THE LISTED PACKAGE-LEVEL VARIABLES READ AS WHEN THE CALL BEGINS. Each datum BY PROGRAM (the guide's laid-datum.mjs) off the statement by which the dump's own 'gosem.cut.vars' lays the variable. In a bare row this is a premise. The card (YtchikdpkkiaonaaDoorCards.lean) ties it to the program's text. -/
def laid_errors_errorType {H : Type} : DataW H := .iface "internal/reflectlite.rtype" (.agg [.ptr (.lit (.string [101, 114, 114, 111, 114]))])
def laid_unicode_utf8_acceptRanges {H : Type} : DataW H := .agg [.agg [.lit (.int .u8 128), .lit (.int .u8 191)], .agg [.lit (.int .u8 160), .lit (.int .u8 191)], .agg [.lit (.int .u8 128), .lit (.int .u8 159)], .agg [.lit (.int .u8 144), .lit (.int .u8 191)], .agg [.lit (.int .u8 128), .lit (.int .u8 143)], .agg [.lit (.int .u8 0), .lit (.int .u8 0)], .agg [.lit (.int .u8 0), .lit (.int .u8 0)], .agg [.lit (.int .u8 0), .lit (.int .u8 0)], .agg [.lit (.int .u8 0), .lit (.int .u8 0)], .agg [.lit (.int .u8 0), .lit (.int .u8 0)], .agg [.lit (.int .u8 0), .lit (.int .u8 0)], .agg [.lit (.int .u8 0), .lit (.int .u8 0)], .agg [.lit (.int .u8 0), .lit (.int .u8 0)], .agg [.lit (.int .u8 0), .lit (.int .u8 0)], .agg [.lit (.int .u8 0), .lit (.int .u8 0)], .agg [.lit (.int .u8 0), .lit (.int .u8 0)]]
/-- One of Go's own tables, pinned by name: the form's constant. -/
def laid_unicode_utf8_first : DataW Unit := Go.Pinned.utf8First

/-- 'laws.FnFar': WHATEVER THE INPUT: true; the input reads as it did. -/
def fnFarSpec : ChangeSpec := { name := "fnFar", fn := fun _ => fun
  | [d] => { results := [.lit (.bool true)], args := [d] }
  | _ => none }
def fnFarRow : OpenClaim := { program := "ytchikdpkkiaonaadoor", sum := "d29537550a278bf9e4fa0b2a82a73d477db5f1c1ae241fc79320b8bae4618635", func := "loop.example/treenumbers/laws.FnFar", spec := "fnFar", inPlace := ["internal/reflectlite.ValueOf", "(internal/reflectlite.Value).Type", "(internal/reflectlite.Value).IsNil", "internal/reflectlite.TypeOf", "(internal/reflectlite.Value).Elem", "(internal/reflectlite.Value).Set"], unfollowed := true, recurses := true, named := ["errors.errorType"], apart := false, laid := [("errors.errorType", laid_errors_errorType)] }
def FnFarSaid : Prop := fnFarRow.holds Tryd.pinned (OpenSpec.ofChange fnFarSpec)

/-- ITS FALSE NEIGHBOUR: 'it returns false'. Refute it at one input. -/
def fnFarWrong : ChangeSpec := { name := "fnFar", fn := fun _ => fun
  | [d] => { results := [.lit (.bool false)], args := [d] }
  | _ => none }
def FnFarWrongFalsely : Prop := fnFarRow.holds Tryd.pinned (OpenSpec.ofChange fnFarWrong)

/-- 'laws.FnCuts': WHATEVER THE INPUT: true; the input reads as it did. -/
def fnCutsSpec : ChangeSpec := { name := "fnCuts", fn := fun _ => fun
  | [d] => { results := [.lit (.bool true)], args := [d] }
  | _ => none }
def fnCutsRow : OpenClaim := { program := "ytchikdpkkiaonaadoor", sum := "d29537550a278bf9e4fa0b2a82a73d477db5f1c1ae241fc79320b8bae4618635", func := "loop.example/treenumbers/laws.FnCuts", spec := "fnCuts", inPlace := ["internal/bytealg.CountString", "internal/bytealg.IndexByteString", "internal/bytealg.IndexString", "internal/abi.NoEscape", "internal/bytealg.MakeNoZero"], unfollowed := true, recurses := true, named := ["internal/bytealg.MaxLen", "unicode/utf8.first", "unicode/utf8.acceptRanges"], apart := false, laid := [("unicode/utf8.acceptRanges", laid_unicode_utf8_acceptRanges), ("unicode/utf8.first", laid_unicode_utf8_first)] }
def FnCutsSaid : Prop := fnCutsRow.holds Tryd.pinned (OpenSpec.ofChange fnCutsSpec)

/-- ITS FALSE NEIGHBOUR: 'it returns false'. Refute it at one input. -/
def fnCutsWrong : ChangeSpec := { name := "fnCuts", fn := fun _ => fun
  | [d] => { results := [.lit (.bool false)], args := [d] }
  | _ => none }
def FnCutsWrongFalsely : Prop := fnCutsRow.holds Tryd.pinned (OpenSpec.ofChange fnCutsWrong)

/-- 'laws.FnPrune': WHATEVER THE INPUT: true; the input reads as it did. -/
def fnPruneSpec : ChangeSpec := { name := "fnPrune", fn := fun _ => fun
  | [d] => { results := [.lit (.bool true)], args := [d] }
  | _ => none }
def fnPruneRow : OpenClaim := { program := "ytchikdpkkiaonaadoor", sum := "d29537550a278bf9e4fa0b2a82a73d477db5f1c1ae241fc79320b8bae4618635", func := "loop.example/treenumbers/laws.FnPrune", spec := "fnPrune", inPlace := ["internal/reflectlite.ValueOf", "(internal/reflectlite.Value).Type", "(internal/reflectlite.Value).IsNil", "internal/reflectlite.TypeOf", "(internal/reflectlite.Value).Elem", "(internal/reflectlite.Value).Set", "internal/bytealg.abigen_runtime_cmpstring"], unfollowed := true, recurses := true, named := ["errors.errorType"], apart := false, laid := [("errors.errorType", laid_errors_errorType)] }
def FnPruneSaid : Prop := fnPruneRow.holds Tryd.pinned (OpenSpec.ofChange fnPruneSpec)

/-- ITS FALSE NEIGHBOUR: 'it returns false'. Refute it at one input. -/
def fnPruneWrong : ChangeSpec := { name := "fnPrune", fn := fun _ => fun
  | [d] => { results := [.lit (.bool false)], args := [d] }
  | _ => none }
def FnPruneWrongFalsely : Prop := fnPruneRow.holds Tryd.pinned (OpenSpec.ofChange fnPruneWrong)

/-- 'laws.FnGraft': WHATEVER THE INPUT: true; the input reads as it did. -/
def fnGraftSpec : ChangeSpec := { name := "fnGraft", fn := fun _ => fun
  | [d] => { results := [.lit (.bool true)], args := [d] }
  | _ => none }
def fnGraftRow : OpenClaim := { program := "ytchikdpkkiaonaadoor", sum := "d29537550a278bf9e4fa0b2a82a73d477db5f1c1ae241fc79320b8bae4618635", func := "loop.example/treenumbers/laws.FnGraft", spec := "fnGraft", inPlace := ["internal/reflectlite.ValueOf", "(internal/reflectlite.Value).Type", "(internal/reflectlite.Value).IsNil", "internal/reflectlite.TypeOf", "(internal/reflectlite.Value).Elem", "(internal/reflectlite.Value).Set"], unfollowed := true, recurses := true, named := ["errors.errorType"], apart := false, laid := [("errors.errorType", laid_errors_errorType)] }
def FnGraftSaid : Prop := fnGraftRow.holds Tryd.pinned (OpenSpec.ofChange fnGraftSpec)

/-- ITS FALSE NEIGHBOUR: 'it returns false'. Refute it at one input. -/
def fnGraftWrong : ChangeSpec := { name := "fnGraft", fn := fun _ => fun
  | [d] => { results := [.lit (.bool false)], args := [d] }
  | _ => none }
def FnGraftWrongFalsely : Prop := fnGraftRow.holds Tryd.pinned (OpenSpec.ofChange fnGraftWrong)

/-- 'laws.FnLeafless': WHATEVER THE INPUT: true; the input reads as it did. -/
def fnLeaflessSpec : ChangeSpec := { name := "fnLeafless", fn := fun _ => fun
  | [d] => { results := [.lit (.bool true)], args := [d] }
  | _ => none }
def fnLeaflessRow : OpenClaim := { program := "ytchikdpkkiaonaadoor", sum := "d29537550a278bf9e4fa0b2a82a73d477db5f1c1ae241fc79320b8bae4618635", func := "loop.example/treenumbers/laws.FnLeafless", spec := "fnLeafless", inPlace := ["internal/bytealg.CountString", "internal/bytealg.IndexByteString", "internal/bytealg.IndexString", "internal/abi.NoEscape", "internal/bytealg.MakeNoZero"], recurses := true, named := ["internal/bytealg.MaxLen", "unicode/utf8.first", "unicode/utf8.acceptRanges"], apart := false, laid := [("unicode/utf8.acceptRanges", laid_unicode_utf8_acceptRanges), ("unicode/utf8.first", laid_unicode_utf8_first)] }
def FnLeaflessSaid : Prop := fnLeaflessRow.holds Tryd.pinned (OpenSpec.ofChange fnLeaflessSpec)

/-- ITS FALSE NEIGHBOUR: 'it returns false'. Refute it at one input. -/
def fnLeaflessWrong : ChangeSpec := { name := "fnLeafless", fn := fun _ => fun
  | [d] => { results := [.lit (.bool false)], args := [d] }
  | _ => none }
def FnLeaflessWrongFalsely : Prop := fnLeaflessRow.holds Tryd.pinned (OpenSpec.ofChange fnLeaflessWrong)

/-- 'laws.FnExactCutPrune': WHATEVER THE INPUT: true; the input reads as it did. -/
def fnExactCutPruneSpec : ChangeSpec := { name := "fnExactCutPrune", fn := fun _ => fun
  | [d1, d2] => { results := [.lit (.bool true)], args := [d1, d2] }
  | _ => none }
def fnExactCutPruneRow : OpenClaim := { program := "ytchikdpkkiaonaadoor", sum := "d29537550a278bf9e4fa0b2a82a73d477db5f1c1ae241fc79320b8bae4618635", func := "loop.example/treenumbers/laws.FnExactCutPrune", spec := "fnExactCutPrune", inPlace := ["internal/reflectlite.ValueOf", "(internal/reflectlite.Value).Type", "(internal/reflectlite.Value).IsNil", "internal/reflectlite.TypeOf", "(internal/reflectlite.Value).Elem", "(internal/reflectlite.Value).Set"], unfollowed := true, recurses := true, named := ["errors.errorType"], apart := false, laid := [("errors.errorType", laid_errors_errorType)] }
def FnExactCutPruneSaid : Prop := fnExactCutPruneRow.holds Tryd.pinned (OpenSpec.ofChange fnExactCutPruneSpec)

/-- ITS FALSE NEIGHBOUR: 'it returns false'. Refute it at one input. -/
def fnExactCutPruneWrong : ChangeSpec := { name := "fnExactCutPrune", fn := fun _ => fun
  | [d1, d2] => { results := [.lit (.bool false)], args := [d1, d2] }
  | _ => none }
def FnExactCutPruneWrongFalsely : Prop := fnExactCutPruneRow.holds Tryd.pinned (OpenSpec.ofChange fnExactCutPruneWrong)

/-- 'laws.FnExactCutGraft': WHATEVER THE INPUT: true; the input reads as it did. -/
def fnExactCutGraftSpec : ChangeSpec := { name := "fnExactCutGraft", fn := fun _ => fun
  | [d1, d2, d3] => { results := [.lit (.bool true)], args := [d1, d2, d3] }
  | _ => none }
def fnExactCutGraftRow : OpenClaim := { program := "ytchikdpkkiaonaadoor", sum := "d29537550a278bf9e4fa0b2a82a73d477db5f1c1ae241fc79320b8bae4618635", func := "loop.example/treenumbers/laws.FnExactCutGraft", spec := "fnExactCutGraft", inPlace := ["internal/reflectlite.ValueOf", "(internal/reflectlite.Value).Type", "(internal/reflectlite.Value).IsNil", "internal/reflectlite.TypeOf", "(internal/reflectlite.Value).Elem", "(internal/reflectlite.Value).Set"], unfollowed := true, recurses := true, named := ["errors.errorType"], apart := false, laid := [("errors.errorType", laid_errors_errorType)] }
def FnExactCutGraftSaid : Prop := fnExactCutGraftRow.holds Tryd.pinned (OpenSpec.ofChange fnExactCutGraftSpec)

/-- ITS FALSE NEIGHBOUR: 'it returns false'. Refute it at one input. -/
def fnExactCutGraftWrong : ChangeSpec := { name := "fnExactCutGraft", fn := fun _ => fun
  | [d1, d2, d3] => { results := [.lit (.bool false)], args := [d1, d2, d3] }
  | _ => none }
def FnExactCutGraftWrongFalsely : Prop := fnExactCutGraftRow.holds Tryd.pinned (OpenSpec.ofChange fnExactCutGraftWrong)

/-- 'laws.FnExactCutLeaf': WHATEVER THE INPUT: true; the input reads as it did. -/
def fnExactCutLeafSpec : ChangeSpec := { name := "fnExactCutLeaf", fn := fun _ => fun
  | [d] => { results := [.lit (.bool true)], args := [d] }
  | _ => none }
def fnExactCutLeafRow : OpenClaim := { program := "ytchikdpkkiaonaadoor", sum := "d29537550a278bf9e4fa0b2a82a73d477db5f1c1ae241fc79320b8bae4618635", func := "loop.example/treenumbers/laws.FnExactCutLeaf", spec := "fnExactCutLeaf", inPlace := ["internal/bytealg.CountString", "internal/bytealg.IndexByteString", "internal/bytealg.IndexString", "internal/abi.NoEscape", "internal/bytealg.MakeNoZero"], named := ["internal/bytealg.MaxLen", "unicode/utf8.first", "unicode/utf8.acceptRanges"], apart := false, laid := [("unicode/utf8.acceptRanges", laid_unicode_utf8_acceptRanges), ("unicode/utf8.first", laid_unicode_utf8_first)] }
def FnExactCutLeafSaid : Prop := fnExactCutLeafRow.holds Tryd.pinned (OpenSpec.ofChange fnExactCutLeafSpec)

/-- ITS FALSE NEIGHBOUR: 'it returns false'. Refute it at one input. -/
def fnExactCutLeafWrong : ChangeSpec := { name := "fnExactCutLeaf", fn := fun _ => fun
  | [d] => { results := [.lit (.bool false)], args := [d] }
  | _ => none }
def FnExactCutLeafWrongFalsely : Prop := fnExactCutLeafRow.holds Tryd.pinned (OpenSpec.ofChange fnExactCutLeafWrong)

/- THE SECOND FORM. 'bulk': how many values and letters a reading holds, each counted each time it is reached (what is shared counts as often as it is met; a slice's spare places count too). A statement '..UptoSaid' is the law's where the arguments, and the package variables that the reading takes, are together of bulk at most 1048576: NARROWER than '..Said'. Prove '..Said' where nothing that the law and all that it calls make is longer than what came in: it says more and counts as full. Else prove '..UptoSaid'. A law counts once. -/
mutual
def uptoBulk {H : Type} : DataW H → Nat
  | .lit (.string bytes) => bytes.length + 1
  | .lit _ => 1
  | .nil => 1
  | .ptr d => uptoBulk d + 1
  | .slice elems spare => uptoBulkAll elems + uptoBulkAll spare + 1
  | .agg parts => uptoBulkAll parts + 1
  | .iface _ d => uptoBulk d + 1
  | .map entries => uptoBulkEntries entries + 1
  | .held _ => 1
def uptoBulkAll {H : Type} : List (DataW H) → Nat
  | [] => 0
  | d :: r => uptoBulk d + uptoBulkAll r
def uptoBulkEntries {H : Type} : List (Lit × DataW H) → Nat
  | [] => 0
  | x :: r => uptoBulkEntry x + uptoBulkEntries r
def uptoBulkEntry {H : Type} : Lit × DataW H → Nat
  | (.string bytes, d) => bytes.length + uptoBulk d + 1
  | (_, d) => uptoBulk d + 1
 end
def uptoSmall : (H : Type) → List (DataW H) → Bool := fun _ ds => decide (uptoBulkAll ds ≤ 1048576)
def OpenSpec.upto (s : _root_.Go.ChangeSpec) : _root_.Go.OpenSpec := { _root_.Go.OpenSpec.ofChange s with cond := some uptoSmall }

/-- 'laws.FnFar', WHERE WHAT IT READS IS OF BULK AT MOST 1048576: true; the input reads as it did. -/
def fnFarUptoRow : OpenClaim := { program := "ytchikdpkkiaonaadoor", sum := "d29537550a278bf9e4fa0b2a82a73d477db5f1c1ae241fc79320b8bae4618635", func := "loop.example/treenumbers/laws.FnFar", spec := "fnFar", inPlace := ["internal/reflectlite.ValueOf", "(internal/reflectlite.Value).Type", "(internal/reflectlite.Value).IsNil", "internal/reflectlite.TypeOf", "(internal/reflectlite.Value).Elem", "(internal/reflectlite.Value).Set"], unfollowed := true, recurses := true, named := ["errors.errorType"], apart := false, laid := [("errors.errorType", laid_errors_errorType)], narrowed := true }
def FnFarUptoSaid : Prop := fnFarUptoRow.holds Tryd.pinned (OpenSpec.upto fnFarSpec)

/-- 'laws.FnCuts', WHERE WHAT IT READS IS OF BULK AT MOST 1048576: true; the input reads as it did. -/
def fnCutsUptoRow : OpenClaim := { program := "ytchikdpkkiaonaadoor", sum := "d29537550a278bf9e4fa0b2a82a73d477db5f1c1ae241fc79320b8bae4618635", func := "loop.example/treenumbers/laws.FnCuts", spec := "fnCuts", inPlace := ["internal/bytealg.CountString", "internal/bytealg.IndexByteString", "internal/bytealg.IndexString", "internal/abi.NoEscape", "internal/bytealg.MakeNoZero"], unfollowed := true, recurses := true, named := ["internal/bytealg.MaxLen", "unicode/utf8.first", "unicode/utf8.acceptRanges"], apart := false, laid := [("unicode/utf8.acceptRanges", laid_unicode_utf8_acceptRanges), ("unicode/utf8.first", laid_unicode_utf8_first)], narrowed := true }
def FnCutsUptoSaid : Prop := fnCutsUptoRow.holds Tryd.pinned (OpenSpec.upto fnCutsSpec)

/-- 'laws.FnPrune', WHERE WHAT IT READS IS OF BULK AT MOST 1048576: true; the input reads as it did. -/
def fnPruneUptoRow : OpenClaim := { program := "ytchikdpkkiaonaadoor", sum := "d29537550a278bf9e4fa0b2a82a73d477db5f1c1ae241fc79320b8bae4618635", func := "loop.example/treenumbers/laws.FnPrune", spec := "fnPrune", inPlace := ["internal/reflectlite.ValueOf", "(internal/reflectlite.Value).Type", "(internal/reflectlite.Value).IsNil", "internal/reflectlite.TypeOf", "(internal/reflectlite.Value).Elem", "(internal/reflectlite.Value).Set", "internal/bytealg.abigen_runtime_cmpstring"], unfollowed := true, recurses := true, named := ["errors.errorType"], apart := false, laid := [("errors.errorType", laid_errors_errorType)], narrowed := true }
def FnPruneUptoSaid : Prop := fnPruneUptoRow.holds Tryd.pinned (OpenSpec.upto fnPruneSpec)

/-- 'laws.FnGraft', WHERE WHAT IT READS IS OF BULK AT MOST 1048576: true; the input reads as it did. -/
def fnGraftUptoRow : OpenClaim := { program := "ytchikdpkkiaonaadoor", sum := "d29537550a278bf9e4fa0b2a82a73d477db5f1c1ae241fc79320b8bae4618635", func := "loop.example/treenumbers/laws.FnGraft", spec := "fnGraft", inPlace := ["internal/reflectlite.ValueOf", "(internal/reflectlite.Value).Type", "(internal/reflectlite.Value).IsNil", "internal/reflectlite.TypeOf", "(internal/reflectlite.Value).Elem", "(internal/reflectlite.Value).Set"], unfollowed := true, recurses := true, named := ["errors.errorType"], apart := false, laid := [("errors.errorType", laid_errors_errorType)], narrowed := true }
def FnGraftUptoSaid : Prop := fnGraftUptoRow.holds Tryd.pinned (OpenSpec.upto fnGraftSpec)

/-- 'laws.FnLeafless', WHERE WHAT IT READS IS OF BULK AT MOST 1048576: true; the input reads as it did. -/
def fnLeaflessUptoRow : OpenClaim := { program := "ytchikdpkkiaonaadoor", sum := "d29537550a278bf9e4fa0b2a82a73d477db5f1c1ae241fc79320b8bae4618635", func := "loop.example/treenumbers/laws.FnLeafless", spec := "fnLeafless", inPlace := ["internal/bytealg.CountString", "internal/bytealg.IndexByteString", "internal/bytealg.IndexString", "internal/abi.NoEscape", "internal/bytealg.MakeNoZero"], recurses := true, named := ["internal/bytealg.MaxLen", "unicode/utf8.first", "unicode/utf8.acceptRanges"], apart := false, laid := [("unicode/utf8.acceptRanges", laid_unicode_utf8_acceptRanges), ("unicode/utf8.first", laid_unicode_utf8_first)], narrowed := true }
def FnLeaflessUptoSaid : Prop := fnLeaflessUptoRow.holds Tryd.pinned (OpenSpec.upto fnLeaflessSpec)

/-- 'laws.FnExactCutPrune', WHERE WHAT IT READS IS OF BULK AT MOST 1048576: true; the input reads as it did. -/
def fnExactCutPruneUptoRow : OpenClaim := { program := "ytchikdpkkiaonaadoor", sum := "d29537550a278bf9e4fa0b2a82a73d477db5f1c1ae241fc79320b8bae4618635", func := "loop.example/treenumbers/laws.FnExactCutPrune", spec := "fnExactCutPrune", inPlace := ["internal/reflectlite.ValueOf", "(internal/reflectlite.Value).Type", "(internal/reflectlite.Value).IsNil", "internal/reflectlite.TypeOf", "(internal/reflectlite.Value).Elem", "(internal/reflectlite.Value).Set"], unfollowed := true, recurses := true, named := ["errors.errorType"], apart := false, laid := [("errors.errorType", laid_errors_errorType)], narrowed := true }
def FnExactCutPruneUptoSaid : Prop := fnExactCutPruneUptoRow.holds Tryd.pinned (OpenSpec.upto fnExactCutPruneSpec)

/-- 'laws.FnExactCutGraft', WHERE WHAT IT READS IS OF BULK AT MOST 1048576: true; the input reads as it did. -/
def fnExactCutGraftUptoRow : OpenClaim := { program := "ytchikdpkkiaonaadoor", sum := "d29537550a278bf9e4fa0b2a82a73d477db5f1c1ae241fc79320b8bae4618635", func := "loop.example/treenumbers/laws.FnExactCutGraft", spec := "fnExactCutGraft", inPlace := ["internal/reflectlite.ValueOf", "(internal/reflectlite.Value).Type", "(internal/reflectlite.Value).IsNil", "internal/reflectlite.TypeOf", "(internal/reflectlite.Value).Elem", "(internal/reflectlite.Value).Set"], unfollowed := true, recurses := true, named := ["errors.errorType"], apart := false, laid := [("errors.errorType", laid_errors_errorType)], narrowed := true }
def FnExactCutGraftUptoSaid : Prop := fnExactCutGraftUptoRow.holds Tryd.pinned (OpenSpec.upto fnExactCutGraftSpec)

/-- 'laws.FnExactCutLeaf', WHERE WHAT IT READS IS OF BULK AT MOST 1048576: true; the input reads as it did. -/
def fnExactCutLeafUptoRow : OpenClaim := { program := "ytchikdpkkiaonaadoor", sum := "d29537550a278bf9e4fa0b2a82a73d477db5f1c1ae241fc79320b8bae4618635", func := "loop.example/treenumbers/laws.FnExactCutLeaf", spec := "fnExactCutLeaf", inPlace := ["internal/bytealg.CountString", "internal/bytealg.IndexByteString", "internal/bytealg.IndexString", "internal/abi.NoEscape", "internal/bytealg.MakeNoZero"], named := ["internal/bytealg.MaxLen", "unicode/utf8.first", "unicode/utf8.acceptRanges"], apart := false, laid := [("unicode/utf8.acceptRanges", laid_unicode_utf8_acceptRanges), ("unicode/utf8.first", laid_unicode_utf8_first)], narrowed := true }
def FnExactCutLeafUptoSaid : Prop := fnExactCutLeafUptoRow.holds Tryd.pinned (OpenSpec.upto fnExactCutLeafSpec)

end Rows
end Go.Proofs.YtchikdpkkiaonaaDoor
