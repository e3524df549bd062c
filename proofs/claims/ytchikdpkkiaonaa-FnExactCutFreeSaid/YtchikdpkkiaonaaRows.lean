/-
  No cell of these rows narrows 'for every input' (looked for: loops, veiled, ifaces, maps, wideKeys, modest, calm, conditions, laid).
  DERIVED. THE GIVEN ROWS OF THIS SEAT. 7 by the template 'for every input the law returns true; each argument reads behind the call as it read before'; 0 by the template 'total and deterministic' (their statements: YtchikdpkkiaonaaTotals.lean).
  GIVEN WITH THE SEED: the statements are not yours to turn. If you find one false, say at which input.
  Laid BY PROGRAM, IN A SANDBOX (cutbox-rows.mjs): the forced cells as the released guide's own fill.sh prints them over the translation a368678480b8cb6f… (all of the seat's roots in one cut). By AI agents, Wed Nov 11 2026. No macro, syntax, notation, axiom, sorry.
-/
import Derived.Test.YtchikdpkkiaonaaChecked
import GoSem.Claim
import GoSem.ClaimJoined
import GoSem.ClaimMapViews
import Derived.JoinedTies
import Derived.KernelRfl
namespace Go.Proofs.Ytchikdpkkiaonaa
/- THE CELL 'sum', in the pinned program and in every row, IS THE sha256 OF THE DUMP (.gsa) THAT YtchikdpkkiaonaaProg.lean LOADS. Nothing in Lean hashes anything: it is a label: what it is worth is what the hold of that sum in a sandbox is worth. -/
noncomputable def Try.pinned : Pinned := { name := "ytchikdpkkiaonaa", sum := "a368678480b8cb6f6a35e3a96805f485d6c7fbeb605060d414775df07f84423b", checked := Try.checked }
namespace Rows
def none {H : Type} : Left H := { results := [], args := [] }

/-- 'laws.FnTops': WHATEVER THE INPUT: true; the input reads as it did. -/
def fnTopsSpec : ChangeSpec := { name := "fnTops", fn := fun _ => fun
  | [d] => { results := [.lit (.bool true)], args := [d] }
  | _ => none }
def fnTopsRow : OpenClaim := { program := "ytchikdpkkiaonaa", sum := "a368678480b8cb6f6a35e3a96805f485d6c7fbeb605060d414775df07f84423b", func := "loop.example/treenumbers/laws.FnTops", spec := "fnTops", inPlace := ["internal/abi.NoEscape", "internal/bytealg.MakeNoZero"], recurses := true, apart := false }
def FnTopsSaid : Prop := fnTopsRow.holds Try.pinned (OpenSpec.ofChange fnTopsSpec)

/-- ITS FALSE NEIGHBOUR: 'it returns false'. Refute it at one input. -/
def fnTopsWrong : ChangeSpec := { name := "fnTops", fn := fun _ => fun
  | [d] => { results := [.lit (.bool false)], args := [d] }
  | _ => none }
def FnTopsWrongFalsely : Prop := fnTopsRow.holds Try.pinned (OpenSpec.ofChange fnTopsWrong)

/-- 'laws.FnFreeMost': WHATEVER THE INPUT: true; the input reads as it did. -/
def fnFreeMostSpec : ChangeSpec := { name := "fnFreeMost", fn := fun _ => fun
  | [d] => { results := [.lit (.bool true)], args := [d] }
  | _ => none }
def fnFreeMostRow : OpenClaim := { program := "ytchikdpkkiaonaa", sum := "a368678480b8cb6f6a35e3a96805f485d6c7fbeb605060d414775df07f84423b", func := "loop.example/treenumbers/laws.FnFreeMost", spec := "fnFreeMost", unfollowed := true, recurses := true, apart := false }
def FnFreeMostSaid : Prop := fnFreeMostRow.holds Try.pinned (OpenSpec.ofChange fnFreeMostSpec)

/-- ITS FALSE NEIGHBOUR: 'it returns false'. Refute it at one input. -/
def fnFreeMostWrong : ChangeSpec := { name := "fnFreeMost", fn := fun _ => fun
  | [d] => { results := [.lit (.bool false)], args := [d] }
  | _ => none }
def FnFreeMostWrongFalsely : Prop := fnFreeMostRow.holds Try.pinned (OpenSpec.ofChange fnFreeMostWrong)

/-- 'laws.FnExactCutTops': WHATEVER THE INPUT: true; the input reads as it did. -/
def fnExactCutTopsSpec : ChangeSpec := { name := "fnExactCutTops", fn := fun _ => fun
  | [d] => { results := [.lit (.bool true)], args := [d] }
  | _ => none }
def fnExactCutTopsRow : OpenClaim := { program := "ytchikdpkkiaonaa", sum := "a368678480b8cb6f6a35e3a96805f485d6c7fbeb605060d414775df07f84423b", func := "loop.example/treenumbers/laws.FnExactCutTops", spec := "fnExactCutTops", recurses := true, apart := false }
def FnExactCutTopsSaid : Prop := fnExactCutTopsRow.holds Try.pinned (OpenSpec.ofChange fnExactCutTopsSpec)

/-- ITS FALSE NEIGHBOUR: 'it returns false'. Refute it at one input. -/
def fnExactCutTopsWrong : ChangeSpec := { name := "fnExactCutTops", fn := fun _ => fun
  | [d] => { results := [.lit (.bool false)], args := [d] }
  | _ => none }
def FnExactCutTopsWrongFalsely : Prop := fnExactCutTopsRow.holds Try.pinned (OpenSpec.ofChange fnExactCutTopsWrong)

/-- 'laws.FnExactCutCount': WHATEVER THE INPUT: true; the input reads as it did. -/
def fnExactCutCountSpec : ChangeSpec := { name := "fnExactCutCount", fn := fun _ => fun
  | [d] => { results := [.lit (.bool true)], args := [d] }
  | _ => none }
def fnExactCutCountRow : OpenClaim := { program := "ytchikdpkkiaonaa", sum := "a368678480b8cb6f6a35e3a96805f485d6c7fbeb605060d414775df07f84423b", func := "loop.example/treenumbers/laws.FnExactCutCount", spec := "fnExactCutCount", unfollowed := true, recurses := true, apart := false }
def FnExactCutCountSaid : Prop := fnExactCutCountRow.holds Try.pinned (OpenSpec.ofChange fnExactCutCountSpec)

/-- ITS FALSE NEIGHBOUR: 'it returns false'. Refute it at one input. -/
def fnExactCutCountWrong : ChangeSpec := { name := "fnExactCutCount", fn := fun _ => fun
  | [d] => { results := [.lit (.bool false)], args := [d] }
  | _ => none }
def FnExactCutCountWrongFalsely : Prop := fnExactCutCountRow.holds Try.pinned (OpenSpec.ofChange fnExactCutCountWrong)

/-- 'laws.FnExactCutFree': WHATEVER THE INPUT: true; the input reads as it did. -/
def fnExactCutFreeSpec : ChangeSpec := { name := "fnExactCutFree", fn := fun _ => fun
  | [d] => { results := [.lit (.bool true)], args := [d] }
  | _ => none }
def fnExactCutFreeRow : OpenClaim := { program := "ytchikdpkkiaonaa", sum := "a368678480b8cb6f6a35e3a96805f485d6c7fbeb605060d414775df07f84423b", func := "loop.example/treenumbers/laws.FnExactCutFree", spec := "fnExactCutFree", unfollowed := true, recurses := true, apart := false }
def FnExactCutFreeSaid : Prop := fnExactCutFreeRow.holds Try.pinned (OpenSpec.ofChange fnExactCutFreeSpec)

/-- ITS FALSE NEIGHBOUR: 'it returns false'. Refute it at one input. -/
def fnExactCutFreeWrong : ChangeSpec := { name := "fnExactCutFree", fn := fun _ => fun
  | [d] => { results := [.lit (.bool false)], args := [d] }
  | _ => none }
def FnExactCutFreeWrongFalsely : Prop := fnExactCutFreeRow.holds Try.pinned (OpenSpec.ofChange fnExactCutFreeWrong)

/-- 'laws.FnExactCutFreeCount': WHATEVER THE INPUT: true; the input reads as it did. -/
def fnExactCutFreeCountSpec : ChangeSpec := { name := "fnExactCutFreeCount", fn := fun _ => fun
  | [d] => { results := [.lit (.bool true)], args := [d] }
  | _ => none }
def fnExactCutFreeCountRow : OpenClaim := { program := "ytchikdpkkiaonaa", sum := "a368678480b8cb6f6a35e3a96805f485d6c7fbeb605060d414775df07f84423b", func := "loop.example/treenumbers/laws.FnExactCutFreeCount", spec := "fnExactCutFreeCount", unfollowed := true, recurses := true, apart := false }
def FnExactCutFreeCountSaid : Prop := fnExactCutFreeCountRow.holds Try.pinned (OpenSpec.ofChange fnExactCutFreeCountSpec)

/-- ITS FALSE NEIGHBOUR: 'it returns false'. Refute it at one input. -/
def fnExactCutFreeCountWrong : ChangeSpec := { name := "fnExactCutFreeCount", fn := fun _ => fun
  | [d] => { results := [.lit (.bool false)], args := [d] }
  | _ => none }
def FnExactCutFreeCountWrongFalsely : Prop := fnExactCutFreeCountRow.holds Try.pinned (OpenSpec.ofChange fnExactCutFreeCountWrong)

/-- 'laws.FnExactCutMatch': WHATEVER THE INPUT: true; the input reads as it did. -/
def fnExactCutMatchSpec : ChangeSpec := { name := "fnExactCutMatch", fn := fun _ => fun
  | [d] => { results := [.lit (.bool true)], args := [d] }
  | _ => none }
def fnExactCutMatchRow : OpenClaim := { program := "ytchikdpkkiaonaa", sum := "a368678480b8cb6f6a35e3a96805f485d6c7fbeb605060d414775df07f84423b", func := "loop.example/treenumbers/laws.FnExactCutMatch", spec := "fnExactCutMatch", unfollowed := true, recurses := true, apart := false }
def FnExactCutMatchSaid : Prop := fnExactCutMatchRow.holds Try.pinned (OpenSpec.ofChange fnExactCutMatchSpec)

/-- ITS FALSE NEIGHBOUR: 'it returns false'. Refute it at one input. -/
def fnExactCutMatchWrong : ChangeSpec := { name := "fnExactCutMatch", fn := fun _ => fun
  | [d] => { results := [.lit (.bool false)], args := [d] }
  | _ => none }
def FnExactCutMatchWrongFalsely : Prop := fnExactCutMatchRow.holds Try.pinned (OpenSpec.ofChange fnExactCutMatchWrong)

/- THE SECOND FORM. 'bulk': how many values and letters a reading holds, each counted each time it is reached (what is shared counts as often as it is met; a slice's spare places count too). A statement '..UptoSaid' is the law's where the arguments, and the package variables that the reading takes, are together of bulk at most 1048576: NARROWER than '..Said'. Prove '..Said' where nothing that the law and all that it calls make is longer than what came in: it says more and counts as full. Else prove '..UptoSaid'. A law counts once. -/
mutual
def uptoBulk {H : Type} : DataW H → Nat
  | .lit (.string bytes) => bytes.length + 1
  | .lit _ => 1
  | .nil => 1
  | .ptr d => uptoBulk d + 1
  | .slice elems spare => uptoBulkAll elems + uptoBulkAll spare + 1
  | .agg parts => uptoBulkAll parts + 1
  | .iface _ d => uptoBulk d + 1
  | .map entries => uptoBulkEntries entries + 1
  | .held _ => 1
def uptoBulkAll {H : Type} : List (DataW H) → Nat
  | [] => 0
  | d :: r => uptoBulk d + uptoBulkAll r
def uptoBulkEntries {H : Type} : List (Lit × DataW H) → Nat
  | [] => 0
  | x :: r => uptoBulkEntry x + uptoBulkEntries r
def uptoBulkEntry {H : Type} : Lit × DataW H → Nat
  | (.string bytes, d) => bytes.length + uptoBulk d + 1
  | (_, d) => uptoBulk d + 1
 end
def uptoSmall : (H : Type) → List (DataW H) → Bool := fun _ ds => decide (uptoBulkAll ds ≤ 1048576)
def OpenSpec.upto (s : _root_.Go.ChangeSpec) : _root_.Go.OpenSpec := { _root_.Go.OpenSpec.ofChange s with cond := some uptoSmall }

/-- 'laws.FnTops', WHERE WHAT IT READS IS OF BULK AT MOST 1048576: true; the input reads as it did. -/
def fnTopsUptoRow : OpenClaim := { program := "ytchikdpkkiaonaa", sum := "a368678480b8cb6f6a35e3a96805f485d6c7fbeb605060d414775df07f84423b", func := "loop.example/treenumbers/laws.FnTops", spec := "fnTops", inPlace := ["internal/abi.NoEscape", "internal/bytealg.MakeNoZero"], recurses := true, apart := false, narrowed := true }
def FnTopsUptoSaid : Prop := fnTopsUptoRow.holds Try.pinned (OpenSpec.upto fnTopsSpec)

/-- 'laws.FnFreeMost', WHERE WHAT IT READS IS OF BULK AT MOST 1048576: true; the input reads as it did. -/
def fnFreeMostUptoRow : OpenClaim := { program := "ytchikdpkkiaonaa", sum := "a368678480b8cb6f6a35e3a96805f485d6c7fbeb605060d414775df07f84423b", func := "loop.example/treenumbers/laws.FnFreeMost", spec := "fnFreeMost", unfollowed := true, recurses := true, apart := false, narrowed := true }
def FnFreeMostUptoSaid : Prop := fnFreeMostUptoRow.holds Try.pinned (OpenSpec.upto fnFreeMostSpec)

/-- 'laws.FnExactCutTops', WHERE WHAT IT READS IS OF BULK AT MOST 1048576: true; the input reads as it did. -/
def fnExactCutTopsUptoRow : OpenClaim := { program := "ytchikdpkkiaonaa", sum := "a368678480b8cb6f6a35e3a96805f485d6c7fbeb605060d414775df07f84423b", func := "loop.example/treenumbers/laws.FnExactCutTops", spec := "fnExactCutTops", recurses := true, apart := false, narrowed := true }
def FnExactCutTopsUptoSaid : Prop := fnExactCutTopsUptoRow.holds Try.pinned (OpenSpec.upto fnExactCutTopsSpec)

/-- 'laws.FnExactCutCount', WHERE WHAT IT READS IS OF BULK AT MOST 1048576: true; the input reads as it did. -/
def fnExactCutCountUptoRow : OpenClaim := { program := "ytchikdpkkiaonaa", sum := "a368678480b8cb6f6a35e3a96805f485d6c7fbeb605060d414775df07f84423b", func := "loop.example/treenumbers/laws.FnExactCutCount", spec := "fnExactCutCount", unfollowed := true, recurses := true, apart := false, narrowed := true }
def FnExactCutCountUptoSaid : Prop := fnExactCutCountUptoRow.holds Try.pinned (OpenSpec.upto fnExactCutCountSpec)

/-- 'laws.FnExactCutFree', WHERE WHAT IT READS IS OF BULK AT MOST 1048576: true; the input reads as it did. -/
def fnExactCutFreeUptoRow : OpenClaim := { program := "ytchikdpkkiaonaa", sum := "a368678480b8cb6f6a35e3a96805f485d6c7fbeb605060d414775df07f84423b", func := "loop.example/treenumbers/laws.FnExactCutFree", spec := "fnExactCutFree", unfollowed := true, recurses := true, apart := false, narrowed := true }
def FnExactCutFreeUptoSaid : Prop := fnExactCutFreeUptoRow.holds Try.pinned (OpenSpec.upto fnExactCutFreeSpec)

/-- 'laws.FnExactCutFreeCount', WHERE WHAT IT READS IS OF BULK AT MOST 1048576: true; the input reads as it did. -/
def fnExactCutFreeCountUptoRow : OpenClaim := { program := "ytchikdpkkiaonaa", sum := "a368678480b8cb6f6a35e3a96805f485d6c7fbeb605060d414775df07f84423b", func := "loop.example/treenumbers/laws.FnExactCutFreeCount", spec := "fnExactCutFreeCount", unfollowed := true, recurses := true, apart := false, narrowed := true }
def FnExactCutFreeCountUptoSaid : Prop := fnExactCutFreeCountUptoRow.holds Try.pinned (OpenSpec.upto fnExactCutFreeCountSpec)

/-- 'laws.FnExactCutMatch', WHERE WHAT IT READS IS OF BULK AT MOST 1048576: true; the input reads as it did. -/
def fnExactCutMatchUptoRow : OpenClaim := { program := "ytchikdpkkiaonaa", sum := "a368678480b8cb6f6a35e3a96805f485d6c7fbeb605060d414775df07f84423b", func := "loop.example/treenumbers/laws.FnExactCutMatch", spec := "fnExactCutMatch", unfollowed := true, recurses := true, apart := false, narrowed := true }
def FnExactCutMatchUptoSaid : Prop := fnExactCutMatchUptoRow.holds Try.pinned (OpenSpec.upto fnExactCutMatchSpec)

end Rows
end Go.Proofs.Ytchikdpkkiaonaa
