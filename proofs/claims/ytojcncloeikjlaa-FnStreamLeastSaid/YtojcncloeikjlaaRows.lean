/-
  No cell of these rows narrows 'for every input' (looked for: loops, veiled, ifaces, maps, wideKeys, modest, calm, conditions, laid).
  DERIVED. THE GIVEN ROWS OF THIS SEAT. 10 by the template 'for every input the law returns true; each argument reads behind the call as it read before'; 0 by the template 'total and deterministic' (their statements: YtojcncloeikjlaaTotals.lean).
  GIVEN WITH THE SEED: the statements are not yours to turn. If you find one false, say at which input.
  Laid BY PROGRAM, IN A SANDBOX (cutbox-rows.mjs): the forced cells as the released guide's own fill.sh prints them over the translation 9d5ef4f928acb2b4… (all of the seat's roots in one cut). By AI agents, Wed Nov 11 2026. No macro, syntax, notation, axiom, sorry.
-/
import Derived.Test.YtojcncloeikjlaaChecked
import GoSem.Claim
import GoSem.ClaimJoined
import GoSem.ClaimMapViews
import Derived.JoinedTies
import Derived.KernelRfl
namespace Go.Proofs.Ytojcncloeikjlaa
/- THE CELL 'sum', in the pinned program and in every row, IS THE sha256 OF THE DUMP (.gsa) THAT YtojcncloeikjlaaProg.lean LOADS. Nothing in Lean hashes anything: it is a label: what it is worth is what the hold of that sum in a sandbox is worth. -/
noncomputable def Try.pinned : Pinned := { name := "ytojcncloeikjlaa", sum := "9d5ef4f928acb2b45ebf0b1f0f58786dd1fa6fa3d0e7a8c1dfe8ef912ef60ba7", checked := Try.checked }
namespace Rows
def none {H : Type} : Left H := { results := [], args := [] }

/-- 'laws.FnStreams': WHATEVER THE INPUT: true; the input reads as it did. -/
def fnStreamsSpec : ChangeSpec := { name := "fnStreams", fn := fun _ => fun
  | [d] => { results := [.lit (.bool true)], args := [d] }
  | _ => none }
def fnStreamsRow : OpenClaim := { program := "ytojcncloeikjlaa", sum := "9d5ef4f928acb2b45ebf0b1f0f58786dd1fa6fa3d0e7a8c1dfe8ef912ef60ba7", func := "loop.example/treenumbers/laws.FnStreams", spec := "fnStreams", inPlace := ["(*sync.WaitGroup).Add", "internal/race.ReleaseMerge", "internal/race.Disable", "internal/race.Enable", "internal/synctest.IsInBubble", "internal/synctest.Associate[sync.WaitGroup]", "sync.fatal", "sync/atomic.OrUint64", "sync/atomic.AddUint64", "internal/race.Read", "sync/atomic.LoadUint64", "sync/atomic.StoreUint64", "internal/synctest.Disassociate[sync.WaitGroup]", "sync.runtime_Semrelease", "(*sync.WaitGroup).Done", "(*sync.WaitGroup).Wait", "internal/race.Acquire", "internal/synctest.IsAssociated[sync.WaitGroup]", "sync/atomic.CompareAndSwapUint64", "internal/race.Write", "sync.runtime_SemacquireWaitGroup"], unfollowed := true, recurses := true, leaving := true, apart := false }
def FnStreamsSaid : Prop := fnStreamsRow.holds Try.pinned (OpenSpec.ofChange fnStreamsSpec)

/-- ITS FALSE NEIGHBOUR: 'it returns false'. Refute it at one input. -/
def fnStreamsWrong : ChangeSpec := { name := "fnStreams", fn := fun _ => fun
  | [d] => { results := [.lit (.bool false)], args := [d] }
  | _ => none }
def FnStreamsWrongFalsely : Prop := fnStreamsRow.holds Try.pinned (OpenSpec.ofChange fnStreamsWrong)

/-- 'laws.FnStreamOrder': WHATEVER THE INPUT: true; the input reads as it did. -/
def fnStreamOrderSpec : ChangeSpec := { name := "fnStreamOrder", fn := fun _ => fun
  | [d] => { results := [.lit (.bool true)], args := [d] }
  | _ => none }
def fnStreamOrderRow : OpenClaim := { program := "ytojcncloeikjlaa", sum := "9d5ef4f928acb2b45ebf0b1f0f58786dd1fa6fa3d0e7a8c1dfe8ef912ef60ba7", func := "loop.example/treenumbers/laws.FnStreamOrder", spec := "fnStreamOrder", unfollowed := true, recurses := true, leaving := true, apart := false }
def FnStreamOrderSaid : Prop := fnStreamOrderRow.holds Try.pinned (OpenSpec.ofChange fnStreamOrderSpec)

/-- ITS FALSE NEIGHBOUR: 'it returns false'. Refute it at one input. -/
def fnStreamOrderWrong : ChangeSpec := { name := "fnStreamOrder", fn := fun _ => fun
  | [d] => { results := [.lit (.bool false)], args := [d] }
  | _ => none }
def FnStreamOrderWrongFalsely : Prop := fnStreamOrderRow.holds Try.pinned (OpenSpec.ofChange fnStreamOrderWrong)

/-- 'laws.FnStreamCounts': WHATEVER THE INPUT: true; the input reads as it did. -/
def fnStreamCountsSpec : ChangeSpec := { name := "fnStreamCounts", fn := fun _ => fun
  | [d] => { results := [.lit (.bool true)], args := [d] }
  | _ => none }
def fnStreamCountsRow : OpenClaim := { program := "ytojcncloeikjlaa", sum := "9d5ef4f928acb2b45ebf0b1f0f58786dd1fa6fa3d0e7a8c1dfe8ef912ef60ba7", func := "loop.example/treenumbers/laws.FnStreamCounts", spec := "fnStreamCounts", unfollowed := true, recurses := true, leaving := true, apart := false }
def FnStreamCountsSaid : Prop := fnStreamCountsRow.holds Try.pinned (OpenSpec.ofChange fnStreamCountsSpec)

/-- ITS FALSE NEIGHBOUR: 'it returns false'. Refute it at one input. -/
def fnStreamCountsWrong : ChangeSpec := { name := "fnStreamCounts", fn := fun _ => fun
  | [d] => { results := [.lit (.bool false)], args := [d] }
  | _ => none }
def FnStreamCountsWrongFalsely : Prop := fnStreamCountsRow.holds Try.pinned (OpenSpec.ofChange fnStreamCountsWrong)

/-- 'laws.FnRegisters': WHATEVER THE INPUT: true; the input reads as it did. -/
def fnRegistersSpec : ChangeSpec := { name := "fnRegisters", fn := fun _ => fun
  | [d] => { results := [.lit (.bool true)], args := [d] }
  | _ => none }
def fnRegistersRow : OpenClaim := { program := "ytojcncloeikjlaa", sum := "9d5ef4f928acb2b45ebf0b1f0f58786dd1fa6fa3d0e7a8c1dfe8ef912ef60ba7", func := "loop.example/treenumbers/laws.FnRegisters", spec := "fnRegisters", inPlace := ["(*sync.WaitGroup).Add", "internal/race.ReleaseMerge", "internal/race.Disable", "internal/race.Enable", "internal/synctest.IsInBubble", "internal/synctest.Associate[sync.WaitGroup]", "sync.fatal", "sync/atomic.OrUint64", "sync/atomic.AddUint64", "internal/race.Read", "sync/atomic.LoadUint64", "sync/atomic.StoreUint64", "internal/synctest.Disassociate[sync.WaitGroup]", "sync.runtime_Semrelease", "(*sync.WaitGroup).Done", "(*sync.WaitGroup).Wait", "internal/race.Acquire", "internal/synctest.IsAssociated[sync.WaitGroup]", "sync/atomic.CompareAndSwapUint64", "internal/race.Write", "sync.runtime_SemacquireWaitGroup"], unfollowed := true, recurses := true, leaving := true, apart := false }
def FnRegistersSaid : Prop := fnRegistersRow.holds Try.pinned (OpenSpec.ofChange fnRegistersSpec)

/-- ITS FALSE NEIGHBOUR: 'it returns false'. Refute it at one input. -/
def fnRegistersWrong : ChangeSpec := { name := "fnRegisters", fn := fun _ => fun
  | [d] => { results := [.lit (.bool false)], args := [d] }
  | _ => none }
def FnRegistersWrongFalsely : Prop := fnRegistersRow.holds Try.pinned (OpenSpec.ofChange fnRegistersWrong)

/-- 'laws.FnStreamLengths': WHATEVER THE INPUT: true; the input reads as it did. -/
def fnStreamLengthsSpec : ChangeSpec := { name := "fnStreamLengths", fn := fun _ => fun
  | [d] => { results := [.lit (.bool true)], args := [d] }
  | _ => none }
def fnStreamLengthsRow : OpenClaim := { program := "ytojcncloeikjlaa", sum := "9d5ef4f928acb2b45ebf0b1f0f58786dd1fa6fa3d0e7a8c1dfe8ef912ef60ba7", func := "loop.example/treenumbers/laws.FnStreamLengths", spec := "fnStreamLengths", unfollowed := true, recurses := true, leaving := true, apart := false }
def FnStreamLengthsSaid : Prop := fnStreamLengthsRow.holds Try.pinned (OpenSpec.ofChange fnStreamLengthsSpec)

/-- ITS FALSE NEIGHBOUR: 'it returns false'. Refute it at one input. -/
def fnStreamLengthsWrong : ChangeSpec := { name := "fnStreamLengths", fn := fun _ => fun
  | [d] => { results := [.lit (.bool false)], args := [d] }
  | _ => none }
def FnStreamLengthsWrongFalsely : Prop := fnStreamLengthsRow.holds Try.pinned (OpenSpec.ofChange fnStreamLengthsWrong)

/-- 'laws.FnStreamLeast': WHATEVER THE INPUT: true; the input reads as it did. -/
def fnStreamLeastSpec : ChangeSpec := { name := "fnStreamLeast", fn := fun _ => fun
  | [d] => { results := [.lit (.bool true)], args := [d] }
  | _ => none }
def fnStreamLeastRow : OpenClaim := { program := "ytojcncloeikjlaa", sum := "9d5ef4f928acb2b45ebf0b1f0f58786dd1fa6fa3d0e7a8c1dfe8ef912ef60ba7", func := "loop.example/treenumbers/laws.FnStreamLeast", spec := "fnStreamLeast", apart := false }
def FnStreamLeastSaid : Prop := fnStreamLeastRow.holds Try.pinned (OpenSpec.ofChange fnStreamLeastSpec)

/-- ITS FALSE NEIGHBOUR: 'it returns false'. Refute it at one input. -/
def fnStreamLeastWrong : ChangeSpec := { name := "fnStreamLeast", fn := fun _ => fun
  | [d] => { results := [.lit (.bool false)], args := [d] }
  | _ => none }
def FnStreamLeastWrongFalsely : Prop := fnStreamLeastRow.holds Try.pinned (OpenSpec.ofChange fnStreamLeastWrong)

/-- 'laws.FnDeepest': WHATEVER THE INPUT: true; the input reads as it did. -/
def fnDeepestSpec : ChangeSpec := { name := "fnDeepest", fn := fun _ => fun
  | [d] => { results := [.lit (.bool true)], args := [d] }
  | _ => none }
def fnDeepestRow : OpenClaim := { program := "ytojcncloeikjlaa", sum := "9d5ef4f928acb2b45ebf0b1f0f58786dd1fa6fa3d0e7a8c1dfe8ef912ef60ba7", func := "loop.example/treenumbers/laws.FnDeepest", spec := "fnDeepest", unfollowed := true, recurses := true, leaving := true, apart := false }
def FnDeepestSaid : Prop := fnDeepestRow.holds Try.pinned (OpenSpec.ofChange fnDeepestSpec)

/-- ITS FALSE NEIGHBOUR: 'it returns false'. Refute it at one input. -/
def fnDeepestWrong : ChangeSpec := { name := "fnDeepest", fn := fun _ => fun
  | [d] => { results := [.lit (.bool false)], args := [d] }
  | _ => none }
def FnDeepestWrongFalsely : Prop := fnDeepestRow.holds Try.pinned (OpenSpec.ofChange fnDeepestWrong)

/-- 'laws.FnExactStreamOrders': WHATEVER THE INPUT: true; the input reads as it did. -/
def fnExactStreamOrdersSpec : ChangeSpec := { name := "fnExactStreamOrders", fn := fun _ => fun
  | [d] => { results := [.lit (.bool true)], args := [d] }
  | _ => none }
def fnExactStreamOrdersRow : OpenClaim := { program := "ytojcncloeikjlaa", sum := "9d5ef4f928acb2b45ebf0b1f0f58786dd1fa6fa3d0e7a8c1dfe8ef912ef60ba7", func := "loop.example/treenumbers/laws.FnExactStreamOrders", spec := "fnExactStreamOrders", inPlace := ["(*sync.WaitGroup).Add", "internal/race.ReleaseMerge", "internal/race.Disable", "internal/race.Enable", "internal/synctest.IsInBubble", "internal/synctest.Associate[sync.WaitGroup]", "sync.fatal", "sync/atomic.OrUint64", "sync/atomic.AddUint64", "internal/race.Read", "sync/atomic.LoadUint64", "sync/atomic.StoreUint64", "internal/synctest.Disassociate[sync.WaitGroup]", "sync.runtime_Semrelease", "(*sync.WaitGroup).Done", "(*sync.WaitGroup).Wait", "internal/race.Acquire", "internal/synctest.IsAssociated[sync.WaitGroup]", "sync/atomic.CompareAndSwapUint64", "internal/race.Write", "sync.runtime_SemacquireWaitGroup"], unfollowed := true, recurses := true, leaving := true, apart := false }
def FnExactStreamOrdersSaid : Prop := fnExactStreamOrdersRow.holds Try.pinned (OpenSpec.ofChange fnExactStreamOrdersSpec)

/-- ITS FALSE NEIGHBOUR: 'it returns false'. Refute it at one input. -/
def fnExactStreamOrdersWrong : ChangeSpec := { name := "fnExactStreamOrders", fn := fun _ => fun
  | [d] => { results := [.lit (.bool false)], args := [d] }
  | _ => none }
def FnExactStreamOrdersWrongFalsely : Prop := fnExactStreamOrdersRow.holds Try.pinned (OpenSpec.ofChange fnExactStreamOrdersWrong)

/-- 'laws.FnExactStreamOrder': WHATEVER THE INPUT: true; the input reads as it did. -/
def fnExactStreamOrderSpec : ChangeSpec := { name := "fnExactStreamOrder", fn := fun _ => fun
  | [d] => { results := [.lit (.bool true)], args := [d] }
  | _ => none }
def fnExactStreamOrderRow : OpenClaim := { program := "ytojcncloeikjlaa", sum := "9d5ef4f928acb2b45ebf0b1f0f58786dd1fa6fa3d0e7a8c1dfe8ef912ef60ba7", func := "loop.example/treenumbers/laws.FnExactStreamOrder", spec := "fnExactStreamOrder", unfollowed := true, recurses := true, leaving := true, apart := false }
def FnExactStreamOrderSaid : Prop := fnExactStreamOrderRow.holds Try.pinned (OpenSpec.ofChange fnExactStreamOrderSpec)

/-- ITS FALSE NEIGHBOUR: 'it returns false'. Refute it at one input. -/
def fnExactStreamOrderWrong : ChangeSpec := { name := "fnExactStreamOrder", fn := fun _ => fun
  | [d] => { results := [.lit (.bool false)], args := [d] }
  | _ => none }
def FnExactStreamOrderWrongFalsely : Prop := fnExactStreamOrderRow.holds Try.pinned (OpenSpec.ofChange fnExactStreamOrderWrong)

/-- 'laws.FnExactStreamCounts': WHATEVER THE INPUT: true; the input reads as it did. -/
def fnExactStreamCountsSpec : ChangeSpec := { name := "fnExactStreamCounts", fn := fun _ => fun
  | [d] => { results := [.lit (.bool true)], args := [d] }
  | _ => none }
def fnExactStreamCountsRow : OpenClaim := { program := "ytojcncloeikjlaa", sum := "9d5ef4f928acb2b45ebf0b1f0f58786dd1fa6fa3d0e7a8c1dfe8ef912ef60ba7", func := "loop.example/treenumbers/laws.FnExactStreamCounts", spec := "fnExactStreamCounts", unfollowed := true, recurses := true, leaving := true, apart := false }
def FnExactStreamCountsSaid : Prop := fnExactStreamCountsRow.holds Try.pinned (OpenSpec.ofChange fnExactStreamCountsSpec)

/-- ITS FALSE NEIGHBOUR: 'it returns false'. Refute it at one input. -/
def fnExactStreamCountsWrong : ChangeSpec := { name := "fnExactStreamCounts", fn := fun _ => fun
  | [d] => { results := [.lit (.bool false)], args := [d] }
  | _ => none }
def FnExactStreamCountsWrongFalsely : Prop := fnExactStreamCountsRow.holds Try.pinned (OpenSpec.ofChange fnExactStreamCountsWrong)

/- THE SECOND FORM. 'bulk': how many values and letters a reading holds, each counted each time it is reached (what is shared counts as often as it is met; a slice's spare places count too). A statement '..UptoSaid' is the law's where the arguments, and the package variables that the reading takes, are together of bulk at most 1048576: NARROWER than '..Said'. Prove '..Said' where nothing that the law and all that it calls make is longer than what came in: it says more and counts as full. Else prove '..UptoSaid'. A law counts once. -/
mutual
def uptoBulk {H : Type} : DataW H → Nat
  | .lit (.string bytes) => bytes.length + 1
  | .lit _ => 1
  | .nil => 1
  | .ptr d => uptoBulk d + 1
  | .slice elems spare => uptoBulkAll elems + uptoBulkAll spare + 1
  | .agg parts => uptoBulkAll parts + 1
  | .iface _ d => uptoBulk d + 1
  | .map entries => uptoBulkEntries entries + 1
  | .held _ => 1
def uptoBulkAll {H : Type} : List (DataW H) → Nat
  | [] => 0
  | d :: r => uptoBulk d + uptoBulkAll r
def uptoBulkEntries {H : Type} : List (Lit × DataW H) → Nat
  | [] => 0
  | x :: r => uptoBulkEntry x + uptoBulkEntries r
def uptoBulkEntry {H : Type} : Lit × DataW H → Nat
  | (.string bytes, d) => bytes.length + uptoBulk d + 1
  | (_, d) => uptoBulk d + 1
 end
def uptoSmall : (H : Type) → List (DataW H) → Bool := fun _ ds => decide (uptoBulkAll ds ≤ 1048576)
def OpenSpec.upto (s : _root_.Go.ChangeSpec) : _root_.Go.OpenSpec := { _root_.Go.OpenSpec.ofChange s with cond := some uptoSmall }

/-- 'laws.FnStreams', WHERE WHAT IT READS IS OF BULK AT MOST 1048576: true; the input reads as it did. -/
def fnStreamsUptoRow : OpenClaim := { program := "ytojcncloeikjlaa", sum := "9d5ef4f928acb2b45ebf0b1f0f58786dd1fa6fa3d0e7a8c1dfe8ef912ef60ba7", func := "loop.example/treenumbers/laws.FnStreams", spec := "fnStreams", inPlace := ["(*sync.WaitGroup).Add", "internal/race.ReleaseMerge", "internal/race.Disable", "internal/race.Enable", "internal/synctest.IsInBubble", "internal/synctest.Associate[sync.WaitGroup]", "sync.fatal", "sync/atomic.OrUint64", "sync/atomic.AddUint64", "internal/race.Read", "sync/atomic.LoadUint64", "sync/atomic.StoreUint64", "internal/synctest.Disassociate[sync.WaitGroup]", "sync.runtime_Semrelease", "(*sync.WaitGroup).Done", "(*sync.WaitGroup).Wait", "internal/race.Acquire", "internal/synctest.IsAssociated[sync.WaitGroup]", "sync/atomic.CompareAndSwapUint64", "internal/race.Write", "sync.runtime_SemacquireWaitGroup"], unfollowed := true, recurses := true, leaving := true, apart := false, narrowed := true }
def FnStreamsUptoSaid : Prop := fnStreamsUptoRow.holds Try.pinned (OpenSpec.upto fnStreamsSpec)

/-- 'laws.FnStreamOrder', WHERE WHAT IT READS IS OF BULK AT MOST 1048576: true; the input reads as it did. -/
def fnStreamOrderUptoRow : OpenClaim := { program := "ytojcncloeikjlaa", sum := "9d5ef4f928acb2b45ebf0b1f0f58786dd1fa6fa3d0e7a8c1dfe8ef912ef60ba7", func := "loop.example/treenumbers/laws.FnStreamOrder", spec := "fnStreamOrder", unfollowed := true, recurses := true, leaving := true, apart := false, narrowed := true }
def FnStreamOrderUptoSaid : Prop := fnStreamOrderUptoRow.holds Try.pinned (OpenSpec.upto fnStreamOrderSpec)

/-- 'laws.FnStreamCounts', WHERE WHAT IT READS IS OF BULK AT MOST 1048576: true; the input reads as it did. -/
def fnStreamCountsUptoRow : OpenClaim := { program := "ytojcncloeikjlaa", sum := "9d5ef4f928acb2b45ebf0b1f0f58786dd1fa6fa3d0e7a8c1dfe8ef912ef60ba7", func := "loop.example/treenumbers/laws.FnStreamCounts", spec := "fnStreamCounts", unfollowed := true, recurses := true, leaving := true, apart := false, narrowed := true }
def FnStreamCountsUptoSaid : Prop := fnStreamCountsUptoRow.holds Try.pinned (OpenSpec.upto fnStreamCountsSpec)

/-- 'laws.FnRegisters', WHERE WHAT IT READS IS OF BULK AT MOST 1048576: true; the input reads as it did. -/
def fnRegistersUptoRow : OpenClaim := { program := "ytojcncloeikjlaa", sum := "9d5ef4f928acb2b45ebf0b1f0f58786dd1fa6fa3d0e7a8c1dfe8ef912ef60ba7", func := "loop.example/treenumbers/laws.FnRegisters", spec := "fnRegisters", inPlace := ["(*sync.WaitGroup).Add", "internal/race.ReleaseMerge", "internal/race.Disable", "internal/race.Enable", "internal/synctest.IsInBubble", "internal/synctest.Associate[sync.WaitGroup]", "sync.fatal", "sync/atomic.OrUint64", "sync/atomic.AddUint64", "internal/race.Read", "sync/atomic.LoadUint64", "sync/atomic.StoreUint64", "internal/synctest.Disassociate[sync.WaitGroup]", "sync.runtime_Semrelease", "(*sync.WaitGroup).Done", "(*sync.WaitGroup).Wait", "internal/race.Acquire", "internal/synctest.IsAssociated[sync.WaitGroup]", "sync/atomic.CompareAndSwapUint64", "internal/race.Write", "sync.runtime_SemacquireWaitGroup"], unfollowed := true, recurses := true, leaving := true, apart := false, narrowed := true }
def FnRegistersUptoSaid : Prop := fnRegistersUptoRow.holds Try.pinned (OpenSpec.upto fnRegistersSpec)

/-- 'laws.FnStreamLengths', WHERE WHAT IT READS IS OF BULK AT MOST 1048576: true; the input reads as it did. -/
def fnStreamLengthsUptoRow : OpenClaim := { program := "ytojcncloeikjlaa", sum := "9d5ef4f928acb2b45ebf0b1f0f58786dd1fa6fa3d0e7a8c1dfe8ef912ef60ba7", func := "loop.example/treenumbers/laws.FnStreamLengths", spec := "fnStreamLengths", unfollowed := true, recurses := true, leaving := true, apart := false, narrowed := true }
def FnStreamLengthsUptoSaid : Prop := fnStreamLengthsUptoRow.holds Try.pinned (OpenSpec.upto fnStreamLengthsSpec)

/-- 'laws.FnStreamLeast', WHERE WHAT IT READS IS OF BULK AT MOST 1048576: true; the input reads as it did. -/
def fnStreamLeastUptoRow : OpenClaim := { program := "ytojcncloeikjlaa", sum := "9d5ef4f928acb2b45ebf0b1f0f58786dd1fa6fa3d0e7a8c1dfe8ef912ef60ba7", func := "loop.example/treenumbers/laws.FnStreamLeast", spec := "fnStreamLeast", apart := false, narrowed := true }
def FnStreamLeastUptoSaid : Prop := fnStreamLeastUptoRow.holds Try.pinned (OpenSpec.upto fnStreamLeastSpec)

/-- 'laws.FnDeepest', WHERE WHAT IT READS IS OF BULK AT MOST 1048576: true; the input reads as it did. -/
def fnDeepestUptoRow : OpenClaim := { program := "ytojcncloeikjlaa", sum := "9d5ef4f928acb2b45ebf0b1f0f58786dd1fa6fa3d0e7a8c1dfe8ef912ef60ba7", func := "loop.example/treenumbers/laws.FnDeepest", spec := "fnDeepest", unfollowed := true, recurses := true, leaving := true, apart := false, narrowed := true }
def FnDeepestUptoSaid : Prop := fnDeepestUptoRow.holds Try.pinned (OpenSpec.upto fnDeepestSpec)

/-- 'laws.FnExactStreamOrders', WHERE WHAT IT READS IS OF BULK AT MOST 1048576: true; the input reads as it did. -/
def fnExactStreamOrdersUptoRow : OpenClaim := { program := "ytojcncloeikjlaa", sum := "9d5ef4f928acb2b45ebf0b1f0f58786dd1fa6fa3d0e7a8c1dfe8ef912ef60ba7", func := "loop.example/treenumbers/laws.FnExactStreamOrders", spec := "fnExactStreamOrders", inPlace := ["(*sync.WaitGroup).Add", "internal/race.ReleaseMerge", "internal/race.Disable", "internal/race.Enable", "internal/synctest.IsInBubble", "internal/synctest.Associate[sync.WaitGroup]", "sync.fatal", "sync/atomic.OrUint64", "sync/atomic.AddUint64", "internal/race.Read", "sync/atomic.LoadUint64", "sync/atomic.StoreUint64", "internal/synctest.Disassociate[sync.WaitGroup]", "sync.runtime_Semrelease", "(*sync.WaitGroup).Done", "(*sync.WaitGroup).Wait", "internal/race.Acquire", "internal/synctest.IsAssociated[sync.WaitGroup]", "sync/atomic.CompareAndSwapUint64", "internal/race.Write", "sync.runtime_SemacquireWaitGroup"], unfollowed := true, recurses := true, leaving := true, apart := false, narrowed := true }
def FnExactStreamOrdersUptoSaid : Prop := fnExactStreamOrdersUptoRow.holds Try.pinned (OpenSpec.upto fnExactStreamOrdersSpec)

/-- 'laws.FnExactStreamOrder', WHERE WHAT IT READS IS OF BULK AT MOST 1048576: true; the input reads as it did. -/
def fnExactStreamOrderUptoRow : OpenClaim := { program := "ytojcncloeikjlaa", sum := "9d5ef4f928acb2b45ebf0b1f0f58786dd1fa6fa3d0e7a8c1dfe8ef912ef60ba7", func := "loop.example/treenumbers/laws.FnExactStreamOrder", spec := "fnExactStreamOrder", unfollowed := true, recurses := true, leaving := true, apart := false, narrowed := true }
def FnExactStreamOrderUptoSaid : Prop := fnExactStreamOrderUptoRow.holds Try.pinned (OpenSpec.upto fnExactStreamOrderSpec)

/-- 'laws.FnExactStreamCounts', WHERE WHAT IT READS IS OF BULK AT MOST 1048576: true; the input reads as it did. -/
def fnExactStreamCountsUptoRow : OpenClaim := { program := "ytojcncloeikjlaa", sum := "9d5ef4f928acb2b45ebf0b1f0f58786dd1fa6fa3d0e7a8c1dfe8ef912ef60ba7", func := "loop.example/treenumbers/laws.FnExactStreamCounts", spec := "fnExactStreamCounts", unfollowed := true, recurses := true, leaving := true, apart := false, narrowed := true }
def FnExactStreamCountsUptoSaid : Prop := fnExactStreamCountsUptoRow.holds Try.pinned (OpenSpec.upto fnExactStreamCountsSpec)

end Rows
end Go.Proofs.Ytojcncloeikjlaa
