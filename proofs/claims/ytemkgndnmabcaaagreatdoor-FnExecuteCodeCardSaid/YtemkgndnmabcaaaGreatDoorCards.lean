/-
  DERIVED. GIVEN WITH THE SEED: THE CARDS: each row of YtemkgndnmabcaaaGreatDoorRows.lean that lists a variable, with what it lists TIED to the program's text (the seventh form; the later family's looks); each row that meets fmt, with fmt's text TOLD by the authors' own Lean function (tested against real Go, not proved from fmt's source: count such statements apart). THE CARD IS WHAT COUNTS. Prove the row's statement (the work); the ties are given (YtemkgndnmabcaaaGreatDoorTie.lean); close each card by the builder's one call (the guide's Derived/Test/ToyasCard.lean, 'card_holds'). Laid BY PROGRAM, IN A SANDBOX (cutbox-door.mjs). By AI agents, Wed Nov 11 2026. No macro, syntax, notation, axiom, sorry.
-/
import Derived.Test.YtemkgndnmabcaaaGreatDoorRows
import GoSem.ClaimSeven
namespace Go.Proofs.YtemkgndnmabcaaaGreatDoor
namespace Rows

/-- THE TIED CARD OF 'laws.FnExecuteCode'. -/
def fnExecuteCodeCard : Claim7 := { stood := { row := fnExecuteCodeRow, standIns := [], harness := (true, "dcbacbad2fe027ee514e95c9e6279a1f9f97a449189624a8adcc6edf34f5c89c"), looks := true }, kinds := [], alts := [], goes := true, laidByText := true, laidKinds := [.data, .data, .data, .data, .handle, .pinned], laidTests := true, laidLooks := .later }
def FnExecuteCodeCardSaid : Prop := Claim7.holds Tryz.pinned (.plain (OpenSpec.ofChange fnExecuteCodeSpec)) fnExecuteCodeCard

/-- THE SECOND FORM's CARD OF 'laws.FnExecuteCode'. -/
def fnExecuteCodeUptoCard : Claim7 := { stood := { row := fnExecuteCodeUptoRow, standIns := [], harness := (true, "dcbacbad2fe027ee514e95c9e6279a1f9f97a449189624a8adcc6edf34f5c89c"), looks := true }, kinds := [], alts := [], goes := true, laidByText := true, laidKinds := [.data, .data, .data, .data, .handle, .pinned], laidTests := true, laidLooks := .later }
def FnExecuteCodeUptoCardSaid : Prop := Claim7.holds Tryz.pinned (.plain (OpenSpec.upto fnExecuteCodeSpec)) fnExecuteCodeUptoCard
end Rows
end Go.Proofs.YtemkgndnmabcaaaGreatDoor
