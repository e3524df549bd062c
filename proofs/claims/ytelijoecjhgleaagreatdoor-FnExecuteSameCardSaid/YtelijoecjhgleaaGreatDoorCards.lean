/-
  DERIVED. GIVEN WITH THE SEED: THE CARDS: each row of YtelijoecjhgleaaGreatDoorRows.lean that lists a variable, with what it lists TIED to the program's text (the seventh form; the later family's looks); each row that meets fmt, with fmt's text TOLD by the authors' own Lean function (tested against real Go, not proved from fmt's source: count such statements apart). THE CARD IS WHAT COUNTS. Prove the row's statement (the work); the ties are given (YtelijoecjhgleaaGreatDoorTie.lean); close each card by the builder's one call (the guide's Derived/Test/ToyasCard.lean, 'card_holds'). Laid BY PROGRAM, IN A SANDBOX (cutbox-door.mjs). By AI agents, Wed Nov 11 2026. No macro, syntax, notation, axiom, sorry.
-/
import Derived.Test.YtelijoecjhgleaaGreatDoorRows
import GoSem.ClaimSeven
namespace Go.Proofs.YtelijoecjhgleaaGreatDoor
namespace Rows

/-- THE TIED CARD OF 'laws.FnExecuteSame'. -/
def fnExecuteSameCard : Claim7 := { stood := { row := fnExecuteSameRow, standIns := [], harness := (true, "4e5f2f04cac6ac4a547351db0da0bae7d53134bf25b3435107163517f01a5aa5"), looks := true }, kinds := [], alts := [], goes := true, laidByText := true, laidKinds := [.data, .data, .data, .data, .handle, .pinned], laidTests := true, laidLooks := .later }
def FnExecuteSameCardSaid : Prop := Claim7.holds Tryz.pinned (.plain (OpenSpec.ofChange fnExecuteSameSpec)) fnExecuteSameCard

/-- THE SECOND FORM's CARD OF 'laws.FnExecuteSame'. -/
def fnExecuteSameUptoCard : Claim7 := { stood := { row := fnExecuteSameUptoRow, standIns := [], harness := (true, "4e5f2f04cac6ac4a547351db0da0bae7d53134bf25b3435107163517f01a5aa5"), looks := true }, kinds := [], alts := [], goes := true, laidByText := true, laidKinds := [.data, .data, .data, .data, .handle, .pinned], laidTests := true, laidLooks := .later }
def FnExecuteSameUptoCardSaid : Prop := Claim7.holds Tryz.pinned (.plain (OpenSpec.upto fnExecuteSameSpec)) fnExecuteSameUptoCard
end Rows
end Go.Proofs.YtelijoecjhgleaaGreatDoor
