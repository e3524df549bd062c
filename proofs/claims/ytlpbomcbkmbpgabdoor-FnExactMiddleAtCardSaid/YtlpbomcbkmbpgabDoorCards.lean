/-
  DERIVED. GIVEN WITH THE SEED: THE CARDS: each row of YtlpbomcbkmbpgabDoorRows.lean that lists a variable, with what it lists TIED to the program's text (the seventh form; the later family's looks); each row that meets fmt, with fmt's text TOLD by the authors' own Lean function (tested against real Go, not proved from fmt's source: count such statements apart). THE CARD IS WHAT COUNTS. Prove the row's statement (the work); the ties are given (YtlpbomcbkmbpgabDoorTie.lean); close each card by the builder's one call (the guide's Derived/Test/ToyasCard.lean, 'card_holds'). Laid BY PROGRAM, IN A SANDBOX (cutbox-door.mjs). By AI agents, Wed Nov 11 2026. No macro, syntax, notation, axiom, sorry.
-/
import Derived.Test.YtlpbomcbkmbpgabDoorRows
import GoSem.ClaimSeven
namespace Go.Proofs.YtlpbomcbkmbpgabDoor
namespace Rows

/-- THE TIED CARD OF 'laws.FnExactMiddleAt'. -/
def fnExactMiddleAtCard : Claim7 := { stood := { row := fnExactMiddleAtRow, standIns := [], harness := (true, "140a8ccf460d2b00bb3a9de809690976a4817647112aca850c29a6085e7c390f"), looks := true }, kinds := [], alts := [], laidByText := true, laidKinds := [.handle], laidTests := true, laidLooks := .later }
def FnExactMiddleAtCardSaid : Prop := Claim7.holds Tryd.pinned (.plain (OpenSpec.ofChange fnExactMiddleAtSpec)) fnExactMiddleAtCard

/-- THE SECOND FORM's CARD OF 'laws.FnExactMiddleAt'. -/
def fnExactMiddleAtUptoCard : Claim7 := { stood := { row := fnExactMiddleAtUptoRow, standIns := [], harness := (true, "140a8ccf460d2b00bb3a9de809690976a4817647112aca850c29a6085e7c390f"), looks := true }, kinds := [], alts := [], laidByText := true, laidKinds := [.handle], laidTests := true, laidLooks := .later }
def FnExactMiddleAtUptoCardSaid : Prop := Claim7.holds Tryd.pinned (.plain (OpenSpec.upto fnExactMiddleAtSpec)) fnExactMiddleAtUptoCard
end Rows
end Go.Proofs.YtlpbomcbkmbpgabDoor
