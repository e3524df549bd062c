/-
  DERIVED. GIVEN WITH THE SEED: THE CARDS: each row of YtlcmolcajoeagaaDoorRows.lean that lists a variable, with what it lists TIED to the program's text (the seventh form; the later family's looks); each row that meets fmt, with fmt's text TOLD by the authors' own Lean function (tested against real Go, not proved from fmt's source: count such statements apart). THE CARD IS WHAT COUNTS. Prove the row's statement (the work); the ties are given (YtlcmolcajoeagaaDoorTie.lean); close each card by the builder's one call (the guide's Derived/Test/ToyasCard.lean, 'card_holds'). Laid BY PROGRAM, IN A SANDBOX (cutbox-door.mjs). By AI agents, Wed Nov 11 2026. No macro, syntax, notation, axiom, sorry.
-/
import Derived.Test.YtlcmolcajoeagaaDoorRows
import GoSem.ClaimSeven
namespace Go.Proofs.YtlcmolcajoeagaaDoor
namespace Rows

/-- THE TIED CARD OF 'laws.FnFar'. -/
def fnFarCard : Claim7 := { stood := { row := fnFarRow, standIns := [], harness := (true, "efabdfff8856c58c3ce0b5b3d4e84eb03033844dcecec9ff2de49cd865ec8c05"), looks := true }, kinds := [], alts := [], laidByText := true, laidKinds := [.handle], laidTests := true, laidLooks := .later }
def FnFarCardSaid : Prop := Claim7.holds Tryd.pinned (.plain (OpenSpec.ofChange fnFarSpec)) fnFarCard

/-- THE TIED CARD OF 'laws.FnPrune'. -/
def fnPruneCard : Claim7 := { stood := { row := fnPruneRow, standIns := [], harness := (true, "efabdfff8856c58c3ce0b5b3d4e84eb03033844dcecec9ff2de49cd865ec8c05"), looks := true }, kinds := [], alts := [], laidByText := true, laidKinds := [.handle], laidTests := true, laidLooks := .later }
def FnPruneCardSaid : Prop := Claim7.holds Tryd.pinned (.plain (OpenSpec.ofChange fnPruneSpec)) fnPruneCard

/-- THE SECOND FORM's CARD OF 'laws.FnFar'. -/
def fnFarUptoCard : Claim7 := { stood := { row := fnFarUptoRow, standIns := [], harness := (true, "efabdfff8856c58c3ce0b5b3d4e84eb03033844dcecec9ff2de49cd865ec8c05"), looks := true }, kinds := [], alts := [], laidByText := true, laidKinds := [.handle], laidTests := true, laidLooks := .later }
def FnFarUptoCardSaid : Prop := Claim7.holds Tryd.pinned (.plain (OpenSpec.upto fnFarSpec)) fnFarUptoCard

/-- THE SECOND FORM's CARD OF 'laws.FnPrune'. -/
def fnPruneUptoCard : Claim7 := { stood := { row := fnPruneUptoRow, standIns := [], harness := (true, "efabdfff8856c58c3ce0b5b3d4e84eb03033844dcecec9ff2de49cd865ec8c05"), looks := true }, kinds := [], alts := [], laidByText := true, laidKinds := [.handle], laidTests := true, laidLooks := .later }
def FnPruneUptoCardSaid : Prop := Claim7.holds Tryd.pinned (.plain (OpenSpec.upto fnPruneSpec)) fnPruneUptoCard
end Rows
end Go.Proofs.YtlcmolcajoeagaaDoor
