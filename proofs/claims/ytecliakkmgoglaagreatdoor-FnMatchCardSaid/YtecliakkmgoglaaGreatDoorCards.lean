/-
  DERIVED. GIVEN WITH THE SEED: THE CARDS: each row of YtecliakkmgoglaaGreatDoorRows.lean that lists a variable, with what it lists TIED to the program's text (the seventh form; the later family's looks); each row that meets fmt, with fmt's text TOLD by the authors' own Lean function (tested against real Go, not proved from fmt's source: count such statements apart). THE CARD IS WHAT COUNTS. Prove the row's statement (the work); the ties are given (YtecliakkmgoglaaGreatDoorTie.lean); close each card by the builder's one call (the guide's Derived/Test/ToyasCard.lean, 'card_holds'). Laid BY PROGRAM, IN A SANDBOX (cutbox-door.mjs). By AI agents, Wed Nov 11 2026. No macro, syntax, notation, axiom, sorry.
-/
import Derived.Test.YtecliakkmgoglaaGreatDoorRows
import GoSem.ClaimSeven
namespace Go.Proofs.YtecliakkmgoglaaGreatDoor
namespace Rows

/-- THE TIED CARD OF 'laws.FnAt'. -/
def fnAtCard : Claim7 := { stood := { row := fnAtRow, standIns := [], harness := (true, "eaed3aa15fda7c791cccd18caa1934a0adcb57b1b707cd578f3ed6b877db8511"), looks := true }, kinds := [], alts := [], goes := true, laidByText := true, laidKinds := [.handle], laidTests := true, laidLooks := .later }
def FnAtCardSaid : Prop := Claim7.holds Tryz.pinned (.plain (OpenSpec.ofChange fnAtSpec)) fnAtCard

/-- THE TIED CARD OF 'laws.FnMiddleAlike'. -/
def fnMiddleAlikeCard : Claim7 := { stood := { row := fnMiddleAlikeRow, standIns := [], harness := (true, "eaed3aa15fda7c791cccd18caa1934a0adcb57b1b707cd578f3ed6b877db8511"), looks := true }, kinds := [], alts := [], goes := true, laidByText := true, laidKinds := [.handle], laidTests := true, laidLooks := .later }
def FnMiddleAlikeCardSaid : Prop := Claim7.holds Tryz.pinned (.plain (OpenSpec.ofChange fnMiddleAlikeSpec)) fnMiddleAlikeCard

/-- THE TIED CARD OF 'laws.FnMatch'. -/
def fnMatchCard : Claim7 := { stood := { row := fnMatchRow, standIns := [], harness := (true, "eaed3aa15fda7c791cccd18caa1934a0adcb57b1b707cd578f3ed6b877db8511"), looks := true }, kinds := [], alts := [], goes := true, laidByText := true, laidKinds := [.handle], laidTests := true, laidLooks := .later }
def FnMatchCardSaid : Prop := Claim7.holds Tryz.pinned (.plain (OpenSpec.ofChange fnMatchSpec)) fnMatchCard

/-- THE SECOND FORM's CARD OF 'laws.FnAt'. -/
def fnAtUptoCard : Claim7 := { stood := { row := fnAtUptoRow, standIns := [], harness := (true, "eaed3aa15fda7c791cccd18caa1934a0adcb57b1b707cd578f3ed6b877db8511"), looks := true }, kinds := [], alts := [], goes := true, laidByText := true, laidKinds := [.handle], laidTests := true, laidLooks := .later }
def FnAtUptoCardSaid : Prop := Claim7.holds Tryz.pinned (.plain (OpenSpec.upto fnAtSpec)) fnAtUptoCard

/-- THE SECOND FORM's CARD OF 'laws.FnMiddleAlike'. -/
def fnMiddleAlikeUptoCard : Claim7 := { stood := { row := fnMiddleAlikeUptoRow, standIns := [], harness := (true, "eaed3aa15fda7c791cccd18caa1934a0adcb57b1b707cd578f3ed6b877db8511"), looks := true }, kinds := [], alts := [], goes := true, laidByText := true, laidKinds := [.handle], laidTests := true, laidLooks := .later }
def FnMiddleAlikeUptoCardSaid : Prop := Claim7.holds Tryz.pinned (.plain (OpenSpec.upto fnMiddleAlikeSpec)) fnMiddleAlikeUptoCard

/-- THE SECOND FORM's CARD OF 'laws.FnMatch'. -/
def fnMatchUptoCard : Claim7 := { stood := { row := fnMatchUptoRow, standIns := [], harness := (true, "eaed3aa15fda7c791cccd18caa1934a0adcb57b1b707cd578f3ed6b877db8511"), looks := true }, kinds := [], alts := [], goes := true, laidByText := true, laidKinds := [.handle], laidTests := true, laidLooks := .later }
def FnMatchUptoCardSaid : Prop := Claim7.holds Tryz.pinned (.plain (OpenSpec.upto fnMatchSpec)) fnMatchUptoCard
end Rows
end Go.Proofs.YtecliakkmgoglaaGreatDoor
