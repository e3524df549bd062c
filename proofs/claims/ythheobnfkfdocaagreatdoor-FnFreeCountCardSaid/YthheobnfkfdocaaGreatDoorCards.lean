/-
  DERIVED. GIVEN WITH THE SEED: THE CARDS: each row of YthheobnfkfdocaaGreatDoorRows.lean that lists a variable, with what it lists TIED to the program's text (the seventh form; the later family's looks); each row that meets fmt, with fmt's text TOLD by the authors' own Lean function (tested against real Go, not proved from fmt's source: count such statements apart). THE CARD IS WHAT COUNTS. Prove the row's statement (the work); the ties are given (YthheobnfkfdocaaGreatDoorTie.lean); close each card by the builder's one call (the guide's Derived/Test/ToyasCard.lean, 'card_holds'). Laid BY PROGRAM, IN A SANDBOX (cutbox-door.mjs). By AI agents, Wed Nov 11 2026. No macro, syntax, notation, axiom, sorry.
-/
import Derived.Test.YthheobnfkfdocaaGreatDoorRows
import GoSem.ClaimSeven
namespace Go.Proofs.YthheobnfkfdocaaGreatDoor
namespace Rows

/-- THE TIED CARD OF 'laws.FnAt'. -/
def fnAtCard : Claim7 := { stood := { row := fnAtRow, standIns := [], harness := (true, "33fcab382cf94098fd019d464d97a7fbef50733114513a18a008a3ba0e0b46ae"), looks := true }, kinds := [], alts := [], goes := true, laidByText := true, laidKinds := [.handle], laidTests := true, laidLooks := .later }
def FnAtCardSaid : Prop := Claim7.holds Tryz.pinned (.plain (OpenSpec.ofChange fnAtSpec)) fnAtCard

/-- THE TIED CARD OF 'laws.FnFree'. -/
def fnFreeCard : Claim7 := { stood := { row := fnFreeRow, standIns := [], harness := (true, "33fcab382cf94098fd019d464d97a7fbef50733114513a18a008a3ba0e0b46ae"), looks := true }, kinds := [], alts := [], goes := true, laidByText := true, laidKinds := [.handle], laidTests := true, laidLooks := .later }
def FnFreeCardSaid : Prop := Claim7.holds Tryz.pinned (.plain (OpenSpec.ofChange fnFreeSpec)) fnFreeCard

/-- THE TIED CARD OF 'laws.FnMiddleAlike'. -/
def fnMiddleAlikeCard : Claim7 := { stood := { row := fnMiddleAlikeRow, standIns := [], harness := (true, "33fcab382cf94098fd019d464d97a7fbef50733114513a18a008a3ba0e0b46ae"), looks := true }, kinds := [], alts := [], goes := true, laidByText := true, laidKinds := [.handle], laidTests := true, laidLooks := .later }
def FnMiddleAlikeCardSaid : Prop := Claim7.holds Tryz.pinned (.plain (OpenSpec.ofChange fnMiddleAlikeSpec)) fnMiddleAlikeCard

/-- THE TIED CARD OF 'laws.FnPieces'. -/
def fnPiecesCard : Claim7 := { stood := { row := fnPiecesRow, standIns := [], harness := (true, "33fcab382cf94098fd019d464d97a7fbef50733114513a18a008a3ba0e0b46ae"), looks := true }, kinds := [], alts := [], goes := true, laidByText := true, laidKinds := [.handle], laidTests := true, laidLooks := .later }
def FnPiecesCardSaid : Prop := Claim7.holds Tryz.pinned (.plain (OpenSpec.ofChange fnPiecesSpec)) fnPiecesCard

/-- THE TIED CARD OF 'laws.FnFreeCount'. -/
def fnFreeCountCard : Claim7 := { stood := { row := fnFreeCountRow, standIns := [], harness := (true, "33fcab382cf94098fd019d464d97a7fbef50733114513a18a008a3ba0e0b46ae"), looks := true }, kinds := [], alts := [], goes := true, laidByText := true, laidKinds := [.handle], laidTests := true, laidLooks := .later }
def FnFreeCountCardSaid : Prop := Claim7.holds Tryz.pinned (.plain (OpenSpec.ofChange fnFreeCountSpec)) fnFreeCountCard

/-- THE TIED CARD OF 'laws.FnMatch'. -/
def fnMatchCard : Claim7 := { stood := { row := fnMatchRow, standIns := [], harness := (true, "33fcab382cf94098fd019d464d97a7fbef50733114513a18a008a3ba0e0b46ae"), looks := true }, kinds := [], alts := [], goes := true, laidByText := true, laidKinds := [.handle], laidTests := true, laidLooks := .later }
def FnMatchCardSaid : Prop := Claim7.holds Tryz.pinned (.plain (OpenSpec.ofChange fnMatchSpec)) fnMatchCard

/-- THE TIED CARD OF 'laws.FnExactMiddleFree'. -/
def fnExactMiddleFreeCard : Claim7 := { stood := { row := fnExactMiddleFreeRow, standIns := [], harness := (true, "33fcab382cf94098fd019d464d97a7fbef50733114513a18a008a3ba0e0b46ae"), looks := true }, kinds := [], alts := [], goes := true, laidByText := true, laidKinds := [.handle], laidTests := true, laidLooks := .later }
def FnExactMiddleFreeCardSaid : Prop := Claim7.holds Tryz.pinned (.plain (OpenSpec.ofChange fnExactMiddleFreeSpec)) fnExactMiddleFreeCard

/-- THE TIED CARD OF 'laws.FnExactMiddleAlike'. -/
def fnExactMiddleAlikeCard : Claim7 := { stood := { row := fnExactMiddleAlikeRow, standIns := [], harness := (true, "33fcab382cf94098fd019d464d97a7fbef50733114513a18a008a3ba0e0b46ae"), looks := true }, kinds := [], alts := [], goes := true, laidByText := true, laidKinds := [.handle], laidTests := true, laidLooks := .later }
def FnExactMiddleAlikeCardSaid : Prop := Claim7.holds Tryz.pinned (.plain (OpenSpec.ofChange fnExactMiddleAlikeSpec)) fnExactMiddleAlikeCard

/-- THE SECOND FORM's CARD OF 'laws.FnAt'. -/
def fnAtUptoCard : Claim7 := { stood := { row := fnAtUptoRow, standIns := [], harness := (true, "33fcab382cf94098fd019d464d97a7fbef50733114513a18a008a3ba0e0b46ae"), looks := true }, kinds := [], alts := [], goes := true, laidByText := true, laidKinds := [.handle], laidTests := true, laidLooks := .later }
def FnAtUptoCardSaid : Prop := Claim7.holds Tryz.pinned (.plain (OpenSpec.upto fnAtSpec)) fnAtUptoCard

/-- THE SECOND FORM's CARD OF 'laws.FnFree'. -/
def fnFreeUptoCard : Claim7 := { stood := { row := fnFreeUptoRow, standIns := [], harness := (true, "33fcab382cf94098fd019d464d97a7fbef50733114513a18a008a3ba0e0b46ae"), looks := true }, kinds := [], alts := [], goes := true, laidByText := true, laidKinds := [.handle], laidTests := true, laidLooks := .later }
def FnFreeUptoCardSaid : Prop := Claim7.holds Tryz.pinned (.plain (OpenSpec.upto fnFreeSpec)) fnFreeUptoCard

/-- THE SECOND FORM's CARD OF 'laws.FnMiddleAlike'. -/
def fnMiddleAlikeUptoCard : Claim7 := { stood := { row := fnMiddleAlikeUptoRow, standIns := [], harness := (true, "33fcab382cf94098fd019d464d97a7fbef50733114513a18a008a3ba0e0b46ae"), looks := true }, kinds := [], alts := [], goes := true, laidByText := true, laidKinds := [.handle], laidTests := true, laidLooks := .later }
def FnMiddleAlikeUptoCardSaid : Prop := Claim7.holds Tryz.pinned (.plain (OpenSpec.upto fnMiddleAlikeSpec)) fnMiddleAlikeUptoCard

/-- THE SECOND FORM's CARD OF 'laws.FnPieces'. -/
def fnPiecesUptoCard : Claim7 := { stood := { row := fnPiecesUptoRow, standIns := [], harness := (true, "33fcab382cf94098fd019d464d97a7fbef50733114513a18a008a3ba0e0b46ae"), looks := true }, kinds := [], alts := [], goes := true, laidByText := true, laidKinds := [.handle], laidTests := true, laidLooks := .later }
def FnPiecesUptoCardSaid : Prop := Claim7.holds Tryz.pinned (.plain (OpenSpec.upto fnPiecesSpec)) fnPiecesUptoCard

/-- THE SECOND FORM's CARD OF 'laws.FnFreeCount'. -/
def fnFreeCountUptoCard : Claim7 := { stood := { row := fnFreeCountUptoRow, standIns := [], harness := (true, "33fcab382cf94098fd019d464d97a7fbef50733114513a18a008a3ba0e0b46ae"), looks := true }, kinds := [], alts := [], goes := true, laidByText := true, laidKinds := [.handle], laidTests := true, laidLooks := .later }
def FnFreeCountUptoCardSaid : Prop := Claim7.holds Tryz.pinned (.plain (OpenSpec.upto fnFreeCountSpec)) fnFreeCountUptoCard

/-- THE SECOND FORM's CARD OF 'laws.FnMatch'. -/
def fnMatchUptoCard : Claim7 := { stood := { row := fnMatchUptoRow, standIns := [], harness := (true, "33fcab382cf94098fd019d464d97a7fbef50733114513a18a008a3ba0e0b46ae"), looks := true }, kinds := [], alts := [], goes := true, laidByText := true, laidKinds := [.handle], laidTests := true, laidLooks := .later }
def FnMatchUptoCardSaid : Prop := Claim7.holds Tryz.pinned (.plain (OpenSpec.upto fnMatchSpec)) fnMatchUptoCard

/-- THE SECOND FORM's CARD OF 'laws.FnExactMiddleFree'. -/
def fnExactMiddleFreeUptoCard : Claim7 := { stood := { row := fnExactMiddleFreeUptoRow, standIns := [], harness := (true, "33fcab382cf94098fd019d464d97a7fbef50733114513a18a008a3ba0e0b46ae"), looks := true }, kinds := [], alts := [], goes := true, laidByText := true, laidKinds := [.handle], laidTests := true, laidLooks := .later }
def FnExactMiddleFreeUptoCardSaid : Prop := Claim7.holds Tryz.pinned (.plain (OpenSpec.upto fnExactMiddleFreeSpec)) fnExactMiddleFreeUptoCard

/-- THE SECOND FORM's CARD OF 'laws.FnExactMiddleAlike'. -/
def fnExactMiddleAlikeUptoCard : Claim7 := { stood := { row := fnExactMiddleAlikeUptoRow, standIns := [], harness := (true, "33fcab382cf94098fd019d464d97a7fbef50733114513a18a008a3ba0e0b46ae"), looks := true }, kinds := [], alts := [], goes := true, laidByText := true, laidKinds := [.handle], laidTests := true, laidLooks := .later }
def FnExactMiddleAlikeUptoCardSaid : Prop := Claim7.holds Tryz.pinned (.plain (OpenSpec.upto fnExactMiddleAlikeSpec)) fnExactMiddleAlikeUptoCard
end Rows
end Go.Proofs.YthheobnfkfdocaaGreatDoor
