/-
  DERIVED. GIVEN WITH THE SEED: THE CARDS: each row of YtjhnjonklcnejaaGreatDoorRows.lean that lists a variable, with what it lists TIED to the program's text (the seventh form; the later family's looks); each row that meets fmt, with fmt's text TOLD by the authors' own Lean function (tested against real Go, not proved from fmt's source: count such statements apart). THE CARD IS WHAT COUNTS. Prove the row's statement (the work); the ties are given (YtjhnjonklcnejaaGreatDoorTie.lean); close each card by the builder's one call (the guide's Derived/Test/ToyasCard.lean, 'card_holds'). Laid BY PROGRAM, IN A SANDBOX (cutbox-door.mjs). By AI agents, Wed Nov 11 2026. No macro, syntax, notation, axiom, sorry.
-/
import Derived.Test.YtjhnjonklcnejaaGreatDoorRows
import GoSem.ClaimSeven
namespace Go.Proofs.YtjhnjonklcnejaaGreatDoor
namespace Rows

/-- THE TIED CARD OF 'laws.FnAt'. -/
def fnAtCard : Claim7 := { stood := { row := fnAtRow, standIns := [], harness := (true, "3a913eda1e3536ee1a0a9bc5282176faf2328727173ffaf0cc18288c595e9555"), looks := true }, kinds := [], alts := [], goes := true, laidByText := true, laidKinds := [.handle], laidTests := true, laidLooks := .later }
def FnAtCardSaid : Prop := Claim7.holds Tryz.pinned (.plain (OpenSpec.ofChange fnAtSpec)) fnAtCard

/-- THE TIED CARD OF 'laws.FnFree'. -/
def fnFreeCard : Claim7 := { stood := { row := fnFreeRow, standIns := [], harness := (true, "3a913eda1e3536ee1a0a9bc5282176faf2328727173ffaf0cc18288c595e9555"), looks := true }, kinds := [], alts := [], goes := true, laidByText := true, laidKinds := [.handle], laidTests := true, laidLooks := .later }
def FnFreeCardSaid : Prop := Claim7.holds Tryz.pinned (.plain (OpenSpec.ofChange fnFreeSpec)) fnFreeCard

/-- THE TIED CARD OF 'laws.FnMiddleAlike'. -/
def fnMiddleAlikeCard : Claim7 := { stood := { row := fnMiddleAlikeRow, standIns := [], harness := (true, "3a913eda1e3536ee1a0a9bc5282176faf2328727173ffaf0cc18288c595e9555"), looks := true }, kinds := [], alts := [], goes := true, laidByText := true, laidKinds := [.handle], laidTests := true, laidLooks := .later }
def FnMiddleAlikeCardSaid : Prop := Claim7.holds Tryz.pinned (.plain (OpenSpec.ofChange fnMiddleAlikeSpec)) fnMiddleAlikeCard

/-- THE TIED CARD OF 'laws.FnExactMiddleFree'. -/
def fnExactMiddleFreeCard : Claim7 := { stood := { row := fnExactMiddleFreeRow, standIns := [], harness := (true, "3a913eda1e3536ee1a0a9bc5282176faf2328727173ffaf0cc18288c595e9555"), looks := true }, kinds := [], alts := [], goes := true, laidByText := true, laidKinds := [.handle], laidTests := true, laidLooks := .later }
def FnExactMiddleFreeCardSaid : Prop := Claim7.holds Tryz.pinned (.plain (OpenSpec.ofChange fnExactMiddleFreeSpec)) fnExactMiddleFreeCard

/-- THE TIED CARD OF 'laws.FnExactMiddleAlike'. -/
def fnExactMiddleAlikeCard : Claim7 := { stood := { row := fnExactMiddleAlikeRow, standIns := [], harness := (true, "3a913eda1e3536ee1a0a9bc5282176faf2328727173ffaf0cc18288c595e9555"), looks := true }, kinds := [], alts := [], goes := true, laidByText := true, laidKinds := [.handle], laidTests := true, laidLooks := .later }
def FnExactMiddleAlikeCardSaid : Prop := Claim7.holds Tryz.pinned (.plain (OpenSpec.ofChange fnExactMiddleAlikeSpec)) fnExactMiddleAlikeCard

/-- THE SECOND FORM's CARD OF 'laws.FnAt'. -/
def fnAtUptoCard : Claim7 := { stood := { row := fnAtUptoRow, standIns := [], harness := (true, "3a913eda1e3536ee1a0a9bc5282176faf2328727173ffaf0cc18288c595e9555"), looks := true }, kinds := [], alts := [], goes := true, laidByText := true, laidKinds := [.handle], laidTests := true, laidLooks := .later }
def FnAtUptoCardSaid : Prop := Claim7.holds Tryz.pinned (.plain (OpenSpec.upto fnAtSpec)) fnAtUptoCard

/-- THE SECOND FORM's CARD OF 'laws.FnFree'. -/
def fnFreeUptoCard : Claim7 := { stood := { row := fnFreeUptoRow, standIns := [], harness := (true, "3a913eda1e3536ee1a0a9bc5282176faf2328727173ffaf0cc18288c595e9555"), looks := true }, kinds := [], alts := [], goes := true, laidByText := true, laidKinds := [.handle], laidTests := true, laidLooks := .later }
def FnFreeUptoCardSaid : Prop := Claim7.holds Tryz.pinned (.plain (OpenSpec.upto fnFreeSpec)) fnFreeUptoCard

/-- THE SECOND FORM's CARD OF 'laws.FnMiddleAlike'. -/
def fnMiddleAlikeUptoCard : Claim7 := { stood := { row := fnMiddleAlikeUptoRow, standIns := [], harness := (true, "3a913eda1e3536ee1a0a9bc5282176faf2328727173ffaf0cc18288c595e9555"), looks := true }, kinds := [], alts := [], goes := true, laidByText := true, laidKinds := [.handle], laidTests := true, laidLooks := .later }
def FnMiddleAlikeUptoCardSaid : Prop := Claim7.holds Tryz.pinned (.plain (OpenSpec.upto fnMiddleAlikeSpec)) fnMiddleAlikeUptoCard

/-- THE SECOND FORM's CARD OF 'laws.FnExactMiddleFree'. -/
def fnExactMiddleFreeUptoCard : Claim7 := { stood := { row := fnExactMiddleFreeUptoRow, standIns := [], harness := (true, "3a913eda1e3536ee1a0a9bc5282176faf2328727173ffaf0cc18288c595e9555"), looks := true }, kinds := [], alts := [], goes := true, laidByText := true, laidKinds := [.handle], laidTests := true, laidLooks := .later }
def FnExactMiddleFreeUptoCardSaid : Prop := Claim7.holds Tryz.pinned (.plain (OpenSpec.upto fnExactMiddleFreeSpec)) fnExactMiddleFreeUptoCard

/-- THE SECOND FORM's CARD OF 'laws.FnExactMiddleAlike'. -/
def fnExactMiddleAlikeUptoCard : Claim7 := { stood := { row := fnExactMiddleAlikeUptoRow, standIns := [], harness := (true, "3a913eda1e3536ee1a0a9bc5282176faf2328727173ffaf0cc18288c595e9555"), looks := true }, kinds := [], alts := [], goes := true, laidByText := true, laidKinds := [.handle], laidTests := true, laidLooks := .later }
def FnExactMiddleAlikeUptoCardSaid : Prop := Claim7.holds Tryz.pinned (.plain (OpenSpec.upto fnExactMiddleAlikeSpec)) fnExactMiddleAlikeUptoCard
end Rows
end Go.Proofs.YtjhnjonklcnejaaGreatDoor
