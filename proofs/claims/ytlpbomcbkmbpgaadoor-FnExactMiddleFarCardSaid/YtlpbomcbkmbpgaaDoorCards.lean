/-
  DERIVED. GIVEN WITH THE SEED: THE CARDS: each row of YtlpbomcbkmbpgaaDoorRows.lean that lists a variable, with what it lists TIED to the program's text (the seventh form; the later family's looks); each row that meets fmt, with fmt's text TOLD by the authors' own Lean function (tested against real Go, not proved from fmt's source: count such statements apart). THE CARD IS WHAT COUNTS. Prove the row's statement (the work); the ties are given (YtlpbomcbkmbpgaaDoorTie.lean); close each card by the builder's one call (the guide's Derived/Test/ToyasCard.lean, 'card_holds'). Laid BY PROGRAM, IN A SANDBOX (cutbox-door.mjs). By AI agents, Wed Nov 11 2026. No macro, syntax, notation, axiom, sorry.
-/
import Derived.Test.YtlpbomcbkmbpgaaDoorRows
import GoSem.ClaimSeven
namespace Go.Proofs.YtlpbomcbkmbpgaaDoor
namespace Rows

/-- THE TIED CARD OF 'laws.FnSpread'. -/
def fnSpreadCard : Claim7 := { stood := { row := fnSpreadRow, standIns := [], harness := (true, "a2603b1afd7dbcd07f3ce7af3573d855a787fbba4128fbb83240b1868eb2a3b7"), looks := true }, kinds := [], alts := [], goes := true, laidByText := true, laidKinds := [.handle], laidTests := true, laidLooks := .later }
def FnSpreadCardSaid : Prop := Claim7.holds Tryd.pinned (.plain (OpenSpec.ofChange fnSpreadSpec)) fnSpreadCard

/-- THE TIED CARD OF 'laws.FnFar'. -/
def fnFarCard : Claim7 := { stood := { row := fnFarRow, standIns := [], harness := (true, "a2603b1afd7dbcd07f3ce7af3573d855a787fbba4128fbb83240b1868eb2a3b7"), looks := true }, kinds := [], alts := [], goes := true, laidByText := true, laidKinds := [.handle], laidTests := true, laidLooks := .later }
def FnFarCardSaid : Prop := Claim7.holds Tryd.pinned (.plain (OpenSpec.ofChange fnFarSpec)) fnFarCard

/-- THE TIED CARD OF 'laws.FnWidest'. -/
def fnWidestCard : Claim7 := { stood := { row := fnWidestRow, standIns := [], harness := (true, "a2603b1afd7dbcd07f3ce7af3573d855a787fbba4128fbb83240b1868eb2a3b7"), looks := true }, kinds := [], alts := [], goes := true, laidByText := true, laidKinds := [.handle], laidTests := true, laidLooks := .later }
def FnWidestCardSaid : Prop := Claim7.holds Tryd.pinned (.plain (OpenSpec.ofChange fnWidestSpec)) fnWidestCard

/-- THE TIED CARD OF 'laws.FnExactMiddleFar'. -/
def fnExactMiddleFarCard : Claim7 := { stood := { row := fnExactMiddleFarRow, standIns := [], harness := (true, "a2603b1afd7dbcd07f3ce7af3573d855a787fbba4128fbb83240b1868eb2a3b7"), looks := true }, kinds := [], alts := [], goes := true, laidByText := true, laidKinds := [.handle], laidTests := true, laidLooks := .later }
def FnExactMiddleFarCardSaid : Prop := Claim7.holds Tryd.pinned (.plain (OpenSpec.ofChange fnExactMiddleFarSpec)) fnExactMiddleFarCard

/-- THE SECOND FORM's CARD OF 'laws.FnSpread'. -/
def fnSpreadUptoCard : Claim7 := { stood := { row := fnSpreadUptoRow, standIns := [], harness := (true, "a2603b1afd7dbcd07f3ce7af3573d855a787fbba4128fbb83240b1868eb2a3b7"), looks := true }, kinds := [], alts := [], goes := true, laidByText := true, laidKinds := [.handle], laidTests := true, laidLooks := .later }
def FnSpreadUptoCardSaid : Prop := Claim7.holds Tryd.pinned (.plain (OpenSpec.upto fnSpreadSpec)) fnSpreadUptoCard

/-- THE SECOND FORM's CARD OF 'laws.FnFar'. -/
def fnFarUptoCard : Claim7 := { stood := { row := fnFarUptoRow, standIns := [], harness := (true, "a2603b1afd7dbcd07f3ce7af3573d855a787fbba4128fbb83240b1868eb2a3b7"), looks := true }, kinds := [], alts := [], goes := true, laidByText := true, laidKinds := [.handle], laidTests := true, laidLooks := .later }
def FnFarUptoCardSaid : Prop := Claim7.holds Tryd.pinned (.plain (OpenSpec.upto fnFarSpec)) fnFarUptoCard

/-- THE SECOND FORM's CARD OF 'laws.FnWidest'. -/
def fnWidestUptoCard : Claim7 := { stood := { row := fnWidestUptoRow, standIns := [], harness := (true, "a2603b1afd7dbcd07f3ce7af3573d855a787fbba4128fbb83240b1868eb2a3b7"), looks := true }, kinds := [], alts := [], goes := true, laidByText := true, laidKinds := [.handle], laidTests := true, laidLooks := .later }
def FnWidestUptoCardSaid : Prop := Claim7.holds Tryd.pinned (.plain (OpenSpec.upto fnWidestSpec)) fnWidestUptoCard

/-- THE SECOND FORM's CARD OF 'laws.FnExactMiddleFar'. -/
def fnExactMiddleFarUptoCard : Claim7 := { stood := { row := fnExactMiddleFarUptoRow, standIns := [], harness := (true, "a2603b1afd7dbcd07f3ce7af3573d855a787fbba4128fbb83240b1868eb2a3b7"), looks := true }, kinds := [], alts := [], goes := true, laidByText := true, laidKinds := [.handle], laidTests := true, laidLooks := .later }
def FnExactMiddleFarUptoCardSaid : Prop := Claim7.holds Tryd.pinned (.plain (OpenSpec.upto fnExactMiddleFarSpec)) fnExactMiddleFarUptoCard
end Rows
end Go.Proofs.YtlpbomcbkmbpgaaDoor
