/-
  DERIVED. GIVEN WITH THE SEED: THE CARDS: each row of YthheobnfkfdocaaDoorRows.lean that lists a variable, with what it lists TIED to the program's text (the seventh form; the later family's looks); each row that meets fmt, with fmt's text TOLD by the authors' own Lean function (tested against real Go, not proved from fmt's source: count such statements apart). THE CARD IS WHAT COUNTS. Prove the row's statement (the work); the ties are given (YthheobnfkfdocaaDoorTie.lean); close each card by the builder's one call (the guide's Derived/Test/ToyasCard.lean, 'card_holds'). Laid BY PROGRAM, IN A SANDBOX (cutbox-door.mjs). By AI agents, Wed Nov 11 2026. No macro, syntax, notation, axiom, sorry.
-/
import Derived.Test.YthheobnfkfdocaaDoorRows
import GoSem.ClaimSeven
namespace Go.Proofs.YthheobnfkfdocaaDoor
namespace Rows

/-- THE TIED CARD OF 'laws.FnSpread'. -/
def fnSpreadCard : Claim7 := { stood := { row := fnSpreadRow, standIns := [], harness := (true, "d8e3bc7e5269e69446b75fef9de50119ae15bd1c023429aa83dbfcf3aabbcc06"), looks := true }, kinds := [], alts := [], goes := true, laidByText := true, laidKinds := [.handle], laidTests := true, laidLooks := .later }
def FnSpreadCardSaid : Prop := Claim7.holds Tryd.pinned (.plain (OpenSpec.ofChange fnSpreadSpec)) fnSpreadCard

/-- THE TIED CARD OF 'laws.FnWidest'. -/
def fnWidestCard : Claim7 := { stood := { row := fnWidestRow, standIns := [], harness := (true, "d8e3bc7e5269e69446b75fef9de50119ae15bd1c023429aa83dbfcf3aabbcc06"), looks := true }, kinds := [], alts := [], goes := true, laidByText := true, laidKinds := [.handle], laidTests := true, laidLooks := .later }
def FnWidestCardSaid : Prop := Claim7.holds Tryd.pinned (.plain (OpenSpec.ofChange fnWidestSpec)) fnWidestCard

/-- THE SECOND FORM's CARD OF 'laws.FnSpread'. -/
def fnSpreadUptoCard : Claim7 := { stood := { row := fnSpreadUptoRow, standIns := [], harness := (true, "d8e3bc7e5269e69446b75fef9de50119ae15bd1c023429aa83dbfcf3aabbcc06"), looks := true }, kinds := [], alts := [], goes := true, laidByText := true, laidKinds := [.handle], laidTests := true, laidLooks := .later }
def FnSpreadUptoCardSaid : Prop := Claim7.holds Tryd.pinned (.plain (OpenSpec.upto fnSpreadSpec)) fnSpreadUptoCard

/-- THE SECOND FORM's CARD OF 'laws.FnWidest'. -/
def fnWidestUptoCard : Claim7 := { stood := { row := fnWidestUptoRow, standIns := [], harness := (true, "d8e3bc7e5269e69446b75fef9de50119ae15bd1c023429aa83dbfcf3aabbcc06"), looks := true }, kinds := [], alts := [], goes := true, laidByText := true, laidKinds := [.handle], laidTests := true, laidLooks := .later }
def FnWidestUptoCardSaid : Prop := Claim7.holds Tryd.pinned (.plain (OpenSpec.upto fnWidestSpec)) fnWidestUptoCard
end Rows
end Go.Proofs.YthheobnfkfdocaaDoor
