/-
  DERIVED. GIVEN WITH THE SEED: THE CARDS: each row of YtecliakkmgoglaaDoorRows.lean that lists a variable, with what it lists TIED to the program's text (the seventh form; the later family's looks); each row that meets fmt, with fmt's text TOLD by the authors' own Lean function (tested against real Go, not proved from fmt's source: count such statements apart). THE CARD IS WHAT COUNTS. Prove the row's statement (the work); the ties are given (YtecliakkmgoglaaDoorTie.lean); close each card by the builder's one call (the guide's Derived/Test/ToyasCard.lean, 'card_holds'). Laid BY PROGRAM, IN A SANDBOX (cutbox-door.mjs). By AI agents, Wed Nov 11 2026. No macro, syntax, notation, axiom, sorry.
-/
import Derived.Test.YtecliakkmgoglaaDoorRows
import GoSem.ClaimSeven
namespace Go.Proofs.YtecliakkmgoglaaDoor
namespace Rows

/-- THE TIED CARD OF 'laws.FnWidest'. -/
def fnWidestCard : Claim7 := { stood := { row := fnWidestRow, standIns := [], harness := (true, "1227a4ccd67ca8b41ed28a2b783ec809249b49e6762dcf784a79f5734a17482f"), looks := true }, kinds := [], alts := [], goes := true, laidByText := true, laidKinds := [.handle], laidTests := true, laidLooks := .later }
def FnWidestCardSaid : Prop := Claim7.holds Tryd.pinned (.plain (OpenSpec.ofChange fnWidestSpec)) fnWidestCard

/-- THE TIED CARD OF 'laws.FnExactCutGraft'. -/
def fnExactCutGraftCard : Claim7 := { stood := { row := fnExactCutGraftRow, standIns := [], harness := (true, "1227a4ccd67ca8b41ed28a2b783ec809249b49e6762dcf784a79f5734a17482f"), looks := true }, kinds := [], alts := [], goes := true, laidByText := true, laidKinds := [.handle], laidTests := true, laidLooks := .later }
def FnExactCutGraftCardSaid : Prop := Claim7.holds Tryd.pinned (.plain (OpenSpec.ofChange fnExactCutGraftSpec)) fnExactCutGraftCard

/-- THE SECOND FORM's CARD OF 'laws.FnWidest'. -/
def fnWidestUptoCard : Claim7 := { stood := { row := fnWidestUptoRow, standIns := [], harness := (true, "1227a4ccd67ca8b41ed28a2b783ec809249b49e6762dcf784a79f5734a17482f"), looks := true }, kinds := [], alts := [], goes := true, laidByText := true, laidKinds := [.handle], laidTests := true, laidLooks := .later }
def FnWidestUptoCardSaid : Prop := Claim7.holds Tryd.pinned (.plain (OpenSpec.upto fnWidestSpec)) fnWidestUptoCard

/-- THE SECOND FORM's CARD OF 'laws.FnExactCutGraft'. -/
def fnExactCutGraftUptoCard : Claim7 := { stood := { row := fnExactCutGraftUptoRow, standIns := [], harness := (true, "1227a4ccd67ca8b41ed28a2b783ec809249b49e6762dcf784a79f5734a17482f"), looks := true }, kinds := [], alts := [], goes := true, laidByText := true, laidKinds := [.handle], laidTests := true, laidLooks := .later }
def FnExactCutGraftUptoCardSaid : Prop := Claim7.holds Tryd.pinned (.plain (OpenSpec.upto fnExactCutGraftSpec)) fnExactCutGraftUptoCard
end Rows
end Go.Proofs.YtecliakkmgoglaaDoor
