/-
  DERIVED. GIVEN WITH THE SEED: THE CARDS: each row of YtjnmogmddhichaaDoorRows.lean that lists a variable, with what it lists TIED to the program's text (the seventh form; the later family's looks); each row that meets fmt, with fmt's text TOLD by the authors' own Lean function (tested against real Go, not proved from fmt's source: count such statements apart). THE CARD IS WHAT COUNTS. Prove the row's statement (the work); the ties are given (YtjnmogmddhichaaDoorTie.lean); close each card by the builder's one call (the guide's Derived/Test/ToyasCard.lean, 'card_holds'). Laid BY PROGRAM, IN A SANDBOX (cutbox-door.mjs). By AI agents, Wed Nov 11 2026. No macro, syntax, notation, axiom, sorry.
-/
import Derived.Test.YtjnmogmddhichaaDoorRows
import GoSem.ClaimSeven
namespace Go.Proofs.YtjnmogmddhichaaDoor
namespace Rows

/-- THE TIED CARD OF 'laws.FnCuts'. -/
def fnCutsCard : Claim7 := { stood := { row := fnCutsRow, standIns := [], harness := (true, "8299b8b809a6b23b16f1667c10f6d3cd2e4b2a439cf1bbce8f6bda0d48377d2b"), looks := true }, kinds := [], alts := [], laidByText := true, laidKinds := [.data, .pinned], laidTests := true, laidLooks := .later }
def FnCutsCardSaid : Prop := Claim7.holds Tryd.pinned (.plain (OpenSpec.ofChange fnCutsSpec)) fnCutsCard

/-- THE TIED CARD OF 'laws.FnGraft'. -/
def fnGraftCard : Claim7 := { stood := { row := fnGraftRow, standIns := [], harness := (true, "8299b8b809a6b23b16f1667c10f6d3cd2e4b2a439cf1bbce8f6bda0d48377d2b"), looks := true }, kinds := [], alts := [], laidByText := true, laidKinds := [.handle], laidTests := true, laidLooks := .later }
def FnGraftCardSaid : Prop := Claim7.holds Tryd.pinned (.plain (OpenSpec.ofChange fnGraftSpec)) fnGraftCard

/-- THE TIED CARD OF 'laws.FnLeafless'. -/
def fnLeaflessCard : Claim7 := { stood := { row := fnLeaflessRow, standIns := [], harness := (true, "8299b8b809a6b23b16f1667c10f6d3cd2e4b2a439cf1bbce8f6bda0d48377d2b"), looks := true }, kinds := [], alts := [], laidByText := true, laidKinds := [.data, .pinned], laidTests := true, laidLooks := .later }
def FnLeaflessCardSaid : Prop := Claim7.holds Tryd.pinned (.plain (OpenSpec.ofChange fnLeaflessSpec)) fnLeaflessCard

/-- THE TIED CARD OF 'laws.FnExactCutGraft'. -/
def fnExactCutGraftCard : Claim7 := { stood := { row := fnExactCutGraftRow, standIns := [], harness := (true, "8299b8b809a6b23b16f1667c10f6d3cd2e4b2a439cf1bbce8f6bda0d48377d2b"), looks := true }, kinds := [], alts := [], laidByText := true, laidKinds := [.handle], laidTests := true, laidLooks := .later }
def FnExactCutGraftCardSaid : Prop := Claim7.holds Tryd.pinned (.plain (OpenSpec.ofChange fnExactCutGraftSpec)) fnExactCutGraftCard

/-- THE TIED CARD OF 'laws.FnExactCutLeaf'. -/
def fnExactCutLeafCard : Claim7 := { stood := { row := fnExactCutLeafRow, standIns := [], harness := (true, "8299b8b809a6b23b16f1667c10f6d3cd2e4b2a439cf1bbce8f6bda0d48377d2b"), looks := true }, kinds := [], alts := [], laidByText := true, laidKinds := [.data, .pinned], laidTests := true, laidLooks := .later }
def FnExactCutLeafCardSaid : Prop := Claim7.holds Tryd.pinned (.plain (OpenSpec.ofChange fnExactCutLeafSpec)) fnExactCutLeafCard

/-- THE SECOND FORM's CARD OF 'laws.FnCuts'. -/
def fnCutsUptoCard : Claim7 := { stood := { row := fnCutsUptoRow, standIns := [], harness := (true, "8299b8b809a6b23b16f1667c10f6d3cd2e4b2a439cf1bbce8f6bda0d48377d2b"), looks := true }, kinds := [], alts := [], laidByText := true, laidKinds := [.data, .pinned], laidTests := true, laidLooks := .later }
def FnCutsUptoCardSaid : Prop := Claim7.holds Tryd.pinned (.plain (OpenSpec.upto fnCutsSpec)) fnCutsUptoCard

/-- THE SECOND FORM's CARD OF 'laws.FnGraft'. -/
def fnGraftUptoCard : Claim7 := { stood := { row := fnGraftUptoRow, standIns := [], harness := (true, "8299b8b809a6b23b16f1667c10f6d3cd2e4b2a439cf1bbce8f6bda0d48377d2b"), looks := true }, kinds := [], alts := [], laidByText := true, laidKinds := [.handle], laidTests := true, laidLooks := .later }
def FnGraftUptoCardSaid : Prop := Claim7.holds Tryd.pinned (.plain (OpenSpec.upto fnGraftSpec)) fnGraftUptoCard

/-- THE SECOND FORM's CARD OF 'laws.FnLeafless'. -/
def fnLeaflessUptoCard : Claim7 := { stood := { row := fnLeaflessUptoRow, standIns := [], harness := (true, "8299b8b809a6b23b16f1667c10f6d3cd2e4b2a439cf1bbce8f6bda0d48377d2b"), looks := true }, kinds := [], alts := [], laidByText := true, laidKinds := [.data, .pinned], laidTests := true, laidLooks := .later }
def FnLeaflessUptoCardSaid : Prop := Claim7.holds Tryd.pinned (.plain (OpenSpec.upto fnLeaflessSpec)) fnLeaflessUptoCard

/-- THE SECOND FORM's CARD OF 'laws.FnExactCutGraft'. -/
def fnExactCutGraftUptoCard : Claim7 := { stood := { row := fnExactCutGraftUptoRow, standIns := [], harness := (true, "8299b8b809a6b23b16f1667c10f6d3cd2e4b2a439cf1bbce8f6bda0d48377d2b"), looks := true }, kinds := [], alts := [], laidByText := true, laidKinds := [.handle], laidTests := true, laidLooks := .later }
def FnExactCutGraftUptoCardSaid : Prop := Claim7.holds Tryd.pinned (.plain (OpenSpec.upto fnExactCutGraftSpec)) fnExactCutGraftUptoCard

/-- THE SECOND FORM's CARD OF 'laws.FnExactCutLeaf'. -/
def fnExactCutLeafUptoCard : Claim7 := { stood := { row := fnExactCutLeafUptoRow, standIns := [], harness := (true, "8299b8b809a6b23b16f1667c10f6d3cd2e4b2a439cf1bbce8f6bda0d48377d2b"), looks := true }, kinds := [], alts := [], laidByText := true, laidKinds := [.data, .pinned], laidTests := true, laidLooks := .later }
def FnExactCutLeafUptoCardSaid : Prop := Claim7.holds Tryd.pinned (.plain (OpenSpec.upto fnExactCutLeafSpec)) fnExactCutLeafUptoCard
end Rows
end Go.Proofs.YtjnmogmddhichaaDoor
