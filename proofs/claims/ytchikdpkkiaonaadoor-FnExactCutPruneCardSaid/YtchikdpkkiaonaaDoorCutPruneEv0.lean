/- The evaluation, part 0. -/
import Derived.Test.YtchikdpkkiaonaaDoorCutPruneBad
import Derived.KernelRfl
namespace Go.AI.T
open Go Go.RowKit Go.AI
set_option linter.unusedVariables false
set_option linter.unusedSimpArgs false
set_option maxRecDepth 100000
noncomputable section
theorem evCutPrune_c0 (j : Nat) : allR (ok_CutPrune j) 16 0 1 (fun l => 40 :: 41 :: l) = true := by kernel_rfl
theorem evCutPrune_c16 (j : Nat) : allR (ok_CutPrune j) 8 0 5 (fun l => 40 :: 40 :: 41 :: 40 :: 41 :: 40 :: 40 :: 41 :: 41 :: 41 :: l) = true := by kernel_rfl
theorem evCutPrune_c23 (j : Nat) : allR (ok_CutPrune j) 6 2 7 (fun l => 40 :: 40 :: 41 :: 40 :: 41 :: 40 :: 40 :: 41 :: 40 :: 41 :: 40 :: 41 :: l) = true := by kernel_rfl
theorem evCutPrune_c41 (j : Nat) : allR (ok_CutPrune j) 6 0 6 (fun l => 40 :: 40 :: 41 :: 40 :: 40 :: 41 :: 41 :: 40 :: 41 :: 40 :: 41 :: 41 :: l) = true := by kernel_rfl
theorem evCutPrune_c46 (j : Nat) : allR (ok_CutPrune j) 6 2 7 (fun l => 40 :: 40 :: 41 :: 40 :: 40 :: 41 :: 41 :: 40 :: 40 :: 41 :: 41 :: 40 :: l) = true := by kernel_rfl
theorem evCutPrune_c67 (j : Nat) : allR (ok_CutPrune j) 6 4 8 (fun l => 40 :: 40 :: 41 :: 40 :: 40 :: 41 :: 40 :: 40 :: 41 :: 41 :: 40 :: 40 :: l) = true := by kernel_rfl
theorem evCutPrune_c82 (j : Nat) : allR (ok_CutPrune j) 6 2 7 (fun l => 40 :: 40 :: 41 :: 40 :: 40 :: 40 :: 41 :: 41 :: 40 :: 41 :: 40 :: 41 :: l) = true := by kernel_rfl
theorem evCutPrune_c104 (j : Nat) : allR (ok_CutPrune j) 7 5 8 (fun l => 40 :: 40 :: 41 :: 40 :: 40 :: 40 :: 40 :: 41 :: 41 :: 40 :: 40 :: l) = true := by kernel_rfl
theorem evCutPrune_c121 (j : Nat) : allR (ok_CutPrune j) 6 0 6 (fun l => 40 :: 40 :: 40 :: 41 :: 41 :: 40 :: 41 :: 40 :: 40 :: 41 :: 41 :: 41 :: l) = true := by kernel_rfl
theorem evCutPrune_c123 (j : Nat) : allR (ok_CutPrune j) 6 2 7 (fun l => 40 :: 40 :: 40 :: 41 :: 41 :: 40 :: 41 :: 40 :: 40 :: 41 :: 40 :: 41 :: l) = true := by kernel_rfl
theorem evCutPrune_c147 (j : Nat) : allR (ok_CutPrune j) 6 2 7 (fun l => 40 :: 40 :: 40 :: 41 :: 41 :: 40 :: 40 :: 40 :: 40 :: 41 :: 41 :: 41 :: l) = true := by kernel_rfl
theorem evCutPrune_c172 (j : Nat) : allR (ok_CutPrune j) 6 4 8 (fun l => 40 :: 40 :: 40 :: 41 :: 40 :: 41 :: 40 :: 41 :: 40 :: 41 :: 40 :: 40 :: l) = true := by kernel_rfl
theorem evCutPrune_c185 (j : Nat) : allR (ok_CutPrune j) 7 5 8 (fun l => 40 :: 40 :: 40 :: 41 :: 40 :: 41 :: 40 :: 40 :: 40 :: 41 :: 40 :: l) = true := by kernel_rfl
theorem evCutPrune_c202 (j : Nat) : allR (ok_CutPrune j) 6 4 8 (fun l => 40 :: 40 :: 40 :: 41 :: 40 :: 40 :: 41 :: 40 :: 41 :: 41 :: 40 :: 40 :: l) = true := by kernel_rfl
theorem evCutPrune_c215 (j : Nat) : allR (ok_CutPrune j) 6 4 8 (fun l => 40 :: 40 :: 40 :: 41 :: 40 :: 40 :: 40 :: 41 :: 41 :: 40 :: 41 :: 40 :: l) = true := by kernel_rfl
theorem evCutPrune_c228 (j : Nat) : allR (ok_CutPrune j) 6 0 6 (fun l => 40 :: 40 :: 40 :: 40 :: 41 :: 41 :: 41 :: 40 :: 41 :: 40 :: 41 :: 41 :: l) = true := by kernel_rfl
theorem evCutPrune_c232 (j : Nat) : allR (ok_CutPrune j) 6 0 6 (fun l => 40 :: 40 :: 40 :: 40 :: 41 :: 41 :: 41 :: 40 :: 40 :: 41 :: 41 :: 41 :: l) = true := by kernel_rfl
theorem evCutPrune_c234 (j : Nat) : allR (ok_CutPrune j) 6 2 7 (fun l => 40 :: 40 :: 40 :: 40 :: 41 :: 41 :: 41 :: 40 :: 40 :: 41 :: 40 :: 41 :: l) = true := by kernel_rfl
theorem evCutPrune_c258 (j : Nat) : allR (ok_CutPrune j) 6 2 7 (fun l => 40 :: 40 :: 40 :: 40 :: 41 :: 41 :: 40 :: 40 :: 40 :: 41 :: 41 :: 41 :: l) = true := by kernel_rfl
theorem evCutPrune_c280 (j : Nat) : allR (ok_CutPrune j) 7 5 8 (fun l => 40 :: 40 :: 40 :: 40 :: 41 :: 40 :: 41 :: 40 :: 41 :: 40 :: 40 :: l) = true := by kernel_rfl
theorem evCutPrune_c295 (j : Nat) : allR (ok_CutPrune j) 8 6 8 (fun l => 40 :: 40 :: 40 :: 40 :: 41 :: 40 :: 40 :: 41 :: 40 :: 40 :: l) = true := by kernel_rfl
theorem evCutPrune_c317 (j : Nat) : allR (ok_CutPrune j) 6 2 7 (fun l => 40 :: 40 :: 40 :: 40 :: 40 :: 41 :: 41 :: 40 :: 41 :: 40 :: 41 :: 41 :: l) = true := by kernel_rfl
theorem evCutPrune_c336 (j : Nat) : allR (ok_CutPrune j) 6 4 8 (fun l => 40 :: 40 :: 40 :: 40 :: 40 :: 41 :: 40 :: 40 :: 41 :: 41 :: 41 :: 40 :: l) = true := by kernel_rfl
theorem evCutPrune_c350 (j : Nat) : allR (ok_CutPrune j) 8 6 8 (fun l => 40 :: 40 :: 40 :: 40 :: 40 :: 40 :: 41 :: 41 :: 40 :: 40 :: l) = true := by kernel_rfl
end
end Go.AI.T
