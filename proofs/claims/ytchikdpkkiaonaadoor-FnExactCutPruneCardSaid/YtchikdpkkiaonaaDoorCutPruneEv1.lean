/- The evaluation, part 1. -/
import Derived.Test.YtchikdpkkiaonaaDoorCutPruneBad
import Derived.KernelRfl
namespace Go.AI.T
open Go Go.RowKit Go.AI
set_option linter.unusedVariables false
set_option linter.unusedSimpArgs false
set_option maxRecDepth 100000
noncomputable section
theorem evCutPrune_c1 (j : Nat) : allR (ok_CutPrune j) 14 0 2 (fun l => 40 :: 40 :: 41 :: 41 :: l) = true := by kernel_rfl
theorem evCutPrune_c17 (j : Nat) : allR (ok_CutPrune j) 6 0 6 (fun l => 40 :: 40 :: 41 :: 40 :: 41 :: 40 :: 40 :: 41 :: 41 :: 40 :: 41 :: 41 :: l) = true := by kernel_rfl
theorem evCutPrune_c24 (j : Nat) : allR (ok_CutPrune j) 6 4 8 (fun l => 40 :: 40 :: 41 :: 40 :: 41 :: 40 :: 40 :: 41 :: 40 :: 41 :: 40 :: 40 :: l) = true := by kernel_rfl
theorem evCutPrune_c32 (j : Nat) : allR (ok_CutPrune j) 6 2 7 (fun l => 40 :: 40 :: 41 :: 40 :: 41 :: 40 :: 40 :: 40 :: 41 :: 40 :: 41 :: 41 :: l) = true := by kernel_rfl
theorem evCutPrune_c56 (j : Nat) : allR (ok_CutPrune j) 6 4 8 (fun l => 40 :: 40 :: 41 :: 40 :: 40 :: 41 :: 40 :: 41 :: 41 :: 40 :: 40 :: 40 :: l) = true := by kernel_rfl
theorem evCutPrune_c72 (j : Nat) : allR (ok_CutPrune j) 6 4 8 (fun l => 40 :: 40 :: 41 :: 40 :: 40 :: 41 :: 40 :: 40 :: 40 :: 41 :: 41 :: 40 :: l) = true := by kernel_rfl
theorem evCutPrune_c86 (j : Nat) : allR (ok_CutPrune j) 7 5 8 (fun l => 40 :: 40 :: 41 :: 40 :: 40 :: 40 :: 41 :: 41 :: 40 :: 40 :: 40 :: l) = true := by kernel_rfl
theorem evCutPrune_c99 (j : Nat) : allR (ok_CutPrune j) 6 2 7 (fun l => 40 :: 40 :: 41 :: 40 :: 40 :: 40 :: 40 :: 41 :: 41 :: 41 :: 41 :: 40 :: l) = true := by kernel_rfl
theorem evCutPrune_c124 (j : Nat) : allR (ok_CutPrune j) 6 4 8 (fun l => 40 :: 40 :: 40 :: 41 :: 41 :: 40 :: 41 :: 40 :: 40 :: 41 :: 40 :: 40 :: l) = true := by kernel_rfl
theorem evCutPrune_c138 (j : Nat) : allR (ok_CutPrune j) 6 4 8 (fun l => 40 :: 40 :: 40 :: 41 :: 41 :: 40 :: 40 :: 41 :: 40 :: 40 :: 41 :: 40 :: l) = true := by kernel_rfl
theorem evCutPrune_c152 (j : Nat) : allR (ok_CutPrune j) 8 0 5 (fun l => 40 :: 40 :: 40 :: 41 :: 40 :: 41 :: 41 :: 40 :: 41 :: 41 :: l) = true := by kernel_rfl
theorem evCutPrune_c154 (j : Nat) : allR (ok_CutPrune j) 6 2 7 (fun l => 40 :: 40 :: 40 :: 41 :: 40 :: 41 :: 41 :: 40 :: 41 :: 40 :: 41 :: 40 :: l) = true := by kernel_rfl
theorem evCutPrune_c178 (j : Nat) : allR (ok_CutPrune j) 6 2 7 (fun l => 40 :: 40 :: 40 :: 41 :: 40 :: 41 :: 40 :: 40 :: 41 :: 41 :: 40 :: 41 :: l) = true := by kernel_rfl
theorem evCutPrune_c203 (j : Nat) : allR (ok_CutPrune j) 6 2 7 (fun l => 40 :: 40 :: 40 :: 41 :: 40 :: 40 :: 41 :: 40 :: 41 :: 40 :: 41 :: 41 :: l) = true := by kernel_rfl
theorem evCutPrune_c223 (j : Nat) : allR (ok_CutPrune j) 7 5 8 (fun l => 40 :: 40 :: 40 :: 41 :: 40 :: 40 :: 40 :: 40 :: 41 :: 41 :: 40 :: l) = true := by kernel_rfl
theorem evCutPrune_c243 (j : Nat) : allR (ok_CutPrune j) 6 4 8 (fun l => 40 :: 40 :: 40 :: 40 :: 41 :: 41 :: 40 :: 41 :: 41 :: 40 :: 40 :: 40 :: l) = true := by kernel_rfl
theorem evCutPrune_c256 (j : Nat) : allR (ok_CutPrune j) 6 4 8 (fun l => 40 :: 40 :: 40 :: 40 :: 41 :: 41 :: 40 :: 40 :: 41 :: 40 :: 41 :: 40 :: l) = true := by kernel_rfl
theorem evCutPrune_c271 (j : Nat) : allR (ok_CutPrune j) 6 2 7 (fun l => 40 :: 40 :: 40 :: 40 :: 41 :: 40 :: 41 :: 41 :: 40 :: 40 :: 41 :: 41 :: l) = true := by kernel_rfl
theorem evCutPrune_c293 (j : Nat) : allR (ok_CutPrune j) 6 4 8 (fun l => 40 :: 40 :: 40 :: 40 :: 41 :: 40 :: 40 :: 41 :: 40 :: 41 :: 41 :: 40 :: l) = true := by kernel_rfl
theorem evCutPrune_c304 (j : Nat) : allR (ok_CutPrune j) 6 2 7 (fun l => 40 :: 40 :: 40 :: 40 :: 40 :: 41 :: 41 :: 41 :: 41 :: 40 :: 40 :: 41 :: l) = true := by kernel_rfl
theorem evCutPrune_c325 (j : Nat) : allR (ok_CutPrune j) 6 2 7 (fun l => 40 :: 40 :: 40 :: 40 :: 40 :: 41 :: 40 :: 41 :: 41 :: 41 :: 41 :: 40 :: l) = true := by kernel_rfl
theorem evCutPrune_c346 (j : Nat) : allR (ok_CutPrune j) 7 5 8 (fun l => 40 :: 40 :: 40 :: 40 :: 40 :: 40 :: 41 :: 41 :: 41 :: 40 :: 40 :: l) = true := by kernel_rfl
theorem evCutPrune_c361 (j : Nat) : allR (ok_CutPrune j) 9 7 8 (fun l => 40 :: 40 :: 40 :: 40 :: 40 :: 40 :: 40 :: 40 :: 41 :: l) = true := by kernel_rfl
end
end Go.AI.T
