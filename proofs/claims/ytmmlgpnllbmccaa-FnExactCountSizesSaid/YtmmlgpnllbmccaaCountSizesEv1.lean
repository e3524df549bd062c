/- The evaluation, part 1. -/
import Derived.Test.YtmmlgpnllbmccaaCountSizesBad
import Derived.KernelRfl
namespace Go.AI.T
open Go Go.RowKit Go.AI
set_option linter.unusedVariables false
set_option linter.unusedSimpArgs false
set_option maxRecDepth 100000
noncomputable section
theorem evCountSizes_c1 : allR ok_CountSizes 14 0 2 (fun l => 40 :: 40 :: 41 :: 41 :: l) = true := by kernel_rfl
theorem evCountSizes_c9 : allR ok_CountSizes 8 4 7 (fun l => 40 :: 40 :: 41 :: 40 :: 41 :: 40 :: 40 :: 41 :: 40 :: 40 :: l) = true := by kernel_rfl
theorem evCountSizes_c13 : allR ok_CountSizes 10 0 4 (fun l => 40 :: 40 :: 41 :: 40 :: 40 :: 41 :: 41 :: 41 :: l) = true := by kernel_rfl
theorem evCountSizes_c15 : allR ok_CountSizes 8 2 6 (fun l => 40 :: 40 :: 41 :: 40 :: 40 :: 41 :: 41 :: 40 :: 40 :: 41 :: l) = true := by kernel_rfl
theorem evCountSizes_c23 : allR ok_CountSizes 9 1 5 (fun l => 40 :: 40 :: 41 :: 40 :: 40 :: 40 :: 41 :: 41 :: 41 :: l) = true := by kernel_rfl
theorem evCountSizes_c33 : allR ok_CountSizes 12 0 3 (fun l => 40 :: 40 :: 40 :: 41 :: 41 :: 41 :: l) = true := by kernel_rfl
theorem evCountSizes_c34 : allR ok_CountSizes 10 0 4 (fun l => 40 :: 40 :: 40 :: 41 :: 41 :: 40 :: 41 :: 41 :: l) = true := by kernel_rfl
theorem evCountSizes_c36 : allR ok_CountSizes 8 2 6 (fun l => 40 :: 40 :: 40 :: 41 :: 41 :: 40 :: 41 :: 40 :: 40 :: 41 :: l) = true := by kernel_rfl
theorem evCountSizes_c42 : allR ok_CountSizes 8 4 7 (fun l => 40 :: 40 :: 40 :: 41 :: 41 :: 40 :: 40 :: 40 :: 41 :: 40 :: l) = true := by kernel_rfl
theorem evCountSizes_c50 : allR ok_CountSizes 8 4 7 (fun l => 40 :: 40 :: 40 :: 41 :: 40 :: 41 :: 40 :: 41 :: 40 :: 40 :: l) = true := by kernel_rfl
theorem evCountSizes_c58 : allR ok_CountSizes 8 4 7 (fun l => 40 :: 40 :: 40 :: 41 :: 40 :: 40 :: 41 :: 40 :: 41 :: 40 :: l) = true := by kernel_rfl
theorem evCountSizes_c66 : allR ok_CountSizes 8 2 6 (fun l => 40 :: 40 :: 40 :: 40 :: 41 :: 41 :: 41 :: 40 :: 40 :: 41 :: l) = true := by kernel_rfl
theorem evCountSizes_c74 : allR ok_CountSizes 9 1 5 (fun l => 40 :: 40 :: 40 :: 40 :: 41 :: 40 :: 41 :: 41 :: 41 :: l) = true := by kernel_rfl
theorem evCountSizes_c81 : allR ok_CountSizes 8 4 7 (fun l => 40 :: 40 :: 40 :: 40 :: 41 :: 40 :: 40 :: 41 :: 41 :: 40 :: l) = true := by kernel_rfl
theorem evCountSizes_c88 : allR ok_CountSizes 8 4 7 (fun l => 40 :: 40 :: 40 :: 40 :: 40 :: 41 :: 41 :: 40 :: 41 :: 40 :: l) = true := by kernel_rfl
theorem evCountSizes_c94 : allR ok_CountSizes 8 2 6 (fun l => 40 :: 40 :: 40 :: 40 :: 40 :: 40 :: 41 :: 41 :: 41 :: 41 :: l) = true := by kernel_rfl
end
end Go.AI.T
