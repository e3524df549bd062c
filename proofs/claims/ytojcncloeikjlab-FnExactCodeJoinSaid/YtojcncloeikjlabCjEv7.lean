/- The evaluation, part 7. -/
import Derived.Test.YtojcncloeikjlabCjC
import Derived.KernelRfl
namespace Go.AI.T
open Go Go.RowKit Go.AI
set_option linter.unusedVariables false
set_option linter.unusedSimpArgs false
set_option maxRecDepth 100000
noncomputable section
theorem evJ_c7 : allR okJ 9 1 5 (fun l => 40 :: 40 :: 41 :: 40 :: 41 :: 40 :: 40 :: 41 :: 41 :: l) = true := by kernel_rfl
theorem evJ_c20 : allR okJ 8 2 6 (fun l => 40 :: 40 :: 41 :: 40 :: 40 :: 41 :: 40 :: 40 :: 41 :: 41 :: l) = true := by kernel_rfl
theorem evJ_c27 : allR okJ 8 4 7 (fun l => 40 :: 40 :: 41 :: 40 :: 40 :: 40 :: 41 :: 40 :: 41 :: 40 :: l) = true := by kernel_rfl
theorem evJ_c31 : allR okJ 9 5 7 (fun l => 40 :: 40 :: 41 :: 40 :: 40 :: 40 :: 40 :: 41 :: 40 :: l) = true := by kernel_rfl
theorem evJ_c44 : allR okJ 10 0 4 (fun l => 40 :: 40 :: 40 :: 41 :: 40 :: 41 :: 41 :: 41 :: l) = true := by kernel_rfl
theorem evJ_c45 : allR okJ 9 1 5 (fun l => 40 :: 40 :: 40 :: 41 :: 40 :: 41 :: 41 :: 40 :: 41 :: l) = true := by kernel_rfl
theorem evJ_c52 : allR okJ 8 4 7 (fun l => 40 :: 40 :: 40 :: 41 :: 40 :: 41 :: 40 :: 40 :: 41 :: 40 :: l) = true := by kernel_rfl
theorem evJ_c60 : allR okJ 8 2 6 (fun l => 40 :: 40 :: 40 :: 41 :: 40 :: 40 :: 40 :: 41 :: 41 :: 41 :: l) = true := by kernel_rfl
theorem evJ_c68 : allR okJ 9 1 5 (fun l => 40 :: 40 :: 40 :: 40 :: 41 :: 41 :: 40 :: 41 :: 41 :: l) = true := by kernel_rfl
theorem evJ_c77 : allR okJ 8 2 6 (fun l => 40 :: 40 :: 40 :: 40 :: 41 :: 40 :: 41 :: 40 :: 41 :: 41 :: l) = true := by kernel_rfl
theorem evJ_c86 : allR okJ 8 4 7 (fun l => 40 :: 40 :: 40 :: 40 :: 40 :: 41 :: 41 :: 41 :: 40 :: 40 :: l) = true := by kernel_rfl
theorem evJ_c90 : allR okJ 8 2 6 (fun l => 40 :: 40 :: 40 :: 40 :: 40 :: 41 :: 40 :: 41 :: 41 :: 41 :: l) = true := by kernel_rfl
theorem evJ_c99 : allR okJ 10 8 8 (fun l => 40 :: 40 :: 40 :: 40 :: 40 :: 40 :: 40 :: 40 :: l) = true := by kernel_rfl
end
end Go.AI.T
