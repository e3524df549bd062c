/- The evaluation, part 0. -/
import Derived.Test.YtmknipepkjbgjaaLevelsOfBad
import Derived.KernelRfl
namespace Go.AI.T
open Go Go.RowKit Go.AI
set_option linter.unusedVariables false
set_option linter.unusedSimpArgs false
set_option maxRecDepth 100000
noncomputable section
theorem evLevelsOf_c0 : allR ok_LevelsOf 16 0 1 (fun l => 40 :: 41 :: l) = true := by kernel_rfl
theorem evLevelsOf_c6 : allR ok_LevelsOf 8 4 7 (fun l => 40 :: 40 :: 41 :: 40 :: 41 :: 40 :: 41 :: 40 :: 40 :: 40 :: l) = true := by kernel_rfl
theorem evLevelsOf_c10 : allR ok_LevelsOf 8 2 6 (fun l => 40 :: 40 :: 41 :: 40 :: 41 :: 40 :: 40 :: 40 :: 41 :: 41 :: l) = true := by kernel_rfl
theorem evLevelsOf_c18 : allR ok_LevelsOf 8 2 6 (fun l => 40 :: 40 :: 41 :: 40 :: 40 :: 41 :: 40 :: 41 :: 40 :: 41 :: l) = true := by kernel_rfl
theorem evLevelsOf_c25 : allR ok_LevelsOf 8 4 7 (fun l => 40 :: 40 :: 41 :: 40 :: 40 :: 40 :: 41 :: 41 :: 40 :: 40 :: l) = true := by kernel_rfl
theorem evLevelsOf_c29 : allR ok_LevelsOf 8 2 6 (fun l => 40 :: 40 :: 41 :: 40 :: 40 :: 40 :: 40 :: 41 :: 41 :: 41 :: l) = true := by kernel_rfl
theorem evLevelsOf_c39 : allR ok_LevelsOf 9 1 5 (fun l => 40 :: 40 :: 40 :: 41 :: 41 :: 40 :: 40 :: 41 :: 41 :: l) = true := by kernel_rfl
theorem evLevelsOf_c45 : allR ok_LevelsOf 10 0 4 (fun l => 40 :: 40 :: 40 :: 41 :: 40 :: 41 :: 41 :: 41 :: l) = true := by kernel_rfl
theorem evLevelsOf_c46 : allR ok_LevelsOf 9 1 5 (fun l => 40 :: 40 :: 40 :: 41 :: 40 :: 41 :: 41 :: 40 :: 41 :: l) = true := by kernel_rfl
theorem evLevelsOf_c52 : allR ok_LevelsOf 8 2 6 (fun l => 40 :: 40 :: 40 :: 41 :: 40 :: 41 :: 40 :: 40 :: 41 :: 41 :: l) = true := by kernel_rfl
theorem evLevelsOf_c59 : allR ok_LevelsOf 8 4 7 (fun l => 40 :: 40 :: 40 :: 41 :: 40 :: 40 :: 41 :: 40 :: 41 :: 40 :: l) = true := by kernel_rfl
theorem evLevelsOf_c64 : allR ok_LevelsOf 9 5 7 (fun l => 40 :: 40 :: 40 :: 41 :: 40 :: 40 :: 40 :: 40 :: 41 :: l) = true := by kernel_rfl
theorem evLevelsOf_c72 : allR ok_LevelsOf 8 4 7 (fun l => 40 :: 40 :: 40 :: 40 :: 41 :: 41 :: 40 :: 41 :: 40 :: 40 :: l) = true := by kernel_rfl
theorem evLevelsOf_c78 : allR ok_LevelsOf 8 4 7 (fun l => 40 :: 40 :: 40 :: 40 :: 41 :: 40 :: 41 :: 41 :: 40 :: 40 :: l) = true := by kernel_rfl
theorem evLevelsOf_c83 : allR ok_LevelsOf 8 4 7 (fun l => 40 :: 40 :: 40 :: 40 :: 41 :: 40 :: 40 :: 41 :: 41 :: 40 :: l) = true := by kernel_rfl
theorem evLevelsOf_c88 : allR ok_LevelsOf 8 2 6 (fun l => 40 :: 40 :: 40 :: 40 :: 40 :: 41 :: 41 :: 41 :: 40 :: 41 :: l) = true := by kernel_rfl
theorem evLevelsOf_c95 : allR ok_LevelsOf 9 5 7 (fun l => 40 :: 40 :: 40 :: 40 :: 40 :: 41 :: 40 :: 41 :: 40 :: l) = true := by kernel_rfl
theorem evLevelsOf_c102 : allR ok_LevelsOf 9 7 8 (fun l => 40 :: 40 :: 40 :: 40 :: 40 :: 40 :: 41 :: 40 :: 40 :: l) = true := by kernel_rfl
theorem evLevelsOf_c104 : allR ok_LevelsOf 9 7 8 (fun l => 40 :: 40 :: 40 :: 40 :: 40 :: 40 :: 40 :: 41 :: 40 :: l) = true := by kernel_rfl
end
end Go.AI.T
