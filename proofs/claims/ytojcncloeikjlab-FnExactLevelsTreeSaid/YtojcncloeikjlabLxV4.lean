/- Levels, followed one by one, part 4. -/
import Derived.Test.YtojcncloeikjlabLxBad
import Derived.KernelRfl
namespace Go.AI.T
open Go Go.RowKit Go.AI
set_option linter.unusedVariables false
set_option linter.unusedSimpArgs false
set_option maxRecDepth 100000
noncomputable section
theorem v0_0112345 (T : List Int) : allV (t0 T) 2 5 (fun l => 0 :: 1 :: 1 :: 2 :: 3 :: 4 :: 5 :: l) = true := by kernel_rfl
theorem v0_0112344 (T : List Int) : allV (t0 T) 2 4 (fun l => 0 :: 1 :: 1 :: 2 :: 3 :: 4 :: 4 :: l) = true := by kernel_rfl
theorem v0_012231 (T : List Int) : allV (t0 T) 3 1 (fun l => 0 :: 1 :: 2 :: 2 :: 3 :: 1 :: l) = true := by kernel_rfl
theorem v0_011121 (T : List Int) : allV (t0 T) 3 1 (fun l => 0 :: 1 :: 1 :: 1 :: 2 :: 1 :: l) = true := by kernel_rfl
theorem v0_0123323 (T : List Int) : allV (t0 T) 2 3 (fun l => 0 :: 1 :: 2 :: 3 :: 3 :: 2 :: 3 :: l) = true := by kernel_rfl
theorem v0_0122223 (T : List Int) : allV (t0 T) 2 3 (fun l => 0 :: 1 :: 2 :: 2 :: 2 :: 2 :: 3 :: l) = true := by kernel_rfl
theorem v0_0112233 (T : List Int) : allV (t0 T) 2 3 (fun l => 0 :: 1 :: 1 :: 2 :: 2 :: 3 :: 3 :: l) = true := by kernel_rfl
theorem v0_0123432 (T : List Int) : allV (t0 T) 2 2 (fun l => 0 :: 1 :: 2 :: 3 :: 4 :: 3 :: 2 :: l) = true := by kernel_rfl
theorem v0_0123332 (T : List Int) : allV (t0 T) 2 2 (fun l => 0 :: 1 :: 2 :: 3 :: 3 :: 3 :: 2 :: l) = true := by kernel_rfl
theorem v0_0122232 (T : List Int) : allV (t0 T) 2 2 (fun l => 0 :: 1 :: 2 :: 2 :: 2 :: 3 :: 2 :: l) = true := by kernel_rfl
theorem v0_0112322 (T : List Int) : allV (t0 T) 2 2 (fun l => 0 :: 1 :: 1 :: 2 :: 3 :: 2 :: 2 :: l) = true := by kernel_rfl
theorem v0_01234566 (T : List Int) : allV (t0 T) 1 6 (fun l => 0 :: 1 :: 2 :: 3 :: 4 :: 5 :: 6 :: 6 :: l) = true := by kernel_rfl
theorem v0_0123331 (T : List Int) : allV (t0 T) 2 1 (fun l => 0 :: 1 :: 2 :: 3 :: 3 :: 3 :: 1 :: l) = true := by kernel_rfl
theorem v0_0122231 (T : List Int) : allV (t0 T) 2 1 (fun l => 0 :: 1 :: 2 :: 2 :: 2 :: 3 :: 1 :: l) = true := by kernel_rfl
theorem v0_0112321 (T : List Int) : allV (t0 T) 2 1 (fun l => 0 :: 1 :: 1 :: 2 :: 3 :: 2 :: 1 :: l) = true := by kernel_rfl
theorem v0_01234564 (T : List Int) : allV (t0 T) 1 4 (fun l => 0 :: 1 :: 2 :: 3 :: 4 :: 5 :: 6 :: 4 :: l) = true := by kernel_rfl
end
end Go.AI.T
