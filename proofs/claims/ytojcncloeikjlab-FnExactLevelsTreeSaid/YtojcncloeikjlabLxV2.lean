/- Levels, followed one by one, part 2. -/
import Derived.Test.YtojcncloeikjlabLxBad
import Derived.KernelRfl
namespace Go.AI.T
open Go Go.RowKit Go.AI
set_option linter.unusedVariables false
set_option linter.unusedSimpArgs false
set_option maxRecDepth 100000
noncomputable section
theorem v0_0123345 (T : List Int) : allV (t0 T) 2 5 (fun l => 0 :: 1 :: 2 :: 3 :: 3 :: 4 :: 5 :: l) = true := by kernel_rfl
theorem v0_0122234 (T : List Int) : allV (t0 T) 2 4 (fun l => 0 :: 1 :: 2 :: 2 :: 2 :: 3 :: 4 :: l) = true := by kernel_rfl
theorem v0_012321 (T : List Int) : allV (t0 T) 3 1 (fun l => 0 :: 1 :: 2 :: 3 :: 2 :: 1 :: l) = true := by kernel_rfl
theorem v0_011221 (T : List Int) : allV (t0 T) 3 1 (fun l => 0 :: 1 :: 1 :: 2 :: 2 :: 1 :: l) = true := by kernel_rfl
theorem v0_0123343 (T : List Int) : allV (t0 T) 2 3 (fun l => 0 :: 1 :: 2 :: 3 :: 3 :: 4 :: 3 :: l) = true := by kernel_rfl
theorem v0_0122323 (T : List Int) : allV (t0 T) 2 3 (fun l => 0 :: 1 :: 2 :: 2 :: 3 :: 2 :: 3 :: l) = true := by kernel_rfl
theorem v0_0112333 (T : List Int) : allV (t0 T) 2 3 (fun l => 0 :: 1 :: 1 :: 2 :: 3 :: 3 :: 3 :: l) = true := by kernel_rfl
theorem v0_0123452 (T : List Int) : allV (t0 T) 2 2 (fun l => 0 :: 1 :: 2 :: 3 :: 4 :: 5 :: 2 :: l) = true := by kernel_rfl
theorem v0_0123422 (T : List Int) : allV (t0 T) 2 2 (fun l => 0 :: 1 :: 2 :: 3 :: 4 :: 2 :: 2 :: l) = true := by kernel_rfl
theorem v0_0122332 (T : List Int) : allV (t0 T) 2 2 (fun l => 0 :: 1 :: 2 :: 2 :: 3 :: 3 :: 2 :: l) = true := by kernel_rfl
theorem v0_0112342 (T : List Int) : allV (t0 T) 2 2 (fun l => 0 :: 1 :: 1 :: 2 :: 3 :: 4 :: 2 :: l) = true := by kernel_rfl
theorem v0_0111122 (T : List Int) : allV (t0 T) 2 2 (fun l => 0 :: 1 :: 1 :: 1 :: 1 :: 2 :: 2 :: l) = true := by kernel_rfl
theorem v0_0123121 (T : List Int) : allV (t0 T) 2 1 (fun l => 0 :: 1 :: 2 :: 3 :: 1 :: 2 :: 1 :: l) = true := by kernel_rfl
theorem v0_0121221 (T : List Int) : allV (t0 T) 2 1 (fun l => 0 :: 1 :: 2 :: 1 :: 2 :: 2 :: 1 :: l) = true := by kernel_rfl
theorem v0_0111231 (T : List Int) : allV (t0 T) 2 1 (fun l => 0 :: 1 :: 1 :: 1 :: 2 :: 3 :: 1 :: l) = true := by kernel_rfl
end
end Go.AI.T
