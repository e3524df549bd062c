/- Levels, followed one by one, part 3. -/
import Derived.Test.YtojcncloeikjlabLxBad
import Derived.KernelRfl
namespace Go.AI.T
open Go Go.RowKit Go.AI
set_option linter.unusedVariables false
set_option linter.unusedSimpArgs false
set_option maxRecDepth 100000
noncomputable section
theorem v0_0122345 (T : List Int) : allV (t0 T) 2 5 (fun l => 0 :: 1 :: 2 :: 2 :: 3 :: 4 :: 5 :: l) = true := by kernel_rfl
theorem v0_0121234 (T : List Int) : allV (t0 T) 2 4 (fun l => 0 :: 1 :: 2 :: 1 :: 2 :: 3 :: 4 :: l) = true := by kernel_rfl
theorem v0_012311 (T : List Int) : allV (t0 T) 3 1 (fun l => 0 :: 1 :: 2 :: 3 :: 1 :: 1 :: l) = true := by kernel_rfl
theorem v0_011211 (T : List Int) : allV (t0 T) 3 1 (fun l => 0 :: 1 :: 1 :: 2 :: 1 :: 1 :: l) = true := by kernel_rfl
theorem v0_0123333 (T : List Int) : allV (t0 T) 2 3 (fun l => 0 :: 1 :: 2 :: 3 :: 3 :: 3 :: 3 :: l) = true := by kernel_rfl
theorem v0_0122233 (T : List Int) : allV (t0 T) 2 3 (fun l => 0 :: 1 :: 2 :: 2 :: 2 :: 3 :: 3 :: l) = true := by kernel_rfl
theorem v0_0112323 (T : List Int) : allV (t0 T) 2 3 (fun l => 0 :: 1 :: 1 :: 2 :: 3 :: 2 :: 3 :: l) = true := by kernel_rfl
theorem v0_0123442 (T : List Int) : allV (t0 T) 2 2 (fun l => 0 :: 1 :: 2 :: 3 :: 4 :: 4 :: 2 :: l) = true := by kernel_rfl
theorem v0_0123342 (T : List Int) : allV (t0 T) 2 2 (fun l => 0 :: 1 :: 2 :: 3 :: 3 :: 4 :: 2 :: l) = true := by kernel_rfl
theorem v0_0122322 (T : List Int) : allV (t0 T) 2 2 (fun l => 0 :: 1 :: 2 :: 2 :: 3 :: 2 :: 2 :: l) = true := by kernel_rfl
theorem v0_0112332 (T : List Int) : allV (t0 T) 2 2 (fun l => 0 :: 1 :: 1 :: 2 :: 3 :: 3 :: 2 :: l) = true := by kernel_rfl
theorem v0_01234567 (T : List Int) : allV (t0 T) 1 7 (fun l => 0 :: 1 :: 2 :: 3 :: 4 :: 5 :: 6 :: 7 :: l) = true := by kernel_rfl
theorem v0_0123321 (T : List Int) : allV (t0 T) 2 1 (fun l => 0 :: 1 :: 2 :: 3 :: 3 :: 2 :: 1 :: l) = true := by kernel_rfl
theorem v0_0122221 (T : List Int) : allV (t0 T) 2 1 (fun l => 0 :: 1 :: 2 :: 2 :: 2 :: 2 :: 1 :: l) = true := by kernel_rfl
theorem v0_0112231 (T : List Int) : allV (t0 T) 2 1 (fun l => 0 :: 1 :: 1 :: 2 :: 2 :: 3 :: 1 :: l) = true := by kernel_rfl
theorem v0_01234563 (T : List Int) : allV (t0 T) 1 3 (fun l => 0 :: 1 :: 2 :: 3 :: 4 :: 5 :: 6 :: 3 :: l) = true := by kernel_rfl
end
end Go.AI.T
