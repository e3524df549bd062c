/- Levels, followed one by one, part 1. -/
import Derived.Test.YtojcncloeikjlabLxBad
import Derived.KernelRfl
namespace Go.AI.T
open Go Go.RowKit Go.AI
set_option linter.unusedVariables false
set_option linter.unusedSimpArgs false
set_option maxRecDepth 100000
noncomputable section
theorem v0_0123445 (T : List Int) : allV (t0 T) 2 5 (fun l => 0 :: 1 :: 2 :: 3 :: 4 :: 4 :: 5 :: l) = true := by kernel_rfl
theorem v0_0122334 (T : List Int) : allV (t0 T) 2 4 (fun l => 0 :: 1 :: 2 :: 2 :: 3 :: 3 :: 4 :: l) = true := by kernel_rfl
theorem v0_012331 (T : List Int) : allV (t0 T) 3 1 (fun l => 0 :: 1 :: 2 :: 3 :: 3 :: 1 :: l) = true := by kernel_rfl
theorem v0_011231 (T : List Int) : allV (t0 T) 3 1 (fun l => 0 :: 1 :: 1 :: 2 :: 3 :: 1 :: l) = true := by kernel_rfl
theorem v0_0123423 (T : List Int) : allV (t0 T) 2 3 (fun l => 0 :: 1 :: 2 :: 3 :: 4 :: 2 :: 3 :: l) = true := by kernel_rfl
theorem v0_0122333 (T : List Int) : allV (t0 T) 2 3 (fun l => 0 :: 1 :: 2 :: 2 :: 3 :: 3 :: 3 :: l) = true := by kernel_rfl
theorem v0_0112343 (T : List Int) : allV (t0 T) 2 3 (fun l => 0 :: 1 :: 1 :: 2 :: 3 :: 4 :: 3 :: l) = true := by kernel_rfl
theorem v0_0111123 (T : List Int) : allV (t0 T) 2 3 (fun l => 0 :: 1 :: 1 :: 1 :: 1 :: 2 :: 3 :: l) = true := by kernel_rfl
theorem v0_0122342 (T : List Int) : allV (t0 T) 2 2 (fun l => 0 :: 1 :: 2 :: 2 :: 3 :: 4 :: 2 :: l) = true := by kernel_rfl
theorem v0_0121122 (T : List Int) : allV (t0 T) 2 2 (fun l => 0 :: 1 :: 2 :: 1 :: 1 :: 2 :: 2 :: l) = true := by kernel_rfl
theorem v0_0111222 (T : List Int) : allV (t0 T) 2 2 (fun l => 0 :: 1 :: 1 :: 1 :: 2 :: 2 :: 2 :: l) = true := by kernel_rfl
theorem v0_0123341 (T : List Int) : allV (t0 T) 2 1 (fun l => 0 :: 1 :: 2 :: 3 :: 3 :: 4 :: 1 :: l) = true := by kernel_rfl
theorem v0_0122321 (T : List Int) : allV (t0 T) 2 1 (fun l => 0 :: 1 :: 2 :: 2 :: 3 :: 2 :: 1 :: l) = true := by kernel_rfl
theorem v0_0112331 (T : List Int) : allV (t0 T) 2 1 (fun l => 0 :: 1 :: 1 :: 2 :: 3 :: 3 :: 1 :: l) = true := by kernel_rfl
theorem v0_01234565 (T : List Int) : allV (t0 T) 1 5 (fun l => 0 :: 1 :: 2 :: 3 :: 4 :: 5 :: 6 :: 5 :: l) = true := by kernel_rfl
end
end Go.AI.T
