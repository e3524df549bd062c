/- Levels, followed one by one, part 6. -/
import Derived.Test.YtojcncloeikjlabLxBad
import Derived.KernelRfl
namespace Go.AI.T
open Go Go.RowKit Go.AI
set_option linter.unusedVariables false
set_option linter.unusedSimpArgs false
set_option maxRecDepth 100000
noncomputable section
theorem v0_0123444 (T : List Int) : allV (t0 T) 2 4 (fun l => 0 :: 1 :: 2 :: 3 :: 4 :: 4 :: 4 :: l) = true := by kernel_rfl
theorem v0_0123334 (T : List Int) : allV (t0 T) 2 4 (fun l => 0 :: 1 :: 2 :: 3 :: 3 :: 3 :: 4 :: l) = true := by kernel_rfl
theorem v0_0112234 (T : List Int) : allV (t0 T) 2 4 (fun l => 0 :: 1 :: 1 :: 2 :: 2 :: 3 :: 4 :: l) = true := by kernel_rfl
theorem v0_012211 (T : List Int) : allV (t0 T) 3 1 (fun l => 0 :: 1 :: 2 :: 2 :: 1 :: 1 :: l) = true := by kernel_rfl
theorem v0_0123453 (T : List Int) : allV (t0 T) 2 3 (fun l => 0 :: 1 :: 2 :: 3 :: 4 :: 5 :: 3 :: l) = true := by kernel_rfl
theorem v0_0123233 (T : List Int) : allV (t0 T) 2 3 (fun l => 0 :: 1 :: 2 :: 3 :: 2 :: 3 :: 3 :: l) = true := by kernel_rfl
theorem v0_0122123 (T : List Int) : allV (t0 T) 2 3 (fun l => 0 :: 1 :: 2 :: 2 :: 1 :: 2 :: 3 :: l) = true := by kernel_rfl
theorem v0_0112223 (T : List Int) : allV (t0 T) 2 3 (fun l => 0 :: 1 :: 1 :: 2 :: 2 :: 2 :: 3 :: l) = true := by kernel_rfl
theorem v0_0123322 (T : List Int) : allV (t0 T) 2 2 (fun l => 0 :: 1 :: 2 :: 3 :: 3 :: 2 :: 2 :: l) = true := by kernel_rfl
theorem v0_0122222 (T : List Int) : allV (t0 T) 2 2 (fun l => 0 :: 1 :: 2 :: 2 :: 2 :: 2 :: 2 :: l) = true := by kernel_rfl
theorem v0_0112232 (T : List Int) : allV (t0 T) 2 2 (fun l => 0 :: 1 :: 1 :: 2 :: 2 :: 3 :: 2 :: l) = true := by kernel_rfl
theorem v0_0123451 (T : List Int) : allV (t0 T) 2 1 (fun l => 0 :: 1 :: 2 :: 3 :: 4 :: 5 :: 1 :: l) = true := by kernel_rfl
theorem v0_0123231 (T : List Int) : allV (t0 T) 2 1 (fun l => 0 :: 1 :: 2 :: 3 :: 2 :: 3 :: 1 :: l) = true := by kernel_rfl
theorem v0_0122121 (T : List Int) : allV (t0 T) 2 1 (fun l => 0 :: 1 :: 2 :: 2 :: 1 :: 2 :: 1 :: l) = true := by kernel_rfl
theorem v0_0112221 (T : List Int) : allV (t0 T) 2 1 (fun l => 0 :: 1 :: 1 :: 2 :: 2 :: 2 :: 1 :: l) = true := by kernel_rfl
theorem v0_01234562 (T : List Int) : allV (t0 T) 1 2 (fun l => 0 :: 1 :: 2 :: 3 :: 4 :: 5 :: 6 :: 2 :: l) = true := by kernel_rfl
end
end Go.AI.T
