/- Levels, followed one by one, part 0. -/
import Derived.Test.YtojcncloeikjlabLxBad
import Derived.KernelRfl
namespace Go.AI.T
open Go Go.RowKit Go.AI
set_option linter.unusedVariables false
set_option linter.unusedSimpArgs false
set_option maxRecDepth 100000
noncomputable section
theorem v0_0123455 (T : List Int) : allV (t0 T) 2 5 (fun l => 0 :: 1 :: 2 :: 3 :: 4 :: 5 :: 5 :: l) = true := by kernel_rfl
theorem v0_0122344 (T : List Int) : allV (t0 T) 2 4 (fun l => 0 :: 1 :: 2 :: 2 :: 3 :: 4 :: 4 :: l) = true := by kernel_rfl
theorem v0_012341 (T : List Int) : allV (t0 T) 3 1 (fun l => 0 :: 1 :: 2 :: 3 :: 4 :: 1 :: l) = true := by kernel_rfl
theorem v0_012111 (T : List Int) : allV (t0 T) 3 1 (fun l => 0 :: 1 :: 2 :: 1 :: 1 :: 1 :: l) = true := by kernel_rfl
theorem v0_0123433 (T : List Int) : allV (t0 T) 2 3 (fun l => 0 :: 1 :: 2 :: 3 :: 4 :: 3 :: 3 :: l) = true := by kernel_rfl
theorem v0_0122343 (T : List Int) : allV (t0 T) 2 3 (fun l => 0 :: 1 :: 2 :: 2 :: 3 :: 4 :: 3 :: l) = true := by kernel_rfl
theorem v0_0121123 (T : List Int) : allV (t0 T) 2 3 (fun l => 0 :: 1 :: 2 :: 1 :: 1 :: 2 :: 3 :: l) = true := by kernel_rfl
theorem v0_0111223 (T : List Int) : allV (t0 T) 2 3 (fun l => 0 :: 1 :: 1 :: 1 :: 2 :: 2 :: 3 :: l) = true := by kernel_rfl
theorem v0_0123122 (T : List Int) : allV (t0 T) 2 2 (fun l => 0 :: 1 :: 2 :: 3 :: 1 :: 2 :: 2 :: l) = true := by kernel_rfl
theorem v0_0121222 (T : List Int) : allV (t0 T) 2 2 (fun l => 0 :: 1 :: 2 :: 1 :: 2 :: 2 :: 2 :: l) = true := by kernel_rfl
theorem v0_0111232 (T : List Int) : allV (t0 T) 2 2 (fun l => 0 :: 1 :: 1 :: 1 :: 2 :: 3 :: 2 :: l) = true := by kernel_rfl
theorem v0_0123421 (T : List Int) : allV (t0 T) 2 1 (fun l => 0 :: 1 :: 2 :: 3 :: 4 :: 2 :: 1 :: l) = true := by kernel_rfl
theorem v0_0122331 (T : List Int) : allV (t0 T) 2 1 (fun l => 0 :: 1 :: 2 :: 2 :: 3 :: 3 :: 1 :: l) = true := by kernel_rfl
theorem v0_0112341 (T : List Int) : allV (t0 T) 2 1 (fun l => 0 :: 1 :: 1 :: 2 :: 3 :: 4 :: 1 :: l) = true := by kernel_rfl
theorem v0_0111121 (T : List Int) : allV (t0 T) 2 1 (fun l => 0 :: 1 :: 1 :: 1 :: 1 :: 2 :: 1 :: l) = true := by kernel_rfl
end
end Go.AI.T
