/- Levels, followed one by one, part 7. -/
import Derived.Test.YtojcncloeikjlabLxBad
import Derived.KernelRfl
namespace Go.AI.T
open Go Go.RowKit Go.AI
set_option linter.unusedVariables false
set_option linter.unusedSimpArgs false
set_option maxRecDepth 100000
noncomputable section
theorem v0_0123434 (T : List Int) : allV (t0 T) 2 4 (fun l => 0 :: 1 :: 2 :: 3 :: 4 :: 3 :: 4 :: l) = true := by kernel_rfl
theorem v0_0123234 (T : List Int) : allV (t0 T) 2 4 (fun l => 0 :: 1 :: 2 :: 3 :: 2 :: 3 :: 4 :: l) = true := by kernel_rfl
theorem v0_0111234 (T : List Int) : allV (t0 T) 2 4 (fun l => 0 :: 1 :: 1 :: 1 :: 2 :: 3 :: 4 :: l) = true := by kernel_rfl
theorem v0_012121 (T : List Int) : allV (t0 T) 3 1 (fun l => 0 :: 1 :: 2 :: 1 :: 2 :: 1 :: l) = true := by kernel_rfl
theorem v0_0123443 (T : List Int) : allV (t0 T) 2 3 (fun l => 0 :: 1 :: 2 :: 3 :: 4 :: 4 :: 3 :: l) = true := by kernel_rfl
theorem v0_0123223 (T : List Int) : allV (t0 T) 2 3 (fun l => 0 :: 1 :: 2 :: 3 :: 2 :: 2 :: 3 :: l) = true := by kernel_rfl
theorem v0_0121233 (T : List Int) : allV (t0 T) 2 3 (fun l => 0 :: 1 :: 2 :: 1 :: 2 :: 3 :: 3 :: l) = true := by kernel_rfl
theorem v0_0112123 (T : List Int) : allV (t0 T) 2 3 (fun l => 0 :: 1 :: 1 :: 2 :: 1 :: 2 :: 3 :: l) = true := by kernel_rfl
theorem v0_0123232 (T : List Int) : allV (t0 T) 2 2 (fun l => 0 :: 1 :: 2 :: 3 :: 2 :: 3 :: 2 :: l) = true := by kernel_rfl
theorem v0_0122122 (T : List Int) : allV (t0 T) 2 2 (fun l => 0 :: 1 :: 2 :: 2 :: 1 :: 2 :: 2 :: l) = true := by kernel_rfl
theorem v0_0112222 (T : List Int) : allV (t0 T) 2 2 (fun l => 0 :: 1 :: 1 :: 2 :: 2 :: 2 :: 2 :: l) = true := by kernel_rfl
theorem v0_0123441 (T : List Int) : allV (t0 T) 2 1 (fun l => 0 :: 1 :: 2 :: 3 :: 4 :: 4 :: 1 :: l) = true := by kernel_rfl
theorem v0_0123221 (T : List Int) : allV (t0 T) 2 1 (fun l => 0 :: 1 :: 2 :: 3 :: 2 :: 2 :: 1 :: l) = true := by kernel_rfl
theorem v0_0121231 (T : List Int) : allV (t0 T) 2 1 (fun l => 0 :: 1 :: 2 :: 1 :: 2 :: 3 :: 1 :: l) = true := by kernel_rfl
theorem v0_0112121 (T : List Int) : allV (t0 T) 2 1 (fun l => 0 :: 1 :: 1 :: 2 :: 1 :: 2 :: 1 :: l) = true := by kernel_rfl
theorem v0_01234561 (T : List Int) : allV (t0 T) 1 1 (fun l => 0 :: 1 :: 2 :: 3 :: 4 :: 5 :: 6 :: 1 :: l) = true := by kernel_rfl
end
end Go.AI.T
