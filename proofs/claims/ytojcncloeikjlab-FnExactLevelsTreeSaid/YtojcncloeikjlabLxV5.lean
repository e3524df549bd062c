/- Levels, followed one by one, part 5. -/
import Derived.Test.YtojcncloeikjlabLxBad
import Derived.KernelRfl
namespace Go.AI.T
open Go Go.RowKit Go.AI
set_option linter.unusedVariables false
set_option linter.unusedSimpArgs false
set_option maxRecDepth 100000
noncomputable section
theorem v0_0123454 (T : List Int) : allV (t0 T) 2 4 (fun l => 0 :: 1 :: 2 :: 3 :: 4 :: 5 :: 4 :: l) = true := by kernel_rfl
theorem v0_0123344 (T : List Int) : allV (t0 T) 2 4 (fun l => 0 :: 1 :: 2 :: 3 :: 3 :: 4 :: 4 :: l) = true := by kernel_rfl
theorem v0_0112334 (T : List Int) : allV (t0 T) 2 4 (fun l => 0 :: 1 :: 1 :: 2 :: 3 :: 3 :: 4 :: l) = true := by kernel_rfl
theorem v0_012221 (T : List Int) : allV (t0 T) 3 1 (fun l => 0 :: 1 :: 2 :: 2 :: 2 :: 1 :: l) = true := by kernel_rfl
theorem v0_011111 (T : List Int) : allV (t0 T) 3 1 (fun l => 0 :: 1 :: 1 :: 1 :: 1 :: 1 :: l) = true := by kernel_rfl
theorem v0_0123123 (T : List Int) : allV (t0 T) 2 3 (fun l => 0 :: 1 :: 2 :: 3 :: 1 :: 2 :: 3 :: l) = true := by kernel_rfl
theorem v0_0121223 (T : List Int) : allV (t0 T) 2 3 (fun l => 0 :: 1 :: 2 :: 1 :: 2 :: 2 :: 3 :: l) = true := by kernel_rfl
theorem v0_0111233 (T : List Int) : allV (t0 T) 2 3 (fun l => 0 :: 1 :: 1 :: 1 :: 2 :: 3 :: 3 :: l) = true := by kernel_rfl
theorem v0_0123222 (T : List Int) : allV (t0 T) 2 2 (fun l => 0 :: 1 :: 2 :: 3 :: 2 :: 2 :: 2 :: l) = true := by kernel_rfl
theorem v0_0121232 (T : List Int) : allV (t0 T) 2 2 (fun l => 0 :: 1 :: 2 :: 1 :: 2 :: 3 :: 2 :: l) = true := by kernel_rfl
theorem v0_0112122 (T : List Int) : allV (t0 T) 2 2 (fun l => 0 :: 1 :: 1 :: 2 :: 1 :: 2 :: 2 :: l) = true := by kernel_rfl
theorem v0_0123431 (T : List Int) : allV (t0 T) 2 1 (fun l => 0 :: 1 :: 2 :: 3 :: 4 :: 3 :: 1 :: l) = true := by kernel_rfl
theorem v0_0122341 (T : List Int) : allV (t0 T) 2 1 (fun l => 0 :: 1 :: 2 :: 2 :: 3 :: 4 :: 1 :: l) = true := by kernel_rfl
theorem v0_0121121 (T : List Int) : allV (t0 T) 2 1 (fun l => 0 :: 1 :: 2 :: 1 :: 1 :: 2 :: 1 :: l) = true := by kernel_rfl
theorem v0_0111221 (T : List Int) : allV (t0 T) 2 1 (fun l => 0 :: 1 :: 1 :: 1 :: 2 :: 2 :: 1 :: l) = true := by kernel_rfl
end
end Go.AI.T
