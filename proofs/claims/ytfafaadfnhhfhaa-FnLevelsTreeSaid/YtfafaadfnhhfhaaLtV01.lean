/- Lists of levels, followed one by one, part 1. -/
import Derived.Test.YtfafaadfnhhfhaaLtBad
import Derived.KernelRfl
namespace Go.AI.T
open Go Go.RowKit Go.AI
set_option linter.unusedVariables false
set_option linter.unusedSimpArgs false
set_option maxRecDepth 100000
noncomputable section
theorem v0_012333 (B : Blk) : allV (t0 B) 3 3 (fun l => 0 :: 1 :: 2 :: 3 :: 3 :: 3 :: l) = true := by kernel_rfl
theorem v0_011223 (B : Blk) : allV (t0 B) 3 3 (fun l => 0 :: 1 :: 1 :: 2 :: 2 :: 3 :: l) = true := by kernel_rfl
theorem v0_012332 (B : Blk) : allV (t0 B) 3 2 (fun l => 0 :: 1 :: 2 :: 3 :: 3 :: 2 :: l) = true := by kernel_rfl
theorem v0_012122 (B : Blk) : allV (t0 B) 3 2 (fun l => 0 :: 1 :: 2 :: 1 :: 2 :: 2 :: l) = true := by kernel_rfl
theorem v0_0123345 (B : Blk) : allV (t0 B) 2 5 (fun l => 0 :: 1 :: 2 :: 3 :: 3 :: 4 :: 5 :: l) = true := by kernel_rfl
theorem v0_0122344 (B : Blk) : allV (t0 B) 2 4 (fun l => 0 :: 1 :: 2 :: 2 :: 3 :: 4 :: 4 :: l) = true := by kernel_rfl
theorem v0_012221 (B : Blk) : allV (t0 B) 3 1 (fun l => 0 :: 1 :: 2 :: 2 :: 2 :: 1 :: l) = true := by kernel_rfl
theorem v0_0123443 (B : Blk) : allV (t0 B) 2 3 (fun l => 0 :: 1 :: 2 :: 3 :: 4 :: 4 :: 3 :: l) = true := by kernel_rfl
theorem v0_0123442 (B : Blk) : allV (t0 B) 2 2 (fun l => 0 :: 1 :: 2 :: 3 :: 4 :: 4 :: 2 :: l) = true := by kernel_rfl
theorem v0_0123441 (B : Blk) : allV (t0 B) 2 1 (fun l => 0 :: 1 :: 2 :: 3 :: 4 :: 4 :: 1 :: l) = true := by kernel_rfl
end
end Go.AI.T
