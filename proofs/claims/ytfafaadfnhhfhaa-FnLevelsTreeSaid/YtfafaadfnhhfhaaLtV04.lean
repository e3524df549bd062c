/- Lists of levels, followed one by one, part 4. -/
import Derived.Test.YtfafaadfnhhfhaaLtBad
import Derived.KernelRfl
namespace Go.AI.T
open Go Go.RowKit Go.AI
set_option linter.unusedVariables false
set_option linter.unusedSimpArgs false
set_option maxRecDepth 100000
noncomputable section
theorem v0_012223 (B : Blk) : allV (t0 B) 3 3 (fun l => 0 :: 1 :: 2 :: 2 :: 2 :: 3 :: l) = true := by kernel_rfl
theorem v0_01221 (B : Blk) : allV (t0 B) 4 1 (fun l => 0 :: 1 :: 2 :: 2 :: 1 :: l) = true := by kernel_rfl
theorem v0_01111 (B : Blk) : allV (t0 B) 4 1 (fun l => 0 :: 1 :: 1 :: 1 :: 1 :: l) = true := by kernel_rfl
theorem v0_011122 (B : Blk) : allV (t0 B) 3 2 (fun l => 0 :: 1 :: 1 :: 1 :: 2 :: 2 :: l) = true := by kernel_rfl
theorem v0_0123454 (B : Blk) : allV (t0 B) 2 4 (fun l => 0 :: 1 :: 2 :: 3 :: 4 :: 5 :: 4 :: l) = true := by kernel_rfl
theorem v0_012341 (B : Blk) : allV (t0 B) 3 1 (fun l => 0 :: 1 :: 2 :: 3 :: 4 :: 1 :: l) = true := by kernel_rfl
theorem v0_011231 (B : Blk) : allV (t0 B) 3 1 (fun l => 0 :: 1 :: 1 :: 2 :: 3 :: 1 :: l) = true := by kernel_rfl
theorem v0_0122343 (B : Blk) : allV (t0 B) 2 3 (fun l => 0 :: 1 :: 2 :: 2 :: 3 :: 4 :: 3 :: l) = true := by kernel_rfl
theorem v0_0112342 (B : Blk) : allV (t0 B) 2 2 (fun l => 0 :: 1 :: 1 :: 2 :: 3 :: 4 :: 2 :: l) = true := by kernel_rfl
end
end Go.AI.T
