/- Lists of levels, followed one by one, part 5. -/
import Derived.Test.YtfafaadfnhhfhaaLtBad
import Derived.KernelRfl
namespace Go.AI.T
open Go Go.RowKit Go.AI
set_option linter.unusedVariables false
set_option linter.unusedSimpArgs false
set_option maxRecDepth 100000
noncomputable section
theorem v0_012123 (B : Blk) : allV (t0 B) 3 3 (fun l => 0 :: 1 :: 2 :: 1 :: 2 :: 3 :: l) = true := by kernel_rfl
theorem v0_01211 (B : Blk) : allV (t0 B) 4 1 (fun l => 0 :: 1 :: 2 :: 1 :: 1 :: l) = true := by kernel_rfl
theorem v0_0123456 (B : Blk) : allV (t0 B) 2 6 (fun l => 0 :: 1 :: 2 :: 3 :: 4 :: 5 :: 6 :: l) = true := by kernel_rfl
theorem v0_012232 (B : Blk) : allV (t0 B) 3 2 (fun l => 0 :: 1 :: 2 :: 2 :: 3 :: 2 :: l) = true := by kernel_rfl
theorem v0_0123455 (B : Blk) : allV (t0 B) 2 5 (fun l => 0 :: 1 :: 2 :: 3 :: 4 :: 5 :: 5 :: l) = true := by kernel_rfl
theorem v0_0123444 (B : Blk) : allV (t0 B) 2 4 (fun l => 0 :: 1 :: 2 :: 3 :: 4 :: 4 :: 4 :: l) = true := by kernel_rfl
theorem v0_012321 (B : Blk) : allV (t0 B) 3 1 (fun l => 0 :: 1 :: 2 :: 3 :: 2 :: 1 :: l) = true := by kernel_rfl
theorem v0_011121 (B : Blk) : allV (t0 B) 3 1 (fun l => 0 :: 1 :: 1 :: 1 :: 2 :: 1 :: l) = true := by kernel_rfl
theorem v0_0122342 (B : Blk) : allV (t0 B) 2 2 (fun l => 0 :: 1 :: 2 :: 2 :: 3 :: 4 :: 2 :: l) = true := by kernel_rfl
theorem v0_0122341 (B : Blk) : allV (t0 B) 2 1 (fun l => 0 :: 1 :: 2 :: 2 :: 3 :: 4 :: 1 :: l) = true := by kernel_rfl
end
end Go.AI.T
