/- Lists of levels, followed one by one, part 3. -/
import Derived.Test.YtfafaadfnhhfhaaLtBad
import Derived.KernelRfl
namespace Go.AI.T
open Go Go.RowKit Go.AI
set_option linter.unusedVariables false
set_option linter.unusedSimpArgs false
set_option maxRecDepth 100000
noncomputable section
theorem v1_012233 (B : Blk) (e : Nat) : allV (t1 B e) 3 3 (fun l => 0 :: 1 :: 2 :: 2 :: 3 :: 3 :: l) = true := by kernel_rfl
theorem v1_01231 (B : Blk) (e : Nat) : allV (t1 B e) 4 1 (fun l => 0 :: 1 :: 2 :: 3 :: 1 :: l) = true := by kernel_rfl
theorem v1_01121 (B : Blk) (e : Nat) : allV (t1 B e) 4 1 (fun l => 0 :: 1 :: 1 :: 2 :: 1 :: l) = true := by kernel_rfl
theorem v1_011222 (B : Blk) (e : Nat) : allV (t1 B e) 3 2 (fun l => 0 :: 1 :: 1 :: 2 :: 2 :: 2 :: l) = true := by kernel_rfl
theorem v1_0112345 (B : Blk) (e : Nat) : allV (t1 B e) 2 5 (fun l => 0 :: 1 :: 1 :: 2 :: 3 :: 4 :: 5 :: l) = true := by kernel_rfl
theorem v1_012331 (B : Blk) (e : Nat) : allV (t1 B e) 3 1 (fun l => 0 :: 1 :: 2 :: 3 :: 3 :: 1 :: l) = true := by kernel_rfl
theorem v1_011221 (B : Blk) (e : Nat) : allV (t1 B e) 3 1 (fun l => 0 :: 1 :: 1 :: 2 :: 2 :: 1 :: l) = true := by kernel_rfl
theorem v1_0112343 (B : Blk) (e : Nat) : allV (t1 B e) 2 3 (fun l => 0 :: 1 :: 1 :: 2 :: 3 :: 4 :: 3 :: l) = true := by kernel_rfl
theorem v1_0112341 (B : Blk) (e : Nat) : allV (t1 B e) 2 1 (fun l => 0 :: 1 :: 1 :: 2 :: 3 :: 4 :: 1 :: l) = true := by kernel_rfl
end
end Go.AI.T
