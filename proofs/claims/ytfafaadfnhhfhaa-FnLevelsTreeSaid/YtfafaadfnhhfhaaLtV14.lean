/- Lists of levels, followed one by one, part 4. -/
import Derived.Test.YtfafaadfnhhfhaaLtBad
import Derived.KernelRfl
namespace Go.AI.T
open Go Go.RowKit Go.AI
set_option linter.unusedVariables false
set_option linter.unusedSimpArgs false
set_option maxRecDepth 100000
noncomputable section
theorem v1_012223 (B : Blk) (e : Nat) : allV (t1 B e) 3 3 (fun l => 0 :: 1 :: 2 :: 2 :: 2 :: 3 :: l) = true := by kernel_rfl
theorem v1_01221 (B : Blk) (e : Nat) : allV (t1 B e) 4 1 (fun l => 0 :: 1 :: 2 :: 2 :: 1 :: l) = true := by kernel_rfl
theorem v1_01111 (B : Blk) (e : Nat) : allV (t1 B e) 4 1 (fun l => 0 :: 1 :: 1 :: 1 :: 1 :: l) = true := by kernel_rfl
theorem v1_011122 (B : Blk) (e : Nat) : allV (t1 B e) 3 2 (fun l => 0 :: 1 :: 1 :: 1 :: 2 :: 2 :: l) = true := by kernel_rfl
theorem v1_0123454 (B : Blk) (e : Nat) : allV (t1 B e) 2 4 (fun l => 0 :: 1 :: 2 :: 3 :: 4 :: 5 :: 4 :: l) = true := by kernel_rfl
theorem v1_012341 (B : Blk) (e : Nat) : allV (t1 B e) 3 1 (fun l => 0 :: 1 :: 2 :: 3 :: 4 :: 1 :: l) = true := by kernel_rfl
theorem v1_011231 (B : Blk) (e : Nat) : allV (t1 B e) 3 1 (fun l => 0 :: 1 :: 1 :: 2 :: 3 :: 1 :: l) = true := by kernel_rfl
theorem v1_0122343 (B : Blk) (e : Nat) : allV (t1 B e) 2 3 (fun l => 0 :: 1 :: 2 :: 2 :: 3 :: 4 :: 3 :: l) = true := by kernel_rfl
theorem v1_0112342 (B : Blk) (e : Nat) : allV (t1 B e) 2 2 (fun l => 0 :: 1 :: 1 :: 2 :: 3 :: 4 :: 2 :: l) = true := by kernel_rfl
end
end Go.AI.T
