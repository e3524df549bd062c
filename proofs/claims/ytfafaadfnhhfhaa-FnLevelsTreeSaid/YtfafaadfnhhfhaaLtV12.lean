/- Lists of levels, followed one by one, part 2. -/
import Derived.Test.YtfafaadfnhhfhaaLtBad
import Derived.KernelRfl
namespace Go.AI.T
open Go Go.RowKit Go.AI
set_option linter.unusedVariables false
set_option linter.unusedSimpArgs false
set_option maxRecDepth 100000
noncomputable section
theorem v1_012323 (B : Blk) (e : Nat) : allV (t1 B e) 3 3 (fun l => 0 :: 1 :: 2 :: 3 :: 2 :: 3 :: l) = true := by kernel_rfl
theorem v1_011123 (B : Blk) (e : Nat) : allV (t1 B e) 3 3 (fun l => 0 :: 1 :: 1 :: 1 :: 2 :: 3 :: l) = true := by kernel_rfl
theorem v1_012322 (B : Blk) (e : Nat) : allV (t1 B e) 3 2 (fun l => 0 :: 1 :: 2 :: 3 :: 2 :: 2 :: l) = true := by kernel_rfl
theorem v1_011232 (B : Blk) (e : Nat) : allV (t1 B e) 3 2 (fun l => 0 :: 1 :: 1 :: 2 :: 3 :: 2 :: l) = true := by kernel_rfl
theorem v1_0122345 (B : Blk) (e : Nat) : allV (t1 B e) 2 5 (fun l => 0 :: 1 :: 2 :: 2 :: 3 :: 4 :: 5 :: l) = true := by kernel_rfl
theorem v1_0112344 (B : Blk) (e : Nat) : allV (t1 B e) 2 4 (fun l => 0 :: 1 :: 1 :: 2 :: 3 :: 4 :: 4 :: l) = true := by kernel_rfl
theorem v1_012121 (B : Blk) (e : Nat) : allV (t1 B e) 3 1 (fun l => 0 :: 1 :: 2 :: 1 :: 2 :: 1 :: l) = true := by kernel_rfl
theorem v1_0123343 (B : Blk) (e : Nat) : allV (t1 B e) 2 3 (fun l => 0 :: 1 :: 2 :: 3 :: 3 :: 4 :: 3 :: l) = true := by kernel_rfl
theorem v1_0123342 (B : Blk) (e : Nat) : allV (t1 B e) 2 2 (fun l => 0 :: 1 :: 2 :: 3 :: 3 :: 4 :: 2 :: l) = true := by kernel_rfl
theorem v1_0123341 (B : Blk) (e : Nat) : allV (t1 B e) 2 1 (fun l => 0 :: 1 :: 2 :: 3 :: 3 :: 4 :: 1 :: l) = true := by kernel_rfl
end
end Go.AI.T
