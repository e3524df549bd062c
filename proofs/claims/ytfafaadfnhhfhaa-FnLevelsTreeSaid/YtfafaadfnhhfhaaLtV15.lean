/- Lists of levels, followed one by one, part 5. -/
import Derived.Test.YtfafaadfnhhfhaaLtBad
import Derived.KernelRfl
namespace Go.AI.T
open Go Go.RowKit Go.AI
set_option linter.unusedVariables false
set_option linter.unusedSimpArgs false
set_option maxRecDepth 100000
noncomputable section
theorem v1_012123 (B : Blk) (e : Nat) : allV (t1 B e) 3 3 (fun l => 0 :: 1 :: 2 :: 1 :: 2 :: 3 :: l) = true := by kernel_rfl
theorem v1_01211 (B : Blk) (e : Nat) : allV (t1 B e) 4 1 (fun l => 0 :: 1 :: 2 :: 1 :: 1 :: l) = true := by kernel_rfl
theorem v1_0123456 (B : Blk) (e : Nat) : allV (t1 B e) 2 6 (fun l => 0 :: 1 :: 2 :: 3 :: 4 :: 5 :: 6 :: l) = true := by kernel_rfl
theorem v1_012232 (B : Blk) (e : Nat) : allV (t1 B e) 3 2 (fun l => 0 :: 1 :: 2 :: 2 :: 3 :: 2 :: l) = true := by kernel_rfl
theorem v1_0123455 (B : Blk) (e : Nat) : allV (t1 B e) 2 5 (fun l => 0 :: 1 :: 2 :: 3 :: 4 :: 5 :: 5 :: l) = true := by kernel_rfl
theorem v1_0123444 (B : Blk) (e : Nat) : allV (t1 B e) 2 4 (fun l => 0 :: 1 :: 2 :: 3 :: 4 :: 4 :: 4 :: l) = true := by kernel_rfl
theorem v1_012321 (B : Blk) (e : Nat) : allV (t1 B e) 3 1 (fun l => 0 :: 1 :: 2 :: 3 :: 2 :: 1 :: l) = true := by kernel_rfl
theorem v1_011121 (B : Blk) (e : Nat) : allV (t1 B e) 3 1 (fun l => 0 :: 1 :: 1 :: 1 :: 2 :: 1 :: l) = true := by kernel_rfl
theorem v1_0122342 (B : Blk) (e : Nat) : allV (t1 B e) 2 2 (fun l => 0 :: 1 :: 2 :: 2 :: 3 :: 4 :: 2 :: l) = true := by kernel_rfl
theorem v1_0122341 (B : Blk) (e : Nat) : allV (t1 B e) 2 1 (fun l => 0 :: 1 :: 2 :: 2 :: 3 :: 4 :: 1 :: l) = true := by kernel_rfl
end
end Go.AI.T
