/- The evaluation, part 0. -/
import Derived.Test.YthheobnfkfdocaaFnReachBad
import Derived.KernelRfl
namespace Go.AI.T
open Go Go.RowKit Go.AI
set_option linter.unusedVariables false
set_option linter.unusedSimpArgs false
set_option maxRecDepth 100000
noncomputable section
theorem evFnReach_c0 (B : Blk) : allR (ok_FnReach B) 16 0 1 (fun l => 40 :: 41 :: l) = true := by kernel_rfl
theorem evFnReach_c10 (B : Blk) : allR (ok_FnReach B) 8 2 6 (fun l => 40 :: 40 :: 41 :: 40 :: 41 :: 40 :: 40 :: 40 :: 41 :: 41 :: l) = true := by kernel_rfl
theorem evFnReach_c20 (B : Blk) : allR (ok_FnReach B) 8 2 6 (fun l => 40 :: 40 :: 41 :: 40 :: 40 :: 41 :: 40 :: 40 :: 41 :: 41 :: l) = true := by kernel_rfl
theorem evFnReach_c31 (B : Blk) : allR (ok_FnReach B) 9 5 7 (fun l => 40 :: 40 :: 41 :: 40 :: 40 :: 40 :: 40 :: 41 :: 40 :: l) = true := by kernel_rfl
theorem evFnReach_c44 (B : Blk) : allR (ok_FnReach B) 9 5 7 (fun l => 40 :: 40 :: 40 :: 41 :: 41 :: 40 :: 40 :: 40 :: 40 :: l) = true := by kernel_rfl
theorem evFnReach_c56 (B : Blk) : allR (ok_FnReach B) 8 2 6 (fun l => 40 :: 40 :: 40 :: 41 :: 40 :: 40 :: 41 :: 41 :: 40 :: 41 :: l) = true := by kernel_rfl
theorem evFnReach_c67 (B : Blk) : allR (ok_FnReach B) 9 1 5 (fun l => 40 :: 40 :: 40 :: 40 :: 41 :: 41 :: 41 :: 40 :: 41 :: l) = true := by kernel_rfl
theorem evFnReach_c79 (B : Blk) : allR (ok_FnReach B) 8 2 6 (fun l => 40 :: 40 :: 40 :: 40 :: 41 :: 40 :: 41 :: 40 :: 41 :: 41 :: l) = true := by kernel_rfl
theorem evFnReach_c90 (B : Blk) : allR (ok_FnReach B) 8 2 6 (fun l => 40 :: 40 :: 40 :: 40 :: 40 :: 41 :: 41 :: 40 :: 41 :: 41 :: l) = true := by kernel_rfl
theorem evFnReach_c101 (B : Blk) : allR (ok_FnReach B) 9 5 7 (fun l => 40 :: 40 :: 40 :: 40 :: 40 :: 40 :: 41 :: 40 :: 41 :: l) = true := by kernel_rfl
end
end Go.AI.T
