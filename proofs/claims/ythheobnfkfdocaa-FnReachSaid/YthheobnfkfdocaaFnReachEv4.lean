/- The evaluation, part 4. -/
import Derived.Test.YthheobnfkfdocaaFnReachBad
import Derived.KernelRfl
namespace Go.AI.T
open Go Go.RowKit Go.AI
set_option linter.unusedVariables false
set_option linter.unusedSimpArgs false
set_option maxRecDepth 100000
noncomputable section
theorem evFnReach_c4 (B : Blk) : allR (ok_FnReach B) 9 1 5 (fun l => 40 :: 40 :: 41 :: 40 :: 41 :: 40 :: 41 :: 40 :: 41 :: l) = true := by kernel_rfl
theorem evFnReach_c21 (B : Blk) : allR (ok_FnReach B) 8 4 7 (fun l => 40 :: 40 :: 41 :: 40 :: 40 :: 41 :: 40 :: 40 :: 41 :: 40 :: l) = true := by kernel_rfl
theorem evFnReach_c28 (B : Blk) : allR (ok_FnReach B) 9 5 7 (fun l => 40 :: 40 :: 41 :: 40 :: 40 :: 40 :: 41 :: 40 :: 40 :: l) = true := by kernel_rfl
theorem evFnReach_c43 (B : Blk) : allR (ok_FnReach B) 8 4 7 (fun l => 40 :: 40 :: 40 :: 41 :: 41 :: 40 :: 40 :: 40 :: 41 :: 40 :: l) = true := by kernel_rfl
theorem evFnReach_c54 (B : Blk) : allR (ok_FnReach B) 9 5 7 (fun l => 40 :: 40 :: 40 :: 41 :: 40 :: 41 :: 40 :: 40 :: 40 :: l) = true := by kernel_rfl
theorem evFnReach_c64 (B : Blk) : allR (ok_FnReach B) 9 5 7 (fun l => 40 :: 40 :: 40 :: 41 :: 40 :: 40 :: 40 :: 40 :: 41 :: l) = true := by kernel_rfl
theorem evFnReach_c77 (B : Blk) : allR (ok_FnReach B) 8 2 6 (fun l => 40 :: 40 :: 40 :: 40 :: 41 :: 40 :: 41 :: 41 :: 40 :: 41 :: l) = true := by kernel_rfl
theorem evFnReach_c87 (B : Blk) : allR (ok_FnReach B) 9 1 5 (fun l => 40 :: 40 :: 40 :: 40 :: 40 :: 41 :: 41 :: 41 :: 41 :: l) = true := by kernel_rfl
theorem evFnReach_c98 (B : Blk) : allR (ok_FnReach B) 8 2 6 (fun l => 40 :: 40 :: 40 :: 40 :: 40 :: 40 :: 41 :: 41 :: 41 :: 41 :: l) = true := by kernel_rfl
end
end Go.AI.T
