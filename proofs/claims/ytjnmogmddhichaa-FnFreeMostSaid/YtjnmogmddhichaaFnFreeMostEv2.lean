/- The evaluation, part 2. -/
import Derived.Test.YtjnmogmddhichaaFnFreeMostBad
import Derived.KernelRfl
namespace Go.AI.T
open Go Go.RowKit Go.AI
set_option linter.unusedVariables false
set_option linter.unusedSimpArgs false
set_option maxRecDepth 100000
noncomputable section
theorem evFnFreeMost_c2 (B : Blk) : allR (ok_FnFreeMost B) 12 0 3 (fun l => 40 :: 40 :: 41 :: 40 :: 41 :: 41 :: l) = true := by kernel_rfl
theorem evFnFreeMost_c10 (B : Blk) : allR (ok_FnFreeMost B) 10 0 4 (fun l => 40 :: 40 :: 41 :: 40 :: 40 :: 41 :: 41 :: 41 :: l) = true := by kernel_rfl
theorem evFnFreeMost_c12 (B : Blk) : allR (ok_FnFreeMost B) 9 3 6 (fun l => 40 :: 40 :: 41 :: 40 :: 40 :: 41 :: 41 :: 40 :: 40 :: l) = true := by kernel_rfl
theorem evFnFreeMost_c20 (B : Blk) : allR (ok_FnFreeMost B) 9 5 7 (fun l => 40 :: 40 :: 41 :: 40 :: 40 :: 40 :: 41 :: 40 :: 40 :: l) = true := by kernel_rfl
theorem evFnFreeMost_c28 (B : Blk) : allR (ok_FnFreeMost B) 9 1 5 (fun l => 40 :: 40 :: 40 :: 41 :: 41 :: 40 :: 40 :: 41 :: 41 :: l) = true := by kernel_rfl
theorem evFnFreeMost_c35 (B : Blk) : allR (ok_FnFreeMost B) 9 1 5 (fun l => 40 :: 40 :: 40 :: 41 :: 40 :: 41 :: 40 :: 41 :: 41 :: l) = true := by kernel_rfl
theorem evFnFreeMost_c40 (B : Blk) : allR (ok_FnFreeMost B) 9 3 6 (fun l => 40 :: 40 :: 40 :: 41 :: 40 :: 40 :: 41 :: 41 :: 40 :: l) = true := by kernel_rfl
theorem evFnFreeMost_c50 (B : Blk) : allR (ok_FnFreeMost B) 9 3 6 (fun l => 40 :: 40 :: 40 :: 40 :: 41 :: 41 :: 40 :: 41 :: 40 :: l) = true := by kernel_rfl
theorem evFnFreeMost_c60 (B : Blk) : allR (ok_FnFreeMost B) 9 1 5 (fun l => 40 :: 40 :: 40 :: 40 :: 40 :: 41 :: 41 :: 41 :: 41 :: l) = true := by kernel_rfl
theorem evFnFreeMost_c66 (B : Blk) : allR (ok_FnFreeMost B) 10 6 7 (fun l => 40 :: 40 :: 40 :: 40 :: 40 :: 41 :: 40 :: 40 :: l) = true := by kernel_rfl
end
end Go.AI.T
