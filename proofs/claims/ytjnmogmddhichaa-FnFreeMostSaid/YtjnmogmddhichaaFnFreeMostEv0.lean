/- The evaluation, part 0. -/
import Derived.Test.YtjnmogmddhichaaFnFreeMostBad
import Derived.KernelRfl
namespace Go.AI.T
open Go Go.RowKit Go.AI
set_option linter.unusedVariables false
set_option linter.unusedSimpArgs false
set_option maxRecDepth 100000
noncomputable section
theorem evFnFreeMost_c0 (B : Blk) : allR (ok_FnFreeMost B) 16 0 1 (fun l => 40 :: 41 :: l) = true := by kernel_rfl
theorem evFnFreeMost_c8 (B : Blk) : allR (ok_FnFreeMost B) 9 3 6 (fun l => 40 :: 40 :: 41 :: 40 :: 41 :: 40 :: 40 :: 40 :: 41 :: l) = true := by kernel_rfl
theorem evFnFreeMost_c19 (B : Blk) : allR (ok_FnFreeMost B) 9 3 6 (fun l => 40 :: 40 :: 41 :: 40 :: 40 :: 40 :: 41 :: 40 :: 41 :: l) = true := by kernel_rfl
theorem evFnFreeMost_c31 (B : Blk) : allR (ok_FnFreeMost B) 9 5 7 (fun l => 40 :: 40 :: 40 :: 41 :: 41 :: 40 :: 40 :: 40 :: 40 :: l) = true := by kernel_rfl
theorem evFnFreeMost_c38 (B : Blk) : allR (ok_FnFreeMost B) 9 5 7 (fun l => 40 :: 40 :: 40 :: 41 :: 40 :: 41 :: 40 :: 40 :: 40 :: l) = true := by kernel_rfl
theorem evFnFreeMost_c45 (B : Blk) : allR (ok_FnFreeMost B) 10 6 7 (fun l => 40 :: 40 :: 40 :: 41 :: 40 :: 40 :: 40 :: 40 :: l) = true := by kernel_rfl
theorem evFnFreeMost_c54 (B : Blk) : allR (ok_FnFreeMost B) 9 3 6 (fun l => 40 :: 40 :: 40 :: 40 :: 41 :: 40 :: 41 :: 41 :: 40 :: l) = true := by kernel_rfl
theorem evFnFreeMost_c63 (B : Blk) : allR (ok_FnFreeMost B) 9 5 7 (fun l => 40 :: 40 :: 40 :: 40 :: 40 :: 41 :: 41 :: 40 :: 40 :: l) = true := by kernel_rfl
theorem evFnFreeMost_c69 (B : Blk) : allR (ok_FnFreeMost B) 10 6 7 (fun l => 40 :: 40 :: 40 :: 40 :: 40 :: 40 :: 41 :: 40 :: l) = true := by kernel_rfl
end
end Go.AI.T
