/- The evaluation, part 1. -/
import Derived.Test.YtfafaadfnhhfhaaFnStreamLeastFn
import Derived.KernelRfl
namespace Go.AI.T
open Go Go.RowKit Go.AI
set_option linter.unusedVariables false
set_option linter.unusedSimpArgs false
set_option maxRecDepth 100000
noncomputable section
theorem evFnStreamLeast_10 (B : Blk) : tells (c_laws_FnStreamLeast_r7 2097152 20 (nI 10) (hCode B)) = true := by kernel_rfl
theorem evFnStreamLeast_6 (B : Blk) : tells (c_laws_FnStreamLeast_r7 2097152 20 (nI 6) (hCode B)) = true := by kernel_rfl
theorem evFnStreamLeast_2 (B : Blk) : tells (c_laws_FnStreamLeast_r7 2097152 20 (nI 2) (hCode B)) = true := by kernel_rfl
end
end Go.AI.T
