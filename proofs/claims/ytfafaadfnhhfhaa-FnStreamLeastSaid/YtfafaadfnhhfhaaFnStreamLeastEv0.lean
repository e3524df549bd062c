/- The evaluation, part 0. -/
import Derived.Test.YtfafaadfnhhfhaaFnStreamLeastFn
import Derived.KernelRfl
namespace Go.AI.T
open Go Go.RowKit Go.AI
set_option linter.unusedVariables false
set_option linter.unusedSimpArgs false
set_option maxRecDepth 100000
noncomputable section
theorem evFnStreamLeast_11 (B : Blk) : tells (c_laws_FnStreamLeast_r7 2097152 20 (nI 11) (hCode B)) = true := by kernel_rfl
theorem evFnStreamLeast_7 (B : Blk) : tells (c_laws_FnStreamLeast_r7 2097152 20 (nI 7) (hCode B)) = true := by kernel_rfl
theorem evFnStreamLeast_3 (B : Blk) : tells (c_laws_FnStreamLeast_r7 2097152 20 (nI 3) (hCode B)) = true := by kernel_rfl
end
end Go.AI.T
