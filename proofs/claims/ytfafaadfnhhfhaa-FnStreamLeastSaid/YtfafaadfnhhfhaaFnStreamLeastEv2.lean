/- The evaluation, part 2. -/
import Derived.Test.YtfafaadfnhhfhaaFnStreamLeastFn
import Derived.KernelRfl
namespace Go.AI.T
open Go Go.RowKit Go.AI
set_option linter.unusedVariables false
set_option linter.unusedSimpArgs false
set_option maxRecDepth 100000
noncomputable section
theorem evFnStreamLeast_9 (B : Blk) : tells (c_laws_FnStreamLeast_r7 2097152 20 (nI 9) (hCode B)) = true := by kernel_rfl
theorem evFnStreamLeast_5 (B : Blk) : tells (c_laws_FnStreamLeast_r7 2097152 20 (nI 5) (hCode B)) = true := by kernel_rfl
theorem evFnStreamLeast_1 (B : Blk) : tells (c_laws_FnStreamLeast_r7 2097152 20 (nI 1) (hCode B)) = true := by kernel_rfl
end
end Go.AI.T
