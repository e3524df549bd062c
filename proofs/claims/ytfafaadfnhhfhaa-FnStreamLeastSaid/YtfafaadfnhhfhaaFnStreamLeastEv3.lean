/- The evaluation, part 3. -/
import Derived.Test.YtfafaadfnhhfhaaFnStreamLeastFn
import Derived.KernelRfl
namespace Go.AI.T
open Go Go.RowKit Go.AI
set_option linter.unusedVariables false
set_option linter.unusedSimpArgs false
set_option maxRecDepth 100000
noncomputable section
theorem evFnStreamLeast_8 (B : Blk) : tells (c_laws_FnStreamLeast_r7 2097152 20 (nI 8) (hCode B)) = true := by kernel_rfl
theorem evFnStreamLeast_4 (B : Blk) : tells (c_laws_FnStreamLeast_r7 2097152 20 (nI 4) (hCode B)) = true := by kernel_rfl
theorem evFnStreamLeast_0 (B : Blk) : tells (c_laws_FnStreamLeast_r7 2097152 20 (nI 0) (hCode B)) = true := by kernel_rfl
end
end Go.AI.T
