/- The evaluation, part 0. -/
import Derived.Test.YtmknipepkjbgjabFnPlaneFn
import Derived.KernelRfl
namespace Go.AI.T
open Go Go.RowKit Go.AI
set_option linter.unusedVariables false
set_option linter.unusedSimpArgs false
set_option maxRecDepth 100000
noncomputable section
theorem evFnPlane_13 (B : Blk) : tells (c_laws_FnPlane_r10 2097152 20 (nI 13) (hCode B)) = true := by kernel_rfl
theorem evFnPlane_9 (B : Blk) : tells (c_laws_FnPlane_r10 2097152 20 (nI 9) (hCode B)) = true := by kernel_rfl
theorem evFnPlane_5 (B : Blk) : tells (c_laws_FnPlane_r10 2097152 20 (nI 5) (hCode B)) = true := by kernel_rfl
theorem evFnPlane_1 (B : Blk) : tells (c_laws_FnPlane_r10 2097152 20 (nI 1) (hCode B)) = true := by kernel_rfl
end
end Go.AI.T
