/- The evaluation, part 1. -/
import Derived.Test.YtmknipepkjbgjabFnPlaneFn
import Derived.KernelRfl
namespace Go.AI.T
open Go Go.RowKit Go.AI
set_option linter.unusedVariables false
set_option linter.unusedSimpArgs false
set_option maxRecDepth 100000
noncomputable section
theorem evFnPlane_12 (B : Blk) : tells (c_laws_FnPlane_r10 2097152 20 (nI 12) (hCode B)) = true := by kernel_rfl
theorem evFnPlane_8 (B : Blk) : tells (c_laws_FnPlane_r10 2097152 20 (nI 8) (hCode B)) = true := by kernel_rfl
theorem evFnPlane_4 (B : Blk) : tells (c_laws_FnPlane_r10 2097152 20 (nI 4) (hCode B)) = true := by kernel_rfl
theorem evFnPlane_0 (B : Blk) : tells (c_laws_FnPlane_r10 2097152 20 (nI 0) (hCode B)) = true := by kernel_rfl
end
end Go.AI.T
