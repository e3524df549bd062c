/- The evaluation, part 0. -/
import Derived.Test.YtlcmolcajoeagaaFnPlaceFn
import Derived.KernelRfl
namespace Go.AI.T
open Go Go.RowKit Go.AI
set_option linter.unusedVariables false
set_option linter.unusedSimpArgs false
set_option maxRecDepth 100000
noncomputable section
theorem evFnPlace_0 (B : Blk) : allB (fun v => tells (c_laws_FnPlace_r5 2097152 20 (nI (0 + v)) (hCode B))) 600 = true := by kernel_rfl
end
end Go.AI.T
