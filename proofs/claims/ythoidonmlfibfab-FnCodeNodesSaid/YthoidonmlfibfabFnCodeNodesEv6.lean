/- The evaluation, part 6. -/
import Derived.Test.YthoidonmlfibfabFnCodeNodesFn
import Derived.KernelRfl
namespace Go.AI.T
open Go Go.RowKit Go.AI
set_option linter.unusedVariables false
set_option linter.unusedSimpArgs false
set_option maxRecDepth 100000
noncomputable section
theorem evFnCodeNodes_6 (B : Blk) : allB (fun v => tells (c_laws_FnCodeNodes_r7 2097152 20 (nI (1944 + v)) (hCode B))) 324 = true := by kernel_rfl
theorem evFnCodeNodes_14 (B : Blk) : allB (fun v => tells (c_laws_FnCodeNodes_r7 2097152 20 (nI (4536 + v)) (hCode B))) 324 = true := by kernel_rfl
end
end Go.AI.T
