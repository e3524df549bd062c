/- The evaluation, part 4. -/
import Derived.Test.YthoidonmlfibfabFnCodeNodesFn
import Derived.KernelRfl
namespace Go.AI.T
open Go Go.RowKit Go.AI
set_option linter.unusedVariables false
set_option linter.unusedSimpArgs false
set_option maxRecDepth 100000
noncomputable section
theorem evFnCodeNodes_4 (B : Blk) : allB (fun v => tells (c_laws_FnCodeNodes_r7 2097152 20 (nI (1296 + v)) (hCode B))) 324 = true := by kernel_rfl
theorem evFnCodeNodes_12 (B : Blk) : allB (fun v => tells (c_laws_FnCodeNodes_r7 2097152 20 (nI (3888 + v)) (hCode B))) 324 = true := by kernel_rfl
end
end Go.AI.T
