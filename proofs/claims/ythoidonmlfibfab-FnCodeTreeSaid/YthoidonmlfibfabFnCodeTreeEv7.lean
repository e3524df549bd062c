/- The evaluation, part 7. -/
import Derived.Test.YthoidonmlfibfabFnCodeTreeFn
import Derived.KernelRfl
namespace Go.AI.T
open Go Go.RowKit Go.AI
set_option linter.unusedVariables false
set_option linter.unusedSimpArgs false
set_option maxRecDepth 100000
noncomputable section
theorem evFnCodeTree_7 (B : Blk) : allB (fun v => tells (c_laws_FnCodeTree_r7 2097152 20 (nI (700 + v)) (hCode B))) 100 = true := by kernel_rfl
theorem evFnCodeTree_15 (B : Blk) : allB (fun v => tells (c_laws_FnCodeTree_r7 2097152 20 (nI (1500 + v)) (hCode B))) 100 = true := by kernel_rfl
theorem evFnCodeTree_23 (B : Blk) : allB (fun v => tells (c_laws_FnCodeTree_r7 2097152 20 (nI (2300 + v)) (hCode B))) 100 = true := by kernel_rfl
theorem evFnCodeTree_31 (B : Blk) : allB (fun v => tells (c_laws_FnCodeTree_r7 2097152 20 (nI (3100 + v)) (hCode B))) 100 = true := by kernel_rfl
theorem evFnCodeTree_39 (B : Blk) : allB (fun v => tells (c_laws_FnCodeTree_r7 2097152 20 (nI (3900 + v)) (hCode B))) 100 = true := by kernel_rfl
theorem evFnCodeTree_47 (B : Blk) : allB (fun v => tells (c_laws_FnCodeTree_r7 2097152 20 (nI (4700 + v)) (hCode B))) 100 = true := by kernel_rfl
end
end Go.AI.T
