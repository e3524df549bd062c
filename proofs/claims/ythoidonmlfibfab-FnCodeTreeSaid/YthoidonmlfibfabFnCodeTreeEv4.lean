/- The evaluation, part 4. -/
import Derived.Test.YthoidonmlfibfabFnCodeTreeFn
import Derived.KernelRfl
namespace Go.AI.T
open Go Go.RowKit Go.AI
set_option linter.unusedVariables false
set_option linter.unusedSimpArgs false
set_option maxRecDepth 100000
noncomputable section
theorem evFnCodeTree_4 (B : Blk) : allB (fun v => tells (c_laws_FnCodeTree_r7 2097152 20 (nI (400 + v)) (hCode B))) 100 = true := by kernel_rfl
theorem evFnCodeTree_12 (B : Blk) : allB (fun v => tells (c_laws_FnCodeTree_r7 2097152 20 (nI (1200 + v)) (hCode B))) 100 = true := by kernel_rfl
theorem evFnCodeTree_20 (B : Blk) : allB (fun v => tells (c_laws_FnCodeTree_r7 2097152 20 (nI (2000 + v)) (hCode B))) 100 = true := by kernel_rfl
theorem evFnCodeTree_28 (B : Blk) : allB (fun v => tells (c_laws_FnCodeTree_r7 2097152 20 (nI (2800 + v)) (hCode B))) 100 = true := by kernel_rfl
theorem evFnCodeTree_36 (B : Blk) : allB (fun v => tells (c_laws_FnCodeTree_r7 2097152 20 (nI (3600 + v)) (hCode B))) 100 = true := by kernel_rfl
theorem evFnCodeTree_44 (B : Blk) : allB (fun v => tells (c_laws_FnCodeTree_r7 2097152 20 (nI (4400 + v)) (hCode B))) 100 = true := by kernel_rfl
end
end Go.AI.T
