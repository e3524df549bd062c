/- The evaluation, part 6. -/
import Derived.Test.YthoidonmlfibfabFnCodeTreeFn
import Derived.KernelRfl
namespace Go.AI.T
open Go Go.RowKit Go.AI
set_option linter.unusedVariables false
set_option linter.unusedSimpArgs false
set_option maxRecDepth 100000
noncomputable section
theorem evFnCodeTree_6 (B : Blk) : allB (fun v => tells (c_laws_FnCodeTree_r7 2097152 20 (nI (600 + v)) (hCode B))) 100 = true := by kernel_rfl
theorem evFnCodeTree_14 (B : Blk) : allB (fun v => tells (c_laws_FnCodeTree_r7 2097152 20 (nI (1400 + v)) (hCode B))) 100 = true := by kernel_rfl
theorem evFnCodeTree_22 (B : Blk) : allB (fun v => tells (c_laws_FnCodeTree_r7 2097152 20 (nI (2200 + v)) (hCode B))) 100 = true := by kernel_rfl
theorem evFnCodeTree_30 (B : Blk) : allB (fun v => tells (c_laws_FnCodeTree_r7 2097152 20 (nI (3000 + v)) (hCode B))) 100 = true := by kernel_rfl
theorem evFnCodeTree_38 (B : Blk) : allB (fun v => tells (c_laws_FnCodeTree_r7 2097152 20 (nI (3800 + v)) (hCode B))) 100 = true := by kernel_rfl
theorem evFnCodeTree_46 (B : Blk) : allB (fun v => tells (c_laws_FnCodeTree_r7 2097152 20 (nI (4600 + v)) (hCode B))) 100 = true := by kernel_rfl
end
end Go.AI.T
