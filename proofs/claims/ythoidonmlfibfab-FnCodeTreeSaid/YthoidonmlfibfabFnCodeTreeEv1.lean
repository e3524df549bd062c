/- The evaluation, part 1. -/
import Derived.Test.YthoidonmlfibfabFnCodeTreeFn
import Derived.KernelRfl
namespace Go.AI.T
open Go Go.RowKit Go.AI
set_option linter.unusedVariables false
set_option linter.unusedSimpArgs false
set_option maxRecDepth 100000
noncomputable section
theorem evFnCodeTree_1 (B : Blk) : allB (fun v => tells (c_laws_FnCodeTree_r7 2097152 20 (nI (100 + v)) (hCode B))) 100 = true := by kernel_rfl
theorem evFnCodeTree_9 (B : Blk) : allB (fun v => tells (c_laws_FnCodeTree_r7 2097152 20 (nI (900 + v)) (hCode B))) 100 = true := by kernel_rfl
theorem evFnCodeTree_17 (B : Blk) : allB (fun v => tells (c_laws_FnCodeTree_r7 2097152 20 (nI (1700 + v)) (hCode B))) 100 = true := by kernel_rfl
theorem evFnCodeTree_25 (B : Blk) : allB (fun v => tells (c_laws_FnCodeTree_r7 2097152 20 (nI (2500 + v)) (hCode B))) 100 = true := by kernel_rfl
theorem evFnCodeTree_33 (B : Blk) : allB (fun v => tells (c_laws_FnCodeTree_r7 2097152 20 (nI (3300 + v)) (hCode B))) 100 = true := by kernel_rfl
theorem evFnCodeTree_41 (B : Blk) : allB (fun v => tells (c_laws_FnCodeTree_r7 2097152 20 (nI (4100 + v)) (hCode B))) 100 = true := by kernel_rfl
theorem evFnCodeTree_49 (B : Blk) : allB (fun v => tells (c_laws_FnCodeTree_r7 2097152 20 (nI (4900 + v)) (hCode B))) 100 = true := by kernel_rfl
end
end Go.AI.T
