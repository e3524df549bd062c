/- The evaluation, part 2. -/
import Derived.Test.YthoidonmlfibfabFnCodeTreeFn
import Derived.KernelRfl
namespace Go.AI.T
open Go Go.RowKit Go.AI
set_option linter.unusedVariables false
set_option linter.unusedSimpArgs false
set_option maxRecDepth 100000
noncomputable section
theorem evFnCodeTree_2 (B : Blk) : allB (fun v => tells (c_laws_FnCodeTree_r7 2097152 20 (nI (200 + v)) (hCode B))) 100 = true := by kernel_rfl
theorem evFnCodeTree_10 (B : Blk) : allB (fun v => tells (c_laws_FnCodeTree_r7 2097152 20 (nI (1000 + v)) (hCode B))) 100 = true := by kernel_rfl
theorem evFnCodeTree_18 (B : Blk) : allB (fun v => tells (c_laws_FnCodeTree_r7 2097152 20 (nI (1800 + v)) (hCode B))) 100 = true := by kernel_rfl
theorem evFnCodeTree_26 (B : Blk) : allB (fun v => tells (c_laws_FnCodeTree_r7 2097152 20 (nI (2600 + v)) (hCode B))) 100 = true := by kernel_rfl
theorem evFnCodeTree_34 (B : Blk) : allB (fun v => tells (c_laws_FnCodeTree_r7 2097152 20 (nI (3400 + v)) (hCode B))) 100 = true := by kernel_rfl
theorem evFnCodeTree_42 (B : Blk) : allB (fun v => tells (c_laws_FnCodeTree_r7 2097152 20 (nI (4200 + v)) (hCode B))) 100 = true := by kernel_rfl
theorem evFnCodeTree_50 (B : Blk) : allB (fun v => tells (c_laws_FnCodeTree_r7 2097152 20 (nI (5000 + v)) (hCode B))) 100 = true := by kernel_rfl
end
end Go.AI.T
