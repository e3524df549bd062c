/- The evaluation, part 5. -/
import Derived.Test.YthoidonmlfibfabFnCodeTreeFn
import Derived.KernelRfl
namespace Go.AI.T
open Go Go.RowKit Go.AI
set_option linter.unusedVariables false
set_option linter.unusedSimpArgs false
set_option maxRecDepth 100000
noncomputable section
theorem evFnCodeTree_5 (B : Blk) : allB (fun v => tells (c_laws_FnCodeTree_r7 2097152 20 (nI (500 + v)) (hCode B))) 100 = true := by kernel_rfl
theorem evFnCodeTree_13 (B : Blk) : allB (fun v => tells (c_laws_FnCodeTree_r7 2097152 20 (nI (1300 + v)) (hCode B))) 100 = true := by kernel_rfl
theorem evFnCodeTree_21 (B : Blk) : allB (fun v => tells (c_laws_FnCodeTree_r7 2097152 20 (nI (2100 + v)) (hCode B))) 100 = true := by kernel_rfl
theorem evFnCodeTree_29 (B : Blk) : allB (fun v => tells (c_laws_FnCodeTree_r7 2097152 20 (nI (2900 + v)) (hCode B))) 100 = true := by kernel_rfl
theorem evFnCodeTree_37 (B : Blk) : allB (fun v => tells (c_laws_FnCodeTree_r7 2097152 20 (nI (3700 + v)) (hCode B))) 100 = true := by kernel_rfl
theorem evFnCodeTree_45 (B : Blk) : allB (fun v => tells (c_laws_FnCodeTree_r7 2097152 20 (nI (4500 + v)) (hCode B))) 100 = true := by kernel_rfl
end
end Go.AI.T
