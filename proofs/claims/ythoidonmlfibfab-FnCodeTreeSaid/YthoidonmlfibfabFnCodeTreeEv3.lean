/- The evaluation, part 3. -/
import Derived.Test.YthoidonmlfibfabFnCodeTreeFn
import Derived.KernelRfl
namespace Go.AI.T
open Go Go.RowKit Go.AI
set_option linter.unusedVariables false
set_option linter.unusedSimpArgs false
set_option maxRecDepth 100000
noncomputable section
theorem evFnCodeTree_3 (B : Blk) : allB (fun v => tells (c_laws_FnCodeTree_r7 2097152 20 (nI (300 + v)) (hCode B))) 100 = true := by kernel_rfl
theorem evFnCodeTree_11 (B : Blk) : allB (fun v => tells (c_laws_FnCodeTree_r7 2097152 20 (nI (1100 + v)) (hCode B))) 100 = true := by kernel_rfl
theorem evFnCodeTree_19 (B : Blk) : allB (fun v => tells (c_laws_FnCodeTree_r7 2097152 20 (nI (1900 + v)) (hCode B))) 100 = true := by kernel_rfl
theorem evFnCodeTree_27 (B : Blk) : allB (fun v => tells (c_laws_FnCodeTree_r7 2097152 20 (nI (2700 + v)) (hCode B))) 100 = true := by kernel_rfl
theorem evFnCodeTree_35 (B : Blk) : allB (fun v => tells (c_laws_FnCodeTree_r7 2097152 20 (nI (3500 + v)) (hCode B))) 100 = true := by kernel_rfl
theorem evFnCodeTree_43 (B : Blk) : allB (fun v => tells (c_laws_FnCodeTree_r7 2097152 20 (nI (4300 + v)) (hCode B))) 100 = true := by kernel_rfl
theorem evFnCodeTree_51 (B : Blk) : allB (fun v => tells (c_laws_FnCodeTree_r7 2097152 20 (nI (5100 + v)) (hCode B))) 81 = true := by kernel_rfl
end
end Go.AI.T
