/- The evaluation, part 0. -/
import Derived.Test.YthoidonmlfibfabFnCodeTreeFn
import Derived.KernelRfl
namespace Go.AI.T
open Go Go.RowKit Go.AI
set_option linter.unusedVariables false
set_option linter.unusedSimpArgs false
set_option maxRecDepth 100000
noncomputable section
theorem evFnCodeTree_0 (B : Blk) : allB (fun v => tells (c_laws_FnCodeTree_r7 2097152 20 (nI (0 + v)) (hCode B))) 100 = true := by kernel_rfl
theorem evFnCodeTree_8 (B : Blk) : allB (fun v => tells (c_laws_FnCodeTree_r7 2097152 20 (nI (800 + v)) (hCode B))) 100 = true := by kernel_rfl
theorem evFnCodeTree_16 (B : Blk) : allB (fun v => tells (c_laws_FnCodeTree_r7 2097152 20 (nI (1600 + v)) (hCode B))) 100 = true := by kernel_rfl
theorem evFnCodeTree_24 (B : Blk) : allB (fun v => tells (c_laws_FnCodeTree_r7 2097152 20 (nI (2400 + v)) (hCode B))) 100 = true := by kernel_rfl
theorem evFnCodeTree_32 (B : Blk) : allB (fun v => tells (c_laws_FnCodeTree_r7 2097152 20 (nI (3200 + v)) (hCode B))) 100 = true := by kernel_rfl
theorem evFnCodeTree_40 (B : Blk) : allB (fun v => tells (c_laws_FnCodeTree_r7 2097152 20 (nI (4000 + v)) (hCode B))) 100 = true := by kernel_rfl
theorem evFnCodeTree_48 (B : Blk) : allB (fun v => tells (c_laws_FnCodeTree_r7 2097152 20 (nI (4800 + v)) (hCode B))) 100 = true := by kernel_rfl
end
end Go.AI.T
