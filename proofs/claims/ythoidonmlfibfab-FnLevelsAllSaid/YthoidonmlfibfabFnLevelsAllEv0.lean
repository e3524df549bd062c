/- The evaluation, part 0. -/
import Derived.Test.YthoidonmlfibfabFnLevelsAllFn
import Derived.KernelRfl
namespace Go.AI.T
open Go Go.RowKit Go.AI
set_option linter.unusedVariables false
set_option linter.unusedSimpArgs false
set_option maxRecDepth 100000
noncomputable section
theorem evFnLevelsAll_0 (B : Blk) : allB (fun v => tells (c_laws_FnLevelsAll_r11 2097152 20 (nI (0 + v)) (hCode B))) 3 = true := by kernel_rfl
theorem evFnLevelsAll_3 (B : Blk) : allB (fun v => tells (c_laws_FnLevelsAll_r11 2097152 20 (nI (9 + v)) (hCode B))) 1 = true := by kernel_rfl
end
end Go.AI.T
