/- The evaluation, part 6. -/
import Derived.Test.YthoidonmlfibfaaCodeTreeFn
import Derived.KernelRfl
namespace Go.AI.T
open Go Go.RowKit Go.AI
set_option linter.unusedVariables false
set_option linter.unusedSimpArgs false
set_option maxRecDepth 100000
noncomputable section
theorem evCodeTree_6 : allB (fun v => tells (c_laws_FnExactCodeTree 2097152 20 (.int 3 (.ofNat (600 + v))) H0)) 100 = true := by kernel_rfl
theorem evCodeTree_14 : allB (fun v => tells (c_laws_FnExactCodeTree 2097152 20 (.int 3 (.ofNat (1400 + v))) H0)) 100 = true := by kernel_rfl
theorem evCodeTree_22 : allB (fun v => tells (c_laws_FnExactCodeTree 2097152 20 (.int 3 (.ofNat (2200 + v))) H0)) 100 = true := by kernel_rfl
theorem evCodeTree_30 : allB (fun v => tells (c_laws_FnExactCodeTree 2097152 20 (.int 3 (.ofNat (3000 + v))) H0)) 100 = true := by kernel_rfl
theorem evCodeTree_38 : allB (fun v => tells (c_laws_FnExactCodeTree 2097152 20 (.int 3 (.ofNat (3800 + v))) H0)) 100 = true := by kernel_rfl
theorem evCodeTree_46 : allB (fun v => tells (c_laws_FnExactCodeTree 2097152 20 (.int 3 (.ofNat (4600 + v))) H0)) 100 = true := by kernel_rfl
end
end Go.AI.T
