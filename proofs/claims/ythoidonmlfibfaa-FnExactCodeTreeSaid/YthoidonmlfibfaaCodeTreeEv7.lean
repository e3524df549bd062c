/- The evaluation, part 7. -/
import Derived.Test.YthoidonmlfibfaaCodeTreeFn
import Derived.KernelRfl
namespace Go.AI.T
open Go Go.RowKit Go.AI
set_option linter.unusedVariables false
set_option linter.unusedSimpArgs false
set_option maxRecDepth 100000
noncomputable section
theorem evCodeTree_7 : allB (fun v => tells (c_laws_FnExactCodeTree 2097152 20 (.int 3 (.ofNat (700 + v))) H0)) 100 = true := by kernel_rfl
theorem evCodeTree_15 : allB (fun v => tells (c_laws_FnExactCodeTree 2097152 20 (.int 3 (.ofNat (1500 + v))) H0)) 100 = true := by kernel_rfl
theorem evCodeTree_23 : allB (fun v => tells (c_laws_FnExactCodeTree 2097152 20 (.int 3 (.ofNat (2300 + v))) H0)) 100 = true := by kernel_rfl
theorem evCodeTree_31 : allB (fun v => tells (c_laws_FnExactCodeTree 2097152 20 (.int 3 (.ofNat (3100 + v))) H0)) 100 = true := by kernel_rfl
theorem evCodeTree_39 : allB (fun v => tells (c_laws_FnExactCodeTree 2097152 20 (.int 3 (.ofNat (3900 + v))) H0)) 100 = true := by kernel_rfl
theorem evCodeTree_47 : allB (fun v => tells (c_laws_FnExactCodeTree 2097152 20 (.int 3 (.ofNat (4700 + v))) H0)) 100 = true := by kernel_rfl
end
end Go.AI.T
