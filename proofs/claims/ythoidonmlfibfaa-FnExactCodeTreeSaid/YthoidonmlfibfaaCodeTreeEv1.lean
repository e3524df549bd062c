/- The evaluation, part 1. -/
import Derived.Test.YthoidonmlfibfaaCodeTreeFn
import Derived.KernelRfl
namespace Go.AI.T
open Go Go.RowKit Go.AI
set_option linter.unusedVariables false
set_option linter.unusedSimpArgs false
set_option maxRecDepth 100000
noncomputable section
theorem evCodeTree_1 : allB (fun v => tells (c_laws_FnExactCodeTree 2097152 20 (.int 3 (.ofNat (100 + v))) H0)) 100 = true := by kernel_rfl
theorem evCodeTree_9 : allB (fun v => tells (c_laws_FnExactCodeTree 2097152 20 (.int 3 (.ofNat (900 + v))) H0)) 100 = true := by kernel_rfl
theorem evCodeTree_17 : allB (fun v => tells (c_laws_FnExactCodeTree 2097152 20 (.int 3 (.ofNat (1700 + v))) H0)) 100 = true := by kernel_rfl
theorem evCodeTree_25 : allB (fun v => tells (c_laws_FnExactCodeTree 2097152 20 (.int 3 (.ofNat (2500 + v))) H0)) 100 = true := by kernel_rfl
theorem evCodeTree_33 : allB (fun v => tells (c_laws_FnExactCodeTree 2097152 20 (.int 3 (.ofNat (3300 + v))) H0)) 100 = true := by kernel_rfl
theorem evCodeTree_41 : allB (fun v => tells (c_laws_FnExactCodeTree 2097152 20 (.int 3 (.ofNat (4100 + v))) H0)) 100 = true := by kernel_rfl
theorem evCodeTree_49 : allB (fun v => tells (c_laws_FnExactCodeTree 2097152 20 (.int 3 (.ofNat (4900 + v))) H0)) 100 = true := by kernel_rfl
end
end Go.AI.T
