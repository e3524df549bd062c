/- The evaluation, part 2. -/
import Derived.Test.YthoidonmlfibfaaCodeTreeFn
import Derived.KernelRfl
namespace Go.AI.T
open Go Go.RowKit Go.AI
set_option linter.unusedVariables false
set_option linter.unusedSimpArgs false
set_option maxRecDepth 100000
noncomputable section
theorem evCodeTree_2 : allB (fun v => tells (c_laws_FnExactCodeTree 2097152 20 (.int 3 (.ofNat (200 + v))) H0)) 100 = true := by kernel_rfl
theorem evCodeTree_10 : allB (fun v => tells (c_laws_FnExactCodeTree 2097152 20 (.int 3 (.ofNat (1000 + v))) H0)) 100 = true := by kernel_rfl
theorem evCodeTree_18 : allB (fun v => tells (c_laws_FnExactCodeTree 2097152 20 (.int 3 (.ofNat (1800 + v))) H0)) 100 = true := by kernel_rfl
theorem evCodeTree_26 : allB (fun v => tells (c_laws_FnExactCodeTree 2097152 20 (.int 3 (.ofNat (2600 + v))) H0)) 100 = true := by kernel_rfl
theorem evCodeTree_34 : allB (fun v => tells (c_laws_FnExactCodeTree 2097152 20 (.int 3 (.ofNat (3400 + v))) H0)) 100 = true := by kernel_rfl
theorem evCodeTree_42 : allB (fun v => tells (c_laws_FnExactCodeTree 2097152 20 (.int 3 (.ofNat (4200 + v))) H0)) 100 = true := by kernel_rfl
theorem evCodeTree_50 : allB (fun v => tells (c_laws_FnExactCodeTree 2097152 20 (.int 3 (.ofNat (5000 + v))) H0)) 1 = true := by kernel_rfl
end
end Go.AI.T
