/- The evaluation, part 3. -/
import Derived.Test.YthoidonmlfibfaaCodeTreeFn
import Derived.KernelRfl
namespace Go.AI.T
open Go Go.RowKit Go.AI
set_option linter.unusedVariables false
set_option linter.unusedSimpArgs false
set_option maxRecDepth 100000
noncomputable section
theorem evCodeTree_3 : allB (fun v => tells (c_laws_FnExactCodeTree 2097152 20 (.int 3 (.ofNat (300 + v))) H0)) 100 = true := by kernel_rfl
theorem evCodeTree_11 : allB (fun v => tells (c_laws_FnExactCodeTree 2097152 20 (.int 3 (.ofNat (1100 + v))) H0)) 100 = true := by kernel_rfl
theorem evCodeTree_19 : allB (fun v => tells (c_laws_FnExactCodeTree 2097152 20 (.int 3 (.ofNat (1900 + v))) H0)) 100 = true := by kernel_rfl
theorem evCodeTree_27 : allB (fun v => tells (c_laws_FnExactCodeTree 2097152 20 (.int 3 (.ofNat (2700 + v))) H0)) 100 = true := by kernel_rfl
theorem evCodeTree_35 : allB (fun v => tells (c_laws_FnExactCodeTree 2097152 20 (.int 3 (.ofNat (3500 + v))) H0)) 100 = true := by kernel_rfl
theorem evCodeTree_43 : allB (fun v => tells (c_laws_FnExactCodeTree 2097152 20 (.int 3 (.ofNat (4300 + v))) H0)) 100 = true := by kernel_rfl
end
end Go.AI.T
