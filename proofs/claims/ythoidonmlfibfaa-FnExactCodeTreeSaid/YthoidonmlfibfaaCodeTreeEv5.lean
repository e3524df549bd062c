/- The evaluation, part 5. -/
import Derived.Test.YthoidonmlfibfaaCodeTreeFn
import Derived.KernelRfl
namespace Go.AI.T
open Go Go.RowKit Go.AI
set_option linter.unusedVariables false
set_option linter.unusedSimpArgs false
set_option maxRecDepth 100000
noncomputable section
theorem evCodeTree_5 : allB (fun v => tells (c_laws_FnExactCodeTree 2097152 20 (.int 3 (.ofNat (500 + v))) H0)) 100 = true := by kernel_rfl
theorem evCodeTree_13 : allB (fun v => tells (c_laws_FnExactCodeTree 2097152 20 (.int 3 (.ofNat (1300 + v))) H0)) 100 = true := by kernel_rfl
theorem evCodeTree_21 : allB (fun v => tells (c_laws_FnExactCodeTree 2097152 20 (.int 3 (.ofNat (2100 + v))) H0)) 100 = true := by kernel_rfl
theorem evCodeTree_29 : allB (fun v => tells (c_laws_FnExactCodeTree 2097152 20 (.int 3 (.ofNat (2900 + v))) H0)) 100 = true := by kernel_rfl
theorem evCodeTree_37 : allB (fun v => tells (c_laws_FnExactCodeTree 2097152 20 (.int 3 (.ofNat (3700 + v))) H0)) 100 = true := by kernel_rfl
theorem evCodeTree_45 : allB (fun v => tells (c_laws_FnExactCodeTree 2097152 20 (.int 3 (.ofNat (4500 + v))) H0)) 100 = true := by kernel_rfl
end
end Go.AI.T
