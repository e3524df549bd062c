/- The evaluation, part 4. -/
import Derived.Test.YthoidonmlfibfaaCodeTreeFn
import Derived.KernelRfl
namespace Go.AI.T
open Go Go.RowKit Go.AI
set_option linter.unusedVariables false
set_option linter.unusedSimpArgs false
set_option maxRecDepth 100000
noncomputable section
theorem evCodeTree_4 : allB (fun v => tells (c_laws_FnExactCodeTree 2097152 20 (.int 3 (.ofNat (400 + v))) H0)) 100 = true := by kernel_rfl
theorem evCodeTree_12 : allB (fun v => tells (c_laws_FnExactCodeTree 2097152 20 (.int 3 (.ofNat (1200 + v))) H0)) 100 = true := by kernel_rfl
theorem evCodeTree_20 : allB (fun v => tells (c_laws_FnExactCodeTree 2097152 20 (.int 3 (.ofNat (2000 + v))) H0)) 100 = true := by kernel_rfl
theorem evCodeTree_28 : allB (fun v => tells (c_laws_FnExactCodeTree 2097152 20 (.int 3 (.ofNat (2800 + v))) H0)) 100 = true := by kernel_rfl
theorem evCodeTree_36 : allB (fun v => tells (c_laws_FnExactCodeTree 2097152 20 (.int 3 (.ofNat (3600 + v))) H0)) 100 = true := by kernel_rfl
theorem evCodeTree_44 : allB (fun v => tells (c_laws_FnExactCodeTree 2097152 20 (.int 3 (.ofNat (4400 + v))) H0)) 100 = true := by kernel_rfl
end
end Go.AI.T
