/- The evaluation, part 0. -/
import Derived.Test.YthoidonmlfibfaaCodeTreeFn
import Derived.KernelRfl
namespace Go.AI.T
open Go Go.RowKit Go.AI
set_option linter.unusedVariables false
set_option linter.unusedSimpArgs false
set_option maxRecDepth 100000
noncomputable section
theorem evCodeTree_0 : allB (fun v => tells (c_laws_FnExactCodeTree 2097152 20 (.int 3 (.ofNat (0 + v))) H0)) 100 = true := by kernel_rfl
theorem evCodeTree_8 : allB (fun v => tells (c_laws_FnExactCodeTree 2097152 20 (.int 3 (.ofNat (800 + v))) H0)) 100 = true := by kernel_rfl
theorem evCodeTree_16 : allB (fun v => tells (c_laws_FnExactCodeTree 2097152 20 (.int 3 (.ofNat (1600 + v))) H0)) 100 = true := by kernel_rfl
theorem evCodeTree_24 : allB (fun v => tells (c_laws_FnExactCodeTree 2097152 20 (.int 3 (.ofNat (2400 + v))) H0)) 100 = true := by kernel_rfl
theorem evCodeTree_32 : allB (fun v => tells (c_laws_FnExactCodeTree 2097152 20 (.int 3 (.ofNat (3200 + v))) H0)) 100 = true := by kernel_rfl
theorem evCodeTree_40 : allB (fun v => tells (c_laws_FnExactCodeTree 2097152 20 (.int 3 (.ofNat (4000 + v))) H0)) 100 = true := by kernel_rfl
theorem evCodeTree_48 : allB (fun v => tells (c_laws_FnExactCodeTree 2097152 20 (.int 3 (.ofNat (4800 + v))) H0)) 100 = true := by kernel_rfl
end
end Go.AI.T
