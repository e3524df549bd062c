/- The evaluation, part 0. -/
import Derived.Test.YtmknipepkjbgjaaLevelsAllFn
import Derived.KernelRfl
namespace Go.AI.T
open Go Go.RowKit Go.AI
set_option linter.unusedVariables false
set_option linter.unusedSimpArgs false
set_option maxRecDepth 100000
noncomputable section
theorem evLevelsAll_8 : tells (c_laws_FnExactLevelsAll 2097152 20 (.int 3 (.ofNat 8)) H0) = true := by kernel_rfl
theorem evLevelsAll_5 : tells (c_laws_FnExactLevelsAll 2097152 20 (.int 3 (.ofNat 5)) H0) = true := by kernel_rfl
theorem evLevelsAll_2 : tells (c_laws_FnExactLevelsAll 2097152 20 (.int 3 (.ofNat 2)) H0) = true := by kernel_rfl
end
end Go.AI.T
