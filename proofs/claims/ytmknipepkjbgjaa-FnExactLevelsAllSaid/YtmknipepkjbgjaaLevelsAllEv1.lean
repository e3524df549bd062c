/- The evaluation, part 1. -/
import Derived.Test.YtmknipepkjbgjaaLevelsAllFn
import Derived.KernelRfl
namespace Go.AI.T
open Go Go.RowKit Go.AI
set_option linter.unusedVariables false
set_option linter.unusedSimpArgs false
set_option maxRecDepth 100000
noncomputable section
theorem evLevelsAll_7 : tells (c_laws_FnExactLevelsAll 2097152 20 (.int 3 (.ofNat 7)) H0) = true := by kernel_rfl
theorem evLevelsAll_4 : tells (c_laws_FnExactLevelsAll 2097152 20 (.int 3 (.ofNat 4)) H0) = true := by kernel_rfl
theorem evLevelsAll_1 : tells (c_laws_FnExactLevelsAll 2097152 20 (.int 3 (.ofNat 1)) H0) = true := by kernel_rfl
end
end Go.AI.T
