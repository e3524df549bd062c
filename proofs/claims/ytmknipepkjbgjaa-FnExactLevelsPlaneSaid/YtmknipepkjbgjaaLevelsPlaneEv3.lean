/- The evaluation, part 3. -/
import Derived.Test.YtmknipepkjbgjaaLevelsPlaneTl
import Derived.KernelRfl
namespace Go.AI.X
open Go Go.RowKit Go.AI
set_option linter.unusedVariables false
set_option linter.unusedSimpArgs false
set_option maxRecDepth 100000
noncomputable section
theorem evLevelsPlane_9 : tells (c_laws_FnExactLevelsPlane 2097152 20 (.int 3 (.ofNat 9)) H0) = true := by kernel_rfl
theorem evLevelsPlane_5 : tells (c_laws_FnExactLevelsPlane 2097152 20 (.int 3 (.ofNat 5)) H0) = true := by kernel_rfl
theorem evLevelsPlane_1 : tells (c_laws_FnExactLevelsPlane 2097152 20 (.int 3 (.ofNat 1)) H0) = true := by kernel_rfl
end
end Go.AI.X
