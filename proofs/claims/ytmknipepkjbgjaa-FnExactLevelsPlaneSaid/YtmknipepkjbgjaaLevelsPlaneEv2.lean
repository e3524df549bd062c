/- The evaluation, part 2. -/
import Derived.Test.YtmknipepkjbgjaaLevelsPlaneTl
import Derived.KernelRfl
namespace Go.AI.X
open Go Go.RowKit Go.AI
set_option linter.unusedVariables false
set_option linter.unusedSimpArgs false
set_option maxRecDepth 100000
noncomputable section
theorem evLevelsPlane_10 : tells (c_laws_FnExactLevelsPlane 2097152 20 (.int 3 (.ofNat 10)) H0) = true := by kernel_rfl
theorem evLevelsPlane_6 : tells (c_laws_FnExactLevelsPlane 2097152 20 (.int 3 (.ofNat 6)) H0) = true := by kernel_rfl
theorem evLevelsPlane_2 : tells (c_laws_FnExactLevelsPlane 2097152 20 (.int 3 (.ofNat 2)) H0) = true := by kernel_rfl
end
end Go.AI.X
