/- The evaluation, part 1. -/
import Derived.Test.YtmknipepkjbgjaaLevelsPlaneTl
import Derived.KernelRfl
namespace Go.AI.X
open Go Go.RowKit Go.AI
set_option linter.unusedVariables false
set_option linter.unusedSimpArgs false
set_option maxRecDepth 100000
noncomputable section
theorem evLevelsPlane_11 : tells (c_laws_FnExactLevelsPlane 2097152 20 (.int 3 (.ofNat 11)) H0) = true := by kernel_rfl
theorem evLevelsPlane_7 : tells (c_laws_FnExactLevelsPlane 2097152 20 (.int 3 (.ofNat 7)) H0) = true := by kernel_rfl
theorem evLevelsPlane_3 : tells (c_laws_FnExactLevelsPlane 2097152 20 (.int 3 (.ofNat 3)) H0) = true := by kernel_rfl
end
end Go.AI.X
