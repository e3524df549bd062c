/- The evaluation, part 2. -/
import Derived.Test.YtmknipepkjbgjaaLevelsAllFn
import Derived.KernelRfl
namespace Go.AI.T
open Go Go.RowKit Go.AI
set_option linter.unusedVariables false
set_option linter.unusedSimpArgs false
set_option maxRecDepth 100000
noncomputable section
theorem evLevelsAll_6 : tells (c_laws_FnExactLevelsAll 2097152 20 (.int 3 (.ofNat 6)) H0) = true := by kernel_rfl
theorem evLevelsAll_3 : tells (c_laws_FnExactLevelsAll 2097152 20 (.int 3 (.ofNat 3)) H0) = true := by kernel_rfl
theorem evLevelsAll_0 : tells (c_laws_FnExactLevelsAll 2097152 20 (.int 3 (.ofNat 0)) H0) = true := by kernel_rfl
theorem negLevelsAll (m : Nat) : tells (c_laws_FnExactLevelsAll 2097152 20 (.int 3 (.negSucc m)) H0) = true := by kernel_rfl
theorem bigLevelsAll (m : Nat) : tells (c_laws_FnExactLevelsAll 2097152 20 (.int 3 (.ofNat (m + 9))) H0) = true := by kernel_rfl
end
end Go.AI.T
