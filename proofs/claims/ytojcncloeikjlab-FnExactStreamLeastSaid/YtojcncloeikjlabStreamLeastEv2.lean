/- The evaluation, part 2. -/
import Derived.Test.YtojcncloeikjlabStreamLeastTl
import Derived.KernelRfl
namespace Go.AI.X
open Go Go.RowKit Go.AI
set_option linter.unusedVariables false
set_option linter.unusedSimpArgs false
set_option maxRecDepth 100000
noncomputable section
theorem evStreamLeast_8 : tells (c_laws_FnExactStreamLeast 2097152 20 (.int 3 (.ofNat 8)) H0) = true := by kernel_rfl
theorem evStreamLeast_4 : tells (c_laws_FnExactStreamLeast 2097152 20 (.int 3 (.ofNat 4)) H0) = true := by kernel_rfl
end
end Go.AI.X
