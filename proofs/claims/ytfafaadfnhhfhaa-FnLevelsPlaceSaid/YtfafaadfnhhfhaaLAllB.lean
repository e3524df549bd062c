/- The lists of all trees. -/
import Derived.Test.YtfafaadfnhhfhaaLAll
import Derived.KernelRfl
namespace Go.AI.L
open Go Go.RowKit Go.AI
set_option linter.unusedVariables false
set_option linter.unusedSimpArgs false
set_option maxRecDepth 100000
noncomputable section
theorem all8 : chk (raw 8) 115 row8 = true := by kernel_rfl
end
end Go.AI.L
