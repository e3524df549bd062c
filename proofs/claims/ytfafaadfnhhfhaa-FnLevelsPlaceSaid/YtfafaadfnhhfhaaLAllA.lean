/- The lists of all trees. -/
import Derived.Test.YtfafaadfnhhfhaaLAll
import Derived.KernelRfl
namespace Go.AI.L
open Go Go.RowKit Go.AI
set_option linter.unusedVariables false
set_option linter.unusedSimpArgs false
set_option maxRecDepth 100000
noncomputable section
theorem all1 : chk (raw 1) 1 row1 = true := by kernel_rfl
theorem all2 : chk (raw 2) 1 row2 = true := by kernel_rfl
theorem all3 : chk (raw 3) 2 row3 = true := by kernel_rfl
theorem all4 : chk (raw 4) 4 row4 = true := by kernel_rfl
theorem all5 : chk (raw 5) 9 row5 = true := by kernel_rfl
theorem all6 : chk (raw 6) 20 row6 = true := by kernel_rfl
theorem all7 : chk (raw 7) 48 row7 = true := by kernel_rfl
end
end Go.AI.L
