/- Grafting: what is asked of each tree, shown of all trees. -/
import Derived.Test.YtecliakkmgoglaaDoorGrA
import Derived.KernelRfl
set_option linter.unusedVariables false
set_option linter.unusedSimpArgs false
set_option maxRecDepth 100000
namespace Go.AI.T
open Go Go.RowKit Go.AI
noncomputable section
theorem zz3 : okS bothB 60 3 = true := by kernel_rfl
theorem zz7 : okS bothB 60 7 = true := by kernel_rfl
theorem zz11 : okS bothB 60 11 = true := by kernel_rfl
theorem zz15 : okS bothB 60 15 = true := by kernel_rfl
theorem zz19 : okS bothB 60 19 = true := by kernel_rfl
theorem zz23 : okS bothB 60 23 = true := by kernel_rfl
theorem zz27 : okS bothB 60 27 = true := by kernel_rfl
theorem zz31 : okS bothB 60 31 = true := by kernel_rfl
end
end Go.AI.T
