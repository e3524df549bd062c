/- Grafting: what is asked of each tree, shown of all trees. -/
import Derived.Test.YtecliakkmgoglaaDoorGrA
import Derived.KernelRfl
set_option linter.unusedVariables false
set_option linter.unusedSimpArgs false
set_option maxRecDepth 100000
namespace Go.AI.T
open Go Go.RowKit Go.AI
noncomputable section
theorem zz1 : okS bothB 60 1 = true := by kernel_rfl
theorem zz5 : okS bothB 60 5 = true := by kernel_rfl
theorem zz9 : okS bothB 60 9 = true := by kernel_rfl
theorem zz13 : okS bothB 60 13 = true := by kernel_rfl
theorem zz17 : okS bothB 60 17 = true := by kernel_rfl
theorem zz21 : okS bothB 60 21 = true := by kernel_rfl
theorem zz25 : okS bothB 60 25 = true := by kernel_rfl
theorem zz29 : okS bothB 60 29 = true := by kernel_rfl
theorem zz33 : okS bothB 60 33 = true := by kernel_rfl
end
end Go.AI.T
