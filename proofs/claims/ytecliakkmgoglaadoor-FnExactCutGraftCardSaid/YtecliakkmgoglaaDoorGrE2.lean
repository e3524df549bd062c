/- Grafting: what is asked of each tree, shown of all trees. -/
import Derived.Test.YtecliakkmgoglaaDoorGrA
import Derived.KernelRfl
set_option linter.unusedVariables false
set_option linter.unusedSimpArgs false
set_option maxRecDepth 100000
namespace Go.AI.T
open Go Go.RowKit Go.AI
noncomputable section
theorem zz2 : okS bothB 60 2 = true := by kernel_rfl
theorem zz6 : okS bothB 60 6 = true := by kernel_rfl
theorem zz10 : okS bothB 60 10 = true := by kernel_rfl
theorem zz14 : okS bothB 60 14 = true := by kernel_rfl
theorem zz18 : okS bothB 60 18 = true := by kernel_rfl
theorem zz22 : okS bothB 60 22 = true := by kernel_rfl
theorem zz26 : okS bothB 60 26 = true := by kernel_rfl
theorem zz30 : okS bothB 60 30 = true := by kernel_rfl
theorem zz34 : okS bothB 60 34 = true := by kernel_rfl
end
end Go.AI.T
