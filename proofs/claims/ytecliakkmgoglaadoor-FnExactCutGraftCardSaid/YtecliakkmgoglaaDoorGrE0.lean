/- Grafting: what is asked of each tree, shown of all trees. -/
import Derived.Test.YtecliakkmgoglaaDoorGrA
import Derived.KernelRfl
set_option linter.unusedVariables false
set_option linter.unusedSimpArgs false
set_option maxRecDepth 100000
namespace Go.AI.T
open Go Go.RowKit Go.AI
noncomputable section
theorem zz0 : okS bothB 60 0 = true := by kernel_rfl
theorem zz4 : okS bothB 60 4 = true := by kernel_rfl
theorem zz8 : okS bothB 60 8 = true := by kernel_rfl
theorem zz12 : okS bothB 60 12 = true := by kernel_rfl
theorem zz16 : okS bothB 60 16 = true := by kernel_rfl
theorem zz20 : okS bothB 60 20 = true := by kernel_rfl
theorem zz24 : okS bothB 60 24 = true := by kernel_rfl
theorem zz28 : okS bothB 60 28 = true := by kernel_rfl
theorem zz32 : okS bothB 60 32 = true := by kernel_rfl
end
end Go.AI.T
