/- The evaluation, part 4. -/
import Derived.Test.YtjnmogmddhichaaDoorFnGraftBad
import Derived.KernelRfl
namespace Go.AI.T
open Go Go.RowKit Go.AI
set_option linter.unusedVariables false
set_option linter.unusedSimpArgs false
set_option maxRecDepth 100000
noncomputable section
theorem ev18 (B : Blk) : okS B [40, 40, 40, 41, 40, 41, 40, 41, 41, 41] = true := by kernel_rfl
theorem ev12 (B : Blk) : okS B [40, 40, 41, 40, 40, 41, 40, 41, 41, 41] = true := by kernel_rfl
theorem ev6 (B : Blk) : okS B [40, 40, 40, 41, 41, 40, 41, 41] = true := by kernel_rfl
theorem ev0 (B : Blk) : okS B [40, 41] = true := by kernel_rfl
end
end Go.AI.T
