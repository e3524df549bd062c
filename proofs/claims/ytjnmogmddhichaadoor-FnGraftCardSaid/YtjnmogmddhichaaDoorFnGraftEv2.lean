/- The evaluation, part 2. -/
import Derived.Test.YtjnmogmddhichaaDoorFnGraftBad
import Derived.KernelRfl
namespace Go.AI.T
open Go Go.RowKit Go.AI
set_option linter.unusedVariables false
set_option linter.unusedSimpArgs false
set_option maxRecDepth 100000
noncomputable section
theorem ev20 (B : Blk) : okS B [40, 40, 40, 40, 41, 41, 40, 41, 41, 41] = true := by kernel_rfl
theorem ev14 (B : Blk) : okS B [40, 40, 40, 41, 41, 40, 41, 40, 41, 41] = true := by kernel_rfl
theorem ev8 (B : Blk) : okS B [40, 40, 40, 40, 41, 41, 41, 41] = true := by kernel_rfl
theorem ev2 (B : Blk) : okS B [40, 40, 41, 40, 41, 41] = true := by kernel_rfl
end
end Go.AI.T
