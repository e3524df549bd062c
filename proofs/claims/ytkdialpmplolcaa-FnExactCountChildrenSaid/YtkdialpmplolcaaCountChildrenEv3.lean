/- The evaluation, part 3. -/
import Derived.Test.YtkdialpmplolcaaCountChildrenBad
import Derived.KernelRfl
namespace Go.AI.T
open Go Go.RowKit Go.AI
set_option linter.unusedVariables false
set_option linter.unusedSimpArgs false
set_option maxRecDepth 100000
noncomputable section
theorem evCountChildren_c3 : allR ok_CountChildren 11 1 4 (fun l => 40 :: 40 :: 41 :: 40 :: 41 :: 40 :: 41 :: l) = true := by kernel_rfl
theorem evCountChildren_c11 : allR ok_CountChildren 11 5 6 (fun l => 40 :: 40 :: 41 :: 40 :: 40 :: 40 :: 40 :: l) = true := by kernel_rfl
theorem evCountChildren_c21 : allR ok_CountChildren 11 5 6 (fun l => 40 :: 40 :: 40 :: 41 :: 40 :: 40 :: 40 :: l) = true := by kernel_rfl
theorem evCountChildren_c31 : allR ok_CountChildren 11 5 6 (fun l => 40 :: 40 :: 40 :: 40 :: 40 :: 40 :: 41 :: l) = true := by kernel_rfl
end
end Go.AI.T
