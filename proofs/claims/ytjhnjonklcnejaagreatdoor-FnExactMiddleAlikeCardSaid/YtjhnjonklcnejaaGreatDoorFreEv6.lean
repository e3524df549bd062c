/- The evaluation, part 6. -/
import Derived.Test.YtjhnjonklcnejaaGreatDoorFreFn
import Derived.KernelRfl
set_option linter.unusedVariables false
set_option linter.unusedSimpArgs false
set_option maxRecDepth 100000
namespace Go.AI.T
open Go Go.RowKit Go.AI
noncomputable section
theorem e77 : okS ok_Fre 8 77 = true := by kernel_rfl
theorem e78 : okS ok_Fre 8 78 = true := by kernel_rfl
theorem e79 : okS ok_Fre 8 79 = true := by kernel_rfl
theorem e80 : okS ok_Fre 8 80 = true := by kernel_rfl
theorem e81 : okS ok_Fre 8 81 = true := by kernel_rfl
theorem e82 : okS ok_Fre 8 82 = true := by kernel_rfl
theorem e83 : okS ok_Fre 8 83 = true := by kernel_rfl
theorem e84 : okS ok_Fre 8 84 = true := by kernel_rfl
theorem e85 : okS ok_Fre 8 85 = true := by kernel_rfl
theorem e86 : okS ok_Fre 8 86 = true := by kernel_rfl
theorem e87 : okS ok_Fre 8 87 = true := by kernel_rfl
theorem e88 : okS ok_Fre 8 88 = true := by kernel_rfl
theorem e_6 : okL ok_Fre 8 77 12 = true := (cc e77 (cc e78 (cc e79 (cc e80 (cc e81 (cc e82 (cc e83 (cc e84 (cc e85 (cc e86 (cc e87 (cc e88 rfl))))))))))))
end
end Go.AI.T
