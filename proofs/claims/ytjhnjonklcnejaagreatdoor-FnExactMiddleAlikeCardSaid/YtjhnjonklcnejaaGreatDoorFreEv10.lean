/- The evaluation, part 10. -/
import Derived.Test.YtjhnjonklcnejaaGreatDoorFreFn
import Derived.KernelRfl
set_option linter.unusedVariables false
set_option linter.unusedSimpArgs false
set_option maxRecDepth 100000
namespace Go.AI.T
open Go Go.RowKit Go.AI
noncomputable section
theorem e128 : okS ok_Fre 8 128 = true := by kernel_rfl
theorem e129 : okS ok_Fre 8 129 = true := by kernel_rfl
theorem e130 : okS ok_Fre 8 130 = true := by kernel_rfl
theorem e131 : okS ok_Fre 8 131 = true := by kernel_rfl
theorem e132 : okS ok_Fre 8 132 = true := by kernel_rfl
theorem e133 : okS ok_Fre 8 133 = true := by kernel_rfl
theorem e134 : okS ok_Fre 8 134 = true := by kernel_rfl
theorem e135 : okS ok_Fre 8 135 = true := by kernel_rfl
theorem e136 : okS ok_Fre 8 136 = true := by kernel_rfl
theorem e137 : okS ok_Fre 8 137 = true := by kernel_rfl
theorem e138 : okS ok_Fre 8 138 = true := by kernel_rfl
theorem e139 : okS ok_Fre 8 139 = true := by kernel_rfl
theorem e140 : okS ok_Fre 8 140 = true := by kernel_rfl
theorem e_10 : okL ok_Fre 8 128 13 = true := (cc e128 (cc e129 (cc e130 (cc e131 (cc e132 (cc e133 (cc e134 (cc e135 (cc e136 (cc e137 (cc e138 (cc e139 (cc e140 rfl)))))))))))))
end
end Go.AI.T
