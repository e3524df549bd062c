/- The evaluation, part 9. -/
import Derived.Test.YtjhnjonklcnejaaGreatDoorFreFn
import Derived.KernelRfl
set_option linter.unusedVariables false
set_option linter.unusedSimpArgs false
set_option maxRecDepth 100000
namespace Go.AI.T
open Go Go.RowKit Go.AI
noncomputable section
theorem e115 : okS ok_Fre 8 115 = true := by kernel_rfl
theorem e116 : okS ok_Fre 8 116 = true := by kernel_rfl
theorem e117 : okS ok_Fre 8 117 = true := by kernel_rfl
theorem e118 : okS ok_Fre 8 118 = true := by kernel_rfl
theorem e119 : okS ok_Fre 8 119 = true := by kernel_rfl
theorem e120 : okS ok_Fre 8 120 = true := by kernel_rfl
theorem e121 : okS ok_Fre 8 121 = true := by kernel_rfl
theorem e122 : okS ok_Fre 8 122 = true := by kernel_rfl
theorem e123 : okS ok_Fre 8 123 = true := by kernel_rfl
theorem e124 : okS ok_Fre 8 124 = true := by kernel_rfl
theorem e125 : okS ok_Fre 8 125 = true := by kernel_rfl
theorem e126 : okS ok_Fre 8 126 = true := by kernel_rfl
theorem e127 : okS ok_Fre 8 127 = true := by kernel_rfl
theorem e_9 : okL ok_Fre 8 115 13 = true := (cc e115 (cc e116 (cc e117 (cc e118 (cc e119 (cc e120 (cc e121 (cc e122 (cc e123 (cc e124 (cc e125 (cc e126 (cc e127 rfl)))))))))))))
end
end Go.AI.T
