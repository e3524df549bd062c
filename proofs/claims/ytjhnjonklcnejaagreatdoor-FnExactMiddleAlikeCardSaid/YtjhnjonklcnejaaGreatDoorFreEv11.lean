/- The evaluation, part 11. -/
import Derived.Test.YtjhnjonklcnejaaGreatDoorFreFn
import Derived.KernelRfl
set_option linter.unusedVariables false
set_option linter.unusedSimpArgs false
set_option maxRecDepth 100000
namespace Go.AI.T
open Go Go.RowKit Go.AI
noncomputable section
theorem e141 : okS ok_Fre 8 141 = true := by kernel_rfl
theorem e142 : okS ok_Fre 8 142 = true := by kernel_rfl
theorem e143 : okS ok_Fre 8 143 = true := by kernel_rfl
theorem e144 : okS ok_Fre 8 144 = true := by kernel_rfl
theorem e145 : okS ok_Fre 8 145 = true := by kernel_rfl
theorem e146 : okS ok_Fre 8 146 = true := by kernel_rfl
theorem e147 : okS ok_Fre 8 147 = true := by kernel_rfl
theorem e148 : okS ok_Fre 8 148 = true := by kernel_rfl
theorem e149 : okS ok_Fre 8 149 = true := by kernel_rfl
theorem e150 : okS ok_Fre 8 150 = true := by kernel_rfl
theorem e151 : okS ok_Fre 8 151 = true := by kernel_rfl
theorem e152 : okS ok_Fre 8 152 = true := by kernel_rfl
theorem e153 : okS ok_Fre 8 153 = true := by kernel_rfl
theorem e_11 : okL ok_Fre 8 141 13 = true := (cc e141 (cc e142 (cc e143 (cc e144 (cc e145 (cc e146 (cc e147 (cc e148 (cc e149 (cc e150 (cc e151 (cc e152 (cc e153 rfl)))))))))))))
end
end Go.AI.T
