/- The evaluation, part 13. -/
import Derived.Test.YtjhnjonklcnejaaGreatDoorFreFn
import Derived.KernelRfl
set_option linter.unusedVariables false
set_option linter.unusedSimpArgs false
set_option maxRecDepth 100000
namespace Go.AI.T
open Go Go.RowKit Go.AI
noncomputable section
theorem e167 : okS ok_Fre 8 167 = true := by kernel_rfl
theorem e168 : okS ok_Fre 8 168 = true := by kernel_rfl
theorem e169 : okS ok_Fre 8 169 = true := by kernel_rfl
theorem e170 : okS ok_Fre 8 170 = true := by kernel_rfl
theorem e171 : okS ok_Fre 8 171 = true := by kernel_rfl
theorem e172 : okS ok_Fre 8 172 = true := by kernel_rfl
theorem e173 : okS ok_Fre 8 173 = true := by kernel_rfl
theorem e174 : okS ok_Fre 8 174 = true := by kernel_rfl
theorem e175 : okS ok_Fre 8 175 = true := by kernel_rfl
theorem e176 : okS ok_Fre 8 176 = true := by kernel_rfl
theorem e177 : okS ok_Fre 8 177 = true := by kernel_rfl
theorem e178 : okS ok_Fre 8 178 = true := by kernel_rfl
theorem e_13 : okL ok_Fre 8 167 12 = true := (cc e167 (cc e168 (cc e169 (cc e170 (cc e171 (cc e172 (cc e173 (cc e174 (cc e175 (cc e176 (cc e177 (cc e178 rfl))))))))))))
end
end Go.AI.T
