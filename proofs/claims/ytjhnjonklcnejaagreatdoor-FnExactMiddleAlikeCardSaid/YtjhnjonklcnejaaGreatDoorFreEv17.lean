/- The evaluation, part 17. -/
import Derived.Test.YtjhnjonklcnejaaGreatDoorFreFn
import Derived.KernelRfl
set_option linter.unusedVariables false
set_option linter.unusedSimpArgs false
set_option maxRecDepth 100000
namespace Go.AI.T
open Go Go.RowKit Go.AI
noncomputable section
theorem e218 : okS ok_Fre 8 218 = true := by kernel_rfl
theorem e219 : okS ok_Fre 8 219 = true := by kernel_rfl
theorem e220 : okS ok_Fre 8 220 = true := by kernel_rfl
theorem e221 : okS ok_Fre 8 221 = true := by kernel_rfl
theorem e222 : okS ok_Fre 8 222 = true := by kernel_rfl
theorem e223 : okS ok_Fre 8 223 = true := by kernel_rfl
theorem e224 : okS ok_Fre 8 224 = true := by kernel_rfl
theorem e225 : okS ok_Fre 8 225 = true := by kernel_rfl
theorem e226 : okS ok_Fre 8 226 = true := by kernel_rfl
theorem e227 : okS ok_Fre 8 227 = true := by kernel_rfl
theorem e228 : okS ok_Fre 8 228 = true := by kernel_rfl
theorem e229 : okS ok_Fre 8 229 = true := by kernel_rfl
theorem e230 : okS ok_Fre 8 230 = true := by kernel_rfl
theorem e_17 : okL ok_Fre 8 218 13 = true := (cc e218 (cc e219 (cc e220 (cc e221 (cc e222 (cc e223 (cc e224 (cc e225 (cc e226 (cc e227 (cc e228 (cc e229 (cc e230 rfl)))))))))))))
end
end Go.AI.T
