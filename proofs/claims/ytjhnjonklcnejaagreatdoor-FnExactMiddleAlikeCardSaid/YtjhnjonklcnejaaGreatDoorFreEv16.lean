/- The evaluation, part 16. -/
import Derived.Test.YtjhnjonklcnejaaGreatDoorFreFn
import Derived.KernelRfl
set_option linter.unusedVariables false
set_option linter.unusedSimpArgs false
set_option maxRecDepth 100000
namespace Go.AI.T
open Go Go.RowKit Go.AI
noncomputable section
theorem e205 : okS ok_Fre 8 205 = true := by kernel_rfl
theorem e206 : okS ok_Fre 8 206 = true := by kernel_rfl
theorem e207 : okS ok_Fre 8 207 = true := by kernel_rfl
theorem e208 : okS ok_Fre 8 208 = true := by kernel_rfl
theorem e209 : okS ok_Fre 8 209 = true := by kernel_rfl
theorem e210 : okS ok_Fre 8 210 = true := by kernel_rfl
theorem e211 : okS ok_Fre 8 211 = true := by kernel_rfl
theorem e212 : okS ok_Fre 8 212 = true := by kernel_rfl
theorem e213 : okS ok_Fre 8 213 = true := by kernel_rfl
theorem e214 : okS ok_Fre 8 214 = true := by kernel_rfl
theorem e215 : okS ok_Fre 8 215 = true := by kernel_rfl
theorem e216 : okS ok_Fre 8 216 = true := by kernel_rfl
theorem e217 : okS ok_Fre 8 217 = true := by kernel_rfl
theorem e_16 : okL ok_Fre 8 205 13 = true := (cc e205 (cc e206 (cc e207 (cc e208 (cc e209 (cc e210 (cc e211 (cc e212 (cc e213 (cc e214 (cc e215 (cc e216 (cc e217 rfl)))))))))))))
end
end Go.AI.T
