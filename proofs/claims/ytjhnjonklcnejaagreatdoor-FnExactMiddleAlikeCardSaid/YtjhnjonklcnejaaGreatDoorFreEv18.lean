/- The evaluation, part 18. -/
import Derived.Test.YtjhnjonklcnejaaGreatDoorFreFn
import Derived.KernelRfl
set_option linter.unusedVariables false
set_option linter.unusedSimpArgs false
set_option maxRecDepth 100000
namespace Go.AI.T
open Go Go.RowKit Go.AI
noncomputable section
theorem e231 : okS ok_Fre 8 231 = true := by kernel_rfl
theorem e232 : okS ok_Fre 8 232 = true := by kernel_rfl
theorem e233 : okS ok_Fre 8 233 = true := by kernel_rfl
theorem e234 : okS ok_Fre 8 234 = true := by kernel_rfl
theorem e235 : okS ok_Fre 8 235 = true := by kernel_rfl
theorem e236 : okS ok_Fre 8 236 = true := by kernel_rfl
theorem e237 : okS ok_Fre 8 237 = true := by kernel_rfl
theorem e238 : okS ok_Fre 8 238 = true := by kernel_rfl
theorem e239 : okS ok_Fre 8 239 = true := by kernel_rfl
theorem e240 : okS ok_Fre 8 240 = true := by kernel_rfl
theorem e241 : okS ok_Fre 8 241 = true := by kernel_rfl
theorem e242 : okS ok_Fre 8 242 = true := by kernel_rfl
theorem e243 : okS ok_Fre 8 243 = true := by kernel_rfl
theorem e_18 : okL ok_Fre 8 231 13 = true := (cc e231 (cc e232 (cc e233 (cc e234 (cc e235 (cc e236 (cc e237 (cc e238 (cc e239 (cc e240 (cc e241 (cc e242 (cc e243 rfl)))))))))))))
end
end Go.AI.T
