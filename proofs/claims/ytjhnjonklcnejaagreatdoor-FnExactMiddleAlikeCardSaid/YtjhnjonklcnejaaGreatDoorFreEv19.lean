/- The evaluation, part 19. -/
import Derived.Test.YtjhnjonklcnejaaGreatDoorFreFn
import Derived.KernelRfl
set_option linter.unusedVariables false
set_option linter.unusedSimpArgs false
set_option maxRecDepth 100000
namespace Go.AI.T
open Go Go.RowKit Go.AI
noncomputable section
theorem e244 : okS ok_Fre 8 244 = true := by kernel_rfl
theorem e245 : okS ok_Fre 8 245 = true := by kernel_rfl
theorem e246 : okS ok_Fre 8 246 = true := by kernel_rfl
theorem e247 : okS ok_Fre 8 247 = true := by kernel_rfl
theorem e248 : okS ok_Fre 8 248 = true := by kernel_rfl
theorem e249 : okS ok_Fre 8 249 = true := by kernel_rfl
theorem e250 : okS ok_Fre 8 250 = true := by kernel_rfl
theorem e251 : okS ok_Fre 8 251 = true := by kernel_rfl
theorem e252 : okS ok_Fre 8 252 = true := by kernel_rfl
theorem e253 : okS ok_Fre 8 253 = true := by kernel_rfl
theorem e254 : okS ok_Fre 8 254 = true := by kernel_rfl
theorem e255 : okS ok_Fre 8 255 = true := by kernel_rfl
theorem e256 : okS ok_Fre 8 256 = true := by kernel_rfl
theorem e_19 : okL ok_Fre 8 244 13 = true := (cc e244 (cc e245 (cc e246 (cc e247 (cc e248 (cc e249 (cc e250 (cc e251 (cc e252 (cc e253 (cc e254 (cc e255 (cc e256 rfl)))))))))))))
end
end Go.AI.T
