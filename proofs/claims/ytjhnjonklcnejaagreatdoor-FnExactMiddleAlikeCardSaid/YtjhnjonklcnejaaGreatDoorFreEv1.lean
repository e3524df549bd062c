/- The evaluation, part 1. -/
import Derived.Test.YtjhnjonklcnejaaGreatDoorFreFn
import Derived.KernelRfl
set_option linter.unusedVariables false
set_option linter.unusedSimpArgs false
set_option maxRecDepth 100000
namespace Go.AI.T
open Go Go.RowKit Go.AI
noncomputable section
theorem e12 : okS ok_Fre 8 12 = true := by kernel_rfl
theorem e13 : okS ok_Fre 8 13 = true := by kernel_rfl
theorem e14 : okS ok_Fre 8 14 = true := by kernel_rfl
theorem e15 : okS ok_Fre 8 15 = true := by kernel_rfl
theorem e16 : okS ok_Fre 8 16 = true := by kernel_rfl
theorem e17 : okS ok_Fre 8 17 = true := by kernel_rfl
theorem e18 : okS ok_Fre 8 18 = true := by kernel_rfl
theorem e19 : okS ok_Fre 8 19 = true := by kernel_rfl
theorem e20 : okS ok_Fre 8 20 = true := by kernel_rfl
theorem e21 : okS ok_Fre 8 21 = true := by kernel_rfl
theorem e22 : okS ok_Fre 8 22 = true := by kernel_rfl
theorem e23 : okS ok_Fre 8 23 = true := by kernel_rfl
theorem e24 : okS ok_Fre 8 24 = true := by kernel_rfl
theorem e_1 : okL ok_Fre 8 12 13 = true := (cc e12 (cc e13 (cc e14 (cc e15 (cc e16 (cc e17 (cc e18 (cc e19 (cc e20 (cc e21 (cc e22 (cc e23 (cc e24 rfl)))))))))))))
end
end Go.AI.T
