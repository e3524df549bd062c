/- The evaluation, part 2. -/
import Derived.Test.YtjhnjonklcnejaaGreatDoorFreFn
import Derived.KernelRfl
set_option linter.unusedVariables false
set_option linter.unusedSimpArgs false
set_option maxRecDepth 100000
namespace Go.AI.T
open Go Go.RowKit Go.AI
noncomputable section
theorem e25 : okS ok_Fre 8 25 = true := by kernel_rfl
theorem e26 : okS ok_Fre 8 26 = true := by kernel_rfl
theorem e27 : okS ok_Fre 8 27 = true := by kernel_rfl
theorem e28 : okS ok_Fre 8 28 = true := by kernel_rfl
theorem e29 : okS ok_Fre 8 29 = true := by kernel_rfl
theorem e30 : okS ok_Fre 8 30 = true := by kernel_rfl
theorem e31 : okS ok_Fre 8 31 = true := by kernel_rfl
theorem e32 : okS ok_Fre 8 32 = true := by kernel_rfl
theorem e33 : okS ok_Fre 8 33 = true := by kernel_rfl
theorem e34 : okS ok_Fre 8 34 = true := by kernel_rfl
theorem e35 : okS ok_Fre 8 35 = true := by kernel_rfl
theorem e36 : okS ok_Fre 8 36 = true := by kernel_rfl
theorem e37 : okS ok_Fre 8 37 = true := by kernel_rfl
theorem e_2 : okL ok_Fre 8 25 13 = true := (cc e25 (cc e26 (cc e27 (cc e28 (cc e29 (cc e30 (cc e31 (cc e32 (cc e33 (cc e34 (cc e35 (cc e36 (cc e37 rfl)))))))))))))
end
end Go.AI.T
