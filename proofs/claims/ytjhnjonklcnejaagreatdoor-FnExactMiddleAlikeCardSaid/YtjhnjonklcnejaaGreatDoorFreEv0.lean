/- The evaluation, part 0. -/
import Derived.Test.YtjhnjonklcnejaaGreatDoorFreFn
import Derived.KernelRfl
set_option linter.unusedVariables false
set_option linter.unusedSimpArgs false
set_option maxRecDepth 100000
namespace Go.AI.T
open Go Go.RowKit Go.AI
noncomputable section
theorem e0 : okS ok_Fre 8 0 = true := by kernel_rfl
theorem e1 : okS ok_Fre 8 1 = true := by kernel_rfl
theorem e2 : okS ok_Fre 8 2 = true := by kernel_rfl
theorem e3 : okS ok_Fre 8 3 = true := by kernel_rfl
theorem e4 : okS ok_Fre 8 4 = true := by kernel_rfl
theorem e5 : okS ok_Fre 8 5 = true := by kernel_rfl
theorem e6 : okS ok_Fre 8 6 = true := by kernel_rfl
theorem e7 : okS ok_Fre 8 7 = true := by kernel_rfl
theorem e8 : okS ok_Fre 8 8 = true := by kernel_rfl
theorem e9 : okS ok_Fre 8 9 = true := by kernel_rfl
theorem e10 : okS ok_Fre 8 10 = true := by kernel_rfl
theorem e11 : okS ok_Fre 8 11 = true := by kernel_rfl
theorem e_0 : okL ok_Fre 8 0 12 = true := (cc e0 (cc e1 (cc e2 (cc e3 (cc e4 (cc e5 (cc e6 (cc e7 (cc e8 (cc e9 (cc e10 (cc e11 rfl))))))))))))
end
end Go.AI.T
