/- The evaluation, part 5. -/
import Derived.Test.YtjhnjonklcnejaaGreatDoorFreFn
import Derived.KernelRfl
set_option linter.unusedVariables false
set_option linter.unusedSimpArgs false
set_option maxRecDepth 100000
namespace Go.AI.T
open Go Go.RowKit Go.AI
noncomputable section
theorem e64 : okS ok_Fre 8 64 = true := by kernel_rfl
theorem e65 : okS ok_Fre 8 65 = true := by kernel_rfl
theorem e66 : okS ok_Fre 8 66 = true := by kernel_rfl
theorem e67 : okS ok_Fre 8 67 = true := by kernel_rfl
theorem e68 : okS ok_Fre 8 68 = true := by kernel_rfl
theorem e69 : okS ok_Fre 8 69 = true := by kernel_rfl
theorem e70 : okS ok_Fre 8 70 = true := by kernel_rfl
theorem e71 : okS ok_Fre 8 71 = true := by kernel_rfl
theorem e72 : okS ok_Fre 8 72 = true := by kernel_rfl
theorem e73 : okS ok_Fre 8 73 = true := by kernel_rfl
theorem e74 : okS ok_Fre 8 74 = true := by kernel_rfl
theorem e75 : okS ok_Fre 8 75 = true := by kernel_rfl
theorem e76 : okS ok_Fre 8 76 = true := by kernel_rfl
theorem e_5 : okL ok_Fre 8 64 13 = true := (cc e64 (cc e65 (cc e66 (cc e67 (cc e68 (cc e69 (cc e70 (cc e71 (cc e72 (cc e73 (cc e74 (cc e75 (cc e76 rfl)))))))))))))
end
end Go.AI.T
