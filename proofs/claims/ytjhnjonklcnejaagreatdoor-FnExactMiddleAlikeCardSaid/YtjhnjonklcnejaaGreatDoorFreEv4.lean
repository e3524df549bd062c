/- The evaluation, part 4. -/
import Derived.Test.YtjhnjonklcnejaaGreatDoorFreFn
import Derived.KernelRfl
set_option linter.unusedVariables false
set_option linter.unusedSimpArgs false
set_option maxRecDepth 100000
namespace Go.AI.T
open Go Go.RowKit Go.AI
noncomputable section
theorem e51 : okS ok_Fre 8 51 = true := by kernel_rfl
theorem e52 : okS ok_Fre 8 52 = true := by kernel_rfl
theorem e53 : okS ok_Fre 8 53 = true := by kernel_rfl
theorem e54 : okS ok_Fre 8 54 = true := by kernel_rfl
theorem e55 : okS ok_Fre 8 55 = true := by kernel_rfl
theorem e56 : okS ok_Fre 8 56 = true := by kernel_rfl
theorem e57 : okS ok_Fre 8 57 = true := by kernel_rfl
theorem e58 : okS ok_Fre 8 58 = true := by kernel_rfl
theorem e59 : okS ok_Fre 8 59 = true := by kernel_rfl
theorem e60 : okS ok_Fre 8 60 = true := by kernel_rfl
theorem e61 : okS ok_Fre 8 61 = true := by kernel_rfl
theorem e62 : okS ok_Fre 8 62 = true := by kernel_rfl
theorem e63 : okS ok_Fre 8 63 = true := by kernel_rfl
theorem e_4 : okL ok_Fre 8 51 13 = true := (cc e51 (cc e52 (cc e53 (cc e54 (cc e55 (cc e56 (cc e57 (cc e58 (cc e59 (cc e60 (cc e61 (cc e62 (cc e63 rfl)))))))))))))
end
end Go.AI.T
