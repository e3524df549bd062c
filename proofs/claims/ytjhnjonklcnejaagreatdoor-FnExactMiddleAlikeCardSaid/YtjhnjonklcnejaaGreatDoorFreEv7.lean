/- The evaluation, part 7. -/
import Derived.Test.YtjhnjonklcnejaaGreatDoorFreFn
import Derived.KernelRfl
set_option linter.unusedVariables false
set_option linter.unusedSimpArgs false
set_option maxRecDepth 100000
namespace Go.AI.T
open Go Go.RowKit Go.AI
noncomputable section
theorem e89 : okS ok_Fre 8 89 = true := by kernel_rfl
theorem e90 : okS ok_Fre 8 90 = true := by kernel_rfl
theorem e91 : okS ok_Fre 8 91 = true := by kernel_rfl
theorem e92 : okS ok_Fre 8 92 = true := by kernel_rfl
theorem e93 : okS ok_Fre 8 93 = true := by kernel_rfl
theorem e94 : okS ok_Fre 8 94 = true := by kernel_rfl
theorem e95 : okS ok_Fre 8 95 = true := by kernel_rfl
theorem e96 : okS ok_Fre 8 96 = true := by kernel_rfl
theorem e97 : okS ok_Fre 8 97 = true := by kernel_rfl
theorem e98 : okS ok_Fre 8 98 = true := by kernel_rfl
theorem e99 : okS ok_Fre 8 99 = true := by kernel_rfl
theorem e100 : okS ok_Fre 8 100 = true := by kernel_rfl
theorem e101 : okS ok_Fre 8 101 = true := by kernel_rfl
theorem e_7 : okL ok_Fre 8 89 13 = true := (cc e89 (cc e90 (cc e91 (cc e92 (cc e93 (cc e94 (cc e95 (cc e96 (cc e97 (cc e98 (cc e99 (cc e100 (cc e101 rfl)))))))))))))
end
end Go.AI.T
