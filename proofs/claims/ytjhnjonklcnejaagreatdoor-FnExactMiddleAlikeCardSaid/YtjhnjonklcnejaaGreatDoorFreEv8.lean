/- The evaluation, part 8. -/
import Derived.Test.YtjhnjonklcnejaaGreatDoorFreFn
import Derived.KernelRfl
set_option linter.unusedVariables false
set_option linter.unusedSimpArgs false
set_option maxRecDepth 100000
namespace Go.AI.T
open Go Go.RowKit Go.AI
noncomputable section
theorem e102 : okS ok_Fre 8 102 = true := by kernel_rfl
theorem e103 : okS ok_Fre 8 103 = true := by kernel_rfl
theorem e104 : okS ok_Fre 8 104 = true := by kernel_rfl
theorem e105 : okS ok_Fre 8 105 = true := by kernel_rfl
theorem e106 : okS ok_Fre 8 106 = true := by kernel_rfl
theorem e107 : okS ok_Fre 8 107 = true := by kernel_rfl
theorem e108 : okS ok_Fre 8 108 = true := by kernel_rfl
theorem e109 : okS ok_Fre 8 109 = true := by kernel_rfl
theorem e110 : okS ok_Fre 8 110 = true := by kernel_rfl
theorem e111 : okS ok_Fre 8 111 = true := by kernel_rfl
theorem e112 : okS ok_Fre 8 112 = true := by kernel_rfl
theorem e113 : okS ok_Fre 8 113 = true := by kernel_rfl
theorem e114 : okS ok_Fre 8 114 = true := by kernel_rfl
theorem e_8 : okL ok_Fre 8 102 13 = true := (cc e102 (cc e103 (cc e104 (cc e105 (cc e106 (cc e107 (cc e108 (cc e109 (cc e110 (cc e111 (cc e112 (cc e113 (cc e114 rfl)))))))))))))
end
end Go.AI.T
