/- The evaluation, part 3. -/
import Derived.Test.YtjhnjonklcnejaaGreatDoorFreFn
import Derived.KernelRfl
set_option linter.unusedVariables false
set_option linter.unusedSimpArgs false
set_option maxRecDepth 100000
namespace Go.AI.T
open Go Go.RowKit Go.AI
noncomputable section
theorem e38 : okS ok_Fre 8 38 = true := by kernel_rfl
theorem e39 : okS ok_Fre 8 39 = true := by kernel_rfl
theorem e40 : okS ok_Fre 8 40 = true := by kernel_rfl
theorem e41 : okS ok_Fre 8 41 = true := by kernel_rfl
theorem e42 : okS ok_Fre 8 42 = true := by kernel_rfl
theorem e43 : okS ok_Fre 8 43 = true := by kernel_rfl
theorem e44 : okS ok_Fre 8 44 = true := by kernel_rfl
theorem e45 : okS ok_Fre 8 45 = true := by kernel_rfl
theorem e46 : okS ok_Fre 8 46 = true := by kernel_rfl
theorem e47 : okS ok_Fre 8 47 = true := by kernel_rfl
theorem e48 : okS ok_Fre 8 48 = true := by kernel_rfl
theorem e49 : okS ok_Fre 8 49 = true := by kernel_rfl
theorem e50 : okS ok_Fre 8 50 = true := by kernel_rfl
theorem e_3 : okL ok_Fre 8 38 13 = true := (cc e38 (cc e39 (cc e40 (cc e41 (cc e42 (cc e43 (cc e44 (cc e45 (cc e46 (cc e47 (cc e48 (cc e49 (cc e50 rfl)))))))))))))
end
end Go.AI.T
